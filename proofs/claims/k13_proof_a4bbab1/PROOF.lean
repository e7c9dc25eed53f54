import PyProof.Rows.All
import KE.KIsAll
import KE.KMinBuiltin
import KE.KSortTup
import PySem.Challenge.RW_downrings_k13_last_and_cost
set_option Elab.async false
set_option linter.all false
set_option maxRecDepth 100000
set_option maxHeartbeats 4000000
local macro_rules|`(abbrev $n:declId $s:optDeclSig $v:declVal)=>`(noncomputable def $n $s:optDeclSig $v:declVal)
open List renaming length_map → Za, length → Zb, getElem?_eq_some_iff → Zc, mem_cons_of_mem → Zf, mem_cons_self → Zg, mem_of_getElem? → Zh, range → Zj, mem_cons → Zk, size_toArray → Zl, getElem?_map → Zm, replicate → Zp, length_append → Zr, getElem?_append_right → Zs, length_take → Zt, map_cons → Zv, getElem?_append_left → Zw, getElem_mem → Zy, mem_append_right → Zz, map_append → ZA, getElem?_eq_none → ZC, length_cons → ZE, mem_append → ZG, mem_map → ZH, getElem?_set_self → ZI, all_eq_true → ZJ, length_range → ZK, take_succ_eq_append_getElem → ZL, getElem?_set_ne → ZN, mem_singleton → ZO, lookup_cons → ZP, length_singleton → ZR, take_of_length_le → ZT, append_nil → ZU, length_drop → ZW, map_map → ZX, contains_cons → ZZ, mem_filter → Z0, mem_flatMap → Z2, getElem?_of_mem → Z4, mem_of_mem_take → Z5, mem_range → Z6, replicate_succ → Z7, drop → Z8, prefix_refl → Z9, all_cons → Yb, map_nil → Yc, append_assoc → Yd, length_eq_zero_iff → Ye, nodup_cons → Yg, length_set → Yh, not_mem_nil → Yj, getD_eq_getElem?_getD → Yk, pairwise_cons → Yl, getElem?_eq_none_iff → Ym, mem_append_left → Yn, flatten_cons → Yo, map_take → Yp, getElem?_replicate → Yq, getElem?_cons_succ → Yr, take_length → Ys, mem_filterMap → Yv, prefix_append → Yw, all_map → Yy, any_cons → Yz, getElem?_set → YB, any_eq_true → YD, getElem?_range → YF, getElem?_take_of_lt → YG, eraseIdx_cons_succ → YH, exists_of_findSome?_eq_some → YI, length_replicate → YJ, getElem_inj → YK, countP_cons → YL, filter_cons → YM, of_mem_zip → YN, length_nil → YO, filterMap_cons → YQ, map_congr_left → YR, forIn_nil → YS, length_eraseIdx_of_lt → YT, length_zipIdx → YU, findSome?_eq_none_iff → YV, mem_or_eq_of_mem_set → YW, map_inj_left → YZ, flatMap_cons → Y0, set_comm → Y2, toArray → Y7, range_succ → Y8, take_append_drop → Xc, contains_iff_mem → Xd, length_filter_le → Xe, lookup → Xh, mem_iff_getElem → Xi, getLast?_append → Xk, mem_of_mem_drop → Xl, toList_toArray → Xm, flatMap_append → Xn, replicate_zero → Xo, length_pos_iff → Xq, findSome?_cons → Xr, take_nil → Xu, map_drop → Xw, find?_eq_none → Xz, getElem_range → XB, take_sublist → XD, nodup_append → XF, any_map → XG, flatten_nil → XU, foldl_cons → XX, nil_append → XY, forIn_cons → XZ, countP_map → X1, find?_cons → X4, foldl → X6, nodup_nil → X7, take_add → Wb, drop_nil → Wc, map_set → Wg, sum → Wj
open Bool renaming false_ne_true → Zd, false_eq_true → ZY, eq_iff_iff → Z3, and_comm → Y1, or_eq_true → Y9, false_and → Xf, and_eq_true_iff → Xj, true_and → Xs, and_self → Xv, eq_false_iff → XJ, or_false → X9, and_true → Wa
open Nat renaming le_refl → Ze, lt_of_lt_of_le → Zu, ne_of_lt → Zx, le_trans → ZF, lt_irrefl → ZM, not_lt_zero → Yi, le_succ → Yu, sub_self → Yx, le_of_succ_le → YX, lt_succ_of_lt → YY, lt_succ_self → Y4, le_of_lt → Y6, min_eq_left → Xa, ne_of_gt → XC, succ_le_succ → XN, succ_ne_self → XQ, le_max_right → XR, min_eq_right → XV, zero_le → XW, le_max_left → X0, mul_le_mul → X8, succ_mul → Wd, zero_add → We, log2_lt → Wi
open PySem.Heap renaming get?_push_of_some → Zi, lt_size → Zo, get?_push_size → ZB, get?_update_other → Z1, get?_update_self → YA, size_push → YC, size_update → Y3, get?_update_ne → Xp, get?_push_ne → XH
open Int renaming toNat_natCast → Zn, le_refl → ZS, zero_add → YE, emod_lt_of_pos → Xy, emod_nonneg → X2, le_antisymm → X3, le_trans → Wf
open Option renaming map_some → Zq, getD_some → ZQ, isSome_iff_exists → ZV, bind_some → Yt, map_eq_some_iff → Y5, any_some → Xb, getD_none → XM, map → X5, bind → Wh
open Array renaming length_toList → ZD, mem_toList_iff → Xg, append_assoc → Xx
open PyProof.Rows renaming boot_enumerate → Wk, boot_int → Wl, boot_isinstance → Wm, boot_list → Wn, boot_max → Wo, boot_sorted → Wp, boot_tuple → Wq, callWith_type1 → Wr, slot_tuple_getitem → Ws
open PySem.Calls renaming Name_function_global → Wt, evalArgs_plain → Wu
open PySem renaming Comprehension → Wv, FuncData → WN, GenState → WO, NameKind → WQ, Operator → WR, Spec → W5, assignEach → Vu, assignInOrder → Vv, backToKw → Vw, behindInMarks → Vx, binaryOp → Vy, bindName → Vz, bootBuiltins → VA, builtinsNs → VB, call_meets → VC, cellsFrom → VE, codeAny_builtin → VF, codeAny_call_builtin → VG, codeAny_call_function → VH, codeAny_mono → VI, compareOp → VJ, concat_meets → VL, excClassObj → VM, foldedSetIterable → VN, importedModules → VO, intItems → VP, intItems_at → VQ, keywordEach → VR, letOwnedTupleGo → VS, lookupAlong → VT, mainGlobals → VU, mem_of_lookup → VW, newFunctionEnv → VX, noFill_tuple_add → VY, not_mem_of_deeper → VZ, noteFrame → V0, numAt_eq → V1, nums_intItems → V2, plainId_quiet → V3, pushCells → V4, pushCells_keeps → V5, seqIndex_neg → V6, seqIndex_of → V7, seqItems? → V8, seq_tuple_add → V9, sizeLine_eq → Ua, sliceBounds → Ub, starEach → Uc, strLen_append → Ud, swappedStores → Ue, swapsWith → Uf, swapsWithSole → Ug, sysModules → Uh, textFrom → Ui, treeTable → Uj, typeLookup → Uk, wpAny_Call_Name_kw → Ul, wpAny_Return_some → Um, wpAny_bind → Uo, wpAny_bindName → Up, wpAny_call_entry → Uq, wpAny_comprehension_free → Ur, wpAny_eqBool_int → Us, wpAny_execs_cons → Ut, wpAny_execs_nil → Uu, wpAny_field → Uv, wpAny_holding → Uw, wpAny_isSubtype_exc → Ux, wpAny_letGo → Uy, wpAny_letOwnedTupleGo_enum → Uz, wpAny_loadPart' → UA, wpAny_loadPart_at → UB, wpAny_mono → UC, wpAny_newFunctionEnv_cells → UD, wpAny_newObj_type → UE, wpAny_of_eq → UF, wpAny_passesOwn → UG, wpAny_pure → UH, wpAny_pyIter_enum → UI, wpAny_pyIter_list → UJ, wpAny_pyIter_tuple → UK, wpAny_pyNext_enum_endD → UL, wpAny_pyNext_enum_itemD → UM, wpAny_rule → UN, wpAny_seqItems → UO, wpAny_standAt → UP, wpAny_truthy_bool → UQ, wpAny_tryCatch → UR, wpAny_typeOf → US, wpAny_updateSeq → UT
open PySem.F renaming args_tuple_add_2 → Ww, args_tuple_iterator_next_1 → Wx, entry_max_loop → Wy, entry_tuple_add → Wz, entry_tuple_iterator_next → WA, plainAttrs_list → WB, plain_max_loop → WC, slot_list_append → WD, slot_list_count → WE, slot_list_index → WF, slot_list_insert → WG, slot_list_ne_refl → WH, slot_list_pop → WI, slot_tuple_add → WJ, slot_tuple_count → WK, slot_tuple_iterator_next → WL, typeOf_object_class → WM
open PySem.PyData renaming depth → WT, depthAll → WU, depthKv → WV, shown → WW, shownAll → WX
open PySem.SeqAt renaming EqAt → WY, RcAt → WZ, RcNeAt → W0, in_listAt → W1, in_tupleAt → W2, notIn_listAt → W3, notIn_tupleAt → W4
open PySem.W renaming Frag → W6, callWith_K → W7, cellsFrom_some → W8, clsIn → W9, codeIn → Va, codeRec_of → Vb, findIn → Vc, fnOf → Ve, hideAll_get → Vf, instObj → Vg, kas_sort → Vh, keepIn → Vi, kia_one → Vj, kitCls → Vk, kitOne → Vl, kitx_dict → Vm, kitx_list → Vn, lookIn → Vo, methodObj → Vp, mroIn → Vq, of_hideAll → Vr, plainGet → Vs, subIn → Vt
set_option hygiene false
local macro_rules
|`(tactic|show 1)=>`(tactic|obtain⟨m,ρ,S,d,S',E,R,e,q⟩:=h)
|`(tactic|show 2)=>`(tactic|(simp[eqD] at h;subst h))
|`(tactic|show 3)=>`(tactic|intro pins s σ H x y v u Q I rx ry h)
|`(tactic|show 4)=>`(tactic|(intro X hP hw hK hc i pins s σ H E I hf st hg;subst hP hw hK))
|`(tactic|show 5)=>`(tactic|(rename_i h;exact⟨λz=>z.elim,λz=>(h z.1).elim⟩))
|`(tactic|show 6)=>`(tactic|exact⟨rfl,Sm.refl _⟩)
|`(tactic|show 7)=>`(tactic|(rename_i h;exact⟨λz=>⟨h,z⟩,λz=>z.2⟩))
|`(tactic|show 8)=>`(tactic|intro pins s σ H xs us Q I r h)
|`(tactic|show 9)=>`(tactic|(have hT2:h2.get? s.heap.objs.size=some { cls:=.type "tuple", data:=.seq #[.int i tk,y] }:=(hs2.2 _ (XC helt)).trans hT;have fresh:=I.hok.fresh (Ze s.heap.objs.size);refine⟨.ref s.heap.objs.size,upd H s.heap.objs.size (.tup [.int i,x]),?_,rfl,⟨_,fresh,rfl,λys v hy hv=>?_⟩,⟨⟨y,by simpa using he2⟩,hs'.1.at λo eo=>(hs2.2 it (Ne.symm hei)).trans eo⟩,λb hb=>?_⟩))
|`(tactic|show 10)=>`(tactic|simp only[eqD] at h)
set_option hygiene true

namespace Cut
open PySem PySem.W
abbrev qV(tb:String->Option Builtin)(p:Program)(w:World)(n₀:Nat)(ann:Option Value):Nat->Shared->Thread->Option (Shared × Thread)
 |0,s,t=>some (s,t)
 |n+1,s,t=>match through t with
  |true=>none
  |false=>match stepOk n₀ ann t with
   |false=>none
   |true=>match step (denote tb) p w s t with
    |.go s' t'=>qV tb p w n₀ ann n s' t'
    |.halt _ _=>none
theorem zm{tb:String->Option Builtin}{p:Program}{w:World}{n₀:Nat}{ann:Option Value}{m:Nat}:∀ {n:Nat} {s s':Shared} {t t':Thread},qV tb p w n₀ ann n s t=some (s',t')->topRun tb p w n₀ ann (m+n) s t=topRun tb p w n₀ ann m s' t'
 |0,s,s',t,t',h=>by cases h;rfl
 |n+1,s,s',t,t',h=>by
  rw[<-Nat.add_assoc];unfold qV at h
  conv=>lhs;unfold topRun
  cases e1:through t with
  |true=>rw[e1] at h;cases h
  |false=>
   rw[e1] at h;dsimp only at h ⊢;cases e2:stepOk n₀ ann t with
   |false=>rw[e2] at h;cases h
   |true=>
    rw[e2] at h;dsimp only at h ⊢;cases e3:step (denote tb) p w s t with
    |halt o s1=>rw[e3] at h;cases h
    |go s1 t1=>
     rw[e3] at h;exact zm h
section
variable (p:Program) (w:World)
abbrev s0:Shared:=(fencedOpening Uj p w 20000).getD {}
abbrev n0:Nat:=(s0 p w).heap.objs.size
abbrev an:Option Value:=(s0 p w).heap.nsMap VU "__annotations__"
abbrev st(n:Nat):Shared × Thread:=(qV Uj p w (n0 p w) (an p w) n (s0 p w) (topStub p)).getD (s0 p w,topStub p)
abbrev ent(n:String)(t:Nat)(v:Value):DictEntry:=⟨reduceHash (w.params.strHash (Str.ofString n).cps),.str (Str.ofString n) t,v⟩
abbrev nm:List String:=["NoMeadow", "NoSky", "NoLandings", "NoOrder", "NoLot", "NoText", "NoName", "NoGlider", "NoMinute", "NoAim", "TooMany", "Bound", "NoDeed", "NoRow"]
abbrev cls(x:String × Nat):List Obj:=
 let n:=Str.ofString x.1;let b:=28+12 * x.2;let t:=207+16 * x.2;let l:Int:=4+2 * x.2
 let m:=Value.str (Str.ofString "downrings.errors") 187
 let f:=λt=>Value.str p.main.file t
 [⟨.type "tuple", none,.seq #[.ref 24] 0,#[]⟩,
   ⟨.type "builtin_function_or_method", none,.fields #[.builtin "type.__prepare__", .type "type"],#[]⟩,
   ⟨.type "dict", none,.dict #[ent w "__module__" (t+7) m,ent w "__qualname__" (t+9) (.str n (t+8)),ent w "__firstlineno__" (t+11) (.int l (t+10)),ent w "__static_attributes__" (t+12) (.ref (b+7))] 4,#[]⟩,
   ⟨.type "tuple", none,.seq #[] 0,#[]⟩,
   ⟨.none,none,.fields #[],#[]⟩,
   ⟨.type "code", none,.fields #[.str n (t+2),.str n (t+3),f (t+4),.int l 0,.int 0 0,.int 0 0,.int 0 0,.int 0 0,.ref (b+3),.bool false,.int 181 0,.ref (b+4),.none,.none,.none,.none,.int (t+5:Nat) 0,.int l 0,f (t+6)],#[]⟩,
   ⟨.type "frame", none,.plain,#[some (.ref (b+5)),some (.ref 3),some (.ref (b+2)),none,some m,none,some (.ref 0)]⟩,
   ⟨.type "tuple", none,.seq #[] 0,#[]⟩,
   ⟨.type "dict", none,.dict #[ent w "__module__" (t+7) m,ent w "__firstlineno__" (t+11) (.int l (t+10)),ent w "__static_attributes__" (t+12) (.ref (b+7)),ent w "__doc__" (t+13) .none] 2,#[]⟩,
   ⟨.type "type", none,.cls { name:=n,bases:=[.ref 24],mro:=[.ref (b+9),.ref 24,.type "ValueError", .type "Exception", .type "BaseException", .type "object"],ns:=b+8,qualname:=n },#[some (.ref b),none,some (.str n t),some (.str n (t+8)),some (.builtin "ValueError.__new__"),some (.bool true)]⟩,
   ⟨.type "super", none,.fields #[.ref (b+9),.ref (b+9),.ref (b+9)],#[]⟩,
   ⟨.type "builtin_function_or_method", none,.fields #[.builtin "object.__init_subclass__", .ref (b+9)],#[]⟩]
abbrev Qy(o:Obj):Obj:=match o with
 |⟨c,d,.dict es n,s⟩=>⟨c,d,.dict (es++(nm.zipIdx.map λx=>ent w x.1 (222+16 * x.2) (.ref (37+12 * x.2))).toArray) (n+14),s⟩
 |o=>o
abbrev Nc(o:Obj):Obj:=match o with
 |⟨c,d,.fields vs,s⟩=>⟨c,d,.fields (vs++(nm.zipIdx.flatMap λx=>[Value.int (4+2 * x.2:Nat) 0,.int 0 0,.ref (33+12 * x.2)]).toArray),s⟩
 |o=>o
abbrev Nf(o:Obj):Obj:=match o with
 |⟨c,d,.cls k,s⟩=>⟨c,d,.cls { k with subclasses:=nm.zipIdx.map λx=>.ref (37+12 * x.2) },s⟩
 |o=>o
abbrev mid:Shared:=match (st p w 208).1 with
 |⟨⟨os,l⟩,g,d,_,o⟩=>⟨⟨((((os.toList.modify 3 (Qy w)).modify 12 Nc).modify 24 Nf)++(nm.zipIdx.flatMap (cls p w))).toArray,l⟩,g,d,431,o⟩
abbrev Ni:Thread:=match (st p w 208).2 with
 |⟨_,.body ss env,_,k⟩=>⟨do return .done (<-(execs (ss.drop 16) env).onRaise (leaving env)),.body ss env,⟨30,0,31,8⟩,k⟩
 |t=>t
abbrev Io(s:Shared)(o:Option Shared):Option Shared:=bif s.gens.size == 0 && s.heap.isNs VU then (o.bind λu=>bif laidKept s.heap u.heap && (gensDone u && (namesBound p u.heap && staticsOk (VO p.main.body) s.heap u.heap)) then some u else none) else none
end
theorem Nj{tb:String->Option Builtin}{p:Program}{w:World}{N:Nat}{s:Shared}:topFrom tb p w N s=Io p s (topRun tb p w s.heap.objs.size (s.heap.nsMap VU "__annotations__") N s (topStub p)):=by
 unfold topFrom Io;rw[Y1];cases s.gens.size == 0 && s.heap.isNs VU with
 |false=>rfl
 |true=>
  show Wh _ _=Wh _ _
  congr 1
  funext u
  rw[Y1,Y1 (_ && _) (gensDone u),Y1 _ (namesBound p u.heap)];cases laidKept s.heap u.heap && (gensDone u && (namesBound p u.heap && staticsOk (VO p.main.body) s.heap u.heap)) <;> rfl
@[inline]abbrev PartA(p:Program):Prop:=∀w,qV Uj p w (n0 p w) (an p w) 3189 (s0 p w) (topStub p)=some (mid p w,Ni p w)
abbrev fin(p:Program)(w:World):Option Shared:=Io p (s0 p w) (topRun Uj p w (n0 p w) (an p w) 16811 (mid p w) (Ni p w))
@[inline]abbrev PartB(p q:Program)(loose:List Str)(Xt:Shared->Bool):Prop:=∀w,(fin p w).map (openSeen q loose (VO p.main.body) Xt true)=some (openGood q loose)
@[inline]abbrev PartC(p:Program){α:Type}(Yf:Shared->α)(Ya:World->α):Prop:=∀w,(fin p w).map Yf=some (Ya w)
theorem two{p:Program}{α β γ:Type}{f:Shared->α}{g:Shared->β}{a:World->α}{b:World->β}(k:α->β->γ)(h:PartC p f a)(i:PartC p g b):PartC p (λs=>k (f s) (g s)) (λw=>k (a w) (b w)):=λw=>by
 obtain⟨u,hu,e1⟩:=Y5.mp (h w);have e2:=i w;rw[hu] at e2 ⊢;have e2:=Option.some.inj e2;show some (k (f u) (g u))=_;rw[e1,e2]
theorem left_cut{p q:Program}{loose:List Str}{Xt:Shared->Bool}{α:Type}{Yf:Shared->α}{Ya:World->α}(h0:∀w,(fencedOpening Uj p w 20000).isSome=true)(hA:PartA p)(hB:PartB p q loose Xt)(hC:PartC p Yf Ya):LeftO p q loose Xt Yf Ya 20000:=λw=>by
 obtain⟨s,hs⟩:=ZV.mp (h0 w);have e0:s0 p w=s:=by unfold s0;rw[hs];rfl
 obtain⟨u,hu,e1⟩:=Y5.mp (hB w);have e2:=hC w;rw[hu] at e2;have e2:Yf u=Ya w:=Option.some.inj e2;have a:=zm (m:=16811) (hA w);unfold fin at hu;unfold n0 an at a hu;rw[<-a,e0] at hu;unfold openEnds;rw[hs];show X5 _ (topFrom Uj p w 20000 s)=_;rw[Nj];refine(congrArg _ hu).trans ?_;show some (openSeen q loose (VO p.main.body) Xt true u,Yf u)=_;rw[e1,e2]
end Cut
theorem gEG{α:Type _}{l:List α}{i:Nat}(h:i < l.length):l[i]?=some l[i]:=List.getElem?_eq_getElem h
theorem bAE(a b:Bool):((a && b)=true)=(a=true/\b=true):=Bool.and_eq_true a b
namespace L2
open PySem PySem.Spec PyProof.Rows
abbrev dm(s:Stmt):Arguments:=match s with
 |.FunctionDef _ a _ _ _ _ _ _ _ _=>a
 |_=>{ posonlyargs:=[],args:=[],vararg:=none,kwonlyargs:=[],kw_defaults:=[],kwarg:=none,defaults:=[] }
abbrev ba(s:Stmt):List Stmt:=match s with
 |.FunctionDef _ _ b _ _ _ _ _ _ _=>b
 |_=>[]
abbrev au(s:Stmt):Scope:=match s with
 |.FunctionDef _ _ _ _ _ _ sc _ _ _=>sc
 |_=>{ kind:=.function,names:=[],isGenerator:=false,isCoroutine:=false }
end L2
namespace Ev
open PySem PySem.Spec PyProof.Rows L2
abbrev fF:List Str:=["len", "isinstance", "all", "any", "tuple", "list", "max", "min", "repr", "range", "enumerate", "int", "bool", "str", "sorted", "zip", "sum"]
abbrev bmV:List Value:=[.type "ValueError", .type "Exception", .type "BaseException", .type "object"]
abbrev quN:List Str:=["__init__", "__getattribute__", "__getattr__", "__class__"]
abbrev dZ:List Str:=["NoMeadow", "NoSky", "NoLandings", "NoOrder", "NoLot", "NoText", "NoName", "NoGlider", "NoMinute", "NoAim", "TooMany", "Bound", "NoDeed", "NoRow", "NoWay"]
@[inline]abbrev qW:=(Str × Str) × (Arguments × List Stmt) × (Scope × Addr) × (List (Str × Addr) × Value) × (Addr × Option Str)
abbrev Hc(h:Heap):Value->Option Str
 | .ref c=>(match h.get? c with
  |some ⟨_,_,.fields vs,_⟩=>(match vs.toList with |_ :: .str n _::_=>some n |_=>none)
  | _=>none)
 |_=>none
abbrev Nk(h:Heap):Option Obj->Option qW
 |some ⟨_,_,.func ⟨nm,qn,ps,.stmts b,sc,gl,cl,dv,_,_,_,_,cd,_,bi⟩,_⟩=>some ((nm,qn),(ps,b),(sc,gl),(cl,dv),(bi,Hc h cd))
 |_=>none
abbrev tN(h:Heap)(x:Str):Option qW:=match h.nsMap VU x with
 |some (.ref f)=>Nk h (h.get? f)
 |_=>none
abbrev Dn(h:Heap)(x:Str):Option Int:=match h.nsMap VU x with
 |some (.int v _)=>some v
 |_=>none
abbrev adX(h:Heap)(x:Str):Addr:=match h.nsMap VU x with
 |some (.ref C)=>C
 |_=>0
abbrev Dp(h:Heap)(bm:List Value)(x:Str):Bool:=match h.nsMap VU x with
 | some (.ref C)=>(match h.get? C with
  | some ⟨.type "type", _,.cls cd,sl⟩=>(match cd.mro,sl.toList with
   |.ref C'::bm',[_,_,_,_,some (.builtin n),_]=>C' == C && bm' == bm && n == "ValueError.__new__" && !cd.hasDel && h.isNs cd.ns && quN.all λq=>(h.nsMap cd.ns q).isNone
   | _,_=>false)
  | _=>false)
 |_=>false
abbrev Ip(h:Heap)(x:Str):Bool:=match h.nsMap VU x with
 | some (.ref C)=>(match h.get? C with
  |some ⟨.type "type", _,.cls _,_⟩=>true
  | _=>false)
 |_=>false
abbrev Iq:List Nat->Bool
 |[]=>true
 |a::l=>!(l.contains a) && Iq l
abbrev zn(h:Heap):Bool:=Dp h bmV "RingError" && (dZ.take 14).all (Dp h (.ref (adX h "RingError")::bmV)) && dZ.all (Ip h) && Iq (adX h "RingError" :: dZ.map (adX h)) && (h.nsMap VU "ValueError").isNone
end Ev
namespace Lw
open PySem
abbrev con:List (Str × Int):=[("LAST_MINUTE", 9999),("MOST_RINGS", 8),("MOST_SINK", 60),("MOST_KINDS", 4),("MOST_GAP", 99),("MOST_SHUTS", 4),("MOST_GLIDERS", 7),("MOST_WEIGHT", 99),("MOST_LANDINGS", 20)]
def nx:List (String × Nat):=[("is_whole", 19),("is_within", 20),("is_minute", 21),("is_tuple", 22),("are_unlike", 23),("is_meadow", 30),("are_gaps", 31),("is_gap_row", 32),("no_glider_between_helps", 33),("are_shuts", 34),("is_stretch", 35),("is_kind", 36),("is_shut", 37),("is_sky", 41),("is_ahead", 42),("are_gliders", 43),("is_glider", 44),("are_fixed", 45),("check_sky", 46),("last_of", 49),("cost_of", 50),("cost_together", 51),("glider_cost", 52),("check_keeps", 53),("keeps_sky", 54),("are_pairs", 55),("is_pair", 56),("first_amiss", 57),("landing_amiss", 58),("minute_amiss", 59),("landing_ahead", 60),("gap_end", 61),("first_lacking", 62),("waits_at", 63),("how_many_wait", 64),("joining_minutes", 65),("first_crowded", 66),("first_too_high", 67),("is_too_high", 68),("ring_needed", 69),("_law_cell_at", 71),("_law_pot", 72),("_law_take", 73),("_law_gaps", 74),("_law_shuts", 75),("_law_meadow", 76),("_law_glider", 77),("_law_mixed", 78),("_law_sky", 79),("_law_order", 80),("_law_open", 81),("_law_run", 82),("_law_waits", 83),("_law_need", 84),("_law_one_amiss", 85),("_law_amiss", 86),("_law_cost", 87),("_law_landing", 88),("_law_turned", 89),("_law_odd", 90),("_law_word", 91),("_law_told", 92),("law", 93)]
abbrev top(i:Nat):Stmt:=PySem.Challenge.pw_downrings_k13_last_and_cost.main.body.getD i (.Pass ⟨0,0,0,0⟩)
end Lw
section
open PySem PySem.W PyProof.Rows
noncomputable abbrev Lw.view:Program:={ PySem.Challenge.pw_downrings_k13_last_and_cost with main:={ PySem.Challenge.pw_downrings_k13_last_and_cost.main with body:=[Lw.top 93] } }
noncomputable abbrev Lw.loose:List PySem.Str:=(Lw.nx.take 62).map (λx=>.ofString x.1)++Lw.con.map (·.1)++("RingError" : PySem.Str)::Ev.dZ
set_option maxHeartbeats 0 in
theorem Lw.said:PySem.Challenge.rw_downrings_k13_last_and_cost.wellSaid=true:=by kernel_rfl
set_option maxHeartbeats 0 in
theorem Lw.opn:∀w,(fencedOpening Uj PySem.Challenge.rw_downrings_k13_last_and_cost.row.toRowW.prog w 20000).isSome=true:=λw=>by kernel_rfl
set_option maxHeartbeats 0 in
theorem Lw.partA:Cut.PartA PySem.Challenge.rw_downrings_k13_last_and_cost.row.toRowW.prog:=λw=>by kernel_rfl
set_option maxHeartbeats 0 in
theorem Lw.partB:Cut.PartB PySem.Challenge.rw_downrings_k13_last_and_cost.row.toRowW.prog Lw.view Lw.loose (λs=>xlAt Lw.view [] s && recOk (RowW.records PySem.Challenge.rw_downrings_k13_last_and_cost.row.toRowW) s):=λw=>by kernel_rfl
end
namespace Lw
open PySem
abbrev ob(l:List (String × Nat))(s:Shared):=l.map λx=>Ev.tN s.heap (.ofString x.1)
abbrev vb(l:List (String × Nat)):List (Option Ev.qW):=l.map λx=>let n:=Str.ofString x.1;some ((n,n),(L2.dm (top x.2),L2.ba (top x.2)),(L2.au (top x.2),VU),([],.none),(VB,some n))
set_option maxHeartbeats 0 in
theorem Ir:Cut.PartC PySem.Challenge.rw_downrings_k13_last_and_cost.row.toRowW.prog (ob (nx.take 42)) (λ_=>vb (nx.take 42)):=λw=>by kernel_rfl
set_option maxHeartbeats 0 in
theorem Iu:Cut.PartC PySem.Challenge.rw_downrings_k13_last_and_cost.row.toRowW.prog (λs=>(s.heap.isNs VU,ob (nx.drop 42) s,con.map (λc=>Ev.Dn s.heap c.1),(Ev.fF.map λx=>(s.heap.nsMap VU x).isNone),Ev.zn s.heap)) (λ_=>(true,vb (nx.drop 42),con.map (λc=>some c.2),(Ev.fF.map λ_=>true),true)):=λw=>by kernel_rfl
end Lw
namespace L2
open PySem PySem.Spec PyProof.Rows
@[inline]abbrev Key:=Sum Int Str
abbrev oi:Key->Value->Bool
 |.inl k,v=>Value.isInt k v
 |.inr x,v=>Value.isStrOf x v
abbrev Qz(w:World):Key->Int
 |.inl k=>hashInt k
 |.inr x=>hashStr w x
theorem bg:∀ {k:Key} {v:Value},oi k v=true->(∃i t,k=Sum.inl i/\v=Value.int i t)\/(∃x t,k=Sum.inr x/\v=Value.str x t)
 |.inl i,v,h=>by
  obtain⟨t,e⟩:=Value.isInt_shape (k:=i) (v:=v) h;exact .inl ⟨i,t,rfl,e⟩
 |.inr x,v,h=>by
  obtain⟨t,e⟩:=Value.isStrOf_shape (x:=x) (v:=v) h;exact .inr ⟨x,t,rfl,e⟩
theorem xF(i:Int)(t:Tok):oi (.inl i) (.int i t)=true:=by simp[oi,Value.isInt]
theorem xG(x:Str)(t:Tok):oi (.inr x) (.str x t)=true:=by simp[oi,Value.isStrOf]
theorem Iv(a b:Int):decide ((Sum.inl a:Key)=Sum.inl b)=(a == b):=by
 by_cases e:a=b
 ·subst e;simp
 ·have h:¬ (Sum.inl a:Key)=Sum.inl b:=λq=>e (Sum.inl.inj q);rw[decide_eq_false h];exact(beq_eq_false_iff_ne.mpr e).symm
theorem Iw(a b:Str):decide ((Sum.inr a:Key)=Sum.inr b)=decide (a=b):=by
 by_cases e:a=b
 ·subst e;simp
 ·have h:¬ (Sum.inr a:Key)=Sum.inr b:=λq=>e (Sum.inr.inj q);rw[decide_eq_false h,decide_eq_false e]
theorem Ix(a:Int)(b:Str):decide ((Sum.inl a:Key)=Sum.inr b)=false:=decide_eq_false (λq=>nomatch q)
theorem Iy(a:Str)(b:Int):decide ((Sum.inr a:Key)=Sum.inl b)=false:=decide_eq_false (λq=>nomatch q)
abbrev bZ(prog:Program)(w:World):PySem.KeyKind prog w Key where
 is:=oi
 hash:=Qz w
 inj:=λv a b ha hb=>by
  rcases bg ha with ⟨i,t,rfl,rfl⟩ |⟨x,t,rfl,rfl⟩
  ·rcases bg hb with ⟨j,u,rfl,e⟩ |⟨y,u,rfl,e⟩
   ·injection e with e1 _;rw[e1]
   ·exact nomatch e
  ·rcases bg hb with ⟨j,u,rfl,e⟩ |⟨y,u,rfl,e⟩
   ·exact nomatch e
   ·injection e with e1 _;rw[e1]
 byValue:=λk v h=>by
  rcases bg h with ⟨i,t,rfl,rfl⟩ |⟨x,t,rfl,rfl⟩ <;> rfl
 pyHash:=λhv h=>by
  rcases bg hv with ⟨i,t,rfl,rfl⟩ |⟨x,t,rfl,rfl⟩
  ·exact wpAny_pyHash_int h
  ·exact wpAny_pyHash_str h
 eqBool:=λhu hv h=>by
  rcases bg hu with ⟨i,t,rfl,rfl⟩ |⟨x,t,rfl,rfl⟩
  ·rcases bg hv with ⟨j,u,rfl,rfl⟩ |⟨y,u,rfl,rfl⟩
   ·rw[Iv] at h;exact Us h
   ·rw[Ix] at h;exact SeqAt.EqAt.int_str i t y u _ _ _ _ h
  ·rcases bg hv with ⟨j,u,rfl,rfl⟩ |⟨y,u,rfl,rfl⟩
   ·rw[Iy] at h;exact SeqAt.EqAt.str_int x t j u _ _ _ _ h
   ·rw[Iw] at h;exact wpAny_eqBool_str h
 «strs»:=λk x t v h=>by
  rcases bg h with ⟨i,u,rfl,e⟩ |⟨y,u,rfl,e⟩
  ·exact nomatch e
  ·injection e with e1 _;subst e1;cases v <;> rfl
theorem qX(prog:Program)(w:World)(i:Int)(t:Tok):(bZ prog w).is (.inl i) (.int i t)=true:=xF i t
theorem qY(prog:Program)(w:World)(x:Str)(t:Tok):(bZ prog w).is (.inr x) (.str x t)=true:=xG x t
inductive V where
 |non |bl (b:Bool) |int (i:Int) |str (x:Str) |byt (b:Array UInt8) |flt (b:UInt64) |ref (a:Addr) |ty (n:String)
 deriving DecidableEq
def aI:V->Value->Prop
 |.non,u=>u=Value.none
 |.bl b,u=>u=Value.bool b
 |.int i,u=>∃t,u=Value.int i t
 |.str x,u=>∃t,u=Value.str x t
 |.byt b,u=>∃t,u=Value.bytes b t
 |.flt b,u=>∃t,u=Value.float b t
 |.ref a,u=>u=Value.ref a
 |.ty n,u=>u=Value.type n
@[inline]abbrev aN:List V->List Value->Prop:=Paired aI
theorem aN.length{xs:List V}{us:List Value}(r:aN xs us):xs.length=us.length:=Paired.length r
theorem aN.get:∀ {xs:List V} {us:List Value} {i:Nat} {x:V},aN xs us->xs[i]?=some x->∃u,us[i]?=some u/\aI x u
 |_,_,_,_,.nil,e=>by simp at e
 |_,_,0,_,.cons r _,e=>by simp at e;subst e;exact⟨_,rfl,r⟩
 |_,_,i+1,x,.cons _ t,e=>by
  obtain⟨u,h1,h2⟩:=aN.get (i:=i) (x:=x) t (by simpa using e);exact⟨u,by simpa using h1,h2⟩
theorem aN.set{x:V}{u:Value}(r:aI x u):∀ {xs:List V} {us:List Value} (i:Nat),aN xs us->aN (xs.set i x) (us.set i u)
 |_,_,_,.nil=>.nil
 |_,_,0,.cons _ t=>.cons r t
 |_,_,i+1,.cons q t=>.cons q (aN.set r i t)
theorem aN.append:∀ {xs ys:List V} {us ws:List Value},aN xs us->aN ys ws->aN (xs++ys) (us++ws)
 |_,_,_,_,.nil,s=>s
 |_,_,_,_,.cons r t,s=>.cons r (aN.append t s)
theorem aN.take:∀ {xs:List V} {us:List Value} (n:Nat),aN xs us->aN (xs.take n) (us.take n)
 |_,_,0,_=>.nil
 |_,_,_+1,.nil=>.nil
 |_,_,n+1,.cons r t=>.cons r (aN.take n t)
theorem aN.drop:∀ {xs:List V} {us:List Value} (n:Nat),aN xs us->aN (xs.drop n) (us.drop n)
 |_,_,0,r=>r
 |_,_,_+1,.nil=>.nil
 |_,_,n+1,.cons _ t=>aN.drop n t
def Iz:Option V->Option Value->Prop
 |some v,some u=>aI v u
 |none,none=>True
 |_,_=>False
def KV{κ:Type}:List (κ × V)->List (κ × Value)->Prop:=Paired λ(p:κ × V) (q:κ × Value)=>p.1=q.1/\aI p.2 q.2
abbrev kV:Key->V
 |.inl i=>.int i
 |.inr x=>.str x
def pP(h:Heap)(a:Addr)(items:Array Value):Prop:=∃o,h.get? a=some o/\o.cls = .type "tuple"/\∃n,o.data = .seq items n/\o.dict=none
theorem pP.isTup(x:pP h a items):IsTup h a items:=let ⟨o,e,c,n,d,_⟩:=x;⟨o,e,c,n,d⟩
theorem pP.lt(x:pP h a items):a < h.objs.size:=x.isTup.lt
theorem pP.new(h:Heap)(items:Array Value):pP (h.push { cls:=.type "tuple", data:=.seq items }) h.objs.size items:=⟨_,ZB _ rfl,rfl,_,rfl,rfl⟩
inductive HO where
  |lst (xs:List V)
  |tup (xs:List V)
  |dK (kvs:List (Key × V)) |dT (kvs:List (List Key × V))
  |set (S:Int->Bool) (n:Nat)
  |ins (C dx:Addr) (fs:List (Str × V))
  |own (x:Addr)
  |xd (fs:List (Str × V))
  |met (f x:Addr)
  |rng (lo hi:Int)
  |frz (o:Obj) (u:HO)
  |tbl (ps:Array Value)
  |ext (φ:Heap->Prop)
@[inline]abbrev Hp:=Addr->Option HO
abbrev upd(H:Hp)(a:Addr)(o:HO):Hp:=λb=>if b=a then some o else H b
theorem aJ{H:Hp}{a:Addr}{o:HO}:upd H a o a=some o:=by unfold upd;rw[if_pos rfl]
theorem aE{H:Hp}{a b:Addr}{o:HO}(h:b ≠ a):upd H a o b=H b:=by unfold upd;rw[if_neg h]
theorem vK:upd (upd H a o) a u=upd H a u:=by
 funext b;unfold upd;split <;> rfl
theorem aO{H:Hp}{a b:Addr}{o:HO}(h:H a=some o)(h':H b=none):a ≠ b:=by
 intro e;subst e;rw[h] at h';cases h'
section
variable (P:Program) (w:World)
def bq(H:Hp)(h:Heap)(a:Addr):HO->Prop
 |.lst xs=>xs.length<=sizeLine/\∃ (its:List Value) (n:Nat),aN xs its/\h.get? a=some { cls:=.type "list", data:=.seq its.toArray n }
 |.tup xs=>xs.length<=sizeLine/\∃its:List Value,aN xs its/\pP h a its.toArray
 |.dK kvs=>kvs.length<=sizeLine/\(a == Uh)=false/\∃vs,KV kvs vs/\h.DictOf (bZ P w) a vs
 |.dT kvs=>kvs.length<=sizeLine/\(a == Uh)=false/\∃xs:List (List Key × Addr × Value),
   Paired (λ(p:List Key × V) (q:List Key × Addr × Value)=>p.1=q.1/\H q.2.1=some (.tup (p.1.map kV))/\aI p.2 q.2.2) kvs xs ∧
   ∃o es ep,h.get? a=some o/\o.ExactDict/\o.data = .dict es ep/\es.toList=xs.map (entryOfKey (tupleKind (bZ P w)))/\(xs.map (·.1)).Nodup
 |.set S n=>h.SetOf (intKind P w) a S n
 |.ins C dx fs=>H dx=some (.own a)/\fs.length<=1000/\dx ≠ a/\h.get? a=some (Vg C dx) ∧
   ∃mA,h.Ns1 dx mA/\(∀f,Iz (fs.lookup f) (mA f))/\PySem.Within mA (fs.map (·.1))
 |.own _=>∃o,h.get? a=some o
 |.xd fs=>∃mA,h.Ns1 a mA/\∀f,Iz (fs.lookup f) (mA f)
 |.rng lo hi=>∃t u v,h.get? a=some { cls:=.type "range", data:=.fields #[.int lo t,.int hi u,.int 1 v] }
 |.frz o u=>h.get? a=some o/\bq H h a u
 |.tbl ps=>h.get? a=some { cls:=.none,data:=.fields ps }
 |.met f x=>h.get? a=some (Vp (.ref f) (.ref x))
 |.ext φ=>φ h/\(∃o,h.get? a=some o)/\∀h1 h2:Heap,φ h1->(∀o,h1.get? a=some o->h2.get? a=some o)->φ h2
def HOk(H:Hp)(h:Heap):Prop:=∀a o,H a=some o->bq P w H h a o
end
section
variable {P:Program} {w:World} {H H':Hp} {h h':Heap} {a:Addr} {o:HO}
theorem bq.lt(x:bq P w H h a o):a < h.objs.size:=by
 cases o with
 |lst xs=>obtain⟨_,_,_,_,e⟩:=x;exact Zo e
 |tup xs=>obtain⟨_,_,_,p⟩:=x;exact p.lt
 |dK kvs=>obtain⟨_,_,_,_,o,_,_,e,_⟩:=x;exact Zo e
 |dT kvs=>obtain⟨_,_,_,_,o,_,_,e,_⟩:=x;exact Zo e
 |set S n=>obtain⟨o,_,_,_,e,_⟩:=x;exact Zo e
 |ins C dx fs=>obtain⟨_,_,_,e,_⟩:=x;exact Zo e
 |own y=>obtain⟨_,e⟩:=x;exact Zo e
 |xd fs=>obtain⟨_,⟨_,_,_,e,_⟩,_⟩:=x;exact Zo e
 |rng lo hi=>obtain⟨_,_,_,e⟩:=x;exact Zo e
 |frz ob u=>obtain⟨e,_⟩:=x;exact Zo e
 |tbl ps=>exact Zo (show h.get? a=some _ from x)
 |met f y=>exact Zo (show h.get? a=some _ from x)
 |ext φ=>obtain⟨_,⟨_,e⟩,_⟩:=x;exact Zo e
theorem Paired.mapP{α β:Type}{F G:α->β->Prop}:∀ {l₁:List α} {l₂:List β},Paired F l₁ l₂->(∀a b,F a b->G a b)->Paired G l₁ l₂
 |_,_,.nil,_=>.nil
 |_,_,.cons r t,f=>.cons (f _ _ r) (Paired.mapP t f)
theorem bq.stay(x:bq P w H h a o)(k:∀b u,(b=a\/H b=some (.own a))->h.get? b=some u->h'.get? b=some u)
  (ho:∀b,H b=some (.own a)->H' b=some (.own a)) (ht:∀b xs,H b=some (.tup xs)->H' b=some (.tup xs)):bq P w H' h' a o:=by
 induction o with
 |lst xs=>obtain⟨z,its,n,r,e⟩:=x;exact⟨z,its,n,r,k _ _ (.inl rfl) e⟩
 |tup xs=>obtain⟨z,its,r,ob,e,c⟩:=x;exact⟨z,its,r,ob,k _ _ (.inl rfl) e,c⟩
 |dK kvs=>obtain⟨z,y,vs,r,ob,es,ep,e,c⟩:=x;exact⟨z,y,vs,r,ob,es,ep,k _ _ (.inl rfl) e,c⟩
 |dT kvs=>
  obtain⟨z,y,xs,r,ob,es,ep,e,c⟩:=x;exact⟨z,y,xs,Paired.mapP r λp q z=>⟨z.1,ht _ _ z.2.1,z.2.2⟩,ob,es,ep,k _ _ (.inl rfl) e,c⟩
 |set S n=>obtain⟨ob,es,ep,t,e,c⟩:=x;exact⟨ob,es,ep,t,k _ _ (.inl rfl) e,c⟩
 |ins C dx fs=>
  obtain⟨d,z,ne,e,mA,⟨od,es,ep,e2,c⟩,r⟩:=x;exact⟨ho _ d,z,ne,k _ _ (.inl rfl) e,mA,⟨od,es,ep,k _ _ (.inr d) e2,c⟩,r⟩
 |own y=>obtain⟨ob,e⟩:=x;exact⟨ob,k _ _ (.inl rfl) e⟩
 |xd fs=>obtain⟨mA,⟨od,es,ep,e,c⟩,r⟩:=x;exact⟨mA,⟨od,es,ep,k _ _ (.inl rfl) e,c⟩,r⟩
 |rng lo hi=>obtain⟨t,u,v,e⟩:=x;exact⟨t,u,v,k _ _ (.inl rfl) e⟩
 |frz ob u ih=>obtain⟨e,q⟩:=x;exact⟨k _ _ (.inl rfl) e,ih q⟩
 |tbl ps=>
  have e:h.get? a=some { cls:=.none,data:=.fields ps }:=x;show h'.get? a=some { cls:=.none,data:=.fields ps };exact k a _ (.inl rfl) e
 |met f y=>
  have e:h.get? a=some (Vp (.ref f) (.ref y)):=x;show h'.get? a=some (Vp (.ref f) (.ref y));exact k a _ (.inl rfl) e
 |ext φ=>obtain⟨p,⟨o,e⟩,st⟩:=x;exact⟨st _ _ p λo q=>k _ _ (.inl rfl) q,⟨o,k _ _ (.inl rfl) e⟩,st⟩
theorem HOk.lt(x:HOk P w H h)(e:H a=some o):a < h.objs.size:=(x a o e).lt
theorem HOk.fresh(x:HOk P w H h)(e:h.objs.size<=a):H a=none:=by
 cases q:H a with
 |none=>rfl
 |some u=>exact absurd (Zu (x.lt q) e) (ZM _)
theorem HOk.kept(x:HOk P w H h)(k:∀b u,h.get? b=some u->h'.get? b=some u):HOk P w H h':=λa o e=>
 (x a o e).stay (λb u _ q=>k b u q) (λ_ q=>q) λ_ _ q=>q
theorem HOk.laid(x:HOk P w H h)(k:∀b u,h.get? b=some u->h'.get? b=some u)(hp:h.objs.size<=a)(new:bq P w (upd H a o) h' a o):HOk P w (upd H a o) h':=λb u e=>by
 have hn:=x.fresh hp;by_cases hb:b=a
 ·subst hb;rw[aJ] at e;cases e;exact new
 ·rw[aE hb] at e;exact(x b u e).stay (λc v _ q=>k c v q) (λc q=>by rw[aE (aO q hn)];exact q) λc xs q=>by rw[aE (aO q hn)];exact q
end
def Rd(H:Hp)(a:Addr)(u:HO):Prop:=H a=some u\/∃o,H a=some (.frz o u)
theorem Rd.ok{P:Program}{w:World}{H:Hp}{h:Heap}{a:Addr}{u:HO}(r:Rd H a u)(x:HOk P w H h):bq P w H h a u:=by
 rcases r with r |⟨o,r⟩
 ·exact x a u r
 ·obtain⟨_,q⟩:=x a _ r;exact q
def Mut:Option HO->Prop
 |some (.lst _)=>True
 |some (.dK _)=>True
 |some (.dT _)=>True
 |some (.set _ _)=>True
 |some (.ins _ _ _)=>True
 |some (.ext _)=>True
 |_=>False
section
variable {P:Program} {w:World} {H:Hp} {h h':Heap} {x e:Addr} {o':HO}
theorem HOk.write(ok:HOk P w H h)(mu:Mut (H x))(he:e=x\/H e=some (.own x))(k:∀b u,b ≠ e->h.get? b=some u->h'.get? b=some u)(heo:∃u,h'.get? e=some u)
  (new:bq P w (upd H x o') h' x o'):HOk P w (upd H x o') h':=λb u q=>by
 have nown:∀c y,H c=some (.own y)->c ≠ x:=λc y r z=>by subst z;rw[r] at mu;exact mu
 have ntup:∀c xs,H c=some (.tup xs)->c ≠ x:=λc xs r z=>by subst z;rw[r] at mu;exact mu
 by_cases hb:b=x
 ·subst hb;rw[aJ] at q;cases q;exact new
 ·rw[aE hb] at q;by_cases hbe:b=e
  ·have q':H b=some (.own x):=by
    rcases he with z |z
    ·exact absurd (hbe.trans z) hb
    ·rw[hbe];exact z
   rw[q] at q';cases q';obtain⟨v,hv⟩:=heo;exact⟨v,by rw[hbe];exact hv⟩
  ·refine(ok b u q).stay (λc v hc r=>k c v ?_ r) (λc r=>by rw[aE (nown c b r)];exact r) λc xs r=>by rw[aE (ntup c xs r)];exact r
   rcases hc with rfl |hc
   ·exact hbe
   ·rintro rfl;rcases he with z |z
    ·exact nown c b hc z
    ·rw[hc] at z;cases z;exact hb rfl
end
structure Un(fs ex:List Addr)(H H':Hp)(h h':Heap):Prop where
 keep:∀b o,h.get? b=some o->H b=none->b ∉ fs->b ∉ ex->h'.get? b=some o
 slot:∀b o,h.get? b=some o->H b=none->b ∈ fs->b ∉ ex->∃sl,h'.get? b=some { o with slots:=sl }
 free:∀b o,h.get? b=some o->H b=none->b ∉ ex->H' b=none
 there:∀b o,h.get? b=some o->b ∉ ex->∃o',h'.get? b=some o'
 tups:∀b xs,H b=some (.tup xs)->H' b=some (.tup xs)
 frzs:∀b o u,H b=some (.frz o u)->H' b=some (.frz o u)
 tbls:∀b ps,H b=some (.tbl ps)->∃more,H' b=some (.tbl (ps++more))
section
variable {fs fs' ex ex':List Addr} {H H1 H2:Hp} {h h1 h2 h':Heap} {a x e:Addr} {o:HO}
theorem Un.any(u:Un fs ex H H1 h h1){b:Addr}{ob:Obj}(q:h.get? b=some ob)(n:H b=none)(hx:b ∉ ex):∃sl,h1.get? b=some { ob with slots:=sl }:=by
 by_cases hb:b ∈ fs
 ·exact u.slot b ob q n hb hx
 ·exact⟨ob.slots,u.keep b ob q n hb hx⟩
theorem Un.kept(k:∀b u,h.get? b=some u->h'.get? b=some u):Un fs ex H H h h':=
 ⟨λb ob q _ _ _=>k b ob q,λb ob q _ _ _=>⟨ob.slots,k b ob q⟩,λ_ _ _ n _=>n,λb ob q _=>⟨ob,k b ob q⟩,λ_ _ q=>q,λ_ _ _ q=>q,λ_ ps q=>⟨#[],by rw[q];simp⟩⟩
theorem Un.refl:Un fs ex H H h h:=Un.kept λ_ _ q=>q
theorem Un.laid(k:∀b u,h.get? b=some u->h'.get? b=some u)(hp:h.objs.size<=a)(hn:H a=none):Un fs ex H (upd H a o) h h' where
 keep:=λb u q _ _ _=>k b u q
 slot:=λb u q _ _ _=>⟨u.slots,k b u q⟩
 free:=λb u q n _=>by rw[aE (Zx (Zu (Zo q) hp))];exact n
 there:=λb u q _=>⟨u,k b u q⟩
 tups:=λb xs q=>by rw[aE (aO q hn)];exact q
 frzs:=λb u xs q=>by rw[aE (aO q hn)];exact q
 tbls:=λb ps q=>⟨#[],by rw[aE (aO q hn),q];simp⟩
theorem Un.write(mu:Mut (H x))(he:e=x\/H e=some (.own x))(k:∀b u,b ≠ e->h.get? b=some u->h'.get? b=some u)(heo:∃u,h'.get? e=some u):Un fs ex H (upd H x o) h h':=by
 have hx:∀b,H b=none->b ≠ x:=λb n z=>by subst z;rw[n] at mu;exact mu
 have hb:∀b,H b=none->b ≠ e:=λb n z=>by
  subst z;rcases he with r |r
  ·exact hx b n r
  ·rw[n] at r;cases r
 have hm:∀b u,H b=some u->¬ Mut (some u)->b ≠ x:=λb u q nm z=>by subst z;rw[q] at mu;exact nm mu
 refine⟨λb u q n _ _=>k b u (hb b n) q,λb u q n _ _=>⟨u.slots,k b u (hb b n) q⟩,λb u q n _=>by rw[aE (hx b n)];exact n,λb u q _=>?_,
  λb xs q=>by rw[aE (hm b _ q λz=>z)];exact q,λb u xs q=>by rw[aE (hm b _ q λz=>z)];exact q,λb ps q=>⟨#[],by rw[aE (hm b _ q λz=>z),q];simp⟩⟩
 by_cases hbe:b=e
 ·subst hbe;exact heo
 ·exact⟨u,k b u hbe q⟩
end
abbrev trk(h:Heap)(H:Hp):List Addr:=(Zj h.objs.size).filter λa=>(H a).isSome
abbrev pQ(h:Heap)(H:Hp):Heap:=PySem.W.hideAll h (trk h H)
theorem xH(h:Heap)(H:Hp):(pQ h H).objs.size=h.objs.size:=PySem.W.hideAll_size _ _
theorem zo(e:h.get? b=some o)(n:H b=none):(pQ h H).get? b=some o:=
 Vf _ e λhm=>by
  have q:(H b).isSome=true:=(Z0.mp hm).2;rw[n] at q;simp at q
theorem Dq(e:(pQ h H).get? b=some o):h.get? b=some o/\H b=none:=by
 have e':h.get? b=some o:=Vr (trk h H) e;refine⟨e',?_⟩;cases q:H b with
 |none=>rfl
 |some x=>
  have hm:b ∈ trk h H:=Z0.mpr ⟨Z6.mpr (Zo e'),by simp[q]⟩;have z:(pQ h H).get? b=none:=PySem.W.hideAll_none (trk h H) hm;rw[z] at e;cases e
structure Mod(K:W6)(mg:Str->Option Value)(base:Heap):Prop where
 kin:K.In base
 glob:base.Ns VU mg
 blt:∃mb,base.Ns VB mb/\∀x:Str,x ≠ "__name__"->mb x=VA x
 nolimit:base.NoLimit
structure Cx where
 prog:Program
 w:World
 K:W6
 mg:Str->Option Value
 base:Heap
 A:Around
 N:List Str
 s₀:Shared
 H₀:Hp
 env:Env
 outer:List Env
 stack:List Env
 ex:List Addr
 fn:Str->Bool
 calm:Bool
 pn:List (Addr × Obj)
 xe:Value->Shared->Prop
abbrev frs(l:List Env):List Addr:=l.filterMap (·.frame)
noncomputable abbrev Cx.fs(X:Cx):List Addr:=frs X.outer
def Vis(sc:Scope)(x:Str):Prop:=sc.names.lookup x=some .local\/sc.names.lookup x=some .cell\/sc.names.lookup x=some .free
def Loc(sc:Scope)(x:Str):Prop:=sc.names.lookup x=some .local\/sc.names.lookup x=some .cell
def QA(env:Env)(h:Heap)(m:Str->Option Value)(x:Str)(u:Value):Prop:=
 (env.kindOf x=some .local/\m x=some u)\/((env.kindOf x=some .cell\/env.kindOf x=some .free)/\∃c,env.cells.lookup x=some c/\h.IsCell c (some u))
structure Cx.Ok(X:Cx):Prop where
 mod:Mod X.K X.mg X.base
 kind:X.env.scope.kind = .function
 glob:X.env.globals=VU
 blt:X.env.builtins=VB
 above:X.s₀.heap.objs.size<=X.env.locals
 inj:∀x y c,X.env.cells.lookup x=some c->X.env.cells.lookup y=some c->x=y
 has:∀x,(X.env.kindOf x=some .cell\/X.env.kindOf x=some .free)->∃c,X.env.cells.lookup x=some c
 cab:∀x c,X.fn x=true->X.env.cells.lookup x=some c->X.s₀.heap.objs.size<=c
 hd:X.calm=true->X.A.handled=none
 frames:X.A.frames=some X.stack
 stk:X.stack=X.outer\/(X.stack=X.env::X.outer/\X.env.frame=some X.env.locals)
 exf:∀b ∈ X.ex,b ≠ X.env.locals/\∀x c,X.env.cells.lookup x=some c->c ≠ b
 bs:∀b o,X.base.get? b=some o->X.s₀.heap.get? b=some o/\X.H₀ b=none
 bsz:X.base.objs.size<=X.s₀.heap.objs.size
 noex:∀b o,X.base.get? b=some o->b ∉ X.ex
 exfs:∀b ∈ X.ex,b ∉ X.fs
 funs:X.s₀.heap.FunFrames X.base X.outer
 frf:∀b ∈ X.fs,X.H₀ b=none
structure Inv(X:Cx)(pins:List (Addr × Obj))(σ:List (Option V))(H:Hp)(s:Shared):Prop where
 ok:X.Ok
 os:s.os=X.s₀.os
 bare:AllBare s.gens
 base:Un X.fs X.ex X.H₀ H X.s₀.heap s.heap
 loc:∃m,s.heap.Ns X.env.locals m/\∀ (i:Nat) (x:Str) (v:V),X.N[i]?=some x->σ[i]?=some (some v)->Vis X.env.scope x->∃u,aI v u/\QA X.env s.heap m x u
 cell:∀x c,X.env.cells.lookup x=some c->∃v,s.heap.IsCell c v
 free:H X.env.locals=none
 freeC:∀x c,X.env.cells.lookup x=some c->H c=none
 pin:∀p ∈ X.pn++pins,s.heap.get? p.1=some p.2/\H p.1=none/\p.1 ≠ X.env.locals/\p.1 ∉ X.fs/\∀v,p.2.data ≠ .cell v
 hok:HOk X.prog X.w H s.heap
 len:σ.length=X.N.length
section
variable {X:Cx} {pins:List (Addr × Obj)} {σ:List (Option V)} {H H':Hp} {s:Shared} {h':Heap}
theorem Cx.Ok.nofr(ok:X.Ok)(e:X.base.get? b=some o):b ∉ X.fs:=λhb=>by
 have:=(ok.funs.mem hb).1;rw[e] at this;cases this
theorem Inv.bs(I:Inv X pins σ H s):∀b o,X.base.get? b=some o->s.heap.get? b=some o/\H b=none:=λb o e=>
 ⟨I.base.keep b o (I.ok.bs b o e).1 (I.ok.bs b o e).2 (I.ok.nofr e) (I.ok.noex b o e),I.base.free b o (I.ok.bs b o e).1 (I.ok.bs b o e).2 (I.ok.noex b o e)⟩
theorem Inv.bk(I:Inv X pins σ H s):∀b o,X.base.get? b=some o->s.heap.get? b=some o:=λb o e=>(I.bs b o e).1
theorem Inv.mod(I:Inv X pins σ H s):Mod X.K X.mg X.base:=I.ok.mod
theorem Inv.kIn(I:Inv X pins σ H s):X.K.In s.heap:=I.ok.mod.kin.keeps I.bk
theorem Inv.lt(I:Inv X pins σ H s):X.env.locals < s.heap.objs.size:=let ⟨_,hn,_⟩:=I.loc;hn.lt
theorem Inv.sz(I:Inv X pins σ H s):X.s₀.heap.objs.size<=s.heap.objs.size:=ZF I.ok.above (Y6 I.lt)
theorem Inv.nofs(I:Inv X pins σ H s)(h:s.heap.objs.size<=a):a ∉ X.fs:=λhb=>by
 obtain⟨_,o,ho,_⟩:=I.ok.funs.mem hb;exact absurd (Zu (Zo ho) (ZF I.sz h)) (ZM _)
theorem Inv.cne(I:Inv X pins σ H s):∀x c,X.env.cells.lookup x=some c->c ≠ X.env.locals:=λx c e z=>by
 obtain⟨v,o,ho,hd⟩:=I.cell x c e;obtain⟨m,⟨o',es,ep,ho',hd',_⟩,_⟩:=I.loc;rw[z,ho'] at ho;cases ho;rw[hd'] at hd;cases hd
theorem Inv.funs(I:Inv X pins σ H s):s.heap.FunFrames X.base X.outer:=by
 have all:∀ (l:List Env),(∀b ∈ frs l,b ∈ X.fs)->X.s₀.heap.FunFrames X.base l->s.heap.FunFrames X.base l:=by
  intro l
  induction l with
  |nil=>intro _ _;trivial
  |cons env r ih=>
   intro hs hl;obtain⟨hk,⟨L,o,hf,hn,ho,hd⟩,hr⟩:=hl;have hL:L ∈ X.fs:=hs L (by unfold frs;rw[YQ,hf];exact Zg);obtain⟨sl,e⟩:=I.base.slot L o ho (I.ok.frf L hL) hL λz=>I.ok.exfs L z hL;exact⟨hk,⟨L,_,hf,hn,e,hd⟩,ih (λb hb=>hs b (by unfold frs;rw[YQ,hf];exact Zf _ hb)) hr⟩
 exact all X.outer (λ_ hb=>hb) I.ok.funs
theorem Inv.stack(I:Inv X pins σ H s):s.heap.FunFrames X.base X.stack:=by
 rcases I.ok.stk with e |⟨e,hf⟩
 ·rw[e];exact I.funs
 ·rw[e];obtain⟨m,hn,_⟩:=I.loc;refine .cons (by rw[I.ok.kind];decide) hf hn ?_ I.funs;exact Heap.get?_none_of_le (ZF I.ok.bsz I.ok.above)
theorem Inv.stkSub(I:Inv X pins σ H s):∀b ∈ frs X.stack,b ∈ X.env.locals::X.fs:=λb hb=>by
 rcases I.ok.stk with e |⟨e,hf⟩
 ·rw[e] at hb;exact Zf _ hb
 ·rw[e] at hb;unfold frs at hb;rw[YQ,hf] at hb;exact hb
theorem Inv.stkFree(I:Inv X pins σ H s):∀b ∈ frs X.stack,H b=none:=λb hb=>by
 rcases Zk.mp (I.stkSub b hb) with e |hb
 ·rw[e];exact I.free
 ·obtain⟨_,o,ho,_⟩:=I.ok.funs.mem hb;exact I.base.free b o ho (I.ok.frf b hb) λz=>I.ok.exfs b z hb
theorem Inv.step{g':Array WO}{t':Nat}{d':Drawn}{ch:List Addr}(I:Inv X pins σ H s)
  (hch:∀b ∈ ch,(b ∈ X.ex\/X.s₀.heap.objs.size<=b)/\b ≠ X.env.locals/\(∀x c,X.env.cells.lookup x=some c->c ≠ b)/\∀p ∈ X.pn++pins,p.1 ≠ b)
  (keep:∀b o,b ≠ X.env.locals->b ∉ X.fs->b ∉ ch->s.heap.get? b=some o->H b=none->h'.get? b=some o)
  (slot:∀b o,b ≠ X.env.locals->b ∈ X.fs->b ∉ ch->s.heap.get? b=some o->H b=none->∃sl,h'.get? b=some { o with slots:=sl }) (free:∀b o,b ∉ ch->s.heap.get? b=some o->H b=none->H' b=none)
  (there:∀b o,b ∉ ch->s.heap.get? b=some o->∃o',h'.get? b=some o')
  (tups:∀b xs,H b=some (.tup xs)->H' b=some (.tup xs)) (frzs:∀b o u,H b=some (.frz o u)->H' b=some (.frz o u)) (tbls:∀b ps,H b=some (.tbl ps)->∃more,H' b=some (.tbl (ps++more)))
  (ns:∀m,s.heap.Ns X.env.locals m->h'.Ns X.env.locals m) (hok:HOk X.prog X.w H' h') (hg:AllBare g') :
  Inv X pins σ H' { s with heap:=h',gens:=g',drawn:=d',toks:=t' }:=by
 have neL:∀b o,X.s₀.heap.get? b=some o->b ≠ X.env.locals:=λb o e=>Zx (Zu (Zo e) I.ok.above)
 have neC:∀b o,X.s₀.heap.get? b=some o->b ∉ X.ex->b ∉ ch:=λb o e hx hb=>by
  rcases (hch b hb).1 with z |z
  ·exact hx z
  ·exact absurd (Zu (Zo e) z) (ZM _)
 have cellK:∀x c,X.env.cells.lookup x=some c->∀v,s.heap.IsCell c v->h'.IsCell c v:=λx c e v ⟨o,ho,hd⟩=>by
  have nch:c ∉ ch:=λz=>(hch c z).2.2.1 x c e rfl;by_cases hc:c ∈ X.fs
  ·obtain⟨sl,q⟩:=slot c o (I.cne x c e) hc nch ho (I.freeC x c e);exact⟨_,q,hd⟩
  ·exact⟨o,keep c o (I.cne x c e) hc nch ho (I.freeC x c e),hd⟩
 refine⟨I.ok,I.os,hg,⟨λb o e n hb hx=>?_,λb o e n hb hx=>?_,λb o e n hx=>?_,λb o e hx=>?_,λb xs e=>tups b xs (I.base.tups b xs e),λb o xs e=>frzs b o xs (I.base.frzs b o xs e),λb ps e=>?_⟩,?_,λx c e=>?_,?_,λx c e=>?_,λp hp=>?_,hok,I.len⟩
 ·exact keep b o (neL b o e) hb (neC b o e hx) (I.base.keep b o e n hb hx) (I.base.free b o e n hx)
 ·obtain⟨sl,e1⟩:=I.base.slot b o e n hb hx;obtain⟨sl',e2⟩:=slot b _ (neL b o e) hb (neC b o e hx) e1 (I.base.free b o e n hx);exact⟨sl',e2⟩
 ·obtain⟨o',e1⟩:=I.base.there b o e hx;exact free b o' (neC b o e hx) e1 (I.base.free b o e n hx)
 ·obtain⟨o',e1⟩:=I.base.there b o e hx;exact there b o' (neC b o e hx) e1
 ·obtain⟨m1,e1⟩:=I.base.tbls b ps e;obtain⟨m2,e2⟩:=tbls b _ e1;exact⟨m1++m2,by rw[e2,Xx]⟩
 ·obtain⟨m,hn,hl⟩:=I.loc;refine⟨m,ns m hn,λi x v e1 e2 e3=>?_⟩;obtain⟨u,r,l⟩:=hl i x v e1 e2 e3;refine⟨u,r,?_⟩;rcases l with l |⟨k,c,e,z⟩
  ·exact .inl l
  ·exact .inr ⟨k,c,e,cellK x c e _ z⟩
 ·obtain⟨v,z⟩:=I.cell x c e;exact⟨v,cellK x c e v z⟩
 ·obtain⟨m,⟨o,_,_,ho,_⟩,_⟩:=I.loc;exact free _ o (λz=>(hch _ z).2.1 rfl) ho I.free
 ·obtain⟨v,o,ho,hd⟩:=I.cell x c e;exact free c o (λz=>(hch c z).2.2.1 x c e rfl) ho (I.freeC x c e)
 ·obtain⟨e,n,ne,nf,d⟩:=I.pin p hp;have nch:p.1 ∉ ch:=λz=>(hch p.1 z).2.2.2 p hp rfl;exact⟨keep p.1 p.2 ne nf nch e n,free p.1 p.2 nch e n,ne,nf,d⟩
theorem Inv.un{t':Nat}(I:Inv X pins σ H s)(u:Un X.fs [] H H' s.heap h')(hok:HOk X.prog X.w H' h'):Inv X pins σ H' { s with heap:=h',toks:=t' }:=by
 obtain⟨m,⟨o,es,ep,ho,r⟩,_⟩:=id I.loc;obtain⟨sl,hL⟩:=u.any ho I.free (by simp)
 exact I.step (g':=s.gens) (d':=s.drawn) (ch:=[]) (λ_ z=>nomatch z) (λb o _ hb _ e n=>u.keep b o e n hb (by simp)) (λb o _ hb _ e n=>u.slot b o e n hb (by simp)) (λb o _ e n=>u.free b o e n (by simp)) (λb o _ e=>u.there b o e (by simp)) u.tups u.frzs u.tbls (λm' hm=>by
  obtain⟨o',es',ep',ho',r'⟩:=hm;rw[ho] at ho';cases ho';exact⟨_,es',ep',hL,r'⟩) hok I.bare
theorem Inv.call{g':Array WO}{t':Nat}{d':Drawn}{ch:List Addr}(I:Inv X pins σ H s)(u:Un (frs X.stack) ch H H' s.heap h')(hok:HOk X.prog X.w H' h')(hg:AllBare g')
  (hch:∀b ∈ ch,(b ∈ X.ex\/X.s₀.heap.objs.size<=b)/\b ≠ X.env.locals/\(∀x c,X.env.cells.lookup x=some c->c ≠ b)/\∀p ∈ X.pn++pins,p.1 ≠ b) :
  Inv X pins σ H' { s with heap:=h',gens:=g',drawn:=d',toks:=t' }:=by
 obtain⟨m,⟨o,es,ep,ho,r⟩,_⟩:=id I.loc;obtain⟨sl,hL⟩:=u.any ho I.free λz=>(hch _ z).2.1 rfl
 exact I.step (ch:=ch) hch (λb o hL hb hc e n=>u.keep b o e n (λz=>(Zk.mp (I.stkSub b z)).elim hL hb) hc) (λb o _ _ hc e n=>u.any e n hc) (λb o hc e n=>u.free b o e n hc) (λb o hc e=>u.there b o e hc) u.tups u.frzs u.tbls (λm' hm=>by
  obtain⟨o',es',ep',ho',r'⟩:=hm;rw[ho] at ho';cases ho';exact⟨_,es',ep',hL,r'⟩) hok hg
theorem Inv.turned{t':Nat}{it:Addr}(I:Inv X pins σ H s)(k:∀b o,b ≠ it->s.heap.get? b=some o->h'.get? b=some o)(hn:H it=none)(hL:it ≠ X.env.locals)
  (h1:it ∈ X.ex\/X.s₀.heap.objs.size<=it) (h2:∀x c,X.env.cells.lookup x=some c->c ≠ it) (h3:∀p ∈ X.pn++pins,p.1 ≠ it):Inv X pins σ H { s with heap:=h',toks:=t' }:=by
 have nit:∀b u,H b=some u->b ≠ it:=λb u e z=>by rw[z,hn] at e;cases e
 refine I.step (g':=s.gens) (d':=s.drawn) (ch:=[it]) (λb hb=>?_) (λb o _ _ hc e _=>k b o (λz=>hc (by simp[z])) e) (λb o _ _ hc e _=>⟨o.slots,k b o (λz=>hc (by simp[z])) e⟩) (λ_ _ _ _ n=>n)
  (λb o hc e=>⟨o,k b o (λz=>hc (by simp[z])) e⟩) (λ_ _ e=>e) (λ_ _ _ e=>e) (λb ps e=>⟨#[],by rw[e];simp⟩) (λm hm=>?_) (λb u e=>?_) I.bare
 ·have e:b=it:=by simpa using hb
  subst e;exact⟨h1,hL,h2,h3⟩
 ·obtain⟨o,es,ep,ho,r⟩:=hm;exact⟨o,es,ep,k _ o (Ne.symm hL) ho,r⟩
 ·refine(I.hok b u e).stay (λc v hc q=>k c v ?_ q) (λ_ q=>q) λ_ _ q=>q;rcases hc with z |z
  ·rw[z];exact nit b u e
  ·exact nit c _ z
theorem Inv.tok(I:Inv X pins σ H s)(t:Nat):Inv X pins σ H { s with toks:=t }:=I.un (h':=s.heap) (t':=t) Un.refl I.hok
theorem Inv.kept{t':Nat}(I:Inv X pins σ H s)(k:∀b u,s.heap.get? b=some u->h'.get? b=some u):Inv X pins σ H { s with heap:=h',toks:=t' }:=I.un (Un.kept k) (I.hok.kept k)
theorem Inv.laid{a:Addr}{o:HO}{t':Nat}(I:Inv X pins σ H s)(k:∀b u,s.heap.get? b=some u->h'.get? b=some u)(hp:s.heap.objs.size<=a)(new:bq X.prog X.w (upd H a o) h' a o) :
  Inv X pins σ (upd H a o) { s with heap:=h',toks:=t' }:=I.un (Un.laid k hp (I.hok.fresh hp)) (I.hok.laid k hp new)
theorem Inv.write{t':Nat}(I:Inv X pins σ H s)(mu:Mut (H x))(he:e=x\/H e=some (.own x))(k:∀b u,b ≠ e->s.heap.get? b=some u->h'.get? b=some u)(heo:∃u,h'.get? e=some u)
  (new:bq X.prog X.w (upd H x o) h' x o):Inv X pins σ (upd H x o) { s with heap:=h',toks:=t' }:=I.un (Un.write mu he k heo) (I.hok.write mu he k heo new)
theorem Inv.pins_of(I:Inv X pins σ H s)(h:∀p ∈ pins',s.heap.get? p.1=some p.2/\H p.1=none/\p.1 ≠ X.env.locals/\p.1 ∉ X.fs/\∀v,p.2.data ≠ .cell v):Inv X pins' σ H s:=
 ⟨I.ok,I.os,I.bare,I.base,I.loc,I.cell,I.free,I.freeC,λp hp=>(ZG.mp hp).elim (λz=>I.pin p (Yn _ z)) (h p),I.hok,I.len⟩
theorem lg{N:List Str}(hN:N.Nodup){i j:Nat}{x:Str}(a:N[i]?=some x)(b:N[j]?=some x):i=j:=by
 obtain⟨h1,e1⟩:=Zc.mp a;obtain⟨h2,e2⟩:=Zc.mp b;exact(YK hN).mp (e1.trans e2.symm)
theorem oj{M:Model}{A:Around}{E:Value->Shared->Prop}{i:Nat}{x:Str}{v:V}{u:Value}{Q:Unit->Shared->Prop}(I:Inv X pins σ H s)(hN:X.N.Nodup)(hi:X.N[i]?=some x)(hx:Loc X.env.scope x)(r:aI v u)
  (h:∀s',Inv X pins (σ.set i (some v)) H s'->(∃a,Heap.SameBut a s.heap s'.heap/\(a=X.env.locals\/X.env.cells.lookup x=some a))->Q () s') (hf:X.fn x=true\/X.env.scope.names.lookup x=some .local:=by first |exact .inl rfl |exact .inr rfl |assumption):wpAny M A (storeName X.env x u) Q E s:=by
 obtain⟨m,hn,hl⟩:=id I.loc;have hcls:(X.env.scope.kind == .class || (X.env.scope.kind == .module && X.env.locals != X.env.globals))=false:=by rw[I.ok.kind];rfl
 have hiσ:i < σ.length:=by rw[I.len];exact(Zc.mp hi).1
 have cne:=I.cne
 have tracked:∀ {a:Addr} {h':Heap},(∃o,s.heap.get? a=some o/\H a=none)->Heap.SameBut a s.heap h'->HOk X.prog X.w H h':=λ{a h'} ha hs b ob e=>by
  obtain⟨_,_,hfree⟩:=ha;refine(I.hok b ob e).stay (λc w' hc q=>(hs.2 c ?_).trans q) (λ_ q=>q) λ_ _ q=>q;rintro rfl;rcases hc with rfl |hc
  ·rw[hfree] at e;cases e
  ·rw[hfree] at hc;cases hc
 rcases hx with hk |hk
 ·refine wpAny_storeName_local hk hn (λh' hn' hs=>?_) hcls;obtain⟨oL,_,_,hoL,_⟩:=id hn;refine h _ ⟨I.ok,I.os,I.bare,⟨λb o e n hb hx=>?_,λb o e n hb hx=>?_,I.base.free,λb o e hx=>?_,I.base.tups,I.base.frzs,I.base.tbls⟩,⟨_,hn',λj y v' e1 e2 e3=>?_⟩,λy c e=>?_,I.free,I.freeC,λp hp=>?_,tracked ⟨oL,hoL,I.free⟩ hs,by simpa using I.len⟩ ⟨_,hs,.inl rfl⟩
  ·exact(hs.2 b (Zx (Zu (Zo e) I.ok.above))).trans (I.base.keep b o e n hb hx)
  ·obtain⟨sl,e1⟩:=I.base.slot b o e n hb hx;exact⟨sl,(hs.2 b (Zx (Zu (Zo e) I.ok.above))).trans e1⟩
  ·obtain⟨o',e1⟩:=I.base.there b o e hx;exact⟨o',(hs.2 b (Zx (Zu (Zo e) I.ok.above))).trans e1⟩
  ·by_cases hj:j=i
   ·subst hj;rw[hi] at e1;cases e1;rw[ZI hiσ] at e2;cases e2;exact⟨u,r,.inl ⟨hk,by simp⟩⟩
   ·rw[ZN (Ne.symm hj)] at e2;obtain⟨u',r',q⟩:=hl j y v' e1 e2 e3;refine⟨u',r',?_⟩;rcases q with ⟨k,e⟩ |⟨k,c,e,z⟩
    ·refine .inl ⟨k,?_⟩;have:y ≠ x:=λe=>hj (lg hN e1 (e ▸ hi));simp[this,e]
    ·exact .inr ⟨k,c,e,z.sameBut hs (cne y c e)⟩
  ·obtain⟨w',z⟩:=I.cell y c e;exact⟨w',z.sameBut hs (cne y c e)⟩
  ·obtain⟨e,n,ne,nf,d⟩:=I.pin p hp;exact⟨(hs.2 p.1 ne).trans e,n,ne,nf,d⟩
 ·have hfn:X.fn x=true:=by
   rcases hf with z |z
   ·exact z
   ·rw[z] at hk;cases hk
  obtain⟨c,hc⟩:=I.ok.has x (.inl hk);obtain⟨w',z⟩:=I.cell x c hc;refine wpAny_storeName_cell I.ok.kind hk hc z (λh' hc' hs=>?_);obtain⟨oc,hoc,hocd⟩:=id z;refine h { s with heap:=h' } ⟨I.ok,I.os,I.bare,⟨λb o e n hb hx=>?_,λb o e n hb hx=>?_,I.base.free,λb o e hx=>?_,I.base.tups,I.base.frzs,I.base.tbls⟩,⟨m,hn.sameBut hs (Ne.symm (cne x c hc)),λj y v' e1 e2 e3=>?_⟩,λy c' e=>?_,I.free,I.freeC,λp hp=>?_,tracked ⟨oc,hoc,I.freeC x c hc⟩ hs,by simpa using I.len⟩ ⟨c,hs,.inr hc⟩
  ·exact(hs.2 b (Zx (Zu (Zo e) (I.ok.cab x c hfn hc)))).trans (I.base.keep b o e n hb hx)
  ·obtain⟨sl,e1⟩:=I.base.slot b o e n hb hx;exact⟨sl,(hs.2 b (Zx (Zu (Zo e) (I.ok.cab x c hfn hc)))).trans e1⟩
  ·obtain⟨o',e1⟩:=I.base.there b o e hx;exact⟨o',(hs.2 b (Zx (Zu (Zo e) (I.ok.cab x c hfn hc)))).trans e1⟩
  ·by_cases hj:j=i
   ·subst hj;rw[hi] at e1;cases e1;rw[ZI hiσ] at e2;cases e2;exact⟨u,r,.inr ⟨.inl hk,c,hc,hc'⟩⟩
   ·rw[ZN (Ne.symm hj)] at e2;obtain⟨u',r',q⟩:=hl j y v' e1 e2 e3;refine⟨u',r',?_⟩;rcases q with q |⟨k,c',e,z'⟩
    ·exact .inl q
    ·refine .inr ⟨k,c',e,z'.sameBut hs ?_⟩;rintro rfl;exact hj (lg hN e1 (I.ok.inj _ _ _ e hc ▸ hi))
  ·by_cases hcc:c'=c
   ·subst hcc;exact⟨_,hc'⟩
   ·obtain⟨w2,z2⟩:=I.cell y c' e;exact⟨w2,z2.sameBut hs hcc⟩
  ·obtain⟨e,n,ne,nf,d⟩:=I.pin p hp;refine⟨(hs.2 p.1 ?_).trans e,n,ne,nf,d⟩;intro q;rw[q,hoc] at e;have q':oc=p.2:=Option.some.inj e;exact d w' (by rw[<-q'];exact hocd)
theorem cA{i:Nat}(I:Inv X pins σ H s)(hN:X.N.Nodup)(hi:X.N[i]?=some x)(hx:Loc X.env.scope x)(r:aI v u)
  (h:∀s',Inv X pins (σ.set i (some v)) H s'->Q () s') (hf:X.fn x=true\/X.env.scope.names.lookup x=some .local:=by first |exact .inl rfl |exact .inr rfl |assumption):wpAny M A (storeName X.env x u) Q E s:=
 oj I hN hi hx r (λs' I' _=>h s' I') hf
theorem Inv.call'(I:Inv X pins σ H s)(ho:s'.os=s.os)(u:Un (frs X.stack) ch H H' s.heap s'.heap)(hok:HOk X.prog X.w H' s'.heap)(hg:AllBare s'.gens)
  (hch:∀b ∈ ch,(b ∈ X.ex\/X.s₀.heap.objs.size<=b)/\b ≠ X.env.locals/\(∀x c,X.env.cells.lookup x=some c->c ≠ b)/\∀p ∈ X.pn++pins,p.1 ≠ b):Inv X pins σ H' s':=by
 obtain⟨h',g',d',t',o'⟩:=s';have e:o'=s.os:=ho;subst e;exact I.call (g':=g') (t':=t') (d':=d') u hok hg hch
end
@[inline]abbrev XK:=Value->Option Addr->Hp->Prop
@[inline]abbrev St:=List (Option V)
@[inline]abbrev VK:=V->Hp->Prop
@[inline]abbrev TE:=St->Hp->VK->Prop
@[inline]abbrev TT:=St->Hp->(Bool->Hp->Prop)->Prop
@[inline]abbrev TA:=St->Hp->(List V->Hp->Prop)->Prop
structure Ends where
 nx:St->Hp->Prop
 rt:VK
 bk:St->Hp->Prop:=λ_ _=>False
 ct:St->Hp->Prop:=λ_ _=>False
@[inline]abbrev TS:=Ends->St->Hp->Prop
def EP(X:Cx)(pins:List (Addr × Obj))(σ:St)(Q:VK)(u:Value)(s':Shared):Prop:=∃v H',Inv X pins σ H' s'/\aI v u/\Q v H'
def TP(X:Cx)(pins:List (Addr × Obj))(σ:St)(Q:Bool->Hp->Prop)(b:Bool)(s':Shared):Prop:=∃H',Inv X pins σ H' s'/\Q b H'
def AP(X:Cx)(pins:List (Addr × Obj))(σ:St)(Q:List V->Hp->Prop)(us:List Value)(s':Shared):Prop:=∃vs H',Inv X pins σ H' s'/\aN vs us/\Q vs H'
def SP(X:Cx)(pins:List (Addr × Obj))(D:Ends)(f:Flow)(s':Shared):Prop:=
 match f with
 |.next=>∃σ' H',Inv X pins σ' H' s'/\D.nx σ' H'
 |.brk=>∃σ' H',Inv X pins σ' H' s'/\D.bk σ' H'
 |.cont=>∃σ' H',Inv X pins σ' H' s'/\D.ct σ' H'
 |.ret u=>∃v σ' H',Inv X pins σ' H' s'/\aI v u/\D.rt v H'
def PE(X:Cx)(e:Expr)(t:TE):Prop:=
 ∀ (pins:List (Addr × Obj)) (s:Shared) (σ:St) (H:Hp) (Q:VK),Inv X pins σ H s->t σ H Q->wpAny (model X.prog X.w) X.A (eval e X.env) (EP X pins σ Q) X.xe s
def PT(X:Cx)(e:Expr)(t:TT):Prop:=
 ∀ (pins:List (Addr × Obj)) (s:Shared) (σ:St) (H:Hp) (Q:Bool->Hp->Prop),Inv X pins σ H s->t σ H Q->wpAny (model X.prog X.w) X.A (isTrue e X.env (eval e X.env)) (TP X pins σ Q) X.xe s
def PW(X:Cx)(e:Expr)(t:TT):Prop:=
 ∀ (whole:Sem Value) (pins:List (Addr × Obj)) (s:Shared) (σ:St) (H:Hp) (Q:Bool->Hp->Prop),Inv X pins σ H s->t σ H Q->wpAny (model X.prog X.w) X.A (isTrue e X.env whole) (TP X pins σ Q) X.xe s
theorem PW.pt(h:PW X e t):PT X e t:=h _
def PA(X:Cx)(es:List Expr)(t:TA):Prop:=
 ∀ (pos:Pos) (pins:List (Addr × Obj)) (s:Shared) (σ:St) (H:Hp) (Q:List V->Hp->Prop),Inv X pins σ H s->t σ H Q->wpAny (model X.prog X.w) X.A (spliced (backTo pos (Uc es X.env))) (AP X pins σ Q) X.xe s
def PS(X:Cx)(st:Stmt)(t:TS):Prop:=
 ∀ (pins:List (Addr × Obj)) (s:Shared) (σ:St) (H:Hp) (D:Ends),Inv X pins σ H s->t D σ H->wpAny (model X.prog X.w) X.A (exec st X.env) (SP X pins D) X.xe s
def PSs(X:Cx)(st:List Stmt)(t:TS):Prop:=
 ∀ (pins:List (Addr × Obj)) (s:Shared) (σ:St) (H:Hp) (D:Ends),Inv X pins σ H s->t D σ H->wpAny (model X.prog X.w) X.A (execs st X.env) (SP X pins D) X.xe s
theorem thn{α:Type}{t:Sem α}{Q Q':α->Shared->Prop}{M:Model}{A:Around}{E:Value->Shared->Prop}{s:Shared}(h:wpAny M A t Q E s)(hQ:∀a s,Q a s->Q' a s):wpAny M A t Q' E s:=UC h hQ λ_ _ x=>x
section
variable {X:Cx}
def Dt(i:Nat):TE:=λσ H Q=>∃v,σ[i]?=some (some v)/\Q v H
def tC(v:V):TE:=λ_ H Q=>Q v H
theorem tO{i:Nat}(hN:X.N[i]?=some x)(hv:Vis X.env.scope x)(hd:(x == ("__debug__" : Str))=false:=by decide)(hcd:(x == ("__classdict__" : Str))=false:=by decide):PE X (.Name x pos) (Dt i):=by
 intro pins s σ H Q I h;obtain⟨v,e,h⟩:=h;obtain⟨m,hn,hl⟩:=I.loc;obtain⟨u,r,l⟩:=hl i x v hN e hv;have fin:EP X pins σ Q u s:=⟨v,H,I,r,h⟩;rcases l with ⟨hk,hm⟩ |⟨hk,c,hc,hcell⟩
 ·exact wpAny_Name (wpAny_loadName_local I.ok.kind hk hn hm fin) hd
 ·rcases hk with hk |hk
  ·exact wpAny_Name (wpAny_loadName_cell I.ok.kind hk hc hcell fin) hd
  ·exact wpAny_Name (wpAny_loadName_free I.ok.kind hk hc hcell fin hcd) hd
theorem lh{i j pos}:PE X (.Constant (.int i) j pos) (tC (.int i)):=λ_ _ _ H _ I h=>wpAny_Constant_int ⟨.int i,H,I.tok _,⟨_,rfl⟩,h⟩
theorem zp{b j pos}:PE X (.Constant (.bool b) j pos) (tC (.bl b)):=λ_ _ _ H _ I h=>Constant_bool ⟨.bl b,H,I,rfl,h⟩
theorem IA{j pos}:PE X (.Constant .none j pos) (tC .non):=λ_ _ _ H _ I h=>Constant_none ⟨.non,H,I,rfl,h⟩
theorem pR{x j pos}:PE X (.Constant (.str x) j pos) (tC (.str x)):=λ_ _ _ H _ I h=>Calls.Constant_str ⟨.str x,H,I.tok _,⟨_,rfl⟩,h⟩
def Gl(X:Cx)(x:Str):Prop:=X.env.kindOf x=some .globalImplicit
theorem iO(I:Inv X pins σ H s)(hg:Gl X x)(hm:X.mg x=some u)(h:Q u s)
  (hd:(x == ("__debug__" : Str))=false:=by decide):wpAny (model X.prog X.w) X.A (eval (.Name x pos) X.env) Q E s:=
 Wt I.ok.kind hg (Calls.loadGlobal_global (by rw[I.ok.glob];exact I.mod.glob.keeps I.bk) hm h) hd
theorem fG(I:Inv X pins σ H s)(hg:Gl X x)(hm:X.mg x=none)(hv:VA x=some u)(h:Q u s)
  (hn:x ≠ "__name__" := by decide) (hd:(x == ("__debug__" : Str))=false:=by decide):wpAny (model X.prog X.w) X.A (eval (.Name x pos) X.env) Q E s:=by
 obtain⟨mb,h1,h2⟩:=I.mod.blt;exact Wt I.ok.kind hg (Calls.loadGlobal_builtin (by rw[I.ok.glob];exact I.mod.glob.keeps I.bk) hm (by rw[I.ok.blt];exact h1.keeps I.bk) ((h2 x hn).trans hv) h) hd
theorem kO(hg:Gl X x)(hm:X.mg x=some u)(r:aI v u)(hd:(x == ("__debug__" : Str))=false:=by decide):PE X (.Name x pos) (tC v):=
 λ_ _ _ H _ I h=>iO I hg hm ⟨v,H,I,r,h⟩ hd
theorem gz(hg:Gl X x)(hm:X.mg x=none)(hv:VA x=some u)(r:aI v u)(hn:x ≠ "__name__" := by decide)(hd:(x == ("__debug__" : Str))=false:=by decide):PE X (.Name x pos) (tC v):=
 λ_ _ _ H _ I h=>fG I hg hm hv ⟨v,H,I,r,h⟩ hn hd
variable {a b:Expr} {ta tb:TE} {pos:Pos}
def tB(t:TE):TT:=λσ H Q=>t σ H λx H1=>∃c,x = .bl c/\Q c H1
theorem IB{e:Expr}{t:TE}(h:PE X e t)(he:∀whole,isTrue e X.env whole=(do let v <-whole;standAt e.pos;holding [v] (truthy v)):=by intro _;rfl):PT X e (tB t):=by
 intro pins s σ H Q I hw;refine isTrue_plain (thn (h pins s σ H _ I hw) λv s1 ⟨x,H1,I1,r1,q1⟩=>?_) (he _);obtain⟨d,rfl,q⟩:=q1;cases r1;exact UQ ⟨H1,I1,q⟩
variable {tA tB':TT} {rest:List Expr}
def Nl(t u:TT):TT:=λσ H Q=>t σ H λc H1=>if c=true then u σ H1 Q else Q false H1
def tOr(t u:TT):TT:=λσ H Q=>t σ H λc H1=>if c=true then Q true H1 else u σ H1 Q
def Nm(t:TT):TT:=λσ H Q=>t σ H λc H1=>Q (!c) H1
theorem Du(ha:PT X a tA):PW X (.BoolOp .And [a] pos) tA:=by
 intro wh pins s σ H Q I h;refine isTrue_and (thn (ha pins s σ H Q I h) λc s1 e=>?_);cases c with
 |true=>exact isTrue_and_nil e
 |false=>exact e
theorem zq(ha:PT X a tA):PW X (.BoolOp .Or [a] pos) tA:=by
 intro wh pins s σ H Q I h;refine isTrue_or (thn (ha pins s σ H Q I h) λc s1 e=>?_);cases c with
 |false=>exact isTrue_or_nil e
 |true=>exact e
theorem zr(ha:PT X a tA)(hb:PW X (.BoolOp .And (b::rest) pos) tB'):PW X (.BoolOp .And (a::b::rest) pos) (Nl tA tB'):=by
 intro wh pins s σ H Q I h;refine isTrue_and (thn (ha pins s σ H _ I h) λc s1 ⟨H1,I1,q1⟩=>?_);cases c with
 |true=>exact hb wh pins s1 σ H1 Q I1 q1
 |false=>exact⟨H1,I1,q1⟩
theorem zt(ha:PT X a tA)(hb:PW X (.BoolOp .Or (b::rest) pos) tB'):PW X (.BoolOp .Or (a::b::rest) pos) (tOr tA tB'):=by
 intro wh pins s σ H Q I h;refine isTrue_or (thn (ha pins s σ H _ I h) λc s1 ⟨H1,I1,q1⟩=>?_);cases c with
 |true=>exact⟨H1,I1,q1⟩
 |false=>exact hb wh pins s1 σ H1 Q I1 q1
theorem zu(ha:PT X a tA):PT X (.UnaryOp .Not a pos) (Nm tA):=by
 intro pins s σ H Q I h;exact isTrue_not (ha pins s σ H (λc H1=>Q (!c) H1) I h)
def Hd(ta tb:TE):TE:=λσ H Q=>ta σ H λx H1=>∃c,x = .bl c/\if c=true then tb σ H1 Q else Q (.bl false) H1
def Nn(ta tb:TE):TE:=λσ H Q=>ta σ H λx H1=>∃c,x = .bl c/\if c=true then Q (.bl true) H1 else tb σ H1 Q
def He(ta:TE):TE:=λσ H Q=>ta σ H λx H1=>∃c,x = .bl c/\Q (.bl (!c)) H1
theorem zv{op}(h:PE X a t):PE X (.BoolOp op [a] pos) t:=λpins s σ H Q I hw=>BoolOp_one (h pins s σ H Q I hw)
theorem zw(ha:PE X a ta)(hb:PE X (.BoolOp .And (b::rest) pos) tb):PE X (.BoolOp .And (a::b::rest) pos) (Hd ta tb):=by
 intro pins s σ H Q I h;refine BoolOp_and (thn (ha pins s σ H _ I h) λv s1 ⟨x,H1,I1,r1,q1⟩=>?_);obtain⟨c,rfl,q1⟩:=q1;cases r1;refine UQ ?_;cases c with
 |true=>exact hb pins s1 σ H1 Q I1 q1
 |false=>exact⟨.bl false,H1,I1,rfl,q1⟩
theorem Hf(ha:PE X a ta)(hb:PE X (.BoolOp .Or (b::rest) pos) tb):PE X (.BoolOp .Or (a::b::rest) pos) (Nn ta tb):=by
 intro pins s σ H Q I h;refine BoolOp_or (thn (ha pins s σ H _ I h) λv s1 ⟨x,H1,I1,r1,q1⟩=>?_);obtain⟨c,rfl,q1⟩:=q1;cases r1;refine UQ ?_;cases c with
 |false=>exact hb pins s1 σ H1 Q I1 q1
 |true=>exact⟨.bl true,H1,I1,rfl,q1⟩
theorem IC(ha:PE X a ta):PE X (.UnaryOp .Not a pos) (He ta):=by
 intro pins s σ H Q I h;refine UnaryOp_ (thn (ha pins s σ H _ I h) λv s1 ⟨x,H1,I1,r1,q1⟩=>?_);obtain⟨c,rfl,q1⟩:=q1;cases r1;exact not_of (UQ ⟨.bl (!c),H1,I1,rfl,q1⟩)
end
def SqL(K:W6)(H:Hp)(a:Addr)(xs:List V):Prop:=
 Rd H a (.lst xs) ∨
  ∃ (o:Obj) (its:Array Value) (n:Nat),K.lookup a=some o/\o.cls = .type "list"/\o.dict=none/\o.data = .seq its n/\its.size<=sizeLine/\aN xs its.toList
def SqT(K:W6)(H:Hp)(a:Addr)(xs:List V):Prop:=
 Rd H a (.tup xs) ∨
  ∃ (o:Obj) (its:Array Value) (n:Nat),K.lookup a=some o/\o.cls = .type "tuple"/\o.data = .seq its n/\its.size<=sizeLine/\aN xs its.toList
abbrev QB:Value->Option V
 |.none=>some .non
 |.bool b=>some (.bl b)
 |.int i _=>some (.int i)
 |.str x _=>some (.str x)
 |.bytes b _=>some (.byt b)
 |.float b _=>some (.flt b)
 |.ref a=>some (.ref a)
 |.type n=>some (.ty n)
 |_=>none
theorem aI.abs(r:aI x u):QB u=some x:=by
 cases x with
 |non=>cases r;rfl
 |bl _=>cases r;rfl
 |int _=>obtain⟨t,rfl⟩:=r;rfl
 |str _=>obtain⟨t,rfl⟩:=r;rfl
 |byt _=>obtain⟨t,rfl⟩:=r;rfl
 |flt _=>obtain⟨t,rfl⟩:=r;rfl
 |ref _=>cases r;rfl
 |ty _=>cases r;rfl
theorem aI.inj{x y:V}{u:Value}(r:aI x u)(q:aI y u):x=y:=Option.some.inj (r.abs.symm.trans q.abs)
theorem aN.inj:∀ {xs ys:List V} {us:List Value},aN xs us->aN ys us->xs=ys
 |_,_,_,.nil,.nil=>rfl
 |_,_,_,.cons r t,.cons r' t'=>by rw[r.inj r',aN.inj t t']
section
variable {X:Cx} {pins:List (Addr × Obj)} {σ:St} {H:Hp} {s:Shared} {a:Addr} {xs ys:List V}
theorem SqL.of{K:W6}(h:H a=some (.lst xs)):SqL K H a xs:=.inl (.inl h)
theorem SqT.of{K:W6}(h:H a=some (.tup xs)):SqT K H a xs:=.inl (.inl h)
theorem Inv.list(I:Inv X pins σ H s)(h:SqL X.K H a xs):∃its:List Value,aN xs its/\PlainL s.heap a its.toArray/\xs.length<=sizeLine:=by
 rcases h with h |⟨o,its,n,hk,hc,hd,hs,hz,r⟩
 ·obtain⟨z,its,n,r,e⟩:=h.ok I.hok;exact⟨its,r,⟨_,n,e,rfl,rfl,rfl⟩,z⟩
 ·refine⟨its.toList,r,⟨o,n,I.kIn a o hk,hc,hd,by simpa using hs⟩,?_⟩;have e:=r.length;simp only[ZD] at e
  lia
theorem Inv.tuple(I:Inv X pins σ H s)(h:SqT X.K H a xs):∃its:List Value,aN xs its/\IsTup s.heap a its.toArray/\xs.length<=sizeLine:=by
 rcases h with h |⟨o,its,n,hk,hc,hs,hz,r⟩
 ·obtain⟨z,its,r,p⟩:=h.ok I.hok;exact⟨its,r,p.isTup,z⟩
 ·refine⟨its.toList,r,⟨o,I.kIn a o hk,hc,n,by simpa using hs⟩,?_⟩;have e:=r.length;simp only[ZD] at e
  lia
theorem Inv.list_inj(I:Inv X pins σ H s)(h:SqL X.K H a xs)(h':SqL X.K H a ys):xs=ys:=by
 obtain⟨its,r,⟨o,n,e,_,_,d⟩,_⟩:=I.list h;obtain⟨its',r',⟨o',n',e',_,_,d'⟩,_⟩:=I.list h';rw[e] at e';cases e';rw[d] at d';injection d' with d1 _;have:its=its':=by simpa using congrArg Array.toList d1
 subst this;exact r.inj r'
theorem Inv.tuple_inj(I:Inv X pins σ H s)(h:SqT X.K H a xs)(h':SqT X.K H a ys):xs=ys:=by
 obtain⟨its,r,⟨o,e,_,n,d⟩,_⟩:=I.tuple h;obtain⟨its',r',⟨o',e',_,n',d'⟩,_⟩:=I.tuple h';rw[e] at e';cases e';rw[d] at d';injection d' with d1 _;have:its=its':=by simpa using congrArg Array.toList d1
 subst this;exact r.inj r'
end
noncomputable abbrev Cx.wish(X:Cx)(E:Value->Shared->Prop):Cx:={ X with xe:=E }
noncomputable abbrev Cx.nox(X:Cx):Cx:=X.wish λ_ _=>False
theorem Cx.Ok.wish{X:Cx}(ok:X.Ok)(E:Value->Shared->Prop):(X.wish E).Ok:=
 ⟨ok.mod,ok.kind,ok.glob,ok.blt,ok.above,ok.inj,ok.has,ok.cab,ok.hd,ok.frames,ok.stk,ok.exf,ok.bs,ok.bsz,ok.noex,ok.exfs,ok.funs,ok.frf⟩
theorem Cx.Ok.unwish{X:Cx}{E:Value->Shared->Prop}(ok:(X.wish E).Ok):X.Ok:=
 ⟨ok.mod,ok.kind,ok.glob,ok.blt,ok.above,ok.inj,ok.has,ok.cab,ok.hd,ok.frames,ok.stk,ok.exf,ok.bs,ok.bsz,ok.noex,ok.exfs,ok.funs,ok.frf⟩
section
variable {X:Cx} {pins:List (Addr × Obj)} {σ:St} {H:Hp} {s:Shared} {E:Value->Shared->Prop}
theorem Inv.wish(I:Inv X pins σ H s)(E:Value->Shared->Prop):Inv (X.wish E) pins σ H s:=⟨I.ok.wish E,I.os,I.bare,I.base,I.loc,I.cell,I.free,I.freeC,I.pin,I.hok,I.len⟩
theorem Inv.unwish(I:Inv (X.wish E) pins σ H s):Inv X pins σ H s:=⟨I.ok.unwish,I.os,I.bare,I.base,I.loc,I.cell,I.free,I.freeC,I.pin,I.hok,I.len⟩
theorem SP.unwish{D:Ends}{f:Flow}{s':Shared}(h:SP (X.wish E) pins D f s'):SP X pins D f s':=by
 cases f with
 |next=>obtain⟨σ',H',I,q⟩:=h;exact⟨σ',H',I.unwish,q⟩
 |brk=>obtain⟨σ',H',I,q⟩:=h;exact⟨σ',H',I.unwish,q⟩
 |cont=>obtain⟨σ',H',I,q⟩:=h;exact⟨σ',H',I.unwish,q⟩
 |ret u=>obtain⟨v,σ',H',I,r,q⟩:=h;exact⟨v,σ',H',I.unwish,r,q⟩
theorem PT.nox(h:PT X.nox e t):PT X e t:=λpins s σ H Q I hw=>
 UC (h pins s σ H Q (I.wish _) hw) (λ_ _ ⟨H',I',q⟩=>⟨H',I'.unwish,q⟩) λ_ _ z=>False.elim z
theorem PSs.nox{st:List Stmt}{t:TS}(h:PSs X.nox st t):PSs X st t:=λpins s σ H D I hw=>
 UC (h pins s σ H D (I.wish _) hw) (λ_ _ q=>q.unwish) λ_ _ z=>False.elim z
end
section
variable {X:Cx} {st:Stmt} {rest:List Stmt} {t u:TS} {e:Expr} {te:TE} {pos:Pos}
def Hg:TS:=λD σ H=>D.nx σ H
def Np(t u:TS):TS:=λD σ H=>t { D with nx:=u D } σ H
theorem iP:PSs X [] Hg:=λ_ _ σ H _ I h=>Uu ⟨σ,H,I,h⟩
theorem bE(h1:PS X st t)(h2:PSs X rest u):PSs X (st::rest) (Np t u):=by
 intro pins s σ H D I h;refine Ut (thn (h1 pins s σ H { D with nx:=u D } I h) λf s1 q=>?_);cases f with
 |next=>
  obtain⟨σ',H',I',q⟩:=q;exact h2 pins s1 σ' H' D I' q
 |ret v=>exact q
 |brk=>exact q
 |cont=>exact q
theorem iQ(h1:PS X st t):PSs X [st] t:=by
 intro pins s σ H D I h;refine Ut (thn (h1 pins s σ H D I h) λf s1 q=>?_);cases f with
 |next=>exact Uu q
 |ret v=>exact q
 |brk=>exact q
 |cont=>exact q
def Hh:TS:=λD σ H=>D.ct σ H
theorem qZ:PS X (.Continue pos) Hh:=λ_ _ σ H _ I h=>wpAny_Continue ⟨σ,H,I,h⟩
theorem Inv.quiet{pins:List (Addr × Obj)}{σ:St}{H:Hp}{s:Shared}(I:Inv X pins σ H s):interactive X.env=false:=by simp[interactive,I.ok.kind]
def Hi(te:TE):TS:=λD σ H=>te σ H λ_ H1=>D.nx σ H1
theorem vL(he:PE X e te)(hs:Uf e none pos.line X.env=pure false:=by rfl):PS X (.Expr e pos) (Hi te):=by
 intro pins s σ H D I h;exact wpAny_Expr_any (thn (he pins s σ H _ I h) λv s1 ⟨x,H1,I1,r1,q1⟩=>⟨σ,H1,I1,q1⟩) I.quiet hs
def Nq(te:TE):TS:=λD σ H=>te σ H D.rt
theorem tP(he:PE X e te):PS X (.Return (some e) pos) (Nq te):=by
 intro pins s σ H D I h;exact Um (thn (he pins s σ H _ I h) λv s1 ⟨x,H1,I1,r1,q1⟩=>⟨x,σ,H1,I1,r1,q1⟩)
def Nt(c:TT)(t u:TS):TS:=λD σ H=>c σ H λb H1=>if b=true then t D σ H1 else u D σ H1
theorem vM{c:Expr}{a b:List Stmt}{tc:TT}(hc:PT X c tc)(ha:PSs X a t)(hb:PSs X b u):PS X (.If c a b pos) (Nt tc t u):=by
 intro pins s σ H D I h;refine wpAny_If (thn (hc pins s σ H _ I h) λd s1 ⟨H1,I1,q1⟩=>?_);cases d with
 |true=>exact ha pins s1 σ H1 D I1 q1
 |false=>exact hb pins s1 σ H1 D I1 q1
def IE:TS:=λ_ _ _=>False
theorem rd:PS X st IE:=λ_ _ _ _ _ _ h=>h.elim
end
@[inline]abbrev TG:=V->St->Hp->(St->Hp->Prop)->Prop
@[inline]abbrev TGs:=List V->St->Hp->(St->Hp->Prop)->Prop
def PG(X:Cx)(target:Expr)(t:TG):Prop:=
 ∀ (pins:List (Addr × Obj)) (s:Shared) (σ:St) (H:Hp) (v:V) (u:Value) (Q:St->Hp->Prop),Inv X pins σ H s->aI v u->t v σ H Q ->
  wpAny (model X.prog X.w) X.A (assign target X.env u) (λ_ s'=>∃σ' H',Inv X pins σ' H' s'/\Q σ' H') X.xe s
def PGs(X:Cx)(ts:List Expr)(t:TGs):Prop:=
 ∀ (pins:List (Addr × Obj)) (s:Shared) (σ:St) (H:Hp) (vs:List V) (us:List Value) (Q:St->Hp->Prop),Inv X pins σ H s->aN vs us->t vs σ H Q ->
  wpAny (model X.prog X.w) X.A (Vv ((Vu ts X.env).map (·.2)) us) (λ_ s'=>∃σ' H',Inv X pins σ' H' s'/\Q σ' H') X.xe s
@[inline]abbrev Dv:=V->V->V->Hp->(Hp->Prop)->Prop
def IG(X:Cx)(t:Dv):Prop:=
 ∀ (pins:List (Addr × Obj)) (s:Shared) (σ:St) (H:Hp) (o i v:V) (ov iv u:Value) (Q:Hp->Prop),Inv X pins σ H s->aI o ov->aI i iv->aI v u->t o i v H Q ->
  wpAny (model X.prog X.w) X.A (setItem ov iv u) (λ_ s'=>∃H',Inv X pins σ H' s'/\Q H') X.xe s
section
variable {X:Cx} {pos:Pos}
def om(i:Nat):TG:=λv σ H Q=>Q (σ.set i (some v)) H
theorem vN{i:Nat}(hN:X.N.Nodup)(hi:X.N[i]?=some x)(hx:Loc X.env.scope x)(hf:X.fn x=true\/X.env.scope.names.lookup x=some .local:=by first |exact .inl rfl |exact .inr rfl |assumption):PG X (.Name x pos) (om i):=by
 intro pins s σ H v u Q I r h;exact wpAny_assign_Name (cA I hN hi hx r (λs' I'=>⟨_,H,I',h⟩) hf)
def IH:TGs:=λvs σ H Q=>vs=[]/\Q σ H
def vO(t:TG)(u:TGs):TGs:=λvs σ H Q=>∃v r,vs=v::r/\t v σ H λσ' H'=>u r σ' H' Q
theorem vP:PGs X [] IH:=by
 intro pins s σ H vs us Q I r h;obtain⟨e,h⟩:=h;subst e;cases r;exact assignInOrder_nil ⟨σ,H,I,h⟩
theorem ls{e:Expr}{es:List Expr}{t:TG}{u:TGs}(h1:PG X e t)(h2:PGs X es u)
  (hs:(Vu (e::es) X.env).map (·.2)=assign e X.env::(Vu es X.env).map (·.2):=by rfl):PGs X (e::es) (vO t u):=by
 intro pins s σ H vs us Q I r h;obtain⟨v,vr,e1,h⟩:=h;subst e1;cases r with
 |cons r rr=>
  rw[hs];refine assignInOrder_cons (thn (h1 pins s σ H _ _ _ I r h) λ_ s1 ⟨σ1,H1,I1,q1⟩=>?_);exact h2 pins s1 σ1 H1 _ _ Q I1 rr q1
def II(K:W6)(n:Nat)(t:TGs):TG:=λv σ H Q=>∃a xs,v = .ref a/\SqT K H a xs/\xs.length=n/\t xs σ H Q
theorem zx{k:Nat}{n:Nat}(hc:X.calm=true)(h:PGs X es t)
  (hn:(Vu es X.env).length=n:=by rfl) (hst:(Vu es X.env).findIdx? (·.1)=none:=by rfl):PG X (.Tuple es k pos) (II X.K n t):=by
 intro pins s σ H v u Q I r hw;obtain⟨a,xs,e1,hq,hl,hw⟩:=hw;subst e1;cases r;obtain⟨its,rv,ht,hz⟩:=I.tuple hq;refine assign_Tuple_tuple (I.ok.hd hc) ht (by simp[hn,<-hl,rv.length]) hst λh' hx=>?_;have I1:Inv X pins σ H { s with heap:=h' }:=I.kept (t':=s.toks) λb o e=>hx b o (Zx (Zo e)) e;exact h pins _ σ H xs _ Q I1 (by simpa using rv) hw
def zy(to ti:TE)(t:Dv):TG:=λv σ H Q=>to σ H λo H1=>ti σ H1 λi H2=>t o i v H2 λH3=>Q σ H3
theorem tQ{o i:Expr}{to ti:TE}{t:Dv}(ho:PE X o to)(hi:PE X i ti)(hs:IG X t)
  (ha:∀v,assign (.Subscript o i pos) X.env v=(do
   let ov <-holding [v] (eval o X.env)
   let iv <-holding [v,ov] (eval i X.env)
   standAt pos
   holding [v,ov,iv] (setItem ov iv v)
   release [v,ov,iv] []):=by intro _;rfl):PG X (.Subscript o i pos) (zy to ti t):=by
 intro pins s σ H v u Q I r h;rw[ha];refine Uo (Uw (thn (ho pins s σ H _ I h) λov s1 ⟨x,H1,I1,r1,q1⟩=>?_));refine Uo (Uw (thn (hi pins s1 σ H1 _ I1 q1) λiv s2 ⟨y,H2,I2,r2,q2⟩=>?_));refine Uo (UP (Uo (Uw (thn (hs pins s2 σ H2 x y v ov iv u _ I2 r1 r2 r q2) λ_ s3 ⟨H3,I3,q3⟩=>?_))));exact wpAny_release ⟨σ,H3,I3,q3⟩
def xI(te:TE)(g:TG):TS:=λD σ H=>te σ H λx H1=>g x σ H1 D.nx
theorem ju{tg e:Expr}{te:TE}{g:TG}(he:PE X e te)(hg:PG X tg g)(hs:Ug [tg] e pos.line X.env=pure false:=by rfl)(hw:Ue [tg] e X.env=pure none:=by rfl)
  (h1:(Vu [tg] X.env).map (·.2)=[assign tg X.env]:=by rfl):PS X (.Assign [tg] e pos) (xI te g):=by
 intro pins s σ H D I h;refine wpAny_Assign_stores (thn (he pins s σ H _ I h) λv s1 ⟨x,H1,I1,r1,q1⟩=>?_) hs hw;rw[h1];exact thn (hg pins s1 σ H1 x v _ I1 r1 q1) λ_ s2 q=>q
theorem IJ{i:Nat}{x:Str}{e:Expr}{te:TE}{pos':Pos}(hN:X.N.Nodup)(hi:X.N[i]?=some x)(hx:Loc X.env.scope x)(he:PE X e te)(hs:Uf e (some (.Name x pos')) pos.line X.env=pure false:=by rfl)(hf:X.fn x=true\/X.env.scope.names.lookup x=some .local:=by first |exact .inl rfl |exact .inr rfl |assumption) :
  PS X (.Assign [.Name x pos'] e pos) (xI te (om i)):=by
 intro pins s σ H D I h;refine wpAny_Assign_Name (thn (he pins s σ H _ I h) λv s1 ⟨y,H1,I1,r1,q1⟩=>?_) hs;exact cA I1 hN hi hx r1 (λs2 I2=>⟨_,H1,I2,q1⟩) hf
def Nu(i j:Nat)(ta:TA):TS:=λD σ H=>ta σ H λvs H1=>∃v w,vs=[v,w]/\D.nx ((σ.set i (some v)).set j (some w)) H1
theorem IK{i j:Nat}{x y:Str}{a b:Expr}{ta:TA}{px py pt:Pos}{kt k2 pt2}(hc:X.calm=true)(hN:X.N.Nodup)(hi:X.N[i]?=some x)(hj:X.N[j]?=some y)(hij:i ≠ j)
  (hx:X.env.scope.names.lookup x=some .local) (hy:X.env.scope.names.lookup y=some .local) (ha:PA X [a,b] ta)
  (hw:Ue [.Tuple [.Name x px,.Name y py] kt pt] (.Tuple [a,b] k2 pt2) X.env=pure (some [x,y]))
  (hs:Ug [.Tuple [.Name x px,.Name y py] kt pt] (.Tuple [a,b] k2 pt2) pos.line X.env=pure false:=by rfl) :
  PS X (.Assign [.Tuple [.Name x px,.Name y py] kt pt] (.Tuple [a,b] k2 pt2) pos) (Nu i j ta):=by
 intro pins s σ H D I h;rw[exec_Assign_arm];refine Uo (UP ?_);rw[hs];refine Uo (UH ?_);rw[if_neg (by decide)];refine Uo (Tuple_ (thn (ha _ pins s σ H _ I h) λus s1 ⟨vs,H1,I1,r1,q1⟩=>?_));obtain⟨v,w,e1,q1⟩:=q1;subst e1
 obtain⟨u1,u2,rfl,rv,rw'⟩:∃u1 u2,us=[u1,u2]/\aI v u1/\aI w u2:=by
  cases r1 with
  |cons p q=>
   cases q with
   |cons p' q'=>
    cases q';exact⟨_,_,rfl,p,p'⟩
 refine UE ?_ (by show 2<=sizeLine;decide);have I2:Inv X pins σ H1 { s1 with heap:=s1.heap.push { cls:=.type "tuple", data:=.seq [u1,u2].toArray } }:=I1.kept (t':=s1.toks) λb o e=>Zi _ e;rw[hw];refine Uo (UH ?_);show wpAny (model X.prog X.w) X.A (do rule "assign.swapped-stores"; let items <-unpackItems (.ref s1.heap.objs.size) 2 none;Vv [λv=>Vz X.env y v,λv=>Vz X.env x v] items.reverse;pure Flow.next) _ _ _;refine Uo (UN (Uo (unpackItems_tuple (items:=#[u1,u2]) (I.ok.hd hc) (IsTup.new s1.heap _) λh' hx'=>?_)));have I3:=I2.kept (h':=h') (t':=s1.toks) λb o e=>hx' b o (Zx (Zo e)) e;show wpAny _ _ (Vv [λv=>Vz X.env y v,λv=>Vz X.env x v] [u2,u1] >>= λ_=>pure Flow.next) _ _ _;refine Uo (assignInOrder_cons (Up (cA I3 hN hj (.inl hy) rw' (λs2 I4=>?_) (.inr hy))));refine assignInOrder_cons (Up (cA I4 hN hi (.inl hx) rv (λs3 I5=>assignInOrder_nil (UH ?_)) (.inr hx)));rw[Y2 _ _ (Ne.symm hij)] at I5;exact⟨_,H1,I5,q1⟩
end
structure It where
 go:Nat->Hp->Prop
 yld:Nat->Hp->V->Hp->Prop
 stop:Nat->Hp->Prop
def gN(X:Cx)(pins:List (Addr × Obj))(H:Hp)(b:Addr):Prop:=
 H b=none/\b ≠ X.env.locals/\b ∉ X.fs/\(b ∈ X.ex\/X.s₀.heap.objs.size<=b)/\(∀x c,X.env.cells.lookup x=some c->c ≠ b)/\∀p ∈ X.pn++pins,p.1 ≠ b
theorem Inv.fpOk(I:Inv X pins σ H s)(hb:s.heap.objs.size<=b)(hn:H' b=none):gN X pins H' b:=by
 refine⟨hn,XC (Zu I.lt hb),I.nofs hb,.inr (ZF I.sz hb),λx c e z=>?_,λp hp z=>?_⟩
 ·obtain⟨v,q⟩:=I.cell x c e;exact absurd (Zu q.lt (by rw[z];exact hb)) (ZM _)
 ·exact absurd (Zu (Zo (I.pin p hp).1) (by rw[z];exact hb)) (ZM _)
structure Turn(P:Program)(w:World)(K:W6)(tg:Expr)(J:It)(fp:List Addr)(it:Addr)(tn:Nat->Heap->Prop):Prop where
 mem:it ∈ fp
 obj:∀i h,tn i h->∀b ∈ fp,∃o,h.get? b=some o/\∀v,o.data ≠ .cell v
 keep:∀i h h',tn i h->(∀b ∈ fp,∀o,h.get? b=some o->h'.get? b=some o)->tn i h'
 item:∀ (X:Cx),X.prog=P->X.w=w->X.K=K->X.calm=true->∀ (i:Nat) (pins:List (Addr × Obj)) (s:Shared) (σ:St) (H:Hp) (E:Value->Shared->Prop),Inv X pins σ H s->(∀b ∈ fp,gN X pins H b)->tn i s.heap->J.go i H ->
  wpAny (model P w) X.A (pyNext (.ref it)) (λr s1=>∃u,r=some u ∧
   wpAny (model P w) X.A (VS tg (.ref it) u) (λ_ s2=>∃x H',Inv X pins σ H' s2/\aI x u/\J.yld i H x H'/\tn (i+1) s2.heap/\∀b ∈ fp,H' b=none) E s1) E s
 done:∀ (X:Cx),X.prog=P->X.w=w->X.K=K->X.calm=true->∀ (i:Nat) (pins:List (Addr × Obj)) (s:Shared) (σ:St) (H:Hp) (E:Value->Shared->Prop),Inv X pins σ H s->(∀b ∈ fp,gN X pins H b)->tn i s.heap->J.stop i H ->
  wpAny (model P w) X.A (pyNext (.ref it)) (λr s1=>r=none/\Inv X pins σ H s1) E s
 self:∀ (A:Around) (i:Nat) (s:Shared) (Q:Value->Shared->Prop) (E:Value->Shared->Prop),tn i s.heap->Q (.ref it) s->wpAny (model P w) A (pyIter (.ref it)) Q E s
@[inline]abbrev TI:=St->Hp->(It->Hp->Prop)->Prop
def PIE(X:Cx)(pins:List (Addr × Obj))(σ:St)(tg:Expr)(R:It->Hp->Prop)(itv:Value)(s2:Shared):Prop:=
 ∃ (it:Addr) (fp:List Addr) (tn:Nat->Heap->Prop) (J:It) (H':Hp),itv = .ref it/\Inv X pins σ H' s2/\Turn X.prog X.w X.K tg J fp it tn/\tn 0 s2.heap/\(∀b ∈ fp,gN X pins H' b)/\R J H'
def PI(X:Cx)(tg iter:Expr)(wi:TI):Prop:=
 ∀ (pins:List (Addr × Obj)) (s:Shared) (σ:St) (H:Hp) (R:It->Hp->Prop),Inv X pins σ H s->wi σ H R ->
  wpAny (model X.prog X.w) X.A (eval iter X.env) (λv s1=>wpAny (model X.prog X.w) X.A (pyIter v) (PIE X pins σ tg R) X.xe s1) X.xe s
theorem zz(ho:s.heap.get? it=some o)(hc:o.cls = .type n)(hd:o.data = .fields vs)
  (hn:["enumerate", "zip", "dict_itemiterator", "dict_reverseitemiterator", "odict_iterator", "itertools.zip_longest", "itertools.pairwise"].contains n=false) (hQ:Q () s):wpAny M A (VS tg (.ref it) u) Q E s:=by
 unfold VS
 cases tg <;> first
  |exact UH hQ
  | (cases u <;> first
    |exact UH hQ
    | (refine Uo (wpAny_load ho ?_)
       rw[hc,hd];show wpAny M A (if (["enumerate", "zip", "dict_itemiterator", "dict_reverseitemiterator", "odict_iterator", "itertools.zip_longest", "itertools.pairwise"].contains n && vs[0]? == some (rawInt _))=true then _ else _) Q E s;rw[if_neg (by intro h;rw[hn,Xf] at h;cases h)];exact UH hQ))
abbrev Itl(K:W6)(a:Addr):It:=
 ⟨λi H=>∃xs x,SqL K H a xs/\xs[i]?=some x,λi H x H'=>H'=H/\∀xs,SqL K H a xs->xs[i]?=some x,λi H=>∃xs,SqL K H a xs/\xs.length<=i⟩
abbrev Itt(K:W6)(a:Addr):It:=
 ⟨λi H=>∃xs x,SqT K H a xs/\xs[i]?=some x,λi H x H'=>H'=H/\∀xs,SqT K H a xs->xs[i]?=some x,λi H=>∃xs,SqT K H a xs/\xs.length<=i⟩
abbrev Itr(lo:Int)(n:Nat):It:=⟨λi _=>i < n,λi H x H'=>H'=H/\x = .int (lo+i),λi _=>n<=i⟩
theorem xJ{P:Program}{w:World}{K:W6}{tg:Expr}(a it:Addr):Turn P w K tg (Itl K a) [it] it (λi h=>h.IsListIter it a i) where
 mem:=by simp
 obj:=λi h st b hb=>by
  have e:b=it:=by simpa using hb
  subst e;obtain⟨o,e,c,d⟩:=st;exact⟨o,e,λv z=>by rw[d] at z;cases z⟩
 keep:=λi h h' st k=>st.at λo e=>k it (by simp) o e
 item:=by
  show 4;obtain⟨xs,x,hq,hx⟩:=hg;obtain⟨its,rv,p,hz⟩:=I.list hq;obtain⟨u,hu,ru⟩:=rv.get hx;obtain⟨f0,f1,f2,f3,f4,f5⟩:=hf it (by simp);refine wpAny_pyNext_list_item st p.isList (x:=u) (by simpa using hu) λh' st' sb=>?_;have I1:Inv X pins σ H { s with heap:=h' }:=I.turned (t':=s.toks) (λb o hb e=>(sb.2 b hb).trans e) f0 f1 f3 f4 f5;obtain⟨o,e,c,d⟩:=id st';exact⟨u,rfl,zz (s:={ s with heap:=h' }) e c d (by decide) ⟨x,H,I1,ru,⟨rfl,λys hy=>by rw[I.list_inj hy hq];exact hx⟩,st',λb hb=>(hf b hb).1⟩⟩
 done:=by
  show 4;obtain⟨xs,hq,hx⟩:=hg;obtain⟨its,rv,p,hz⟩:=I.list hq;obtain⟨f0,f1,f2,f3,f4,f5⟩:=hf it (by simp);have hl:=rv.length;exact wpAny_pyNext_list_end (I.ok.hd hc) st p.isList (by simp;lia) λh' eb=>⟨rfl,I.turned (t':=s.toks) (λb o hb e=>eb b o hb e) f0 f1 f3 f4 f5⟩
 self:=λ_ _ _ _ _ st h=>wpAny_pyIter_listiter st h
theorem tR{P:Program}{w:World}{K:W6}{tg:Expr}(a it:Addr):Turn P w K tg (Itt K a) [it] it (λi h=>h.IsTupleIter it a i) where
 mem:=by simp
 obj:=λi h st b hb=>by
  have e:b=it:=by simpa using hb
  subst e;obtain⟨o,e,c,d⟩:=st;exact⟨o,e,λv z=>by rw[d] at z;cases z⟩
 keep:=λi h h' st k=>st.at λo e=>k it (by simp) o e
 item:=by
  show 4;obtain⟨xs,x,hq,hx⟩:=hg;obtain⟨its,rv,p,hz⟩:=I.tuple hq;obtain⟨u,hu,ru⟩:=rv.get hx;obtain⟨f0,f1,f2,f3,f4,f5⟩:=hf it (by simp);refine wpAny_pyNext_tuple_item st (show s.heap.IsTuple a its.toArray from p) (x:=u) (by simpa using hu) λh' st' sb=>?_;have I1:Inv X pins σ H { s with heap:=h' }:=I.turned (t':=s.toks) (λb o hb e=>(sb.2 b hb).trans e) f0 f1 f3 f4 f5;obtain⟨o,e,c,d⟩:=id st';exact⟨u,rfl,zz (s:={ s with heap:=h' }) e c d (by decide) ⟨x,H,I1,ru,⟨rfl,λys hy=>by rw[I.tuple_inj hy hq];exact hx⟩,st',λb hb=>(hf b hb).1⟩⟩
 done:=by
  show 4;obtain⟨xs,hq,hx⟩:=hg;obtain⟨its,rv,p,hz⟩:=I.tuple hq;obtain⟨f0,f1,f2,f3,f4,f5⟩:=hf it (by simp);have hl:=rv.length;exact wpAny_pyNext_tuple_end (I.ok.hd hc) st (show s.heap.IsTuple a its.toArray from p) (by simp;lia) λh' eb=>⟨rfl,I.turned (t':=s.toks) (λb o hb e=>eb b o hb e) f0 f1 f3 f4 f5⟩
 self:=λ_ _ _ _ _ st h=>wpAny_pyIter_tupleiter st h
theorem tS{P:Program}{w:World}{K:W6}{tg:Expr}(it:Addr)(lo:Int)(n:Nat):Turn P w K tg (Itr lo n) [it] it (λi h=>IsRangeIter h it (lo+(i:Nat) * 1) ((n:Int) - (i:Nat)) 1) where
 mem:=by simp
 obj:=λi h st b hb=>by
  have e:b=it:=by simpa using hb
  subst e
  exact⟨_,st,λv z=>by
   have z':Data.fields _=Data.cell v:=z;cases z'⟩
 keep:=λi h h' st k=>k it (by simp) _ st
 item:=by
  show 4;obtain⟨f0,f1,f2,f3,f4,f5⟩:=hf it (by simp);have W:=Walks.range (prog:=X.prog) (w:=X.w) (I.ok.hd hc) it lo 1 n;refine W.item i s _ _ hg st λv h' tk hv st' kk=>?_;obtain⟨t,rfl⟩:=hv;have I1:Inv X pins σ H { s with heap:=h',toks:=tk }:=I.turned (λb o hb e=>kk b o (by simpa using hb) e) f0 f1 f3 f4 f5;refine⟨_,rfl,zz (s:={ s with heap:=h',toks:=tk }) (n := "range_iterator") st' rfl rfl (by decide) ⟨.int (lo+i),H,I1,⟨t,?_⟩,⟨rfl,rfl⟩,st',λb hb=>(hf b hb).1⟩⟩;rw[Int.mul_one]
 done:=by
  show 4;obtain⟨f0,f1,f2,f3,f4,f5⟩:=hf it (by simp);exact wpAny_pyNext_range_end (I.ok.hd hc) st (by have:n<=i:=hg;lia) λh' eb=>⟨rfl,I.turned (t':=s.toks) (λb o hb e=>eb b o hb e) f0 f1 f3 f4 f5⟩
 self:=λ_ _ _ _ _ st h=>wpAny_pyIter_rangeiter st h
section
variable {X:Cx} {tg:Expr}
def zA(K:W6)(tl:TE):TI:=λσ H R=>tl σ H λx H1=>∃a,x = .ref a/\(∃xs,SqL K H1 a xs)/\R (Itl K a) H1
def Nv(K:W6)(tl:TE):TI:=λσ H R=>tl σ H λx H1=>∃a,x = .ref a/\(∃xs,SqT K H1 a xs)/\R (Itt K a) H1
theorem vQ{l:Expr}{tl:TE}(hl:PE X l tl):PI X tg l (zA X.K tl):=by
 intro pins s σ H R I h;refine thn (hl pins s σ H _ I h) λv s1 ⟨x,H1,I1,r1,q1⟩=>?_;obtain⟨a,e,⟨xs,hq⟩,q⟩:=q1;subst e;cases r1;obtain⟨its,rv,p,hz⟩:=I1.list hq;refine UJ p.isList ?_;refine⟨s1.heap.objs.size,[s1.heap.objs.size],_,_,H1,rfl,I1.kept (t':=s1.toks) λb o e=>Zi _ e,xJ a _,⟨_,ZB _ rfl,rfl,rfl⟩,λb hb=>?_,q⟩;have e:b=s1.heap.objs.size:=by simpa using hb
 subst e;exact I1.fpOk (Ze _) (I1.hok.fresh (Ze _))
theorem IL{l:Expr}{tl:TE}(hl:PE X l tl):PI X tg l (Nv X.K tl):=by
 intro pins s σ H R I h;refine thn (hl pins s σ H _ I h) λv s1 ⟨x,H1,I1,r1,q1⟩=>?_;obtain⟨a,e,⟨xs,hq⟩,q⟩:=q1;subst e;cases r1;obtain⟨its,rv,p,hz⟩:=I1.tuple hq;refine UK (show s1.heap.IsTuple a its.toArray from p) ?_;refine⟨s1.heap.objs.size,[s1.heap.objs.size],_,_,H1,rfl,I1.kept (t':=s1.toks) λb o e=>Zi _ e,tR a _,⟨_,ZB _ rfl,rfl,rfl⟩,λb hb=>?_,q⟩;have e:b=s1.heap.objs.size:=by simpa using hb
 subst e;exact I1.fpOk (Ze _) (I1.hok.fresh (Ze _))
theorem re{lo hi:Int}{tk:Nat}(I:Inv X pins σ H s)(h1:-(2 ^ 62)<=lo)(h2:lo < 2 ^ 62)(h3:-(2 ^ 62)<=hi)(h4:hi < 2 ^ 62)
  (q:R (Itr lo (hi - lo).toNat) H):wpAny (model X.prog X.w) X.A (pyIter (.ref s.heap.objs.size)) (PIE X pins σ tg R) E { s with heap:=s.heap.push { cls:=.type "range", data:=.fields #[.int lo t,.int hi u,.int 1 v] },toks:=tk }:=by
 refine wpAny_pyIter_range (IsRange.new ..) (small_one h1 h2 h3 h4) ?_;have I1:Inv X pins σ H { s with heap:=s.heap.push { cls:=.type "range", data:=.fields #[.int lo t,.int hi u,.int 1 v] },toks:=tk }:=I.kept λb o e=>Zi _ e
 refine⟨(s.heap.push { cls:=.type "range", data:=.fields #[.int lo t,.int hi u,.int 1 v] }).objs.size,[(s.heap.push { cls:=.type "range", data:=.fields #[.int lo t,.int hi u,.int 1 v] }).objs.size],_,_,H,rfl,
  I1.kept (t':=tk) λb o e=>Zi _ e,tS _ lo (hi - lo).toNat,?_,λb hb=>?_,q⟩
 ·have e1:lo+((0:Nat):Int) * 1=lo:=by simp
  have e2:(((hi - lo).toNat:Nat):Int) - ((0:Nat):Int)=Builtin.Range.rangeSize lo hi 1:=by rw[rangeSize_one];split <;> lia
  show IsRangeIter _ _ (lo+((0:Nat):Int) * 1) ((((hi - lo).toNat:Nat):Int) - ((0:Nat):Int)) 1;rw[e1,e2];exact ZB _ rfl
 ·have e:b=(s.heap.push { cls:=.type "range", data:=.fields #[.int lo t,.int hi u,.int 1 v] }).objs.size:=by simpa using hb
  subst e;exact I1.fpOk (Ze _) (I1.hok.fresh (Ze _))
def Hj(ta:TA):TI:=λσ H R=>ta σ H λvs H1=>∃j:Int,vs=[.int j]/\-(2 ^ 62)<=j/\j < 2 ^ 62/\R (Itr 0 j.toNat) H1
def Hk(ta:TA):TI:=λσ H R=>ta σ H λvs H1=>∃i j:Int,vs=[.int i,.int j]/\(-(2 ^ 62)<=i/\i < 2 ^ 62/\-(2 ^ 62)<=j/\j < 2 ^ 62)/\R (Itr i (j - i).toNat) H1
theorem xK(hg:Gl X "range")(hm:X.mg "range" = none)(ha:PA X [a] ta)(hs:Uc [a] X.env=[(false,eval a X.env)]:=by rfl):PI X tg (.Call (.Name "range" p) [a] [] pos) (Hj ta):=by
 intro pins s σ H R I h;refine Call_ (fG I hg hm boot_range (Wr (thn (ha pos pins s σ H _ I h) λus s1 ⟨vs,H1,I1,r1,q1⟩=>?_) hs rfl));obtain⟨j,e,q1,q2,q⟩:=q1;subst e;cases r1 with
 |cons r rr=>
  cases rr;obtain⟨t,rfl⟩:=r;exact call_range_1 (re I1 (by lia) (by lia) q1 q2 (by simpa using q))
theorem xL(hg:Gl X "range")(hm:X.mg "range" = none)(ha:PA X [a,b] ta)(hs:Uc [a,b] X.env=[(false,eval a X.env),(false,eval b X.env)]:=by rfl)(hs2:Uc [b] X.env=[(false,eval b X.env)]:=by rfl) :
  PI X tg (.Call (.Name "range" p) [a,b] [] pos) (Hk ta):=by
 intro pins s σ H R I h;refine Call_ (fG I hg hm boot_range (Wr (thn (ha pos pins s σ H _ I h) λus s1 ⟨vs,H1,I1,r1,q1⟩=>?_) (by rw[hs,hs2]) (by rw[hs2];rfl)));obtain⟨i,j,e,⟨q1,q2,q3,q4⟩,q⟩:=q1;subst e;cases r1 with
 |cons r rr=>
  cases rr with
  |cons r' rr=>
   cases rr;obtain⟨t,rfl⟩:=r;obtain⟨t',rfl⟩:=r';exact call_range_2 (re I1 q1 q2 q3 q4 q)
def Nw(wi:TI)(g:TG)(tb:TS):TS:=λD σ H=>wi σ H λJ H1=>∃W:Nat->Nat->St->Hp->Prop,(∃m,W 0 m σ H1)/\∀i m σ H,W i m σ H ->
 (J.stop i H/\D.nx σ H)\/(J.go i H/\∃N:St->Hp->Prop,(∀σ' H',N σ' H'->∃m',m' < m/\W (i+1) m' σ' H')/\∀x H',J.yld i H x H'->g x σ H' λσ2 H2=>tb { D with nx:=N,ct:=N,bk:=D.nx } σ2 H2)
abbrev lu(fp:List Addr)(h:Heap):List (Addr × Obj):=fp.filterMap λb=>(h.get? b).map λo=>(b,o)
theorem eN(hb:b ∈ fp)(e:h.get? b=some o):(b,o) ∈ lu fp h:=Yv.mpr ⟨b,hb,by rw[e];rfl⟩
theorem xM(hp:p ∈ lu fp h):p.1 ∈ fp/\h.get? p.1=some p.2:=by
 obtain⟨b,hb,e⟩:=Yv.mp hp;cases q:h.get? b with
 |none=>rw[q] at e;cases e
 |some o=>
  rw[q] at e;have e':(b,o)=p:=Option.some.inj e;subst e';exact⟨hb,q⟩
theorem Inv.pinned(I:Inv X pins σ H s)(hf:∀b ∈ fp,gN X pins H b)(ho:∀b ∈ fp,∃o,s.heap.get? b=some o/\∀v,o.data ≠ .cell v):Inv X (pins++lu fp s.heap) σ H s:=
 I.pins_of λp hp=>(ZG.mp hp).elim (λz=>I.pin p (Zz _ z)) λz=>by
  obtain⟨hb,e⟩:=xM z;obtain⟨f0,f1,f2,_⟩:=hf p.1 hb;obtain⟨o,e',d⟩:=ho p.1 hb;rw[e] at e';cases e';exact⟨e,f0,f1,f2,d⟩
theorem Inv.unpinned(I:Inv X (pins++pl) σ H s):Inv X pins σ H s:=I.pins_of λp hp=>I.pin p (Zz _ (Yn _ hp))
theorem IM(hp:PassesOwn (model X.prog X.w) X.A X.env X.xe)(hc:X.calm=true)(hi:PI X tg iter wi)(hg:PG X tg g)(hb:PSs X body tb)
  (hs:∀x,VN iter X.env x=pure x:=by intro _;rfl):PS X (.For tg iter body [] pos) (Nw wi g tb):=by
 intro pins s σ H D I h;refine wpAny_For (thn (hi pins s σ H _ I h) λv s1 h1=>thn h1 λitv s2 h2=>?_) hs;obtain⟨it,fp,tn,J,H2,e,I2,T,st2,f2,W,⟨m0,w0⟩,turn⟩:=h2;subst e;have stat:∀ {H':Hp},(∀b ∈ fp,H' b=none)->∀b ∈ fp,gN X pins H' b:=λhn b hb=>⟨hn b hb,(f2 b hb).2⟩;refine codeAny_forLoop_any (λn s'=>∃i σ' H',Inv X pins σ' H' s'/\tn i s'.heap/\(∀b ∈ fp,H' b=none)/\W i n σ' H') ?_ m0 ⟨0,σ,H2,I2,st2,λb hb=>(f2 b hb).1,w0⟩;rintro n s3 ⟨i,σ3,H3,I3,st3,fr3,w3⟩;rcases turn i n σ3 H3 w3 with ⟨stop,qn⟩ |⟨go,N,hN,step⟩
 ·refine UG hp (thn (T.done X rfl rfl rfl hc i pins s3 σ3 H3 X.xe I3 (stat fr3) st3 stop) λr s4 ⟨hr,I4⟩=>?_);subst hr;exact Uu ⟨σ3,H3,I4,qn⟩
 ·refine UG hp (thn (T.item X rfl rfl rfl hc i pins s3 σ3 H3 X.xe I3 (stat fr3) st3 go) λr s4 ⟨u,hr,h4⟩=>?_);subst hr;refine UG hp (thn h4 λ_ s5 ⟨x,H5,I5,r5,y5,st5,fr5⟩=>?_);have I5':=I5.pinned (stat fr5) (T.obj _ _ st5);refine UG hp (thn (hg _ s5 σ3 H5 x u _ I5' r5 (step x H5 y5)) λ_ s6 ⟨σ6,H6,I6,q6⟩=>?_);refine UG hp (thn (hb _ s6 σ6 H6 _ I6 q6) λf s7 q7=>?_)
  have again:∀ {σ7:St} {H7:Hp},Inv X (pins++lu fp s5.heap) σ7 H7 s7->N σ7 H7->∃m,m < n/\∃i σ' H',Inv X pins σ' H' s7/\tn i s7.heap/\(∀b ∈ fp,H' b=none)/\W i m σ' H':=λ{σ7 H7} I7 n7=>by
   obtain⟨m',hm,w7⟩:=hN σ7 H7 n7;refine⟨m',hm,i+1,σ7,H7,I7.unpinned,T.keep _ _ _ st5 λb hb o e=>(I7.pin (b,o) (Zz _ (Zz _ (eN hb e)))).1,λb hb=>?_,w7⟩;obtain⟨o,e,d⟩:=T.obj _ _ st5 b hb;exact(I7.pin (b,o) (Zz _ (Zz _ (eN hb e)))).2.1
  cases f with
  |next=>obtain⟨σ7,H7,I7,n7⟩:=q7;exact again I7 n7
  |cont=>obtain⟨σ7,H7,I7,n7⟩:=q7;exact again I7 n7
  |brk=>obtain⟨σ7,H7,I7,q7⟩:=q7;exact⟨σ7,H7,I7.unpinned,q7⟩
  |ret v=>obtain⟨x7,σ7,H7,I7,r7,q7⟩:=q7;exact⟨x7,σ7,H7,I7.unpinned,r7,q7⟩
end
@[inline]abbrev R2:=V->V->Hp->VK->Prop
def OpR(X:Cx)(f:Value->Value->Sem Value)(r:R2):Prop:=
 ∀ (pins:List (Addr × Obj)) (s:Shared) (σ:St) (H:Hp) (x y:V) (v u:Value) (Q:VK),Inv X pins σ H s->aI x v->aI y u->r x y H Q ->
  wpAny (model X.prog X.w) X.A (f v u) (EP X pins σ Q) X.xe s
def UnR(X:Cx)(f:Value->Sem Value)(r:V->Hp->VK->Prop):Prop:=
 ∀ (pins:List (Addr × Obj)) (s:Shared) (σ:St) (H:Hp) (x:V) (v:Value) (Q:VK),Inv X pins σ H s->aI x v->r x H Q ->
  wpAny (model X.prog X.w) X.A (f v) (EP X pins σ Q) X.xe s
def aP(X:Cx)(f:Value)(r:List V->Hp->VK->Prop):Prop:=
 ∀ (pins:List (Addr × Obj)) (s:Shared) (σ:St) (H:Hp) (xs:List V) (us:List Value) (Q:VK),Inv X pins σ H s->aN xs us->r xs H Q ->
  wpAny (model X.prog X.w) X.A (call f us) (EP X pins σ Q) X.xe s
def QC(X:Cx)(r:V->Hp->(Bool->Hp->Prop)->Prop):Prop:=
 ∀ (pins:List (Addr × Obj)) (s:Shared) (σ:St) (H:Hp) (x:V) (v:Value) (Q:Bool->Hp->Prop),Inv X pins σ H s->aI x v->r x H Q ->
  wpAny (model X.prog X.w) X.A (truthy v) (TP X pins σ Q) X.xe s
def tOp(r:R2)(ta tb:TE):TE:=λσ H Q=>ta σ H λx H1=>tb σ H1 λy H2=>r x y H2 Q
def tUn(r:V->Hp->VK->Prop)(ta:TE):TE:=λσ H Q=>ta σ H λx H1=>r x H1 Q
def rI(C:Int->Int->Prop)(g:Int->Int->V):R2:=λx y H Q=>∃i j,x = .int i/\y = .int j/\C i j/\Q (g i j) H
def rI0(g:Int->Int->V):R2:=λx y H Q=>∃i j,x = .int i/\y = .int j/\Q (g i j) H
def rU(g:Int->V):V->Hp->VK->Prop:=λx H Q=>∃i,x = .int i/\Q (g i) H
section
variable {X:Cx} {a b c:Expr} {ta tb tc:TE} {pos:Pos}
theorem IP(ha:PE X a ta)(hb:PE X b tb){pins:List (Addr × Obj)}{s:Shared}{σ:St}{H:Hp}{R:V->V->Hp->Prop}(I:Inv X pins σ H s)
  (h:ta σ H λx H1=>tb σ H1 λy H2=>R x y H2) {Q:Value->Shared->Prop} {f:Value->Value->Sem Value}
  (hf:∀v u s2 x y H2,Inv X pins σ H2 s2->aI x v->aI y u->R x y H2->wpAny (model X.prog X.w) X.A (f v u) Q X.xe s2) :
  wpAny (model X.prog X.w) X.A (eval a X.env) (λv s₁=>wpAny (model X.prog X.w) X.A (eval b X.env) (λu s₂=>wpAny (model X.prog X.w) X.A (f v u) Q X.xe s₂) X.xe s₁) X.xe s:=by
 refine thn (ha pins s σ H _ I h) λv s1 ⟨x,H1,I1,r1,q1⟩=>?_;refine thn (hb pins s1 σ H1 _ I1 q1) λu s2 ⟨y,H2,I2,r2,q2⟩=>?_;exact hf v u s2 x y H2 I2 r1 r2 q2
theorem zB{op:WR}{r:R2}(ho:OpR X (Vy op) r)(ha:PE X a ta)(hb:PE X b tb):PE X (.BinOp a op b pos) (tOp r ta tb):=by
 intro pins s σ H Q I h;exact wpAny_BinOp (IP ha hb I h λv u s2 x y H2 I2 rx ry q=>ho pins s2 σ H2 x y v u Q I2 rx ry q)
theorem Nx(ho:UnR X (unaryOp op) r)(ha:PE X a ta):PE X (.UnaryOp op a pos) (tUn r ta):=by
 intro pins s σ H Q I h;exact UnaryOp_ (thn (ha pins s σ H _ I h) λv s1 ⟨x,H1,I1,r1,q1⟩=>ho pins s1 σ H1 x v Q I1 r1 q1)
theorem opI{f:Value->Value->Sem Value}{C:Int->Int->Prop}{g:Int->Int->Int}
  (rule:∀ (i j:Int) (t u:Tok) (s:Shared) (Q:Value->Shared->Prop) (E:Value->Shared->Prop),C i j->Q (.int (g i j) s.toks) { s with toks:=s.toks+1 }->wpAny (model X.prog X.w) X.A (f (.int i t) (.int j u)) Q E s) :
  OpR X f (rI C λi j=>.int (g i j)):=by
 show 3;obtain⟨i,j,rfl,rfl,hc,q⟩:=h;obtain⟨t,rfl⟩:=rx;obtain⟨t',rfl⟩:=ry;exact rule i j t t' s _ _ hc ⟨.int (g i j),H,I.tok _,⟨_,rfl⟩,q⟩
theorem Ny{f:Value->Value->Sem Value}{g:Int->Int->Int}
  (rule:∀ (i j:Int) (t u:Tok) (s:Shared) (Q:Value->Shared->Prop) (E:Value->Shared->Prop),Q (.int (g i j) s.toks) { s with toks:=s.toks+1 }->wpAny (model X.prog X.w) X.A (f (.int i t) (.int j u)) Q E s) :
  OpR X f (rI0 λi j=>.int (g i j)):=by
 show 3;obtain⟨i,j,rfl,rfl,q⟩:=h;obtain⟨t,rfl⟩:=rx;obtain⟨t',rfl⟩:=ry;exact rule i j t t' s _ _ ⟨.int (g i j),H,I.tok _,⟨_,rfl⟩,q⟩
theorem Dx{f:Value->Value->Sem Value}{g:Int->Int->Bool}
  (rule:∀ (i j:Int) (t u:Tok) (s:Shared) (Q:Value->Shared->Prop) (E:Value->Shared->Prop),Q (.bool (g i j)) s->wpAny (model X.prog X.w) X.A (f (.int i t) (.int j u)) Q E s) :
  OpR X f (rI0 λi j=>.bl (g i j)):=by
 show 3;obtain⟨i,j,rfl,rfl,q⟩:=h;obtain⟨t,rfl⟩:=rx;obtain⟨t',rfl⟩:=ry;exact rule i j t t' s _ _ ⟨.bl (g i j),H,I,rfl,q⟩
def QD(i j:Int):Prop:=0<=j/\j<=1000000/\i.natAbs < 2 ^ 64
def Nz(i j:Int):Prop:=(-(2 ^ 64) < i/\i < 2 ^ 64)\/(-(2 ^ 64) < j/\j < 2 ^ 64)
theorem Nz.ok{i j:Int}(h:Nz i j):IntMulOk i j:=by
 rcases h with ⟨h1,h2⟩ |⟨h1,h2⟩
 ·exact .of_left (intBits_le_64 h1 h2)
 ·exact .of_right (intBits_le_64 h1 h2)
theorem IQ:OpR X (Vy .Add) (rI0 λi j=>.int (i+j)):=Ny λ_ _ _ _ _ _ _ q=>add_int q
theorem IR:OpR X (Vy .Sub) (rI0 λi j=>.int (i - j)):=Ny λ_ _ _ _ _ _ _ q=>sub_int q
theorem IS:OpR X (Vy .Mult) (rI Nz λi j=>.int (i * j)):=opI λ_ _ _ _ _ _ _ hc q=>mul_int q hc.ok
theorem IT:OpR X (Vy .Mod) (rI (λ_ j=>0 < j) λi j=>.int (i % j)):=opI λi j _ _ _ _ _ hc q=>by
 have h1:(0:Int) < j:=hc;exact mod_int' (by lia) (by rw[Int.fmod_eq_emod_of_nonneg i (by lia)];exact q)
theorem IU:OpR X (Vy .Pow) (rI QD λi j=>.int (i ^ j.toNat)):=opI λ_ _ _ _ _ _ _ hc q=>pow_int_small hc.1 hc.2.1 hc.2.2 q
theorem unI{f:Value->Sem Value}{g:Int->Int}
  (rule:∀ (i:Int) (t:Tok) (s:Shared) (Q:Value->Shared->Prop) (E:Value->Shared->Prop),Q (.int (g i) s.toks) { s with toks:=s.toks+1 }->wpAny (model X.prog X.w) X.A (f (.int i t)) Q E s) :
  UnR X f (rU λi=>.int (g i)):=by
 intro pins s σ H x v Q I rx h;obtain⟨i,rfl,q⟩:=h;obtain⟨t,rfl⟩:=rx;exact rule i t s _ _ ⟨.int (g i),H,I.tok _,⟨_,rfl⟩,q⟩
theorem IV:UnR X (unaryOp .USub) (rU λi=>.int (-i)):=unI λ_ _ _ _ _ q=>neg_int q
end
abbrev QE:V->V->Bool
 |.non,.non=>true |.non,.int _=>true |.int _,.non=>true |.non,.bl _=>true |.bl _,.non=>true |.non,.str _=>true |.str _,.non=>true
 |.int _,.int _=>true |.bl _,.bl _=>true |.str _,.str _=>true |.byt _,.byt _=>true
 |.int _,.str _=>true |.str _,.int _=>true |.bl _,.str _=>true |.str _,.bl _=>true
 |_,_=>false
def rNe:R2:=λx y H Q=>QE x y=true/\Q (.bl (!decide (x=y))) H
theorem Dy{i j:Int}:decide (V.int i=V.int j)=(i == j):=by
 rw[Z3];simp
theorem IW:decide (V.bl i=V.bl j)=(i == j):=by
 rw[Z3];simp
theorem Dz:decide (V.str i=V.str j)=(i == j):=by
 rw[Z3];simp
theorem DA:decide (V.byt i=V.byt j)=(i.toList == j.toList):=by
 rw[Z3];cases i;cases j;simp
section
variable {X:Cx} {a b c:Expr} {ta tb tc:TE} {pos:Pos}
theorem bF(I:Inv X pins σ H s)(q:Q (.bl k) H)(e:k=k'):EP X pins σ Q (.bool k') s:=by
 subst e;exact⟨.bl k,H,I,rfl,q⟩
theorem NA:OpR X (VJ .NotEq) rNe:=by
 show 3;obtain⟨hs,q⟩:=h;cases x with
 |non=>
  cases rx;cases y with
  |non=>cases ry;exact PySem.EqNone.ne_none_none (bF I q (by simp))
  |bl j=>cases ry;exact PySem.EqNone.ne_none_bool (bF I q (by simp))
  |int j=>obtain⟨t',rfl⟩:=ry;exact PySem.EqNone.ne_none_int (bF I q (by simp))
  |str j=>obtain⟨t',rfl⟩:=ry;exact PySem.EqNone.ne_none_str (bF I q (by simp))
  |_=>exact absurd (show false=true from hs) Zd
 |bl i=>
  cases rx;cases y with
  |non=>cases ry;exact PySem.EqNone.ne_bool_none (bF I q (by simp))
  |bl j=>cases ry;exact ne_bool (bF I q (congrArg not IW))
  |str j=>obtain⟨t',rfl⟩:=ry;exact PySem.EqMixed.ne_bool_str (bF I q (by simp))
  |_=>exact absurd (show false=true from hs) Zd
 |int i=>
  obtain⟨t,rfl⟩:=rx;cases y with
  |non=>cases ry;exact PySem.EqNone.ne_int_none (bF I q (by simp))
  |int j=>obtain⟨t',rfl⟩:=ry;exact ne_int (bF I q (congrArg not Dy))
  |str j=>obtain⟨t',rfl⟩:=ry;exact PySem.EqMixed.ne_int_str (bF I q (by simp))
  |_=>exact absurd (show false=true from hs) Zd
 |str i=>
  obtain⟨t,rfl⟩:=rx;cases y with
  |non=>cases ry;exact PySem.EqNone.ne_str_none (bF I q (by simp))
  |bl j=>cases ry;exact PySem.EqMixed.ne_str_bool (bF I q (by simp))
  |int j=>obtain⟨t',rfl⟩:=ry;exact PySem.EqMixed.ne_str_int (bF I q (by simp))
  |str j=>obtain⟨t',rfl⟩:=ry;exact ne_str (bF I q (congrArg not Dz))
  |_=>exact absurd (show false=true from hs) Zd
 |byt i=>
  obtain⟨t,rfl⟩:=rx;cases y with
  |byt j=>obtain⟨t',rfl⟩:=ry;exact PySem.W.ne_bytes (bF I q (congrArg not DA))
  |_=>exact absurd (show false=true from hs) Zd
 |_=>cases y <;> exact absurd (show false=true from hs) Zd
theorem NC:OpR X (VJ .Lt) (rI0 λi j=>.bl (decide (i < j))):=Dx λ_ _ _ _ _ _ _ q=>lt_int q
theorem ND:OpR X (VJ .LtE) (rI0 λi j=>.bl (decide (i<=j))):=Dx λ_ _ _ _ _ _ _ q=>le_int q
theorem NF:OpR X (VJ .Gt) (rI0 λi j=>.bl (decide (j < i))):=Dx λ_ _ _ _ _ _ _ q=>gt_int q
theorem NG:OpR X (VJ .GtE) (rI0 λi j=>.bl (decide (j<=i))):=Dx λ_ _ _ _ _ _ _ q=>ge_int q
theorem IX:OpR X (VJ .Is) (λx y H Q=>y = .non/\Q (.bl (decide (x = .non))) H):=by
 show 3;obtain⟨rfl,q⟩:=h;cases ry;refine is_none_gen (bF I q ?_)
 cases x <;> first
  |(cases rx;rfl)
  |(obtain⟨t,rfl⟩:=rx;rfl)
theorem DB:OpR X (VJ .IsNot) (λx y H Q=>y = .non/\Q (.bl (!decide (x = .non))) H):=by
 show 3;obtain⟨rfl,q⟩:=h;cases ry;refine isnot_none_gen (bF I q ?_)
 cases x <;> first
  |(cases rx;rfl)
  |(obtain⟨t,rfl⟩:=rx;rfl)
theorem DC{op:CmpOp}{r:R2}(ho:OpR X (VJ op) r)(ha:PE X a ta)(hb:PE X b tb)(hm:Vx op b=false):PE X (.Compare a [op] [b] pos) (tOp r ta tb):=by
 intro pins s σ H Q I h;exact wpAny_Compare1 (IP ha hb I h λv u s2 x y H2 I2 rx ry q=>ho pins s2 σ H2 x y v u Q I2 rx ry q) hm
def Hl(t:TE):TT:=λσ H Q=>t σ H λx H'=>∃k,x = .bl k/\Q k H'
theorem vR(ho:OpR X (VJ op) r)(ha:PE X a ta)(hb:PE X b tb)(hm:Vx op b=false):PT X (.Compare a [op] [b] pos) (Hl (tOp r ta tb)):=by
 intro pins s σ H Q I h
 refine wpAny_isTrue_Compare1 (thn (ha pins s σ H _ I h) λv s1 ⟨x,H1,I1,r1,q1⟩=>thn (hb pins s1 σ H1 _ I1 q1) λu s2 ⟨y,H2,I2,r2,q2⟩=>
  thn (ho pins s2 σ H2 x y v u _ I2 r1 r2 q2) λc s3 ⟨z,H3,I3,r3,k,e,q3⟩=>?_) hm
 subst e;cases r3;exact UQ ⟨H3,I3,q3⟩
def tU(r r':R2)(ta tb tc:TE):TE:=λσ H Q=>ta σ H λx H1=>tb σ H1 λy H2=>r x y H2 λz H3=>∃k,z = .bl k ∧
 (if k=true then tc σ H3 λw' H4=>r' y w' H4 Q else Q (.bl false) H3)
theorem zC(ho:OpR X (VJ op) r)(ho':OpR X (VJ op') r')(ha:PE X a ta)(hb:PE X b tb)(hc:PE X c tc)
  (hm:lastMarks [op,op'] [b,c]=false:=by with_unfolding_all rfl):PE X (.Compare a [op,op'] [b,c] pos) (tU r r' ta tb tc):=by
 intro pins s σ H Q I h
 refine Compare_chain (thn (ha pins s σ H _ I h) λv s1 ⟨x,H1,I1,r1,q1⟩=>chain_link (thn (hb pins s1 σ H1 _ I1 q1) λu s2 ⟨y,H2,I2,r2,q2⟩=>
  thn (ho pins s2 σ H2 x y v u _ I2 r1 r2 q2) λd s3 ⟨z,H3,I3,r3,k,e,q3⟩=>?_)) hm
 subst e;cases r3;refine UQ ?_;cases k with
 |false=>exact ite_ff ⟨.bl false,H3,I3,rfl,q3⟩
 |true=>exact ite_tt (chain_last (thn (hc pins s3 σ H3 _ I3 q3) λw' s4 ⟨z',H4,I4,r4,q4⟩=>ho' pins s4 σ H4 y z' u w' Q I4 r2 r4 q4))
theorem zD(ho:OpR X (VJ op) r)(ho':OpR X (VJ op') r')(ha:PE X a ta)(hb:PE X b tb)(hc:PE X c tc)
  (hm:lastMarks [op,op'] [b,c]=false:=by with_unfolding_all rfl):PT X (.Compare a [op,op'] [b,c] pos) (Hl (tU r r' ta tb tc)):=by
 intro pins s σ H Q I h
 refine isTrue_chain (thn (ha pins s σ H _ I h) λv s1 ⟨x,H1,I1,r1,q1⟩=>test_link (thn (hb pins s1 σ H1 _ I1 q1) λu s2 ⟨y,H2,I2,r2,q2⟩=>
  thn (ho pins s2 σ H2 x y v u _ I2 r1 r2 q2) λd s3 ⟨z,H3,I3,r3,k,e,q3⟩=>?_)) hm
 subst e;cases r3;refine UQ ?_;cases k with
 |false=>
  obtain⟨k',e',q'⟩:=q3;cases e';exact ite_ff ⟨H3,I3,q'⟩
 |true=>
  refine ite_tt (test_last (thn (hc pins s3 σ H3 _ I3 q3) λw' s4 ⟨z',H4,I4,r4,q4⟩=>thn (ho' pins s4 σ H4 y z' u w' _ I4 r2 r4 q4) λd' s5 ⟨z2,H5,I5,r5,k2,e2,q5⟩=>?_));subst e2;cases r5;exact UQ ⟨H5,I5,q5⟩
def DD(K:W6)(x:V)(H:Hp)(k:Bool):Prop:=
 match x with
 |.non=>k=false
 |.bl b=>k=b
 |.int i=>k=(i != 0)
 |.str y=>y.length<=sizeLine/\k=((y.length:Int) != 0)
 |.byt y=>y.size<=sizeLine/\k=((y.size:Int) != 0)
 |.ref p=>(∃xs,SqL K H p xs/\k = !xs.isEmpty)\/(∃xs,SqT K H p xs/\k = !xs.isEmpty)\/∃kvs,H p=some (.dK kvs)/\k = !kvs.isEmpty
 |_=>False
theorem tV{κ:Type}{kvs:List (κ × V)}{vs:List (κ × Value)}(r:KV kvs vs):(!vs.isEmpty) = !kvs.isEmpty:=by
 cases r <;> rfl
theorem lv{xs:List V}{its:List Value}(r:aN xs its):(!its.toArray.isEmpty) = !xs.isEmpty:=by
 cases r <;> simp
theorem jv:(sizeLine:Nat) < 2 ^ 63:=by rw[Ua];decide
theorem IY:QC X (λx H Q=>∃k,DD X.K x H k/\Q k H):=by
 intro pins s σ H x v Q I rx h;obtain⟨k,e,q⟩:=h;have hl:=jv;have hs:sizeLine=16777216:=Ua;cases x with
 |non=>
  cases rx;have e':k=false:=e;subst e';exact truthy_none ⟨H,I,q⟩
 |bl b=>
  cases rx;have e':k=b:=e;subst e';exact UQ ⟨H,I,q⟩
 |int i=>
  obtain⟨t,rfl⟩:=rx;have e':k=(i != 0):=e;subst e';exact PySem.P.truthy_int ⟨H,I,q⟩
 |str y=>
  obtain⟨t,rfl⟩:=rx;obtain⟨hy,e'⟩:y.length<=sizeLine/\k=((y.length:Int) != 0):=e;subst e';exact PySem.P.truthy_str (by lia) ⟨H,I.tok _,q⟩
 |byt y=>
  obtain⟨t,rfl⟩:=rx;obtain⟨hy,e'⟩:y.size<=sizeLine/\k=((y.size:Int) != 0):=e;subst e';exact PySem.W.truthy_bytes (by lia) ⟨H,I.tok _,q⟩
 |ref p=>
  cases rx;have e':(∃xs,SqL X.K H p xs/\k = !xs.isEmpty)\/(∃xs,SqT X.K H p xs/\k = !xs.isEmpty)\/∃kvs,H p=some (.dK kvs)/\k = !kvs.isEmpty:=e;rcases e' with ⟨xs,hx,e'⟩ |⟨xs,hx,e'⟩ |⟨kvs,hx,e'⟩
  ·subst e';obtain⟨its,r,pl,hz⟩:=I.list hx;have hlen:=r.length;exact wpAny_truthy_list pl.isList (by simp only[Zl];lia) ⟨H,I.tok _,by rw[lv r];exact q⟩
  ·subst e';obtain⟨its,r,pl,hz⟩:=I.tuple hx;have hlen:=r.length;exact truthy_tuple pl (by simp only[Zl];lia) ⟨H,I.tok _,by rw[lv r];exact q⟩
  ·subst e';obtain⟨hz,hS,vs,r,m⟩:kvs.length<=sizeLine/\(p == Uh)=false/\∃vs,KV kvs vs/\s.heap.DictOf (bZ X.prog X.w) p vs:=I.hok p _ hx;have hlen:kvs.length=vs.length:=Paired.length r;exact wpAny_truthy_dict hS m (by lia) ⟨H,I.tok _,by rw[tV r];exact q⟩
 |_=>exact(show False from e).elim
theorem zE(ha:PE X a ta)(he:∀whole,isTrue a X.env whole=(do let v <-whole;standAt a.pos;holding [v] (truthy v))) :
  PT X a (λσ H Q=>ta σ H λx H'=>∃k,DD X.K x H' k/\Q k H'):=by
 intro pins s σ H Q I h;exact isTrue_plain (thn (ha pins s σ H _ I h) λv s1 ⟨x,H1,I1,r1,q1⟩=>IY pins s1 σ H1 x v Q I1 r1 q1) (he _)
theorem tW:OpR X (Vy .Add) (λx y H Q=>∃i j,x = .str i/\y = .str j/\i.length+j.length<=sizeLine/\Q (.str (i++j)) H):=by
 show 3;obtain⟨i,j,rfl,rfl,hz,q⟩:=h;obtain⟨t,rfl⟩:=rx;obtain⟨t',rfl⟩:=ry;exact add_str (λt' tk=>⟨.str (i++j),H,I.tok _,⟨_,rfl⟩,q⟩) hz
theorem b5(r:aN [x] us):∃u,us=[u]/\aI x u:=by
 cases r with
 |cons r1 r2=>cases r2;exact⟨_,rfl,r1⟩
theorem vS(r:aN [x,y] us):∃u w',us=[u,w']/\aI x u/\aI y w':=by
 cases r with
 |cons r1 r2=>
  cases r2 with
  |cons r3 r4=>cases r4;exact⟨_,_,rfl,r1,r3⟩
theorem xN(hc:X.calm=true):aP X (.builtin "max") (λxs H Q=>∃i j,xs=[.int i,.int j]/\Q (.int (if j > i then j else i)) H):=by
 show 8;obtain⟨i,j,rfl,q⟩:=h;obtain⟨u,w',rfl,⟨t,rfl⟩,⟨t',rfl⟩⟩:=vS r;refine max_two_ints (I.ok.hd hc) λh' tk k=>⟨_,H,I.kept k,?_,q⟩;by_cases hj:j > i
 ·rw[if_pos hj,if_pos hj];exact⟨_,rfl⟩
 ·rw[if_neg hj,if_neg hj];exact⟨_,rfl⟩
theorem xO(hc:X.calm=true):aP X (.builtin "min") (λxs H Q=>∃i j,xs=[.int i,.int j]/\Q (.int (if j < i then j else i)) H):=by
 show 8;obtain⟨i,j,rfl,q⟩:=h;obtain⟨u,w',rfl,⟨t,rfl⟩,⟨t',rfl⟩⟩:=vS r;refine min_two_ints (I.ok.hd hc) λh' tk k=>⟨_,H,I.kept k,?_,q⟩;by_cases hj:j < i
 ·rw[if_pos hj,if_pos hj];exact⟨_,rfl⟩
 ·rw[if_neg hj,if_neg hj];exact⟨_,rfl⟩
theorem xP:aP X (.type "int") (λxs H Q=>(∃i,xs=[.int i]/\Q (.int i) H)\/∃k,xs=[.bl k]/\Q (.int (if k then 1 else 0)) H):=by
 show 8;rcases h with ⟨i,rfl,q⟩ |⟨k,rfl,q⟩
 ·obtain⟨u,rfl,t,rfl⟩:=b5 r;exact call_int_int ⟨.int i,H,I,⟨_,rfl⟩,q⟩
 ·obtain⟨u,rfl,r1⟩:=b5 r;cases r1;exact call_int_bool ⟨.int (if k then 1 else 0),H,I.tok _,⟨_,rfl⟩,q⟩
end
structure ObjM(h:Heap)(x dx C:Addr)(mA:Str->Option Value):Prop where
 obj:h.get? x=some (Vg C dx)
 ns:h.Ns1 dx mA
 ne:dx ≠ x
theorem xQ{h:Heap}{dx:Addr}{mA:Str->Option Value}(n:h.Ns1 dx mA):∃od,h.get? dx=some od/\∀name,Vo name od=some (mA name):=by
 obtain⟨o,es,ep,ho,hd,hk,_,hm⟩:=n;refine⟨o,ho,λname=>?_⟩;have e:=hm name;unfold nsFind findBy at e;rw[<-Array.find?_toList] at e;unfold Vo;rw[hd];dsimp only;split
 ·rename_i y q;rw[q] at e;exact congrArg some e
 ·rename_i q;rw[q] at e
  have a:es.toList.any (·.refKey)=false:=by
   rw[List.any_eq_false];intro y hy;obtain⟨z,t,hkey⟩:=hk y (Xg.mp hy);simp[DictEntry.refKey,hkey]
  have a':¬ es.toList.any (·.refKey)=true:=by rw[a];exact Zd
  rw[if_neg a'];exact congrArg some e
theorem ObjM.look(I:ObjM h x dx C mA):∃od,PySem.W.InstAt h x (Vg C dx) C (some od)/\∀name,Vo name od=some (mA name):=
 let ⟨od,ho,hl⟩:=xQ I.ns
 ⟨od,⟨I.obj,rfl,rfl,ho⟩,hl⟩
section
variable {P:Program} {w:World} {H H':Hp} {h h':Heap} {a C dx:Addr} {fs fs':List (Str × V)}
theorem DE(hok:HOk P w H h)(e:H a=some (.ins C dx fs)):∃mA,ObjM h a dx C mA/\(∀f,Iz (fs.lookup f) (mA f))/\PySem.Within mA (fs.map (·.1))/\fs.length<=1000/\H dx=some (.own a):=by
 obtain⟨d,z,ne,ob,mA,n,r,q⟩:=(show bq P w H h a (.ins C dx fs) from hok a _ e);exact⟨mA,⟨ob,n,ne⟩,r,q,z,d⟩
end
structure Cls(K:W6)(C:Addr):Prop where
 pg:Vs K C Str.empty=true
 hd:PySem.W.hasDictIn K C=true
 po:PySem.W.plainOver K C=true
 sa:Vc K (.ref C) "__setattr__" = some (some (.builtin "object.__setattr__"))
theorem Cls.get{K:W6}{C:Addr}(c:Cls K C)(f:Str):Vs K C f=true:=c.pg
section
variable {X:Cx} {pins:List (Addr × Obj)} {σ:St} {H:Hp} {s:Shared} {A:Around} {E:Value->Shared->Prop} {Q:Value->Shared->Prop} {c:Value} {b:Bool}
inductive TyOf(K:W6)(H:Hp):V->Value->Prop where
 |non:TyOf K H .non (.type "NoneType")
 |bl (x:Bool):TyOf K H (.bl x) (.type "bool")
 |int (i:Int):TyOf K H (.int i) (.type "int")
 |str (x:Str):TyOf K H (.str x) (.type "str")
 |flt (x:UInt64):TyOf K H (.flt x) (.type "float")
 |lst {a:Addr} {xs:List V} (e:H a=some (.lst xs)):TyOf K H (.ref a) (.type "list")
 |frz {a:Addr} {o:Obj} {xs:List V} (e:H a=some (.frz o (.lst xs))):TyOf K H (.ref a) (.type "list")
 |tup {a:Addr} {xs:List V} (e:H a=some (.tup xs)):TyOf K H (.ref a) (.type "tuple")
 |dK {a:Addr} {kvs:List (Key × V)} (e:H a=some (.dK kvs)):TyOf K H (.ref a) (.type "dict")
 |dT {a:Addr} {kvs:List (List Key × V)} (e:H a=some (.dT kvs)):TyOf K H (.ref a) (.type "dict")
 |ins {a C dx:Addr} {fs:List (Str × V)} (e:H a=some (.ins C dx fs)) (cl:Cls K C) (ha:Vc K (.ref C) "__class__" = some (some (.builtin "object.__class__")))
   (hn:PySem.W.specialIn K (.builtin "object.__class__") "__get__" = some (some (.builtin "getset_descriptor.__get__"))) (htk:PySem.W.takesIn K (.builtin "object.__class__")=some true)
   (hm:Vq K C (.type "object")=some true):TyOf K H (.ref a) (.ref C)
theorem xR(I:Inv X pins σ H s)(rx:aI x u)(ty:TyOf X.K H x t)(e:Vl X.K t c=some b)(h:∀tk,Q (.bool b) { s with toks:=tk }) :
  wpAny (model X.prog X.w) A (call (.builtin "isinstance") [u,c]) Q E s:=by
 cases ty with
 |non=>cases (show u=Value.none from rx);exact Vj PySem.W.kitx_none I.kIn True.intro e (λz=>nomatch z) h
 |bl y=>cases (show u=Value.bool y from rx);exact Vj PySem.W.kitx_bool I.kIn True.intro e (λz=>nomatch z) h
 |int i=>obtain⟨t,q⟩:=(show ∃t,u=Value.int i t from rx);cases q;exact Vj PySem.W.kitx_int I.kIn True.intro e (λz=>nomatch z) h
 |str y=>obtain⟨t,q⟩:=(show ∃t,u=Value.str y t from rx);cases q;exact Vj PySem.W.kitx_str I.kIn True.intro e (λz=>nomatch z) h
 |flt y=>obtain⟨t,q⟩:=(show ∃t,u=Value.float y t from rx);cases q;exact Vj PySem.W.kitx_float I.kIn True.intro e (λz=>nomatch z) h
 |@lst a xs ea=>
  cases (show u=Value.ref a from rx);obtain⟨_,_,n,_,h1⟩:=(show bq X.prog X.w H s.heap a (.lst xs) from I.hok a _ ea);exact Vj Vn I.kIn ⟨_,h1,rfl⟩ e (λz=>nomatch z) h
 |@frz a ob xs ea=>
  cases (show u=Value.ref a from rx);obtain⟨_,_,_,n,_,h1⟩:=(show bq X.prog X.w H s.heap a (.frz ob (.lst xs)) from I.hok a _ ea);exact Vj Vn I.kIn ⟨_,h1,rfl⟩ e (λz=>nomatch z) h
 |@tup a xs ea=>
  cases (show u=Value.ref a from rx);obtain⟨_,_,_,p⟩:=(show bq X.prog X.w H s.heap a (.tup xs) from I.hok a _ ea);obtain⟨o,h1,h2,_⟩:=p;exact Vj PySem.W.kitx_tuple I.kIn ⟨o,h1,h2⟩ e (λz=>nomatch z) h
 |@dK a kvs ea=>
  cases (show u=Value.ref a from rx);obtain⟨_,_,vs,_,p⟩:=(show bq X.prog X.w H s.heap a (.dK kvs) from I.hok a _ ea);obtain⟨o,es,ep,h1,h2,_⟩:=p;exact Vj Vm I.kIn ⟨o,h1,h2.1⟩ e (λz=>nomatch z) h
 |@dT a kvs ea=>
  cases (show u=Value.ref a from rx);obtain⟨_,_,xs,_,o,es,ep,h1,h2,_⟩:=(show bq X.prog X.w H s.heap a (.dT kvs) from I.hok a _ ea);exact Vj Vm I.kIn ⟨o,h1,h2.1⟩ e (λz=>nomatch z) h
 |@ins a C dx fs ea cl ha hn htk hm=>
  cases (show u=Value.ref a from rx);obtain⟨mA,O,_⟩:=DE I.hok ea;obtain⟨od,J,_⟩:=O.look;exact Vj (PySem.W.kitx_own (cl.get _) cl.hd ha hn htk hm) I.kIn J e (λz=>nomatch z) h
end
structure Room(k:Nat)(A:Around):Prop where
 hd:A.handled=none
 dp:A.depth+3 * k+5 < recursionLimit
 un:A.units+16 * k+200 < cLine
 gd:A.guards=some []
theorem Room.deeper{k:Nat}(r:Room (k+1) A)(env:Env):Room k (A.deeper env):=
 ⟨r.hd,by have:=r.dp;show A.depth+1+3 * k+5 < _;lia,by have:=r.un;show A.units+3+16 * k+200 < _;lia,r.gd⟩
theorem Room.depth{k:Nat}(r:Room k A):A.depth < recursionLimit:=by have:=r.dp;lia
theorem Room.units{k:Nat}(r:Room k A):A.units+64 < cLine:=by have:=r.un;lia
def jw:TA:=λ_ H Q=>Q [] H
def cP(ta:TE)(tr:TA):TA:=λσ H Q=>ta σ H λx H1=>tr σ H1 λxs H2=>Q (x::xs) H2
section
variable {X:Cx} {e:Expr} {es:List Expr} {te:TE} {t:TA} {pos:Pos}
theorem pS:PA X [] jw:=λ_ _ _ _ H Q I h=>Calls.spliced_nil ⟨[],H,I,.nil,h⟩
theorem DF(ha:PE X e te)(hr:PA X es t)(hs:Uc (e::es) X.env=(false,eval e X.env)::Uc es X.env:=by rfl):PA X (e::es) (cP te t):=by
 intro pos pins s σ H Q I h;rw[hs];show wpAny _ _ (spliced ((false,eval e X.env)::backTo pos (Uc es X.env))) _ _ s;refine Calls.spliced_cons (thn (ha pins s σ H _ I h) λu s1 ⟨x,H1,I1,r1,q1⟩=>?_);exact thn (hr pos pins s1 σ H1 _ I1 q1) λus s2 ⟨xs,H2,I2,r2,q2⟩=>⟨x::xs,H2,I2,.cons r1 r2,q2⟩
def NH(t:TA):TE:=λσ H Q=>t σ H λxs H1=>xs.length<=sizeLine/\∀p,H1 p=none->Q (.ref p) (upd H1 p (.tup xs))
def NI(t:TA):TE:=λσ H Q=>t σ H λxs H1=>xs.length<=sizeLine/\∀p,H1 p=none->Q (.ref p) (upd H1 p (.lst xs))
theorem IZ{x1}(h:PA X es t):PE X (.Tuple es x1 pos) (NH t):=by
 intro pins s σ H Q I hq;refine wpAny_Tuple_spliced (thn (h pos pins s σ H _ I hq) λus s1 ⟨xs,H1,I1,r,z,q⟩=>⟨by rw[<-r.length];exact z,?_⟩);have hf:H1 s1.heap.objs.size=none:=I1.hok.fresh (Ze _);refine⟨.ref s1.heap.objs.size,upd H1 s1.heap.objs.size (.tup xs),I1.laid (t':=s1.toks) (λb u e=>Zi _ e) (Ze _) ?_,rfl,q _ hf⟩;exact⟨z,us,r,pP.new _ _⟩
theorem jx(h:PA X es t):PE X (.List es pos) (NI t):=by
 intro pins s σ H Q I hq;refine wpAny_List_spliced (thn (h pos pins s σ H _ I hq) λus s1 ⟨xs,H1,I1,r,z,q⟩=>⟨by rw[<-r.length];exact z,?_⟩);have hf:H1 s1.heap.objs.size=none:=I1.hok.fresh (Ze _);refine⟨.ref s1.heap.objs.size,upd H1 s1.heap.objs.size (.lst xs),I1.laid (t':=s1.toks) (λb u e=>Zi _ e) (Ze _) ?_,rfl,q _ hf⟩;exact⟨z,us,0,r,ZB _ rfl⟩
end
@[inline]abbrev Sp:=List V->Hp->VK->XK->Prop
@[inline]abbrev CXT:=List Env->Hp->Shared->XK->Value->Shared->Prop
structure Env0(P:Program)(w:World)(K:W6)(mg:Str->Option Value)(base:Heap)(A:Around)(outer:List Env)(s:Shared)(H:Hp):Prop where
 frames:A.frames=some outer
 mod:Mod K mg base
 bs:∀b o,base.get? b=some o->s.heap.get? b=some o/\H b=none
 bsz:base.objs.size<=s.heap.objs.size
 funs:s.heap.FunFrames base outer
 frf:∀b ∈ frs outer,H b=none
 hok:HOk P w H s.heap
 bare:AllBare s.gens
def CE(outer:List Env)(P:Program)(w:World)(H:Hp)(s:Shared)(Q:VK)(u:Value)(s':Shared):Prop:=
 ∃v H',s'.os=s.os/\AllBare s'.gens/\Un (frs outer) [] H H' s.heap s'.heap/\HOk P w H' s'.heap/\aI v u/\Q v H'
def CR(CX:CXT)(outer:List Env)(P:Program)(w:World)(H:Hp)(s:Shared)(Q:VK)(E:XK)(r:Result)(s':Shared):Prop:=
 match r with
 |.ok (.ret u)=>CE outer P w H s Q u s'
 |.ok _=>False
 |.error e=>CX outer H s E e s'
structure FnOk(P:Program)(w:World)(K:W6)(mg:Str->Option Value)(base:Heap)(CX:CXT)(k:Nat)(f:Addr)(fd:WN)(ps:List Str)(sp:Sp):Prop where
 len:∀vs H Q E,sp vs H Q E->vs.length=ps.length
 run:∀ (A:Around) (outer:List Env) (s:Shared) (H:Hp) (args:Args) (us:List Value) (vs:List V) (Q:VK) (E:XK),Room k A->Env0 P w K mg base A outer s H->BindsTo s fd args (ps.zip us)->aN vs us->sp vs H Q E ->
  codeAny (model P w) A (.call (.ref f) args) (CR CX outer P w H s Q E) s
theorem FnOk.imp{P:Program}{w:World}{K:W6}{mg:Str->Option Value}{base:Heap}{CX:CXT}{k:Nat}{f:Addr}{fd:WN}{ps:List Str}{sp sp':Sp}(F:FnOk P w K mg base CX k f fd ps sp)
  (h:∀vs H Q E,sp' vs H Q E->sp vs H Q E):FnOk P w K mg base CX k f fd ps sp':=
 ⟨λvs H Q E q=>F.len vs H Q E (h _ _ _ _ q),λA outer s H args us vs Q E hr he hb hv hs=>F.run A outer s H args us vs Q E hr he hb hv (h _ _ _ _ hs)⟩
section
variable {X:Cx} {pins:List (Addr × Obj)} {σ:St} {H:Hp} {s s':Shared}
theorem Inv.env0(I:Inv X pins σ H s):Env0 X.prog X.w X.K X.mg X.base X.A X.stack s H:=
 ⟨I.ok.frames,I.ok.mod,I.bs,ZF I.ok.bsz I.sz,I.stack,I.stkFree,I.hok,I.bare⟩
theorem Inv.after(I:Inv X pins σ H s)(h:CE X.stack X.prog X.w H s Q u s'):EP X pins σ Q u s':=by
 obtain⟨v,H',os,bare,un,hok,r,q⟩:=h;obtain⟨hh,g,d,t,os'⟩:=s';obtain rfl:os'=s.os:=os;exact⟨v,H',I.call (h':=hh) (g':=g) (d':=d) (t':=t) (ch:=[]) un hok bare (λb z=>absurd z (by simp)),r,q⟩
end
def Hm(sp:Sp)(dvs:List V)(E:XK)(t:TA):TE:=λσ H Q=>t σ H λvs H1=>sp (vs++dvs) H1 Q E
def cV(K:W6)(fd:WN)(ps:List Str)(ds:List Value):Prop:=
 ∀ (s:Shared) (us:List Value),K.In s.heap->(us++ds).length=ps.length->BindsTo s fd ⟨us,[]⟩ (ps.zip (us++ds))
theorem cV.all{K:W6}{fd:WN}{ps:List Str}(h:∀us:List Value,us.length=ps.length->bindArgs fd ⟨us,[]⟩=pure (ps.zip us)):cV K fd ps []:=λs us _ hl=>by
 rw[ZU] at hl ⊢;exact .of_eq (h us hl)
def lw(CX:CXT)(X:Cx)(E:XK):Prop:=∀ (pins:List (Addr × Obj)) (σ:St) (H:Hp) (s:Shared) (e:Value) (s':Shared),Inv X pins σ H s->CX X.stack H s E e s'->X.xe e s'
section
variable {X:Cx} {CX:CXT} {k:Nat} {f C:Addr} {fd:WN} {ps:List Str} {sp:Sp} {dvs:List V} {ds:List Value} {E:XK} {x m:Str} {p pos apos:Pos} {e o:Expr} {es:List Expr} {ta:TE} {t:TA}
theorem Ja(F:FnOk X.prog X.w X.K X.mg X.base CX k f fd ps sp)(hr:Room k X.A)(hb:cV X.K fd ps ds)(hd:aN dvs ds)(hx:lw CX X E)
  (I:Inv X pins σ H s) (r:aN vs us) (h:sp (vs++dvs) H Q E):wpAny (model X.prog X.w) X.A (call (.ref f) us) (EP X pins σ Q) X.xe s:=by
 have r2:aN (vs++dvs) (us++ds):=r.append hd;have hl:(us++ds).length=ps.length:=by rw[<-r2.length];exact F.len _ _ _ _ h
 refine wpAny_call (VI (F.run X.A X.stack s H ⟨us,[]⟩ (us++ds) (vs++dvs) Q E hr I.env0 (hb s us I.kIn hl) r2 h) λr s' hq=>?_);cases r with
 |error e=>exact hx pins σ H s e s' I hq
 |ok fl=>
  cases fl with
  |ret u=>exact I.after hq
  |next=>exact False.elim hq
  |brk=>exact False.elim hq
  |cont=>exact False.elim hq
theorem vT(F:FnOk X.prog X.w X.K X.mg X.base CX k f fd ps sp)(hr:Room k X.A)(hg:Gl X x)(hm:X.mg x=some (.ref f))(hk:Vi X.K (.ref f)=true)(hb:cV X.K fd ps ds)(hd:aN dvs ds)(hx:lw CX X E)
  (ha:PA X (e::es) t) (hdb:(x == ("__debug__" : Str))=false:=by decide) (he:Uc (e::es) X.env=(false,eval e X.env)::Uc es X.env:=by rfl) (hpl:(backTo pos (Uc es X.env)).any (·.1)=false:=by rfl) :
  PE X (.Call (.Name x p) (e::es) [] pos) (Hm sp dvs E t):=by
 intro pins s σ H Q I h;refine Ul (iO I hg hm ?_ hdb);refine W7 (h₀:=X.base) I.ok.mod.kin hk (thn (ha pos pins s σ H _ I h) λus s1 ⟨vs,H1,I1,r,q⟩=>⟨I1.kIn,?_⟩) he hpl;exact Ja F hr hb hd hx I1 r q
end
def PK(X:Cx)(kws:List Keyword)(t:TA):Prop:=
 ∀ (pos:Pos) (pins:List (Addr × Obj)) (s:Shared) (σ:St) (H:Hp) (Q:List V->Hp->Prop),Inv X pins σ H s->t σ H Q->wpAny (model X.prog X.w) X.A (evalAll ((Vw pos (VR kws X.env)).map (·.2))) (AP X pins σ Q) X.xe s
section
variable {X:Cx} {CX:CXT} {k:Nat} {f C:Addr} {fd:WN} {ps ks:List Str} {sp:Sp} {E:XK} {x m:Str} {p pos apos kpos:Pos} {e o:Expr} {es:List Expr} {kws:List Keyword} {te ta:TE} {t tk:TA} {nm:Option Str}
theorem Jb:PK X [] jw:=λ_ _ _ _ H Q I h=>wpAny_evalAll_nil ⟨[],H,I,.nil,h⟩
theorem DG(ha:PE X e te)(hr:PK X kws t):PK X (⟨nm,e,kpos⟩::kws) (cP te t):=by
 intro pos pins s σ H Q I h;show wpAny _ _ (evalAll ((do let v <-eval e X.env;standAt pos;pure v)::(Vw pos (VR kws X.env)).map (·.2))) _ _ s;refine wpAny_evalAll_cons (Uo (thn (ha pins s σ H _ I h) λu s1 ⟨x,H1,I1,r1,q1⟩=>Uo (UP (UH ?_))));exact thn (hr pos pins s1 σ H1 _ I1 q1) λus s2 ⟨xs,H2,I2,r2,q2⟩=>⟨x::xs,H2,I2,.cons r1 r2,q2⟩
variable {g:List Value->List Value->List Value} {gV:List V->List V->List V}
end
structure FnScope(N P:List Str)(sc:Scope):Prop where
 kind:sc.kind = .function
 co:sc.isCoroutine=false
 gen:sc.isGenerator=false
 nd:N.Nodup
 pre:N.take P.length=P
 par:∀x ∈ P,sc.names.lookup x=some .local\/sc.names.lookup x=some .cell
 nofree:∀y ∈ sc.names,y.2 ≠ .free
theorem oo{kindOf:Str->Option WQ}{x:Str}:∀ {binds:List (Str × Value)} {m:Str->Option Value},(∀v,(x,v) ∉ binds)->bindL kindOf binds m x=m x
 |[],_,_=>rfl
 |(n,v)::r,m,h=>by
  unfold bindL;rw[oo λw hw=>h w (Zf _ hw)];split
  ·have:x ≠ n:=by rintro rfl;exact h v Zg
   simp[this]
  ·rfl
theorem oq{kindOf:Str->Option WQ}{x:Str}:∀ {binds:List (Str × Value)} {m:Str->Option Value},(∀v,(x,v) ∉ binds)->bindC kindOf binds m x=m x
 |[],_,_=>rfl
 |(n,v)::r,m,h=>by
  unfold bindC;rw[oq λw hw=>h w (Zf _ hw)];split
  ·rfl
  ·have:x ≠ n:=by rintro rfl;exact h v Zg
   simp[this]
theorem ou{kindOf:Str->Option WQ}{x:Str}{v:Value}:∀ {P:List Str} {vs:List Value} {i:Nat} {m:Str->Option Value},P.Nodup->P[i]?=some x->vs[i]?=some v->kindOf x=some .local ->
  bindL kindOf (P.zip vs) m x=some v
 |[],_,_,_,_,h,_,_=>by simp at h
 |_::_,[],_,_,_,_,h,_=>by simp at h
 |p::P,w::vs,0,m,nd,h1,h2,hk=>by
  simp at h1 h2;subst h1;subst h2;show bindL kindOf ((p,w)::P.zip vs) m p=_;unfold bindL;rw[oo λv hv=>(Yg.mp nd).1 (YN hv).1,if_pos hk];simp
 |p::P,w::vs,i+1,m,nd,h1,h2,hk=>by
  show bindL kindOf ((p,w)::P.zip vs) m x=_;unfold bindL;exact ou (i:=i) (Yg.mp nd).2 (by simpa using h1) (by simpa using h2) hk
theorem ow{kindOf:Str->Option WQ}{x:Str}{v:Value}:∀ {P:List Str} {vs:List Value} {i:Nat} {m:Str->Option Value},P.Nodup->P[i]?=some x->vs[i]?=some v->kindOf x ≠ some .local ->
  bindC kindOf (P.zip vs) m x=some v
 |[],_,_,_,_,h,_,_=>by simp at h
 |_::_,[],_,_,_,_,h,_=>by simp at h
 |p::P,w::vs,0,m,nd,h1,h2,hk=>by
  simp at h1 h2;subst h1;subst h2;show bindC kindOf ((p,w)::P.zip vs) m p=_;unfold bindC;rw[oq λv hv=>(Yg.mp nd).1 (YN hv).1,if_neg hk];simp
 |p::P,w::vs,i+1,m,nd,h1,h2,hk=>by
  show bindC kindOf ((p,w)::P.zip vs) m x=_;unfold bindC;exact ow (i:=i) (Yg.mp nd).2 (by simpa using h1) (by simpa using h2) hk
abbrev dn(N:List Str)(vs:List V):St:=vs.map some++Zp (N.length - vs.length) none
abbrev nS(CX:CXT)(P:Program)(w:World)(K:W6)(mg:Str->Option Value)(base:Heap)(N:List Str)(qual:Str)(scope:Scope)(f:Addr)(cd:Value)(A:Around)(outer:List Env)(s:Shared)(H:Hp)(E:XK):Cx where
 prog:=P
 w:=w
 K:=K
 mg:=mg
 base:=base
 A:=A.deeper (envOfC qual scope s.heap.objs.size f cd)
 N:=N
 s₀:=s
 H₀:=H
 env:=envOfC qual scope s.heap.objs.size f cd
 outer:=outer
 stack:=envOfC qual scope s.heap.objs.size f cd::outer
 ex:=[]
 calm:=true
 fn:=λ_=>true
 pn:=[]
 xe:=λe s'=>wpAny (model P w) (A.deeper (envOfC qual scope s.heap.objs.size f cd)) (leaving (envOfC qual scope s.heap.objs.size f cd) e) (λ_ s''=>CX outer H s E e s'') (λe' s''=>CX outer H s E e' s'') s'
theorem rf{sc:Scope}{n:Nat}{x:Str}(h:sc.names.lookup x=some .cell):∃c,(VE n sc.names []).lookup x=some c:=by
 have q:=W8 sc.names n [] (.inl h);exact ZV.mp q
theorem oz{CX:CXT}{P:Program}{w:World}{K:W6}{mg:Str->Option Value}{base:Heap}{N ps:List Str}{qual:Str}{scope:Scope}{f:Addr}{cd:Value}{A:Around}{outer:List Env}{s s1:Shared}{H:Hp}{E:XK}{us:List Value}{vs:List V}
  (S:FnScope N ps scope) (hd:A.handled=none) (e0:Env0 P w K mg base A outer s H) (hl:vs.length=ps.length) (r:aN vs us)
  (x:InCallC s s.heap.objs.size (bindL (envOfC qual scope s.heap.objs.size f cd).kindOf (ps.zip us) λ_=>none) (VE (s.heap.objs.size+1) scope.names []) (bindC (envOfC qual scope s.heap.objs.size f cd).kindOf (ps.zip us) λ_=>none) s1) :
  Inv (nS CX P w K mg base N qual scope f cd A outer s H E) [] (dn N vs) H s1:=by
 have hpl:ps.length<=N.length:=by have:=congrArg Zb S.pre;rw[Zt] at this;lia
 obtain⟨h1,tk,rfl,hk⟩:=x.done;have noA:∀b:Addr,b ∉ (nS CX P w K mg base N qual scope f cd A outer s H E).ex:=λb z=>absurd (show b ∈ ([]:List Addr) from z) (by simp)
 refine⟨⟨e0.mod,S.kind,rfl,rfl,Ze _,λy z c h1 h2=>?_,λy hy=>?_,λy c _ h=>?_,λ_=>hd,Around.frames_deeper e0.frames,.inr ⟨rfl,rfl⟩,λb z=>absurd z (noA b),e0.bs,e0.bsz,λb _ _=>noA b,λb z=>absurd z (noA b),e0.funs,e0.frf⟩,
  rfl,e0.bare,Un.kept hk,⟨_,x.toInCall.ns,λi y v h1 h2 h3=>?_⟩,λy c h=>⟨_,x.cell y c h⟩,e0.hok.fresh (Ze _),λy c h=>?_,λp hp=>absurd (show p ∈ ([]:List (Addr × Obj)) from hp) (by simp),e0.hok.kept hk,?_⟩
 ·exact name_of_addr x.apart (VW h1) (VW h2)
 ·have hy:scope.names.lookup y=some .cell\/scope.names.lookup y=some .free:=hy;rcases hy with hy |hy
  ·exact rf hy
  ·exact absurd rfl (S.nofree _ (VW hy))
 ·exact Y6 (x.above y c (VW h))
 ·have hi:i < vs.length:=by
   unfold dn at h2;by_cases hi:i < vs.length
   ·exact hi
   ·rw[Zs (by simpa using hi)] at h2;rw[Yq] at h2;split at h2 <;> cases h2
  have ha:vs[i]?=some v:=by
   unfold dn at h2;rw[Zw (by simpa using hi),Zm] at h2;cases e:vs[i]? with
   |none=>rw[e] at h2;cases h2
   |some a=>rw[e] at h2;cases h2;rfl
  obtain⟨u,hu,rv⟩:=r.get ha
  have hp:ps[i]?=some y:=by
   rw[<-S.pre,YG (by lia)];exact h1
  have ndP:ps.Nodup:=by rw[<-S.pre];exact S.nd.sublist (XD _ _)
  refine⟨u,rv,?_⟩;rcases S.par y (Zh hp) with k |k
  ·exact .inl ⟨k,ou ndP hp hu k⟩
  ·obtain⟨c,e⟩:=rf (n:=s.heap.objs.size+1) k;refine .inr ⟨.inl k,c,e,?_⟩;have q:=x.cell y c e;rw[ow ndP hp hu (by show scope.names.lookup y ≠ _;rw[k];decide)] at q;exact q
 ·exact e0.hok.fresh (Y6 (x.above y c (VW h)))
 ·unfold dn;show _=N.length;rw[Zr,Za,YJ]
  lia
theorem NJ{CX:CXT}{P:Program}{w:World}{K:W6}{mg:Str->Option Value}{base:Heap}{k:Nat}{f:Addr}{name qual:Str}{params:Arguments}{body:List Stmt}{scope:Scope}{dV kV doc pm cdv ct oc:Value}{an od:Option Addr}
  {osl:Array (Option Value)} {N ps:List Str} {sp:Sp} (lk:K.lookup f=some ⟨oc,od,.func (Ve name qual params body scope dV kV doc pm an cdv ct),osl⟩) (hcd:Va K cdv qual=true) (S:FnScope N ps scope)
  (len:∀vs H Q E,sp vs H Q E->vs.length=ps.length)
  (hbody:∀ (A:Around) (outer:List Env) (s:Shared) (H:Hp) (vs:List V) (Q:VK) (E:XK),Room k (A.deeper (envOfC qual scope s.heap.objs.size f cdv))->sp vs H Q E ->
   ∃t,PSs (nS CX P w K mg base N qual scope f cdv A outer s H E) body t/\t { nx:=λ_ H'=>Q .non H',rt:=Q } (dn N vs) H) :
  FnOk P w K mg base CX (k+1) f (Ve name qual params body scope dV kV doc pm an cdv ct) ps sp:=by
 refine⟨len,λA outer s H args us vs Q E hr e0 hb r hsp=>?_⟩;have hl:=len _ _ _ _ hsp;have KX:K.In s.heap:=e0.mod.kin.keeps λb o e=>(e0.bs b o e).1;have lim:s.heap.NoLimit:=e0.mod.nolimit.keeps λb o e=>(e0.bs b o e).1
 have hkind:∀y ∈ ps.zip us,scope.names.lookup y.1=some .local\/(scope.names.lookup y.1=some .cell/\((VE (s.heap.objs.size+1) scope.names []).lookup y.1).isSome=true):=λ⟨n,v⟩ hy=>by
  rcases S.par n (YN hy).1 with q |q
  ·exact .inl q
  ·exact .inr ⟨q,W8 _ _ _ (.inl q)⟩
 refine VH hr.depth (KX _ _ lk) rfl S.co S.gen rfl (Vb KX hcd) (hb _ _ _ _ ?_);refine UD S.kind hkind λenv he s1 x=>?_;subst he;refine⟨lim.keeps x.toInCall.keep,codeAny_func ?_⟩;obtain⟨t,ht,hq⟩:=hbody A outer s H vs Q E (hr.deeper _) hsp;have I:Inv (nS CX P w K mg base N qual scope f cdv A outer s H E) [] (dn N vs) H s1:=oz S hr.hd e0 hl r x;refine UC (ht [] s1 (dn N vs) H _ I hq) (λfl s' hs=>?_) λe s' hs=>hs
 have fin:∀ {σ':St} {H':Hp} {v:V} {u:Value},Inv (nS CX P w K mg base N qual scope f cdv A outer s H E) [] σ' H' s'->aI v u->Q v H'->CE outer P w H s Q u s':=
  λ{σ' H' v u} J rv q=>⟨v,H',J.os,J.bare,J.base,J.hok,rv,q⟩
 cases fl with
 |ret u=>
  obtain⟨v,σ',H',J,rv,q⟩:=hs;exact fin J rv q
 |next=>
  obtain⟨σ',H',J,q⟩:=hs;exact fin (v:=V.non) (u:=Value.none) J rfl q
 |brk=>
  obtain⟨_,_,_,q⟩:=hs;exact False.elim q
 |cont=>
  obtain⟨_,_,_,q⟩:=hs;exact False.elim q
section
variable {X:Cx} {x:Str} {p pos:Pos} {e:Expr} {es:List Expr} {t:TA} {id T:String} {r:List V->Hp->VK->Prop}
def tCB(r:List V->Hp->VK->Prop)(t:TA):TE:=λσ H Q=>t σ H λvs H1=>r vs H1 Q
theorem ef(hc:aP X (.builtin id) r)(hg:Gl X x)(hm:X.mg x=none)(hv:VA x=some (.builtin id))(ha:PA X (e::es) t)(hn:x ≠ "__name__" := by decide)(hdb:(x == ("__debug__" : Str))=false:=by decide)
  (he:Uc (e::es) X.env=(false,eval e X.env)::Uc es X.env:=by rfl) (hpl:(backTo pos (Uc es X.env)).any (·.1)=false:=by rfl):PE X (.Call (.Name x p) (e::es) [] pos) (tCB r t):=by
 intro pins s σ H Q I h;refine Ul (fG I hg hm hv ?_ hn hdb);exact PyProof.Rows.callWith_builtin1 (thn (ha pos pins s σ H _ I h) λus s1 ⟨vs,H1,I1,r1,q1⟩=>hc pins s1 σ H1 vs us Q I1 r1 q1) he hpl
theorem jy(hc:aP X (.type T) r)(hg:Gl X x)(hm:X.mg x=none)(hv:VA x=some (.type T))(ha:PA X (e::es) t)(hn:x ≠ "__name__" := by decide)(hdb:(x == ("__debug__" : Str))=false:=by decide)
  (he:Uc (e::es) X.env=(false,eval e X.env)::Uc es X.env:=by rfl) (hpl:(backTo pos (Uc es X.env)).any (·.1)=false:=by rfl):PE X (.Call (.Name x p) (e::es) [] pos) (tCB r t):=by
 intro pins s σ H Q I h;refine Ul (fG I hg hm hv ?_ hn hdb);exact Wr (thn (ha pos pins s σ H _ I h) λus s1 ⟨vs,H1,I1,r1,q1⟩=>hc pins s1 σ H1 vs us Q I1 r1 q1) he hpl
end
end L2
namespace HT
open PySem PyProof.Rows
section
open PySem.SeqAt
open PySem.AutoSeq1 (wpAny_loadPart')
open PySem.MeetsSeq PySem.MeetsSeq2 PySem.MeetsSeq3
end
section
variable {prog:Program} {w:World} {A:Around} {E:Value->Shared->Prop} {s:Shared}
theorem DH(ht:IsTup s.heap t vs.toArray)(hb:IsTup s.heap b ws.toArray)(hv:vs ≠ [])
  (h1:ws=[]->Q (.ref t) s) (h2:ws ≠ []->Q (.ref s.heap.objs.size) { s with heap:=s.heap.push { cls:=.type "tuple", data:=.seq (vs++ws).toArray } })
  (hsz:vs.length+ws.length<=sizeLine):wpAny (model prog w) A (Vy .Add (.ref t) (.ref b)) Q E s:=by
 obtain⟨⟨cls,dd,data,sl⟩,ho,hc,n,hd⟩:=id ht;obtain⟨⟨cls2,dd2,data2,sl2⟩,ho2,hc2,n2,hd2⟩:=id hb;simp only at hc hd hc2 hd2;subst hc hd hc2 hd2;have e:vs.toArray++ws.toArray=(vs++ws).toArray:=by simp
 by_cases hw:ws=[]
 ·exact VL ⟨_,ho,rfl⟩ ⟨_,ho2,rfl⟩ VY V9 WJ Wz (Ww _ _)
   (tuple_addW1 t b vs.toArray ws.toArray n n2 dd dd2 sl sl2 (by simpa using hv) (by simp[hw])) ⟨ho,ho2,h1 hw⟩
 ·refine VL ⟨_,ho,rfl⟩ ⟨_,ho2,rfl⟩ VY V9 WJ Wz (Ww _ _)
   (tuple_addW2 t b vs.toArray ws.toArray n n2 dd dd2 sl sl2 (by simpa using hv) (by simpa using hw) (by rw[Zl,Zl];exact hsz)) ⟨ho,ho2,?_⟩
  rw[e];exact h2 hw
abbrev sIx(n d:Nat):Option Int->Nat
 |none=>d
 |some v=>if v < 0 then (v+(n:Int)).toNat else min v.toNat n
theorem zF(n d:Nat):sIx n d none=d:=rfl
theorem Jc(n d:Nat)(hd:d<=n)(o:Option Int):sIx n d o<=n:=by
 cases o with
 |none=>exact hd
 |some v=>
  show(if v < 0 then (v+(n:Int)).toNat else min v.toNat n)<=n;by_cases hv:v < 0
  ·rw[if_pos hv];lia
  ·rw[if_neg hv];exact Nat.min_le_right _ _
theorem vU(v:Int)(n d:Nat):(if v < 0 then max (v+(n:Int)) 0 else min v (n:Int))=((sIx n d (some v):Nat):Int):=by
 show(if v < 0 then max (v+(n:Int)) 0 else min v (n:Int))=(((if v < 0 then (v+(n:Int)).toNat else min v.toNat n):Nat):Int);by_cases hv:v < 0
 ·simp only[if_pos hv];lia
 ·simp only[if_neg hv];lia
theorem tX(lo hi:Option Int)(n:Nat):Builtin.Slice.sliceAdjust lo hi 1 (n:Int)=(((sIx n 0 lo:Nat):Int),((sIx n n hi:Nat):Int)):=by
 have h1:¬ ((1:Int) < 0):=by lia
 unfold Builtin.Slice.sliceAdjust;simp only[h1,if_false];refine Prod.ext ?_ ?_
 ·cases lo with
  |none=>rfl
  |some v=>exact vU v n 0
 ·cases hi with
  |none=>rfl
  |some v=>exact vU v n n
theorem tY(i j:Nat):Builtin.Slice.slicePlaces (i:Int) (j:Int) 1=j - i:=by
 unfold Builtin.Slice.slicePlaces;have h1:(1:Int) > 0:=by lia
 simp only[h1,if_true,Int.ediv_one];split <;> lia
theorem lx(p:IsPart v o)(h:Q o s):wpAny (model prog w) A (Builtin.Slice.slicePartIndex v) Q E s:=by
 cases p with
 |none=>exact slicePart_none h
 |int i t=>exact slicePart_int h
theorem ei{sl:Addr}{vl vu:Value}{lo hi:Option Int}{n:Nat}{Q:Int × Int × Nat->Shared->Prop}(hs:s.heap.IsSliceOf sl vl vu .none)(pl:IsPart vl lo)(pu:IsPart vu hi)
  (h:Q (((sIx n 0 lo:Nat):Int),1,sIx n n hi - sIx n 0 lo) s):wpAny (model prog w) A (Builtin.Slice.sliceApplied (.ref sl) (pure (n:Int))) Q E s:=by
 obtain⟨os,hos,hcs,hds⟩:=id hs;unfold Builtin.Slice.sliceApplied Builtin.Slice.sliceFields;refine Uo (Uo (Uv hos hds (x:=vl) rfl (Uo (Uv hos hds (x:=vu) rfl (Uo (Uv hos hds (x:=.none) rfl (UH ?_)))))));refine Uo (slicePart_none ?_);show wpAny _ _ (if ((1:Int) == 0)=true then _ else _) _ _ s;rw[if_neg (by decide)];refine Uo (lx pl (Uo (lx pu (Uo (UH ?_)))));show wpAny _ _ (match Builtin.Slice.sliceAdjust lo hi 1 (n:Int) with |(lo,hi)=>pure (lo,(1:Int),Builtin.Slice.slicePlaces lo hi 1)) _ _ s;rw[tX lo hi n];show wpAny _ _ (pure (((sIx n 0 lo:Nat):Int),(1:Int),Builtin.Slice.slicePlaces ((sIx n 0 lo:Nat):Int) ((sIx n n hi:Nat):Int) 1)) _ _ s;rw[tY];exact UH h
theorem zG(xs:Array Value)(i k:Nat):((Zj k).filterMap λ(m:Nat)=>xs[((i:Int)+(m:Int) * 1).toNat]?).toArray=((xs.toList.drop i).take k).toArray:=by
 have e:(λ(m:Nat)=>xs[((i:Int)+(m:Int) * 1).toNat]?)=λm=>xs[i+m]?:=by
  funext m
  have:((i:Int)+(m:Int) * 1).toNat=i+m:=by lia
  rw[this]
 rw[e];have:=pick_run xs i k;rw[List.filterMap_map] at this;have e2:((λx=>xs[x]?) ∘ λx=>i+x)=λm=>xs[i+m]?:=rfl;rw[e2] at this;rw[this]
theorem iR{t sl:Addr}{items:Array Value}{vl vu:Value}{lo hi:Option Int}{Q:Value->Shared->Prop}(ht:IsTup s.heap t items)(hs:s.heap.IsSliceOf sl vl vu .none)(pl:IsPart vl lo)(pu:IsPart vu hi)
  (hw:¬ (sIx items.size 0 lo=0/\sIx items.size items.size hi=items.size))
  (h:Q (.ref s.heap.objs.size) { s with heap:=s.heap.push { cls:=.type "tuple", data:=.seq ((items.toList.drop (sIx items.size 0 lo)).take (sIx items.size items.size hi - sIx items.size 0 lo)).toArray } })
  (hsz:items.size<=sizeLine):wpAny (model prog w) A (getItem (.ref t) (.ref sl)) Q E s:=by
 have htake:sizeOk (.seq ((items.toList.drop (sIx items.size 0 lo)).take (sIx items.size items.size hi - sIx items.size 0 lo)).toArray):=by
  show((items.toList.drop (sIx items.size 0 lo)).take (sIx items.size items.size hi - sIx items.size 0 lo)).toArray.size<=sizeLine;rw[Zl,Zt,ZW,ZD]
  lia
 have hj:sIx items.size items.size hi<=items.size:=Jc _ _ (Ze _) hi;obtain⟨os,hos,hcs,hds⟩:=id hs;have hTs:s.TypeIs (.ref sl) "slice" := ⟨os,hos,hcs⟩;unfold getItem
 try with_reducible refine Uw ?_
 first |refine Uo (UH ?_) |skip
 refine Uo (wpAny_sequenceKey ht.typeIs (by decide) ?_)
 refine Uo (wpAny_callSpecial?_slot (name:=Str.ofString "__getitem__") ht.typeIs Ws
  (Uq Ws ht.typeIs entry_tuple_getitem ?_ (args_tuple_getitem _ _)))
 show wpAny _ _ (Builtin.Tuple.tupleItemsOf (.ref t) >>= _) _ _ s;refine Uo (tupleItemsOf_ ht ?_);refine Uo (US hTs ?_);rw[if_pos (by decide)];refine Uo (ei hs pl pu ?_)
 have hno:¬ ((((sIx items.size 0 lo:Nat):Int) == 0 && (1:Int) == 1 && (sIx items.size items.size hi - sIx items.size 0 lo) == items.size)=true):=by
  intro q;rw[bAE,bAE] at q;have q1:((sIx items.size 0 lo:Nat):Int)=0:=eq_of_beq q.1.1;have q2:sIx items.size items.size hi - sIx items.size 0 lo=items.size:=eq_of_beq q.2;exact hw ⟨by lia,by lia⟩
 show wpAny _ _ (if (((sIx items.size 0 lo:Nat):Int) == 0 && (1:Int) == 1 && (sIx items.size items.size hi - sIx items.size 0 lo) == items.size)=true then _ else _) _ _ s;rw[if_neg hno,zG]
 first
  |exact Uo (m:=Builtin.Tuple.tupleExact _) (UE (UH ⟨_,rfl,UH h⟩) htake)
  |exact Uo (m:=Builtin.Tuple.tupleExact _) (UE (Uo (UH (UH ⟨_,rfl,UH h⟩))) htake)
  |exact Uo (Uo (m:=Builtin.Tuple.tupleExact _) (UE (UH (UH ⟨_,rfl,UH h⟩)) htake))
  |exact Uo (Uo (m:=Builtin.Tuple.tupleExact _) (UE (UH ⟨_,rfl,UH h⟩) htake))
end
end HT
namespace L2
open PySem PySem.Spec PyProof.Rows
@[inline]abbrev TO:=St->Hp->(Option Int->Hp->Prop)->Prop
def PO(X:Cx)(e:Option Expr)(t:TO):Prop:=
 ∀ (pins:List (Addr × Obj)) (s:Shared) (σ:St) (H:Hp) (Q:Option Int->Hp->Prop),Inv X pins σ H s->t σ H Q ->
  wpAny (model X.prog X.w) X.A (evalPart e X.env) (λu s'=>∃o H',Inv X pins σ H' s'/\IsPart u o/\Q o H') X.xe s
def vV:TO:=λ_ H Q=>Q none H
def Hn(t:TE):TO:=λσ H Q=>t σ H λx H1=>∃i,x = .int i/\Q (some i) H1
section
variable {X:Cx} {e:Expr} {te:TE} {lo hi:Option Expr} {tl th:TO} {pos p2:Pos}
theorem DI:PO X none vV:=by
 intro pins s σ H Q I h;rw[evalPart_none];exact UH ⟨none,H,I,.none,h⟩
theorem DJ(h:PE X e te):PO X (some e) (Hn te):=by
 intro pins s σ H Q I hw;rw[evalPart_some];refine thn (h pins s σ H _ I hw) λu s1 ⟨x,H1,I1,r1,q1⟩=>?_;obtain⟨i,rfl,q⟩:=q1;obtain⟨t,rfl⟩:=r1;exact⟨some i,H1,I1,.int i t,q⟩
def SlR(X:Cx)(r:V->Option Int->Option Int->Hp->VK->Prop):Prop:=
 ∀ (pins:List (Addr × Obj)) (s:Shared) (σ:St) (H:Hp) (x:V) (v vl vu:Value) (lo hi:Option Int) (sl:Addr) (Q:VK),Inv X pins σ H s->aI x v->s.heap.IsSliceOf sl vl vu .none->IsPart vl lo->IsPart vu hi->r x lo hi H Q ->
  ∃T id,Uk (.type T) "__getitem__" = pure (some (.builtin id))/\s.TypeIs v T/\wpAny (model X.prog X.w) X.A (getItem v (.ref sl)) (EP X pins σ Q) X.xe s
theorem SlR.or{r r':V->Option Int->Option Int->Hp->VK->Prop}(h:SlR X r)(h':SlR X r'):SlR X (λx lo hi H Q=>r x lo hi H Q\/r' x lo hi H Q):=by
 intro pins s σ H x v vl vu lo hi sl Q I rx hs pl pu q;rcases q with q |q
 ·exact h pins s σ H x v vl vu lo hi sl Q I rx hs pl pu q
 ·exact h' pins s σ H x v vl vu lo hi sl Q I rx hs pl pu q
def tSl(r:V->Option Int->Option Int->Hp->VK->Prop)(te:TE)(tl th:TO):TE:=λσ H Q=>te σ H λx H1=>tl σ H1 λl H2=>th σ H2 λu H3=>r x l u H3 Q
theorem zH(hr:SlR X r)(he:PE X e te)(hl:PO X lo tl)(hu:PO X hi th):PE X (.Subscript e (.Slice lo hi none p2) pos) (tSl r te tl th):=by
 intro pins s σ H Q I h;refine Subscript_ (thn (he pins s σ H _ I h) λv s1 ⟨x,H1,I1,r1,q1⟩=>?_);refine wpAny_Slice (thn (hl pins s1 σ H1 _ I1 q1) λvl s2 ⟨l,H2,I2,pl,q2⟩=>thn (hu pins s2 σ H2 _ I2 q2) λvu s3 ⟨u,H3,I3,pu,q3⟩=>?_);rw[evalPart_none];refine UH ?_;have I4:Inv X pins σ H3 { s3 with heap:=s3.heap.push { cls:=.type "slice", data:=.fields #[vl,vu,.none] } }:=I3.kept (t':=s3.toks) λb ob q=>Zi _ q;obtain⟨T,id,hT,ht,hg⟩:=hr pins { s3 with heap:=s3.heap.push { cls:=.type "slice", data:=.fields #[vl,vu,.none] } } σ H3 x v vl vu l u s3.heap.objs.size Q I4 r1 (Heap.IsSliceOf.new ..) pl pu q3;show wpAny (model X.prog X.w) X.A (subscriptTail e (.Slice lo hi none p2) v (.ref s3.heap.objs.size)) (EP X pins σ Q) X.xe { s3 with heap:=s3.heap.push { cls:=.type "slice", data:=.fields #[vl,vu,.none] } };exact tail_any (ops:=[.ref s3.heap.objs.size,v]) ht hT hg (by with_unfolding_all rfl)
abbrev ly(xs:List V)(lo hi:Option Int):List V:=(xs.drop (HT.sIx xs.length 0 lo)).take (HT.sIx xs.length xs.length hi - HT.sIx xs.length 0 lo)
theorem kg(xs:List V)(lo hi:Option Int):(ly xs lo hi).length<=xs.length:=by
 unfold ly;rw[Zt,ZW]
 lia
def QF(K:W6):V->Option Int->Option Int->Hp->VK->Prop:=λx lo hi H Q=>∃a xs,x = .ref a/\SqT K H a xs ∧
 ¬ (HT.sIx xs.length 0 lo=0/\HT.sIx xs.length xs.length hi=xs.length)/\∀p,H p=none->Q (.ref p) (upd H p (.tup (ly xs lo hi)))
theorem Jd:SlR X (QF X.K):=by
 intro pins s σ H x v vl vu lo hi sl Q I rx hs pl pu h;obtain⟨a,xs,rfl,hx,hw,q⟩:=h;cases rx;obtain⟨its,r,ht,hz⟩:=I.tuple hx;have hlen:its.toArray.size=xs.length:=by rw[Zl];exact r.length.symm
 refine⟨"tuple", _,PyProof.Rows.slot_tuple_getitem.lookup,ht.typeIs,?_⟩;refine HT.iR ht hs pl pu (by rw[hlen];exact hw) ?_ (by rw[hlen];exact hz);rw[hlen];refine⟨.ref s.heap.objs.size,_,I.laid (t':=s.toks) (o:=.tup (ly xs lo hi)) (λb ob q=>Zi _ q) (Ze _) ?_,rfl,q _ (I.hok.fresh (Ze _))⟩;exact⟨ZF (kg xs lo hi) hz,_,(r.drop (HT.sIx xs.length 0 lo)).take (HT.sIx xs.length xs.length hi - HT.sIx xs.length 0 lo),pP.new _ _⟩
def NK(K:W6):R2:=λx y H Q=>∃a b xs ys,x = .ref a/\y = .ref b/\SqT K H a xs/\SqT K H b ys/\xs ≠ []/\xs.length+ys.length<=sizeLine ∧
 (ys=[]->Q (.ref a) H)/\(ys ≠ []->∀p,H p=none->Q (.ref p) (upd H p (.tup (xs++ys))))
theorem aN.nil_iff(r:aN xs us):us=[] ↔ xs=[]:=by
 cases r with
 |nil=>simp
 |cons _ _=>simp
theorem DK:OpR X (Vy .Add) (NK X.K):=by
 show 3;obtain⟨a,b,xs,ys,rfl,rfl,ha,hb,hx,hz,q1,q2⟩:=h;cases rx;cases ry;obtain⟨its,r1,p1,_⟩:=I.tuple ha;obtain⟨its2,r2,p2,_⟩:=I.tuple hb;refine HT.DH p1 p2 (λz=>hx (r1.nil_iff.mp z)) (λz=>⟨.ref a,H,I,rfl,q1 (r2.nil_iff.mp z)⟩) (λz=>?_) (by rw[<-r1.length,<-r2.length];exact hz);refine⟨.ref s.heap.objs.size,_,I.laid (t':=s.toks) (o:=.tup (xs++ys)) (λb ob q=>Zi _ q) (Ze _) ?_,rfl,q2 (λw=>z (r2.nil_iff.mpr w)) _ (I.hok.fresh (Ze _))⟩;exact⟨by rw[Zr];exact hz,_,r1.append r2,pP.new _ _⟩
end
abbrev ixN(n:Nat)(i:Int):Option Nat:=if 0<=i then (if i < n then some i.toNat else none) else if -(n:Int)<=i then some (i+n).toNat else none
abbrev atI{α:Type}(xs:List α)(i:Int):Option α:=(ixN xs.length i).bind λj=>xs[j]?
theorem pT{n:Nat}{i:Int}{j:Nat}(h:ixN n i=some j):seqIndex? i n=some j/\j < n/\-(n:Int)<=i/\i < n:=by
 unfold ixN at h;by_cases h0:0<=i
 ·rw[if_pos h0] at h;by_cases h1:i < n
  ·rw[if_pos h1] at h;have e:i.toNat=j:=Option.some.inj h;exact⟨by rw[V7 h0 h1,e],by lia,by lia,h1⟩
  ·rw[if_neg h1] at h;cases h
 ·rw[if_neg h0] at h;by_cases h1:-(n:Int)<=i
  ·rw[if_pos h1] at h;have e:(i+n).toNat=j:=Option.some.inj h;exact⟨by rw[V6 (by lia) h1,e],by lia,h1,by lia⟩
  ·rw[if_neg h1] at h;cases h
theorem pU{α:Type}{xs:List α}{i:Int}{v:α}(h:atI xs i=some v):∃j,seqIndex? i xs.length=some j/\xs[j]?=some v/\j < xs.length/\-(xs.length:Int)<=i/\i < xs.length:=by
 unfold atI at h;cases e:ixN xs.length i with
 |none=>rw[e] at h;cases h
 |some j=>
  rw[e] at h;obtain⟨h1,h2,h3,h4⟩:=pT e;exact⟨j,h1,h,h2,h3,h4⟩
theorem pV{α:Type}{xs:List α}{j:Nat}{v:α}(h:xs[j]?=some v):atI xs (j:Int)=some v:=by
 have hj:j < xs.length:=(Zc.mp h).1
 have e:ixN xs.length (j:Int)=some j:=by
  unfold ixN;rw[if_pos (by lia),if_pos (by lia)];simp
 unfold atI;rw[e];exact h
def vW(b:Expr):Prop:=∀o i,subscripted b false o i=operate [o,i] (getItem o i)
def IxR(X:Cx)(r:R2):Prop:=
 ∀ (value slice:Expr) (pins:List (Addr × Obj)) (s:Shared) (σ:St) (H:Hp) (x y:V) (v u:Value) (Q:VK),Inv X pins σ H s->aI x v->aI y u->r x y H Q ->
  subscripted slice false v u=operate [v,u] (getItem v u)->wpAny (model X.prog X.w) X.A (subscriptTail value slice v u) (EP X pins σ Q) X.xe s
def MtR(X:Cx)(id:String)(r:V->List V->Hp->VK->Prop):Prop:=
 ∀ (pins:List (Addr × Obj)) (s:Shared) (σ:St) (H:Hp) (x:V) (xs:List V) (v:Value) (us:List Value) (Q:VK),Inv X pins σ H s->aI x v->aN xs us->r x xs H Q ->
  wpAny (model X.prog X.w) X.A (call (.builtin id) (v::us)) (EP X pins σ Q) X.xe s
section
variable {X:Cx} {a b:Expr} {ta tb:TE} {pos:Pos}
theorem IxR.or{r r':R2}(h:IxR X r)(h':IxR X r'):IxR X (λx y H Q=>r x y H Q\/r' x y H Q):=by
 intro value slice pins s σ H x y v u Q I rx ry q hs;rcases q with q |q
 ·exact h value slice pins s σ H x y v u Q I rx ry q hs
 ·exact h' value slice pins s σ H x y v u Q I rx ry q hs
theorem vX(hr:IxR X r)(ha:PE X a ta)(hb:PE X b tb)(hs:vW b):PE X (.Subscript a b pos) (tOp r ta tb):=by
 intro pins s σ H Q I h;exact Subscript_ (IP ha hb I h λv u s2 x y H2 I2 rx ry q=>hr a b pins s2 σ H2 x y v u Q I2 rx ry q (hs _ _))
def NL(K:W6):R2:=λx y H Q=>∃p xs i v,x = .ref p/\y = .int i/\SqL K H p xs/\atI xs i=some v/\Q v H
def NM(K:W6):R2:=λx y H Q=>∃p xs i v,x = .ref p/\y = .int i/\SqT K H p xs/\atI xs i=some v/\Q v H
def NN:R2:=λx y H Q=>∃z i c,x = .str z/\y = .int i/\z.length<=sizeLine/\atI z.cps.toList i=some c/\Q (.str ⟨#[c]⟩) H
theorem vY:IxR X (NL X.K):=by
 intro value slice pins s σ H x y v u Q I rx ry h hs;obtain⟨p,xs,i,z,rfl,rfl,hq,he,q⟩:=h;cases rx;obtain⟨t,rfl⟩:=ry;obtain⟨its,r,pl,hz⟩:=I.list hq;obtain⟨j,h1,h2,h3,h4,h5⟩:=pU he;obtain⟨w,ew,rw'⟩:=r.get h2;have hl:=r.length;have hn:=jv;have fin:EP X pins σ Q w s:=⟨z,H,I,rw',q⟩;by_cases h0:0<=i
 ·have hj:i.toNat=j:=by
   rw[V7 h0 h5] at h1;exact Option.some.inj h1
  exact item_listR pl.isList h0 (by lia) (by rw[hj];simpa using ew) fin hs
 ·have hj:(i+(its.toArray.size:Int)).toNat=j:=by
   rw[V6 (by lia) h4] at h1;rw[Zl,<-hl];exact Option.some.inj h1
  exact subscriptTail_builtinR (x:=w) pl.isList.typeIs slot_list_getitem.lookup
   (wpAny_getItem_list_neg (Q:=λr s'=>r=w/\EP X pins σ Q r s') pl.isList (by lia) (by rw[Zl] <;> lia) (by lia) (by rw[hj];simpa using ew) ⟨rfl,fin⟩) hs
theorem zI:IxR X (NM X.K):=by
 intro value slice pins s σ H x y v u Q I rx ry h hs;obtain⟨p,xs,i,z,rfl,rfl,hq,he,q⟩:=h;cases rx;obtain⟨t,rfl⟩:=ry;obtain⟨its,r,pl,hz⟩:=I.tuple hq;obtain⟨j,h1,h2,h3,h4,h5⟩:=pU he;obtain⟨w,ew,rw'⟩:=r.get h2;have hl:=r.length;have hn:=jv;have fin:EP X pins σ Q w s:=⟨z,H,I,rw',q⟩
 exact subscriptTail_builtinR (x:=w) pl.typeIs slot_tuple_getitem.lookup
  (getItem_tuple (j:=j) (Q:=λr s'=>r=w/\EP X pins σ Q r s') pl (by lia) (by lia) (by rw[Zl,<-hl];exact h1) (by simpa using ew) ⟨rfl,fin⟩) hs
theorem Je:IxR X NN:=by
 intro value slice pins s σ H x y v u Q I rx ry h hs;obtain⟨z,i,c,rfl,rfl,hz,he,q⟩:=h;obtain⟨t,rfl⟩:=rx;obtain⟨t',rfl⟩:=ry;obtain⟨j,h1,h2,h3,h4,h5⟩:=pU he;have hl:z.cps.toList.length=z.length:=by simp[Str.length]
 rw[hl] at h1 h4 h5;have hn:=jv
 exact tail_any (typeIs_str s z t) slot_str_getitem.lookup (getItem_str (c:=c) (by
  have e1:decide (i < -(2 ^ 63:Int))=false:=decide_eq_false (by lia);have e2:decide (i ≥ 2 ^ 63)=false:=decide_eq_false (by lia);rw[e1,e2,X9]) (by rw[h1];simpa using h2) ⟨.str ⟨#[c]⟩,H,I.tok _,⟨_,rfl⟩,q⟩) hs
def rIx(K:W6):R2:=λx y H Q=>NL K x y H Q\/NM K x y H Q\/NN x y H Q
theorem zJ:IxR X (rIx X.K):=vY.or (zI.or Je)
theorem tZ(its:List Value)(n j:Nat)(u:Value):Obj.mapSeq (·.setIfInBounds j u) { cls:=.type "list", data:=.seq its.toArray n }={ cls:=.type "list", data:=.seq (its.set j u).toArray n }:=by
 simp[Obj.mapSeq]
theorem Inv.lst{pins:List (Addr × Obj)}{σ:St}{H:Hp}{s:Shared}{p:Addr}{xs:List V}(I:Inv X pins σ H s)(h:H p=some (.lst xs)) :
  ∃ (its:List Value) (n:Nat),aN xs its/\s.heap.get? p=some { cls:=.type "list", data:=.seq its.toArray n }/\xs.length<=sizeLine:=by
 obtain⟨z,its,n,r,e⟩:=I.hok p _ h;exact⟨its,n,r,e,z⟩
theorem Inv.lstUpd{pins:List (Addr × Obj)}{σ:St}{H:Hp}{s:Shared}{p:Addr}{xs ys:List V}{its its':List Value}{n n':Nat}{f:Obj->Obj}(I:Inv X pins σ H s)(h:H p=some (.lst xs))
  (ho:s.heap.get? p=some { cls:=.type "list", data:=.seq its.toArray n }) (hf:f { cls:=.type "list", data:=.seq its.toArray n }={ cls:=.type "list", data:=.seq its'.toArray n' }) (r:aN ys its') (hz:ys.length<=sizeLine) (t:Nat) :
  Inv X pins σ (upd H p (.lst ys)) { s with heap:=s.heap.update p f,toks:=t }:=by
 have e:(s.heap.update p f).get? p=some { cls:=.type "list", data:=.seq its'.toArray n' }:=by
  rw[YA f ho (by rw[hf] <;> rfl),hf]
 refine I.write (x:=p) (e:=p) (by rw[h];trivial) (.inl rfl) (λb u hb q=>(Z1 _ _ (Ne.symm hb)).trans q) ⟨_,e⟩ ?_;exact⟨hz,its',n',r,e⟩
def NP:V->V->V->Hp->(Hp->Prop)->Prop:=λo i v H Q=>∃p xs k j,o = .ref p/\i = .int k/\H p=some (.lst xs)/\ixN xs.length k=some j/\Q (upd H p (.lst (xs.set j v)))
theorem zK:IG X NP:=by
 intro pins s σ H o i v ov iv u Q I ro ri rv h;obtain⟨p,xs,k,j,rfl,rfl,hp,hj,q⟩:=h;cases ro;obtain⟨t,rfl⟩:=ri;obtain⟨its,n,r,ho,hz⟩:=I.lst hp;obtain⟨h1,h2,h3,h4⟩:=pT hj;have hl:=r.length;have hn:=jv
 have I':Inv X pins σ (upd H p (.lst (xs.set j v))) { s with heap:=s.heap.update p (Obj.mapSeq (·.setIfInBounds j u)) }:=
  I.lstUpd hp ho (tZ its n j u) (r.set rv j) (by rw[Yh];exact hz) s.toks
 by_cases h0:0<=k
 ·have hk:k.toNat=j:=by
   rw[V7 h0 h4] at h1;exact Option.some.inj h1
  exact PySem.W.ki_setAt ho h0 (by lia) (by rw[Zl,<-hl];exact h4) (by rw[hk];exact⟨_,I',q⟩)
 ·have hk:(k+(its.toArray.size:Int)).toNat=j:=by
   rw[V6 (by lia) h3] at h1;rw[Zl,<-hl];exact Option.some.inj h1
  exact PySem.W.ki_setBack ho (by lia) (by rw[Zl,<-hl];exact h3) (by lia) (by rw[hk];exact⟨_,I',q⟩)
theorem pW(lo hi:Option Int)(n:Nat):(Ub lo hi none n).1=((HT.sIx n 0 lo:Nat):Int)/\(Ub lo hi none n).2.1=((HT.sIx n n hi:Nat):Int)/\(Ub lo hi none n).2.2=1:=by
 refine⟨?_,?_,rfl⟩
 ·cases lo with
  |none=>simp[Ub,HT.sIx]
  |some i=>
   simp only[Ub,HT.sIx,XM,show(1:Int) > 0 by decide,if_true];by_cases h:i < 0
   ·simp only[h,if_true] <;> lia
   ·simp only[h,if_false] <;> lia
 ·cases hi with
  |none=>simp[Ub,HT.sIx]
  |some i=>
   simp only[Ub,HT.sIx,XM,show(1:Int) > 0 by decide,if_true];by_cases h:i < 0
   ·simp only[h,if_true] <;> lia
   ·simp only[h,if_false] <;> lia
theorem nT(its:List Value)(lo hi:Option Int):slicePick its.toArray lo hi none=((its.drop (HT.sIx its.length 0 lo)).take (HT.sIx its.length its.length hi - HT.sIx its.length 0 lo)).toArray:=by
 obtain⟨h1,h2,h3⟩:=pW lo hi its.toArray.size;unfold slicePick;rw[h1,h2,h3];simp only[sliceRange_one,pick_run,Zl] <;> rfl
def QG(K:W6):V->Option Int->Option Int->Hp->VK->Prop:=λx lo hi H Q=>∃a xs,x = .ref a/\SqL K H a xs/\∀p,H p=none->Q (.ref p) (upd H p (.lst (ly xs lo hi)))
theorem DM:SlR X (QG X.K):=by
 intro pins s σ H x v vl vu lo hi sl Q I rx hs pl pu h;obtain⟨a,xs,rfl,hx,q⟩:=h;cases rx;obtain⟨its,r,ht,hz⟩:=I.list hx;have hlen:=r.length;refine⟨"list", _,slot_list_getitem.lookup,ht.isList.typeIs,?_⟩;refine wpAny_getItem_list_slice ht.isList hs pl pu .none (by simp) ?_ (by rw[Zl] <;> lia);rw[nT,<-hlen];refine⟨.ref s.heap.objs.size,_,I.laid (t':=s.toks) (o:=.lst (ly xs lo hi)) (λb ob q=>Zi _ q) (Ze _) ?_,rfl,q _ (I.hok.fresh (Ze _))⟩;exact⟨ZF (kg xs lo hi) hz,_,0,(r.drop (HT.sIx xs.length 0 lo)).take (HT.sIx xs.length xs.length hi - HT.sIx xs.length 0 lo),ZB _ rfl⟩
abbrev bK:V->Bool
 |.non=>true
 |.bl _=>true
 |.int _=>true
 |.str _=>true
 |_=>false
abbrev eqV:V->V->Bool
 |.non,.non=>true
 |.bl a,.bl b=>a == b
 |.bl a,.int b=>(if a then 1 else 0) == b
 |.int a,.bl b=>a == (if b then 1 else 0)
 |.int a,.int b=>a == b
 |.str a,.str b=>a == b
 |_,_=>false
theorem Jf(ry:aI y u)(rx:aI x v)(fy:bK y=true)(fx:bK x=true):WY A s u v (eqV y x):=by
 cases y with
 |non=>
  cases ry;cases x with
  |non=>cases rx;exact SeqAt.EqAt.same _
  |bl b=>cases rx;exact SeqAt.EqAt.none_bool b
  |int b=>obtain⟨t,rfl⟩:=rx;exact SeqAt.EqAt.none_int b t
  |str b=>obtain⟨t,rfl⟩:=rx;exact SeqAt.EqAt.none_str b t
  |_=>exact absurd (show false=true from fx) Zd
 |bl a=>
  cases ry;cases x with
  |non=>cases rx;exact SeqAt.EqAt.bool_none a
  |bl b=>cases rx;exact SeqAt.EqAt.bool_bool a b
  |int b=>obtain⟨t,rfl⟩:=rx;exact SeqAt.EqAt.bool_int a b t
  |str b=>obtain⟨t,rfl⟩:=rx;exact SeqAt.EqAt.bool_str a b t
  |_=>exact absurd (show false=true from fx) Zd
 |int a=>
  obtain⟨t',rfl⟩:=ry;cases x with
  |non=>cases rx;exact SeqAt.EqAt.int_none a t'
  |bl b=>cases rx;exact SeqAt.EqAt.int_bool a t' b
  |int b=>obtain⟨t,rfl⟩:=rx;exact SeqAt.EqAt.int_int a t' b t
  |str b=>obtain⟨t,rfl⟩:=rx;exact SeqAt.EqAt.int_str a t' b t
  |_=>exact absurd (show false=true from fx) Zd
 |str a=>
  obtain⟨t',rfl⟩:=ry;cases x with
  |non=>cases rx;exact SeqAt.EqAt.str_none a t'
  |bl b=>cases rx;exact SeqAt.EqAt.str_bool a t' b
  |int b=>obtain⟨t,rfl⟩:=rx;exact SeqAt.EqAt.str_int a t' b t
  |str b=>obtain⟨t,rfl⟩:=rx;exact SeqAt.EqAt.str_str a t' b t
  |_=>exact absurd (show false=true from fx) Zd
 |_=>exact absurd (show false=true from fy) Zd
abbrev eqU(x:V)(u:Value):Bool:=match u with
 |.none=>eqV .non x
 |.bool b=>eqV (.bl b) x
 |.int i _=>eqV (.int i) x
 |.str z _=>eqV (.str z) x
 |_=>false
theorem pX(r:aI y u)(f:bK y=true):eqU x u=eqV y x:=by
 cases y with
 |non=>cases r;rfl
 |bl b=>cases r;rfl
 |int i=>obtain⟨t,rfl⟩:=r;rfl
 |str z=>obtain⟨t,rfl⟩:=r;rfl
 |_=>exact absurd (show false=true from f) Zd
theorem iS:∀ {xs:List V} {us:List Value},aN xs us->xs.all bK=true->us.any (eqU x)=xs.any λy=>eqV y x
 |_,_,.nil,_=>rfl
 |y::xs,u::us,.cons r t,f=>by
  rw[Yb,bAE] at f;rw[Yz,Yz,pX r f.1,iS t f.2]
theorem cB(rx:aI x v)(fx:bK x=true):∀ {xs:List V} {us:List Value},aN xs us->xs.all bK=true->∀u ∈ us,WY A s u v (eqU x u)
 |_,_,.nil,_=>λu hu=>by cases hu
 |y::xs,u::us,.cons r t,f=>λu' hu=>by
  rw[Yb,bAE] at f;rcases Zk.mp hu with rfl |hu
  ·rw[pX r f.1];exact Jf r rx f.1 fx
  ·exact cB rx fx t f.2 u' hu
abbrev inV(x:V)(xs:List V):Bool:=xs.any λy=>eqV y x
def rIn(K:W6)(neg:Bool):R2:=λx y H Q=>∃p xs,y = .ref p/\(SqL K H p xs\/SqT K H p xs)/\bK x=true/\xs.all bK=true/\Q (.bl (if neg then !inV x xs else inV x xs)) H
theorem xS:OpR X (VJ .In) (rIn X.K false):=by
 show 3;obtain⟨p,xs,rfl,hq,fx,fs,q⟩:=h;cases ry;rcases hq with hq |hq
 ·obtain⟨its,r,pl,hz⟩:=I.list hq;refine W1 (eqU x) pl.isList (λw hw=>cB rx fx r fs w (by simpa using hw)) ⟨.bl _,H,I,rfl,?_⟩;rw[show its.toArray.any (eqU x)=its.any (eqU x) by simp,iS r fs];exact q
 ·obtain⟨its,r,pl,hz⟩:=I.tuple hq;refine W2 (eqU x) pl (λw hw=>cB rx fx r fs w (by simpa using hw)) ⟨.bl _,H,I,rfl,?_⟩;rw[show its.toArray.any (eqU x)=its.any (eqU x) by simp,iS r fs];exact q
theorem pY:OpR X (VJ .NotIn) (rIn X.K true):=by
 show 3;obtain⟨p,xs,rfl,hq,fx,fs,q⟩:=h;cases ry;rcases hq with hq |hq
 ·obtain⟨its,r,pl,hz⟩:=I.list hq;refine W3 (eqU x) pl.isList (λw hw=>cB rx fx r fs w (by simpa using hw)) ⟨.bl _,H,I,rfl,?_⟩;rw[show its.toArray.any (eqU x)=its.any (eqU x) by simp,iS r fs];exact q
 ·obtain⟨its,r,pl,hz⟩:=I.tuple hq;refine W4 (eqU x) pl (λw hw=>cB rx fx r fs w (by simpa using hw)) ⟨.bl _,H,I,rfl,?_⟩;rw[show its.toArray.any (eqU x)=its.any (eqU x) by simp,iS r fs];exact q
theorem pZ:aP X (.builtin "len") (λxs H Q=>∃p ys,xs=[.ref p]/\(SqL X.K H p ys\/SqT X.K H p ys)/\Q (.int ys.length) H):=by
 show 8;obtain⟨p,ys,rfl,hq,q⟩:=h;obtain⟨u,rfl,rx⟩:=b5 r;cases rx;have hn:=jv;rcases hq with hq |hq
 ·obtain⟨its,r',pl,hz⟩:=I.list hq;have hlen:=r'.length;exact Calls.call_len_list pl.isList (by simp only[Zl] <;> lia) ⟨.int ys.length,H,I.tok _,⟨s.toks+1,by rw[Zl,hlen]⟩,q⟩
 ·obtain⟨its,r',pl,hz⟩:=I.tuple hq;have hlen:=r'.length;exact len_tuple pl (by simp only[Zl] <;> lia) ⟨.int ys.length,H,I.tok _,⟨s.toks+1,by rw[Zl,hlen]⟩,q⟩
theorem p0:aP X (.type "list") (λxs H Q=>∃p ys,xs=[.ref p]/\(SqL X.K H p ys\/SqT X.K H p ys)/\∀l,H l=none->Q (.ref l) (upd H l (.lst ys))):=by
 show 8;obtain⟨p,ys,rfl,hq,q⟩:=h;obtain⟨u,rfl,rx⟩:=b5 r;cases rx
 have fin:∀ (its:List Value),aN ys its->ys.length<=sizeLine->∀ (h':Heap) (c':Nat),(∀b o',s.heap.get? b=some o'->h'.get? b=some o') ->
   h'.get? s.heap.objs.size=some { cls:=.type "list", dict:=none,data:=.seq its.toArray c',slots:=#[] }->EP X pins σ Q (.ref s.heap.objs.size) { s with heap:=h' }:=λits r' hz h' c' kp e=>
  ⟨.ref s.heap.objs.size,_,I.laid (t':=s.toks) kp (Ze _) (show bq X.prog X.w _ h' _ (.lst ys) from ⟨hz,its,c',r',e⟩),rfl,q _ (I.hok.fresh (Ze _))⟩
 rcases hq with hq |hq
 ·obtain⟨its,r',pl,hz⟩:=I.list hq;have hlen:=r'.length;obtain⟨o,ho,hc,n,hd⟩:=pl.isList;exact call_list_seq p (.inl rfl) ho hc hd (λh' c' kp e=>fin its r' hz h' c' kp e) (by simp only[Zl] <;> lia)
 ·obtain⟨its,r',pl,hz⟩:=I.tuple hq;have hlen:=r'.length;obtain⟨o,ho,hc,n,hd⟩:=pl;exact call_list_seq p (.inr rfl) ho hc hd (λh' c' kp e=>fin its r' hz h' c' kp e) (by simp only[Zl] <;> lia)
theorem nU:aP X (.type "tuple") (λxs H Q=>∃p ys,xs=[.ref p]/\((SqL X.K H p ys/\∀l,H l=none->Q (.ref l) (upd H l (.tup ys)))\/(SqT X.K H p ys/\Q (.ref p) H))):=by
 show 8;obtain⟨p,ys,rfl,h⟩:=h;obtain⟨u,rfl,rx⟩:=b5 r;cases rx;rcases h with ⟨hq,q⟩ |⟨hq,q⟩
 ·obtain⟨its,r',pl,hz⟩:=I.list hq;have hlen:=r'.length;refine call_tuple_list pl.isList (λh' kp=>?_) (by simp only[Zl] <;> lia);have I1:Inv X pins σ H { s with heap:=h' }:=I.kept (t':=s.toks) kp
  have I2:Inv X pins σ (upd H h'.objs.size (.tup ys)) { s with heap:=h'.push { cls:=.type "tuple", data:=.seq its.toArray } }:=
   I1.laid (t':=s.toks) (λb o e=>Zi _ e) (Ze _) (show bq X.prog X.w _ _ _ (.tup ys) from ⟨hz,its,r',pP.new _ _⟩)
  exact⟨.ref h'.objs.size,_,I2,rfl,q _ (I1.hok.fresh (Ze _))⟩
 ·obtain⟨its,r',pl,hz⟩:=I.tuple hq;exact call_tuple_same pl ⟨.ref p,H,I,rfl,q⟩
def tyV(K:W6)(T:String)(x:V)(H:Hp):Prop:=match x with
 |.str _=>T = "str"
 |.int _=>T = "int"
 |.ref p=>(T = "list"/\∃xs,SqL K H p xs)\/(T = "tuple"/\((∃o,K.lookup p=some o/\o.cls = .type "tuple"/\o.dict=none)\/∃xs,H p=some (.tup xs))) ∨
   (T = "dict"/\((∃kvs,H p=some (.dK kvs))\/∃kvs,H p=some (.dT kvs)))\/(T = "set"/\∃S n,H p=some (.set S n))
 |_=>False
theorem Jg(I:Inv X pins σ H s)(r:aI x v)(ty:tyV X.K T x H) :
  s.TypeIs v T/\∀a,v = .ref a->∃ob,s.heap.get? a=some ob/\ob.dict=none:=by
 cases x with
 |str z=>
  obtain⟨t,rfl⟩:=r;cases (show T = "str" from ty);exact⟨typeIs_str s z t,λ_ e=>nomatch e⟩
 |int i=>
  obtain⟨t,rfl⟩:=r;cases (show T = "int" from ty);exact⟨typeIs_int s i t,λ_ e=>nomatch e⟩
 |ref p=>
  cases r;rcases ty with ⟨rfl,xs,hq⟩ |⟨rfl,⟨o,hk,hc,hd⟩ |⟨xs,hk⟩⟩ |⟨rfl,hk⟩ |⟨rfl,S,n,hk⟩
  ·obtain⟨its,_,pl,_⟩:=I.list hq;refine⟨pl.isList.typeIs,λa e=>?_⟩;cases e;obtain⟨o,n,e,c,hd,_⟩:=pl;exact⟨o,e,hd⟩
  ·refine⟨⟨o,I.kIn p o hk,hc⟩,λa e=>?_⟩;cases e;exact⟨o,I.kIn _ o hk,hd⟩
  ·obtain⟨_,its,_,o,e,hc,_,_,hd⟩:=I.hok p _ hk;refine⟨⟨o,e,hc⟩,λa e2=>?_⟩;cases e2;exact⟨o,e,hd⟩
  ·have z:∃o,s.heap.get? p=some o/\o.ExactDict:=by
    rcases hk with ⟨kvs,hk⟩ |⟨kvs,hk⟩
    ·obtain⟨_,_,_,_,o,_,_,e,ex,_⟩:=I.hok p _ hk;exact⟨o,e,ex⟩
    ·obtain⟨_,_,_,_,o,_,_,e,ex,_⟩:=I.hok p _ hk;exact⟨o,e,ex⟩
   obtain⟨o,e,ex⟩:=z;refine⟨⟨o,e,ex.1⟩,λa e2=>?_⟩;cases e2;exact⟨o,e,ex.2.1⟩
  ·obtain⟨o,_,_,_,e,ex,_⟩:=I.hok p _ hk;refine⟨⟨o,e,ex.1⟩,λa e2=>?_⟩;cases e2;exact⟨o,e,ex.2.1⟩
 |_=>exact False.elim ty
def tBM(K:W6)(T:String)(r:V->List V->Hp->VK->Prop)(to:TE)(t:TA):TE:=λσ H Q=>to σ H λx H1=>tyV K T x H1/\t σ H1 λxs H2=>r x xs H2 Q
variable {o e:Expr} {es:List Expr} {to:TE} {t:TA} {name:Str} {apos cpos:Pos} {T id:String} {r:V->List V->Hp->VK->Prop}
theorem oB(pa:PlainAttrs T)(slot:Slot T name id)(hty:typeOf (.builtin id)=pure (.type "method_descriptor"))(hm:MtR X id r)(ho:PE X o to)(ha:PA X (e::es) t)
  (hbase:attributeBase o name X.env (eval o X.env)=eval o X.env:=by rfl)
  (hfew:((backTo cpos (Uc (e::es) X.env)).all (λx=>!x.1) && (Vw cpos (VR [] X.env)).all (λx=>x.1.isSome)
   && decide ((e::es).length+([]:List Keyword).length+(if ([]:List Keyword).isEmpty then 0 else 1) < 30))=true:=by rfl)
  (hline:(apos.endLine == cpos.line)=true:=by rfl) (hs:Uc (e::es) X.env=(false,eval e X.env)::Uc es X.env:=by rfl) (hplain:(backTo cpos (Uc es X.env)).any (·.1)=false:=by rfl) :
  PE X (.Call (.Attribute o name apos) (e::es) [] cpos) (tBM X.K T r to t):=by
 intro pins s σ H Q I h;refine wpAny_Call_method_late hbase hfew hline rfl (thn (ho pins s σ H _ I h) λv s1 ⟨x,H1,I1,r1,ty,q1⟩=>?_);obtain⟨h1,h2⟩:=Jg I1 r1 ty;refine⟨T,id,pa,slot,hty,h1,h2,?_⟩;have hA:=ha cpos pins s1 σ H1 _ I1 q1;rw[hs] at hA ⊢;refine Calls.callWith_builtin (by show(false || (backTo cpos (Uc es X.env)).any (·.1))=false;rw[hplain] <;> rfl) (Wu ?_);exact thn hA λus s2 ⟨vs,H2,I2,r2,q2⟩=>hm pins s2 σ H2 x vs v us Q I2 r1 r2 q2
end
def MtM(X:Cx)(id:String)(r:V->List V->Hp->VK->Prop):Prop:=
 ∀ (pins:List (Addr × Obj)) (s:Shared) (σ:St) (H:Hp) (x:V) (xs:List V) (v:Value) (us:List Value) (Q:VK),Inv X pins σ H s->aI x v->aN xs us->r x xs H Q ->
  wpAny (model X.prog X.w) X.A (call (.builtin id) (v::us)) (EP X pins σ Q) X.xe s
theorem aN.one:∀ {x:V} {us:List Value},aN [x] us->∃u,us=[u]/\aI x u
 |_,_,.cons r .nil=>⟨_,rfl,r⟩
theorem aN.eraseIdx:∀ {xs:List V} {us:List Value} (i:Nat),aN xs us->aN (xs.eraseIdx i) (us.eraseIdx i)
 |_,_,_,.nil=>.nil
 |_,_,0,.cons _ t=>t
 |_,_,i+1,.cons r t=>.cons r (aN.eraseIdx i t)
theorem aN.rep(h:aN xs us):∀k:Nat,aN (Zp k xs).flatten (Zp k us).flatten
 |0=>.nil
 |k+1=>by
  rw[Z7,Z7,Yo,Yo];exact aN.append h (aN.rep h k)
theorem oC{α:Type}:∀ (l:List α) (i:Nat),(l.eraseIdx i).length<=l.length
 |[],_=>Ze _
 |_::_,0=>Yu _
 |_::r,i+1=>XN (oC r i)
theorem oD(its:List Value):∀ (k:Nat) (acc:List Value),
  X6 (λx1 x2=>x1++x2) acc.toArray (Zp k its.toArray)=(acc++(Zp k its).flatten).toArray
 |0,acc=>by simp
 |k+1,acc=>by
  have e:acc.toArray++its.toArray=(acc++its).toArray:=by simp
  have e2:(acc++its)++(Zp k its).flatten=acc++(Zp (k+1) its).flatten:=by
   rw[Z7,Yo,Yd]
  rw[<-e2,<-oD its k (acc++its),<-e,Z7,XX]
section
variable {X:Cx} {pins:List (Addr × Obj)} {σ:St} {H:Hp} {s:Shared} {l b:Addr} {xs ys zs:List V}
theorem Inv.lset{its its':List Value}{n:Nat}{f:Array Value->Array Value}{t':Nat}(I:Inv X pins σ H s)(hH:H l=some (.lst xs))
  (e:s.heap.get? l=some { cls:=.type "list", data:=.seq its.toArray n }) (hf:f its.toArray=its'.toArray) (hv:aN ys its') (hz:ys.length<=sizeLine) :
  Inv X pins σ (upd H l (.lst ys)) { s with heap:=s.heap.update l (Obj.mapSeq f),toks:=t' }:=by
 have q:=PySem.IsL.update e f;rw[hf] at q;refine I.write (x:=l) (e:=l) (by rw[hH];exact trivial) (.inl rfl) (λb' u hb hu=>(Z1 s.heap (Obj.mapSeq f) (Ne.symm hb)).trans hu) ⟨_,q⟩ ?_;exact⟨hz,its',_,hv,q⟩
theorem Inv.lnew{t':Nat}(I:Inv X pins σ H s)(hv:aN ys its)(hz:ys.length<=sizeLine) :
  Inv X pins σ (upd H s.heap.objs.size (.lst ys)) { s with heap:=s.heap.push { cls:=.type "list", data:=.seq its.toArray },toks:=t' }:=
 I.laid (λ_ _ q=>Zi _ q) (Ze _) ⟨hz,its,0,hv,ZB _ rfl⟩
theorem Inv.fresh(I:Inv X pins σ H s):H s.heap.objs.size=none:=I.hok.fresh (Ze _)
theorem Inv.lstM(I:Inv X pins σ H s)(hH:H l=some (.lst xs)):xs.length<=sizeLine/\∃ (its:List Value) (n:Nat),aN xs its/\xs.length=its.length/\s.heap.get? l=some { cls:=.type "list", data:=.seq its.toArray n }:=by
 obtain⟨z,its,n,r,e⟩:=I.hok l _ hH;exact⟨z,its,n,r,r.length,e⟩
theorem zL{n:Nat}(h:n<=sizeLine):Builtin.List.listTooLong n=false:=by
 unfold Builtin.List.listTooLong;exact decide_eq_false (by lia)
end
section
variable {X:Cx}
def DN:V->List V->Hp->VK->Prop:=λx vs H Q=>∃l xs y,x = .ref l/\vs=[y]/\H l=some (.lst xs)/\xs.length < sizeLine/\Q .non (upd H l (.lst (xs++[y])))
theorem oE:MtM X "list.append" DN:=by
 intro pins s σ H x vs v us Q I rx rv h;obtain⟨l,xs,y,rfl,rfl,hH,hz,q⟩:=h;cases rx;obtain⟨u,rfl,ru⟩:=rv.one;obtain⟨z,its,n,r,hl,e⟩:=I.lstM hH;refine VC WD ⟨_,e,rfl⟩ F.entry_list_append (F.args_list_append_2 _ _) (PySem.list_append l its.toArray n u (by rw[Zl];lia)) ⟨e,?_⟩;refine⟨.non,_,I.lset (its':=its++[u]) hH e (by simp) (r.append (.cons ru .nil)) ?_,rfl,q⟩;rw[Zr,ZR]
 lia
def Jh:V->List V->Hp->VK->Prop:=λx vs H Q=>∃l xs i k y,x = .ref l/\vs=[.int i]/\H l=some (.lst xs)/\-(2 ^ 63)<=i/\i < 2 ^ 63/\seqIndex? i xs.length=some k/\xs[k]?=some y/\Q y (upd H l (.lst (xs.eraseIdx k)))
theorem zM:MtM X "list.pop" Jh:=by
 intro pins s σ H x vs v us Q I rx rv h;obtain⟨l,xs,i,k,y,rfl,rfl,hH,h1,h2,hk,hy,q⟩:=h;cases rx;obtain⟨u,rfl,ru⟩:=rv.one;obtain⟨t,rfl⟩:=ru;obtain⟨z,its,n,r,hl,e⟩:=I.lstM hH;obtain⟨w,hw,rw'⟩:=r.get hy
 refine VC WI ⟨_,e,rfl⟩ F.entry_list_pop (F.args_list_pop_2 _ _)
  (MeetsSeq.list_pop_at l its.toArray n i t k w (fitsIndex_both h1 h2) (by rw[Zl,<-hl];exact hk) (by rw[<-Array.getElem?_toList];exact hw) (by rw[Zl];lia)) ⟨e,?_⟩
 refine⟨y,_,I.lset (its':=its.eraseIdx k) hH e ?_ (r.eraseIdx k) ?_,rw',q⟩
 ·show its.toArray.eraseIdxIfInBounds k=(its.eraseIdx k).toArray;rw[List.eraseIdxIfInBounds_toArray]
 ·have:=oC xs k
  lia
def QH:R2:=λx y H Q=>∃l b xs zs,x = .ref l/\y = .ref b/\H l=some (.lst xs)/\H b=some (.lst zs)/\xs.length+zs.length<=sizeLine/\∀p,H p=none->Q (.ref p) (upd H p (.lst (xs++zs)))
theorem t5:OpR X (Vy .Add) QH:=by
 show 3;obtain⟨l,b,xs,zs,rfl,rfl,hH,hB,hz,q⟩:=h;cases rx;cases ry;obtain⟨z,its,n,r,hl,e⟩:=I.lstM hH;obtain⟨z2,its2,n2,r2,hl2,e2⟩:=I.lstM hB;refine PySem.P.add_list e e2 ?_ (by rw[Zl,Zl];lia);have ea:its.toArray++its2.toArray=(its++its2).toArray:=by simp
 rw[ea];exact⟨.ref _,_,I.lnew (t':=s.toks) (r.append r2) (by rw[Zr];lia),rfl,q _ I.fresh⟩
def QI:R2:=λx y H Q=>∃l k xs,x = .ref l/\y = .int k/\H l=some (.lst xs)/\-(2 ^ 63)<=k/\k < 2 ^ 63/\xs.length * k.toNat<=sizeLine ∧
 ∀p,H p=none->Q (.ref p) (upd H p (.lst (Zp k.toNat xs).flatten))
theorem DP{α:Type}(xs:List α)(k:Nat):(Zp k xs).flatten.length=k * xs.length:=by
 induction k with
 |zero=>simp
 |succ k ih=>rw[Z7,Yo,Zr,ih,Wd,Nat.add_comm]
theorem Ji:OpR X (Vy .Mult) QI:=by
 show 3;obtain⟨l,k,xs,rfl,rfl,hH,h1,h2,hz,q⟩:=h;cases rx;obtain⟨t,rfl⟩:=ry;obtain⟨z,its,n,r,hl,e⟩:=I.lstM hH;have hlen:its.toArray.size * k.toNat<=sizeLine:=by rw[Zl,<-hl];exact hz
 have hcap:¬ its.toArray.size * k.toNat > (2 ^ 63 - 1) / 8:=by
  have:(sizeLine:Nat)<=(2 ^ 63 - 1) / 8:=by decide
  lia
 have hfit:¬ (!Builtin.List.listFitsIndex k)=true:=by
  rw[fitsIndex_both h1 h2];exact Zd
 have hlong:¬ Builtin.List.listTooLong (its.toArray.size * k.toNat)=true:=by
  rw[zL hlen];exact Zd
 have hnew:X6 (λx1 x2=>x1++x2) #[] (Zp (if its.toArray.isEmpty=true then 0 else k.toNat) its.toArray)=(Zp k.toNat its).flatten.toArray:=by
  have f0:∀m:Nat,X6 (λx1 x2=>x1++x2) #[] (Zp m its.toArray)=(Zp m its).flatten.toArray:=λm=>by
   have:=oD its m [];rw[XY] at this;exact this
  rw[f0];cases its with
  |nil=>simp
  |cons a r'=>rw[if_neg (by simp)]
 refine wpAny_binaryOp_repeat_ref (T := "list") (U := "int") (by decide) ⟨_,e,rfl⟩ (λs'=>typeIs_int s' k t) noFill_list_mul F.fills_int_mul F.slot_int_rmul repeat_list F.slot_int_index.lookup
  (VC F.slot_int_rmul (typeIs_int s k t) F.entry_int_rmul (F.args_int_rmul_2 _ _) (int___rmul___int_list k t l its.toArray n)
   ⟨e,rfl,⟨_,e,rfl⟩,VC F.slot_list_mul ⟨_,e,rfl⟩ F.entry_list_mul (F.args_list_mul_2 _ _) (AutoListH.list___mul___list_int_3 l its.toArray n k t hfit hcap hlong) ⟨e,?_⟩⟩)
 rw[hnew];exact⟨.ref _,_,I.lnew (t':=s.toks) (r.rep k.toNat) (by rw[DP,Nat.mul_comm];exact hz),rfl,q _ I.fresh⟩
end
end L2
namespace Att
open PySem PySem.W PySem.Calls PyProof.Rows
theorem kH:∀ (ns:List Int) (vs:List Value),WellAll P h vs (ns.map WData.int)->IntsAre vs ns:=by
 intro ns
 induction ns with
 |nil=>
  intro vs w;rw[Yc] at w;cases w;exact .nil
 |cons n ns ih=>
  intro vs w;rw[Zv] at w;cases w with
  |cons a b=>
   cases a;exact .cons _ _ (ih _ b)
theorem xT{l:OpenLaw}{n:Nat}(hn:l.most=some n){P:Params}{h:Heap}{args:List WData}{vals:List Value}
  (hpre:l.row.toRowW.claim.pre args=true) (hwl:WellAll P h vals args) :
  ∃a vs ns,vals=[Value.ref a]/\args=[WData.list (ns.map WData.int)]/\h.get? a=some { cls:=.type "list", data:=.seq vs.toArray }/\IntsAre vs ns/\ns.length<=n:=by
 have hsh:WShape.hasAll [] args [.list .int]=true:=(pre_splitW hpre).1;have hc:l.pre.holds [] { args:=args }=true:=(pre_splitW hpre).2;obtain⟨d,r,rfl,h1,h2⟩:=hasAllW_cons hsh;obtain rfl:=hasAllW_nil h2;obtain⟨xs,rfl,h3⟩:=hasW_list h1;obtain⟨ns,rfl⟩:=items_int h3
 have hlen:ns.length<=n:=by
  unfold OpenLaw.pre at hc
  have h4:(WTm.not (.lt (.lit (.int (n:Int))) (.len (.arg 0)))).holds [] { args:=[.list (ns.map .int)] }=true:=by
   have h4:=(holds_andW hc).1;rw[hn] at h4;exact h4
  have h5:=condW_of h4 (w_not (w_lt w_lit (w_len_list (w_arg rfl))));rw[Za] at h5;refine Nat.le_of_not_lt λq=>?_;have q':(n:Int) < ((ns.length:Nat):Int):=by lia
  first
   |(rw[decide_eq_true q'] at h5;exact absurd h5 (by decide))
   |(simp at h5;lia)
 cases hwl with
 |cons w1 w2=>
  cases w2;cases w1 with
  |list ho hall=>exact⟨_,_,ns,rfl,rfl,ho,kH ns _ hall,hlen⟩
theorem xU(l:OpenLaw)(args:List WData):l.row.toRowW.claim.post args (.bool true) args=true:=
 postW_of (r:=l.row.toRowW) (X:=(true == true))
  (show WShape.has [] (.bool true) .bool=true by first |rfl |decide |simp[WShape.has,WShape.arms,WShape.armsAll])
  (show(WTm.eq .res (.lit (.bool true))).value [] { args:=args,res:=some (.bool true),after:=args }=some (.bool (true == true)) from w_eq_bool (w_res rfl) w_lit) rfl
theorem attach_call{l:OpenLaw}{n:Nat}{q:Program}{loose:List Str}{XP:(Str->Option Value)->Heap->Prop}{YP:World->Heap->Prop}{d:DefRec}
  (hn:l.most=some n) (hdf:d.params.defaults=[])
  (call:∀ (w:World) (s₀ s₁:Shared) (mg mb:Str->Option Value) (fa:Addr) (o:Obj) (pm cd doc:Value) (a:Addr) (vs:List Value) (ns:List Int),
   Ground q loose [] XP w s₀ mg mb s₁.heap->YP w s₁.heap ->
   s₁.heap.get? fa=some o->o.data = .func (docDef d.name d.params d.body d.scope pm cd doc)->s₁.heap.CodeRec cd d.name->mg d.name=some (.ref fa) ->
   s₁.heap.get? a=some { cls:=.type "list", data:=.seq vs.toArray }->IntsAre vs ns->ns.length<=n->s₁.gens=#[] ->
   codeAny (model l.prog w) callerA (.call (.ref fa) ⟨[.ref a],[]⟩) (λr s'=>r = .ok (.ret (.bool true))/\OldK s₁.heap s'.heap/\s'.os=s₁.os/\AllBare s'.gens) s₁) :
  WalkO q loose XP YP l.row.toRowW d [] (λf vs=>PySem.call f vs):=by
 intro w s₀ s₁ mg mb G Y fa o pm cd doc dV kV ho hd hcd hD hmg hg args vals as hpre hlay hrd hwl hlo;obtain rfl:dV = .none:=Dflts.none hD hdf;obtain rfl:kV = .none:=Dflts.noKw hD;obtain⟨a,vs,ns,rfl,rfl,hobj,hints,hlen⟩:=xT hn hpre hwl;refine enter_call (VI (call w s₀ s₁ mg mb fa o pm cd doc a vs ns G Y ho (fd_plain hd) hcd hmg hobj hints hlen hg) λr s' hq=>?_);obtain⟨rfl,h2,h3,h4⟩:=hq;exact⟨.inl ⟨.bool true,.bool true,[],rfl,λ_=>rfl,.bool true,xU l _,λ_=>⟨List.Pairwise.nil,λ_ hm=>(nomatch hm)⟩⟩,h2,h3,h4⟩
end Att
namespace L2
open PySem PySem.Spec PyProof.Rows
theorem jz:∀ {vs:List Value} {ns:List Int},IntsAre vs ns->aN (ns.map V.int) vs
 |_,_,.nil=>.nil
 |_,_,.cons n t h=>.cons ⟨t,rfl⟩ (jz h)
def NQ(H:Hp):Prop:=∀b,H b=none\/∃o xs,H b=some (.frz o (.lst xs))
theorem zN{P:Program}{w:World}{K:W6}{mg mb:Str->Option Value}{CX:CXT}{k:Nat}{fa a:Addr}{fd:WN}{x:Str}{sp:Sp}{s₁:Shared}{vs:List Value}{ns:List Int}
  (KX:K.In s₁.heap) (hns:s₁.heap.Ns VU mg) (hb:s₁.heap.Ns VB mb) (hbb:∀x:Str,x ≠ "__name__"->mb x=VA x) (hlim:s₁.heap.NoLimit) (hg:s₁.gens=#[])
  (ha:s₁.heap.get? a=some { cls:=.type "list", data:=.seq vs.toArray }) (hi:IntsAre vs ns) (hl:ns.length<=sizeLine) (hr:Room k callerA)
  (F:∀base:Heap,K.In base->base.Ns VU mg->FnOk P w K mg base CX k fa fd [x] sp) (hbind:∀ (s:Shared) (u:Value),BindsTo s fd ⟨[u],[]⟩ [(x,u)])
  (hsp:∀H:Hp,NQ H->SqL K H a (ns.map V.int)->sp [.ref a] H (λv _=>v = .bl true) λ_ _ _=>False)
  (hCX:∀H e s',CX [] H s₁ (λ_ _ _=>False) e s'->False) :
  codeAny (model P w) callerA (.call (.ref fa) ⟨[.ref a],[]⟩) (λr s'=>r = .ok (.ret (.bool true))/\OldK s₁.heap s'.heap/\s'.os=s₁.os/\AllBare s'.gens) s₁:=by
 have rv:=jz hi;have lenV:=hi.length
 have core:∀H:Hp,NQ H->SqL K H a (ns.map V.int)->HOk P w H s₁.heap->(∀b,H b ≠ none->b=a)->(H a ≠ none->K.lookup a=none) ->
   codeAny (model P w) callerA (.call (.ref fa) ⟨[.ref a],[]⟩) (λr s'=>r = .ok (.ret (.bool true))/\OldK s₁.heap s'.heap/\s'.os=s₁.os/\AllBare s'.gens) s₁:=by
  intro H hO hS hok hA hK;have base_of:∀ {b:Addr} {o:Obj},s₁.heap.get? b=some o->H b=none->(pQ s₁.heap H).get? b=some o:=λe n=>zo e n
  have noA:∀ {b:Addr} {o:Obj} {es:Array DictEntry} {ep:Nat},s₁.heap.get? b=some o->o.data = .dict es ep->H b=none:=λ{b o es ep} e d=>by
   cases q:H b with
   |none=>rfl
   |some u=>
    have e':b=a:=hA b (by rw[q];simp);subst e';rw[ha] at e;cases e;have d':Data.seq vs.toArray _=Data.dict es ep:=d;cases d'
  have nsK:∀ {b:Addr} {m:Str->Option Value},s₁.heap.Ns b m->(pQ s₁.heap H).Ns b m:=λ{b m} ⟨o,es,ep,e,d,r⟩=>⟨o,es,ep,base_of e (noA e d),d,r⟩
  have hKb:K.In (pQ s₁.heap H):=λb o e=>base_of (KX b o e) (by
   cases q:H b with
   |none=>rfl
   |some u=>
    have e':b=a:=hA b (by rw[q];simp);subst e';rw[hK (by rw[q];simp)] at e;cases e)
  have hM:Mod K mg (pQ s₁.heap H):=⟨hKb,nsK hns,⟨mb,nsK hb,hbb⟩,let ⟨mc,h1,h2⟩:=hlim;⟨mc,nsK h1,h2⟩⟩;have e0:Env0 P w K mg (pQ s₁.heap H) callerA [] s₁ H:=⟨rfl,hM,λb o e=>Dq e,Nat.le_of_eq (xH _ _),trivial,λb hb=>absurd (show b ∈ ([]:List Addr) from hb) (by simp),hok,.of_eq hg⟩;refine VI ((F _ hKb (nsK hns)).run callerA [] s₁ H ⟨[.ref a],[]⟩ [.ref a] [.ref a] _ _ hr e0 (hbind s₁ (.ref a)) (.cons rfl .nil) (hsp H hO hS)) λr s' h=>?_;cases r with
  |error e=>exact(hCX H e s' h).elim
  |ok fl=>
   cases fl with
   |next=>exact False.elim h
   |brk=>exact False.elim h
   |cont=>exact False.elim h
   |ret u=>
    obtain⟨v,H',os,bare,un,hok',r',q⟩:=h;have q':v = .bl true:=q;subst q';obtain rfl:u=Value.bool true:=r';refine⟨rfl,OldK.of_keep λb o e=>?_,os,bare⟩;cases q:H b with
    |none=>exact un.keep b o e q (by intro z;exact absurd (show b ∈ ([]:List Addr) from z) (by simp)) (by simp)
    |some u=>
     rcases hO b with z |⟨ob,xs,z⟩
     ·rw[q] at z;cases z
     ·have z2:=un.frzs b ob _ z;obtain⟨e1,_⟩:=hok b _ z;obtain⟨e2,_⟩:=hok' b _ z2;rw[e] at e1;cases e1;exact e2
 cases hk:K.lookup a with
 |some o=>
  have e:=KX a o hk;rw[ha] at e;cases e;refine core (λ_=>none) (λ_=>.inl rfl) (.inr ⟨_,vs.toArray,_,hk,rfl,rfl,rfl,by rw[Zl,lenV];exact hl,by simpa using rv⟩) (λb u z=>by have z':(none:Option HO)=some u:=z;cases z') (λb z=>absurd rfl z) λz=>absurd rfl z
 |none=>
  refine core (λb=>if b=a then some (.frz { cls:=.type "list", data:=.seq vs.toArray } (.lst (ns.map V.int))) else none) (λb=>?_) (.inl (.inr ⟨{ cls:=.type "list", data:=.seq vs.toArray },if_pos rfl⟩)) (λb u z=>?_) (λb z=>?_) λ_=>hk
  ·by_cases hb:b=a
   ·exact .inr ⟨_,_,if_pos hb⟩
   ·exact .inl (if_neg hb)
  ·by_cases hb:b=a
   ·have z':=(if_pos hb).symm.trans z;cases z';subst hb;exact⟨ha,by rw[Za];exact hl,vs,_,rv,ha⟩
   ·have z':=(if_neg hb).symm.trans z;cases z'
  ·by_cases hb:b=a
   ·exact hb
   ·exact absurd (if_neg hb) z
@[inline]abbrev CX0:CXT:=λ_ _ _ _ _ _=>False
@[inline]abbrev E0:XK:=λ_ _ _=>False
structure Fun(K:W6)(x qual:Str)(st:Stmt)(f:Addr)(fd:WN):Prop where
 ex:∃ (oc:Value) (od:Option Addr) (kV doc pm:Value) (an:Option Addr) (cdv ct:Value) (osl:Array (Option Value)),
  fd=Ve x qual (dm st) (ba st) (au st) .none kV doc pm an cdv ct/\K.lookup f=some ⟨oc,od,.func fd,osl⟩/\Va K cdv qual=true
 kp:Vi K (.ref f)=true
section
variable {P:Program} {w:World} {K:W6} {mg:Str->Option Value} {base:Heap}
theorem Fun.binds{x qual:Str}{st:Stmt}{f:Addr}{fd:WN}{ps:List Str}(F:Fun K x qual st f fd)
  (h:∀ (kV doc pm:Value) (an:Option Addr) (cdv ct:Value) (us:List Value),us.length=ps.length->bindArgs (Ve x qual (dm st) (ba st) (au st) .none kV doc pm an cdv ct) ⟨us,[]⟩=pure (ps.zip us)):cV K fd ps []:=by
 obtain⟨oc,od,kV,doc,pm,an,cdv,ct,osl,rfl,lk,hcd⟩:=F.ex;exact .all (h kV doc pm an cdv ct)
theorem Jj{x qual:Str}{st:Stmt}{f:Addr}{oc:Value}{od an:Option Addr}{osl:Array (Option Value)}{kV doc pm cdv ct:Value}(l:K.lookup f=some ⟨oc,od,.func (Ve x qual (dm st) (ba st) (au st) .none kV doc pm an cdv ct),osl⟩)
  (c:Va K cdv qual=true) (k:Vi K (.ref f)=true):Fun K x qual st f (Ve x qual (dm st) (ba st) (au st) .none kV doc pm an cdv ct):=⟨⟨oc,od,kV,doc,pm,an,cdv,ct,osl,rfl,l,c⟩,k⟩
end
theorem xV{n:Nat}(h:n<=1000):n < sizeLine:=Nat.lt_of_le_of_lt h (by decide)
abbrev p9(ifs:List Expr)(env:Env):Sem Bool:=
 forIn ifs true λc r=>if r=true then do let ok <-isTrue c env (eval c env);pure (ForInStep.yield ok) else pure (ForInStep.yield r)
theorem DQ{d:Nat}
  (hg:gens[d]?=some ⟨tg,iter,ifs,0⟩)
  (h:wpAny M A (pyNext it) (λr s1=>match r with
   |none=>Q (.done .next) s1
   | some v=>wpAny M A (VS tg it v) (λ_ s2=>wpAny M A (assign tg env v) (λ_ s3=>wpAny M A (p9 ifs env) (λok s4=>if ok=true then (match gens[d+1]? with
     |none=>wpAny M A (eval elt env) (λx s5=>wpAny M A (call (.builtin "list.append") [acc,x]) (λ_ s6=>Q (.again (.compLoop (.ListComp elt gens scope pos) d it acc env)) s6) E s5) E s4
     | some g'=>g'.is_async=0/\wpAny M A (eval g'.iter env) (λx s5=>wpAny M A (VN g'.iter env x) (λx' s6=>wpAny M A (pyIter x') (λit' s7=>
       wpAny M A (runOwn (.compStart (.ListComp elt gens scope pos) (d+1) it' acc env) env) (λ_ s8=>Q (.again (.compLoop (.ListComp elt gens scope pos) d it acc env)) s8) E s7) E s6) E s5) E s4)
    else Q (.again (.compLoop (.ListComp elt gens scope pos) d it acc env)) s4) E s3) E s2) E s1) E s) :
  wpAny M A (compTurn (.ListComp elt gens scope pos) d it acc env) Q E s:=by
 unfold compTurn;simp only[hg];refine Uo (UP ?_);show wpAny M A (pyNext it >>= _) Q E s;refine Uo (UC h (λr s1 h1=>?_) λ_ _ x=>x);cases r with
 |none=>exact UH h1
 |some v=>
  refine Uo (UC h1 (λ_ s2 h2=>?_) λ_ _ x=>x);refine Uo (UC h2 (λ_ s3 h3=>?_) λ_ _ x=>x);refine Uo (UC h3 (λok s4 h4=>?_) λ_ _ x=>x);cases ok with
  |false=>exact UH h4
  |true=>
   simp only[if_true] at h4 ⊢;cases hn:gens[d+1]? with
   |none=>
    rw[hn] at h4;refine Uo (Uo (UC h4 (λx s5 h5=>?_) λ_ _ x=>x));exact Uo (UC h5 (λ_ s6 h6=>UH (UH h6)) λ_ _ x=>x)
   |some g'=>
    rw[hn] at h4;obtain⟨ha,h4⟩:=h4;refine Uo (UC h4 (λx s5 h5=>Uo (UP ?_)) λ_ _ x=>x);rw[ha];show wpAny M A (VN g'.iter env x >>= _) Q E s5;refine Uo (UC h5 (λx' s6 h6=>?_) λ_ _ x=>x);refine Uo (Uw (UC h6 (λit' s7 h7=>?_) λ_ _ x=>x));exact Uo (UC h7 (λ_ s8 h8=>UH h8) λ_ _ x=>x)
abbrev b6(cells:List (Str × Addr)):List (Str × WQ)->List (Str × Addr)->List (Str × Addr)
 |[],acc=>acc
 |(n,k)::r,acc=>if k == .free then b6 cells r ((n,(cells.lookup n).getD 0)::acc) else b6 cells r acc
theorem ia:∀ (names:List (Str × WQ)) (acc:List (Str × Addr)),(∀y ∈ names,y.2 = .free->∃c,env.cells.lookup y.1=some c) ->
  (forIn names acc λ(x:Str × WQ) (cs:List (Str × Addr))=>(match x with |(name,kind)=>if kind == .free then (do let a <-cellOf env name;pure (ForInStep.yield ((name,a)::cs))) else pure (ForInStep.yield cs):Sem (ForInStep (List (Str × Addr)))))
   = (pure (b6 env.cells names acc):Sem (List (Str × Addr)))
 |[],acc,_=>by rw[YS];rfl
 |(n,k)::r,acc,h=>by
  rw[XZ];have hr:∀y ∈ r,y.2 = .free->∃c,env.cells.lookup y.1=some c:=λy hy=>h y (Zf _ hy);cases hk:(k == NameKind.free) with
  |true=>
   obtain⟨c,hc⟩:=h (n,k) Zg (by simpa using hk);have e:cellOf env n=pure c:=by unfold cellOf;rw[show env.cells.lookup n=some c from hc]
   simp only[hk,if_true,e,pure_bind];rw[ia r _ hr]
   conv=>rhs;rw[b6]
   simp only[hk,if_true];rw[show env.cells.lookup n=some c from hc];rfl
  |false=>
   simp only[hk,ZY,if_false,pure_bind];rw[ia r _ hr]
   conv=>rhs;rw[b6]
   simp only[hk,ZY,if_false]
theorem vZ(h:∀y ∈ scope.names,y.2 = .free->∃c,env.cells.lookup y.1=some c):closureFor scope env=pure (b6 env.cells scope.names []):=by
 have e:=ia (env:=env) scope.names [] h;unfold closureFor;refine Eq.trans ?_ e
 first
  |rfl
  |(rw[bind_pure])
  |(simp only[bind_pure])
theorem jA:∀ {names:List (Str × WQ)} {acc:List (Str × Addr)} {x:Str} {c:Addr},(x,c) ∈ b6 cells names acc->(x,c) ∈ acc\/((x,NameKind.free) ∈ names/\c=(cells.lookup x).getD 0)
 |[],_,_,_,h=>.inl h
 |(n,k)::r,acc,x,c,h=>by
  unfold b6 at h;split at h
  ·rename_i hk;have hk':k = .free:=by simpa using hk
   rcases jA h with e |⟨e,q⟩
   ·rcases Zk.mp e with e |e
    ·cases e;exact .inr ⟨by rw[hk'];exact Zg,rfl⟩
    ·exact .inl e
   ·exact .inr ⟨Zf _ e,q⟩
  ·rcases jA h with e |⟨e,q⟩
   ·exact .inl e
   ·exact .inr ⟨Zf _ e,q⟩
theorem fH:∀ {l:List (Str × Addr)},(∃c,(x,c) ∈ l)->∃c,l.lookup x=some c
 |[],⟨_,h⟩=>nomatch h
 |(n,c)::r,⟨c',h⟩=>by
  rw[ZP];cases hb:x == n with
  |true=>exact⟨c,rfl⟩
  |false=>
   rcases Zk.mp h with e |e
   ·cases e;simp at hb
   ·exact fH ⟨c',e⟩
theorem gA:∀ {names:List (Str × WQ)} {acc:List (Str × Addr)},(x,NameKind.free) ∈ names\/(∃c,(x,c) ∈ acc)->∃c,(x,c) ∈ b6 cells names acc
 |[],_,h=>h.elim (λe=>nomatch e) id
 |(n,k)::r,acc,h=>by
  unfold b6;split
  ·rename_i hk;refine gA ?_;rcases h with h |⟨c,h⟩
   ·rcases Zk.mp h with e |e
    ·cases e;exact .inr ⟨_,Zg⟩
    ·exact .inl e
   ·exact .inr ⟨c,Zf _ h⟩
  ·rename_i hk;refine gA ?_;rcases h with h |⟨c,h⟩
   ·rcases Zk.mp h with e |e
    ·cases e;exact absurd rfl hk
    ·exact .inl e
   ·exact .inr ⟨c,h⟩
theorem cy:∀ (names:List (Str × WQ)) (n:Nat) (acc:List (Str × Addr)),VE n names acc=VE n names []++acc
 |[],_,_=>rfl
 |(y,k)::r,n,acc=>by
  unfold VE;split
  ·rw[cy r (n+1) ((y,n)::acc),cy r (n+1) [(y,n)],Yd];rfl
  ·exact cy r n acc
theorem dG:∀ (names:List (Str × WQ)) (n:Nat) (acc:List (Str × Addr)) (x:Str) (c:Addr),(x,c) ∈ VE n names acc->(x,c) ∈ acc\/(x,NameKind.cell) ∈ names
 |[],_,_,_,_,h=>.inl h
 |(y,k)::r,n,acc,x,c,h=>by
  unfold VE at h;split at h
  ·rename_i hk;have hk':k = .cell:=by simpa using hk
   rcases dG r _ _ x c h with e |e
   ·rcases Zk.mp e with e |e
    ·cases e;exact .inr (by rw[hk'];exact Zg)
    ·exact .inl e
   ·exact .inr (Zf _ e)
  ·rcases dG r _ _ x c h with e |e
   ·exact .inl e
   ·exact .inr (Zf _ e)
abbrev nV(sc:Scope)(n:Str)(k:WQ):WQ:=if (k == .free && sc.kind == .function && sc.names.lookup n == some .cell) then .cell else k
abbrev fI(scope sc:Scope):Scope:={ scope with names:=scope.names.map λy=>(y.1,nV sc y.1 y.2) }
theorem DR(scope:Scope)(env:Env):relabel scope env=fI scope env.scope:=by
 unfold relabel fI
 congr 1
 refine YR λy _=>?_;obtain⟨n,k⟩:=y;unfold nV;dsimp only;show(if (k == NameKind.free && env.scope.kind == ScopeKind.function && Xh n env.scope.names == some NameKind.cell)=true then (n,NameKind.cell) else (n,k))=_;split <;> rfl
theorem fJ(sc:Scope)(x:Str):∀names:List (Str × WQ),(names.map λy=>(y.1,nV sc y.1 y.2)).lookup x=(names.lookup x).map (nV sc x)
 |[]=>rfl
 |(n,k)::r=>by
  rw[Zv,ZP,ZP];dsimp only;cases hb:x == n with
  |true=>
   have q:x=n:=by simpa using hb
   subst q;rfl
  |false=>exact fJ sc x r
abbrev t6(scope:Scope)(C:Addr)(env:Env):Env:=
 { scope:=fI scope env.scope,locals:=C,globals:=env.globals,cells:=VE (C+1) scope.names (b6 env.cells scope.names []),qual:=env.qual,func:=none,code:=env.code,frame:=env.frame,builtins:=env.builtins }
theorem xW
  (h:Q { scope:=scope,locals:=s.heap.objs.size,globals:=env.globals,cells:=VE (s.heap.objs.size+1) scope.names cl,qual:=env.qual,func:=none,code:=env.code,frame:=env.frame,builtins:=env.builtins }
   { s with heap:=V4 (s.heap.push { cls:=.type "dict", data:=.dict #[] }) scope.names }) :
  wpAny M A (VX scope env.globals cl [] env.qual none .none (some env)) Q E s:=by
 simp only[VX,Option.isSome_some,if_true];refine Uo (wpAny_alloc ?_);refine Uo (wpAny_layCells _ (λname kind cells=>by cases hkc:kind == NameKind.cell <;> simp[hkc]) _ _ _ _ ?_);rw[show({ s with heap:=s.heap.push { cls:=.type "dict", data:=.dict #[] } }:Shared).heap.objs.size=s.heap.objs.size+1 from YC ..];simp only[YS]
 first
  |exact Uo (UH (UH h))
  |exact UH h
abbrev zO(i:Nat):Str:=⟨#[i]⟩
abbrev cX:List Nat->List Str->List Str
 |[],N=>N
 |i::hs,N=>cX hs (N.set i (zO i))
theorem jB:∀ (hs:List Nat) (N:List Str),(cX hs N).length=N.length
 |[],_=>rfl
 |i::hs,N=>by rw[cX,jB hs,Yh]
theorem oG:∀ (hs:List Nat) (N:List Str) {i:Nat} {x:Str},(cX hs N)[i]?=some x->N[i]?=some x\/∃j ∈ hs,x=zO j
 |[],_,_,_,h=>.inl h
 |k::hs,N,i,x,h=>by
  rw[cX] at h;rcases oG hs (N.set k (zO k)) h with e |⟨j,hj,e⟩
  ·rw[YB] at e;split at e
   ·split at e
    ·exact .inr ⟨k,Zg,(Option.some.inj e).symm⟩
    ·cases e
   ·exact .inl e
  ·exact .inr ⟨j,Zf _ hj,e⟩
structure CmScope(own:List Str)(hs:List Nat)(N:List Str)(scope sc:Scope):Prop where
 kind:scope.kind = .function
 nd:(cX hs N++own).Nodup
 uniq:(scope.names.map (·.1)).Nodup
 dis:∀x ∈ cX hs N,scope.names.lookup x ≠ some .local/\scope.names.lookup x ≠ some .cell
 fr:∀y ∈ scope.names,y.2 = .free->sc.names.lookup y.1=some .cell\/sc.names.lookup y.1=some .free
 hd:∀i ∈ hs,scope.names.lookup (zO i)=none
theorem cT:∀ {l:List (Str × WQ)} {x:Str} {k:WQ},(l.map (·.1)).Nodup->(x,k) ∈ l->l.lookup x=some k
 |(n,k')::r,x,k,nd,h=>by
  rw[Zv,Yg] at nd;rw[ZP];rcases Zk.mp h with e |e
  ·cases e;simp
  ·have ne:(x == n)=false:=by
    cases hb:x == n with
    |false=>rfl
    |true=>
     have q:x=n:=by simpa using hb
     subst q;exact absurd (ZH.mpr ⟨(x,k),e,rfl⟩) nd.1
   rw[ne];exact cT nd.2 e
abbrev cxC(X:Cx)(own:List Str)(hs:List Nat)(scope:Scope)(C:Addr)(ex:List Addr)(s:Shared)(H:Hp):Cx where
 prog:=X.prog
 w:=X.w
 K:=X.K
 mg:=X.mg
 base:=X.base
 A:=X.A
 N:=cX hs X.N++own
 s₀:=s
 H₀:=H
 env:=t6 scope C X.env
 outer:=X.stack
 stack:=X.stack
 ex:=ex
 fn:=λx=>scope.names.lookup x == some .cell
 calm:=X.calm
 pn:=[]
 xe:=λ_ _=>False
section
variable {X:Cx} {pins:List (Addr × Obj)} {σ:St} {H:Hp} {s:Shared} {own:List Str} {hs:List Nat} {scope:Scope} {fp:List Addr}
theorem Inv.compStart(I:Inv X pins σ H s)(S:CmScope own hs X.N scope X.env.scope)(hf:∀b ∈ fp,gN X pins H b)(hfo:∀b ∈ fp,b < s.heap.objs.size) :
  Inv (cxC X own hs scope s.heap.objs.size fp s H) [] (σ++Zp own.length none) H { s with heap:=V4 (s.heap.push { cls:=.type "dict", data:=.dict #[] }) scope.names }:=by
 have keep:∀b o,s.heap.get? b=some o->(V4 (s.heap.push { cls:=.type "dict", data:=.dict #[] }) scope.names).get? b=some o:=λb o e=>V5 _ _ b o (Zi _ e);have ok:=cellsFrom_ok scope.names (s.heap.push { cls:=.type "dict", data:=.dict #[] }) (s.heap.objs.size+1) [] ⟨λ_ _ hm=>(nomatch hm),List.Pairwise.nil⟩ (by rw[YC];exact Ze _);rw[YC] at ok;have cells:(t6 scope s.heap.objs.size X.env).cells=VE (s.heap.objs.size+1) scope.names []++b6 X.env.cells scope.names []:=cy _ _ _;have hasX:∀x,(x,NameKind.free) ∈ scope.names->∃c,X.env.cells.lookup x=some c:=λx h=>I.ok.has x (S.fr (x,.free) h rfl)
 have old:∀x c,(x,c) ∈ b6 X.env.cells scope.names []->X.env.cells.lookup x=some c/\(x,NameKind.free) ∈ scope.names:=λx c h=>by
  rcases jA h with e |⟨e,q⟩
  ·exact nomatch e
  ·obtain⟨c',hc⟩:=hasX x e;rw[hc] at q;exact⟨by rw[hc,q];rfl,e⟩
 have oldlt:∀x c,X.env.cells.lookup x=some c->c < s.heap.objs.size:=λx c h=>let ⟨_,z⟩:=I.cell x c h;z.lt
 have which:∀x c,(t6 scope s.heap.objs.size X.env).cells.lookup x=some c->((x,c) ∈ VE (s.heap.objs.size+1) scope.names [])\/(X.env.cells.lookup x=some c/\(x,NameKind.free) ∈ scope.names):=λx c h=>by
  have m:=VW h;rw[cells] at m;rcases ZG.mp m with e |e
  ·exact .inl e
  ·exact .inr (old x c e)
 have neu:∀x c,(x,c) ∈ VE (s.heap.objs.size+1) scope.names []->s.heap.objs.size+1<=c:=λx c h=>(ok.empty x c h).2
 have noFs:∀b ∈ fp,b ∉ frs X.stack:=λb hb z=>by
  rcases Zk.mp (I.stkSub b z) with e |e
  ·exact(hf b hb).2.1 e
  ·exact(hf b hb).2.2.1 e
 have xok:(cxC X own hs scope s.heap.objs.size fp s H).Ok:=by
  refine⟨I.ok.mod,S.kind,I.ok.glob,I.ok.blt,Ze _,?_,?_,?_,I.ok.hd,I.ok.frames,.inl rfl,?_,I.bs,ZF I.ok.bsz I.sz,?_,noFs,I.stack,I.stkFree⟩
  ·intro x y c h1 h2;rcases which x c h1 with a |⟨a,_⟩ <;> rcases which y c h2 with b |⟨b,_⟩
   ·exact name_of_addr ok.apart a b
   ·exact absurd (Zu (oldlt y c b) (YX (neu x c a))) (ZM _)
   ·exact absurd (Zu (oldlt x c a) (YX (neu y c b))) (ZM _)
   ·exact I.ok.inj x y c a b
  ·intro x hx;have hx':(fI scope X.env.scope).names.lookup x=some .cell\/(fI scope X.env.scope).names.lookup x=some .free:=hx;have e:=fJ X.env.scope x scope.names
   have key:(x,NameKind.cell) ∈ scope.names\/(x,NameKind.free) ∈ scope.names:=by
    cases hl:scope.names.lookup x with
    |none=>rw[hl] at e;rcases hx' with z |z <;> (rw[show(fI scope X.env.scope).names.lookup x=none from e] at z;cases z)
    |some k=>
     have m:=VW hl;rw[hl] at e;cases k with
     |cell=>exact .inl m
     |free=>exact .inr m
     |_=>rcases hx' with z |z <;> (rw[show(fI scope X.env.scope).names.lookup x=_ from e] at z;simp[nV] at z)
   rcases key with h |h
   ·have q:=W8 scope.names (s.heap.objs.size+1) (b6 X.env.cells scope.names []) (x:=x) (.inl (cT S.uniq h));exact ZV.mp q
   ·obtain⟨c,hc⟩:=gA (cells:=X.env.cells) (acc:=[]) (.inl h);have q:∃c,(x,c) ∈ (t6 scope s.heap.objs.size X.env).cells:=⟨c,by rw[cells];exact Zz _ hc⟩;exact fH q
  ·intro x c hfn hl
   have hfn':scope.names.lookup x=some .cell:=by
    have z:(scope.names.lookup x == some NameKind.cell)=true:=hfn
    simpa using z
   rcases which x c hl with a |⟨_,b⟩
   ·exact ZF (Yu _) (neu x c a)
   ·rw[cT S.uniq b] at hfn';cases hfn'
  ·intro b hb;refine⟨Zx (hfo b hb),λx c h z=>?_⟩;rcases which x c h with a |⟨a,_⟩
   ·exact absurd (Zu (z ▸ hfo b hb) (YX (neu x c a))) (ZM _)
   ·exact(hf b hb).2.2.2.2.1 x c a z
  ·intro b o e hb;rcases (hf b hb).2.2.2.1 with z |z
   ·exact I.ok.noex b o e z
   ·have h1:=Zo e;exact absurd (Zu h1 (ZF I.ok.bsz z)) (ZM _)
 have m0:(V4 (s.heap.push { cls:=.type "dict", data:=.dict #[] }) scope.names).Ns s.heap.objs.size (λ_=>none):=(Heap.Ns.new s.heap (.type "dict")).keeps (V5 _ _);refine⟨xok,rfl,I.bare,Un.kept keep,⟨_,m0,?_⟩,?_,I.hok.fresh (Ze _),?_,λp hp=>absurd (show p ∈ ([]:List (Addr × Obj)) from hp) (by simp),I.hok.kept keep,?_⟩
 ·intro i x v h1 h2 h3
  have hi:i < σ.length:=by
   by_cases hi:i < σ.length
   ·exact hi
   ·rw[Zs (by lia),Yq] at h2;split at h2 <;> cases h2
  rw[Zw hi] at h2;have hN:i < X.N.length:=by rw[<-I.len];exact hi
  have h1h:(cX hs X.N)[i]?=some x:=by
   have h1:(cX hs X.N++own)[i]?=some x:=h1
   rwa [Zw (by rw[jB];exact hN)] at h1
  have dx:=S.dis x (Zh h1h);have e:=fJ X.env.scope x scope.names;have h3':(fI scope X.env.scope).names.lookup x=some .local\/(fI scope X.env.scope).names.lookup x=some .cell\/(fI scope X.env.scope).names.lookup x=some .free:=h3
  have hfree:scope.names.lookup x=some .free:=by
   cases hl:scope.names.lookup x with
   |none=>rw[hl] at e;rcases h3' with z |z |z <;> (rw[show(fI scope X.env.scope).names.lookup x=none from e] at z;cases z)
   |some k=>
    rw[hl] at e dx;cases k with
    |free=>rfl
    |«local»=>exact absurd rfl dx.1
    |cell=>exact absurd rfl dx.2
    |_=>rcases h3' with z |z |z <;> (rw[show(fI scope X.env.scope).names.lookup x=_ from e] at z;simp[nV] at z)
  have h1':X.N[i]?=some x:=by
   rcases oG hs X.N h1h with z |⟨j,hj,z⟩
   ·exact z
   ·rw[z,S.hd j hj] at hfree;cases hfree
  have mfree:=VW hfree;have kX:=S.fr (x,.free) mfree rfl;obtain⟨m,hn,hl⟩:=I.loc;obtain⟨u,r,l⟩:=hl i x v h1' h2 (kX.elim (λz=>.inr (.inl z)) λz=>.inr (.inr z));refine⟨u,r,.inr ⟨?_,?_⟩⟩
  ·have k3:(fI scope X.env.scope).names.lookup x=some (nV X.env.scope x .free):=by rw[hfree] at e;exact e
   have k4:nV X.env.scope x .free = .cell\/nV X.env.scope x .free = .free:=by unfold nV;split <;> simp
   rcases k4 with z |z
   ·exact .inl (by show(fI scope X.env.scope).names.lookup x=_;rw[k3,z])
   ·exact .inr (by show(fI scope X.env.scope).names.lookup x=_;rw[k3,z])
  ·rcases l with ⟨lk,_⟩ |⟨_,c,hc,z⟩
   ·have lk':X.env.scope.names.lookup x=some .local:=lk;rcases kX with q |q <;> (rw[q] at lk';cases lk')
   ·refine⟨c,?_,z.keeps keep⟩;obtain⟨c',hc'⟩:=gA (cells:=X.env.cells) (acc:=[]) (.inl mfree);obtain⟨c2,hl2⟩:=fH (l:=(t6 scope s.heap.objs.size X.env).cells) ⟨c',by rw[cells];exact Zz _ hc'⟩;rcases which x c2 hl2 with a |⟨a,_⟩
    ·rcases dG _ _ _ _ _ a with q |q
     ·exact nomatch q
     ·rw[cT S.uniq q] at hfree;cases hfree
    ·rw[hc] at a;cases a;exact hl2
 ·intro x c h;rcases which x c h with a |⟨a,_⟩
  ·exact⟨_,(ok.empty x c a).1⟩
  ·obtain⟨v,z⟩:=I.cell x c a;exact⟨v,z.keeps keep⟩
 ·intro x c h;rcases which x c h with a |⟨a,_⟩
  ·exact I.hok.fresh (ZF (Yu _) (neu x c a))
  ·exact I.freeC x c a
 ·show(σ++Zp own.length none).length=(cX hs X.N++own).length;rw[Zr,Zr,YJ,jB,I.len]
end
def rh(J:It)(g:TG)(tb:TS)(D:Ends)(σ:St)(H:Hp):Prop:=∃W:Nat->Nat->St->Hp->Prop,(∃m,W 0 m σ H)/\∀i m σ H,W i m σ H ->
 (J.stop i H/\D.nx σ H)\/(J.go i H/\∃N:St->Hp->Prop,(∀σ' H',N σ' H'->∃m',m' < m/\W (i+1) m' σ' H')/\∀x H',J.yld i H x H'->g x σ H' λσ2 H2=>tb { D with nx:=N,ct:=N,bk:=D.nx } σ2 H2)
def PTs(Y:Cx)(ifs:List Expr)(t:TT):Prop:=
 ∀ (pins:List (Addr × Obj)) (s:Shared) (σ:St) (H:Hp) (Q:Bool->Hp->Prop),Inv Y pins σ H s->t σ H Q->wpAny (model Y.prog Y.w) Y.A (p9 ifs Y.env) (TP Y pins σ Q) Y.xe s
def DS:TT:=λ_ H Q=>Q true H
theorem DT:PTs Y [] DS:=λ_ _ _ H _ I h=>by
 unfold p9;rw[YS];exact UH ⟨H,I,h⟩
theorem DU(hc:PT Y c t):PTs Y [c] t:=λpins s σ H Q I h=>by
 unfold p9;rw[XZ];simp only[if_true,YS];refine Uo (Uo (thn (hc pins s σ H Q I h) λb s1 q=>UH ?_));exact UH q
def PTl(Y:Cx)(elt:Expr)(gens:List Wv)(scope:Scope)(pos:Pos)(acc:Addr)(d:Nat)(t:TS):Prop:=
 ∀ (pins:List (Addr × Obj)) (s:Shared) (σ:St) (H:Hp) (D:Ends),Inv Y pins σ H s->t D σ H ->
  match gens[d+1]? with
  |none=>wpAny (model Y.prog Y.w) Y.A (eval elt Y.env) (λx s5=>wpAny (model Y.prog Y.w) Y.A (call (.builtin "list.append") [.ref acc,x]) (λ_ s6=>∃σ' H',Inv Y pins σ' H' s6/\D.nx σ' H') (λ_ _=>False) s5) (λ_ _=>False) s
  | some g'=>g'.is_async=0/\wpAny (model Y.prog Y.w) Y.A (eval g'.iter Y.env) (λx s5=>wpAny (model Y.prog Y.w) Y.A (VN g'.iter Y.env x) (λx' s6=>wpAny (model Y.prog Y.w) Y.A (pyIter x') (λit' s7=>
    wpAny (model Y.prog Y.w) Y.A (runOwn (.compStart (.ListComp elt gens scope pos) (d+1) it' (.ref acc) Y.env) Y.env) (λ_ s8=>∃σ' H',Inv Y pins σ' H' s8/\D.nx σ' H') (λ_ _=>False) s7) (λ_ _=>False) s6) (λ_ _=>False) s5) (λ_ _=>False) s
def fh(ti:TT)(t:TS):TS:=λD σ H=>ti σ H λc H'=>if c=true then t D σ H' else D.nx σ H'
def Ho(acc:Addr)(te:TE):TS:=λD σ H=>te σ H λx H1=>∃xs,H1 acc=some (.lst xs)/\xs.length < sizeLine/\D.nx σ (upd H1 acc (.lst (xs++[x])))
section
variable {Y:Cx} {elt:Expr} {gens:List Wv} {scope:Scope} {pos:Pos} {acc:Addr} {d:Nat}
theorem zP(hx:Y.xe=λ_ _=>False)(hn:gens[d+1]?=none)(he:PE Y elt te):PTl Y elt gens scope pos acc d (Ho acc te):=by
 intro pins s σ H D I h;rw[hn];have hE:=he pins s σ H _ I h;rw[hx] at hE;refine thn hE λx s5 ⟨v,H5,I5,r5,xs,h1,h2,q⟩=>?_;have z:=oE pins s5 σ H5 (.ref acc) [v] (.ref acc) [x] (λy H'=>y = .non/\D.nx σ H') I5 rfl (.cons r5 .nil) ⟨acc,xs,v,rfl,rfl,h1,h2,rfl,q⟩;rw[hx] at z;exact thn z λy s6 ⟨v6,H6,I6,r6,e6,q6⟩=>⟨σ,H6,I6,q6⟩
theorem lB{A:Around}{R:Result->Shared->Prop}{prog:Program}{w:World}{s:Shared}{tg iter:Expr}{ifs:List Expr}{it acc:Value}{env:Env}(hg:gens[d]?=some ⟨tg,iter,ifs,0⟩)
  (h0:codeAny (model prog w) A (.compLoop (.ListComp elt gens scope pos) d it acc env) R s)
  (h:wpAny (model prog w) A (pyIter it) (λit' s'=>codeAny (model prog w) A (.compLoop (.ListComp elt gens scope pos) d it' acc env) R s') (notedBy (model prog w) A env λx s'=>R (.error x) s') s) :
  codeAny (model prog w) A (.compStart (.ListComp elt gens scope pos) d it acc env) R s:=by
 refine codeAny_of_tree ?_;show wpAny _ _ ((compStart (.ListComp elt gens scope pos) d it acc env).onRaise (λx=>do V0 x env;standAt theWindowsPlace)) _ _ s;refine wpAny_notedAt ?_;unfold compStart;have hcl:(clausesOf (.ListComp elt gens scope pos))[d]?=some ⟨tg,iter,ifs,0⟩:=hg;simp only[hcl,Option.elim];show wpAny _ _ (ask >>= _) _ _ s;refine Uo (wpAny_askSetting (wpAny_ite ?_));split
 ·first
   |exact Uo (UH (UH (And.intro rfl h0)))
   |exact UH (And.intro rfl h0)
 ·first
   |exact Uo (UN (Uo (UP (Uo (UC h (λit' s' h'=>UH (And.intro rfl h')) λ_ _ x=>x)))))
   |(refine Uo (UN ?_);show wpAny _ _ (standAt iter.pos >>= _) _ _ s;exact Uo (UP (Uo (UC h (λit' s' h'=>UH (And.intro rfl h')) λ_ _ x=>x))))
theorem oH
  (hx:Y.xe=λ_ _=>False) (hc:Y.calm=true) (hg:gens[d]?=some ⟨tg,iter,ifs,0⟩) (T:Turn Y.prog Y.w Y.K tg J fp it tn) (I2:Inv Y pins σ H s) (st2:tn 0 s.heap) (f2:∀b ∈ fp,gN Y pins H b)
  (hgt:PG Y tg g) (hts:PTs Y ifs ti) (htl:PTl Y elt gens scope pos acc d t) (hW:rh J g (fh ti t) D σ H) :
  codeAny (model Y.prog Y.w) Y.A (.compLoop (.ListComp elt gens scope pos) d (.ref it) (.ref acc) Y.env) (λr s'=>r = .ok .next/\∃σ' H',Inv Y pins σ' H' s'/\D.nx σ' H') s:=by
 obtain⟨W,⟨m0,w0⟩,turn⟩:=hW;have stat:∀ {H':Hp},(∀b ∈ fp,H' b=none)->∀b ∈ fp,gN Y pins H' b:=λhn b hb=>⟨hn b hb,(f2 b hb).2⟩;refine codeAny_loop rfl (λn s'=>∃i σ' H',Inv Y pins σ' H' s'/\tn i s'.heap/\(∀b ∈ fp,H' b=none)/\W i n σ' H') (λn s3 hI=>?_) m0 ⟨0,σ,H,I2,st2,λb hb=>(f2 b hb).1,w0⟩;obtain⟨i,σ3,H3,I3,st3,fr3,w3⟩:=hI;show wpAny _ _ ((compTurn (.ListComp elt gens scope pos) d (.ref it) (.ref acc) Y.env).onRaise (λx=>do V0 x Y.env;theTreesLotGoes x)) _ _ s3;refine wpAny_noted (UC (E:=λ_ _=>False) ?_ (λ_ _ q=>q) λ_ _ z=>z.elim);refine DQ hg ?_;rcases turn i n σ3 H3 w3 with ⟨stop,qn⟩ |⟨go,N,hN,step⟩
 ·refine thn (T.done Y rfl rfl rfl hc i pins s3 σ3 H3 _ I3 (stat fr3) st3 stop) λr s4 ⟨hr,I4⟩=>?_;subst hr;exact⟨rfl,σ3,H3,I4,qn⟩
 ·refine thn (T.item Y rfl rfl rfl hc i pins s3 σ3 H3 _ I3 (stat fr3) st3 go) λr s4 ⟨u,hr,h4⟩=>?_;subst hr;refine thn h4 λ_ s5 ⟨x,H5,I5,r5,y5,st5,fr5⟩=>?_;have I5':=I5.pinned (stat fr5) (T.obj _ _ st5)
  have again:∀ {σ7:St} {H7:Hp} {s7:Shared},Inv Y (pins++lu fp s5.heap) σ7 H7 s7->N σ7 H7->∃m,m < n/\∃i σ' H',Inv Y pins σ' H' s7/\tn i s7.heap/\(∀b ∈ fp,H' b=none)/\W i m σ' H':=λ{σ7 H7 s7} I7 n7=>by
   obtain⟨m',hm,w7⟩:=hN σ7 H7 n7;refine⟨m',hm,i+1,σ7,H7,I7.unpinned,T.keep _ _ _ st5 λb hb o e=>(I7.pin (b,o) (Zz _ (Zz _ (eN hb e)))).1,λb hb=>?_,w7⟩;obtain⟨o,e,dd⟩:=T.obj _ _ st5 b hb;exact(I7.pin (b,o) (Zz _ (Zz _ (eN hb e)))).2.1
  have hG:=hgt _ s5 σ3 H5 x u _ I5' r5 (step x H5 y5);rw[hx] at hG;refine thn hG λ_ s6 ⟨σ6,H6,I6,q6⟩=>?_;have hT:=hts _ s6 σ6 H6 _ I6 q6;rw[hx] at hT;refine thn hT λok s7 ⟨H7,I7,q7⟩=>?_;cases ok with
  |false=>
   simp only[ZY,if_false] at q7 ⊢;exact⟨by trivial,again I7 q7⟩
  |true=>
   simp only[if_true] at q7 ⊢;have hL:=htl _ s7 σ6 H7 _ I7 q7;cases hn:gens[d+1]? with
   |none=>
    rw[hn] at hL;exact thn hL λx s8 h8=>thn h8 λ_ s9 ⟨σ9,H9,I9,q9⟩=>⟨by trivial,again I9 q9⟩
   |some g'=>
    rw[hn] at hL;obtain⟨ha,hL⟩:=hL;exact⟨ha,thn hL λx s8 h8=>thn h8 λx' s9 h9=>thn h9 λit' s10 h10=>thn h10 λ_ s11 ⟨σ9,H9,I9,q9⟩=>⟨by trivial,again I9 q9⟩⟩
def zQ(wi:TI)(g:TG)(ti:TT)(t:TS):TS:=λD σ H=>wi σ H λJ H1=>rh J g (fh ti t) D σ H1
theorem DV(hn:gens[d+1]?=some ⟨tg,iter,ifs,0⟩)
  (hi:PI Y tg iter wi) (hgt:PG Y tg g) (hts:PTs Y ifs ti) (htl:PTl Y elt gens scope pos acc (d+1) t) (hx:Y.xe=λ_ _=>False:=by rfl) (hc:Y.calm=true:=by rfl) (hs:∀x,VN iter Y.env x=pure x:=by intro _;rfl) :
  PTl Y elt gens scope pos acc d (zQ wi g ti t):=by
 intro pins s σ H D I h;rw[hn];refine⟨rfl,?_⟩;have hI:=hi pins s σ H _ I h;rw[hx] at hI;refine thn hI λv s5 h5=>UF (hs v) (thn h5 λitv s6 h6=>?_);obtain⟨it,fp,tn,J,H6,e,I6,T,st6,f6,W⟩:=h6;subst e;have L:=oH (elt:=elt) (gens:=gens) (scope:=scope) (pos:=pos) (acc:=acc) hx hc hn T I6 st6 f6 hgt hts htl W;refine wpAny_runOwn (VI (lB hn L (T.self _ 0 s6 _ _ st6 L)) λr s8 hr=>?_);obtain⟨rfl,q⟩:=hr;exact q
end
def zR(own:Nat)(wi:TI)(g:TG)(tb:Addr->TS):TE:=λσ H Q=>wi σ H λJ H1=>∀acc,H1 acc=none ->
 rh J g (tb acc) { nx:=λ_ H'=>Q (.ref acc) H',rt:=λ_ _=>False } (σ++Zp own none) (upd H1 acc (.lst []))
section
variable {X:Cx} {elt tg iter:Expr} {ifs:List Expr} {rest:List Wv} {scope:Scope} {pos:Pos} {own:List Str} {hs:List Nat} {wi:TI} {g:TG} {ti:TT} {t:Addr->TS}
theorem lH{pins:List (Addr × Obj)}{σ:St}{Q:VK}{itv:Value}{s2:Shared}{E:Value->Shared->Prop}(hc:X.calm=true)(S:CmScope own hs X.N scope X.env.scope)
  (hgt:∀C ex s H,PG (cxC X own hs scope C ex s H) tg g) (hts:∀C ex s H,PTs (cxC X own hs scope C ex s H) ifs ti)
  (htl:∀C ex s H acc,PTl (cxC X own hs scope C ex s H) elt (⟨tg,iter,ifs,0⟩::rest) scope pos acc 0 (t acc))
  (h2:PIE X pins σ tg (λJ H1=>∀acc,H1 acc=none->rh J g (fh ti (t acc)) { nx:=λ_ H'=>Q (.ref acc) H',rt:=λ_ _=>False } (σ++Zp own.length none) (upd H1 acc (.lst []))) itv s2)
  {RR:Value->Addr->Result->Shared->Prop} (hRR:∀acc C H' s',Inv X pins σ H' s'->gN X pins H' C->(∃m,s'.heap.Ns C m)->Q (.ref acc) H'->RR (.ref acc) C (.ok .next) s') :
  wpAny (model X.prog X.w) X.A (newList []) (λacc s3=>wpAny (model X.prog X.w) X.A (VX scope X.env.globals (b6 X.env.cells scope.names []) [] X.env.qual none .none (some X.env)) (λcenv s4=>
   codeAny (model X.prog X.w) X.A (.compStart (.ListComp elt (⟨tg,iter,ifs,0⟩::rest) scope pos) 0 itv acc { cenv with scope:=relabel scope X.env }) (RR acc cenv.locals) s4) E s3) E s2:=by
 obtain⟨it,fp,tn,J,H2,e,I2,T,st2,f2,R⟩:=h2;subst e;refine UE ?_;have I3:Inv X pins σ (upd H2 s2.heap.objs.size (.lst [])) { s2 with heap:=s2.heap.push { cls:=.type "list", dict:=none,data:=.seq ([]:List Value).toArray } }:=I2.lnew (its:=[]) (t':=s2.toks) .nil (XW _);have W:=R s2.heap.objs.size (I2.hok.fresh (Ze _));generalize hs3:({ s2 with heap:=s2.heap.push { cls:=.type "list", dict:=none,data:=.seq ([]:List Value).toArray } }:Shared)=s3 at I3 ⊢;have e3:s3.heap=s2.heap.push { cls:=.type "list", dict:=none,data:=.seq ([]:List Value).toArray }:=by rw[<-hs3]
 have k3:∀b o,s2.heap.get? b=some o->s3.heap.get? b=some o:=λb o e=>by rw[e3];exact Zi _ e
 have st3:tn 0 s3.heap:=T.keep _ _ _ st2 λb _ o e=>k3 b o e;have fne:∀b ∈ fp,b < s2.heap.objs.size:=λb hb=>let ⟨o,e,_⟩:=T.obj _ _ st2 b hb;Zo e;have f3:∀b ∈ fp,gN X pins (upd H2 s2.heap.objs.size (.lst [])) b:=λb hb=>⟨by rw[aE (Zx (fne b hb))];exact(f2 b hb).1,(f2 b hb).2⟩;have fo3:∀b ∈ fp,b < s3.heap.objs.size:=λb hb=>let ⟨o,e,_⟩:=T.obj _ _ st3 b hb;Zo e;refine xW ?_;have I4:=I3.compStart S f3 fo3;generalize hH3:upd H2 s2.heap.objs.size (.lst [])=H3 at I3 I4 f3 W
 have eE:({ scope:=relabel scope X.env,locals:=s3.heap.objs.size,globals:=X.env.globals,cells:=VE (s3.heap.objs.size+1) scope.names (b6 X.env.cells scope.names []),qual:=X.env.qual,func:=none,code:=X.env.code,frame:=X.env.frame,builtins:=X.env.builtins }:Env)=t6 scope s3.heap.objs.size X.env:=by
  unfold t6;rw[DR]
 generalize hs4:({ s3 with heap:=V4 (s3.heap.push { cls:=.type "dict", data:=.dict #[] }) scope.names }:Shared)=s4 at I4 ⊢;have k4:∀b o,s3.heap.get? b=some o->s4.heap.get? b=some o:=λb o e=>by rw[<-hs4];exact V5 _ _ b o (Zi _ e)
 have st4:tn 0 s4.heap:=T.keep _ _ _ st3 λb _ o e=>k4 b o e
 have f4:∀b ∈ fp,gN (cxC X own hs scope s3.heap.objs.size fp s3 H3) [] H3 b:=λb hb=>by
  refine⟨(f3 b hb).1,Zx (fo3 b hb),I4.ok.exfs b hb,.inl hb,λx c hl=>(I4.ok.exf b hb).2 x c hl,λp hp=>absurd (show p ∈ ([]:List (Addr × Obj)) from hp) (by simp)⟩
 have L:=oH (Y:=cxC X own hs scope s3.heap.objs.size fp s3 H3) (elt:=elt) (gens:=⟨tg,iter,ifs,0⟩::rest) (d:=0) (scope:=scope) (pos:=pos) (acc:=s2.heap.objs.size) rfl hc rfl T I4 st4 f4 (hgt _ _ _ _) (hts _ _ _ _) (htl _ _ _ _ _) W;have C:=lB (elt:=elt) (gens:=⟨tg,iter,ifs,0⟩::rest) (d:=0) (scope:=scope) (pos:=pos) rfl L (T.self _ 0 s4 _ _ st4 L);show codeAny (model X.prog X.w) X.A (.compStart (.ListComp elt (⟨tg,iter,ifs,0⟩::rest) scope pos) 0 (.ref it) (.ref s2.heap.objs.size) { scope:=relabel scope X.env,locals:=s3.heap.objs.size,globals:=X.env.globals,cells:=VE (s3.heap.objs.size+1) scope.names (b6 X.env.cells scope.names []),qual:=X.env.qual,func:=none,code:=X.env.code,frame:=X.env.frame,builtins:=X.env.builtins }) (RR (.ref s2.heap.objs.size) s3.heap.objs.size) s4;rw[eE];refine VI C λr s' hr=>?_;obtain⟨rfl,σ',H',I',q⟩:=hr;obtain⟨mC,nC,_⟩:=id I'.loc;have freeC:H' s3.heap.objs.size=none:=I'.free;refine hRR _ _ H' s' ?_ (I3.fpOk (Ze _) freeC) ⟨mC,nC⟩ q;exact I3.call' (ch:=fp) I'.os I'.base I'.hok I'.bare λb hb=>⟨(f3 b hb).2.2.2.1,(f3 b hb).2.1,(f3 b hb).2.2.2.2.1,(f3 b hb).2.2.2.2.2⟩
theorem DW(hc:X.calm=true)(S:CmScope own hs X.N scope X.env.scope)(hi:PI X tg iter wi)
  (hgt:∀C ex s H,PG (cxC X own hs scope C ex s H) tg g) (hts:∀C ex s H,PTs (cxC X own hs scope C ex s H) ifs ti)
  (htl:∀C ex s H acc,PTl (cxC X own hs scope C ex s H) elt (⟨tg,iter,ifs,0⟩::rest) scope pos acc 0 (t acc))
  (hs:∀x,VN iter X.env x=pure x:=by intro _;rfl) :
  PE X (.ListComp elt (⟨tg,iter,ifs,0⟩::rest) scope pos) (zR own.length wi g λacc=>fh ti (t acc)):=by
 intro pins s σ H Q I h;rw[eval_ListComp];refine Ur (use:=none) (cl:=b6 X.env.cells scope.names []) rfl hs (vZ λy hy hk=>I.ok.has y.1 (S.fr y hy hk)) S.kind (λy hy hk=>cT S.uniq (by rw[<-hk];exact hy)) ?_;refine thn (hi pins s σ H _ I h) λv s1 h1=>thn h1 λitv s2 h2=>?_;refine lH hc S hgt hts htl h2 (RR:=λacc C=>compPost (model X.prog X.w) X.A X.xe none (EP X pins σ Q) acc C) λacc C H' s' I' f' m' q=>?_;obtain⟨m,nm⟩:=m';refine⟨m,nm,λh' sb=>⟨.ref acc,H',?_,rfl,q⟩⟩;exact I'.turned (t':=s'.toks) (λb o hb e=>(sb.2 b hb).trans e) f'.1 f'.2.1 f'.2.2.2.1 f'.2.2.2.2.1 f'.2.2.2.2.2
theorem DX{i:Nat}(hc:X.calm=true)(S:CmScope own hs X.N scope X.env.scope)(hN:X.N.Nodup)(hix:X.N[i]?=some x)(hx:X.env.scope.names.lookup x=some .local)(hi:PI X tg iter wi)
  (hgt:∀C ex s H,PG (cxC X own hs scope C ex s H) tg g) (hts:∀C ex s H,PTs (cxC X own hs scope C ex s H) ifs ti)
  (htl:∀C ex s H acc,PTl (cxC X own hs scope C ex s H) elt (⟨tg,iter,ifs,0⟩::rest) scope pos acc 0 (t acc))
  (hsw:Uf (.ListComp elt (⟨tg,iter,ifs,0⟩::rest) scope pos) (some (.Name x pos')) spos.line X.env=pure true:=by rfl)
  (hs:∀x,VN iter X.env x=pure x:=by intro _;rfl) :
  PS X (.Assign [.Name x pos'] (.ListComp elt (⟨tg,iter,ifs,0⟩::rest) scope pos) spos) (xI (zR own.length wi g λacc=>fh ti (t acc)) (om i)):=by
 intro pins s σ H D I h;rw[exec_Assign_Name_used _ _ _ _ hsw];refine Uo (UP (Uo ?_));show wpAny _ X.A (do let _ <-comprehension (.ListComp elt (⟨tg,iter,ifs,0⟩::rest) scope pos) scope X.env _ (newList []) false (eval iter X.env) (some (assign (.Name x pos') X.env))) _ _ s
 refine Uo (UC (Ur (use:=some (assign (.Name x pos') X.env)) (Q:=λ_ s'=>SP X pins D .next s') (cl:=b6 X.env.cells scope.names []) rfl hs (vZ λy hy hk=>I.ok.has y.1 (S.fr y hy hk)) S.kind (λy hy hk=>cT S.uniq (by rw[<-hk];exact hy))
  ?_) (λ_ s' hq=>UH (UH hq)) λ_ _ e=>e)
 refine thn (hi pins s σ H _ I h) λv s1 h1=>thn h1 λitv s2 h2=>?_;refine lH (Q:=λy H'=>om i y σ H' D.nx) hc S hgt hts htl h2 (RR:=λacc C=>compPost (model X.prog X.w) X.A X.xe (some (assign (.Name x pos') X.env)) (λ_ s'=>SP X pins D .next s') acc C) λacc C H' s' I' f' m' q=>?_;obtain⟨m,nm⟩:=m';show wpAny _ X.A (assign (.Name x pos') X.env (.ref acc)) _ _ _;refine wpAny_assign_Name (oj (v:=.ref acc) I' hN hix (.inl hx) rfl (λs'' I'' hch=>?_) (.inr hx));obtain⟨a,sb1,ha⟩:=hch
 have ne:C ≠ a:=by
  rcases ha with e |e
  ·rw[e];exact f'.2.1
  ·exactλz=>f'.2.2.2.2.1 x a e z.symm
 refine⟨m,nm.sameBut sb1 ne,λh' sb=>⟨_,H',?_,q⟩⟩;exact I''.turned (t':=s''.toks) (λb o hb e=>(sb.2 b hb).trans e) f'.1 f'.2.1 f'.2.2.2.1 f'.2.2.2.2.1 f'.2.2.2.2.2
end
end L2
namespace HT
open PySem PyProof.Rows
section
variable {prog:Program} {w:World} {A:Around} {E:Value->Shared->Prop} {s:Shared}
theorem zS{t b:Addr}{ws:List Value}{Q:Value->Shared->Prop}(ht:IsTup s.heap t ([]:List Value).toArray)(hb:IsTup s.heap b ws.toArray)(h:Q (.ref b) s):wpAny (model prog w) A (Vy .Add (.ref t) (.ref b)) Q E s:=by
 obtain⟨⟨cls,dd,data,sl⟩,ho,hc,n,hd⟩:=id ht;obtain⟨⟨cls2,dd2,data2,sl2⟩,ho2,hc2,n2,hd2⟩:=id hb;simp only at hc hd hc2 hd2;subst hc hd hc2 hd2
 exact VL ⟨_,ho,rfl⟩ ⟨_,ho2,rfl⟩ VY V9 WJ Wz (Ww _ _)
   (tuple_addW0 t b _ ws.toArray n n2 dd dd2 sl sl2 (by simp)) ⟨ho,ho2,h⟩
theorem gO{t sl:Addr}{items:Array Value}{vl vu:Value}{lo hi:Option Int}{Q:Value->Shared->Prop}(ht:IsTup s.heap t items)(hs:s.heap.IsSliceOf sl vl vu .none)(pl:IsPart vl lo)(pu:IsPart vu hi)
  (hw:sIx items.size 0 lo=0/\sIx items.size items.size hi=items.size) (h:Q (.ref t) s):wpAny (model prog w) A (getItem (.ref t) (.ref sl)) Q E s:=by
 obtain⟨os,hos,hcs,hds⟩:=id hs;have hTs:s.TypeIs (.ref sl) "slice" := ⟨os,hos,hcs⟩;obtain⟨o,ho,hc,n,hd⟩:=id ht;unfold getItem
 try with_reducible refine Uw ?_
 first |refine Uo (UH ?_) |skip
 refine Uo (wpAny_sequenceKey ht.typeIs (by decide) ?_)
 refine Uo (wpAny_callSpecial?_slot (name:=Str.ofString "__getitem__") ht.typeIs Ws
  (Uq Ws ht.typeIs entry_tuple_getitem ?_ (args_tuple_getitem _ _)))
 show wpAny _ _ (Builtin.Tuple.tupleItemsOf (.ref t) >>= _) _ _ s;refine Uo (tupleItemsOf_ ht ?_);refine Uo (US hTs ?_);rw[if_pos (by decide)];refine Uo (ei hs pl pu ?_)
 have hyes:((((sIx items.size 0 lo:Nat):Int) == 0 && (1:Int) == 1 && (sIx items.size items.size hi - sIx items.size 0 lo) == items.size)=true):=by
  rw[hw.1,hw.2];simp
 show wpAny _ _ (if (((sIx items.size 0 lo:Nat):Int) == 0 && (1:Int) == 1 && (sIx items.size items.size hi - sIx items.size 0 lo) == items.size)=true then _ else _) _ _ s;rw[if_pos hyes];have hT:s.TypeIs (.ref t) "tuple" := ht.typeIs
 first
  | (refine Uo (m:=Builtin.Tuple.tupleIsExact _) ?_
     unfold Builtin.Tuple.tupleIsExact;refine Uo (US hT (UH ?_));rw[if_pos (by decide)];exact Uo (UN (UH ⟨_,rfl,UH h⟩)))
end
end HT
namespace L2
open PySem PySem.Spec PyProof.Rows
theorem rj{s:Shared}{h':Heap}{o:Obj}(hk:∀b x,b ∉ [s.heap.objs.size]->(s.heap.push o).get? b=some x->h'.get? b=some x):∀b x,s.heap.get? b=some x->h'.get? b=some x:=
 λb x e=>hk b x (λhm=>by rw[ZO.mp hm] at e;exact ZM _ (Zo e)) (Zi _ e)
section
variable {X:Cx}
def NR(K:W6):R2:=λx y H Q=>∃a b xs ys,x = .ref a/\y = .ref b/\SqT K H a xs/\SqT K H b ys/\xs.length+ys.length<=sizeLine ∧
 (xs=[]->Q (.ref b) H)/\(xs ≠ []->ys=[]->Q (.ref a) H)/\(xs ≠ []->ys ≠ []->∀p,H p=none->Q (.ref p) (upd H p (.tup (xs++ys))))
theorem DY:OpR X (Vy .Add) (NR X.K):=by
 show 3;obtain⟨a,b,xs,ys,rfl,rfl,ha,hb,hz,q0,q1,q2⟩:=h;by_cases hx:xs=[]
 ·subst hx;cases rx;cases ry;obtain⟨its,r1,p1,_⟩:=I.tuple ha;obtain⟨its2,r2,p2,_⟩:=I.tuple hb;cases r1;exact HT.zS p1 p2 ⟨.ref b,H,I,rfl,q0 rfl⟩
 ·exact DK pins s σ H _ _ v u Q I rx ry ⟨a,b,xs,ys,rfl,rfl,ha,hb,hx,hz,q1 hx,q2 hx⟩
def QJ(K:W6):V->Option Int->Option Int->Hp->VK->Prop:=λx lo hi H Q=>∃a xs,x = .ref a/\SqT K H a xs ∧
 ((HT.sIx xs.length 0 lo=0/\HT.sIx xs.length xs.length hi=xs.length)->Q (.ref a) H) ∧
 (¬ (HT.sIx xs.length 0 lo=0/\HT.sIx xs.length xs.length hi=xs.length)->∀p,H p=none->Q (.ref p) (upd H p (.tup (ly xs lo hi))))
theorem DZ:SlR X (QJ X.K):=by
 intro pins s σ H x v vl vu lo hi sl Q I rx hs pl pu h;obtain⟨a,xs,rfl,hx,q1,q2⟩:=h;by_cases hw:(HT.sIx xs.length 0 lo=0/\HT.sIx xs.length xs.length hi=xs.length)
 ·cases rx;obtain⟨its,r,ht,hz⟩:=I.tuple hx;have hlen:its.toArray.size=xs.length:=by rw[Zl];exact r.length.symm
  refine⟨"tuple", _,PyProof.Rows.slot_tuple_getitem.lookup,ht.typeIs,?_⟩;exact HT.gO ht hs pl pu (by rw[hlen];exact hw) ⟨.ref a,H,I,rfl,q1 hw⟩
 ·exact Jd pins s σ H _ v vl vu lo hi sl Q I rx hs pl pu ⟨a,xs,rfl,hx,hw,q2 hw⟩
theorem rl:aP X (.builtin "isinstance") (λxs H Q=>∃x n t b,xs=[x,.ty n]/\TyOf X.K H x t/\Vl X.K t (.type n)=some b/\Q (.bl b) H):=by
 show 8;obtain⟨x,n,t,b,rfl,ty,e,q⟩:=h;obtain⟨u,w',rfl,rx,ry⟩:=vS r;cases ry;exact xR I rx ty e λtk=>⟨.bl b,H,I.tok tk,rfl,q⟩
theorem ic:∀ {bs:List Bool} {us:List Value},aN (bs.map V.bl) us->us=bs.map Value.bool
 |[],_,.nil=>rfl
 |_::_,_,.cons r t=>by rw[Zv,ic t];cases r;rfl
theorem xX(hc:X.calm=true):aP X (.builtin "all") (λxs H Q=>∃ (l:Addr) (bs:List Bool),xs=[.ref l]/\SqL X.K H l (bs.map V.bl)/\Q (.bl (bs.all id)) H):=by
 show 8;obtain⟨l,bs,rfl,hl,q⟩:=h;obtain⟨u,rfl,ru⟩:=b5 r;cases ru;obtain⟨its,rv,p,hz⟩:=I.list hl;have e:=ic rv;subst e;have hL:=p.isList;have hlt:l < s.heap.objs.size:=by obtain⟨_,e,_⟩:=hL;exact Zo e
 refine call_all_walk (UJ hL ?_)
 refine⟨s.heap.objs.size,[s.heap.objs.size,l],[s.heap.objs.size],_,_,_,λi=>(bs[i]?).getD true,rfl,Walks.list (A:=X.A.in1) (I.ok.hd hc) _ l (Zx hlt) _,
  ⟨⟨_,ZB _ rfl,rfl,rfl⟩,hL.push _⟩,λi v s' Q' E' hP hQ=>?_,λh' tk hk=>?_⟩
 ·have hP':(bs.map Value.bool)[i]?=some v:=by simpa using hP
  rw[Zm] at hP';cases hb:bs[i]? with
  |none=>rw[hb] at hP';cases hP'
  |some b=>
   rw[hb] at hP';have ev:Value.bool b=v:=Option.some.inj hP';subst ev;simp only[hb,ZQ] at hQ;exact UQ hQ
 ·have e:((Zj (bs.map Value.bool).toArray.size).all λi=>(bs[i]?).getD true)=bs.all id:=by
   rw[Zl,Za,Z3];simp only[ZJ,Z6,id];constructor
   ·intro h b hb;obtain⟨i,hi,rfl⟩:=Xi.mp hb;have:=h i hi
    rwa [gEG hi,ZQ] at this
   ·intro h i hi;rw[gEG hi,ZQ];exact h _ (Zy hi)
  rw[e];exact⟨.bl (bs.all id),H,I.kept (t':=tk) (rj hk),rfl,q⟩
theorem xY(hc:X.calm=true):aP X (.builtin "any") (λxs H Q=>∃ (l:Addr) (bs:List Bool),xs=[.ref l]/\SqL X.K H l (bs.map V.bl)/\Q (.bl (bs.any id)) H):=by
 show 8;obtain⟨l,bs,rfl,hl,q⟩:=h;obtain⟨u,rfl,ru⟩:=b5 r;cases ru;obtain⟨its,rv,p,hz⟩:=I.list hl;have e:=ic rv;subst e;have hL:=p.isList;have hlt:l < s.heap.objs.size:=by obtain⟨_,e,_⟩:=hL;exact Zo e
 refine call_any_walk (UJ hL ?_)
 refine⟨s.heap.objs.size,[s.heap.objs.size,l],[s.heap.objs.size],_,_,_,λi=>(bs[i]?).getD false,rfl,Walks.list (A:=X.A.in1) (I.ok.hd hc) _ l (Zx hlt) _,
  ⟨⟨_,ZB _ rfl,rfl,rfl⟩,hL.push _⟩,λi v s' Q' E' hP hQ=>?_,λh' tk hk=>?_⟩
 ·have hP':(bs.map Value.bool)[i]?=some v:=by simpa using hP
  rw[Zm] at hP';cases hb:bs[i]? with
  |none=>rw[hb] at hP';cases hP'
  |some b=>
   rw[hb] at hP';have ev:Value.bool b=v:=Option.some.inj hP';subst ev;simp only[hb,ZQ] at hQ;exact UQ hQ
 ·have e:((Zj (bs.map Value.bool).toArray.size).any λi=>(bs[i]?).getD false)=bs.any id:=by
   rw[Zl,Za,Z3];simp only[YD,Z6,id];constructor
   ·rintro⟨i,hi,h⟩;rw[gEG hi,ZQ] at h;exact⟨_,Zy hi,h⟩
   ·rintro⟨b,hb,h⟩;obtain⟨i,hi,rfl⟩:=Xi.mp hb;exact⟨i,hi,by rw[gEG hi,ZQ];exact h⟩
  rw[e];exact⟨.bl (bs.any id),H,I.kept (t':=tk) (rj hk),rfl,q⟩
theorem Jk:OpR X (VJ .Is) (λx y H Q=>∃b c,x = .bl b/\y = .bl c/\Q (.bl (b == c)) H):=by
 show 3;obtain⟨b,c,rfl,rfl,q⟩:=h;cases rx;cases ry;exact is_bool ⟨.bl _,H,I,rfl,q⟩
theorem xZ:OpR X (VJ .IsNot) (λx y H Q=>∃b c,x = .bl b/\y = .bl c/\Q (.bl (b != c)) H):=by
 show 3;obtain⟨b,c,rfl,rfl,q⟩:=h;cases rx;cases ry;exact isnot_bool ⟨.bl _,H,I,rfl,q⟩
theorem lJ(hc:X.calm=true):∀ {pins:List (Addr × Obj)} {s:Shared} {σ:St} {H:Hp} {Q:VK} {r:Addr} {n:Nat} {t u v:Tok},Inv X pins σ H s->IsRange s.heap r 0 n 1 t u v->n<=1000->(∀l,H l=none->Q (.ref l) (upd H l (.lst ((Zj n).map λ(i:Nat)=>V.int i)))) ->
  wpAny (model X.prog X.w) X.A (call (.type "list") [.ref r]) (EP X pins σ Q) X.xe s:=by
 intro pins s σ H Q r n t u v I hr hn q;have hsm:Builtin.Range.small 0 n 1=true:=small_one (by lia) (by lia) (by lia) (by lia);refine call_list_range (n:=n) (I.ok.hd hc) hr hsm (by rw[rangeSize_one];split <;> lia) (by lia) λh' tk acc' c' hk hS' hacc=>?_;refine⟨.ref s.heap.objs.size,_,I.laid (t':=tk) (o:=.lst ((Zj n).map λ(i:Nat)=>V.int i)) hk (Ze _) ?_,rfl,q _ (I.hok.fresh (Ze _))⟩;have hsz:acc'.size=n:=hacc.1;refine⟨by rw[Za,ZK];exact Y6 (xV hn),acc'.toList,c',?_,by simpa using hS'⟩
 have go:∀ (m:Nat) (k:Nat) (l:List Value),l.length=m->(∀j x,l[j]?=some x->∃tk,x=Value.int (((k+j:Nat):Nat):Int) tk)->aN ((List.range' k m).map λ(i:Nat)=>V.int i) l:=by
  intro m
  induction m with
  |zero=>intro k l hl _;cases l with |nil=>exact .nil |cons _ _=>cases hl
  |succ m ih=>
   intro k l hl hx;cases l with
   |nil=>cases hl
   |cons x l=>
    rw[List.range'_succ,Zv];obtain⟨t,e⟩:=hx 0 x rfl;refine .cons ⟨t,by simpa using e⟩ (ih (k+1) l (by simpa using hl) λj y hy=>?_);obtain⟨t',e'⟩:=hx (j+1) y (by simpa using hy);exact⟨t',by rw[e',show((k+(j+1):Nat):Int)=((k+1+j:Nat):Int) from by lia]⟩
 rw[List.range_eq_range'];refine go n 0 acc'.toList (by simpa using hsz) λj x hx=>?_;obtain⟨tk',e⟩:=hacc.2 j x (by simpa using hx);exact⟨tk',by rw[e,show(0:Int)+(j:Nat) * 1=((0+j:Nat):Int) from by lia]⟩
end
section
variable {κ:Type} [DecidableEq κ]
abbrev rm(kvs:List (κ × V))(k:κ)(v:V):List (κ × V):=
 if (kvs.any λkv=>decide (kv.1=k))=true then kvs.map (λkv=>if kv.1=k then (kv.1,v) else kv) else kvs++[(k,v)]
theorem rq(kvs:List (κ × V))(k:κ)(v:V):(rm kvs k v).length<=kvs.length+1:=by
 unfold rm;split
 ·rw[Za];omega
 ·rw[Zr,ZE,YO];omega
theorem KV.any{kvs:List (κ × V)}{vs:List (κ × Value)}(r:KV kvs vs)(k:κ):(kvs.any λkv=>decide (kv.1=k))=vs.any λkv=>decide (kv.1=k):=by
 unfold KV at r
 induction r with
 |nil=>rfl
 |cons h t ih=>rw[Yz,Yz,ih,h.1]
theorem KV.repl(r:KV kvs vs)(k:κ)(ry:aI y u) :
  KV (kvs.map λkv=>if kv.1=k then (kv.1,y) else kv) (vs.map λkv=>if kv.1=k then (kv.1,u) else kv):=by
 unfold KV at r ⊢
 induction r with
 |nil=>exact .nil
 |@cons p q ps qs h t ih=>
  rw[Zv,Zv];refine .cons ?_ ih;obtain⟨h1,h2⟩:=h;by_cases e:p.1=k
  ·rw[if_pos e,if_pos (h1.symm.trans e)];exact⟨h1,ry⟩
  ·rw[if_neg e,if_neg (λz=>e (h1.trans z))];exact⟨h1,h2⟩
theorem KV.put(r:KV kvs vs)(k:κ)(ry:aI y u):KV (rm kvs k y) (stored vs k u):=by
 unfold rm stored;rw[r.any k];by_cases e:(vs.any λkv=>decide (kv.1=k))=true
 ·rw[if_pos e,if_pos e];exact r.repl k ry
 ·rw[if_neg e,if_neg e];exact Paired.snoc r ⟨rfl,ry⟩
end
theorem NS(r:aI (kV k) u):(bZ P w).is k u=true:=by
 cases k with
 |inl i=>obtain⟨t,e⟩:=(show ∃t,u=Value.int i t from r);subst e;exact qX P w i t
 |inr x=>obtain⟨t,e⟩:=(show ∃t,u=Value.str x t from r);subst e;exact qY P w x t
section
variable {P:Program} {w:World} {H:Hp} {h:Heap} {a:Addr}
theorem NT(ok:HOk P w H h)(e:Rd H a u):bq P w H h a u:=e.ok ok
theorem NU(ok:HOk P w H h)(e:Rd H a (.dK kvs)):kvs.length<=sizeLine/\(a == Uh)=false/\∃vs,KV kvs vs/\h.DictOf (bZ P w) a vs:=
 show bq P w H h a (.dK kvs) from NT ok e
theorem NV(ok:HOk P w H h)(e:H a=some (.dK kvs)):kvs.length<=sizeLine/\(a == Uh)=false/\∃vs,KV kvs vs/\h.DictOf (bZ P w) a vs:=NU ok (.inl e)
end
section
variable {X:Cx} {pins:List (Addr × Obj)} {σ:St} {H:Hp} {s:Shared} {a:Addr} {y v:V} {u r:Value} {o:Option V} {A:Around} {E:Value->Shared->Prop}
theorem Inv.big(I:Inv X pins σ H s):Uh < s.heap.objs.size:=by
 have h:VU < s.heap.objs.size:=(I.mod.glob.keeps I.bk).lt;exact Nat.lt_trans (by decide) h
theorem D0{t':Nat}(I:Inv X pins σ H s)(mu:Mut (H a))(hs:Heap.SameBut a s.heap h')(he:∃q,h'.get? a=some q)(new:bq X.prog X.w (upd H a ob) h' a ob) :
  Inv X pins σ (upd H a ob) { s with heap:=h',toks:=t' }:=
 I.write (x:=a) (e:=a) mu (.inl rfl) (λb q hb z=>(hs.2 b hb).trans z) he new
theorem Jl(z:kvs.length<=sizeLine)(hd:(a == Uh)=false)(rel:KV kvs vs)(dd:h'.DictOf (bZ P w) a vs) :
  bq P w H' h' a (.dK kvs):=⟨z,hd,vs,rel,dd⟩
end
theorem rA(h:Heap)(hb:Uh < h.objs.size):bq P w H (h.push { cls:=.type "dict", data:=.dict #[] }) h.objs.size (.dK []):=
 ⟨XW _,beq_eq_false_iff_ne.mpr (Ne.symm (Zx hb)),[],.nil,Heap.DictOf.new h⟩
def zT:TE:=λ_ H Q=>∀p,H p=none->Q (.ref p) (upd H p (.dK []))
section
variable {X:Cx} {pos:Pos}
theorem zU:PE X (.Dict [] [] pos) zT:=λpins s σ H Q I h=>
 wpAny_Dict_empty ⟨.ref s.heap.objs.size,_,I.laid (a:=s.heap.objs.size) (o:=.dK []) (t':=s.toks) (λ_ _ q=>Zi _ q) (Ze _) (rA s.heap I.big),rfl,h _ (I.hok.fresh (Ze _))⟩
end
def t7:List (TE × TE)->St->Hp->(List (V × V)->Hp->Prop)->Prop
 |[],_,H,Q=>Q [] H
 |(tk,tv)::r,σ,H,Q=>tk σ H λx H1=>tv σ H1 λy H2=>t7 r σ H2 λps H3=>Q ((x,y)::ps) H3
@[inline]abbrev VV:List (V × V)->List (Value × Value)->Prop:=Paired λp q=>aI p.1 q.1/\aI p.2 q.2
def PPs(X:Cx)(pos:Pos)(keys:List (Option Expr))(values:List Expr)(trs:List (TE × TE)):Prop:=
 ∀ (pins:List (Addr × Obj)) (s:Shared) (σ:St) (H:Hp) (Q:List (V × V)->Hp->Prop),Inv X pins σ H s->t7 trs σ H Q ->
  wpAny (model X.prog X.w) X.A (evalPairs (pairTrees keys values X.env pos)) (λvs s'=>∃ps H',Inv X pins σ H' s'/\VV ps vs/\Q ps H') X.xe s
theorem D1:PPs X pos [] [] []:=λpins s σ H Q I h=>pairTrees_nil_walk ⟨[],H,I,.nil,h⟩
theorem zV(hk:PE X k tk)(hv:PE X v tv)(hr:PPs X pos ks vs trs) :
  PPs X pos (some k::ks) (v::vs) ((tk,tv)::trs):=λpins s σ H Q I h=>
 pairTrees_cons_walk (thn (hk pins s σ H _ I h) λu s1 ⟨x,H1,I1,rx,q1⟩=>thn (hv pins s1 σ H1 _ I1 q1) λw2 s2 ⟨y,H2,I2,ry,q2⟩=>
  thn (hr pins s2 σ H2 _ I2 q2) λws s3 ⟨ps,H3,I3,rel,q3⟩=>⟨(x,y)::ps,H3,I3,.cons ⟨rx,ry⟩ rel,q3⟩)
abbrev lK(kvs more:List (Key × V)):List (Key × V):=more.foldl (λacc kv=>rm acc kv.1 kv.2) kvs
theorem KV.merge:∀ {more:List (Key × V)} {rs:List (Key × Value)} {kvs:List (Key × V)} {vs:List (Key × Value)},KV more rs->KV kvs vs->KV (lK kvs more) (merged vs rs):=by
 intro more rs kvs vs r;unfold KV at r
 induction r generalizing kvs vs with
 |nil=>intro q;exact q
 |@cons p q ps qs h t ih=>
  intro r0
  have e:KV (rm kvs p.1 p.2) (stored vs q.1 q.2):=by
   have:=r0.put p.1 h.2;rw[<-h.1];exact this
  exact ih e
theorem gU:∀ (more kvs:List (Key × V)),(lK kvs more).length<=kvs.length+more.length
 |[],kvs=>by show kvs.length<=kvs.length+0;omega
 |p::r,kvs=>by
  have h1:=gU r (rm kvs p.1 p.2);have h2:=rq kvs p.1 p.2;show(lK (rm kvs p.1 p.2) r).length<=_;rw[ZE];omega
theorem lP:∀ {kvs:List (Key × V)} {ws:List (Value × Value)},VV (kvs.map λkv=>(kV kv.1,kv.2)) ws->∃rs,Carries (bZ P w) ws rs/\KV kvs rs
 |[],_,r=>by rw[Yc] at r;cases r;exact⟨[],True.intro,.nil⟩
 |p::kvs,_,r=>by
  rw[Zv] at r;cases r with
  |@cons a b as bs h t=>
   obtain⟨rs,c,q⟩:=lP (P:=P) (w:=w) t;obtain⟨b1,b2⟩:=b;exact⟨(p.1,b2)::rs,⟨NS h.1,rfl,c⟩,.cons ⟨rfl,h.2⟩ q⟩
def zW(trs:List (TE × TE)):TE:=λσ H Q=>∀p,H p=none->t7 trs σ (upd H p (.dK [])) λps H2=>H2 p=some (.dK [])/\∃kvs:List (Key × V),ps=kvs.map (λkv=>(kV kv.1,kv.2))/\kvs.length<=15/\Q (.ref p) (upd H2 p (.dK (lK [] kvs)))
theorem D2(h:PPs X pos keys values trs)(hall:keys.all (·.isSome)=true)(hl:keys.length=values.length)(h0:keys ≠ [])
  (h15:keys.length<=15):PE X (.Dict keys values pos) (zW trs):=by
 intro pins s σ H Q I q;have hn:=I.hok.fresh (Ze s.heap.objs.size);have I1:=I.laid (a:=s.heap.objs.size) (o:=.dK []) (h':=s.heap.push { cls:=.type "dict", data:=.dict #[] }) (t':=s.toks) (λ_ _ q=>Zi _ q) (Ze _) (rA s.heap I.big);refine wpAny_Dict_walk (knd:=bZ X.prog X.w) hall hl h0 h15 (thn (h pins _ σ _ _ I1 (q _ hn)) λws s2 ⟨ps,H2,I2,rel,e,kvs,ep,lk,q2⟩=>?_);subst ep;obtain⟨rs,c,rk⟩:=lP (P:=X.prog) (w:=X.w) rel;obtain⟨z,hd,vs0,r0,dd⟩:=NV I2.hok e;cases r0;refine⟨rs,c,dd,λh' dd' hs=>⟨.ref s.heap.objs.size,_,?_,rfl,q2⟩⟩
 have hz:(lK [] kvs).length<=sizeLine:=by
  have h1:=gU kvs [];rw[YO] at h1;rw[Ua];omega
 have he:∃q,h'.get? s.heap.objs.size=some q:=let ⟨q,_,_,hq,_⟩:=dd';⟨q,hq⟩;exact D0 I2 (by rw[e];exact True.intro) hs he (Jl hz hd (rk.merge .nil) dd')
end L2
namespace HT
open PySem PyProof.Rows
open AutoSeq1 (wpAny_loadPart')
section
variable {prog:Program} {w:World} {A:Around} {E:Value->Shared->Prop} {s:Shared}
theorem kI{i:Nat}(hit:s.heap.IsTupleIter it t i)(ht:s.heap.IsTuple t items)(hx:items[i]?=some x)
  (hQ:∀h',h'.IsTupleIter it t (i+1)->Heap.SameBut it s.heap h'->Q x { s with heap:=h' }):wpAny (model prog w) A (Builtin.SmallTypes.nextOf (.ref it)) Q E s:=by
 obtain⟨o,ho,hc,hd⟩:=id hit;obtain⟨ol,hol,_,nl,hdl⟩:=ht;unfold Builtin.SmallTypes.nextOf
 refine Uo (wpAny_callSpecial?_slot (name:=Str.ofString "__next__") hit.typeIs WL
  (Uq WL hit.typeIs WA ?_ (Wx _)))
 show wpAny _ _ (field (.ref it) 0 >>= _) _ _ s;refine Uo (Uv ho hd (x:=.ref t) rfl ?_);show wpAny _ _ (if (Value.ref t == Value.none)=true then _ else _) _ _ s;rw[if_neg (show ¬ ((Value.ref t == Value.none)=true) from Zd)];show wpAny _ _ (field (.ref it) 1 >>= _) _ _ s;refine Uo (Uv ho hd (x:=.int i 0) rfl ?_);show wpAny _ _ (V8 (.ref t) >>= _) _ _ s;refine Uo (UO hol hdl ?_);simp only[Zn,hx];refine Uo (wpAny_setField ho hd (by simp) (UH ⟨x,rfl,UH (hQ _ ?_ (Heap.SameBut.update ..))⟩))
 exact⟨_,YA _ ho (Obj.isFreed_of_fields (Obj.data_mapFields hd _)),(Obj.cls_mapFields ..).trans hc,by
  rw[Obj.data_mapFields hd];simp[rawInt]⟩
theorem lQ{i:Nat}(hh:A.handled=none)(hit:s.heap.IsTupleIter it t i)(ht:s.heap.IsTuple t items)(hx:items[i]?=none)
  (hE:∀h' e,Heap.ExtBut it s.heap h'->(∃o,h'.get? e=some o/\o.cls = .type "StopIteration")->E (.ref e) { s with heap:=h' }):wpAny (model prog w) A (Builtin.SmallTypes.nextOf (.ref it)) Q E s:=by
 obtain⟨o,ho,hc,hd⟩:=id hit;obtain⟨ol,hol,_,nl,hdl⟩:=ht;unfold Builtin.SmallTypes.nextOf
 refine Uo (wpAny_callSpecial?_slot (name:=Str.ofString "__next__") hit.typeIs WL
  (Uq WL hit.typeIs WA ?_ (Wx _)))
 show wpAny _ _ (field (.ref it) 0 >>= _) _ _ s;refine Uo (Uv ho hd (x:=.ref t) rfl ?_);show wpAny _ _ (if (Value.ref t == Value.none)=true then _ else _) _ _ s;rw[if_neg (show ¬ ((Value.ref t == Value.none)=true) from Zd)];show wpAny _ _ (field (.ref it) 1 >>= _) _ _ s;refine Uo (Uv ho hd (x:=.int i 0) rfl ?_);show wpAny _ _ (V8 (.ref t) >>= _) _ _ s;refine Uo (UO hol hdl ?_);simp only[Zn,hx];refine Uo (UN (Uo (wpAny_setField ho hd (by simp) ?_)));show wpAny _ _ (newExc (.type "StopIteration") [] >>= _) _ _ _;refine Uo ?_;simp only[newExc,newTuple];refine Uo (UE ?_ (by size_fits));refine Uo (m:=firstArgMember _ _) (UF (a:=Value.none) (by first |rfl |(simp only[firstArgMember];rfl)) ?_);refine UE ?_ (by size_fits);simp only[raiseNew];refine Uo (wpAny_handled ?_)
 first |rw[show A.in1.handled=none from hh] |rw[hh]
 refine Uo (UH (wpAny_throw ?_));exact hE _ _ (((Heap.SameBut.update ..).extBut.push _).push _) ⟨_,ZB _ rfl,rfl⟩
end
theorem zX(hh:A.handled=none)(it l:Addr)(hne:l ≠ it)(items:Array Value) :
  Draws prog w A it [it,l] items.size (λi v=>items[i]?=some v) (λi h=>h.IsTupleIter it l i/\h.IsTuple l items) where
 live:=λ_ _ st=>let ⟨o,ho,_⟩:=st.1;⟨o,ho⟩
 frame:=λ_ _ _ st hk=>⟨st.1.at λo e=>hk it (by simp) o e,let ⟨o,e,r⟩:=st.2;⟨o,hk l (by simp) o e,r⟩⟩
 item:=λi s Q E hi st hQ=>by
  refine kI st.1 st.2 (x:=items[i]) (by simp[hi]) λh' hit' hs'=>?_;exact hQ _ h' s.toks (by simp[hi]) ⟨hit',let ⟨o,e,r⟩:=st.2;⟨o,hs'.extBut l o hne e,r⟩⟩ hs'
 done:=λs Q E st hE=>lQ hh st.1 st.2 (by simp) hE
theorem rB(l:Addr)(items:Array Value)(n:Nat)(dct:Option Addr)(sl:Array (Option Value)) :
  Meets (Builtin.«enumerate.__new__» ⟨[.type "enumerate", .ref l],[]⟩) (λ_ R s=>s.heap.get? l=some { cls:=.type "tuple", dict:=dct,data:=.seq items n,slots:=sl } ∧
   R (.ok (.ret (.ref (s.heap.push { cls:=.type "tuple_iterator", data:=.fields #[.ref l,.int 0 0] }).objs.size)))
    { s with heap:=(s.heap.push { cls:=.type "tuple_iterator", data:=.fields #[.ref l,.int 0 0] }).push { cls:=.type "enumerate", data:=.fields #[.none,.bool false,.ref s.heap.objs.size,rawInt 0,.none,.none] } }):=
 .of_wp λprog w A R s h=>by
  obtain⟨hp,g,d,tk,os⟩:=s;obtain⟨hl,h⟩:=h;have hsub:=sub_enumerate;have hL:Heap.IsTuple (Shared.heap ⟨hp,g,d,tk,os⟩) l items:=⟨_,hl,rfl,n,rfl⟩
  wp_walk using UA hl
  refine wpAny_stack_any λst=>UH ?_;split
  ·rename_i c _ _ _ _ _;cases (c == Value.type "enumerate")
   ·wp_walk using UA hl,UK hL
    exact⟨_,rfl,h⟩
   ·wp_walk using UA hl,UK hL
    exact⟨_,rfl,h⟩
  ·wp_walk using UA hl,UK hL
   exact⟨_,rfl,h⟩
theorem t8(hL:IsTup s.heap l items)
  (h:∀h',IsEnum h' (s.heap.objs.size+1) s.heap.objs.size 0 .none->h'.IsTupleIter s.heap.objs.size l 0->h'.objs.size=s.heap.objs.size+2 ->
   (∀b o,s.heap.get? b=some o->h'.get? b=some o)->Q (.ref (s.heap.objs.size+1)) { s with heap:=h' }) :
  wpAny (model prog w) A (call (.type "enumerate") [.ref l]) Q E s:=by
 obtain⟨⟨c,dct,dt,sl⟩,hl,hc,n,hd⟩:=hL;replace hc:c = .type "tuple" := hc;replace hd:dt = .seq items n:=hd;subst hc hd
 refine callType_new PySem.F.called_enumerate (by decide) (PySem.F.typeCall_enumerate_1 _) (PySem.F.newCall_enumerate_1 _) (λobj=>PySem.F.args_object_init_2 obj _) PySem.F.entry_enumerate_new
  (rB l items n dct sl) ⟨hl,?_⟩
 have hz:(s.heap.push { cls:=.type "tuple_iterator", data:=.fields #[.ref l,.int 0 0] }).objs.size=s.heap.objs.size+1:=YC ..;show _/\_;rw[hz]
 have he:IsEnum ((s.heap.push { cls:=.type "tuple_iterator", data:=.fields #[.ref l,.int 0 0] }).push
   { cls:=.type "enumerate", data:=.fields #[.none,.bool false,.ref s.heap.objs.size,rawInt 0,.none,.none] }) (s.heap.objs.size+1) s.heap.objs.size 0 .none:=by
  have:=ZB (s.heap.push { cls:=.type "tuple_iterator", data:=.fields #[.ref l,.int 0 0] })
   (o:={ cls:=.type "enumerate", data:=.fields #[.none,.bool false,.ref s.heap.objs.size,rawInt 0,.none,.none] }) rfl
  rw[hz] at this;exact this
 exact⟨⟨_,he,rfl⟩,h _ he ⟨_,Zi _ (ZB _ rfl),rfl,rfl⟩ (by rw[YC,hz]) λb o x=>Zi _ (Zi _ x)⟩
end HT
namespace L2
open PySem PySem.Spec PyProof.Rows
abbrev Ite(K:W6)(a:Addr)(sq:W6->Hp->Addr->List V->Prop):It:=
 ⟨λi H=>∃xs x,sq K H a xs/\xs[i]?=some x,λi H x H'=>∃T,H T=none/\x = .ref T/\∀xs v,sq K H a xs->xs[i]?=some v->H'=upd H T (.tup [.int i,v]),λi H=>∃xs,sq K H a xs/\xs.length=i⟩
theorem Inv.turnedLaid{X:Cx}{pins:List (Addr × Obj)}{σ:St}{H:Hp}{s:Shared}{h':Heap}{T:Addr}{o:HO}{t':Nat}{ch:List Addr}(I:Inv X pins σ H s)(hf:∀b ∈ ch,gN X pins H b)
  (k:∀b ob,b ∉ ch->s.heap.get? b=some ob->h'.get? b=some ob) (hp:s.heap.objs.size<=T) (new:bq X.prog X.w (upd H T o) h' T o):Inv X pins σ (upd H T o) { s with heap:=h',toks:=t' }:=by
 have fr:=I.hok.fresh hp;have neT:∀b ob,s.heap.get? b=some ob->b ≠ T:=λb ob e=>Zx (Zu (Zo e) hp)
 refine I.step (g':=s.gens) (d':=s.drawn) (ch:=ch) (λb hb=>⟨(hf b hb).2.2.2.1,(hf b hb).2.1,(hf b hb).2.2.2.2.1,(hf b hb).2.2.2.2.2⟩) (λb ob _ _ hc e _=>k b ob hc e) (λb ob _ _ hc e _=>⟨ob.slots,k b ob hc e⟩)
  (λb ob _ e n=>by rw[aE (neT b ob e)];exact n) (λb ob hc e=>⟨ob,k b ob hc e⟩) (λb xs q=>by rw[aE (aO q fr)];exact q) (λb u xs q=>by rw[aE (aO q fr)];exact q)
  (λb ps q=>⟨#[],by rw[aE (aO q fr),q];simp⟩) (λm hm=>?_) (λb u q=>?_) I.bare
 ·obtain⟨ob,es,ep,ho',r'⟩:=hm;exact⟨ob,es,ep,k _ ob (λz=>(hf _ z).2.1 rfl) ho',r'⟩
 ·by_cases hb:b=T
  ·subst hb;rw[aJ] at q;cases q;exact new
  ·rw[aE hb] at q;refine(I.hok b u q).stay (λc v hc q'=>k c v (λz=>?_) q') (λc q=>by rw[aE (aO q fr)];exact q) λc xs q=>by rw[aE (aO q fr)];exact q
   have n:=(hf c z).1;rcases hc with w |w
   ·rw[w,q] at n;cases n
   ·rw[w] at n;cases n
theorem Inv.turnedAll{X:Cx}{pins:List (Addr × Obj)}{σ:St}{H:Hp}{s:Shared}{h':Heap}{t':Nat}{ch:List Addr}(I:Inv X pins σ H s)(hf:∀b ∈ ch,gN X pins H b)
  (k:∀b ob,b ∉ ch->s.heap.get? b=some ob->h'.get? b=some ob):Inv X pins σ H { s with heap:=h',toks:=t' }:=by
 refine I.step (g':=s.gens) (d':=s.drawn) (ch:=ch) (λb hb=>⟨(hf b hb).2.2.2.1,(hf b hb).2.1,(hf b hb).2.2.2.2.1,(hf b hb).2.2.2.2.2⟩) (λb ob _ _ hc e _=>k b ob hc e) (λb ob _ _ hc e _=>⟨ob.slots,k b ob hc e⟩)
  (λb ob _ e n=>n) (λb ob hc e=>⟨ob,k b ob hc e⟩) (λb xs q=>q) (λb u xs q=>q)
  (λb ps q=>⟨#[],by rw[q];simp⟩) (λm hm=>?_) (λb u q=>?_) I.bare
 ·obtain⟨ob,es,ep,ho',r'⟩:=hm;exact⟨ob,es,ep,k _ ob (λz=>(hf _ z).2.1 rfl) ho',r'⟩
 ·refine(I.hok b u q).stay (λc v hc q'=>k c v (λz=>?_) q') (λc q=>q) λc xs q=>q;have n:=(hf c z).1;rcases hc with w |w
  ·rw[w,q] at n;cases n
  ·rw[w] at n;cases n
theorem t9{P:Program}{w:World}{K:W6}{elts:List Expr}{x1:Nat}{tp:Pos}(a e it:Addr)(hei:e ≠ it) :
  Turn P w K (.Tuple elts x1 tp) (Ite K a SqL) [e,it] e (λi h=>(∃old,IsEnum h e it i old)/\h.IsListIter it a i) where
 mem:=by simp
 obj:=λi h st b hb=>by
  obtain⟨⟨old,he⟩,o,eo,c,d⟩:=st;rcases Zk.mp hb with z |z
  ·subst z;exact⟨_,he,λv z=>by have z':Data.fields _=Data.cell v:=z;cases z'⟩
  ·have z':=ZO.mp z;subst z';exact⟨o,eo,λv z=>by rw[d] at z;cases z⟩
 keep:=λi h h' st k=>⟨let ⟨old,he⟩:=st.1;⟨old,k e (by simp) _ he⟩,st.2.at λo eo=>k it (by simp) o eo⟩
 item:=by
  show 4;obtain⟨xs,x,hq,hx⟩:=hg;obtain⟨its,rv,p,hz⟩:=I.list hq;obtain⟨u,hu,ru⟩:=rv.get hx;obtain⟨⟨old,he⟩,hit⟩:=st;have hL:s.heap.IsList a its.toArray:=p.isList
  have hae:e ≠ a:=λz=>by
   subst z;obtain⟨o,ho,hc',n,hd'⟩:=id hL;rw[he] at ho;cases ho;have z':Data.fields _=Data.seq its.toArray n:=hd';cases z'
  have hai:a ≠ it:=λz=>by
   subst z;obtain⟨o,ho,hc',n,hd'⟩:=id hL;obtain⟨o',ho',c',d'⟩:=id hit;rw[ho'] at ho;cases ho;rw[d'] at hd';cases hd'
  have hi:i < its.toArray.size:=by
   have:=(Zc.mp hu).1
   simpa using this
  refine UM (Draws.list (A:=X.A.in1) (I.ok.hd hc) it a hai its.toArray) he ⟨hit,hL⟩ hi hei (by simp[hei,hae]) λy h' tk hP ho hs' hT hsz hk=>?_
  have ey:y=u:=by
   have z:its.toArray[i]?=some u:=by simpa using hu
   rw[z] at hP;exact(Option.some.inj hP).symm
  subst ey;refine⟨_,rfl,?_⟩;refine Uz ho λh2 he2 hs2=>?_;have helt:e < s.heap.objs.size:=Zo he;have hilt:it < s.heap.objs.size:=by obtain⟨o,eo,_⟩:=hit;exact Zo eo
  show 9
  ·exact I.turnedLaid (t':=tk+1) hf (λb ob hb eb=>(hs2.2 b λz=>hb (by simp[z])).trans (hk b ob (λz=>hb (by simp[z])) (λz=>hb (by simp[z])) eb)) (Ze _)
    ⟨by show 2<=sizeLine;decide,[.int i tk,y],.cons ⟨tk,rfl⟩ (.cons ru .nil),⟨_,hT2,rfl,_,rfl,rfl⟩⟩
  ·rw[I.list_inj hy hq,hx] at hv;cases hv;rfl
  ·rcases Zk.mp hb with z |z
   ·rw[z,aE (Zx helt)];exact(hf e (by simp)).1
   ·rw[ZO.mp z,aE (Zx hilt)];exact(hf it (by simp)).1
 done:=by
  show 4;obtain⟨xs,hq,hx⟩:=hg;obtain⟨its,rv,p,hz⟩:=I.list hq;obtain⟨⟨old,he⟩,hit⟩:=st;have hL:s.heap.IsList a its.toArray:=p.isList
  have hai:a ≠ it:=λz=>by
   subst z;obtain⟨o,ho,hc',n,hd'⟩:=id hL;obtain⟨o',ho',c',d'⟩:=id hit;rw[ho'] at ho;cases ho;rw[d'] at hd';cases hd'
  have hn:its.toArray.size=i:=by rw[Zl,<-rv.length,hx]
  subst hn;refine UL (Draws.list (A:=X.A.in1) (I.ok.hd hc) it a hai its.toArray) he ⟨hit,hL⟩ λh' eb=>⟨rfl,?_⟩;exact I.turnedAll (t':=s.toks) hf λb ob hb q=>eb b ob (λz=>hb (by simp[z])) q
 self:=λ_ _ _ _ _ st h=>let ⟨⟨old,he⟩,_⟩:=st;UI he h
theorem ua{P:Program}{w:World}{K:W6}{elts:List Expr}{x1:Nat}{tp:Pos}(a e it:Addr)(hei:e ≠ it) :
  Turn P w K (.Tuple elts x1 tp) (Ite K a SqT) [e,it] e (λi h=>(∃old,IsEnum h e it i old)/\h.IsTupleIter it a i) where
 mem:=by simp
 obj:=λi h st b hb=>by
  obtain⟨⟨old,he⟩,o,eo,c,d⟩:=st;rcases Zk.mp hb with z |z
  ·subst z;exact⟨_,he,λv z=>by have z':Data.fields _=Data.cell v:=z;cases z'⟩
  ·have z':=ZO.mp z;subst z';exact⟨o,eo,λv z=>by rw[d] at z;cases z⟩
 keep:=λi h h' st k=>⟨let ⟨old,he⟩:=st.1;⟨old,k e (by simp) _ he⟩,st.2.at λo eo=>k it (by simp) o eo⟩
 item:=by
  show 4;obtain⟨xs,x,hq,hx⟩:=hg;obtain⟨its,rv,p,hz⟩:=I.tuple hq;obtain⟨u,hu,ru⟩:=rv.get hx;obtain⟨⟨old,he⟩,hit⟩:=st;have hL:s.heap.IsTuple a its.toArray:=p
  have hae:e ≠ a:=λz=>by
   subst z;obtain⟨o,ho,hc',n,hd'⟩:=id hL;rw[he] at ho;cases ho;have z':Data.fields _=Data.seq its.toArray n:=hd';cases z'
  have hai:a ≠ it:=λz=>by
   subst z;obtain⟨o,ho,hc',n,hd'⟩:=id hL;obtain⟨o',ho',c',d'⟩:=id hit;rw[ho'] at ho;cases ho;rw[d'] at hd';cases hd'
  have hi:i < its.toArray.size:=by
   have:=(Zc.mp hu).1
   simpa using this
  refine UM (HT.zX (A:=X.A.in1) (I.ok.hd hc) it a hai its.toArray) he ⟨hit,hL⟩ hi hei (by simp[hei,hae]) λy h' tk hP ho hs' hT hsz hk=>?_
  have ey:y=u:=by
   have z:its.toArray[i]?=some u:=by simpa using hu
   rw[z] at hP;exact(Option.some.inj hP).symm
  subst ey;refine⟨_,rfl,?_⟩;refine Uz ho λh2 he2 hs2=>?_;have helt:e < s.heap.objs.size:=Zo he;have hilt:it < s.heap.objs.size:=by obtain⟨o,eo,_⟩:=hit;exact Zo eo
  show 9
  ·exact I.turnedLaid (t':=tk+1) hf (λb ob hb eb=>(hs2.2 b λz=>hb (by simp[z])).trans (hk b ob (λz=>hb (by simp[z])) (λz=>hb (by simp[z])) eb)) (Ze _)
    ⟨by show 2<=sizeLine;decide,[.int i tk,y],.cons ⟨tk,rfl⟩ (.cons ru .nil),⟨_,hT2,rfl,_,rfl,rfl⟩⟩
  ·rw[I.tuple_inj hy hq,hx] at hv;cases hv;rfl
  ·rcases Zk.mp hb with z |z
   ·rw[z,aE (Zx helt)];exact(hf e (by simp)).1
   ·rw[ZO.mp z,aE (Zx hilt)];exact(hf it (by simp)).1
 done:=by
  show 4;obtain⟨xs,hq,hx⟩:=hg;obtain⟨its,rv,p,hz⟩:=I.tuple hq;obtain⟨⟨old,he⟩,hit⟩:=st;have hL:s.heap.IsTuple a its.toArray:=p
  have hai:a ≠ it:=λz=>by
   subst z;obtain⟨o,ho,hc',n,hd'⟩:=id hL;obtain⟨o',ho',c',d'⟩:=id hit;rw[ho'] at ho;cases ho;rw[d'] at hd';cases hd'
  have hn:its.toArray.size=i:=by rw[Zl,<-rv.length,hx]
  subst hn;refine UL (HT.zX (A:=X.A.in1) (I.ok.hd hc) it a hai its.toArray) he ⟨hit,hL⟩ λh' eb=>⟨rfl,?_⟩;exact I.turnedAll (t':=s.toks) hf λb ob hb q=>eb b ob (λz=>hb (by simp[z])) q
 self:=λ_ _ _ _ _ st h=>let ⟨⟨old,he⟩,_⟩:=st;UI he h
def Jm(K:W6)(ta:TA):TI:=λσ H R=>ta σ H λvs H1=>∃a xs,vs=[.ref a]/\SqL K H1 a xs/\R (Ite K a SqL) H1
def NX(K:W6)(ta:TA):TI:=λσ H R=>ta σ H λvs H1=>∃a xs,vs=[.ref a]/\SqT K H1 a xs/\R (Ite K a SqT) H1
section
variable {X:Cx} {elts:List Expr} {x1:Nat} {tp:Pos}
theorem zY{a:Expr}{ta:TA}{p pos:Pos}(hg:Gl X "enumerate")(hm:X.mg "enumerate" = none)(ha:PA X [a] ta)(hs:Uc [a] X.env=[(false,eval a X.env)]:=by rfl):PI X (.Tuple elts x1 tp) (.Call (.Name "enumerate" p) [a] [] pos) (Jm X.K ta):=by
 intro pins s σ H R I h;refine Call_ (fG I hg hm Wk (Wr (thn (ha pos pins s σ H _ I h) λus s1 ⟨vs,H1,I1,r1,q1⟩=>?_) hs rfl));obtain⟨l,xs,e,hl,q⟩:=q1;subst e;obtain⟨u,rfl,ru⟩:=b5 r1;cases ru;obtain⟨its,rv,pl,hz⟩:=I1.list hl;refine call_enumerate_list pl.isList λh' he hit hsz hk=>UI he ?_;have I2:Inv X pins σ H1 { s1 with heap:=h' }:=I1.kept (t':=s1.toks) hk;have fr:∀b,s1.heap.objs.size<=b->gN X pins H1 b:=λb hb=>I1.fpOk hb (I1.hok.fresh hb);refine⟨_,[s1.heap.objs.size+1,s1.heap.objs.size],_,_,H1,rfl,I2,t9 l _ _ (XQ _),⟨⟨_,he⟩,hit⟩,λb hb=>?_,q⟩;rcases Zk.mp hb with z |z
 ·rw[z];exact fr _ (Yu _)
 ·rw[ZO.mp z];exact fr _ (Ze _)
theorem Jn{a:Expr}{ta:TA}{p pos:Pos}(hg:Gl X "enumerate")(hm:X.mg "enumerate" = none)(ha:PA X [a] ta)(hs:Uc [a] X.env=[(false,eval a X.env)]:=by rfl):PI X (.Tuple elts x1 tp) (.Call (.Name "enumerate" p) [a] [] pos) (NX X.K ta):=by
 intro pins s σ H R I h;refine Call_ (fG I hg hm Wk (Wr (thn (ha pos pins s σ H _ I h) λus s1 ⟨vs,H1,I1,r1,q1⟩=>?_) hs rfl));obtain⟨l,xs,e,hl,q⟩:=q1;subst e;obtain⟨u,rfl,ru⟩:=b5 r1;cases ru;obtain⟨its,rv,pl,hz⟩:=I1.tuple hl;refine HT.t8 pl λh' he hit hsz hk=>UI he ?_;have I2:Inv X pins σ H1 { s1 with heap:=h' }:=I1.kept (t':=s1.toks) hk;have fr:∀b,s1.heap.objs.size<=b->gN X pins H1 b:=λb hb=>I1.fpOk hb (I1.hok.fresh hb);refine⟨_,[s1.heap.objs.size+1,s1.heap.objs.size],_,_,H1,rfl,I2,ua l _ _ (XQ _),⟨⟨_,he⟩,hit⟩,λb hb=>?_,q⟩;rcases Zk.mp hb with z |z
 ·rw[z];exact fr _ (Yu _)
 ·rw[ZO.mp z];exact fr _ (Ze _)
end
section
variable {X:Cx}
theorem rC:aP X (.type "range") (λxs H Q=>∃j:Int,xs=[.int j]/\∀p,H p=none->Q (.ref p) (upd H p (.rng 0 j))):=by
 show 8;obtain⟨j,rfl,q⟩:=h;obtain⟨u,rfl,ru⟩:=b5 r;obtain⟨t,rfl⟩:=ru;exact call_range_1 ⟨.ref s.heap.objs.size,_,I.laid (t':=s.toks+1+1) (o:=.rng 0 j) (λb o e=>Zi _ e) (Ze _) ⟨_,_,_,ZB _ rfl⟩,rfl,q _ (I.hok.fresh (Ze _))⟩
theorem qa(hc:X.calm=true):aP X (.type "list") (λxs H Q=>∃ (p:Addr) (n:Nat),xs=[.ref p]/\H p=some (.rng 0 n)/\n<=1000/\∀l,H l=none->Q (.ref l) (upd H l (.lst ((Zj n).map λ(i:Nat)=>V.int i)))):=by
 show 8;obtain⟨p,n,rfl,hp,hn,q⟩:=h;obtain⟨u,rfl,ru⟩:=b5 r;cases ru;obtain⟨t,u,v,e⟩:=(show bq X.prog X.w H s.heap p (.rng 0 n) from I.hok p _ hp);exact lJ hc I e hn q
end
section
variable {X:Cx}
def Hq(i j k:Nat)(ta:TA):TS:=λD σ H=>ta σ H λvs H1=>∃v w z,vs=[v,w,z]/\D.nx (((σ.set i (some v)).set j (some w)).set k (some z)) H1
theorem D3{i j k:Nat}{kt k2 pt2}(hc:X.calm=true)(hN:X.N.Nodup)(hi:X.N[i]?=some x)(hj:X.N[j]?=some y)(hk:X.N[k]?=some z)(hij:i ≠ j)(hik:i ≠ k)(hjk:j ≠ k)
  (hx:X.env.scope.names.lookup x=some .local) (hy:X.env.scope.names.lookup y=some .local) (hz:X.env.scope.names.lookup z=some .local) (ha:PA X [a,b,c] ta)
  (hw:Ue [.Tuple [.Name x px,.Name y py,.Name z pz] kt pt] (.Tuple [a,b,c] k2 pt2) X.env=pure (some [x,y,z]))
  (hs:Ug [.Tuple [.Name x px,.Name y py,.Name z pz] kt pt] (.Tuple [a,b,c] k2 pt2) pos.line X.env=pure false:=by rfl) :
  PS X (.Assign [.Tuple [.Name x px,.Name y py,.Name z pz] kt pt] (.Tuple [a,b,c] k2 pt2) pos) (Hq i j k ta):=by
 intro pins s σ H D I h;rw[exec_Assign_arm];refine Uo (UP ?_);rw[hs];refine Uo (UH ?_);rw[if_neg (by decide)];refine Uo (Tuple_ (thn (ha _ pins s σ H _ I h) λus s1 ⟨vs,H1,I1,r1,q1⟩=>?_));obtain⟨v,w,z',e1,q1⟩:=q1;subst e1
 obtain⟨u1,u2,u3,rfl,rv,rw',rz⟩:∃u1 u2 u3,us=[u1,u2,u3]/\aI v u1/\aI w u2/\aI z' u3:=by
  cases r1 with
  |cons p q=>
   cases q with
   |cons p' q'=>
    cases q' with
    |cons p'' q''=>
     cases q'';exact⟨_,_,_,rfl,p,p',p''⟩
 refine UE ?_ (by show 3<=sizeLine;decide);have I2:Inv X pins σ H1 { s1 with heap:=s1.heap.push { cls:=.type "tuple", data:=.seq [u1,u2,u3].toArray } }:=I1.kept (t':=s1.toks) λb o e=>Zi _ e;rw[hw];refine Uo (UH ?_);show wpAny (model X.prog X.w) X.A (do rule "assign.swapped-stores"; let items <-unpackItems (.ref s1.heap.objs.size) 3 none;Vv [λv=>Vz X.env z v,λv=>Vz X.env y v,λv=>Vz X.env x v] items.reverse;pure Flow.next) _ _ _;refine Uo (UN (Uo (unpackItems_tuple (items:=#[u1,u2,u3]) (I.ok.hd hc) (IsTup.new s1.heap _) λh' hx'=>?_)));have I3:=I2.kept (h':=h') (t':=s1.toks) λb o e=>hx' b o (Zx (Zo e)) e;show wpAny _ _ (Vv [λv=>Vz X.env z v,λv=>Vz X.env y v,λv=>Vz X.env x v] [u3,u2,u1] >>= λ_=>pure Flow.next) _ _ _;refine Uo (assignInOrder_cons (Up (cA I3 hN hk (.inl hz) rz (λs2 I4=>?_) (.inr hz))));refine assignInOrder_cons (Up (cA I4 hN hj (.inl hy) rw' (λs3 I5=>?_) (.inr hy)));refine assignInOrder_cons (Up (cA I5 hN hi (.inl hx) rv (λs4 I6=>assignInOrder_nil (UH ?_)) (.inr hx)));refine⟨_,H1,?_,q1⟩;rw[Y2 _ _ (Ne.symm hjk),Y2 _ _ (Ne.symm hik),Y2 (some w) (some v) (Ne.symm hij)] at I6;exact I6
end
abbrev ie:List Str->Bool
 |[]=>true
 |x::r=>!r.contains x && ie r
theorem fK:∀ {l:List Str},ie l=true->l.Nodup
 |[],_=>X7
 |x::r,h=>by
  unfold ie at h;rw[bAE] at h;refine Yg.mpr ⟨λm=>?_,fK h.2⟩;have:=h.1;simp[m] at this
abbrev cmB(own:List Str)(hs:List Nat)(N:List Str)(scope sc:Scope):Bool:=
 (scope.kind == .function) && ie (cX hs N++own) && ie (scope.names.map (·.1)) && ((cX hs N).all λx=>scope.names.lookup x != some .local && scope.names.lookup x != some .cell) &&
 (scope.names.all λy=>y.2 != .free || (sc.names.lookup y.1 == some .cell || sc.names.lookup y.1 == some .free)) && hs.all λi=>(scope.names.lookup (zO i)).isNone
theorem zZ(hs:List Nat)(h:cmB own hs N scope sc=true):CmScope own hs N scope sc:=by
 unfold cmB at h;simp only[bAE,ZJ] at h;obtain⟨⟨⟨⟨⟨h1,h2⟩,h3⟩,h4⟩,h5⟩,h6⟩:=h;refine⟨by simpa using h1,fK h2,fK h3,λx hx=>?_,λy hy hk=>?_,λi hi=>by simpa using h6 i hi⟩
 ·have:=h4 x hx
  simpa using this
 ·have:=h5 y hy;rw[hk] at this
  simpa using this
section
variable {X:Cx} {tg l a:Expr} {tl:TE} {ta:TA} {es:List Expr} {t:TGs} {p pos:Pos} {n k:Nat} {elts:List Expr} {x1:Nat} {tp:Pos} {o e:Expr} {to:TE} {tt:TA} {name:Str} {apos cpos:Pos}
def Hr(K:W6):List V->Hp->VK->Prop:=λxs H Q=>∃x n t b,xs=[x,.ty n]/\TyOf K H x t/\Vl K t (.type n)=some b/\Q (.bl b) H
theorem qb(K:W6)(hK:X.K=K:=by rfl):aP X (.builtin "isinstance") (Hr K):=hK ▸ rl
end
theorem z8(hk:PE X k tk)(hv:PE X v tv):PE X (.Dict [some k] [v] pos) (zW [(tk,tv)]):=D2 (zV hk hv D1) rfl rfl (by simp) (by simp)
theorem ig:∀ {xs:List V} {us:List Value},aN xs us->xs.all bK=true->us.countP (eqU x)=xs.countP λy=>eqV y x
 |_,_,.nil,_=>rfl
 |y::xs,u::us,.cons r t,f=>by
  rw[Yb,bAE] at f;rw[YL,YL,pX r f.1,ig t f.2]
section
variable {X:Cx}
def D4(K:W6):V->List V->Hp->VK->Prop:=λx vs H Q=>∃p xs y,x = .ref p/\vs=[y]/\SqT K H p xs/\bK y=true/\xs.all bK=true/\Q (.int ((xs.countP λz=>eqV z y:Nat):Int)) H
theorem x8(K:W6)(hK:X.K=K:=by rfl):MtR X "tuple.count" (D4 K):=by
 subst hK;intro pins s σ H x vs v us Q I rx rv h;obtain⟨p,xs,y,rfl,rfl,hq,fy,fs,q⟩:=h;cases rx;obtain⟨u,rfl,ru⟩:=rv.one;obtain⟨its,r,⟨⟨cls,dd,data,sl⟩,e,hc,n,hd⟩,hz⟩:=I.tuple hq;simp only at hc hd;subst hc hd;refine VC WK ⟨_,e,rfl⟩ F.entry_tuple_count (F.args_tuple_count_2 _ _) (SeqAt.tuple_countAt p its.toArray n dd sl u (eqU y)) ⟨e,λw hw=>cB ru fy r fs w (by simpa using hw),?_⟩;refine⟨.int _,H,I.tok _,⟨_,rfl⟩,?_⟩
 have z:(its.toArray.toList.countP (eqU y))=xs.countP λz=>eqV z y:=by
  rw[Xm];exact ig r fs
 rw[z];exact q
end
end L2
namespace Dw
open PySem PySem.Spec PyProof.Rows L2
inductive D where
 |non |bl (b:Bool) |int (i:Int) |str (x:Str) |tup (ds:List D) |lst (ds:List D) |dic (ks:List Key) (ds:List D)
mutual
def Br(N:List Addr)(H:Hp):D->V->Prop
 |.non,v=>v = .non
 |.bl b,v=>v = .bl b
 |.int i,v=>v = .int i
 |.str x,v=>v = .str x
 |.tup ds,v=>∃a xs,v = .ref a/\H a=some (.tup xs)/\BrL N H ds xs
 |.lst ds,v=>∃a xs,v = .ref a/\a ∉ N/\H a=some (.lst xs)/\BrL N H ds xs
 |.dic ks ds,v=>∃a xs,v = .ref a/\a ∉ N/\H a=some (.dK (ks.zip xs))/\ks.length=ds.length/\BrL N H ds xs
def BrL(N:List Addr)(H:Hp):List D->List V->Prop
 |[],xs=>xs=[]
 |d::ds,xs=>∃x r,xs=x::r/\Br N H d x/\BrL N H ds r
end
mutual
noncomputable def dep:D->Nat
 |.tup ds=>lU ds+1
 |.lst ds=>lU ds+1
 |.dic _ ds=>lU ds+1
 |_=>0
noncomputable def lU:List D->Nat
 |[]=>0
 |d::ds=>max (dep d) (lU ds)
end
mutual
noncomputable def wid:D->Nat
 |.tup ds=>max ds.length (x9 ds)
 |.lst ds=>max ds.length (x9 ds)
 |.dic _ ds=>max ds.length (x9 ds)
 |_=>0
noncomputable def x9:List D->Nat
 |[]=>0
 |d::ds=>max (wid d) (x9 ds)
end
abbrev isB:D->Bool |.bl _=>true |_=>false
abbrev isW(d:D):Bool:=match d with |.int _=>true |_=>false
abbrev ij(d:D)(a b:Int):Bool:=match d with |.int i=>decide (a<=i) && decide (i<=b) |_=>false
abbrev isT(d:D)(a b:Int):Bool:=match d with |.tup ds=>decide (a<=(ds.length:Int)) && decide ((ds.length:Int)<=b) |_=>false
theorem Jo(ds:List D)(n:Nat):isT (.tup ds) n n=decide (ds.length=n):=by
 unfold isT;rw[Z3];simp;omega
theorem oI{α:Type}(n:Nat)(f:Nat->List α):(Zj (n+1)).flatMap f=(Zj n).flatMap f++f n:=by
 rw[Y8,Xn];simp
theorem v0{α:Type}{n m:Nat}{f:Nat->List α}(h:∀i,i < n->(f i).length<=m):((Zj n).flatMap f).length<=n * m:=by
 induction n with
 |zero=>simp
 |succ n ih=>
  rw[oI,Zr];have:=ih λi hi=>h i (by omega);have:=h n (by omega);rw[Wd];omega
theorem Jp(ds:List D):isT (.tup ds) 2 2=decide (ds.length=2):=Jo ds 2
theorem Jq(h:ds.length=2):∃b e,ds=[b,e]:=by
 match ds,h with
 |[b,e],_=>exact⟨b,e,rfl⟩
abbrev gP(ds:List D)(lo hi:Option Int):List D:=(ds.drop (HT.sIx ds.length 0 lo)).take (HT.sIx ds.length ds.length hi - HT.sIx ds.length 0 lo)
structure Fit(n m:Nat)(d:D):Prop where
 de:dep d<=n
 wi:wid d<=m
theorem Jr(n:Nat)(a:Int)(h0:0<=a):HT.sIx n 0 (some a)=min a.toNat n:=by
 show(if a < 0 then (a+(n:Int)).toNat else min a.toNat n)=_;rw[if_neg (by omega)]
theorem z9(n:Nat)(a:Int)(h0:0<=a):HT.sIx n n (some a)=min a.toNat n:=by
 show(if a < 0 then (a+(n:Int)).toNat else min a.toNat n)=_;rw[if_neg (by omega)]
abbrev bG(q:Int × Int):D:=.tup [.int q.1,.int q.2]
abbrev mg2(M:List (List Int))(i j:Nat):Int:=(((M[i]?).getD [])[j]?).getD 0
structure Mat(n:Nat)(M:List (List Int)):Prop where
 len:M.length=n
 row:∀r ∈ M,r.length=n
 ent:∀r ∈ M,∀x ∈ r,1<=x/\x<=99
theorem Mat.at{n:Nat}(h:Mat n M){i j:Nat}(hi:i < n)(hj:j < n):∃r,M[i]?=some r/\r.length=n/\r[j]?=some (mg2 M i j)/\1<=mg2 M i j/\mg2 M i j<=99:=by
 have hi':i < M.length:=by rw[h.len];exact hi
 have e1:M[i]?=some M[i]:=gEG hi';have hr:=h.row _ (Zy hi');have hj':j < M[i].length:=by omega
 have e2:mg2 M i j=M[i][j]:=by unfold mg2;rw[e1,ZQ,gEG hj',ZQ]
 have:=h.ent _ (Zy hi') _ (Zy hj');exact⟨M[i],e1,hr,by rw[e2,gEG hj'],by omega,by omega⟩
def oJ(n k:Nat)(M:List (List Int)):Prop:=∀a b q,a < n->b < n->q < k->mg2 M a b<=mg2 M a q+mg2 M q b
theorem Aa{n k:Nat}(h:Mat n M)(hk:k < n)(ht:oJ n k M)(hm:∀i j,i < n->j < n->mg2 M' i j=min (mg2 M i j) (mg2 M i k+mg2 M k j)):oJ n (k+1) M':=by
 intro a b q ha hb hq;have hqn:q < n:=by omega
 obtain⟨_,_,_,_,p1,_⟩:=h.at ha hb;obtain⟨_,_,_,_,p2,_⟩:=h.at ha hk;obtain⟨_,_,_,_,p3,_⟩:=h.at hk hb;obtain⟨_,_,_,_,p4,_⟩:=h.at hk hk;obtain⟨_,_,_,_,p5,_⟩:=h.at ha hqn;obtain⟨_,_,_,_,p6,_⟩:=h.at hqn hb;obtain⟨_,_,_,_,p7,_⟩:=h.at hk hqn;obtain⟨_,_,_,_,p8,_⟩:=h.at hqn hk;rw[hm a b ha hb,hm a q ha hqn,hm q b hqn hb];by_cases e:q=k
 ·subst e;omega
 ·have hq':q < k:=by omega
  have t1:=ht a b q ha hb hq';have t2:=ht k b q hk hb hq';have t3:=ht a k q ha hk hq';omega
abbrev Ab(M:List (List Int)):List D:=M.map λr=>.tup (r.map .int)
abbrev bB(M:List (List Int))(n c i:Nat):List Int:=(Zj n).map λj=>if mg2 M i c+mg2 M c j < mg2 M i j then mg2 M i c+mg2 M c j else mg2 M i j
theorem lV(M:List (List Int))(n c i:Nat):(bB M n c i).length=n:=by unfold bB;rw[Za,ZK]
theorem rD(M:List (List Int)){n c i j:Nat}(hj:j < n):(bB M n c i)[j]?=some (if mg2 M i c+mg2 M c j < mg2 M i j then mg2 M i c+mg2 M c j else mg2 M i j):=by
 unfold bB;rw[Zm,YF hj];rfl
theorem D5{n c:Nat}(h:Mat n M)(hc:c < n):∀i j,i < n->j < n->mg2 ((Zj n).map (bB M n c)) i j=min (mg2 M i j) (mg2 M i c+mg2 M c j):=λi j hi hj=>by
 have e:mg2 ((Zj n).map (bB M n c)) i j=if mg2 M i c+mg2 M c j < mg2 M i j then mg2 M i c+mg2 M c j else mg2 M i j:=by
  show((((Zj n).map (bB M n c))[i]?.getD [])[j]?).getD 0=_;rw[Zm,YF hi];show((bB M n c i)[j]?).getD 0=_;rw[rD M hj];rfl
 rw[e];split <;> omega
theorem Ac{n c:Nat}(h:Mat n M)(hc:c < n):Mat n ((Zj n).map (bB M n c)):=by
 refine⟨by rw[Za,ZK],λr hr=>?_,λr hr x hx=>?_⟩
 ·obtain⟨u,_,rfl⟩:=ZH.mp hr;exact lV M n c u
 ·obtain⟨u,hu,rfl⟩:=ZH.mp hr;rw[Z6] at hu;unfold bB at hx;obtain⟨j,hj,rfl⟩:=ZH.mp hx;rw[Z6] at hj;obtain⟨_,_,_,_,p1,q1⟩:=h.at hu hj;obtain⟨_,_,_,_,p2,q2⟩:=h.at hu hc;obtain⟨_,_,_,_,p3,q3⟩:=h.at hc hj;split <;> omega
theorem dq:∀ (n:Nat) (l:List Int),l.Nodup->(∀x ∈ l,0<=x/\x < (n:Int))->l.length<=n
 |0,l,_,h=>by
  cases l with
  |nil=>exact Ze _
  |cons x l=>have:=h x Zg;lia
 |n+1,l,nd,h=>by
  by_cases hm:(n:Int) ∈ l
  ·have ih:=dq n (l.erase n) (nd.erase _) λx hx=>by
    have h1:=h x (List.mem_of_mem_erase hx);have h2:x ≠ (n:Int):=λe=>(List.Nodup.not_mem_erase nd) (e ▸ hx)
    lia
   rw[List.length_erase_of_mem hm] at ih;have:=List.length_pos_of_mem hm
   lia
  ·have ih:=dq n l nd λx hx=>by
    have h1:=h x hx;have h2:x ≠ (n:Int):=λe=>hm (e ▸ hx)
    lia
   lia
abbrev v5:Key->PyData
 |.inl i=>.int i
 |.inr x=>.str x
mutual
noncomputable def aW:D->PyData
 |.non=>.none
 |.bl b=>.bool b
 |.int i=>.int i
 |.str x=>.str x
 |.tup ds=>.tuple (bC ds)
 |.lst ds=>.list (bC ds)
 |.dic ks ds=>.dict ((ks.map v5).zip (bC ds))
noncomputable def bC:List D->List PyData
 |[]=>[]
 |d::ds=>aW d::bC ds
end
mutual
def shw:D->Prop
 |.int i=>i.natAbs.log2 < 1920
 |.tup ds=>lW ds
 |.lst ds=>lW ds
 |.dic _ _=>False
 |_=>True
def lW:List D->Prop
 |[]=>True
 |d::ds=>shw d/\lW ds
end
section
variable {P:Program} {w:World} {N:List Addr} {H:Hp} {h:Heap}
mutual
theorem fL(ok:HOk P w H h):∀ (d:D) {v:V} {u:Value},Br N H d v->aI v u->shw d->∃as,Reads h u (aW d) as
 |.non,v,u,b,r,hs=>by simp only[Br] at b;subst b;cases r;exact⟨_,by simp only[aW];exact .none⟩
 |.bl x,v,u,b,r,hs=>by simp only[Br] at b;subst b;cases r;exact⟨_,by simp only[aW];exact .bool _⟩
 |.int i,v,u,b,r,hs=>by simp only[Br] at b;subst b;obtain⟨t,rfl⟩:=r;exact⟨_,by simp only[aW];exact .int _ _⟩
 |.str x,v,u,b,r,hs=>by simp only[Br] at b;subst b;obtain⟨t,rfl⟩:=r;exact⟨_,by simp only[aW];exact .str _ _⟩
 |.tup ds,v,u,b,r,hs=>by
  simp only[Br] at b;obtain⟨a,xs,rfl,ha,hx⟩:=b;cases r;obtain⟨_,its,rv,o,e,c,n,q,_⟩:=ok a _ ha;obtain⟨as,z⟩:=jC ok ds hx rv (by simpa only[shw] using hs);simp only[aW];exact⟨_,.tuple e c q (by simpa using z)⟩
 |.lst ds,v,u,b,r,hs=>by
  simp only[Br] at b;obtain⟨a,xs,rfl,_,ha,hx⟩:=b;cases r;obtain⟨_,its,n,rv,e⟩:=ok a _ ha;obtain⟨as,z⟩:=jC ok ds hx rv (by simpa only[shw] using hs);simp only[aW];exact⟨_,.list e rfl rfl (by simpa using z)⟩
 |.dic ks ds,v,u,b,r,hs=>by simp only[shw] at hs
theorem jC(ok:HOk P w H h):∀ (ds:List D) {xs:List V} {us:List Value},BrL N H ds xs->aN xs us->lW ds->∃as,ReadsAll h us (bC ds) as
 |[],xs,us,b,r,_=>by simp only[BrL] at b;subst b;cases r;exact⟨_,by simp only[bC];exact .nil⟩
 |d::ds,xs,us,b,r,hs=>by
  simp only[BrL] at b;obtain⟨x,l,rfl,h1,h2⟩:=b;cases r with
  |cons r1 r2=>
   obtain⟨as,z1⟩:=fL ok d h1 r1 (by simp only[lW] at hs;exact hs.1);obtain⟨bs,z2⟩:=jC ok ds h2 r2 (by simp only[lW] at hs;exact hs.2);simp only[bC];exact⟨_,.cons z1 z2⟩
end
mutual
theorem D6(ok:HOk P w H h):∀ (d:D) {v:V} {u:Value},Br N H d v->aI v u->shw d->(aW d).shown.length<=sizeLine->∃bs,ReadAtMost h (aW d).depth bs/\ReprK P w bs h (aW d).depth u (aW d).shown
 |.non,v,u,b,r,_,_=>by simp only[Br] at b;subst b;cases r;exact⟨[],(λ_ m=>nomatch m),by simp only[aW,WW];exact .of_is ReprIs.none _ _ _⟩
 |.bl x,v,u,b,r,_,_=>by simp only[Br] at b;subst b;cases r;exact⟨[],(λ_ m=>nomatch m),by simp only[aW,WW];exact .of_is (ReprIs.bool _) _ _ _⟩
 |.int i,v,u,b,r,hs,_=>by simp only[Br] at b;subst b;obtain⟨t,rfl⟩:=r;exact⟨[],(λ_ m=>nomatch m),by simp only[aW,WW];exact .of_is (ReprIs.int t (by simpa only[shw] using hs)) _ _ _⟩
 |.str x,v,u,b,r,_,hz=>by simp only[Br] at b;subst b;obtain⟨t,rfl⟩:=r;exact⟨[],(λ_ m=>nomatch m),by simp only[aW,WW] at hz ⊢;exact .of_is (ReprIs.str x t hz) _ _ _⟩
 |.tup ds,v,u,b,r,hs,hz=>by
  obtain⟨as,whole⟩:=fL ok (.tup ds) b r hs;simp only[Br] at b;obtain⟨a,xs,rfl,ha,hx⟩:=b;cases r;obtain⟨_,its,rv,o,e,c,n,q,_⟩:=ok a _ ha;simp only[aW,WW,WT] at hz whole ⊢;obtain⟨bs,m,k⟩:=fM ok ds hx rv (by simpa only[shw] using hs) λt ht=>ZF (tupleText_mem_le ht) hz;have out:a ∉ bs:=VZ whole (by simp only[WT];lia) m;have mm:=ReadAtMost.cons whole (by simp only[WT];lia) m;simp only[WT] at mm;exact⟨a::bs,mm,ReprK.tuple e c q out (by simpa using k)⟩
 |.lst ds,v,u,b,r,hs,hz=>by
  obtain⟨as,whole⟩:=fL ok (.lst ds) b r hs;simp only[Br] at b;obtain⟨a,xs,rfl,_,ha,hx⟩:=b;cases r;obtain⟨_,its,n,rv,e⟩:=ok a _ ha;simp only[aW,WW,WT] at hz whole ⊢;obtain⟨bs,m,k⟩:=fM ok ds hx rv (by simpa only[shw] using hs) λt ht=>ZF (listText_mem_le ht) hz;have out:a ∉ bs:=VZ whole (by simp only[WT];lia) m;have mm:=ReadAtMost.cons whole (by simp only[WT];lia) m;simp only[WT] at mm;refine⟨a::bs,mm,?_⟩;cases its with
  |nil=>
   cases k':WX (bC ds) with
   |nil=>simp only[listText_nil];exact ReprK.listEmpty e rfl rfl
   |cons _ _=>rw[k'] at k;cases k
  |cons y l=>exact ReprK.list e rfl rfl out (by simpa using k.length_eq) (λi y' q'=>k.item i y' (by simpa using q'))
 |.dic ks ds,v,u,b,r,hs,hz=>by simp only[shw] at hs
theorem fM(ok:HOk P w H h):∀ (ds:List D) {xs:List V} {us:List Value},BrL N H ds xs->aN xs us->lW ds->(∀t ∈ WX (bC ds),t.length<=sizeLine)->∃bs,ReadAtMost h (WU (bC ds)) bs/\ReprAllK P w bs h (WU (bC ds)) us (WX (bC ds))
 |[],xs,us,b,r,_,_=>by simp only[BrL] at b;subst b;cases r;exact⟨[],(λ_ m=>nomatch m),by simp only[bC,WX];exact .nil⟩
 |d::ds,xs,us,b,r,hs,hz=>by
  simp only[BrL] at b;obtain⟨x,l,rfl,h1,h2⟩:=b;cases r with
  |cons r1 r2=>
   simp only[bC,WX,WU,lW] at hz hs ⊢;obtain⟨b1,m1,k1⟩:=D6 ok d h1 r1 hs.1 (hz _ Zg);obtain⟨b2,m2,k2⟩:=fM ok ds h2 r2 hs.2 λt ht=>hz t (Zf _ ht);refine⟨b1++b2,(m1.mono (X0 _ _)).append (m2.mono (XR _ _)),?_⟩;exact .cons ((k1.more λb z=>Yn _ z).level_le (X0 _ _)) (k2.more_le (λb z=>Zz _ z) (XR _ _))
end
end
section
variable {X:Cx}
structure Shn(d:D):Prop where
 sh:shw d
 sz:(aW d).shown.length<=sizeLine
 dp:(aW d).depth<=100
def Js:List V->Hp->VK->Prop:=λxs H Q=>∃x N d,xs=[x]/\Br N H d x/\Shn d/\Q (.str (aW d).shown) H
theorem ub{k:Nat}(hr:Room k X.A):aP X (.builtin "repr") Js:=by
 show 8;obtain⟨x,N,d,rfl,b,⟨hs,hz,hd⟩,q⟩:=h;obtain⟨u,rfl,ru⟩:=b5 r;have hun:=hr.un;have hu1:X.A.units+1 < cLine:=by lia
 have gd1:X.A.in1.guards=some []:=hr.gd;have fin:∀h' t tk,(∀b o,s.heap.get? b=some o->h'.get? b=some o)->∃x' t',Value.str (aW d).shown t=Value.str x' t'/\EP X pins σ Q (Value.str (aW d).shown t) { s with heap:=h',toks:=tk }:=λh' t tk hk=>⟨_,_,rfl,.str _,H,I.kept (t':=tk) hk,⟨t,rfl⟩,q⟩;cases d with
 |non=>
  simp only[Br] at b;subst b;cases ru;exact P.repr_of_none ⟨.str _,H,I.tok _,⟨_,rfl⟩,by simpa only[aW,WW] using q⟩
 |bl y=>
  simp only[Br] at b;subst b;cases ru;exact P.repr_of_bool ⟨.str _,H,I.tok _,⟨_,rfl⟩,by simpa only[aW,WW] using q⟩
 |int i=>
  simp only[Br] at b;subst b;obtain⟨t,rfl⟩:=ru;exact P.repr_of_int (by simpa only[shw] using hs) ⟨.str _,H,I.tok _,⟨_,rfl⟩,by simpa only[aW,WW] using q⟩
 |str y=>
  simp only[Br] at b;subst b;obtain⟨t,rfl⟩:=ru;exact P.repr_of_str ⟨.str _,H,I.tok _,⟨_,rfl⟩,by simpa only[aW,WW] using q⟩ (by simpa only[aW,WW] using hz)
 |tup ds=>
  obtain⟨as,whole⟩:=fL I.hok (.tup ds) b ru hs;simp only[Br] at b;obtain⟨a,ys,rfl,ha,hx⟩:=b;cases ru;obtain⟨_,its,rv,o,e,c,n,q',_⟩:=I.hok a _ ha;simp only[aW,WW,WT] at hz whole hd fin;obtain⟨bs,m,k'⟩:=fM I.hok ds hx rv (by simpa only[shw] using hs) λt ht=>ZF (tupleText_mem_le ht) hz;have out:a ∉ bs:=VZ whole (by simp only[WT];lia) m;refine call_repr_slot hu1 ⟨o,e,c⟩ F.slot_tuple_repr ?_;exact call_tuple_reprK e c q' out (by simpa using k') gd1 (λb _=>Clear.nil b) (by show X.A.units+1+(_+1) < cLine;lia) (λ_ _ z=>z) (λh' t tk hk=>fin h' t tk hk) hz
 |lst ds=>
  obtain⟨as,whole⟩:=fL I.hok (.lst ds) b ru hs;simp only[Br] at b;obtain⟨a,ys,rfl,_,ha,hx⟩:=b;cases ru;obtain⟨_,its,n,rv,e⟩:=I.hok a _ ha;simp only[aW,WW,WT] at hz whole hd fin;obtain⟨bs,m,k'⟩:=fM I.hok ds hx rv (by simpa only[shw] using hs) λt ht=>ZF (listText_mem_le ht) hz;have out:a ∉ bs:=VZ whole (by simp only[WT];lia) m;refine call_repr_slot hu1 ⟨_,e,rfl⟩ F.slot_list_repr.toG ?_;cases its with
  |nil=>
   cases k2:WX (bC ds) with
   |nil=>
    rw[k2] at fin;simp only[listText_nil] at fin;exact call_list_repr_empty ⟨_,e,rfl⟩ e rfl (fin s.heap _ _ λ_ _ z=>z)
   |cons _ _=>rw[k2] at k';cases k'
  |cons y l=>
   exact call_list_reprK e rfl rfl out (by simpa using k'.length_eq) (λi y' q2=>k'.item i y' (by simpa using q2)) gd1 (λb _=>Clear.nil b) (by show X.A.units+1+(_+1) < cLine;lia) (λ_ _ z=>z) (λh' t tk hk=>fin h' t tk hk) hz
 |dic ks ds=>simp only[shw] at hs
end
mutual
noncomputable def sz:D->Nat
 |.non=>10
 |.bl _=>10
 |.int _=>60
 |.str x=>(reprText x).length
 |.tup ds=>szL ds+4
 |.lst ds=>szL ds+4
 |.dic ks ds=>szL ds+62 * ks.length+4
noncomputable def szL:List D->Nat
 |[]=>0
 |d::ds=>sz d+2+szL ds
end
mutual
def bnd(B:Nat):D->Prop
 |.int i=>i.natAbs < B
 |.tup ds=>jD B ds
 |.lst ds=>jD B ds
 |.dic _ _=>False
 |_=>True
def jD(B:Nat):List D->Prop
 |[]=>True
 |d::ds=>bnd B d/\jD B ds
end
theorem Jt{i:Int}(h:i.natAbs < 10 ^ 50):i.natAbs.log2 < 1920:=by
 by_cases z:i.natAbs=0
 ·rw[z];decide
 ·have:i.natAbs.log2 < 167:=(Wi z).mpr (Zu h (by decide))
  lia
mutual
theorem v7:∀ (d:D),bnd (10 ^ 50) d->shw d
 |.non,_=>by simp only[shw]
 |.bl _,_=>by simp only[shw]
 |.str _,_=>by simp only[shw]
 |.int i,h=>by simp only[shw,bnd] at h ⊢;exact Jt h
 |.tup ds,h=>by simp only[shw,bnd] at h ⊢;exact lX ds h
 |.lst ds,h=>by simp only[shw,bnd] at h ⊢;exact lX ds h
 |.dic ks ds,h=>by simp only[bnd] at h
theorem lX:∀ (ds:List D),jD (10 ^ 50) ds->lW ds
 |[],_=>by simp only[lW]
 |d::ds,h=>by simp only[lW,jD] at h ⊢;exact⟨v7 d h.1,lX ds h.2⟩
end
theorem v8:∀ (ts:List Str) (k:Nat) (acc:Str),(Ui k acc ts).length<=acc.length+piled ts
 |[],k,acc=>by show acc.length<=_;lia
 |t::r,k,acc=>by
  have ih:=v8 r (k+1) (acc++(if k > 0 then ", " else "" : String)++t);show(Ui (k+1) (acc++(if k > 0 then ", " else "" : String)++t) r).length<=_;rw[piled_cons]
  have e:(acc++(if k > 0 then ", " else "" : String)++t).length<=acc.length+2+t.length:=by
   rw[Ud,Ud];have:(Str.ofString (if k > 0 then ", " else "" : String)).length<=2:=by split <;> decide
   lia
  lia
theorem D7(ts:List Str):(Str.join ", " ts).length<=piled ts:=by
 cases ts with
 |nil=>decide
 |cons t r=>have:=join_length_add (t::r) (by simp);lia
theorem D8(ts:List Str):(listText ts).length<=piled ts+4:=by
 unfold listText;rw[Ud];have h1:=v8 ts 0 "[";have h2:(Str.ofString "[").length=1:=by decide
 have h3:(Str.ofString "]").length=1:=by decide
 have h1':(Ui 0 (Str.ofString "[") ts).length<=(Str.ofString "[").length+piled ts:=h1;show(Ui 0 (Str.ofString "[") ts).length+(Str.ofString "]").length<=_
 lia
theorem Ae(ts:List Str):(tupleText ts).length<=piled ts+4:=by
 unfold tupleText;rw[Ud,Ud];have h1:=D7 ts;have h2:(Str.ofString "(").length=1:=by decide
 have h3:(Str.ofString (if ts.length == 1 then ",)" else ")" : String)).length<=2:=by split <;> decide
 show(Str.ofString "(").length+_+(Str.ofString (if ts.length == 1 then ",)" else ")" : String)).length<=_
 lia
theorem Ju{i:Int}(h:i.natAbs < 10 ^ 50):(Str.ofString (toString i)).length<=51:=by
 rw[ofString_len];exact int_text_length_le10 (by decide) h
mutual
theorem rE:∀ (d:D),bnd (10 ^ 50) d->(aW d).shown.length<=sz d
 |.non,_=>by simp only[aW,WW,sz];decide
 |.bl b,_=>by simp only[aW,WW,sz];cases b <;> decide
 |.int i,h=>by
  simp only[aW,WW,sz,bnd] at h ⊢;have:=Ju h;show(Str.ofString (toString i)).length<=60
  lia
 |.str x,_=>by simp only[aW,WW,sz];exact Ze _
 |.tup ds,h=>by
  simp only[aW,WW,sz,bnd] at h ⊢;have:=jE ds h;have:=Ae (WX (bC ds))
  lia
 |.lst ds,h=>by
  simp only[aW,WW,sz,bnd] at h ⊢;have:=jE ds h;have:=D8 (WX (bC ds))
  lia
 |.dic ks ds,h=>by simp only[bnd] at h
theorem jE:∀ (ds:List D),jD (10 ^ 50) ds->piled (WX (bC ds))<=szL ds
 |[],_=>by simp[bC,WX,piled,szL]
 |d::ds,h=>by
  simp only[bC,WX,szL,jD,piled_cons] at h ⊢;have h1:=rE d h.1;have h2:=jE ds h.2
  lia
end
theorem rF:∀ (ks:List Key) (ds:List PyData),WV ((ks.map v5).zip ds)<=WU ds
 |[],ds=>by simp[WV]
 |k::ks,[]=>by simp[WV]
 |k::ks,d::ds=>by
  have ih:=rF ks ds;simp only[Zv,List.zip_cons_cons,WV,WU];have:(v5 k).depth=0:=by cases k <;> simp[v5,WT]
  rw[this]
  lia
mutual
theorem rG:∀ (d:D),(aW d).depth<=dep d
 |.non=>by simp[aW,WT]
 |.bl _=>by simp[aW,WT]
 |.int _=>by simp[aW,WT]
 |.str _=>by simp[aW,WT]
 |.tup ds=>by simp only[aW,WT,dep];have:=gB ds;lia
 |.lst ds=>by simp only[aW,WT,dep];have:=gB ds;lia
 |.dic ks ds=>by
  simp only[aW,WT,dep];have:=gB ds;have:=rF ks (bC ds)
  lia
theorem gB:∀ (ds:List D),WU (bC ds)<=lU ds
 |[]=>by simp[bC,WU,lU]
 |d::ds=>by
  simp only[bC,WU,lU];have:=rG d;have:=gB ds
  lia
end
structure Bd(B s:Nat)(d:D):Prop where
 bn:bnd B d
 sz:sz d<=s
mutual
theorem Af{B B':Nat}(h:B<=B'):∀ (d:D),bnd B d->bnd B' d
 |.non,_=>by simp only[bnd]
 |.bl _,_=>by simp only[bnd]
 |.str _,_=>by simp only[bnd]
 |.int i,z=>by simp only[bnd] at z ⊢;lia
 |.tup ds,z=>by simp only[bnd] at z ⊢;exact qc h ds z
 |.lst ds,z=>by simp only[bnd] at z ⊢;exact qc h ds z
 |.dic ks ds,z=>by simp only[bnd] at z
theorem qc{B B':Nat}(h:B<=B'):∀ (ds:List D),jD B ds->jD B' ds
 |[],_=>by simp only[jD]
 |d::ds,z=>by simp only[jD] at z ⊢;exact⟨Af h d z.1,qc h ds z.2⟩
end
theorem Bd.shn{B s:Nat}(h:Bd B s d)(hB:B<=10 ^ 50)(hs:s<=sizeLine)(hd:dep d<=100):Shn d:=
 have b:=Af hB d h.bn
 ⟨v7 d b,ZF (rE d b) (ZF h.sz hs),ZF (rG d) hd⟩
end Dw
namespace Ev
open PySem PySem.Spec PyProof.Rows L2
inductive D where
 |non |bl (b:Bool) |int (i:Int) |str (x:Str) |tup (ds:List D) |ref (n:Nat)
inductive Ob where
 |lst (ds:List D) |frz (ds:List D) |dic (ks:List Key) (ds:List D)
@[inline]abbrev Sto:=List Ob
@[inline]abbrev Rho:=List (Option D)
mutual
def VD(K:W6)(m:List Addr)(H:Hp):D->V->Prop
 |.non,v=>v = .non
 |.bl b,v=>v = .bl b
 |.int i,v=>v = .int i
 |.str x,v=>v = .str x
 |.tup ds,v=>∃a xs,v = .ref a/\H a=some (.tup xs)/\VDs K m H ds xs
 |.ref n,v=>∃a,m[n]?=some a/\v = .ref a
def VDs(K:W6)(m:List Addr)(H:Hp):List D->List V->Prop
 |[],xs=>xs=[]
 |d::ds,xs=>∃x r,xs=x::r/\VD K m H d x/\VDs K m H ds r
end
structure Ext(m:List Addr)(H:Hp)(m':List Addr)(H':Hp):Prop where
 pre:m <+: m'
 keep:∀a o,H a=some o->a ∉ m->H' a=some o
 new:∀a,a ∈ m'->a ∉ m->H a=none
def ObR(K:W6)(m:List Addr)(H:Hp)(a:Addr):Ob->Prop
 |.lst ds=>∃vs,H a=some (.lst vs)/\VDs K m H ds vs
 |.frz ds=>∃o vs,H a=some (.frz o (.lst vs))/\VDs K m H ds vs
 |.dic ks ds=>∃vs,H a=some (.dK (ks.zip vs))/\ks.length=ds.length/\VDs K m H ds vs
structure Rel(K:W6)(m:List Addr)(S:Sto)(H:Hp):Prop where
 len:m.length=S.length
 nd:m.Nodup
 ob:∀ (i:Nat) (o:Ob),S[i]?=some o->∃a,m[i]?=some a/\ObR K m H a o
structure EnvR(K:W6)(m:List Addr)(H:Hp)(ρ:Rho)(σ:L2.St):Prop where
 len:ρ.length=σ.length
 at_:∀ (i:Nat) (d:D),ρ[i]?=some (some d)->∃v,σ[i]?=some (some v)/\VD K m H d v
theorem Ext.refl(m:List Addr)(H:Hp):Ext m H m H:=⟨Z9 m,λ_ _ h _=>h,λ_ h n=>absurd h n⟩
theorem Ext.trans(x:Ext m H m1 H1)(y:Ext m1 H1 m2 H2):Ext m H m2 H2:=by
 refine⟨x.pre.trans y.pre,λa o h n=>?_,λa h n=>?_⟩
 ·have n1:a ∉ m1:=λz=>by have:=x.new a z n;rw[this] at h;cases h
  exact y.keep a o (x.keep a o h n) n1
 ·by_cases h1:a ∈ m1
  ·exact x.new a h1 n
  ·cases e:H a with
   |none=>rfl
   |some o=>
    have:=x.keep a o e n;rw[y.new a h h1] at this;cases this
section
variable {K:W6} {m m':List Addr} {S S':Sto} {H H':Hp} {a:Addr}
theorem Rel.ex(R:Rel K m S H)(ha:a ∈ m):∃o ob,H a=some o/\ObR K m H a ob:=by
 obtain⟨i,hi,e⟩:=List.getElem_of_mem ha;have hi':i < S.length:=by rw[<-R.len];exact hi
 obtain⟨b,hb,r⟩:=R.ob i S[i] (gEG hi');have:b=a:=by rw[gEG hi] at hb;rw[<-e];exact(Option.some.inj hb).symm
 subst this;cases hS:S[i] with
 |lst ds=>rw[hS] at r;obtain⟨vs,h,q⟩:=r;exact⟨_,.lst ds,h,vs,h,q⟩
 |frz ds=>rw[hS] at r;obtain⟨o,vs,h,q⟩:=r;exact⟨_,.frz ds,h,o,vs,h,q⟩
 |dic ks ds=>rw[hS] at r;obtain⟨vs,h,q⟩:=r;exact⟨_,.dic ks ds,h,vs,h,q⟩
theorem Rel.no(R:Rel K m S H)(h:H a=none):a ∉ m:=λz=>by
 obtain⟨o,_,e,_⟩:=R.ex z;rw[h] at e;cases e
theorem Rel.notTup(R:Rel K m S H)(h:H a=some (.tup xs)):a ∉ m:=λz=>by
 obtain⟨o,ob,e,r⟩:=R.ex z;cases ob with
 |lst ds=>obtain⟨vs,q,_⟩:=r;rw[q] at h;cases h
 |frz ds=>obtain⟨o,vs,q,_⟩:=r;rw[q] at h;cases h
 |dic ks ds=>obtain⟨vs,q,_⟩:=r;rw[q] at h;cases h
theorem Tup.ext(R:Rel K m S H)(x:Ext m H m' H')(h:H a=some (.tup xs)):H' a=some (.tup xs):=x.keep _ _ h (R.notTup h)
theorem kP{i:Nat}(h:m <+: m')(e:m[i]?=some a):m'[i]?=some a:=by
 obtain⟨t,rfl⟩:=h;have hi:i < m.length:=(Zc.mp e).1;rw[Zw hi];exact e
mutual
theorem VD.mono0(pre:m <+: m')(tk:∀a xs,H a=some (.tup xs)->H' a=some (.tup xs)):∀ {d:D} {v:V},VD K m H d v->VD K m' H' d v
 |.non,v,h=>by rw[VD] at h ⊢;exact h
 |.bl _,v,h=>by rw[VD] at h ⊢;exact h
 |.int _,v,h=>by rw[VD] at h ⊢;exact h
 |.str _,v,h=>by rw[VD] at h ⊢;exact h
 |.tup ds,v,h=>by
  rw[VD] at h ⊢;obtain⟨a,xs,e,q,r⟩:=h;exact⟨a,xs,e,tk a xs q,VDs.mono0 pre tk r⟩
 |.ref n,v,h=>by
  rw[VD] at h ⊢;obtain⟨a,q,e⟩:=h;exact⟨a,kP pre q,e⟩
theorem VDs.mono0(pre:m <+: m')(tk:∀a xs,H a=some (.tup xs)->H' a=some (.tup xs)):∀ {ds:List D} {vs:List V},VDs K m H ds vs->VDs K m' H' ds vs
 |[],vs,h=>by rw[VDs] at h ⊢;exact h
 |d::ds,vs,h=>by
  rw[VDs] at h ⊢;obtain⟨y,r,e,p,q⟩:=h;exact⟨y,r,e,VD.mono0 pre tk p,VDs.mono0 pre tk q⟩
end
theorem VD.mono(R:Rel K m S H)(x:Ext m H m' H')(h:VD K m H d v):VD K m' H' d v:=VD.mono0 x.pre (λ_ _=>Tup.ext R x) h
theorem VDs.mono(R:Rel K m S H)(x:Ext m H m' H')(h:VDs K m H ds vs):VDs K m' H' ds vs:=VDs.mono0 x.pre (λ_ _=>Tup.ext R x) h
theorem EnvR.mono(R:Rel K m S H)(x:Ext m H m' H')(h:EnvR K m H ρ σ):EnvR K m' H' ρ σ:=
 ⟨h.len,λi d e=>let ⟨v,p,q⟩:=h.at_ i d e;⟨v,p,VD.mono R x q⟩⟩
theorem VDs.length:∀ {ds:List D} {vs:List V},VDs K m H ds vs->ds.length=vs.length
 |[],vs,h=>by rw[VDs] at h;rw[h];rfl
 |d::ds,vs,h=>by
  rw[VDs] at h;obtain⟨y,r,e,_,q⟩:=h;rw[e,ZE,ZE,VDs.length q]
theorem VDs.nil:VDs K m H [] []:=by rw[VDs]
theorem VDs.cons(h:VD K m H d v)(t:VDs K m H ds vs):VDs K m H (d::ds) (v::vs):=by rw[VDs];exact⟨v,vs,rfl,h,t⟩
theorem VDs.get:∀ {ds:List D} {vs:List V} {i:Nat} {d:D},VDs K m H ds vs->ds[i]?=some d->∃v,vs[i]?=some v/\VD K m H d v
 |[],_,_,_,_,e=>by simp at e
 |d::ds,vs,0,d',h,e=>by
  rw[VDs] at h;obtain⟨y,r,rfl,p,q⟩:=h;simp at e;subst e;exact⟨y,rfl,p⟩
 |d::ds,vs,i+1,d',h,e=>by
  rw[VDs] at h;obtain⟨y,r,rfl,p,q⟩:=h;obtain⟨v,p1,p2⟩:=VDs.get (i:=i) q (by simpa using e);exact⟨v,by simpa using p1,p2⟩
theorem VDs.append:∀ {ds es:List D} {vs ws:List V},VDs K m H ds vs->VDs K m H es ws->VDs K m H (ds++es) (vs++ws)
 |[],_,vs,_,h,t=>by rw[VDs] at h;subst h;exact t
 |d::ds,es,vs,ws,h,t=>by
  rw[VDs] at h;obtain⟨y,r,rfl,p,q⟩:=h;exact .cons p (VDs.append q t)
theorem VDs.drop:∀ {ds:List D} {vs:List V} (n:Nat),VDs K m H ds vs->VDs K m H (ds.drop n) (vs.drop n)
 |ds,vs,0,h=>h
 |[],vs,n+1,h=>by rw[VDs] at h;subst h;exact .nil
 |d::ds,vs,n+1,h=>by
  rw[VDs] at h;obtain⟨y,r,rfl,p,q⟩:=h;exact VDs.drop n q
theorem VDs.take:∀ {ds:List D} {vs:List V} (n:Nat),VDs K m H ds vs->VDs K m H (ds.take n) (vs.take n)
 |ds,vs,0,h=>by simp only[List.take_zero];exact .nil
 |[],vs,n+1,h=>by rw[VDs] at h;subst h;exact .nil
 |d::ds,vs,n+1,h=>by
  rw[VDs] at h;obtain⟨y,r,rfl,p,q⟩:=h;exact .cons p (VDs.take n q)
theorem VDs.set:∀ {ds:List D} {vs:List V} {i:Nat} {d:D} {v:V},VDs K m H ds vs->VD K m H d v->VDs K m H (ds.set i d) (vs.set i v)
 |[],vs,_,_,_,h,_=>by rw[VDs] at h;subst h;exact .nil
 |_::ds,vs,0,d,v,h,p=>by
  rw[VDs] at h;obtain⟨y,r,rfl,_,q⟩:=h;exact .cons p q
 |_::ds,vs,i+1,d,v,h,p=>by
  rw[VDs] at h;obtain⟨y,r,rfl,p',q⟩:=h;exact .cons p' (VDs.set q p)
theorem Ext.beside(R:Rel K m S H)(h:H a=none)(o:HO):Ext m H m (upd H a o):=
 ⟨Z9 m,λb u e _=>by rw[aE (aO e h)];exact e,λb z n=>absurd z n⟩
theorem Rel.ext_keep(R:Rel K m S H)(x:Ext m H m H')(k:∀b ∈ m,H' b=H b):Rel K m S H':=by
 refine⟨R.len,R.nd,λi o e=>?_⟩;obtain⟨b,hb,r⟩:=R.ob i o e;have hm:b ∈ m:=Zh hb;refine⟨b,hb,?_⟩;cases o with
 |lst ds=>obtain⟨vs,p,q⟩:=r;exact⟨vs,(k b hm).trans p,VDs.mono R x q⟩
 |frz ds=>obtain⟨o,vs,p,q⟩:=r;exact⟨o,vs,(k b hm).trans p,VDs.mono R x q⟩
 |dic ks ds=>obtain⟨vs,p,l,q⟩:=r;exact⟨vs,(k b hm).trans p,l,VDs.mono R x q⟩
theorem Rel.beside(R:Rel K m S H)(h:H a=none)(o:HO):Rel K m S (upd H a o):=
 R.ext_keep (Ext.beside R h o) λb hb=>aE λz=>R.no h (z ▸ hb)
theorem Rel.adopt(R:Rel K m S H)(n:a ∉ m)(h:H a=some (.lst vs))(q:VDs K m H ds vs):Rel K (m++[a]) (S++[.lst ds]) H:=by
 have p:=Yw m [a];have g:∀ {es:List D} {ws:List V},VDs K m H es ws->VDs K (m++[a]) H es ws:=λz=>VDs.mono0 p (λ_ _ t=>t) z;refine⟨by simp[R.len],XF.mpr ⟨R.nd,by simp,λx hx y hy=>by simp at hy;subst hy;exactλz=>n (z ▸ hx)⟩,λi o e=>?_⟩;by_cases hi:i < S.length
 ·rw[Zw hi] at e;obtain⟨b,hb,r⟩:=R.ob i o e;refine⟨b,kP p hb,?_⟩;cases o with
  |lst ds=>obtain⟨vs,p,q⟩:=r;exact⟨vs,p,g q⟩
  |frz ds=>obtain⟨o,vs,p,q⟩:=r;exact⟨o,vs,p,g q⟩
  |dic ks ds=>obtain⟨vs,p,l,q⟩:=r;exact⟨vs,p,l,g q⟩
 ·rw[Zs (by lia)] at e
  have hz:i - S.length=0:=by
   have:=(Zc.mp e).1;simp at this;lia
  rw[hz] at e;have e':Ob.lst ds=o:=by simpa using e
  subst e';refine⟨a,?_,vs,h,g q⟩;rw[Zs (by rw[R.len];lia),R.len,hz];rfl
theorem Ext.adopt(x:Ext m H m H')(h:H a=none):Ext m H (m++[a]) H':=
 ⟨Yw m [a],x.keep,λb hb nb=>by
  rcases ZG.mp hb with z |z
  ·exact absurd z nb
  ·simp at z;subst z;exact h⟩
theorem Rel.write(R:Rel K m S H){i:Nat}(hi:m[i]?=some a)(q:VDs K m H ds vs):Ext m H m (upd H a (.lst vs))/\Rel K m (S.set i (.lst ds)) (upd H a (.lst vs)):=by
 have hm:a ∈ m:=Zh hi;have x:Ext m H m (upd H a (.lst vs)):=⟨Z9 m,λb u e n=>by rw[aE (show b ≠ a fromλz=>n (by rw[z];exact hm))];exact e,λb z n=>absurd z n⟩;refine⟨x,by simp[R.len],R.nd,λj o e=>?_⟩;rw[YB] at e;by_cases hj:i=j
 ·subst hj;rw[if_pos rfl] at e;split at e
  ·have e':=Option.some.inj e;subst e';exact⟨a,hi,vs,aJ,VDs.mono R x q⟩
  ·cases e
 ·rw[if_neg hj] at e;obtain⟨b,hb,r⟩:=R.ob j o e
  have ne:b ≠ a:=λz=>by
   subst z;have h1:=Zc.mp hi;have h2:=Zc.mp hb;exact hj ((YK R.nd).mp (h1.2.trans h2.2.symm))
  refine⟨b,hb,?_⟩;cases o with
  |lst es=>obtain⟨ws,p,q⟩:=r;exact⟨ws,by rw[aE ne];exact p,VDs.mono R x q⟩
  |frz es=>obtain⟨o,ws,p,q⟩:=r;exact⟨o,ws,by rw[aE ne];exact p,VDs.mono R x q⟩
  |dic ks es=>obtain⟨ws,p,l,q⟩:=r;exact⟨ws,by rw[aE ne];exact p,l,VDs.mono R x q⟩
theorem Rel.lst(R:Rel K m S H){i:Nat}(e:S[i]?=some (.lst ds)):∃a vs,m[i]?=some a/\H a=some (.lst vs)/\VDs K m H ds vs:=by
 obtain⟨a,ha,vs,p,q⟩:=R.ob i _ e;exact⟨a,vs,ha,p,q⟩
end
abbrev aq(S:Sto)(n:Nat):Option (List D):=match S[n]? with
 |some (.lst ds)=>some ds
 |some (.frz ds)=>some ds
 |_=>none
theorem Rel.seq{K:W6}{m:List Addr}{S:Sto}{H:Hp}(R:Rel K m S H){i:Nat}{ds:List D}(e:aq S i=some ds):∃a vs,m[i]?=some a/\SqL K H a vs/\VDs K m H ds vs:=by
 unfold aq at e;cases h:S[i]? with
 |none=>rw[h] at e;cases e
 |some o=>
  rw[h] at e;cases o with
  |lst es=>cases e;obtain⟨a,ha,vs,p,q⟩:=R.ob i _ h;exact⟨a,vs,ha,.inl (.inl p),q⟩
  |frz es=>cases e;obtain⟨a,ha,o,vs,p,q⟩:=R.ob i _ h;exact⟨a,vs,ha,.inl (.inr ⟨o,p⟩),q⟩
  |dic ks es=>cases e
@[inline]abbrev XE:=Rho->Sto->Option (D × Sto)
@[inline]abbrev XT:=Rho->Sto->Option (Bool × Sto)
@[inline]abbrev XA:=Rho->Sto->Option (List D × Sto)
def bnd{α β:Type}(x:Option (α × Sto))(f:α->Sto->Option (β × Sto)):Option (β × Sto):=match x with
 |none=>none
 |some (a,S)=>f a S
theorem ai{α β:Type}{x:Option (α × Sto)}{f:α->Sto->Option (β × Sto)}{r:β × Sto}(h:bnd x f=some r):∃a S,x=some (a,S)/\f a S=some r:=by
 unfold bnd at h;cases x with
 |none=>cases h
 |some p=>exact⟨p.1,p.2,rfl,h⟩
structure Aft(K:W6)(m:List Addr)(H:Hp)(S':Sto)(m':List Addr)(H':Hp):Prop where
 ext:Ext m H m' H'
 rel:Rel K m' S' H'
def tE(K:W6)(x:XE):TE:=λσ H Q=>∃m ρ S d S',EnvR K m H ρ σ/\Rel K m S H/\x ρ S=some (d,S')/\∀m' H' v,Aft K m H S' m' H'->VD K m' H' d v->Q v H'
def tT(K:W6)(x:XT):TT:=λσ H Q=>∃m ρ S b S',EnvR K m H ρ σ/\Rel K m S H/\x ρ S=some (b,S')/\∀m' H',Aft K m H S' m' H'->Q b H'
def tAr(K:W6)(x:XA):TA:=λσ H Q=>∃m ρ S ds S',EnvR K m H ρ σ/\Rel K m S H/\x ρ S=some (ds,S')/\∀m' H' vs,Aft K m H S' m' H'->VDs K m' H' ds vs->Q vs H'
def SqB(K:W6)(tu:Bool)(H:Hp)(a:Addr)(vs:List V):Prop:=if tu=true then H a=some (.tup vs) else SqL K H a vs
def eO(K:W6)(x:XA):TE:=λσ H Q=>∃m ρ S ds S',EnvR K m H ρ σ/\Rel K m S H/\x ρ S=some (ds,S')/\∀m' H' a vs,Aft K m H S' m' H'->H' a=some (.lst vs)->a ∉ m'->(∀b,b ∈ m->b ≠ a)->H a=none->VDs K m' H' ds vs->Q (.ref a) H'
section
variable {X:Cx} {e:Expr} {K:W6} {m m1 m2:List Addr} {H H1 H2:Hp} {S S1 S2:Sto}
theorem PE.imp(h:PE X e t)(f:∀σ H Q,t' σ H Q->t σ H Q):PE X e t':=λpins s σ H Q I q=>h pins s σ H Q I (f σ H Q q)
theorem PT.imp(h:PT X e t)(f:∀σ H Q,t' σ H Q->t σ H Q):PT X e t':=λpins s σ H Q I q=>h pins s σ H Q I (f σ H Q q)
theorem PA.imp(h:PA X es t)(f:∀σ H Q,t' σ H Q->t σ H Q):PA X es t':=λp pins s σ H Q I q=>h p pins s σ H Q I (f σ H Q q)
theorem PS.imp{st:Stmt}{t t':TS}(h:PS X st t)(f:∀D σ H,t' D σ H->t D σ H):PS X st t':=λpins s σ H D I q=>h pins s σ H D I (f D σ H q)
theorem PSs.imp{st:List Stmt}{t t':TS}(h:PSs X st t)(f:∀D σ H,t' D σ H->t D σ H):PSs X st t':=λpins s σ H D I q=>h pins s σ H D I (f D σ H q)
theorem PI.imp(h:PI X tg it t)(f:∀σ H Q,t' σ H Q->t σ H Q):PI X tg it t':=λpins s σ H Q I q=>h pins s σ H Q I (f σ H Q q)
theorem PI.or(h:PI X tg it t)(h':PI X tg it t'):PI X tg it (λσ H Q=>t σ H Q\/t' σ H Q):=λpins s σ H Q I q=>q.elim (h pins s σ H Q I) (h' pins s σ H Q I)
theorem OpR.imp(h:OpR X f r)(g:∀x y H Q,r' x y H Q->r x y H Q):OpR X f r':=λpins s σ H x y v u Q I rx ry q=>h pins s σ H x y v u Q I rx ry (g _ _ _ _ q)
theorem OpR.or(h:OpR X f r)(h':OpR X f r'):OpR X f (λx y H Q=>r x y H Q\/r' x y H Q):=λpins s σ H x y v u Q I rx ry q=>
 q.elim (h pins s σ H x y v u Q I rx ry) (h' pins s σ H x y v u Q I rx ry)
theorem aP.imp(h:aP X f r)(g:∀x H Q,r' x H Q->r x H Q):aP X f r':=λpins s σ H xs us Q I rx q=>h pins s σ H xs us Q I rx (g _ _ _ q)
theorem aP.or(h:aP X f r)(h':aP X f r'):aP X f (λx H Q=>r x H Q\/r' x H Q):=λpins s σ H xs us Q I rx q=>
 q.elim (h pins s σ H xs us Q I rx) (h' pins s σ H xs us Q I rx)
theorem Aft.refl(R:Rel K m S H):Aft K m H S m H:=⟨Ext.refl m H,R⟩
theorem Aft.trans(x:Aft K m H S1 m1 H1)(y:Aft K m1 H1 S2 m2 H2):Aft K m H S2 m2 H2:=⟨x.ext.trans y.ext,y.rel⟩
def rS(K:W6)(f:D->D->Sto->Option (D × Sto)):R2:=λv w H Q=>∃m S a b d S',Rel K m S H/\VD K m H a v/\VD K m H b w/\f a b S=some (d,S')/\∀m' H' u,Aft K m H S' m' H'->VD K m' H' d u->Q u H'
def rS1(K:W6)(f:D->Sto->Option (D × Sto)):V->Hp->VK->Prop:=λv H Q=>∃m S a d S',Rel K m S H/\VD K m H a v/\f a S=some (d,S')/\∀m' H' u,Aft K m H S' m' H'->VD K m' H' d u->Q u H'
def rSA(K:W6)(f:List D->Sto->Option (D × Sto)):List V->Hp->VK->Prop:=λvs H Q=>∃m S as d S',Rel K m S H/\VDs K m H as vs/\f as S=some (d,S')/\∀m' H' u,Aft K m H S' m' H'->VD K m' H' d u->Q u H'
def rSq(K:W6)(f:Bool->List D->Sto->Option (D × Sto)):V->Hp->VK->Prop:=λv H Q=>∃m S tu ds a vs d S',Rel K m S H/\v = .ref a/\SqB K tu H a vs/\VDs K m H ds vs/\f tu ds S=some (d,S')/\∀m' H' u,Aft K m H S' m' H'->VD K m' H' d u->Q u H'
abbrev rH(f:D->D->Sto->Option (D × Sto))(x y:XE):XE:=λρ S=>bnd (x ρ S) λa S1=>bnd (y ρ S1) λb S2=>f a b S2
abbrev xUn(f:D->Sto->Option (D × Sto))(x:XE):XE:=λρ S=>bnd (x ρ S) λa S1=>f a S1
abbrev kJ(f:List D->Sto->Option (D × Sto))(x:XA):XE:=λρ S=>bnd (x ρ S) λa S1=>f a S1
abbrev nW(f:Bool->List D->Sto->Option (D × Sto))(x:XA):XE:=λρ S=>bnd (x ρ S) λds S1=>f false ds S1
abbrev ao(d:D)(S:Sto):Option (Bool × List D):=match d with
 |.tup ds=>some (true,ds)
 |.ref n=>(aq S n).map λds=>(false,ds)
 |_=>none
abbrev av(f:Bool->List D->Sto->Option (D × Sto))(d:D)(S:Sto):Option (D × Sto):=match ao d S with
 |some r=>f r.1 r.2 S
 |none=>none
abbrev nX(f:Bool->List D->Sto->Option (D × Sto))(x:XE):XE:=λρ S=>bnd (x ρ S) λd S1=>av f d S1
theorem qd{f:D->D->Sto->Option (D × Sto)}{x y:XE}{σ:L2.St}{H:Hp}{Q:VK}(h:tE K (rH f x y) σ H Q):tOp (rS K f) (tE K x) (tE K y) σ H Q:=by
 show 1;obtain⟨a,S1,e1,e⟩:=ai e;obtain⟨b,S2,e2,e⟩:=ai e;refine⟨m,ρ,S,a,S1,E,R,e1,λm1 H1 v A1 va=>⟨m1,ρ,S1,b,S2,E.mono R A1.ext,A1.rel,e2,λm2 H2 w A2 vb=>?_⟩⟩;exact⟨m2,S2,a,b,d,S',A2.rel,va.mono A1.rel A2.ext,vb,e,λm3 H3 u A3 vd=>q m3 H3 u ((A1.trans A2).trans A3) vd⟩
theorem Ag{f:D->Sto->Option (D × Sto)}{x:XE}{σ:L2.St}{H:Hp}{Q:VK}(h:tE K (xUn f x) σ H Q):tUn (rS1 K f) (tE K x) σ H Q:=by
 show 1;obtain⟨a,S1,e1,e⟩:=ai e;exact⟨m,ρ,S,a,S1,E,R,e1,λm1 H1 v A1 va=>⟨m1,S1,a,d,S',A1.rel,va,e,λm3 H3 u A3 vd=>q m3 H3 u (A1.trans A3) vd⟩⟩
theorem Ah{f:List D->Sto->Option (D × Sto)}{x:XA}{σ:L2.St}{H:Hp}{Q:VK}(h:tE K (kJ f x) σ H Q):tCB (rSA K f) (tAr K x) σ H Q:=by
 show 1;obtain⟨a,S1,e1,e⟩:=ai e;exact⟨m,ρ,S,a,S1,E,R,e1,λm1 H1 v A1 va=>⟨m1,S1,a,d,S',A1.rel,va,e,λm3 H3 u A3 vd=>q m3 H3 u (A1.trans A3) vd⟩⟩
theorem Jv{f:Bool->List D->Sto->Option (D × Sto)}{x:XA}{σ:L2.St}{H:Hp}{Q:VK}(h:tE K (nW f x) σ H Q):tUn (rSq K f) (eO K x) σ H Q:=by
 show 1;obtain⟨ds,S1,e1,e⟩:=ai e;exact⟨m,ρ,S,ds,S1,E,R,e1,λm1 H1 a vs A1 sq _ _ _ vd=>⟨m1,S1,false,ds,a,vs,d,S',A1.rel,rfl,show SqL K H1 a vs from SqL.of sq,vd,e,λm3 H3 u A3 vd=>q m3 H3 u (A1.trans A3) vd⟩⟩
abbrev ya(i:Nat):XE:=λρ S=>match ρ[i]? with
 |some (some d)=>some (d,S)
 |_=>none
abbrev xC(d:D):XE:=λ_ S=>some (d,S)
theorem Jw{i:Nat}(h:tE K (ya i) σ H Q):Dt i σ H Q:=by
 show 1;unfold ya at e;cases hr:ρ[i]? with
 |none=>rw[hr] at e;cases e
 |some o=>
  rw[hr] at e;cases o with
  |none=>cases e
  |some d'=>
   cases e;obtain⟨v,e1,vd⟩:=E.at_ i d hr;exact⟨v,e1,q m H v (Aft.refl R) vd⟩
theorem Ai(hv:∀m H,VD K m H d v)(h:tE K (xC d) σ H Q):tC v σ H Q:=by
 obtain⟨m,ρ,S,d',S',E,R,e,q⟩:=h;cases e;exact q m H v (Aft.refl R) (hv m H)
theorem lY:VD K m H .non .non:=by rw[VD]
theorem bN:VD K m H (.bl b) (.bl b):=by rw[VD]
theorem aX{i:Int}:VD K m H (.int i) (.int i):=by rw[VD]
theorem lZ:VD K m H (.str x) (.str x):=by rw[VD]
theorem qe(h:H a=some (.tup vs))(q:VDs K m H ds vs):VD K m H (.tup ds) (.ref a):=by rw[VD];exact⟨a,vs,rfl,h,q⟩
theorem VD.ints{i:Int}(h:VD K m H (.int i) v):v = .int i:=by rw[VD] at h;exact h
theorem VD.bls(h:VD K m H (.bl i) v):v = .bl i:=by rw[VD] at h;exact h
theorem VD.strs(h:VD K m H (.str i) v):v = .str i:=by rw[VD] at h;exact h
theorem VD.nons(h:VD K m H .non v):v = .non:=by rw[VD] at h;exact h
theorem VD.tups(h:VD K m H (.tup ds) v):∃a vs,v = .ref a/\H a=some (.tup vs)/\VDs K m H ds vs:=by rw[VD] at h;exact h
theorem VD.refs{n:Nat}(h:VD K m H (.ref n) v):∃a,m[n]?=some a/\v = .ref a:=by rw[VD] at h;exact h
abbrev D9:XA:=λ_ S=>some ([],S)
abbrev v9(x:XE)(y:XA):XA:=λρ S=>bnd (x ρ S) λa S1=>bnd (y ρ S1) λas S2=>some (a::as,S2)
theorem Jx(h:tAr K D9 σ H Q):jw σ H Q:=by
 obtain⟨m,ρ,S,d',S',E,R,e,q⟩:=h;cases e;exact q m H [] (Aft.refl R) .nil
theorem Ea{x:XE}{y:XA}{σ:L2.St}{H:Hp}{Q:List V->Hp->Prop}(h:tAr K (v9 x y) σ H Q):cP (tE K x) (tAr K y) σ H Q:=by
 obtain⟨m,ρ,S,d',S',E,R,e,q⟩:=h;obtain⟨a,S1,e1,e⟩:=ai e;obtain⟨b,S2,e2,e⟩:=ai e;cases e;refine⟨m,ρ,S,a,S1,E,R,e1,λm1 H1 v A1 va=>⟨m1,ρ,S1,b,_,E.mono R A1.ext,A1.rel,e2,λm2 H2 w A2 vb=>?_⟩⟩;exact q m2 H2 _ (A1.trans A2) (.cons (va.mono A1.rel A2.ext) vb)
abbrev kK(ds:List D)(S:Sto):Option (D × Sto):=if ds.length<=1000 then some (.tup ds,S) else none
theorem l4{n:Nat}(h:n<=1000):n<=sizeLine:=by rw[Ua];lia
theorem kQ{ds:List D}{vs:List V}{Q:VK}(R:Rel K m S H)(vd:VDs K m H ds vs)(q:∀m' H' u,Aft K m H S m' H'->VD K m' H' (.tup ds) u->Q u H'):∀p,H p=none->Q (.ref p) (upd H p (.tup vs)):=λp hp=>
 q m _ _ ⟨Ext.beside R hp _,R.beside hp _⟩ (qe aJ (vd.mono R (Ext.beside R hp _)))
theorem qf{ds:List D}{vs:List V}{Q:VK}(R:Rel K m S H)(vd:VDs K m H ds vs)(q:∀m' H' u,Aft K m H (S++[.lst ds]) m' H'->VD K m' H' (.ref S.length) u->Q u H'):∀p,H p=none->Q (.ref p) (upd H p (.lst vs)):=λp hp=>by
 have x:=Ext.beside R hp (.lst vs);refine q (m++[p]) _ _ ⟨x.adopt hp,(R.beside hp _).adopt (R.no hp) aJ (vd.mono R x)⟩ ?_;rw[VD];exact⟨p,by rw[Zs (by rw[R.len];exact Ze _),R.len,Yx];rfl,rfl⟩
theorem kR{ds:List D}{vs:List V}{Q:VK}(R:Rel K m S H)(vd:VDs K m H ds vs)(q:∀m' H' a vs,Aft K m H S m' H'->H' a=some (.lst vs)->a ∉ m'->(∀b,b ∈ m->b ≠ a)->H a=none->VDs K m' H' ds vs->Q (.ref a) H'):∀p,H p=none->Q (.ref p) (upd H p (.lst vs)):=λp hp=>
 q m _ _ _ ⟨Ext.beside R hp _,R.beside hp _⟩ aJ (R.no hp) (λb hb z=>R.no hp (z ▸ hb)) hp (vd.mono R (Ext.beside R hp _))
theorem Jy{x:XA}{σ:L2.St}{H:Hp}{Q:VK}(h:tE K (kJ kK x) σ H Q):NH (tAr K x) σ H Q:=by
 obtain⟨m,ρ,S,d',S',E,R,e,q⟩:=h;obtain⟨a,S1,e1,e⟩:=ai e;unfold kK at e;split at e
 ·rename_i hl;cases e;exact⟨m,ρ,S,a,_,E,R,e1,λm1 H1 vs A1 va=>⟨l4 (by rw[<-va.length];exact hl),kQ A1.rel va λm' H' u A2 vu=>q m' H' u (A1.trans A2) vu⟩⟩
 ·cases e
abbrev oK(x:XA):XA:=λρ S=>bnd (x ρ S) λds S1=>if ds.length<=1000 then some (ds,S1) else none
theorem Eb{x:XA}{σ:L2.St}{H:Hp}{Q:VK}(h:eO K (oK x) σ H Q):NI (tAr K x) σ H Q:=by
 obtain⟨m,ρ,S,ds,S',E,R,e,q⟩:=h;obtain⟨a,S1,e1,e⟩:=ai e;split at e
 ·rename_i hl;cases e;refine⟨m,ρ,S,_,_,E,R,e1,λm1 H1 vs A1 va=>⟨l4 (by rw[<-va.length];exact hl),kR A1.rel va λm' H' u us A2 sq n1 n2 n3 vu=>?_⟩⟩
  have hn:H u=none:=by
   cases e:H u with
   |none=>rfl
   |some o=>
    by_cases hm:u ∈ m
    ·exact absurd rfl (n2 u (A1.ext.pre.subset hm))
    ·have:=A1.ext.keep u o e hm;rw[this] at n3;cases n3
  exact q m' H' u us (A1.trans A2) sq n1 (λb hb=>n2 b (A1.ext.pre.subset hb)) hn vu
 ·cases e
theorem ek{d:D}{v:V}{tu:Bool}{ds:List D}(R:Rel K m S H)(vd:VD K m H d v)(e:ao d S=some (tu,ds)):∃a vs,v = .ref a/\SqB K tu H a vs/\VDs K m H ds vs:=by
 unfold ao at e;cases d with
 |tup es=>
  cases e;obtain⟨a,vs,e,q,r⟩:=vd.tups;exact⟨a,vs,e,q,r⟩
 |ref n=>
  obtain⟨a,ha,ev⟩:=vd.refs;cases hs:aq S n with
  |none=>simp[hs] at e
  |some es=>
   simp[hs] at e;obtain⟨rfl,rfl⟩:=e;obtain⟨b,vs,hb,q,r⟩:=R.seq hs;rw[ha] at hb;cases hb;exact⟨a,vs,ev,q,r⟩
 |_=>cases e
theorem Jz{f:Bool->List D->Sto->Option (D × Sto)}{x:XE}{σ:L2.St}{H:Hp}{Q:VK}(h:tE K (nX f x) σ H Q):tUn (rSq K f) (tE K x) σ H Q:=by
 show 1;obtain⟨a,S1,e1,e⟩:=ai e;refine⟨m,ρ,S,a,S1,E,R,e1,λm1 H1 v A1 va=>?_⟩;unfold av at e;split at e
 ·rename_i r hi;obtain⟨b,vs,ev,sq,vds⟩:=ek (tu:=r.1) (ds:=r.2) A1.rel va hi;exact⟨m1,S1,r.1,r.2,b,vs,d,S',A1.rel,ev,sq,vds,e,λm3 H3 u A3 vd=>q m3 H3 u (A1.trans A3) vd⟩
 ·cases e
abbrev dH(x:XA):XE:=λρ S=>bnd (x ρ S) λds S1=>some (.ref S1.length,S1++[.lst ds])
theorem rJ{x:XA}{σ:L2.St}{H:Hp}{Q:VK}(h:tE K (dH x) σ H Q):eO K x σ H Q:=by
 show 1;obtain⟨ds,S1,e1,e⟩:=ai e;cases e;refine⟨m,ρ,S,ds,S1,E,R,e1,λm1 H1 a vs A1 sq n1 n2 n3 vd=>?_⟩;refine q (m1++[a]) H1 _ ⟨⟨A1.ext.pre.trans (Yw _ _),A1.ext.keep,λb hb nb=>?_⟩,A1.rel.adopt n1 sq vd⟩ ?_
 ·rcases ZG.mp hb with z |z
  ·exact A1.ext.new b z nb
  ·simp at z;subst z;exact n3
 ·rw[VD];exact⟨a,by rw[Zs (by rw[A1.rel.len];exact Ze _),A1.rel.len,Yx];rfl,rfl⟩
end
end Ev
namespace PySem.SeqAt
open AutoSeq1 (wpAny_loadPart')
open MeetsSeq MeetsSeq2 MeetsSeq3
theorem uc(l b:Addr)(items:Array Value)(n:Nat)(dd:Option Addr)(sl:Array (Option Value))(o:Obj)(hc:o.cls = .type "dict") :
  Meets (Builtin.«list.__ne__» ⟨[.ref l,.ref b],[]⟩) (λ_ R s=>s.heap.get? l=some { cls:=.type "list", dict:=dd,data:=.seq items n,slots:=sl }/\s.heap.get? b=some o/\R (.ok (.ret .notImplemented)) s):=
 .of_wp λprog w A R s h=>by
  obtain⟨hp,g,d,tk,os⟩:=s;obtain⟨hl,hb,h⟩:=h;obtain⟨cls,d2,dt,s2⟩:=o;simp only at hc;subst hc;have f1:=F.sub_dict_list
  wp_walk using UA hl,UA hb
  exact⟨_,rfl,h⟩
theorem ud(l b:Addr)(items:Array Value)(n:Nat)(dd:Option Addr)(sl:Array (Option Value))(o:Obj)(hc:o.cls = .type "dict") :
  Meets (Builtin.«dict.__ne__» ⟨[.ref b,.ref l],[]⟩) (λ_ R s=>s.heap.get? l=some { cls:=.type "list", dict:=dd,data:=.seq items n,slots:=sl }/\s.heap.get? b=some o/\R (.ok (.ret .notImplemented)) s):=
 .of_wp λprog w A R s h=>by
  obtain⟨hp,g,d,tk,os⟩:=s;obtain⟨hl,hb,h⟩:=h;obtain⟨cls,d2,dt,s2⟩:=o;simp only at hc;subst hc;have f1:=F.sub_list_dict
  wp_walk using UA hl,UA hb
  exact⟨_,rfl,h⟩
theorem dict_list(hb:s.heap.get? b=some o)(hc2:o.cls = .type "dict")(hl:s.heap.IsList l items)(hu:A.units < cLine):RcNeAt A s (.ref b) (.ref l) true:=λprog w E Q h=>by
 obtain⟨⟨cls,dd,data,sl⟩,ho,hc,n,hd⟩:=id hl;simp only at hc hd;subst hc hd;have hne:b ≠ l:=λe=>by subst e;rw[ho] at hb;cases hb;exact absurd hc2 (by simp)
 exact(rc_ne_decline_or (k:=false) ⟨_,hb,hc2⟩ ⟨_,ho,rfl⟩ (by decide) F.sub_list_dict F.slot_dict_ne WH
  (λ_ hq=>VC F.slot_dict_ne ⟨_,hb,hc2⟩ F.entry_dict_ne (F.args_dict_ne_2 _ _) (ud l b items n dd sl o hc2) ⟨ho,hb,hq⟩)
  (λ_ hq=>VC WH ⟨_,ho,rfl⟩ F.entry_list_ne (F.args_list_ne_2 _ _) (uc l b items n dd sl o hc2) ⟨ho,hb,hq⟩)
  (λ_ hq=>wpAny_isSame_ref_other' hne hb ho (by simp) hq) (.inr hu) h)
end PySem.SeqAt
namespace Ev
open PySem PySem.Spec PyProof.Rows L2
abbrev eqL(f:D->D->Option Bool):List D->List D->Option Bool
 |[],[]=>some true
 |[],_::_=>some false
 |_::_,[]=>some false
 |x::xs,y::ys=>match f x y,eqL f xs ys with
  |some a,some b=>some (a && b)
  |_,_=>none
abbrev eqD:Nat->Sto->D->D->Option Bool
 |0,_,_,_=>none
 |n+1,S,x,y=>match x,y with
  |.non,.non=>some true
  |.bl a,.bl b=>some (a == b)
  |.int a,.int b=>some (a == b)
  |.str a,.str b=>some (a == b)
  |.bl a,.int b=>some ((if a then 1 else 0) == b)
  |.int a,.bl b=>some (a == (if b then 1 else 0))
  |.tup xs,.tup ys=>eqL (eqD n S) xs ys
  |.ref a,.ref b=>match aq S a,aq S b with
   |some xs,some ys=>if a=b then some true else if xs.length=ys.length then eqL (eqD n S) xs ys else some false
   |_,_=>none
  |.tup _,.ref b=>match aq S b with
   |some _=>some false
   |none=>none
  |.ref a,.tup _=>match aq S a with
   |some _=>some false
   |none=>none
  |.ref a,_=>match aq S a with
   |some _=>some false
   |none=>none
  |_,.ref a=>match aq S a with
   |some _=>some false
   |none=>none
  |_,_=>some false
section
variable {X:Cx} {K:W6} {m:List Addr} {H:Hp} {S:Sto}
theorem rK:∀ {xs ys:List D} {b:Bool},eqL f xs ys=some b->∃g:Nat->Bool,(∀j x y,xs[j]?=some x->ys[j]?=some y->f x y=some (g j))/\b=((Zj (min xs.length ys.length)).all g && xs.length == ys.length)
 |[],[],b,h=>by simp[eqL] at h;exact⟨λ_=>true,λj x y e=>by simp at e,by simp[<-h]⟩
 |[],_::_,b,h=>by simp[eqL] at h;exact⟨λ_=>true,λj x y e=>by simp at e,by simp[<-h]⟩
 |_::_,[],b,h=>by simp[eqL] at h;exact⟨λ_=>true,λj x y _ e=>by simp at e,by simp[<-h]⟩
 |x::xs,y::ys,b,h=>by
  simp only[eqL] at h;cases h1:f x y with
  |none=>simp[h1] at h
  |some a=>
   cases h2:eqL f xs ys with
   |none=>simp[h1,h2] at h
   |some c=>
    simp[h1,h2] at h;obtain⟨g,hg,hc⟩:=rK h2;refine⟨λj=>match j with |0=>a |j+1=>g j,λj x' y' e1 e2=>?_,?_⟩
    ·cases j with
     |zero=>simp at e1 e2;subst e1 e2;exact h1
     |succ j=>simp at e1 e2;exact hg j x' y' e1 e2
    ·rw[<-h,hc];simp only[ZE,Nat.succ_min_succ,List.range_succ_eq_map,Yb,Yy];rw[Bool.and_assoc]
     congr 1
     rw[show(xs.length+1 == ys.length+1)=(xs.length == ys.length) by simp];rfl
theorem Ec(I:Inv X pins σ H s)(h1:H a=some (.tup xs))(h2:H a=some (.tup ys)):xs=ys:=by
 rw[h1] at h2;cases h2;rfl
theorem yb(nd:m.Nodup){i j:Nat}(h1:m[i]?=some a)(h2:m[j]?=some a):i=j:=by
 obtain⟨p1,q1⟩:=Zc.mp h1;obtain⟨p2,q2⟩:=Zc.mp h2;exact(YK nd).mp (q1.trans q2.symm)
theorem rL(I:Inv X pins σ H s)(R:Rel X.K m S H):∀ (n:Nat) {x y:D} {v:V} {b:Bool},VD X.K m H x v->VD X.K m H y v->eqD n S x y=some b->b=true
 |0,_,_,_,_,_,_,h=>by simp[eqD] at h
 |n+1,x,y,v,b,h1,h2,h=>by
  have lists:∀ {xs ys:List D} {vs:List V} {b:Bool},VDs X.K m H xs vs->VDs X.K m H ys vs->eqL (eqD n S) xs ys=some b->b=true:=by
   intro xs
   induction xs with
   |nil=>
    intro ys vs b p q e;have l1:=p.length;have l2:=q.length;cases ys with
    |nil=>simp[eqL] at e;simp_all
    |cons _ _=>simp at l1 l2;lia
   |cons x xs ih=>
    intro ys vs b p q e;have l1:=p.length;have l2:=q.length;cases ys with
    |nil=>simp at l1 l2;lia
    |cons y ys=>
     rw[VDs] at p q;obtain⟨a,r,e1,p1,p2⟩:=p;obtain⟨a',r',e2,q1,q2⟩:=q;rw[e1] at e2;cases e2;simp only[eqL] at e;cases f1:eqD n S x y with
     |none=>simp[f1] at e
     |some c=>
      cases f2:eqL (eqD n S) xs ys with
      |none=>simp[f1,f2] at e
      |some d=>
       simp[f1,f2] at e;rw[<-e,rL I R n p1 q1 f1,ih p2 q2 f2];rfl
  cases x with
  |non=>cases h1.nons;cases y <;> simp[VD] at h2 <;> simp[eqD] at h <;> simp[h]
  |bl a=>cases h1.bls;cases y <;> simp[VD] at h2 <;> simp[eqD] at h <;> simp_all
  |int a=>cases h1.ints;cases y <;> simp[VD] at h2 <;> simp[eqD] at h <;> simp_all
  |str a=>cases h1.strs;cases y <;> simp[VD] at h2 <;> simp[eqD] at h <;> simp_all
  |tup xs=>
   obtain⟨a,vs,e,sq,p⟩:=h1.tups;subst e;cases y with
   |tup ys=>
    obtain⟨a',vs',e',sq',q⟩:=h2.tups;cases e';have:=Ec I sq sq';subst this;show 10;exact lists p q h
   |ref k=>
    obtain⟨a',ha,e'⟩:=h2.refs;cases e';have z:a ∈ m:=Zh ha;exact absurd z (R.notTup sq)
   |non=>cases h2.nons
   |bl _=>cases h2.bls
   |int _=>cases h2.ints
   |str _=>cases h2.strs
  |ref k=>
   obtain⟨a,ha,e⟩:=h1.refs;subst e;cases y with
   |ref k'=>
    obtain⟨a',ha',e'⟩:=h2.refs;cases e';have:=yb R.nd ha ha';subst this;show 10;cases hs:aq S k with
    |none=>rw[hs] at h;cases h
    |some es=>rw[hs] at h;simp at h;exact h.symm ▸ rfl
   |tup ys=>
    obtain⟨a',vs',e',sq,q⟩:=h2.tups;cases e';have z:a ∈ m:=Zh ha;exact absurd z (R.notTup sq)
   |non=>cases h2.nons
   |bl _=>cases h2.bls
   |int _=>cases h2.ints
   |str _=>cases h2.strs
theorem qg(p:VDs K m H xs vs)(r:aN vs its){j:Nat}(hj:j < its.toArray.size):∃x v,xs[j]?=some x/\VD K m H x v/\aI v its.toArray[j]:=by
 have hj':j < its.length:=by simpa using hj
 have l1:=p.length;have l2:=r.length;obtain⟨v,hv,vd⟩:=p.get (i:=j) (d:=xs[j]'(by lia)) (gEG _);obtain⟨u,hu,ru⟩:=r.get hv;refine⟨_,v,gEG (by lia),vd,?_⟩;have e:its[j]?=some its[j]:=gEG hj';rw[e] at hu;cases hu
 simpa using ru
@[inline]abbrev JA(X:Cx)(m:List Addr)(H:Hp)(S:Sto)(s:Shared)(n:Nat):Prop:=∀ (A:Around) (x y:D) (v w:V) (u u':Value) (b:Bool),VD X.K m H x v->VD X.K m H y w->aI v u->aI w u'->eqD n S x y=some b->A.units+n < cLine->WY A s u u' b
theorem rN{pins:List (Addr × Obj)}{σ:L2.St}{s:Shared}{n:Nat}(ih:JA X m H S s n){A:Around}{xs ys:List D}{vs ws:List V}{i1 i2:List Value}{b:Bool}(p:VDs X.K m H xs vs)(q:VDs X.K m H ys ws)(r1:aN vs i1)(r2:aN ws i2)
  (h:eqL (eqD n S) xs ys=some b) (hu:A.units+(n+1) < cLine):∃g:Nat->Bool,(∀j (h1:j < i1.toArray.size) (h2:j < i2.toArray.size),WY A.in1 s i1.toArray[j] i2.toArray[j] (g j))/\b=((Zj (min i1.toArray.size i2.toArray.size)).all g && i1.toArray.size == i2.toArray.size):=by
 obtain⟨g,hg,hb⟩:=rK h;have l1:i1.toArray.size=xs.length:=by rw[Zl,<-r1.length,<-p.length]
 have l2:i2.toArray.size=ys.length:=by rw[Zl,<-r2.length,<-q.length]
 refine⟨g,λj h1 h2=>?_,by rw[hb,l1,l2]⟩;obtain⟨x,v,e1,v1,ru1⟩:=qg p r1 h1;obtain⟨y,w,e2,v2,ru2⟩:=qg q r2 h2;exact ih _ _ _ _ _ _ _ _ v1 v2 ru1 ru2 (hg j x y e1 e2) (by show A.units+1+n < cLine;lia)
theorem Aj{n:Nat}:(Zj n).all (λ_=>true)=true:=by simp
theorem Ak{pins:List (Addr × Obj)}{σ:L2.St}{s:Shared}(I:Inv X pins σ H s)(R:Rel X.K m S H){n:Nat}(ih:JA X m H S s n){A:Around}{x y:D}{a a':Addr}{b:Bool}(hx:VD X.K m H x (.ref a))(hy:VD X.K m H y (.ref a'))(h:eqD (n+1) S x y=some b)(hu:A.units+(n+1) < cLine) :
  WZ A s (.ref a) (.ref a') b/\W0 A s (.ref a) (.ref a') (!b):=by
 have hu0:A.units < cLine:=by lia
 cases x with
 |non=>cases hx.nons
 |bl _=>cases hx.bls
 |int _=>cases hx.ints
 |str _=>cases hx.strs
 |tup xs=>
  obtain⟨_,vs,e,sq,p⟩:=hx.tups;cases e;obtain⟨i1,r1,t1,_⟩:=I.tuple (.of sq);cases y with
  |non=>cases hy.nons
  |bl _=>cases hy.bls
  |int _=>cases hy.ints
  |str _=>cases hy.strs
  |tup ys=>
   obtain⟨_,ws,e,sq',q⟩:=hy.tups;cases e;obtain⟨i2,r2,t2,_⟩:=I.tuple (.of sq');show 10;obtain⟨g,hg,hb⟩:=rN (pins:=pins) (σ:=σ) ih p q r1 r2 h hu;rw[hb];exact⟨SeqAt.RcAt.tuples t1 t2 hu0 hg,PySem.SeqAt.RcNeAt.tuples t1 t2 hu0 hg⟩
  |ref k=>
   show 10;cases hs:aq S k with
   |none=>rw[hs] at h;cases h
   |some es=>
    rw[hs] at h;cases h;obtain⟨b',ws,hb,sq',q⟩:=R.seq hs;obtain⟨c,hc,ec⟩:=hy.refs;cases ec;rw[hb] at hc;cases hc;obtain⟨i2,r2,t2,_⟩:=I.list sq';exact⟨SeqAt.RcAt.tuple_list t1 t2.isList hu0,PySem.SeqAt.RcNeAt.tuple_list t1 t2.isList hu0⟩
 |ref k=>
  obtain⟨c,hc,ec⟩:=hx.refs;cases ec;cases y with
  |non=>cases hy.nons
  |bl _=>cases hy.bls
  |int _=>cases hy.ints
  |str _=>cases hy.strs
  |tup ys=>
   obtain⟨_,ws,e,sq',q⟩:=hy.tups;cases e;obtain⟨i2,r2,t2,_⟩:=I.tuple (.of sq');show 10;cases hs:aq S k with
   |none=>rw[hs] at h;cases h
   |some es=>
    rw[hs] at h;cases h;obtain⟨b',vs,hb,sq,p⟩:=R.seq hs;rw[hb] at hc;cases hc;obtain⟨i1,r1,t1,_⟩:=I.list sq;exact⟨SeqAt.RcAt.list_tuple t1.isList t2 hu0,PySem.SeqAt.RcNeAt.list_tuple t1.isList t2 hu0⟩
  |ref k'=>
   obtain⟨c',hc',ec'⟩:=hy.refs;cases ec';show 10;cases hs:aq S k with
   |none=>rw[hs] at h;cases h
   |some es=>
    cases hs':aq S k' with
    |none=>rw[hs,hs'] at h;cases h
    |some es'=>
     rw[hs,hs'] at h;dsimp only at h;obtain⟨b1,vs,hb,sq,p⟩:=R.seq hs;rw[hb] at hc;cases hc;obtain⟨b2,ws,hb',sq',q⟩:=R.seq hs';rw[hb'] at hc';cases hc';obtain⟨i1,r1,t1,_⟩:=I.list sq;obtain⟨i2,r2,t2,_⟩:=I.list sq';split at h
     ·rename_i hk;subst hk;rw[hb] at hb';cases hb';cases h;have z:=SeqAt.RcAt.lists (e:=λ_=>true) t1.isList t1.isList rfl hu0 λj h1 h2=>SeqAt.EqAt.same _;have z':=PySem.SeqAt.RcNeAt.lists (e:=λ_=>true) t1.isList t1.isList rfl hu0 λj h1 h2=>SeqAt.EqAt.same _;rw[Aj] at z z';exact⟨z,z'⟩
     ·have l1:i1.toArray.size=es.length:=by rw[Zl,<-r1.length,<-p.length]
      have l2:i2.toArray.size=es'.length:=by rw[Zl,<-r2.length,<-q.length]
      split at h
      ·rename_i hl;obtain⟨g,hg,hb3⟩:=rN (pins:=pins) (σ:=σ) ih p q r1 r2 h hu;have hsz:i1.toArray.size=i2.toArray.size:=by rw[l1,l2,hl]
       rw[hb3,<-hsz,Nat.min_self,beq_self_eq_true,Wa];exact⟨SeqAt.RcAt.lists t1.isList t2.isList hsz hu0 hg,PySem.SeqAt.RcNeAt.lists t1.isList t2.isList hsz hu0 hg⟩
      ·rename_i hl;cases h;have hsz:(i1.toArray.size != i2.toArray.size)=true:=by rw[l1,l2];simpa using hl
       exact⟨SeqAt.RcAt.lists_lengths t1.isList t2.isList hsz hu0,PySem.SeqAt.RcNeAt.lists_lengths t1.isList t2.isList hsz hu0⟩
theorem bh(I:Inv X pins σ H s)(R:Rel X.K m S H){k:Nat}(h:VD X.K m H (.ref k) v)(hs:aq S k=some es):∃a i,v = .ref a/\s.heap.IsList a i:=by
 obtain⟨c,hc,ec⟩:=h.refs;obtain⟨b1,vs,hb,sq,p⟩:=R.seq hs;rw[hb] at hc;cases hc;obtain⟨i1,r1,t1,_⟩:=I.list sq;exact⟨_,_,ec,t1.isList⟩
theorem bD(I:Inv X pins σ H s)(h:VD X.K m H (.tup es) v):∃a i,v = .ref a/\s.heap.IsTuple a i:=by
 obtain⟨a,vs,e,sq,p⟩:=h.tups;obtain⟨i1,r1,t1,_⟩:=I.tuple (.of sq);exact⟨_,_,e,t1⟩
theorem qh(I:Inv X pins σ H s)(R:Rel X.K m S H):∀n,JA X m H S s n
 |0=>λA x y v w u u' b h1 h2 r1 r2 h _=>by simp[eqD] at h
 |n+1=>λA x y v w u u' b h1 h2 r1 r2 h hu=>by
  have hu0:A.units < cLine:=by lia
  have seq:∀ {a a':Addr},v = .ref a->w = .ref a'->WY A s u u' b:=by
   intro a a' e e';subst e e';cases r1;cases r2;by_cases z:a=a'
   ·subst z;have:=rL I R (n+1) h1 h2 h;subst this;exact SeqAt.EqAt.same _
   ·exact SeqAt.EqAt.of_refs z (Ak I R (qh I R n) h1 h2 h hu).1
  cases x with
  |non=>
   cases h1.nons;cases r1;cases y with
   |non=>cases h2.nons;cases r2;show 2;exact SeqAt.EqAt.same _
   |bl j=>cases h2.bls;cases r2;show 2;exact SeqAt.EqAt.none_bool _
   |int j=>cases h2.ints;obtain⟨t,rfl⟩:=r2;show 2;exact SeqAt.EqAt.none_int _ _
   |str j=>cases h2.strs;obtain⟨t,rfl⟩:=r2;show 2;exact SeqAt.EqAt.none_str _ _
   |tup ys=>obtain⟨a,i,e,l⟩:=bD I h2;subst e;cases r2;show 2;exact SeqAt.EqAt.none_tuple l hu0
   |ref k=>
    show 10;cases hs:aq S k with
    |none=>rw[hs] at h;cases h
    |some es=>rw[hs] at h;cases h;obtain⟨a,i,e,l⟩:=bh I R h2 hs;subst e;cases r2;exact SeqAt.EqAt.none_list l hu0
  |bl i=>
   cases h1.bls;cases r1;cases y with
   |non=>cases h2.nons;cases r2;show 2;exact SeqAt.EqAt.bool_none _
   |bl j=>cases h2.bls;cases r2;show 10;cases h;exact SeqAt.EqAt.bool_bool _ _
   |int j=>cases h2.ints;obtain⟨t,rfl⟩:=r2;show 10;cases h;exact SeqAt.EqAt.bool_int _ _ _
   |str j=>cases h2.strs;obtain⟨t,rfl⟩:=r2;show 2;exact SeqAt.EqAt.bool_str _ _ _
   |tup ys=>obtain⟨a,i,e,l⟩:=bD I h2;subst e;cases r2;show 2;exact SeqAt.EqAt.bool_tuple _ l hu0
   |ref k=>
    show 10;cases hs:aq S k with
    |none=>rw[hs] at h;cases h
    |some es=>rw[hs] at h;cases h;obtain⟨a,i,e,l⟩:=bh I R h2 hs;subst e;cases r2;exact SeqAt.EqAt.bool_list _ l hu0
  |int i=>
   cases h1.ints;obtain⟨t1,rfl⟩:=r1;cases y with
   |non=>cases h2.nons;cases r2;show 2;exact SeqAt.EqAt.int_none _ _
   |bl j=>cases h2.bls;cases r2;show 10;cases h;exact SeqAt.EqAt.int_bool _ _ _
   |int j=>cases h2.ints;obtain⟨t,rfl⟩:=r2;show 10;cases h;exact SeqAt.EqAt.int_int _ _ _ _
   |str j=>cases h2.strs;obtain⟨t,rfl⟩:=r2;show 2;exact SeqAt.EqAt.int_str _ _ _ _
   |tup ys=>obtain⟨a,i,e,l⟩:=bD I h2;subst e;cases r2;show 2;exact SeqAt.EqAt.int_tuple _ _ l hu0
   |ref k=>
    show 10;cases hs:aq S k with
    |none=>rw[hs] at h;cases h
    |some es=>rw[hs] at h;cases h;obtain⟨a,i,e,l⟩:=bh I R h2 hs;subst e;cases r2;exact SeqAt.EqAt.int_list _ _ l hu0
  |str i=>
   cases h1.strs;obtain⟨t1,rfl⟩:=r1;cases y with
   |non=>cases h2.nons;cases r2;show 2;exact SeqAt.EqAt.str_none _ _
   |bl j=>cases h2.bls;cases r2;show 2;exact SeqAt.EqAt.str_bool _ _ _
   |int j=>cases h2.ints;obtain⟨t,rfl⟩:=r2;show 2;exact SeqAt.EqAt.str_int _ _ _ _
   |str j=>cases h2.strs;obtain⟨t,rfl⟩:=r2;show 10;cases h;exact SeqAt.EqAt.str_str _ _ _ _
   |tup ys=>obtain⟨a,i,e,l⟩:=bD I h2;subst e;cases r2;show 2;exact SeqAt.EqAt.str_tuple _ _ l hu0
   |ref k=>
    show 10;cases hs:aq S k with
    |none=>rw[hs] at h;cases h
    |some es=>rw[hs] at h;cases h;obtain⟨a,i,e,l⟩:=bh I R h2 hs;subst e;cases r2;exact SeqAt.EqAt.str_list _ _ l hu0
  |tup xs=>
   obtain⟨a,i,e,l⟩:=bD I h1;subst e;cases r1;cases y with
   |non=>cases h2.nons;cases r2;show 2;exact SeqAt.EqAt.tuple_none l hu0
   |bl j=>cases h2.bls;cases r2;show 2;exact SeqAt.EqAt.tuple_bool _ l hu0
   |int j=>cases h2.ints;obtain⟨t,rfl⟩:=r2;show 2;exact SeqAt.EqAt.tuple_int _ _ l hu0
   |str j=>cases h2.strs;obtain⟨t,rfl⟩:=r2;show 2;exact SeqAt.EqAt.tuple_str _ _ l hu0
   |tup ys=>obtain⟨a',i',e',l'⟩:=bD I h2;exact seq rfl e'
   |ref k=>obtain⟨c,hc,ec⟩:=h2.refs;exact seq rfl ec
  |ref k=>
   obtain⟨c,hc,ec⟩:=h1.refs;cases y with
   |tup ys=>obtain⟨a',i',e',l'⟩:=bD I h2;exact seq ec e'
   |ref k=>obtain⟨c,hc,ec'⟩:=h2.refs;exact seq ec ec'
   |non=>
    show 10;cases hs:aq S k with
    |none=>rw[hs] at h;cases h
    |some es=>rw[hs] at h;cases h;obtain⟨a,i,e,l⟩:=bh I R h1 hs;subst e;cases r1;cases h2.nons;cases r2;exact SeqAt.EqAt.list_none l hu0
   |bl j=>
    show 10;cases hs:aq S k with
    |none=>rw[hs] at h;cases h
    |some es=>rw[hs] at h;cases h;obtain⟨a,i,e,l⟩:=bh I R h1 hs;subst e;cases r1;cases h2.bls;cases r2;exact SeqAt.EqAt.list_bool _ l hu0
   |int j=>
    show 10;cases hs:aq S k with
    |none=>rw[hs] at h;cases h
    |some es=>rw[hs] at h;cases h;obtain⟨a,i,e,l⟩:=bh I R h1 hs;subst e;cases r1;cases h2.ints;obtain⟨t,rfl⟩:=r2;exact SeqAt.EqAt.list_int _ _ l hu0
   |str j=>
    show 10;cases hs:aq S k with
    |none=>rw[hs] at h;cases h
    |some es=>rw[hs] at h;cases h;obtain⟨a,i,e,l⟩:=bh I R h1 hs;subst e;cases r1;cases h2.strs;obtain⟨t,rfl⟩:=r2;exact SeqAt.EqAt.list_str _ _ l hu0
theorem NY(I:Inv X pins σ H s)(R:Rel X.K m S H)(n:Nat)(h1:VD X.K m H x v)(h2:VD X.K m H y w)(r1:aI v u)(r2:aI w u')(h:eqD (n+1) S x y=some b)(hu:A.units+(n+1) < cLine) :
  WZ A s u u' b/\W0 A s u u' (!b):=by
 have hu0:A.units < cLine:=by lia
 have seq:∀ {a a':Addr},v = .ref a->w = .ref a'->WZ A s u u' b/\W0 A s u u' (!b):=by
  intro a a' e e';subst e e';cases r1;cases r2;exact Ak I R (qh I R n) h1 h2 h hu
 cases x with
 |non=>
  cases h1.nons;cases r1;cases y with
  |non=>cases h2.nons;cases r2;show 2;exact⟨SeqAt.RcAt.none_none,PySem.SeqAt.RcNeAt.none_none⟩
  |bl j=>cases h2.bls;cases r2;show 2;exact⟨SeqAt.RcAt.none_bool _,PySem.SeqAt.RcNeAt.none_bool _⟩
  |int j=>cases h2.ints;obtain⟨t2,rfl⟩:=r2;show 2;exact⟨SeqAt.RcAt.none_int _ _,PySem.SeqAt.RcNeAt.none_int _ _⟩
  |str j=>cases h2.strs;obtain⟨t2,rfl⟩:=r2;show 2;exact⟨SeqAt.RcAt.none_str _ _,PySem.SeqAt.RcNeAt.none_str _ _⟩
  |tup ys=>obtain⟨a,i,e,l⟩:=bD I h2;subst e;cases r2;show 2;exact⟨SeqAt.RcAt.none_tuple l hu0,PySem.SeqAt.RcNeAt.none_tuple l hu0⟩
  |ref k=>
   show 10;cases hs:aq S k with
   |none=>rw[hs] at h;cases h
   |some es=>rw[hs] at h;cases h;obtain⟨a,i,e,l⟩:=bh I R h2 hs;subst e;cases r2;exact⟨SeqAt.RcAt.none_list l hu0,PySem.SeqAt.RcNeAt.none_list l hu0⟩
 |bl i=>
  cases h1.bls;cases r1;cases y with
  |non=>cases h2.nons;cases r2;show 2;exact⟨SeqAt.RcAt.bool_none _,PySem.SeqAt.RcNeAt.bool_none _⟩
  |bl j=>cases h2.bls;cases r2;show 10;cases h;exact⟨SeqAt.RcAt.bool_bool _ _,PySem.SeqAt.RcNeAt.bool_bool _ _⟩
  |int j=>cases h2.ints;obtain⟨t2,rfl⟩:=r2;show 10;cases h;exact⟨SeqAt.RcAt.bool_int _ _ _,PySem.SeqAt.RcNeAt.bool_int _ _ _⟩
  |str j=>cases h2.strs;obtain⟨t2,rfl⟩:=r2;show 2;exact⟨SeqAt.RcAt.bool_str _ _ _,PySem.SeqAt.RcNeAt.bool_str _ _ _⟩
  |tup ys=>obtain⟨a,i,e,l⟩:=bD I h2;subst e;cases r2;show 2;exact⟨SeqAt.RcAt.bool_tuple _ l hu0,PySem.SeqAt.RcNeAt.bool_tuple _ l hu0⟩
  |ref k=>
   show 10;cases hs:aq S k with
   |none=>rw[hs] at h;cases h
   |some es=>rw[hs] at h;cases h;obtain⟨a,i,e,l⟩:=bh I R h2 hs;subst e;cases r2;exact⟨SeqAt.RcAt.bool_list _ l hu0,PySem.SeqAt.RcNeAt.bool_list _ l hu0⟩
 |int i=>
  cases h1.ints;obtain⟨t1,rfl⟩:=r1;cases y with
  |non=>cases h2.nons;cases r2;show 2;exact⟨SeqAt.RcAt.int_none _ _,PySem.SeqAt.RcNeAt.int_none _ _⟩
  |bl j=>cases h2.bls;cases r2;show 10;cases h;exact⟨SeqAt.RcAt.int_bool _ _ _,PySem.SeqAt.RcNeAt.int_bool _ _ _⟩
  |int j=>cases h2.ints;obtain⟨t2,rfl⟩:=r2;show 10;cases h;exact⟨SeqAt.RcAt.int_int _ _ _ _,PySem.SeqAt.RcNeAt.int_int _ _ _ _⟩
  |str j=>cases h2.strs;obtain⟨t2,rfl⟩:=r2;show 2;exact⟨SeqAt.RcAt.int_str _ _ _ _,PySem.SeqAt.RcNeAt.int_str _ _ _ _⟩
  |tup ys=>obtain⟨a,i,e,l⟩:=bD I h2;subst e;cases r2;show 2;exact⟨SeqAt.RcAt.int_tuple _ _ l hu0,PySem.SeqAt.RcNeAt.int_tuple _ _ l hu0⟩
  |ref k=>
   show 10;cases hs:aq S k with
   |none=>rw[hs] at h;cases h
   |some es=>rw[hs] at h;cases h;obtain⟨a,i,e,l⟩:=bh I R h2 hs;subst e;cases r2;exact⟨SeqAt.RcAt.int_list _ _ l hu0,PySem.SeqAt.RcNeAt.int_list _ _ l hu0⟩
 |str i=>
  cases h1.strs;obtain⟨t1,rfl⟩:=r1;cases y with
  |non=>cases h2.nons;cases r2;show 2;exact⟨SeqAt.RcAt.str_none _ _,PySem.SeqAt.RcNeAt.str_none _ _⟩
  |bl j=>cases h2.bls;cases r2;show 2;exact⟨SeqAt.RcAt.str_bool _ _ _,PySem.SeqAt.RcNeAt.str_bool _ _ _⟩
  |int j=>cases h2.ints;obtain⟨t2,rfl⟩:=r2;show 2;exact⟨SeqAt.RcAt.str_int _ _ _ _,PySem.SeqAt.RcNeAt.str_int _ _ _ _⟩
  |str j=>cases h2.strs;obtain⟨t2,rfl⟩:=r2;show 10;cases h;exact⟨SeqAt.RcAt.str_str _ _ _ _,PySem.SeqAt.RcNeAt.str_str _ _ _ _⟩
  |tup ys=>obtain⟨a,i,e,l⟩:=bD I h2;subst e;cases r2;show 2;exact⟨SeqAt.RcAt.str_tuple _ _ l hu0,PySem.SeqAt.RcNeAt.str_tuple _ _ l hu0⟩
  |ref k=>
   show 10;cases hs:aq S k with
   |none=>rw[hs] at h;cases h
   |some es=>rw[hs] at h;cases h;obtain⟨a,i,e,l⟩:=bh I R h2 hs;subst e;cases r2;exact⟨SeqAt.RcAt.str_list _ _ l hu0,PySem.SeqAt.RcNeAt.str_list _ _ l hu0⟩
 |tup xs=>
  obtain⟨a,i,e,l⟩:=bD I h1;cases y with
  |non=>subst e;cases r1;cases h2.nons;cases r2;show 2;exact⟨SeqAt.RcAt.tuple_none l hu0,PySem.SeqAt.RcNeAt.tuple_none l hu0⟩
  |bl j=>subst e;cases r1;cases h2.bls;cases r2;show 2;exact⟨SeqAt.RcAt.tuple_bool _ l hu0,PySem.SeqAt.RcNeAt.tuple_bool _ l hu0⟩
  |int j=>subst e;cases r1;cases h2.ints;obtain⟨t2,rfl⟩:=r2;show 2;exact⟨SeqAt.RcAt.tuple_int _ _ l hu0,PySem.SeqAt.RcNeAt.tuple_int _ _ l hu0⟩
  |str j=>subst e;cases r1;cases h2.strs;obtain⟨t2,rfl⟩:=r2;show 2;exact⟨SeqAt.RcAt.tuple_str _ _ l hu0,PySem.SeqAt.RcNeAt.tuple_str _ _ l hu0⟩
  |tup ys=>obtain⟨a',i',e',l'⟩:=bD I h2;exact seq e e'
  |ref k=>obtain⟨c,hc,ec⟩:=h2.refs;exact seq e ec
 |ref k=>
  obtain⟨c,hc,ec⟩:=h1.refs;cases y with
  |tup ys=>obtain⟨a',i',e',l'⟩:=bD I h2;exact seq ec e'
  |ref k=>obtain⟨c,hc,ec'⟩:=h2.refs;exact seq ec ec'
  |non=>
   show 10;cases hs:aq S k with
   |none=>rw[hs] at h;cases h
   |some es=>rw[hs] at h;cases h;obtain⟨a,i,e,l⟩:=bh I R h1 hs;subst e;cases r1;cases h2.nons;cases r2;exact⟨SeqAt.RcAt.list_none l hu0,PySem.SeqAt.RcNeAt.list_none l hu0⟩
  |bl j=>
   show 10;cases hs:aq S k with
   |none=>rw[hs] at h;cases h
   |some es=>rw[hs] at h;cases h;obtain⟨a,i,e,l⟩:=bh I R h1 hs;subst e;cases r1;cases h2.bls;cases r2;exact⟨SeqAt.RcAt.list_bool _ l hu0,PySem.SeqAt.RcNeAt.list_bool _ l hu0⟩
  |int j=>
   show 10;cases hs:aq S k with
   |none=>rw[hs] at h;cases h
   |some es=>rw[hs] at h;cases h;obtain⟨a,i,e,l⟩:=bh I R h1 hs;subst e;cases r1;cases h2.ints;obtain⟨t2,rfl⟩:=r2;exact⟨SeqAt.RcAt.list_int _ _ l hu0,PySem.SeqAt.RcNeAt.list_int _ _ l hu0⟩
  |str j=>
   show 10;cases hs:aq S k with
   |none=>rw[hs] at h;cases h
   |some es=>rw[hs] at h;cases h;obtain⟨a,i,e,l⟩:=bh I R h1 hs;subst e;cases r1;cases h2.strs;obtain⟨t2,rfl⟩:=r2;exact⟨SeqAt.RcAt.list_str _ _ l hu0,PySem.SeqAt.RcNeAt.list_str _ _ l hu0⟩
abbrev eqS(x y:D)(S:Sto):Option (D × Sto):=(eqD 60 S x y).map λb=>(.bl b,S)
abbrev dlD(S:Sto)(x y:D):Option Bool:=match x,y with
 |.ref a,.ref b=>match S[a]?,S[b]? with
  |some (.dic _ _),some (.lst _)=>some false
  |_,_=>none
 |_,_=>none
abbrev neD(S:Sto)(x y:D):Option Bool:=match eqD 60 S x y with
 |some b=>some b
 |none=>dlD S x y
abbrev neS(x y:D)(S:Sto):Option (D × Sto):=(neD S x y).map λb=>(.bl (!b),S)
theorem ma(h:eqD 60 S x y=some b):neS x y S=some (.bl (!b),S):=by unfold neS neD;rw[h];rfl
theorem JB(hu:X.A.units+64 < cLine):OpR X (VJ .Eq) (rS X.K eqS):=by
 show 3;obtain⟨m,S,a,b,d,S',R,va,vb,e,q⟩:=h;unfold eqS at e;cases he:eqD 60 S a b with
 |none=>rw[he] at e;cases e
 |some c=>
  rw[he] at e;cases e;exact(NY I R 59 va vb rx ry he (by lia)).1 _ _ _ _ ⟨.bl c,H,I,rfl,q m H _ (Aft.refl R) bN⟩
theorem NZ(I:Inv X pins σ H s)(R:Rel X.K m S H)(hu:A.units < cLine)(h1:VD X.K m H x v)(h2:VD X.K m H y w)(r1:aI v u)(r2:aI w u')(h:dlD S x y=some c):W0 A s u u' (!c):=by
 cases x with
 |ref a=>
  cases y with
  |ref b=>
   unfold dlD at h;dsimp only at h;split at h
   ·rename_i ks ds es ha hb;cases h;obtain⟨a',i,e,l⟩:=bh (es:=es) I R h2 (by unfold aq;rw[hb]);subst e;cases r2;obtain⟨c,hc,ec⟩:=h1.refs;subst ec;cases r1;obtain⟨a2,ha2,vs,hv,_⟩:=R.ob _ _ ha;rw[hc] at ha2;cases ha2;obtain⟨_,_,xs,_,o,es',ep,g1,g2,_⟩:=(show bq X.prog X.w H s.heap c (.dK _) from I.hok c _ hv);exact PySem.SeqAt.dict_list g1 g2.1 l hu
   ·cases h
  |_=>cases h
 |_=>cases h
theorem JC(hu:X.A.units+64 < cLine):OpR X (VJ .NotEq) (rS X.K neS):=by
 show 3;obtain⟨m,S,a,b,d,S',R,va,vb,e,q⟩:=h;unfold neS neD at e;cases he:eqD 60 S a b with
 |none=>
  rw[he] at e;cases hd:dlD S a b with
  |none=>dsimp only at e;rw[hd] at e;cases e
  |some c=>
   dsimp only at e;rw[hd] at e;cases e;exact NZ I R (by lia) va vb rx ry hd _ _ _ _ ⟨.bl (!c),H,I,rfl,q m H _ (Aft.refl R) bN⟩
 |some c=>
  rw[he] at e;cases e;exact(NY I R 59 va vb rx ry he (by lia)).2 _ _ _ _ ⟨.bl (!c),H,I,rfl,q m H _ (Aft.refl R) bN⟩
end
abbrev JD(a b:Nat)(S:Sto):Option (D × Sto):=match S[a]? with
 | some (.lst xs)=>(match S[b]? with
  |some (.lst ys)=>if xs.length+ys.length<=100000 then some (.ref S.length,S++[.lst (xs++ys)]) else none
  | _=>none)
 |_=>none
abbrev kL:D->D->Sto->Option (D × Sto)
 |.int i,.int j,S=>some (.int (i+j),S)
 |.tup xs,.tup ys,S=>if xs.length+ys.length<=1000 then some (.tup (xs++ys),S) else none
 |.ref a,.ref b,S=>JD a b S
 |.str x,.str y,S=>if x.length+y.length<=100000 then some (.str (x++y),S) else none
 |_,_,_=>none
abbrev N2:D->D->Sto->Option (D × Sto)
 |.int i,.int j,S=>some (.int (i - j),S)
 |_,_,_=>none
abbrev iT(i j:Int):Bool:=(decide (-(2 ^ 64) < i) && decide (i < 2 ^ 64)) || (decide (-(2 ^ 64) < j) && decide (j < 2 ^ 64))
abbrev qi:D->D->Sto->Option (D × Sto)
 |.int i,.int j,S=>if iT i j=true then some (.int (i * j),S) else none
 | .ref n,.int k,S=>(match S[n]? with
  |some (.lst xs)=>if 0<=k/\xs.length * k.toNat<=1000/\k<=1000 then some (.ref S.length,S++[.lst (Zp k.toNat xs).flatten]) else none
  | _=>none)
 |_,_,_=>none
abbrev JE:D->D->Sto->Option (D × Sto)
 |.int i,.int j,S=>if 0 < j then some (.int (i % j),S) else none
 |_,_,_=>none
abbrev Al:D->D->Sto->Option (D × Sto)
 |.int i,.int j,S=>if 0 < j/\j < 1237940039285380274899124224 then some (.int (i / j),S) else none
 |_,_,_=>none
abbrev JF:D->D->Sto->Option (D × Sto)
 |.int i,.int j,S=>if 0<=j/\j<=1000000/\i.natAbs < 2 ^ 64 then some (.int (i ^ j.toNat),S) else none
 |_,_,_=>none
inductive BOp where |add |sub |mul |mod |fdiv |pow
abbrev bI:BOp->D->D->Sto->Option (D × Sto)
 |.add=>kL |.sub=>N2 |.mul=>qi |.mod=>JE |.fdiv=>Al |.pow=>JF
abbrev BOp.op:BOp->WR
 |.add=>.Add |.sub=>.Sub |.mul=>.Mult |.mod=>.Mod |.fdiv=>.FloorDiv |.pow=>.Pow
section
variable {X:Cx} {K:W6} {m:List Addr} {H:Hp} {S:Sto}
theorem gC{op:WR}{f:D->D->Sto->Option (D × Sto)}{C:Int->Int->Prop}{g:Int->Int->Int}(ho:OpR X (Vy op) (rI C λi j=>.int (g i j)))
  (hf:∀a b S d S',f a b S=some (d,S')->∃i j,a = .int i/\b = .int j/\C i j/\d = .int (g i j)/\S'=S):OpR X (Vy op) (rS X.K f):=by
 refine OpR.imp ho λx y H Q h=>?_;obtain⟨m,S,a,b,d,S',R,va,vb,e,q⟩:=h;obtain⟨i,j,rfl,rfl,c,rfl,rfl⟩:=hf _ _ _ _ _ e;exact⟨i,j,va.ints,vb.ints,c,q m H _ (Aft.refl R) aX⟩
theorem ue:OpR X (Vy .Add) (λx y H Q=>∃m S xs ys,Rel X.K m S H/\VD X.K m H (.tup xs) x/\VD X.K m H (.tup ys) y/\xs.length+ys.length<=1000/\∀m' H' u,Aft X.K m H S m' H'->VD X.K m' H' (.tup (xs++ys)) u->Q u H'):=by
 refine OpR.imp DY λx y H Q h=>?_;obtain⟨m,S,xs,ys,R,va,vb,hl,q⟩:=h;obtain⟨a,vs,rfl,sa,da⟩:=va.tups;obtain⟨b,ws,rfl,sb,db⟩:=vb.tups;have l1:=da.length;have l2:=db.length;refine⟨a,b,vs,ws,rfl,rfl,.of sa,.of sb,l4 (by lia),λe=>?_,λ_ e=>?_,λ_ _=>kQ R (da.append db) q⟩
 ·subst e;have e:xs=[]:=Ye.mp (by simpa using l1);subst e;exact q m H _ (Aft.refl R) vb
 ·subst e;have e:ys=[]:=Ye.mp (by simpa using l2);subst e;rw[ZU] at q;exact q m H _ (Aft.refl R) va
theorem Ed:OpR X (Vy .Add) (rS X.K kL):=by
 refine OpR.imp (OpR.or IQ (OpR.or ue (OpR.or tW t5))) λx y H Q h=>?_;obtain⟨m,S,a,b,d,S',R,va,vb,e,q⟩:=h;cases a with
 |int i=>
  cases b with
  |int j=>cases e;exact .inl ⟨i,j,va.ints,vb.ints,q m H _ (Aft.refl R) aX⟩
  |_=>simp[kL] at e
 |tup xs=>
  cases b with
  |tup ys=>
   simp only[kL] at e;split at e
   ·rename_i hl;cases e;exact .inr (.inl ⟨m,S,xs,ys,R,va,vb,hl,q⟩)
   ·cases e
  |_=>simp[kL] at e
 |str i=>
  cases b with
  |str j=>
   simp only[kL] at e;split at e
   ·rename_i hl;cases e;exact .inr (.inr (.inl ⟨i,j,va.strs,vb.strs,by rw[Ua];lia,q m H _ (Aft.refl R) lZ⟩))
   ·cases e
  |_=>simp[kL] at e
 |ref i=>
  cases b with
  |ref j=>
   simp only[kL,JD] at e;split at e
   ·rename_i xs hx;split at e
    ·rename_i ys hy;split at e
     ·rename_i hl;cases e;obtain⟨a,vs,ha,hH,q1⟩:=R.lst hx;obtain⟨c,ws,hc,hG,q2⟩:=R.lst hy;obtain⟨a',ha',e1⟩:=va.refs;obtain⟨c',hc',e2⟩:=vb.refs;rw[ha] at ha';cases ha';rw[hc] at hc';cases hc';exact .inr (.inr (.inr ⟨a,c,vs,ws,e1,e2,hH,hG,by rw[Ua,<-q1.length,<-q2.length];lia,qf R (q1.append q2) q⟩))
     ·cases e
    ·cases e
   ·cases e
  |_=>simp[kL] at e
 |_=>cases b <;> simp[kL] at e
theorem wa(h:VDs K m H ds vs):∀n:Nat,VDs K m H (Zp n ds).flatten (Zp n vs).flatten
 |0=>by rw[Xo,Xo,XU,XU,VDs]
 |n+1=>by rw[Z7,Z7,Yo,Yo];exact h.append (wa h n)
theorem Ee:OpR X (Vy .Mult) (rS X.K qi):=by
 refine OpR.imp (OpR.or Ji IS) λx y H Q h=>?_;obtain⟨m,S,a,b,d,S',R,va,vb,e,q⟩:=h;cases a with
 |int i=>
  cases b with
  |int j=>
   simp only[qi] at e;split at e
   ·rename_i hc;cases e;simp only[iT,Y9,bAE,decide_eq_true_eq] at hc;exact .inr ⟨i,j,va.ints,vb.ints,hc,q m H _ (Aft.refl R) aX⟩
   ·cases e
  |_=>simp[qi] at e
 |ref n=>
  cases b with
  |int k=>
   simp only[qi] at e;split at e
   ·rename_i xs hx;split at e
    ·rename_i hc;cases e;obtain⟨l,vs,hl,hH,vd⟩:=R.lst hx;obtain⟨l',hl',e1⟩:=va.refs;rw[hl] at hl';cases hl';exact .inl ⟨l,k,vs,e1,vb.ints,hH,by lia,by lia,by rw[Ua,<-vd.length];lia,qf R (wa vd k.toNat) q⟩
    ·cases e
   ·cases e
  |_=>simp[qi] at e
 |_=>cases b <;> simp[qi] at e
theorem Am:OpR X (Vy .FloorDiv) (rI (λ_ j=>0 < j/\j < 1237940039285380274899124224) λi j=>.int (i / j)):=opI λi j _ _ _ _ _ hc q=>by
 have h1:(0:Int) < j:=hc.1;have h2:j < 1237940039285380274899124224:=hc.2
 exact floordiv_int (by lia) (by rw[Int.fdiv_eq_ediv_of_nonneg i (by lia)];exact q) (.inl (PyProof.noPylong_of_log2 (by
  have h0:j.natAbs ≠ 0:=by lia
  have:j.natAbs.log2 < 90:=(Wi h0).mpr (by lia)
  lia)))
theorem Ef(o:BOp):OpR X (Vy o.op) (rS X.K (bI o)):=by
 cases o with
 |add=>exact Ed
 |sub=>
  refine gC (C:=λ_ _=>True) (g:=λi j=>i - j) (OpR.imp IR λx y H Q ⟨i,j,a,b,_,q⟩=>⟨i,j,a,b,q⟩) λa b S d S' e=>?_;cases a <;> cases b <;> simp[bI,N2] at e;exact⟨_,_,rfl,rfl,trivial,e.1.symm,e.2.symm⟩
 |mul=>exact Ee
 |mod=>
  refine gC IT λa b S d S' e=>?_;cases a <;> cases b <;> simp[bI,JE] at e;rename_i i j;exact⟨i,j,rfl,rfl,e.1,e.2.1.symm,e.2.2.symm⟩
 |fdiv=>
  refine gC Am λa b S d S' e=>?_;cases a <;> cases b <;> simp[bI,Al] at e;rename_i i j;exact⟨i,j,rfl,rfl,e.1,e.2.1.symm,e.2.2.symm⟩
 |pow=>
  refine gC IU λa b S d S' e=>?_;cases a <;> cases b <;> simp[bI,JF] at e;rename_i i j;exact⟨i,j,rfl,rfl,e.1,e.2.1.symm,e.2.2.symm⟩
abbrev yc(p:Int->Int->Bool):D->D->Sto->Option (D × Sto)
 |.int i,.int j,S=>some (.bl (p i j),S)
 |_,_,_=>none
abbrev bu:D->Bool
 |.non=>true
 |_=>false
abbrev isB(neg:Bool):D->D->Sto->Option (D × Sto)
 |d,.non,S=>some (.bl (neg != bu d),S)
 |.bl a,.bl b,S=>some (.bl (neg != (a == b)),S)
 |_,_,_=>none
abbrev cC:D->Bool
 |.non=>true |.bl _=>true |.int _=>true |.str _=>true |_=>false
abbrev eqF:D->D->Bool
 |.non,.non=>true
 |.bl a,.bl b=>a == b
 |.bl a,.int b=>(if a then 1 else 0) == b
 |.int a,.bl b=>a == (if b then 1 else 0)
 |.int a,.int b=>a == b
 |.str a,.str b=>a == b
 |_,_=>false
abbrev inF(x:D)(ds:List D):Bool:=ds.any λy=>eqF y x
abbrev inD(x:D)(ds:List D)(S:Sto):Option Bool:=if (ds.all λy=>(eqD 58 S y x).isSome)=true then some (ds.any λy=>eqD 58 S y x == some true) else none
abbrev inS(neg:Bool)(x y:D)(S:Sto):Option (D × Sto):=match ao y S with
 |some (_,ds)=>if cC x=true/\ds.all cC=true then some (.bl (neg != inF x ds),S) else (inD x ds S).map λb=>(.bl (neg != b),S)
 |none=>none
inductive COp where |eq |ne |lt |le |gt |ge |is |isnot |isin |notin
abbrev az:COp->D->D->Sto->Option (D × Sto)
 |.eq=>eqS |.ne=>neS
 |.lt=>yc λi j=>decide (i < j) |.le=>yc λi j=>decide (i<=j) |.gt=>yc λi j=>decide (j < i) |.ge=>yc λi j=>decide (j<=i)
 |.is=>isB false |.isnot=>isB true |.isin=>inS false |.notin=>inS true
abbrev COp.op:COp->CmpOp
 |.eq=>.Eq |.ne=>.NotEq |.lt=>.Lt |.le=>.LtE |.gt=>.Gt |.ge=>.GtE |.is=>.Is |.isnot=>.IsNot |.isin=>.In |.notin=>.NotIn
theorem eP(ho:OpR X (VJ op) (rI0 λi j=>.bl (p i j))):OpR X (VJ op) (rS X.K (yc p)):=by
 refine OpR.imp ho λx y H Q h=>?_;obtain⟨m,S,a,b,d,S',R,va,vb,e,q⟩:=h;cases a <;> cases b <;> simp[yc] at e;obtain⟨rfl,rfl⟩:=e;exact⟨_,_,va.ints,vb.ints,q m H _ (Aft.refl R) bN⟩
theorem kS(h:VD K m H x v)(f:cC x=true):bK v=true:=by
 cases x <;> simp[cC] at f
 ·cases h.nons;rfl
 ·cases h.bls;rfl
 ·cases h.ints;rfl
 ·cases h.strs;rfl
theorem An(h:VD K m H x v)(f:cC x=true)(h':VD K m H y w)(f':cC y=true):eqV v w=eqF x y:=by
 cases x <;> simp[cC] at f <;> cases y <;> simp[cC] at f' <;> simp[VD] at h h' <;> subst h <;> subst h' <;> rfl
theorem iU:∀ {ds:List D} {vs:List V},VDs K m H ds vs->ds.all cC=true->vs.all bK=true
 |[],vs,h,_=>by rw[VDs] at h;rw[h];rfl
 |d::ds,vs,h,f=>by
  rw[VDs] at h;obtain⟨x,r,rfl,p,q⟩:=h;rw[Yb,bAE] at f;rw[Yb,kS p f.1,iU q f.2];rfl
theorem uf(h:VD K m H x v)(f:cC x=true):∀ {ds:List D} {vs:List V},VDs K m H ds vs->ds.all cC=true->inV v vs=inF x ds
 |[],vs,h,_=>by rw[VDs] at h;rw[h];rfl
 |d::ds,vs,h',f'=>by
  rw[VDs] at h';obtain⟨y,r,rfl,p,q⟩:=h';rw[Yb,bAE] at f';have ih:=uf h f q f'.2;unfold inV inF at ih ⊢;rw[Yz,Yz,An p f'.1 h f,ih]
theorem oM(h:VD K m H x v)(f:cC x=true):∀ {ds:List D} {vs:List V},VDs K m H ds vs->ds.all cC=true->(vs.countP λz=>eqV z v)=ds.countP λz=>eqF z x
 |[],vs,h,_=>by rw[VDs] at h;rw[h];rfl
 |d::ds,vs,h',f'=>by
  rw[VDs] at h';obtain⟨y,r,rfl,p,q⟩:=h';rw[Yb,bAE] at f';rw[YL,YL,An p f'.1 h f,oM h f q f'.2]
theorem il(h:SqB K tu H a vs):SqL K H a vs\/SqT K H a vs:=by
 cases tu with
 |false=>exact .inl h
 |true=>exact .inr (.of h)
theorem qj(I:Inv X pins σ H s)(R:Rel X.K m S H)(vx:VD X.K m H x v)(rx:aI v u)(hu:A.units+58 < cLine)(vd:VDs X.K m H ds vs)(r:aN vs its)(h:inD x ds S=some b) :
  ∃e:Value->Bool,(∀w ∈ its,WY A s w u (e w))/\its.any e=b:=by
 unfold inD at h;split at h
 ·rename_i hs;cases h;rw[ZJ] at hs
  have at_:∀ (i:Nat) w,its[i]?=some w->∃y v',ds[i]?=some y/\VD X.K m H y v'/\aI v' w:=λi w hw=>by
   have hi:=(Zc.mp hw).1;obtain⟨y,v',e1,e2,e3⟩:=qg vd r (j:=i) (by simpa using hi);refine⟨y,v',e1,e2,?_⟩
   have:its.toArray[i]=w:=by
    have:=(Zc.mp hw).2
    simpa using this
   rw[<-this];exact e3
  refine⟨λw=>@decide (∃ (i:Nat) (y:D),ds[i]?=some y/\its[i]?=some w/\eqD 58 S y x=some true) (Classical.propDecidable _),λw hw=>?_,?_⟩
  ·obtain⟨i,hi⟩:=Z4 hw;dsimp only;by_cases hq:∃ (i:Nat) (y:D),ds[i]?=some y/\its[i]?=some w/\eqD 58 S y x=some true
   ·rw[@decide_eq_true _ (Classical.propDecidable _) hq];obtain⟨j,y,e1,e2,e3⟩:=hq;obtain⟨y',v',f1,f2,f3⟩:=at_ j w e2;rw[e1] at f1;cases f1;exact qh I R 58 A y x v' v w u true f2 vx f3 rx e3 hu
   ·rw[@decide_eq_false _ (Classical.propDecidable _) hq];obtain⟨y,v',f1,f2,f3⟩:=at_ i w hi;obtain⟨c,hc⟩:=ZV.mp (hs y (Zh f1));cases c with
    |true=>exact absurd ⟨i,y,f1,hi,hc⟩ hq
    |false=>exact qh I R 58 A y x v' v w u false f2 vx f3 rx hc hu
  ·rw[Z3,YD,YD];constructor
   ·rintro⟨w,_,hw⟩;obtain⟨i,y,e1,_,e3⟩:=@of_decide_eq_true _ (Classical.propDecidable _) hw;exact⟨y,Zh e1,by rw[e3];rfl⟩
   ·rintro⟨y,hy,e⟩;obtain⟨i,hi⟩:=Z4 hy;obtain⟨v',hv,_⟩:=vd.get hi;obtain⟨w,hw,_⟩:=r.get hv;exact⟨w,Zh hw,@decide_eq_true _ (Classical.propDecidable _) ⟨i,y,hi,hw,by simpa using e⟩⟩
 ·cases h
theorem JG(hu:X.A.units+64 < cLine):OpR X (VJ .In) (rS X.K (inS false)):=by
 show 3;obtain⟨m,S,a,b,d,S',R,va,vb,e,q⟩:=h;unfold inS at e;split at e
 ·rename_i tu ds hi;obtain⟨p,vs,rfl,sq,vds⟩:=ek R vb hi;split at e
  ·rename_i hf;cases e;refine xS pins s σ H x _ v u Q I rx ry ⟨p,vs,rfl,il sq,kS va hf.1,iU vds hf.2,q m H _ (Aft.refl R) ?_⟩;rw[if_neg (by decide),uf va hf.1 vds hf.2]
   simpa using bN
  ·cases hd:inD a ds S with
   |none=>rw[hd] at e;cases e
   |some c=>
    rw[hd] at e;cases e;cases ry;have ha:X.A.in1.units+58 < cLine:=by show X.A.units+1+58 < cLine;lia
    rcases il sq with hq |hq
    ·obtain⟨its,r,pl,hz⟩:=I.list hq;obtain⟨e,he,hb⟩:=qj I R va rx ha vds r hd;refine W1 e pl.isList (λw hw=>he w (by simpa using hw)) ⟨.bl _,H,I,rfl,?_⟩;rw[show its.toArray.any e=its.any e by simp,hb];exact q m H _ (Aft.refl R) (by simpa using bN)
    ·obtain⟨its,r,pl,hz⟩:=I.tuple hq;obtain⟨e,he,hb⟩:=qj I R va rx ha vds r hd;refine W2 e pl (λw hw=>he w (by simpa using hw)) ⟨.bl _,H,I,rfl,?_⟩;rw[show its.toArray.any e=its.any e by simp,hb];exact q m H _ (Aft.refl R) (by simpa using bN)
 ·cases e
theorem yd(hu:X.A.units+64 < cLine):OpR X (VJ .NotIn) (rS X.K (inS true)):=by
 show 3;obtain⟨m,S,a,b,d,S',R,va,vb,e,q⟩:=h;unfold inS at e;split at e
 ·rename_i tu ds hi;obtain⟨p,vs,rfl,sq,vds⟩:=ek R vb hi;split at e
  ·rename_i hf;cases e;refine pY pins s σ H x _ v u Q I rx ry ⟨p,vs,rfl,il sq,kS va hf.1,iU vds hf.2,q m H _ (Aft.refl R) ?_⟩;rw[if_pos rfl,uf va hf.1 vds hf.2]
   simpa using bN
  ·cases hd:inD a ds S with
   |none=>rw[hd] at e;cases e
   |some c=>
    rw[hd] at e;cases e;cases ry;have ha:X.A.in1.units+58 < cLine:=by show X.A.units+1+58 < cLine;lia
    rcases il sq with hq |hq
    ·obtain⟨its,r,pl,hz⟩:=I.list hq;obtain⟨e,he,hb⟩:=qj I R va rx ha vds r hd;refine W3 e pl.isList (λw hw=>he w (by simpa using hw)) ⟨.bl _,H,I,rfl,?_⟩;rw[show its.toArray.any e=its.any e by simp,hb];exact q m H _ (Aft.refl R) (by simpa using bN)
    ·obtain⟨its,r,pl,hz⟩:=I.tuple hq;obtain⟨e,he,hb⟩:=qj I R va rx ha vds r hd;refine W4 e pl (λw hw=>he w (by simpa using hw)) ⟨.bl _,H,I,rfl,?_⟩;rw[show its.toArray.any e=its.any e by simp,hb];exact q m H _ (Aft.refl R) (by simpa using bN)
 ·cases e
theorem Ao(h:VD K m H d v):decide (v=V.non)=bu d:=by
 cases d with
 |non=>cases h.nons;rfl
 |bl _=>cases h.bls;rfl
 |int _=>cases h.ints;rfl
 |str _=>cases h.strs;rfl
 |tup _=>obtain⟨_,_,e,_⟩:=h.tups;subst e;rfl
 |ref _=>obtain⟨_,_,e⟩:=h.refs;subst e;rfl
theorem JH:OpR X (VJ .Is) (rS X.K (isB false)):=by
 refine OpR.imp (OpR.or IX Jk) λx y H Q h=>?_;obtain⟨m,S,a,b,d,S',R,va,vb,e,q⟩:=h;cases b with
 |non=>
  simp[isB] at e;obtain⟨rfl,rfl⟩:=e;exact .inl ⟨vb.nons,q m H _ (Aft.refl R) (by rw[Ao va];exact bN)⟩
 |bl j=>
  cases a with
  |bl i=>
   simp[isB] at e;obtain⟨rfl,rfl⟩:=e;exact .inr ⟨i,j,va.bls,vb.bls,q m H _ (Aft.refl R) bN⟩
  |_=>simp[isB] at e
 |_=>cases a <;> simp[isB] at e
theorem ye:OpR X (VJ .IsNot) (rS X.K (isB true)):=by
 refine OpR.imp (OpR.or DB xZ) λx y H Q h=>?_;obtain⟨m,S,a,b,d,S',R,va,vb,e,q⟩:=h;cases b with
 |non=>
  simp[isB] at e;obtain⟨rfl,rfl⟩:=e;exact .inl ⟨vb.nons,q m H _ (Aft.refl R) (by rw[Ao va];exact bN)⟩
 |bl j=>
  cases a with
  |bl i=>
   simp[isB] at e;obtain⟨rfl,rfl⟩:=e;exact .inr ⟨i,j,va.bls,vb.bls,q m H _ (Aft.refl R) (by simpa[bne] using bN)⟩
  |_=>simp[isB] at e
 |_=>cases a <;> simp[isB] at e
theorem gD(hu:X.A.units+64 < cLine)(o:COp):OpR X (VJ o.op) (rS X.K (az o)):=by
 cases o with
 |eq=>exact JB hu
 |ne=>exact JC hu
 |lt=>exact eP NC
 |le=>exact eP ND
 |gt=>exact eP NF
 |ge=>exact eP NG
 |is=>exact JH
 |isnot=>exact ye
 |isin=>exact JG hu
 |notin=>exact yd hu
end
section
variable {X:Cx} {K:W6} {m:List Addr} {H:Hp} {S:Sto}
abbrev ixS(d i:D)(S:Sto):Option (D × Sto):=match i with
 | .int k=>(match d with
  |.str z=>if z.length<=100000 then (atI z.cps.toList k).map λc=>(.str ⟨#[c]⟩,S) else none
  | d=>(match ao d S with
   |some (_,ds)=>(atI ds k).map λx=>(x,S)
   | none=>none))
 |_=>none
theorem JI{k:Int}(h:VDs K m H ds vs)(e:atI ds k=some d):∃v,atI vs k=some v/\VD K m H d v:=by
 unfold atI at e ⊢;rw[<-h.length];cases hi:ixN ds.length k with
 |none=>rw[hi] at e;cases e
 |some j=>
  rw[hi] at e;exact h.get e
theorem Ap{k:Int}(sq:SqB K tu H a vs)(vd:VDs K m H ds vs)(e:atI ds k=some d)(q:∀v,VD K m H d v->Q v H):rIx K (.ref a) (.int k) H Q:=by
 obtain⟨v,ev,vv⟩:=JI vd e;cases tu with
 |false=>exact .inl ⟨a,vs,k,v,rfl,rfl,sq,ev,q v vv⟩
 |true=>exact .inr (.inl ⟨a,vs,k,v,rfl,rfl,.of sq,ev,q v vv⟩)
theorem QK:IxR X (rS X.K ixS):=by
 intro value slice pins s σ H x y v u Q I rx ry h hs;refine zJ value slice pins s σ H x y v u Q I rx ry ?_ hs;obtain⟨m,S,a,b,d,S',R,va,vb,e,q⟩:=h;cases b with
 |int k=>
  cases vb.ints
  have main:∀r,ao a S=some r->(atI r.2 k).map (λx=>(x,S))=some (d,S')->rIx X.K x (.int k) H Q:=by
   intro r hi e;cases ha:atI r.2 k with
   |none=>rw[ha] at e;cases e
   |some z=>
    rw[ha] at e;cases e;obtain⟨p,vs,rfl,sq,vds⟩:=ek (tu:=r.1) (ds:=r.2) R va hi;exact Ap sq vds ha λv vv=>q m H v (Aft.refl R) vv
  cases a with
  |str z=>
   simp only[ixS] at e;split at e
   ·rename_i hl;cases hc:atI z.cps.toList k with
    |none=>rw[hc] at e;cases e
    |some c=>
     rw[hc] at e;cases e;exact .inr (.inr ⟨z,k,c,va.strs,rfl,by rw[Ua];lia,hc,q m H _ (Aft.refl R) lZ⟩)
   ·cases e
  |tup ds=>exact main (true,ds) rfl e
  |ref n=>
   simp only[ixS] at e;cases hi:ao (.ref n) S with
   |none=>rw[hi] at e;cases e
   |some r=>rw[hi] at e;exact main r hi e
  |_=>simp[ixS,ao] at e
 |_=>simp[ixS] at e
abbrev ug(x:XA)(y:XE):XE:=λρ S=>bnd (x ρ S) λds S1=>bnd (y ρ S1) λi S2=>match i with
 |.int k=>(atI ds k).map λd=>(d,S2)
 |_=>none
theorem JJ(h:tE K (ug x y) σ H Q):tOp (rIx K) (eO K x) (tE K y) σ H Q:=by
 show 1;obtain⟨ds,S1,e1,e⟩:=ai e;obtain⟨i,S2,e2,e⟩:=ai e;refine⟨m,ρ,S,ds,S1,E,R,e1,λm1 H1 a vs A1 sq n1 n2 n3 vd=>⟨m1,ρ,S1,i,S2,E.mono R A1.ext,A1.rel,e2,λm2 H2 w A2 vb=>?_⟩⟩;cases i with
 |int k=>
  cases vb.ints;dsimp only at e;cases ha:atI ds k with
  |none=>rw[ha] at e;cases e
  |some z=>
   rw[ha] at e;cases e;exact Ap (tu:=false) (show SqL K H2 a vs from SqL.of (A2.ext.keep _ _ sq n1)) (vd.mono A1.rel A2.ext) ha λv vv=>q m2 H2 v (A1.trans A2) vv
 |_=>cases e
abbrev gP(ds:List D)(lo hi:Option Int):List D:=(ds.drop (HT.sIx ds.length 0 lo)).take (HT.sIx ds.length ds.length hi - HT.sIx ds.length 0 lo)
theorem uh(h:VDs K m H ds vs)(lo hi:Option Int):VDs K m H (gP ds lo hi) (ly vs lo hi):=by
 unfold gP ly;rw[<-h.length];exact(h.drop _).take _
abbrev slS(lo hi:Option Int)(d:D)(S:Sto):Option (D × Sto):=match d with
 |.tup ds=>some (.tup (gP ds lo hi),S)
 | .ref n=>(match aq S n with
  |some ds=>some (.ref S.length,S++[.lst (gP ds lo hi)])
  | none=>none)
 |_=>none
def rSl(K:W6):V->Option Int->Option Int->Hp->VK->Prop:=λv lo hi H Q=>∃m S a d S',Rel K m S H/\VD K m H a v/\slS lo hi a S=some (d,S')/\∀m' H' u,Aft K m H S' m' H'->VD K m' H' d u->Q u H'
theorem ui{vs:List V}{lo hi:Option Int}(h:HT.sIx vs.length 0 lo=0/\HT.sIx vs.length vs.length hi=vs.length):ly vs lo hi=vs:=by
 unfold ly;rw[h.1,h.2];simp
theorem QL:SlR X (rSl X.K):=by
 intro pins s σ H x v vl vu lo hi sl Q I rx hs pl pu h;refine(SlR.or DZ DM) pins s σ H x v vl vu lo hi sl Q I rx hs pl pu ?_;obtain⟨m,S,a,d,S',R,va,e,q⟩:=h;cases a with
 |tup ds=>
  cases e;obtain⟨p,vs,rfl,sq,vds⟩:=va.tups;refine .inl ⟨p,vs,rfl,.of sq,λhw=>?_,λ_=>kQ R (uh vds lo hi) q⟩;have:=uh vds lo hi;rw[ui hw] at this;exact q m H _ (Aft.refl R) (qe sq this)
 |ref n=>
  simp only[slS] at e;cases hn:aq S n with
  |none=>rw[hn] at e;cases e
  |some ds=>
   rw[hn] at e;cases e;obtain⟨p,vs,hp,sq,vds⟩:=R.seq hn;obtain⟨p',hp',rfl⟩:=va.refs;rw[hp] at hp';cases hp';exact .inr ⟨p,vs,rfl,sq,qf R (uh vds lo hi) q⟩
 |_=>cases e
@[inline]abbrev XO:=Rho->Sto->Option (Option Int × Sto)
def tOI(K:W6)(x:XO):TO:=λσ H Q=>∃m ρ S o S',EnvR K m H ρ σ/\Rel K m S H/\x ρ S=some (o,S')/\∀m' H',Aft K m H S' m' H'->Q o H'
abbrev uj:XO:=λ_ S=>some (none,S)
abbrev uk(x:XE):XO:=λρ S=>bnd (x ρ S) λd S1=>match d with
 |.int i=>some (some i,S1)
 |_=>none
theorem Eg(h:tOI K uj σ H Q):vV σ H Q:=by
 obtain⟨m,ρ,S,o,S',E,R,e,q⟩:=h;cases e;exact q m H (Aft.refl R)
theorem Eh(h:tOI K (uk x) σ H Q):Hn (tE K x) σ H Q:=by
 obtain⟨m,ρ,S,o,S',E,R,e,q⟩:=h;obtain⟨d,S1,e1,e⟩:=ai e;refine⟨m,ρ,S,d,S1,E,R,e1,λm1 H1 v A1 vd=>?_⟩;cases d with
 |int i=>cases e;exact⟨i,vd.ints,q m1 H1 A1⟩
 |_=>cases e
theorem PO.imp(h:PO X e t)(f:∀σ H Q,t' σ H Q->t σ H Q):PO X e t':=λpins s σ H Q I q=>h pins s σ H Q I (f σ H Q q)
abbrev xSl(x:XE)(lo hi:XO):XE:=λρ S=>bnd (x ρ S) λd S1=>bnd (lo ρ S1) λl S2=>bnd (hi ρ S2) λh S3=>slS l h d S3
theorem N9{x:XE}{lo hi:XO}{σ:L2.St}{H:Hp}{Q:VK}(h:tE K (xSl x lo hi) σ H Q):tSl (rSl K) (tE K x) (tOI K lo) (tOI K hi) σ H Q:=by
 show 1;obtain⟨a,S1,e1,e⟩:=ai e;obtain⟨l,S2,e2,e⟩:=ai e;obtain⟨u,S3,e3,e⟩:=ai e;refine⟨m,ρ,S,a,S1,E,R,e1,λm1 H1 v A1 vd=>⟨m1,ρ,S1,l,S2,E.mono R A1.ext,A1.rel,e2,λm2 H2 A2=>⟨m2,ρ,S2,u,S3,E.mono R (A1.trans A2).ext,A2.rel,e3,λm3 H3 A3=>?_⟩⟩⟩;exact⟨m3,S3,a,d,S',A3.rel,vd.mono A1.rel (A2.trans A3).ext,e,λm4 H4 w A4 vw=>q m4 H4 w (((A1.trans A2).trans A3).trans A4) vw⟩
abbrev md(d:D)(S:Sto):Option (Bool × Sto):=match d with
 |.non=>some (false,S)
 |.bl b=>some (b,S)
 |.int i=>some (i != 0,S)
 |.str y=>if y.length<=100000 then some ((y.length:Int) != 0,S) else none
 |.tup ds=>some (!ds.isEmpty,S)
 | .ref n=>(match aq S n with
  |some ds=>some (!ds.isEmpty,S)
  | none=>none)
theorem mf(h:VDs K m H ds vs):ds.isEmpty=vs.isEmpty:=by
 have:=h.length;cases ds <;> cases vs <;> simp at this ⊢
theorem JK(R:Rel K m S H)(vd:VD K m H d v)(e:md d S=some (b,S')):S'=S/\DD K v H b:=by
 cases d with
 |non=>cases e;cases vd.nons;exact⟨rfl,rfl⟩
 |bl _=>cases e;cases vd.bls;exact⟨rfl,rfl⟩
 |int _=>cases e;cases vd.ints;exact⟨rfl,rfl⟩
 |str y=>
  simp only[md] at e;split at e
  ·rename_i hl;cases e;cases vd.strs;exact⟨rfl,by rw[Ua];lia,rfl⟩
  ·cases e
 |tup ds=>
  cases e;obtain⟨a,vs,rfl,sq,vds⟩:=vd.tups;exact⟨rfl,.inr (.inl ⟨vs,.of sq,by rw[mf vds]⟩)⟩
 |ref n=>
  simp only[md] at e;cases hn:aq S n with
  |none=>rw[hn] at e;cases e
  |some ds=>
   rw[hn] at e;cases e;obtain⟨p,vs,hp,sq,vds⟩:=R.seq hn;obtain⟨p',hp',rfl⟩:=vd.refs;rw[hp] at hp';cases hp';exact⟨rfl,.inl ⟨vs,sq,by rw[mf vds]⟩⟩
abbrev Ei(x:XE):XT:=λρ S=>bnd (x ρ S) λd S1=>md d S1
theorem JL(h:tT K (Ei x) σ H Q):(tE K x) σ H λv H'=>∃k,DD K v H' k/\Q k H':=by
 obtain⟨m,ρ,S,b,S',E,R,e,q⟩:=h;obtain⟨d,S1,e1,e⟩:=ai e;refine⟨m,ρ,S,d,S1,E,R,e1,λm1 H1 v A1 vd=>?_⟩;obtain⟨rfl,t⟩:=JK A1.rel vd e;exact⟨b,t,q m1 H1 A1⟩
abbrev xB(x:XE):XT:=λρ S=>bnd (x ρ S) λd S1=>match d with
 |.bl b=>some (b,S1)
 |_=>none
theorem Oa(h:tT K (xB x) σ H Q):(tE K x) σ H λv H'=>∃k,v = .bl k/\Q k H':=by
 obtain⟨m,ρ,S,b,S',E,R,e,q⟩:=h;obtain⟨d,S1,e1,e⟩:=ai e;refine⟨m,ρ,S,d,S1,E,R,e1,λm1 H1 v A1 vd=>?_⟩;cases d with
 |bl k=>cases e;exact⟨b,vd.bls,q m1 H1 A1⟩
 |_=>cases e
abbrev cq(_:Bool)(ds:List D)(S:Sto):Option (D × Sto):=some (.int ds.length,S)
abbrev jF(_:Bool)(ds:List D)(S:Sto):Option (D × Sto):=some (.tup ds,S)
abbrev yf:D->Bool
 |.bl _=>true
 |_=>false
abbrev nY:D->Bool
 |.bl b=>b
 |_=>false
abbrev kM(tu:Bool)(ds:List D)(S:Sto):Option (D × Sto):=if tu=false/\ds.all yf=true then some (.bl (ds.all nY),S) else none
abbrev nZ(tu:Bool)(ds:List D)(S:Sto):Option (D × Sto):=if tu=false/\ds.all yf=true then some (.bl (ds.any nY),S) else none
def r1(r:V->Hp->VK->Prop):List V->Hp->VK->Prop
 |[x],H,Q=>r x H Q
 |_,_,_=>False
theorem b7(h:r1 r xs H Q):∃x,xs=[x]/\r x H Q:=by
 match xs,h with
 |[x],h=>exact⟨x,rfl,h⟩
theorem yg:aP X (.builtin "len") (r1 (rSq X.K cq)):=by
 refine aP.imp pZ λxs H Q h=>?_;obtain⟨_,rfl,m,S,tu,ds,a,vs,d,S',R,rfl,sq,vd,e,q⟩:=b7 h;cases e;exact⟨a,vs,rfl,il sq,q m H _ (Aft.refl R) (by rw[vd.length];exact aX)⟩
theorem yh:aP X (.type "tuple") (r1 (rSq X.K jF)):=by
 refine aP.imp nU λxs H Q h=>?_;obtain⟨_,rfl,m,S,tu,ds,a,vs,d,S',R,rfl,sq,vd,e,q⟩:=b7 h;cases e;cases tu with
 |false=>exact⟨a,vs,rfl,.inl ⟨sq,kQ R vd q⟩⟩
 |true=>exact⟨a,vs,rfl,.inr ⟨.of sq,q m H _ (Aft.refl R) (qe sq vd)⟩⟩
theorem ul:∀ {ds:List D} {vs:List V},VDs K m H ds vs->ds.all yf=true->vs=(ds.map nY).map V.bl
 |[],vs,h,_=>by rw[VDs] at h;rw[h];rfl
 |d::ds,vs,h,f=>by
  rw[VDs] at h;obtain⟨x,r,rfl,p,q⟩:=h;rw[Yb,bAE] at f;cases d with
  |bl b=>rw[p.bls,ul q f.2];rfl
  |_=>simp[yf] at f
theorem JM(ds:List D):(ds.map nY).all id=ds.all nY:=by rw[Yy];rfl
theorem JN(ds:List D):(ds.map nY).any id=ds.any nY:=by rw[XG];rfl
theorem yi(hc:X.calm=true):aP X (.builtin "all") (r1 (rSq X.K kM)):=by
 refine aP.imp (xX hc) λxs H Q h=>?_;obtain⟨_,rfl,m,S,tu,ds,a,vs,d,S',R,rfl,sq,vd,e,q⟩:=b7 h;unfold kM at e;split at e
 ·rename_i hf;cases e;obtain⟨rfl,hf⟩:=hf;refine⟨a,ds.map nY,rfl,?_,q m H _ (Aft.refl R) (by rw[JM];exact bN)⟩;rw[<-ul vd hf];exact sq
 ·cases e
theorem yj(hc:X.calm=true):aP X (.builtin "any") (r1 (rSq X.K nZ)):=by
 refine aP.imp (xY hc) λxs H Q h=>?_;obtain⟨_,rfl,m,S,tu,ds,a,vs,d,S',R,rfl,sq,vd,e,q⟩:=b7 h;unfold nZ at e;split at e
 ·rename_i hf;cases e;obtain⟨rfl,hf⟩:=hf;refine⟨a,ds.map nY,rfl,?_,q m H _ (Aft.refl R) (by rw[JN];exact bN)⟩;rw[<-ul vd hf];exact sq
 ·cases e
def rTm(K:W6)(f:Bool->List D->Option (List D)):V->Hp->VK->Prop:=λv H Q=>∃m S tu ds a vs es,Rel K m S H/\v = .ref a/\SqB K tu H a vs/\VDs K m H ds vs/\f tu ds=some es ∧
 ∀m' H' p ws,Aft K m H S m' H'->H' p=some (.lst ws)->p ∉ m'->(∀b,b ∈ m->b ≠ p)->H p=none->VDs K m' H' es ws->Q (.ref p) H'
theorem mh:aP X (.type "list") (r1 (rTm X.K λ_ ds=>some ds)):=by
 refine aP.imp p0 λxs H Q h=>?_;obtain⟨_,rfl,m,S,tu,ds,a,vs,es,R,rfl,sq,vd,e,q⟩:=b7 h;cases e;exact⟨a,vs,rfl,il sq,kR R vd q⟩
abbrev Aq:D->D->Sto->Option (D × Sto)
 |.int i,.int j,S=>some (.int (if j > i then j else i),S)
 |_,_,_=>none
abbrev Ar:D->D->Sto->Option (D × Sto)
 |.int i,.int j,S=>some (.int (if j < i then j else i),S)
 |_,_,_=>none
abbrev two(f:D->D->Sto->Option (D × Sto)):List D->Sto->Option (D × Sto)
 |[a,b],S=>f a b S
 |_,_=>none
theorem um(h:VDs K m H [a,b] vs):∃v w,vs=[v,w]/\VD K m H a v/\VD K m H b w:=by
 rw[VDs] at h;obtain⟨v,r,rfl,p,q⟩:=h;rw[VDs] at q;obtain⟨w,r',rfl,p',q'⟩:=q;rw[VDs] at q';subst q';exact⟨v,w,rfl,p,p'⟩
theorem JO(h:VDs K m H [a] vs):∃v,vs=[v]/\VD K m H a v:=by
 rw[VDs] at h;obtain⟨v,r,rfl,p,q⟩:=h;rw[VDs] at q;subst q;exact⟨v,rfl,p⟩
theorem rO(h:two f as S=some r):∃a b,as=[a,b]/\f a b S=some r:=by
 match as,h with
 |[a,b],h=>exact⟨a,b,rfl,h⟩
theorem uo(hc:X.calm=true):aP X (.builtin "max") (rSA X.K (two Aq)):=by
 refine aP.imp (xN hc) λxs H Q h=>?_;obtain⟨m,S,as,d,S',R,vd,e,q⟩:=h;obtain⟨a,b,rfl,e2⟩:=rO e;obtain⟨v,w,rfl,p,p'⟩:=um vd;cases a <;> cases b <;> simp[Aq] at e2;obtain⟨rfl,rfl⟩:=e2;exact⟨_,_,by rw[p.ints,p'.ints],q m H _ (Aft.refl R) aX⟩
theorem uq(hc:X.calm=true):aP X (.builtin "min") (rSA X.K (two Ar)):=by
 refine aP.imp (xO hc) λxs H Q h=>?_;obtain⟨m,S,as,d,S',R,vd,e,q⟩:=h;obtain⟨a,b,rfl,e2⟩:=rO e;obtain⟨v,w,rfl,p,p'⟩:=um vd;cases a <;> cases b <;> simp[Ar] at e2;obtain⟨rfl,rfl⟩:=e2;exact⟨_,_,by rw[p.ints,p'.ints],q m H _ (Aft.refl R) aX⟩
inductive Ty where |int |bool |tuple |list |str
abbrev Ty.nm:Ty->String
 |.int => "int" |.bool => "bool" |.tuple => "tuple" |.list => "list" |.str => "str"
abbrev tyN(d:D)(S:Sto):Option String:=match d with
 |.non=>some "NoneType" |.bl _=>some "bool" |.int _=>some "int" |.str _=>some "str" |.tup _=>some "tuple"
 | .ref n=>(match S[n]? with
  |some (.lst _)=>some "list"
  |some (.frz _)=>some "list"
  |some (.dic _ _)=>some "dict"
  | none=>none)
abbrev fj(t:Ty)(n:String):Bool:=n == t.nm || (match t with |.int=>n == "bool" |_=>false)
abbrev mi(t:Ty)(d:D)(S:Sto):Option (D × Sto):=(tyN d S).map λn=>(.bl (fj t n),S)
theorem Ej(K:W6)(t:Ty):(Vl K (.type "NoneType") (.type t.nm)=some (fj t "NoneType"))/\(Vl K (.type "bool") (.type t.nm)=some (fj t "bool"))/\(Vl K (.type "int") (.type t.nm)=some (fj t "int")) ∧
  (Vl K (.type "str") (.type t.nm)=some (fj t "str"))/\(Vl K (.type "tuple") (.type t.nm)=some (fj t "tuple"))/\(Vl K (.type "list") (.type t.nm)=some (fj t "list"))/\(Vl K (.type "dict") (.type t.nm)=some (fj t "dict")):=by
 cases t <;> exact⟨by kernel_rfl,by kernel_rfl,by kernel_rfl,by kernel_rfl,by kernel_rfl,by kernel_rfl,by kernel_rfl⟩
theorem Oc(R:Rel K m S H)(vd:VD K m H d v)(e:tyN d S=some n):TyOf K H v (.type n):=by
 cases d with
 |non=>cases e;cases vd.nons;exact .non
 |bl _=>cases e;cases vd.bls;exact .bl _
 |int _=>cases e;cases vd.ints;exact .int _
 |str _=>cases e;cases vd.strs;exact .str _
 |tup ds=>cases e;obtain⟨a,vs,rfl,sq,_⟩:=vd.tups;exact .tup sq
 |ref k=>
  simp only[tyN] at e;obtain⟨a,ha,rfl⟩:=vd.refs;cases hk:S[k]? with
  |none=>rw[hk] at e;cases e
  |some o=>
   rw[hk] at e;obtain⟨a',ha',r⟩:=R.ob k o hk;rw[ha] at ha';cases ha';cases o with
   |lst ds=>cases e;obtain⟨vs,h,_⟩:=r;exact .lst h
   |frz ds=>cases e;obtain⟨o,vs,h,_⟩:=r;exact .frz h
   |dic ks ds=>cases e;obtain⟨vs,h,_⟩:=r;exact .dK h
theorem As(e:tyN d S=some n):n = "NoneType"\/n = "bool"\/n = "int"\/n = "str"\/n = "tuple"\/n = "list"\/n = "dict" := by
 cases d with
 |ref k=>
  simp only[tyN] at e;cases hk:S[k]? with
  |none=>rw[hk] at e;cases e
  |some o=>rw[hk] at e;cases o <;> cases e <;> simp
 |_=>cases e <;> simp
theorem JP(K:W6)(t:Ty)(h:n = "NoneType"\/n = "bool"\/n = "int"\/n = "str"\/n = "tuple"\/n = "list"\/n = "dict"):Vl K (.type n) (.type t.nm)=some (fj t n):=by
 obtain⟨a,b,c,d,e,f,g⟩:=Ej K t;rcases h with rfl |rfl |rfl |rfl |rfl |rfl |rfl <;> assumption
def Od(K:W6)(t:Ty)(te:TE):TE:=tCB (Hr K) (cP te (cP (tC (.ty t.nm)) jw))
theorem Ek(h:tE K (xUn (mi t) x) σ H Q):Od K t (tE K x) σ H Q:=by
 show 1;obtain⟨a,S1,e1,e⟩:=ai e;refine⟨m,ρ,S,a,S1,E,R,e1,λm1 H1 v A1 va=>?_⟩;unfold mi at e;cases hn:tyN a S1 with
 |none=>rw[hn] at e;cases e
 |some n=>
  rw[hn] at e;cases e;exact⟨v,t.nm,_,_,rfl,Oc A1.rel va hn,JP K t (As hn),q m1 H1 _ A1 bN⟩
end
end Ev
namespace Ev
open PySem PySem.Spec PyProof.Rows L2
open PySem.W (KasT kas_sort kas_asc kas_desc kas_tail3 kas_descPart kas_count kas_place kas_bin kas_rev kas_ask KatTups)
abbrev eR{α:Type}(lt:Nat->Nat->Bool):KasT α->α
 |.ret a=>a
 |.ask i j k=>eR lt (k (lt i j))
def KT{α:Type}(n:Nat)(P:α->Prop):KasT α->Prop
 |.ret a=>P a
 |.ask i j k=>i < n/\j < n/\∀b,KT n P (k b)
theorem KT.bind{α β:Type}{n:Nat}{P:α->Prop}{R:β->Prop}{f:α->KasT β}(hf:∀a,P a->KT n R (f a)):∀ {t:KasT α},KT n P t->KT n R (t.bind f)
 |.ret a,h=>hf a h
 |.ask i j k,h=>⟨h.1,h.2.1,λb=>KT.bind hf (h.2.2 b)⟩
theorem KT.run{α:Type}{n:Nat}{P:α->Prop}{lt:Nat->Nat->Bool}:∀ {t:KasT α},KT n P t->P (eR lt t)
 |.ret a,h=>h
 |.ask i j k,h=>KT.run (t:=k (lt i j)) (h.2.2 (lt i j))
theorem rP{α:Type}{n:Nat}{P:α->Prop}{lt:Nat->Nat->Bool}{cmp:Nat->Nat->(Bool->Shared->Prop)->Shared->Prop}{s:Shared}(hc:∀i j,i < n->j < n->∀C:Bool->Shared->Prop,C (lt i j) s->cmp i j C s){Q:α->Shared->Prop} :
  ∀ {t:KasT α},KT n P t->Q (eR lt t) s->t.kasWp cmp Q s
 |.ret a,_,q=>q
 |.ask i j k,h,q=>hc i j h.1 h.2.1 _ (rP hc (h.2.2 (lt i j)) q)
def Pm(n:Nat)(p:Array Nat):Prop:=p.Perm (Y7 (Zj n))
theorem Pm.at{n i:Nat}(h:Pm n p)(hn:0 < n):p.getD i 0 < n:=by
 by_cases hi:i < p.size
 ·have e:p.getD i 0=p[i]:=by simp[Array.getD,hi]
  rw[e];have hm:p[i] ∈ p:=Array.getElem_mem hi;have:=h.mem_iff.mp hm
  simpa using this
 ·have e:p.getD i 0=0:=by simp[Array.getD,hi]
  omega
theorem Pm.rev{n i j:Nat}(h:Pm n p):Pm n (kas_rev p i j):=(mirror_perm p i j _).trans h
theorem ur{n:Nat}(h:Pm n p)(hn:0 < n):∀f m,KT n (λ_=>True) (kas_asc p f m)
 |0,_=>trivial
 | f+1,m=>⟨h.at hn,h.at hn,λb=>by
  cases b with
  |true=>exact trivial
  | false=>exact ur h hn f (m+1)⟩
theorem kT{n:Nat}(hn:0 < n):∀f (p:Array Nat) m q,Pm n p->KT n (λr:Array Nat × Nat × Nat=>Pm n r.1) (kas_desc f p m q)
 |0,p,m,q,h=>h
 | f+1,p,m,q,h=>⟨h.at hn,h.at hn,λb=>by
  cases b with
  |true=>
   show KT n _ (if q > 0 then kas_desc f (kas_rev p (m - (q+1)) m) (m+1) 0 else kas_desc f p (m+1) 0);split
   ·exact kT hn f _ _ _ h.rev
   ·exact kT hn f _ _ _ h
  | false=>exact⟨h.at hn,h.at hn,λd=>by
   cases d with
   |true=>exact h
   | false=>exact kT hn f _ _ _ h⟩⟩
theorem rQ{n:Nat}{p:Array Nat}(hn:0 < n)(h:Pm n p)(m r:Nat):KT n (λr:Nat × Array Nat=>Pm n r.2) (kas_tail3 m r p):=KT.bind (P:=λ_=>True) (f:=λm=>KasT.ret (m,kas_rev p 0 _)) (λ_ _=>(show KT n (λr:Nat × Array Nat=>Pm n r.2) (KasT.ret (_,kas_rev p 0 _)) from h.rev)) (ur h.rev hn _ _)
theorem kh{n:Nat}{p:Array Nat}(hn:0 < n)(h:Pm n p)(m r:Nat):KT n (λr:Nat × Array Nat=>Pm n r.2) (kas_descPart m r p):=KT.bind (λa ha=>by
 show KT n _ (if a.2.2 > 0 then _ else _);split
 ·exact rQ hn (Pm.rev ha) _ _
 ·exact rQ hn ha _ _) (kT hn _ _ _ _ h)
theorem Au{n:Nat}{p:Array Nat}(hn:0 < n)(h:Pm n p)(r:Nat):KT n (λr:Nat × Array Nat=>Pm n r.2) (kas_count r p):=KT.bind (λa _=>by
 show KT n _ (if (a == r)=true then _ else if a > 1 then _ else _);split
 ·exact h
 ·split
  ·exact⟨h.at hn,h.at hn,λb=>by
    cases b with
    |true=>exact h
    | false=>exact kh hn h.rev _ _⟩
  ·exact kh hn h _ _) (ur h hn _ _)
theorem mj{n:Nat}{p:Array Nat}(hn:0 < n)(h:Pm n p)(m:Nat):∀f l r,KT n (λ_=>True) (kas_place p m f l r)
 |0,_,_=>trivial
 |f+1,l,r=>by
  show KT n _ (if l ≥ r then _ else _);split
  ·exact trivial
  ·exact⟨h.at hn,h.at hn,λb=>by
    cases b with
    |true=>exact mj hn h m f _ _
    | false=>exact mj hn h m f _ _⟩
theorem Av{n:Nat}(hn:0 < n):∀f (p:Array Nat) m,Pm n p->KT n (Pm n) (kas_bin f p m)
 |0,p,_,h=>h
 |f+1,p,m,h=>KT.bind (λl _=>Av hn f _ _ ((bubble_perm p m _).trans h)) (mj hn h m _ _ _)
theorem qk{n:Nat}(hn:0 < n):KT n (Pm n) (kas_sort n):=KT.bind (λr hr=>by
 show KT n _ (if r.1 < n then _ else _);split
 ·exact Av hn _ _ _ hr
 ·exact hr) (Au hn (Array.Perm.refl _) n)
section
variable {prog:Program} {w:World} {A:Around} {E:Value->Shared->Prop} {s:Shared}
theorem ql{a:Addr}{vs:List Value}{n:Nat}{P:PySem.Fin->Shared->Prop}(ho:s.heap.get? a=some (seqObj "list" vs.toArray n))(h64:vs.length < 64)(κ:SortKind)(lt:Nat->Nat->Bool)
  (hk:2<=vs.length->∀ (Q:SortKind->Shared->Prop),Q κ { s with heap:=((s.heap.update a (Obj.mapSeq λ_=>#[])).push (seqObj "tuple" vs.toArray 0)).push (seqObj "list" #[] 0) }->wpAny (model prog w) A (keyKind' vs.toArray) Q E { s with heap:=((s.heap.update a (Obj.mapSeq λ_=>#[])).push (seqObj "tuple" vs.toArray 0)).push (seqObj "list" #[] 0) })
  (hlt:∀i j,i < vs.length->j < vs.length->∀C:Bool->Shared->Prop,C (lt i j) { s with heap:=((s.heap.update a (Obj.mapSeq λ_=>#[])).push (seqObj "tuple" vs.toArray 0)).push (seqObj "list" #[] 0) } ->
   kas_ask prog w A κ vs i j C { s with heap:=((s.heap.update a (Obj.mapSeq λ_=>#[])).push (seqObj "tuple" vs.toArray 0)).push (seqObj "list" #[] 0) })
  (h:P (.done (.ret .none)) { s with heap:=sortedHeap s.heap a vs (if vs.length < 2 then vs.toArray else Y7 ((eR lt (kas_sort vs.length)).toList.map λi=>vs.getD i Value.none)) }) :
  wpAny (model prog w) A (Builtin.«list.sort» ⟨[.ref a],[]⟩) P E s:=by
 rw[list_sort_plain];have ha:a < s.heap.objs.size:=Zo ho;refine Uo (listItems_at ho rfl ?_);refine Uo (listUpdate_at ho rfl ?_);obtain⟨e1,ho1⟩:∃e1,(s.heap.update a (Obj.mapSeq λ_=>#[])).get? a=some (seqObj "list" #[] e1):=⟨_,get?_update_seq ho (λ_=>#[])⟩;refine Uo (seqEpoch_at ho1 rfl ?_);refine Uo (wpAny_newTuple ?_);refine Uo (wpAny_newList ?_);refine Uw ?_
 have ho6:(((s.heap.update a (Obj.mapSeq λ_=>#[])).push (seqObj "tuple" vs.toArray 0)).push (seqObj "list" #[] 0)).get? a=some (seqObj "list" #[] e1):=by
  rw[XH _ _ _ (by rw[size_push',Y3];exact Zx (YY ha)),XH _ _ _ (by rw[Y3];exact Zx ha)];exact ho1
 show wpAny (model prog w) A _ P E { s with heap:=((s.heap.update a (Obj.mapSeq λ_=>#[])).push (seqObj "tuple" vs.toArray 0)).push (seqObj "list" #[] 0) };dsimp only;have hsz:vs.toArray.size=vs.length:=by simp
 by_cases h2:vs.toArray.size < 2
 ·rw[if_pos h2,if_pos h2];refine Uo (UH ?_);rw[StateT.run_pure];refine Uo (UH ?_);dsimp only;refine Uo (seqEpoch_at ho6 rfl ?_);refine Uo (listUpdate_at ho6 rfl ?_ (hsz2:=by rw[Array.size_map];show(pairsOf vs).size<=_;rw[pairsOf_size,Ua];omega));simp only[bne_self_eq_false,ZY,if_false];rw[if_pos (by rw[<-hsz];exact h2)] at h
  have e:Array.map (λx:Keyed=>x.2) (vs.toArray.zip vs.toArray)=vs.toArray:=by
   apply Array.toList_inj.mp;rw[Array.toList_map,Array.toList_zip,List.map_snd_zip (by simp)]
  refine UH ?_;show P _ { s with heap:=sortedHeap s.heap a vs (Array.map (λx:Keyed=>x.2) (vs.toArray.zip vs.toArray)) };rw[e];exact h
 ·have h2':2<=vs.length:=by omega
  rw[if_neg h2,if_neg h2];rw[if_neg (by omega)] at h;refine Uo (hk h2' _ ?_)
  refine Uo (UC (PySem.W.kat_run (κ:=κ) (ks:=vs) (Q:=λst' s'=>s'={ s with heap:=((s.heap.update a (Obj.mapSeq λ_=>#[])).push (seqObj "tuple" vs.toArray 0)).push (seqObj "list" #[] 0) }/\arrOf st'=(eR lt (kas_sort vs.length)).map (PySem.W.kas_item (vs.toArray.zip vs.toArray))/\(eR lt (kas_sort vs.length)).size=vs.length/\failedOf st'=none)
   (G:=λp s'=>s'={ s with heap:=((s.heap.update a (Obj.mapSeq λ_=>#[])).push (seqObj "tuple" vs.toArray 0)).push (seqObj "list" #[] 0) }/\p=eR lt (kas_sort vs.length)) rfl h2' h64 (λp st' s' a1 a2 a3 a4=>⟨a4.1,a4.2 ▸ a2,a4.2 ▸ a1,a3⟩) (rP hlt (qk (by omega)) ⟨rfl,rfl⟩)) ?_ λ_ _ e=>e)
  rintro⟨⟨⟩,st'⟩ s' ⟨rfl,har,hsz',hf⟩;dsimp only;have hout:=PySem.W.kat_snds rfl har;refine Uo (seqEpoch_at ho6 rfl ?_);rw[hout];refine Uo (listUpdate_at ho6 rfl ?_ (hsz2:=by rw[Zl,Za,ZD,hsz',Ua];omega));rw[hf];simp only[bne_self_eq_false,ZY,if_false];exact UH h
end
section
variable {prog:Program} {w:World} {A:Around} {E:Value->Shared->Prop} {s:Shared}
theorem yk(hl:s.heap.IsList l vs.toArray)(h64:vs.length < 64)(κ:SortKind)(lt:Nat->Nat->Bool)
  (hk:2<=vs.length->∀ (A:Around) (s':Shared),(∀b o,s.heap.get? b=some o->s'.heap.get? b=some o)->∀ (E:Value->Shared->Prop) (Q:SortKind->Shared->Prop),Q κ s'->wpAny (model prog w) A (keyKind' vs.toArray) Q E s')
  (hlt:∀ (A:Around) (s':Shared),(∀b o,s.heap.get? b=some o->s'.heap.get? b=some o)->∀i j,i < vs.length->j < vs.length->∀C:Bool->Shared->Prop,C (lt i j) s'->kas_ask prog w A κ vs i j C s')
  (h:Q (.ref (s.heap.objs.size+1)) { s with heap:=sortedAll s.heap vs (if vs.length < 2 then vs.toArray else Y7 ((eR lt (kas_sort vs.length)).toList.map λi=>vs.getD i Value.none)) }) :
  wpAny (model prog w) A (call (.builtin "sorted") [.ref l]) Q E s:=by
 refine Calls.call_function_entry kind_sorted plain_sorted entry_sorted (args_sorted1 _) ?_;unfold Builtin.«sorted»;refine Uo (m:=checkCount "sorted" 1 1 _) (UH ?_);refine Uo (collect_list hl ?_);refine Uo (wpAny_newList ?_)
 have hsz:((s.heap.push (seqObj "list" #[] 0)).update s.heap.objs.size (Obj.mapSeq (·++vs.toArray))).objs.size=s.heap.objs.size+1:=by
  rw[Y3,size_push']
 have hoL:(((s.heap.push (seqObj "list" #[] 0)).update s.heap.objs.size (Obj.mapSeq (·++vs.toArray))).push (seqObj "list" vs.toArray 0)).get? (s.heap.objs.size+1)=some (seqObj "list" vs.toArray 0):=by
  rw[<-hsz];exact ZB _ rfl
 have keep:∀b o,s.heap.get? b=some o->(((((s.heap.push (seqObj "list" #[] 0)).update s.heap.objs.size (Obj.mapSeq (·++vs.toArray))).push (seqObj "list" vs.toArray 0)).update (s.heap.objs.size+1) (Obj.mapSeq λ_=>#[])).push (seqObj "tuple" vs.toArray 0)).get? b=some o:=λb o q=>by
  have hlt:b < s.heap.objs.size:=Zo q;refine Zi _ ?_;rw[Xp _ _ _ _ (Zx (YY hlt))];refine Zi _ ?_;rw[Xp _ _ _ _ (Zx hlt)];exact Zi _ q
 show wpAny _ _ _ _ _ { s with heap:=((s.heap.push (seqObj "list" #[] 0)).update s.heap.objs.size (Obj.mapSeq (·++vs.toArray))).push (seqObj "list" vs.toArray 0) };rw[hsz];refine Uo (Uw (Uq slot_list_sort ⟨_,hoL,rfl⟩ entry_list_sort (ql hoL h64 κ lt (λh2 Q q=>hk h2 _ _ (λb o z=>Zi _ (keep b o z)) _ Q q) (λi j hi hj C c=>hlt _ _ (λb o z=>Zi _ (keep b o z)) i j hi hj C c) ⟨_,rfl,?_⟩) (args_list_sort _)));exact UH ⟨_,rfl,h⟩
abbrev ut(x y:Int × Int):Bool:=if x.1 == y.1 then (if x.2 == y.2 then false else decide (x.2 < y.2)) else decide (x.1 < y.1)
theorem Aw{a b c d:Int}{n k:Nat}(hx:s.heap.get? x=some ox)(dx:ox.data = .seq #[.int a t1,.int b t2] n)(hy:s.heap.get? y=some oy)(dy:oy.data = .seq #[.int c t3,.int d t4] k)
  (h:C (ut (a,b) (c,d)) s):wpAny (model prog w) A (keyLt' (tuples' true) (.ref x) (.ref y)) C E s:=by
 refine PySem.W.kat_lt hx dx hy dy ?_;show PySem.W.KatLex prog w A true _ C [(.int a t1,.int c t3),(.int b t2,.int d t4)] 0 s;unfold ut at h;refine Us ?_;cases h1:a == c with
 |true=>
  rw[if_pos rfl];simp only[h1,if_true] at h;refine Us ?_;cases h2:b == d with
  |true=>rw[if_pos rfl];simp only[h2,if_true] at h;exact h
  |false=>
   rw[if_neg Zd];simp only[h2,ZY,if_false] at h;exact PySem.W.kat_one _ _ (lt_int h)
 |false=>
  rw[if_neg Zd];simp only[h1,ZY,if_false] at h;exact oneLt_int h
end
end Ev
namespace Ev
open PySem PySem.Spec PyProof.Rows L2
open PySem.W (kas_sort KatTups)
section
variable {X:Cx} {K:W6} {m:List Addr} {H:Hp} {S:Sto}
inductive PairsV(H:Hp):List V->List (Int × Int)->Prop where
 |nil:PairsV H [] []
 |cons {r:Addr} {x y:Int} {vs:List V} {ps:List (Int × Int)}:H r=some (.tup [.int x,.int y])->PairsV H vs ps->PairsV H (.ref r::vs) ((x,y)::ps)
abbrev n8(ps:List (Int × Int))(i j:Nat):Bool:=ut (ps.getD i (0,0)) (ps.getD j (0,0))
abbrev cY{α:Type}(ps:List (Int × Int))(d:α)(vs:List α):List α:=if vs.length < 2 then vs else (eR (n8 ps) (kas_sort vs.length)).toList.map λi=>vs.getD i d
theorem PairsV.len{vs:List V}{ps:List (Int × Int)}(h:PairsV H vs ps):vs.length=ps.length:=by
 induction h with
 |nil=>rfl
 |cons _ _ ih=>simp[ih]
def Ht(h:Heap)(v:Value)(q:Int × Int):Prop:=∃r o t1 t2 n,v = .ref r/\h.get? r=some o/\o.cls = .type "tuple"/\o.data = .seq #[.int q.1 t1,.int q.2 t2] n
theorem PairsV.heap{pins:List (Addr × Obj)}{s:Shared}{σ:L2.St}(I:Inv X pins σ H s){vs:List V}{ps:List (Int × Int)}(h:PairsV H vs ps):∀ {its:List Value},aN vs its->∀ (i:Nat),i < its.length->Ht s.heap (its.getD i Value.none) (ps.getD i (0,0)):=by
 induction h with
 |nil=>intro its r i hi;cases r;simp at hi
 |@cons r x y vs ps hr _ ih=>
  intro its rv i hi;cases rv with
  |@cons _ u _ us r1 r2=>
   cases i with
   |zero=>
    cases r1;obtain⟨it2,rr,⟨o,e,hc,n,hd⟩,_⟩:=I.tuple (SqT.of (K:=X.K) hr);obtain⟨a,b,rfl,⟨t1,rfl⟩,⟨t2,rfl⟩⟩:=vS rr;exact⟨r,o,t1,t2,n,rfl,e,hc,hd⟩
   |succ i=>
    have:=ih r2 i (by simpa using hi)
    simpa using this
theorem wb{h:Heap}:∀ {its:List Value} {ps:List (Int × Int)},(∀i,i < its.length->Ht h (its.getD i Value.none) (ps.getD i (0,0)))->∃fs:List Value,KatTups h its fs/\fs.length=its.length/\∀v ∈ fs,∃i t,v = .int i t
 |[],_,_=>⟨[],KatTups.nil,rfl,λv hv=>by simp at hv⟩
 |v::its,ps,hp=>by
  obtain⟨r,o,t1,t2,n,ev,e,hc,hd⟩:=hp 0 (by simp)
  obtain⟨fs,k,hl,hi⟩:=wb (its:=its) (ps:=ps.tail) λi hi=>by
   have:=hp (i+1) (by simpa using hi);cases ps with
   |nil=>simpa using this
   |cons _ _=>simpa using this
  have ev':v = .ref r:=by simpa using ev
  subst ev'
  exact⟨.int (ps.getD 0 (0,0)).1 t1::fs,KatTups.cons e hc hd rfl k,by simp[hl],λw hw=>by
   rcases Zk.mp hw with rfl |hw
   ·exact⟨_,_,rfl⟩
   ·exact hi w hw⟩
theorem El(r:aN vs its){i:Nat}(hi:i < vs.length):aI (vs.getD i .non) (its.getD i Value.none):=by
 obtain⟨u,e,ru⟩:=r.get (gEG hi);rw[Yk,Yk,gEG hi,e];exact ru
theorem oO{vs:List V}{its:List Value}(r:aN vs its):∀ (l:List Nat),(∀i ∈ l,i < vs.length)->aN (l.map λi=>vs.getD i .non) (l.map λi=>its.getD i Value.none)
 |[],_=>.nil
 |i::l,h=>.cons (El r (h i Zg)) (oO r l λj hj=>h j (Zf _ hj))
theorem qm{n:Nat}{lt:Nat->Nat->Bool}(hn:0 < n):(∀i ∈ (eR lt (kas_sort n)).toList,i < n)/\(eR lt (kas_sort n)).toList.length=n:=by
 have h:Pm n (eR lt (kas_sort n)):=(qk hn).run;refine⟨λi hi=>?_,?_⟩
 ·have:=h.mem_iff.mp (Xg.mp hi)
  simpa using this
 ·have:=h.size_eq;rw[ZD,this];simp
theorem uu{α:Type}{ps:List (Int × Int)}{d:α}{vs:List α}:(cY ps d vs).length=vs.length:=by
 unfold cY;split
 ·rfl
 ·rw[Za,(qm (by lia)).2]
theorem uv:aP X (.builtin "sorted") (λxs H Q=>∃a vs ps,xs=[.ref a]/\SqL X.K H a vs/\PairsV H vs ps/\vs.length < 64/\∀p,H p=none->Q (.ref p) (upd H p (.lst (cY ps .non vs)))):=by
 show 8;obtain⟨a,vs,ps,rfl,sq,pv,h64,q⟩:=h;obtain⟨u,rfl,ru⟩:=b5 r;cases ru;obtain⟨its,rv,pl,hz⟩:=I.list sq;have hlen:=rv.length;have ph:=pv.heap I rv;have hl2:=pv.len;refine yk pl.isList (by lia) (tuples' true) (n8 ps) (λh2 A s' kp E Q' hq=>?_) (λA s' kp i j hi hj C hC=>?_) ?_
 ·obtain⟨fs,kt,hf,hi⟩:=wb (h:=s'.heap) λi hi=>by
   obtain⟨r,o,t1,t2,n,e1,e2,e3,e4⟩:=ph i hi;exact⟨r,o,t1,t2,n,e1,kp _ _ e2,e3,e4⟩
  refine PySem.W.kat_kind (T:=.type "int") kt (by lia) (λv hv=>?_) (by decide) hq;obtain⟨i,t,rfl⟩:=hi v hv;exact PySem.W.Looks.of_pure rfl
 ·obtain⟨r1,o1,t1,t2,n1,a1,a2,a3,a4⟩:=ph i hi;obtain⟨r2,o2,t3,t4,n2,b1,b2,b3,b4⟩:=ph j hj;show wpAny _ A (keyLt' (tuples' true) (its.getD i Value.none) (its.getD j Value.none)) C _ s';rw[a1,b1];exact Aw (kp _ _ a2) a4 (kp _ _ b2) b4 hC
 ·have hv:aN (cY ps .non vs) (if its.length < 2 then its else (eR (n8 ps) (kas_sort its.length)).toList.map λi=>its.getD i Value.none):=by
   unfold cY;rw[hlen];split
   ·exact rv
   ·exact oO rv _ λi hi=>by rw[hlen];exact(qm (by lia)).1 i hi
  have eo:(if its.length < 2 then its.toArray else Y7 ((eR (n8 ps) (kas_sort its.length)).toList.map λi=>its.getD i Value.none))=(if its.length < 2 then its else (eR (n8 ps) (kas_sort its.length)).toList.map λi=>its.getD i Value.none).toArray:=by split <;> rfl
  rw[eo];obtain⟨e,he⟩:=sortedAll_at s.heap its (if its.length < 2 then its else (eR (n8 ps) (kas_sort its.length)).toList.map λi=>its.getD i Value.none).toArray;exact⟨.ref (s.heap.objs.size+1),_,I.laid (t':=s.toks) (a:=s.heap.objs.size+1) (o:=.lst (cY ps .non vs)) (λb o z=>sortedAll_old z) (Yu _) ⟨by rw[uu];exact hz,_,e,hv,he⟩,rfl,q _ (I.hok.fresh (Yu _))⟩
abbrev uw(x:Int):List Int->List Int
 |[]=>[x]
 |y::l=>if x<=y then x::y::l else y::uw x l
abbrev fN:List Int->List Int
 |[]=>[]
 |x::l=>uw x (fN l)
theorem jG(x:Int):∀l,(uw x l).Perm (x::l)
 |[]=>List.Perm.refl _
 |y::l=>by
  unfold uw;split
  ·exact List.Perm.refl _
  ·exact((jG x l).cons y).trans (List.Perm.swap x y l)
theorem cr:∀l,(fN l).Perm l
 |[]=>List.Perm.refl _
 |x::l=>(jG x (fN l)).trans ((cr l).cons x)
theorem ki(x:Int):∀l:List Int,l.Pairwise (·<=·)->(uw x l).Pairwise (·<=·)
 |[],_=>by unfold uw;simp
 |y::l,h=>by
  unfold uw;rw[Yl] at h;split
  ·rename_i c;refine Yl.mpr ⟨λz hz=>?_,Yl.mpr h⟩;rcases Zk.mp hz with rfl |hz
   ·exact c
   ·have:=h.1 z hz;lia
  ·rename_i c;refine Yl.mpr ⟨λz hz=>?_,ki x l h.2⟩;rcases Zk.mp ((jG x l).mem_iff.mp hz) with rfl |hz
   ·lia
   ·exact h.1 z hz
theorem eS:∀l,(fN l).Pairwise (·<=·)
 |[]=>List.Pairwise.nil
 |x::l=>ki x _ (eS l)
theorem ml:∀ {a b:List Int},a.Perm b->a.Pairwise (·<=·)->b.Pairwise (·<=·)->a=b
 |[],b,p,_,_=>(List.Perm.nil_eq p)
 |x::a,[],p,_,_=>(List.Perm.nil_eq p.symm).symm
 |x::a,y::b,p,ha,hb=>by
  rw[Yl] at ha hb
  have e:x=y:=by
   have h1:=p.mem_iff.mp (Zg (a:=x) (l:=a));have h2:=p.mem_iff.mpr (Zg (a:=y) (l:=b));rcases Zk.mp h1 with rfl |h1
   ·rfl
   ·rcases Zk.mp h2 with h2 |h2
    ·exact h2.symm
    ·have:=ha.1 y h2;have:=hb.1 x h1
     lia
  subst e;rw[ml (List.Perm.cons_inv p) ha.2 hb.2]
theorem bJ:∀ {ns:List Int} {us:List Value},aN (ns.map V.int) us->IntsAre us ns
 |[],_,h=>by cases h;exact .nil
 |n::ns,_,h=>by
  cases h with
  |cons r1 r2=>obtain⟨t,rfl⟩:=r1;exact .cons n t (bJ r2)
theorem ux:aP X (.builtin "sorted") (λxs H Q=>∃a ns,xs=[.ref a]/\SqL X.K H a (ns.map V.int)/\ns.length < 64/\∀p,H p=none->Q (.ref p) (upd H p (.lst ((fN ns).map V.int)))):=by
 show 8;obtain⟨a,ns,rfl,sq,h64,q⟩:=h;obtain⟨u,rfl,ru⟩:=b5 r;cases ru;obtain⟨its,rv,pl,hz⟩:=I.list sq;have hlen:=rv.length;rw[Za] at hlen hz;refine sorted_ints pl.isList (bJ rv) (by lia) λout ns' h1 h2 h3=>?_;have e:ns'=fN ns:=ml (h2.trans (cr ns).symm) h3 (eS ns);subst e;obtain⟨e,he⟩:=sortedAll_at s.heap its out;refine⟨.ref (s.heap.objs.size+1),_,I.laid (t':=s.toks) (a:=s.heap.objs.size+1) (o:=.lst ((fN ns).map V.int)) (λb o z=>sortedAll_old z) (Yu _) ⟨by rw[Za,(cr ns).length_eq];exact hz,out.toList,e,jz h1,by simpa using he⟩,rfl,q _ (I.hok.fresh (Yu _))⟩
abbrev mo:D->Option (Int × Int)
 |.tup [.int a,.int b]=>some (a,b)
 |_=>none
abbrev dI:List D->Option (List (Int × Int))
 |[]=>some []
 |d::ds=>match mo d,dI ds with
  |some p,some ps=>some (p::ps)
  |_,_=>none
abbrev gW:List D->Option (List Int)
 |[]=>some []
 |d::ds=>match d,gW ds with
  |.int i,some ms=>some (i::ms)
  |_,_=>none
abbrev uy(_:Bool)(ds:List D):Option (List D):=match dI ds with
 |some ps=>if ds.length < 64 then some (cY ps .non ds) else none
 | none=>(match gW ds with
  |some ns=>if ns.length < 64 then some ((fN ns).map D.int) else none
  | none=>none)
theorem fO:∀ {ds:List D} {ns:List Int},gW ds=some ns->ds=ns.map D.int
 |[],_,e=>by cases e;rfl
 |d::ds,ns,e=>by
  simp only[gW] at e;split at e
  ·rename_i i ms h1;cases e;rw[fO h1];rfl
  ·cases e
theorem eu:∀ {ns:List Int} {vs:List V},VDs K m H (ns.map D.int) vs->vs=ns.map V.int
 |[],_,h=>by rw[Yc,VDs] at h;exact h
 |n::ns,_,h=>by
  rw[Zv,VDs] at h;obtain⟨v,r,rfl,h1,h2⟩:=h;rw[h1.ints,eu h2];rfl
theorem oP:∀ (ns:List Int),VDs K m H (ns.map D.int) (ns.map V.int)
 |[]=>by rw[Yc,Yc,VDs]
 |n::ns=>by rw[Zv,Zv,VDs];exact⟨_,_,rfl,aX,oP ns⟩
theorem rR:∀ {ds:List D} {vs:List V} {ps:List (Int × Int)},dI ds=some ps->VDs K m H ds vs->PairsV H vs ps
 |[],vs,ps,e,h=>by rw[VDs] at h;subst h;cases e;exact .nil
 |d::ds,vs,ps,e,h=>by
  rw[VDs] at h;obtain⟨v,r,rfl,h1,h2⟩:=h;simp only[dI] at e;cases hd:mo d with
  |none=>rw[hd] at e;cases e
  |some p=>
   cases hr:dI ds with
   |none=>rw[hd,hr] at e;cases e
   |some qs=>
    rw[hd,hr] at e;cases e;unfold mo at hd;split at hd
    ·cases hd;obtain⟨a,xs,rfl,hH,vx⟩:=h1.tups;obtain⟨x,y,rfl,v1,v2⟩:=um vx;cases v1.ints;cases v2.ints;exact .cons hH (rR hr h2)
    ·cases hd
theorem wc(h:VDs K m H ds vs):∀ (l:List Nat),(∀i ∈ l,i < ds.length)->VDs K m H (l.map λi=>ds.getD i .non) (l.map λi=>vs.getD i .non)
 |[],_=>by rw[Yc,Yc,VDs]
 |i::l,hl=>by
  rw[Zv,Zv,VDs];obtain⟨v,e,vv⟩:=h.get (gEG (hl i Zg));refine⟨_,_,rfl,?_,wc h l λj hj=>hl j (Zf _ hj)⟩;rw[Yk,Yk,gEG (hl i Zg),e];exact vv
theorem oQ:aP X (.builtin "sorted") (r1 (rTm X.K λtu ds=>if tu=false then uy tu ds else none)):=by
 refine aP.imp (aP.or uv ux) λxs H Q h=>?_;obtain⟨_,rfl,m,S,tu,ds,a,vs,es,R,rfl,sq,vd,e,q⟩:=b7 h;cases tu with
 |true=>cases e
 |false=>
  have e:uy false ds=some es:=by simpa using e
  unfold uy at e;cases hp:dI ds with
  |none=>
   rw[hp] at e;dsimp only at e;cases hi:gW ds with
   |none=>rw[hi] at e;cases e
   |some ns=>
    rw[hi] at e;dsimp only at e;split at e
    ·rename_i hl;cases e;have ed:=fO hi;subst ed;have ev:=eu vd;subst ev;exact .inr ⟨a,ns,rfl,sq,hl,kR R (oP _) q⟩
    ·cases e
  |some ps=>
   rw[hp] at e;dsimp only at e;split at e
   ·rename_i hl;cases e;have hlen:=vd.length;refine .inl ⟨a,vs,ps,rfl,sq,rR hp vd,by lia,kR R ?_ q⟩;unfold cY;rw[<-hlen];split
    ·exact vd
    ·exact wc vd _ λi hi=>(qm (by lia)).1 i hi
   ·cases e
end
end Ev
namespace Ev
open PySem PySem.Spec PyProof.Rows L2
abbrev cZ:List Int->Int
 |[]=>0
 |n::ns=>ns.foldl (λa b=>if a < b then b else a) n
theorem fP:∀ (ns:List Int) (n:Int),(ns.foldl (λa b=>if a < b then b else a) n) ∈ n::ns/\∀x ∈ n::ns,x<=ns.foldl (λa b=>if a < b then b else a) n
 |[],n=>⟨Zg,λx hx=>by simp at hx;subst hx;exact ZS _⟩
 |m::ns,n=>by
  obtain⟨h1,h2⟩:=fP ns (if n < m then m else n);rw[XX];refine⟨?_,λx hx=>?_⟩
  ·rcases Zk.mp h1 with h |h
   ·rw[h];split <;> simp
   ·exact Zf _ (Zf _ h)
  ·have h0:=h2 _ Zg;rcases Zk.mp hx with rfl |hx
   ·split at h0 <;> split <;> omega
   ·rcases Zk.mp hx with rfl |hx
    ·split at h0 <;> split <;> omega
    ·exact h2 x (Zf _ hx)
theorem uz{M:Int}(h1:M ∈ ns)(h2:∀a,a ∈ ns->a<=M):M=cZ ns:=by
 cases ns with
 |nil=>simp at h1
 |cons n ns=>
  obtain⟨a,b⟩:=fP ns n;have:=h2 _ a;have:=b _ h1;show M=ns.foldl _ n;omega
section
variable {X:Cx} {K:W6} {m:List Addr} {H:Hp} {S:Sto}
theorem ym(hc:X.calm=true):aP X (.builtin "max") (λxs H Q=>∃a ns,xs=[.ref a]/\SqL X.K H a (ns.map V.int)/\ns ≠ []/\Q (.int (cZ ns)) H):=by
 show 8;obtain⟨a,ns,rfl,sq,hne,q⟩:=h;obtain⟨u,rfl,ru⟩:=b5 r;cases ru;obtain⟨its,rv,pl,hz⟩:=I.list sq;have hi:=bJ rv;have hl:=pl.isList;obtain⟨ys,e⟩:=hi.allInts.items
 have hns:ns=ys.toList.map (·.1):=by
  have h1:=hi.numsOf;rw[<-V2,<-e];exact h1.symm
 have hsz:0 < ys.size:=by
  have h3:0 < ns.length:=Xq.mpr hne;rw[hns,Za,ZD] at h3;exact h3
 rw[e] at hl;refine max_intList (I.ok.hd hc) hl hsz λv h' tk hv hk=>?_;obtain⟨t,rfl⟩:=VQ hv;obtain⟨b1,b2⟩:=argBest_gt (numAt ys) (ys.size - 1);have key:∀M:Int,M ∈ ns->(∀a,a ∈ ns->a<=M)->∃x H',Inv X pins σ H' { s with heap:=h',toks:=tk }/\aI x (.int M t)/\Q x H':=λM h1 h2=>⟨.int (cZ ns),H,I.kept hk,⟨t,by rw[uz h1 h2]⟩,q⟩;refine key _ ?_ λa ha=>?_
 ·rw[hns,V1];exact getD_mem (by rw[Za,ZD];omega)
 ·rw[hns] at ha;obtain⟨j,hj,rfl⟩:=mem_getD ha;rw[Za,ZD] at hj;rw[<-V1];exact b2 j (by omega)
theorem qo(hh:A.handled=none)(hl:s.heap.IsTuple l (VP xs))(hne:0 < xs.size)
  (h:∀v h' tk,(VP xs)[argBest (λi j=>decide (numAt xs i > numAt xs j)) (xs.size - 1)]?=some v->(∀b o,s.heap.get? b=some o->h'.get? b=some o)->Q v { s with heap:=h',toks:=tk }) :
  wpAny (model prog w) A (call (.builtin "max") [.ref l]) Q E s:=by
 have hlt:l < s.heap.objs.size:=by obtain⟨_,e,_⟩:=hl;exact Zo e
 refine call_max_walk (UK hl ?_);refine⟨_,[_,l],[_],_,_,_,_,rfl,Walks.tuple (A:=A.in1) hh _ l (Zx hlt) (VP xs),⟨⟨_,ZB _ rfl,rfl,rfl⟩,hl.push _⟩,λc hc=>?_,by simpa[VP] using hne,CmpOf.ints_gt (numAt xs) (λ_ _=>VQ),λv h' tk hP hk=>?_⟩
 ·show c < (s.heap.push _).objs.size;rw[YC];rcases Zk.mp hc with rfl |hc
  ·exact Y4 _
  ·rcases Zk.mp hc with rfl |hc
   ·exact YY hlt
   ·cases hc
 ·refine h v h' tk (by simpa[VP] using hP) λb o e=>hk b o (λhm=>?_) (Zi _ e);rcases Zk.mp hm with e1 |hm
  ·exact absurd (e1 ▸ Zo e) (ZM _)
  ·cases hm
theorem yn(hc:X.calm=true):aP X (.builtin "max") (λxs H Q=>∃a ns,xs=[.ref a]/\SqT X.K H a (ns.map V.int)/\ns ≠ []/\Q (.int (cZ ns)) H):=by
 show 8;obtain⟨a,ns,rfl,sq,hne,q⟩:=h;obtain⟨u,rfl,ru⟩:=b5 r;cases ru;obtain⟨its,rv,pl,hz⟩:=I.tuple sq;have hi:=bJ rv;have hl:s.heap.IsTuple a its.toArray:=pl;obtain⟨ys,e⟩:=hi.allInts.items
 have hns:ns=ys.toList.map (·.1):=by
  have h1:=hi.numsOf;rw[<-V2,<-e];exact h1.symm
 have hsz:0 < ys.size:=by
  have h3:0 < ns.length:=Xq.mpr hne;rw[hns,Za,ZD] at h3;exact h3
 rw[e] at hl;refine qo (I.ok.hd hc) hl hsz λv h' tk hv hk=>?_;obtain⟨t,rfl⟩:=VQ hv;obtain⟨b1,b2⟩:=argBest_gt (numAt ys) (ys.size - 1);have key:∀M:Int,M ∈ ns->(∀a,a ∈ ns->a<=M)->∃x H',Inv X pins σ H' { s with heap:=h',toks:=tk }/\aI x (.int M t)/\Q x H':=λM h1 h2=>⟨.int (cZ ns),H,I.kept hk,⟨t,by rw[uz h1 h2]⟩,q⟩;refine key _ ?_ λa ha=>?_
 ·rw[hns,V1];exact getD_mem (by rw[Za,ZD];omega)
 ·rw[hns] at ha;obtain⟨j,hj,rfl⟩:=mem_getD ha;rw[Za,ZD] at hj;rw[<-V1];exact b2 j (by omega)
abbrev kN(tu:Bool)(ds:List D)(S:Sto):Option (D × Sto):=match gW ds with
 |some (n::ns)=>some (.int (cZ (n::ns)),S)
 |_=>none
theorem yo(hc:X.calm=true):aP X (.builtin "max") (r1 (rSq X.K kN)):=by
 refine aP.imp (aP.or (ym hc) (yn hc)) λxs H Q h=>?_;obtain⟨_,rfl,m,S,tu,ds,a,vs,d,S',R,rfl,sq,vd,e,q⟩:=b7 h;unfold kN at e;split at e
 ·rename_i n ns hi;cases e;have ed:=fO hi;subst ed;have ev:=eu vd;subst ev;rcases il sq with sq |sq
  ·exact .inl ⟨a,n::ns,rfl,sq,by simp,q m H _ (Aft.refl R) aX⟩
  ·exact .inr ⟨a,n::ns,rfl,sq,by simp,q m H _ (Aft.refl R) aX⟩
 ·cases e
abbrev n9(tu:Bool)(ds:List D)(S:Sto):Option (D × Sto):=match tu,gW ds with
 |false,some ns=>some (.int (Wj ns),S)
 |_,_=>none
theorem yp(hc:X.calm=true):aP X (.builtin "sum") (λxs H Q=>∃ (a:Addr) (ns:List Int),xs=[.ref a]/\SqL X.K H a (ns.map V.int)/\Q (.int (Wj ns)) H):=by
 show 8;obtain⟨a,ns,rfl,sq,q⟩:=h;obtain⟨u,rfl,ru⟩:=b5 r;cases ru;obtain⟨its,rv,pl,hz⟩:=I.list sq;have hi:=bJ rv;have hl:=pl.isList;obtain⟨ys,e⟩:=hi.allInts.items
 have hns:ns=ys.toList.map (·.1):=by
  have h1:=hi.numsOf;rw[<-V2,<-e];exact h1.symm
 rw[e] at hl;refine sum_intListG (I.ok.hd hc) hl λh' tk t' hk=>⟨.int (Wj ns),H,I.kept hk,⟨t',?_⟩,q⟩;rw[preSum_eq,hns,ZT (by rw[Za,ZD];exact Ze _)]
theorem yq(hc:X.calm=true):aP X (.builtin "sum") (r1 (rSq X.K n9)):=by
 refine aP.imp (yp hc) λxs H Q h=>?_;obtain⟨_,rfl,m,S,tu,ds,a,vs,d,S',R,rfl,sq,vd,e,q⟩:=b7 h;unfold n9 at e;split at e
 ·rename_i ns hi;cases e;have ed:=fO hi;subst ed;have ev:=eu vd;subst ev;exact⟨a,ns,rfl,sq,q m H _ (Aft.refl R) aX⟩
 ·cases e
abbrev Ax(d:D)(S:Sto):Option (D × Sto):=match d with
 |.int i=>some (.int i,S)
 |.bl b=>some (.int (if b then 1 else 0),S)
 |_=>none
theorem yr:aP X (.type "int") (r1 (rS1 X.K Ax)):=by
 refine aP.imp xP λxs H Q h=>?_;obtain⟨x,rfl,m,S,a,d,S',R,va,e,q⟩:=b7 h;cases a with
 |int i=>cases e;exact .inl ⟨i,by rw[va.ints],q m H _ (Aft.refl R) aX⟩
 |bl b=>cases e;exact .inr ⟨b,by rw[va.bls],q m H _ (Aft.refl R) aX⟩
 |_=>cases e
end
theorem Ay(a d:Value):argsOk "max" ⟨[a],[(Str.ofString "default", d)]⟩:=by unfold argsOk;kernel_rfl
section
variable {prog:Program} {w:World} {A:Around} {R:Result->Shared->Prop} {I S:Addr} {fp wr:List Addr} {n:Nat} {P:Nat->Value->Prop} {St:Nat->Heap->Prop} {bt:Nat->Nat->Bool} {kw:List (Str × Value)}
theorem wd:(toString "max" ++ toString ".loop" : String) = "max.loop" := by decide
theorem mq(W:Walks prog w A.in1 I fp wr n P St)(gc:CmpOf prog w A.in1 .Gt P bt)(gS:S ∉ fp):∀ (m i:Nat) (s:Shared) (b:Value) (c:Nat),i+1+m=n->St (i+1) s.heap->P (argBest bt i) b->s.heap.get? S=some { cls:=.type "list", dict:=none,data:=.seq #[b,b] c,slots:=#[] } ->
  (∀v h' tk,P (argBest bt (n - 1)) v->(∀a o,a ∉ wr->a ≠ S->s.heap.get? a=some o->h'.get? a=some o)->R (.ok (.ret v)) { s with heap:=h',toks:=tk })->codeAny (model prog w) A (.builtin "max.loop" ⟨[.ref I,.none,.ref S],kw⟩) R s
 |0,i,s,b,c,e,st,pb,gs,r=>by
  have sw:S ∉ wr:=λh=>gS (W.sub _ h);refine VF Wy ?_;rw[Around.under_plainId WC _];show wpAny _ A.in1 (V8 (.ref S) >>= _) _ _ s;refine Uo (UO gs rfl ?_);show wpAny _ A.in1 (tryCatch (pyNext (.ref I)) _ >>= _) _ _ s;refine Uo (UR (W.done s _ _ (by rw[<-e];exact st) λh' tk kk=>?_));show wpAny _ A.in1 (updateSeq S (λ_=>#[]) >>= _) _ _ _;refine Uo (UT (kk S _ sw gs) rfl (Uo (Uy (UH ?_))));exact r b _ tk (by rw[<-e];exact pb) λa o aw aS z=>(Z1 _ _ (Ne.symm aS)).trans (kk a o aw z)
 |m+1,i,s,b,c,e,st,pb,gs,r=>by
  have sw:S ∉ wr:=λh=>gS (W.sub _ h);refine VF Wy ?_;rw[Around.under_plainId WC _];show wpAny _ A.in1 (V8 (.ref S) >>= _) _ _ s;refine Uo (UO gs rfl ?_);show wpAny _ A.in1 (tryCatch (pyNext (.ref I)) _ >>= _) _ _ s;refine Uo (UR (W.item (i+1) s _ _ (by lia) st λv h' tk pv st' kk=>?_));have gs':=kk S _ sw gs;show wpAny _ A.in1 (tryCatch (holding [v,v] (richCompare .Gt v b >>= _)) _ >>= _) _ _ _;refine Uo (UR (Uw (Uo (gc (i+1) (argBest bt i) v b _ _ _ pv pb ?_))));refine Uo (Uw (UQ ?_));refine Uo (Uy (UH ?_));cases hb:bt (i+1) (argBest bt i) with
  |true=>
   simp only[if_true];refine Uo (UT gs' rfl (Uo (Uy ?_)));rw[wd];refine UH ⟨V3 WC _,mq W gc gS m (i+1) _ v _ (by lia) (W.frame _ _ _ st' λa af o z=>?_) (by simp only[argBest,hb,if_true];exact pv) (YA _ gs' rfl) λv' h'' tk'' pv' k2=>?_⟩
   ·exact(Z1 _ _ (λz:S=a=>gS (by rw[z];exact af))).trans z
   ·exact r v' h'' tk'' pv' λa o aw aS z=>k2 a o aw aS ((Z1 _ _ (Ne.symm aS)).trans (kk a o aw z))
  |false=>
   simp only[ZY,if_false];refine Uo (Uy ?_);rw[wd];refine UH ⟨V3 WC _,mq W gc gS m (i+1) _ b c (by lia) st' (by simp only[argBest,hb,ZY,if_false];exact pb) gs' λv' h'' tk'' pv' k2=>?_⟩;exact r v' h'' tk'' pv' λa o aw aS z=>k2 a o aw aS (kk a o aw z)
theorem yt(W:Walks prog w A.in1 I fp wr n P St)(gc:CmpOf prog w A.in1 .Gt P bt)(gS:S ∉ fp)(gn:0 < n){c:Nat}(st:St 0 s.heap)(gs:s.heap.get? S=some { cls:=.type "list", dict:=none,data:=.seq #[] c,slots:=#[] })
  (r:∀v h' tk,P (argBest bt (n - 1)) v->(∀a o,a ∉ wr->a ≠ S->s.heap.get? a=some o->h'.get? a=some o)->R (.ok (.ret v)) { s with heap:=h',toks:=tk }):codeAny (model prog w) A (.builtin "max.loop" ⟨[.ref I,.none,.ref S],kw⟩) R s:=by
 have sw:S ∉ wr:=λh=>gS (W.sub _ h);refine VF Wy ?_;rw[Around.under_plainId WC _];show wpAny _ A.in1 (V8 (.ref S) >>= _) _ _ s;refine Uo (UO gs rfl ?_);show wpAny _ A.in1 (tryCatch (pyNext (.ref I)) _ >>= _) _ _ s;refine Uo (UR (W.item 0 s _ _ gn st λv h' tk pv st' kk=>?_));have gs':=kk S _ sw gs;show wpAny _ A.in1 (updateSeq S (λ_=>#[v,v]) >>= _) _ _ _;refine Uo (UT gs' rfl ?_);rw[wd];refine UH ⟨V3 WC _,mq W gc gS (n - 1) 0 _ v _ (by lia) (W.frame _ _ _ st' λa af o z=>?_) pv (YA _ gs' rfl) λv' h'' tk'' pv' k2=>?_⟩
 ·exact(Z1 _ _ (λz:S=a=>gS (by rw[z];exact af))).trans z
 ·exact r v' h'' tk'' pv' λa o aw aS z=>k2 a o aw aS ((Z1 _ _ (Ne.symm aS)).trans (kk a o aw z))
theorem Az(W:Walks prog w A.in1 I fp wr 0 P St)(gS:S ∉ fp){c:Nat}(st:St 0 s.heap)(gs:s.heap.get? S=some { cls:=.type "list", dict:=none,data:=.seq #[] c,slots:=#[] })
  (r:∀h' tk,(∀a o,a ∉ wr->s.heap.get? a=some o->h'.get? a=some o)->R (.ok (.ret d)) { s with heap:=h',toks:=tk }):codeAny (model prog w) A (.builtin "max.loop" ⟨[.ref I,.none,.ref S],[(Str.ofString "default", d)]⟩) R s:=by
 refine VF Wy ?_;rw[Around.under_plainId WC _];show wpAny _ A.in1 (V8 (.ref S) >>= _) _ _ s;refine Uo (UO gs rfl ?_);show wpAny _ A.in1 (tryCatch (pyNext (.ref I)) _ >>= _) _ _ s;refine Uo (UR (W.done s _ _ st λh' tk kk=>?_));exact Uo (UN (UH (r h' tk kk)))
variable {E:Value->Shared->Prop} {s:Shared} {l:Addr} {xs:Array (Int × Tok)}
theorem AA(hh:A.handled=none)(hl:s.heap.IsList l (VP xs))
  (h1:0 < xs.size->∀v h' tk,(VP xs)[argBest (λi j=>decide (numAt xs i > numAt xs j)) (xs.size - 1)]?=some v->(∀b o,s.heap.get? b=some o->h'.get? b=some o)->Q v { s with heap:=h',toks:=tk })
  (h2:xs.size=0->∀h' tk,(∀b o,s.heap.get? b=some o->h'.get? b=some o)->Q d { s with heap:=h',toks:=tk }):wpAny (model prog w) A (call (.builtin "max") [.ref l] [(Str.ofString "default", d)]) Q E s:=by
 refine kmb_tree F.kind_max F.plain_max F.entry_max (Ay _ _) ?_;show wpAny _ A.in1 (Builtin.Builtins.bindParams "max" ["key", "default"] 0 ⟨[],[(Str.ofString "default", d)]⟩ >>= _) _ _ s;refine Uo (UF (show Builtin.Builtins.bindParams "max" ["key", "default"] 0 ⟨[],[(Str.ofString "default", d)]⟩=pure [none,some d] from rfl) ?_);refine Uo (UH ?_);refine Uo (iter_intList hl λs2 e st fpl lI=>?_);subst e;have W:=Walks.list (prog:=prog) (w:=w) (A:=A.in1) hh s.heap.objs.size l lI (VP xs);refine Uo (UE ?_);have gS:∀b ∈ [s.heap.objs.size,l],b < (s.heap.push { cls:=.type "list_iterator", data:=.fields #[.ref l,.int 0 0] }).objs.size:=fpl;rw[wd];by_cases hz:xs.size=0
 ·have e0:(VP xs).size=0:=by simpa[VP] using hz
  rw[e0] at W;refine UH ⟨V3 WC _,Az W (λhm=>ZM _ (fpl _ hm)) (W.frame _ _ _ st λb _ o e=>Zi _ e) (ZB _ rfl) λh' tk hk=>?_⟩;exact h2 hz h' tk (old_kept λb o hb e=>hk b o hb (Zi _ e))
 ·refine UH ⟨V3 WC _,yt W (CmpOf.ints_gt (numAt xs) (λ_ _=>VQ)) (λhm=>ZM _ (fpl _ hm)) (by simp[VP];lia) (W.frame _ _ _ st λb _ o e=>Zi _ e) (ZB _ rfl) λv h' tk pv hk=>?_⟩;exact h1 (by lia) v h' tk (by simpa[VP] using pv) (old_kept λb o hb e=>hk b o hb (Zx (Zo e)) (Zi _ e))
end
abbrev AB(c:Int):List Int->Int
 |[]=>c
 |n::ns=>cZ (n::ns)
abbrev gX(c:Int)(tu:Bool)(ds:List D)(S:Sto):Option (D × Sto):=match tu,gW ds with
 |false,some ns=>some (.int (AB c ns),S)
 |_,_=>none
section
variable {X:Cx} {K:W6} {m:List Addr} {H:Hp} {S:Sto} {e:Expr} {t:TA} {p pos kp vp:Pos} {c:Int} {j:Nat}
theorem JQ(hc:X.calm=true)(hg:Gl X "max")(hm:X.mg "max" = none)(hdb:(("max" : Str) == ("__debug__" : Str))=false)(ha:PA X [e] t)(he:Uc [e] X.env=(false,eval e X.env)::Uc [] X.env) :
  PE X (.Call (.Name "max" p) [e] [⟨some "default", .Constant (.int c) j vp,kp⟩] pos) (tCB (r1 (rSq X.K (gX c))) t):=by
 intro pins s σ H Q I h;refine Ul (fG I hg hm Wo ?_ (by decide) hdb);refine callWith_kw (thn (ha pos pins s σ H _ I h) λus s1 ⟨vs,H1,I1,r,q1⟩=>?_) (by rw[he];rfl) (by rw[he];rfl) rfl rfl;refine thn (DG (nm:=some "default") (kpos:=kp) (lh (X:=X) (i:=c) (j:=j) (pos:=vp)) Jb pos pins s1 σ H1 _ I1 (show cP (tC (.int c)) jw σ H1 (λzs H2=>zs=[.int c]/\H2=H1) from ⟨rfl,rfl⟩)) λks s2 ⟨zs,H2,I2,rz,ez,eH⟩=>?_;subst ez eH;obtain⟨u,rfl,ru⟩:=b5 rz;obtain⟨tk,rfl⟩:=ru;obtain⟨_,rfl,m,S,tu,ds,a,ws,d,S',R,rfl,sq,vd,e',q⟩:=b7 q1;obtain⟨u',rfl,ru'⟩:=b5 r;cases ru';unfold gX at e';split at e'
 ·rename_i ns hi;cases e';have ed:=fO hi;subst ed;have ev:=eu vd;subst ev;have sq:SqL X.K H2 a (ns.map V.int):=sq;obtain⟨its,rv,pl,hz⟩:=I2.list sq;have hi:=bJ rv;have hl:=pl.isList;obtain⟨ys,ey⟩:=hi.allInts.items
  have hns:ns=ys.toList.map (·.1):=by
   have h1:=hi.numsOf;rw[<-V2,<-ey];exact h1.symm
  have hlen:ns.length=ys.size:=by rw[hns,Za,ZD]
  rw[ey] at hl;refine AA (I2.ok.hd hc) hl (λhsz v h' tk' hv hk=>?_) (λhsz h' tk' hk=>?_)
  ·obtain⟨t',rfl⟩:=VQ hv;obtain⟨b1,b2⟩:=argBest_gt (numAt ys) (ys.size - 1)
   have et:AB c ns=cZ ns:=by
    cases ns with
    |nil=>rw[YO] at hlen;lia
    |cons n ns=>rfl
   have key:∀M:Int,M ∈ ns->(∀a,a ∈ ns->a<=M)->∃x H',Inv X pins σ H' { s2 with heap:=h',toks:=tk' }/\aI x (.int M t')/\Q x H':=λM h1 h2=>⟨.int (AB c ns),H2,I2.kept hk,⟨t',by rw[uz h1 h2,et]⟩,q m H2 _ (Aft.refl R) aX⟩;refine key _ ?_ λa ha=>?_
   ·rw[hns,V1];exact getD_mem (by rw[Za,ZD];lia)
   ·rw[hns] at ha;obtain⟨j,hj,rfl⟩:=mem_getD ha;rw[Za,ZD] at hj;rw[<-V1];exact b2 j (by lia)
  ·have en:ns=[]:=Ye.mp (by lia);subst en;exact⟨.int c,H2,I2.kept hk,⟨tk,rfl⟩,q m H2 _ (Aft.refl R) aX⟩
 ·cases e'
end
section
variable {X:Cx} {K:W6} {m:List Addr} {H:Hp} {S:Sto}
abbrev eA(d:D)(S:Sto):Bool:=match d with
 |.ref n=>(aq S n).isSome
 |_=>false
abbrev isTup:D->Bool
 |.tup _=>true
 |_=>false
abbrev yu(c:D->Sto->Bool)(f:D->List D->Sto->Option (D × Sto))(x:XE)(y:XA):XE:=λρ S=>bnd (x ρ S) λd S1=>if c d S1=true then bnd (y ρ S1) λas S2=>f d as S2 else none
def rM(K:W6)(f:D->List D->Sto->Option (D × Sto)):V->List V->Hp->VK->Prop:=λv vs H Q=>∃m S a as d S',Rel K m S H/\VD K m H a v/\VDs K m H as vs/\f a as S=some (d,S')/\∀m' H' u,Aft K m H S' m' H'->VD K m' H' d u->Q u H'
theorem qp(hT:∀ {m H S d v},Rel K m S H->VD K m H d v->c d S=true->tyV K T v H)(h:tE K (yu c f x y) σ H Q):tBM K T (rM K f) (tE K x) (tAr K y) σ H Q:=by
 show 1;obtain⟨a,S1,e1,e⟩:=ai e;split at e
 ·rename_i hc;obtain⟨as,S2,e2,e⟩:=ai e;refine⟨m,ρ,S,a,S1,E,R,e1,λm1 H1 v A1 va=>⟨hT A1.rel va hc,m1,ρ,S1,as,S2,E.mono R A1.ext,A1.rel,e2,λm2 H2 vs A2 vb=>?_⟩⟩;exact⟨m2,S2,a,as,d,S',A2.rel,va.mono A1.rel A2.ext,vb,e,λm3 H3 u A3 vd=>q m3 H3 u ((A1.trans A2).trans A3) vd⟩
 ·cases e
theorem uA(R:Rel K m S H)(vd:VD K m H d v)(h:eA d S=true):tyV K "list" v H:=by
 cases d with
 |ref n=>
  simp only[eA] at h;obtain⟨ds,hs⟩:=ZV.mp h;obtain⟨p,vs,hp,sq,vds⟩:=R.seq hs;obtain⟨p',hp',rfl⟩:=vd.refs;rw[hp] at hp';cases hp';exact .inl ⟨rfl,vs,sq⟩
 |_=>cases h
theorem JR(R:Rel K m S H)(vd:VD K m H d v)(h:(λd (_:Sto)=>isTup d) d S=true):tyV K "tuple" v H:=by
 cases d with
 |tup ds=>
  obtain⟨a,vs,rfl,sq,_⟩:=vd.tups;exact .inr (.inl ⟨rfl,.inr ⟨vs,sq⟩⟩)
 |_=>cases h
abbrev chg(n:Nat)(S:Sto)(f:List D->Option (D × List D)):Option (D × Sto):=match S[n]? with
 |some (.lst ds)=>(f ds).map λr=>(r.1,S.set n (.lst r.2))
 |_=>none
theorem mr{n:Nat}(h:chg n S f=some (d,S')):∃ds es,S[n]?=some (.lst ds)/\f ds=some (d,es)/\S'=S.set n (.lst es):=by
 unfold chg at h;cases hn:S[n]? with
 |none=>rw[hn] at h;cases h
 |some o=>
  rw[hn] at h;cases o with
  |lst ds=>
   dsimp only at h;cases hf:f ds with
   |none=>rw[hf] at h;cases h
   |some r=>rw[hf] at h;cases h;exact⟨ds,r.2,rfl,hf,rfl⟩
  |_=>cases h
abbrev uB(d:D)(as:List D)(S:Sto):Option (D × Sto):=match d,as with
 |.ref n,[e]=>chg n S λds=>if ds.length < 100000 then some (.non,ds++[e]) else none
 |_,_=>none
abbrev eT(d:D)(as:List D)(S:Sto):Option (D × Sto):=match d,as with
 |.ref n,[.int i]=>chg n S λds=>match ixN ds.length i with
  |some k=>(ds[k]?).map λx=>(x,ds.eraseIdx k)
  |none=>none
 |_,_=>none
theorem qq{n:Nat}(R:Rel K m S H)(vd:VD K m H (.ref n) v)(hn:S[n]?=some (.lst ds)):∃a vs,v = .ref a/\m[n]?=some a/\H a=some (.lst vs)/\VDs K m H ds vs:=by
 obtain⟨a,vs,ha,hH,q⟩:=R.lst hn;obtain⟨a',ha',e⟩:=vd.refs;rw[ha] at ha';cases ha';exact⟨a,vs,e,ha,hH,q⟩
theorem gF{n:Nat}(R:Rel K m S H)(ha:m[n]?=some a)(vd:VDs K m H es ws):Aft K m H (S.set n (.lst es)) m (upd H a (.lst ws)):=let ⟨x,y⟩:=R.write ha vd;⟨x,y⟩
theorem JS:MtR X "list.append" (rM X.K uB):=by
 intro pins s σ H x xs v us Q I rx rs h;refine oE pins s σ H x xs v us Q I rx rs ?_;obtain⟨m,S,a,as,d,S',R,va,vs,e,q⟩:=h;unfold uB at e;split at e
 ·rename_i n z;obtain⟨ds,es,hn,hf,rfl⟩:=mr e;split at hf
  ·rename_i hl;cases hf;obtain⟨p,ws,rfl,hp,hH,vds⟩:=qq R va hn;obtain⟨y,rfl,vy⟩:=JO vs;refine⟨p,ws,y,rfl,rfl,hH,by rw[Ua,<-vds.length];lia,q m _ _ (gF R hp (vds.append (.cons vy .nil))) lY⟩
  ·cases hf
 ·cases e
theorem rT:∀ {ds:List D} {vs:List V} (k:Nat),VDs K m H ds vs->VDs K m H (ds.eraseIdx k) (vs.eraseIdx k)
 |[],vs,k,h=>by rw[VDs] at h;subst h;exact .nil
 |d::ds,vs,0,h=>by
  rw[VDs] at h;obtain⟨y,r,rfl,p,q⟩:=h;exact q
 |d::ds,vs,k+1,h=>by
  rw[VDs] at h;obtain⟨y,r,rfl,p,q⟩:=h;exact .cons p (rT k q)
theorem yv:MtR X "list.pop" (rM X.K eT):=by
 intro pins s σ H x xs v us Q I rx rs h;refine zM pins s σ H x xs v us Q I rx rs ?_;obtain⟨m,S,a,as,d,S',R,va,vs,e,q⟩:=h;unfold eT at e;split at e
 ·rename_i n i;obtain⟨ds,es,hn,hf,rfl⟩:=mr e;cases hk:ixN ds.length i with
  |none=>rw[hk] at hf;cases hf
  |some k=>
   rw[hk] at hf;dsimp only at hf;cases hl:ds[k]? with
   |none=>rw[hl] at hf;cases hf
   |some z=>
    rw[hl] at hf;cases hf;obtain⟨p,ws,rfl,hp,hH,vds⟩:=qq R va hn;obtain⟨y,rfl,vi⟩:=JO vs;cases vi.ints;obtain⟨y,hy,vy⟩:=vds.get hl;have A:=gF R hp (rT k vds);obtain⟨h1,h2,h3,h4⟩:=pT hk;have hz:=(I.lst hH).choose_spec.choose_spec.2.2;have hle:=vds.length;rw[Ua] at hz;exact⟨p,ws,i,k,y,rfl,rfl,hH,by lia,by lia,by rw[<-vds.length];exact h1,hy,q m _ _ A (vy.mono R A.ext)⟩
 ·cases e
abbrev uC(d:D)(as:List D)(S:Sto):Option (D × Sto):=match d,as with
 |.tup ds,[x]=>if cC x=true/\ds.all cC=true then some (.int (ds.countP λz=>eqF z x:Nat),S) else none
 |_,_=>none
theorem Em:MtR X "tuple.count" (rM X.K uC):=by
 intro pins s σ H x xs v us Q I rx rs h;refine x8 X.K rfl pins s σ H x xs v us Q I rx rs ?_;obtain⟨m,S,a,as,d,S',R,va,vs,e,q⟩:=h;unfold uC at e;split at e
 ·rename_i ds z;split at e
  ·rename_i hf;cases e;obtain⟨p,ws,rfl,sq,vds⟩:=va.tups;obtain⟨y,rfl,vy⟩:=JO vs;exact⟨p,ws,y,rfl,rfl,.of sq,kS vy hf.1,iU vds hf.2,q m H _ (Aft.refl R) (by rw[oM vy hf.1 vds hf.2];exact aX)⟩
  ·cases e
 ·cases e
abbrev eB(o i v:D)(S:Sto):Option Sto:=match o,i with
 | .ref n,.int k=>(match S[n]? with
  |some (.lst ds)=>(ixN ds.length k).map λj=>S.set n (.lst (ds.set j v))
  | _=>none)
 |_,_=>none
def AC(K:W6):Dv:=λo i v H Q=>∃m S a b c S',Rel K m S H/\VD K m H a o/\VD K m H b i/\VD K m H c v/\eB a b c S=some S'/\∀m' H',Aft K m H S' m' H'->Q H'
theorem AE:IG X (AC X.K):=by
 intro pins s σ H o i v ov iv u Q I ro ri rv h;refine zK pins s σ H o i v ov iv u Q I ro ri rv ?_;obtain⟨m,S,a,b,c,S',R,va,vb,vc,e,q⟩:=h;unfold eB at e;split at e
 ·rename_i n k;cases hn:S[n]? with
  |none=>rw[hn] at e;cases e
  |some ob=>
   rw[hn] at e;cases ob with
   |lst ds=>
    dsimp only at e;cases hj:ixN ds.length k with
    |none=>rw[hj] at e;cases e
    |some j=>
     rw[hj] at e;cases e;obtain⟨p,ws,rfl,hp,hH,vds⟩:=qq R va hn;cases vb.ints;exact⟨p,ws,k,j,rfl,rfl,hH,by rw[<-vds.length];exact hj,q m _ (gF R hp (vds.set vc))⟩
   |_=>cases e
 ·cases e
mutual
noncomputable def cm(t:D->Option Dw.D):List D->Option (List Dw.D)
 |[]=>some []
 |d::ds=>match t d,cm t ds with
  |some x,some xs=>some (x::xs)
  |_,_=>none
end
abbrev cH:Nat->Sto->D->Option Dw.D
 |0,_,_=>none
 |n+1,S,d=>match d with
  |.non=>some .non
  |.bl b=>some (.bl b)
  |.int i=>some (.int i)
  |.str x=>some (.str x)
  |.tup ds=>(cm (cH n S) ds).map .tup
  | .ref k=>(match S[k]? with
   |some (.lst ds)=>(cm (cH n S) ds).map .lst
   |some (.dic ks ds)=>(cm (cH n S) ds).map (.dic ks)
   | _=>none)
theorem iV(ht:∀d x v,t d=some x->VD K m H d v->Dw.Br [] H x v):∀ {ds:List D} {xs:List Dw.D} {vs:List V},cm t ds=some xs->VDs K m H ds vs->Dw.BrL [] H xs vs
 |[],xs,vs,e,h=>by rw[VDs] at h;simp only[cm] at e;cases e;rw[h,Dw.BrL]
 |d::ds,xs,vs,e,h=>by
  rw[VDs] at h;obtain⟨y,r,rfl,p,q⟩:=h;simp only[cm] at e;cases h1:t d with
  |none=>rw[h1] at e;cases e
  |some x=>
   cases h2:cm t ds with
   |none=>rw[h1,h2] at e;cases e
   |some ys=>
    rw[h1,h2] at e;cases e;rw[Dw.BrL];exact⟨y,r,rfl,ht _ _ _ h1 p,iV ht h2 q⟩
theorem oT:∀ {ds:List D} {xs:List Dw.D},cm t ds=some xs->xs.length=ds.length
 |[],xs,e=>by simp only[cm] at e;cases e;rfl
 |d::ds,xs,e=>by
  simp only[cm] at e;cases h1:t d with
  |none=>rw[h1] at e;cases e
  |some x=>
   cases h2:cm t ds with
   |none=>rw[h1,h2] at e;cases e
   |some ys=>rw[h1,h2] at e;cases e;simp[oT h2]
theorem kU(R:Rel K m S H):∀ (n:Nat) (d:D) (x:Dw.D) (v:V),cH n S d=some x->VD K m H d v->Dw.Br [] H x v
 |0,_,_,_,e,_=>by simp[cH] at e
 |n+1,d,x,v,e,h=>by
  cases d with
  |non=>simp only[cH] at e;cases e;rw[Dw.Br];exact h.nons
  |bl _=>simp only[cH] at e;cases e;rw[Dw.Br];exact h.bls
  |int _=>simp only[cH] at e;cases e;rw[Dw.Br];exact h.ints
  |str _=>simp only[cH] at e;cases e;rw[Dw.Br];exact h.strs
  |tup ds=>
   simp only[cH] at e;cases ht:cm (cH n S) ds with
   |none=>rw[ht] at e;cases e
   |some xs=>
    rw[ht] at e;cases e;obtain⟨a,vs,rfl,sq,p⟩:=h.tups;rw[Dw.Br];exact⟨a,vs,rfl,sq,iV (kU R n) ht p⟩
  |ref k=>
   simp only[cH] at e;obtain⟨a,ha,rfl⟩:=h.refs;cases hk:S[k]? with
   |none=>rw[hk] at e;cases e
   |some o=>
    rw[hk] at e;obtain⟨a',ha',r⟩:=R.ob k o hk;rw[ha] at ha';cases ha';cases o with
    |lst ds=>
     dsimp only at e;cases ht:cm (cH n S) ds with
     |none=>rw[ht] at e;cases e
     |some xs=>
      rw[ht] at e;cases e;obtain⟨vs,hH,p⟩:=r;rw[Dw.Br];exact⟨a,vs,rfl,by simp,hH,iV (kU R n) ht p⟩
    |frz ds=>cases e
    |dic ks ds=>
     dsimp only at e;cases ht:cm (cH n S) ds with
     |none=>rw[ht] at e;cases e
     |some xs=>
      rw[ht] at e;cases e;obtain⟨vs,hH,hl,p⟩:=r;rw[Dw.Br];exact⟨a,vs,rfl,by simp,hH,by rw[oT ht];exact hl,iV (kU R n) ht p⟩
open Classical in
abbrev kj(d:D)(S:Sto):Option (D × Sto):=match cH 100 S d with
 |some t=>if Dw.Shn t then some (.str (Dw.aW t).shown,S) else none
 |none=>none
theorem uD{k:Nat}(hr:Room k X.A):aP X (.builtin "repr") (r1 (rS1 X.K kj)):=by
 refine aP.imp (Dw.ub hr) λxs H Q h=>?_;obtain⟨x,rfl,m,S,a,d,S',R,va,e,q⟩:=b7 h;unfold kj at e;cases ht:cH 100 S a with
 |none=>rw[ht] at e;cases e
 |some t=>
  rw[ht] at e;dsimp only at e;split at e
  ·rename_i hs;cases e;exact⟨x,[],t,rfl,kU R 100 a t x ht va,hs,q m H _ (Aft.refl R) lZ⟩
  ·cases e
end
section
variable {X:Cx} {K:W6} {m:List Addr} {H:Hp} {S:Sto}
abbrev dr{α:Type}(xs:List α)(k:Nat)(y:α):List α:=xs.take k++y::xs.drop k
theorem JT:MtM X "list.insert" (λx vs H Q=>∃l xs i y,x = .ref l/\vs=[.int i,y]/\H l=some (.lst xs)/\0<=i/\i<=100000/\xs.length < sizeLine/\Q .non (upd H l (.lst (dr xs (min i.toNat xs.length) y)))):=by
 intro pins s σ H x vs v us Q I rx rv h;obtain⟨l,xs,i,y,rfl,rfl,hH,h0,h1,hz,q⟩:=h;cases rx;cases rv with
 |cons ri rv=>
  obtain⟨u,rfl,ru⟩:=aN.one (show aN [y] _ from rv);obtain⟨t,rfl⟩:=ri;obtain⟨z,its,n,r,hl,e⟩:=I.lstM hH
  have fit:¬ (!Builtin.List.listFitsIndex i)=true:=by
   unfold Builtin.List.listFitsIndex;simp;omega
  refine VC WG ⟨_,e,rfl⟩ F.entry_list_insert (F.args_list_insert_3 _ _ _) (PySem.AutoListH.list_insert_list_int_val_1 l its.toArray n i t u fit (by rw[Zl];omega)) ⟨e,?_⟩;have hle:xs.length=its.length:=hl;refine⟨.non,_,I.lset (its':=dr its (min i.toNat its.length) u) hH e ?_ ?_ ?_,rfl,q⟩
  ·simp only[if_neg (show ¬ i < 0 by omega),Zl];unfold dr;simp[Yd];rw[ZT (by rw[ZW];omega)]
  ·rw[hle];exact aN.append (aN.take _ r) (.cons ru (aN.drop _ r))
  ·unfold dr;rw[Zr,ZE,Zt,ZW];omega
abbrev uE(d:D)(as:List D)(S:Sto):Option (D × Sto):=match d,as with
 |.ref n,[.int i,e]=>if 0<=i/\i<=100000 then chg n S λds=>if ds.length < 100000 then some (.non,dr ds (min i.toNat ds.length) e) else none else none
 |_,_=>none
theorem JU(k:Nat)(h:VDs K m H ds vs)(hx:VD K m H x y):VDs K m H (dr ds k x) (dr vs k y):=(h.take k).append (.cons hx (h.drop k))
theorem En:MtR X "list.insert" (rM X.K uE):=by
 intro pins s σ H x xs v us Q I rx rs h;refine JT pins s σ H x xs v us Q I rx rs ?_;obtain⟨m,S,a,as,d,S',R,va,vs,e,q⟩:=h;unfold uE at e;split at e
 ·rename_i n i z;split at e
  ·rename_i hi;obtain⟨ds,es,hn,hf,rfl⟩:=mr e;split at hf
   ·rename_i hl;cases hf;obtain⟨p,ws,rfl,hp,hH,vds⟩:=qq R va hn;obtain⟨y1,y2,rfl,v1,v2⟩:=um vs;cases v1.ints;refine⟨p,ws,i,y2,rfl,rfl,hH,hi.1,hi.2,by rw[Ua,<-vds.length];omega,?_⟩;rw[<-vds.length];exact q m _ _ (gF R hp (JU _ vds v2)) lY
   ·cases hf
  ·cases e
 ·cases e
end
@[inline]abbrev Nxt:=Nat->Sto->Option (Option D)
@[inline]abbrev XI:=Rho->Sto->Option (Nxt × Sto)
structure ExtB(B:List Addr)(m:List Addr)(H:Hp)(m':List Addr)(H':Hp):Prop where
 pre:m <+: m'
 keep:∀a o,H a=some o->a ∉ m->a ∉ B->H' a=some o
 new:∀a,a ∈ m'->a ∉ m->H a=none
 nb:∀b,b ∈ B->b ∉ m'
def AtB(B:List Addr)(m:List Addr)(H:Hp):Prop:=∀b,b ∈ B->(∃vs,H b=some (.lst vs))/\b ∉ m
theorem Ext.toB(hB:AtB B m H)(x:Ext m H m' H'):ExtB B m H m' H':=⟨x.pre,λa o h n _=>x.keep a o h n,x.new,λb hb z=>by
 obtain⟨⟨vs,e⟩,n⟩:=hB b hb;have:=x.new b z n;rw[e] at this;cases this⟩
theorem ExtB.trans(x:ExtB B m H m1 H1)(y:ExtB B m1 H1 m2 H2):ExtB B m H m2 H2:=by
 refine⟨x.pre.trans y.pre,λa o h n nb=>?_,λa h n=>?_,y.nb⟩
 ·have n1:a ∉ m1:=λz=>by have:=x.new a z n;rw[this] at h;cases h
  exact y.keep a o (x.keep a o h n nb) n1 nb
 ·by_cases h1:a ∈ m1
  ·exact x.new a h1 n
  ·cases e:H a with
   |none=>rfl
   |some o=>
    by_cases hb:a ∈ B
    ·exact absurd h (y.nb a hb)
    ·have:=x.keep a o e n hb;rw[y.new a h h1] at this;cases this
theorem AtB.ext(hB:AtB B m H)(x:Ext m H m' H'):AtB B m' H':=λb hb=>by
 obtain⟨⟨vs,e⟩,n⟩:=hB b hb;exact⟨⟨vs,x.keep _ _ e n⟩,(x.toB hB).nb b hb⟩
def IOk(K:W6)(B:List Addr)(J:It)(nx:Nxt)(m0:List Addr)(H0:Hp):Prop:=∀ (m:List Addr) (S:Sto) (H:Hp) (i:Nat),ExtB B m0 H0 m H->Rel K m S H ->
 (nx i S=some none->J.stop i H)/\(∀d,nx i S=some (some d)->J.go i H/\∀x H',J.yld i H x H'->Aft K m H S m H'/\VD K m H' d x)
def tIt(K:W6)(B:List Addr)(x:XI):TI:=λσ H R=>∃m ρ S nx S',EnvR K m H ρ σ/\Rel K m S H/\AtB B m H/\x ρ S=some (nx,S')/\∀m' H' J,Aft K m H S' m' H'->IOk K B J nx m' H'->R J H'
abbrev nxL(ds:List D):Nxt:=λi _=>some ds[i]?
abbrev nxS(n:Nat):Nxt:=λi S=>(aq S n).map λds=>ds[i]?
abbrev nxR(lo:Int)(n:Nat):Nxt:=λi _=>some (if i < n then some (.int (lo+i)) else none)
abbrev bG(i:Nat)(d:D):D:=.tup [.int i,d]
abbrev enm(ds:List D)(i:Nat):Option (Option D):=if i<=ds.length then some (ds[i]?.map (bG i)) else none
abbrev yw(ds:List D):Nxt:=λi _=>enm ds i
abbrev yx(n:Nat):Nxt:=λi S=>(aq S n).bind λds=>enm ds i
section
variable {X:Cx} {K:W6} {m B:List Addr} {H:Hp} {S:Sto}
theorem Eo(R:Rel K m0 S0 H0)(hB:AtB B m0 H0)(x:ExtB B m0 H0 m H)(h:H0 a=some (.tup xs)):H a=some (.tup xs):=x.keep _ _ h (R.notTup h) λz=>by
 obtain⟨⟨vs,e⟩,_⟩:=hB a z;rw[e] at h;cases h
theorem VDs.monoB(R:Rel K m0 S0 H0)(hB:AtB B m0 H0)(x:ExtB B m0 H0 m H)(h:VDs K m0 H0 ds vs):VDs K m H ds vs:=VDs.mono0 x.pre (λ_ _=>Eo R hB x) h
theorem VD.monoB(R:Rel K m0 S0 H0)(hB:AtB B m0 H0)(x:ExtB B m0 H0 m H)(h:VD K m0 H0 d v):VD K m H d v:=VD.mono0 x.pre (λ_ _=>Eo R hB x) h
theorem EnvR.monoB(R:Rel K m0 S0 H0)(hB:AtB B m0 H0)(x:ExtB B m0 H0 m H)(h:EnvR K m0 H0 ρ σ):EnvR K m H ρ σ:=
 ⟨h.len,λi d e=>let ⟨v,p,q⟩:=h.at_ i d e;⟨v,p,VD.monoB R hB x q⟩⟩
theorem rV(h:∀m S H i o,ExtB B m0 H0 m H->Rel K m S H->nx i S=some o->∃ds vs,o=ds[i]?/\SqL K H a vs/\VDs K m H ds vs):IOk K B (Itl K a) nx m0 H0:=by
 intro m S H i x R;refine⟨λe=>?_,λd e=>?_⟩
 ·obtain⟨ds,vs,e',sq,vd⟩:=h m S H i _ x R e;exact⟨vs,sq,by rw[<-vd.length];exact Ym.mp e'.symm⟩
 ·obtain⟨ds,vs,e',sq,vd⟩:=h m S H i _ x R e;obtain⟨v,hv,vv⟩:=vd.get e'.symm;refine⟨⟨vs,v,sq,hv⟩,λy H' ⟨eH,hy⟩=>?_⟩;subst eH;have:=hy vs sq;rw[hv] at this;cases this;exact⟨Aft.refl R,vv⟩
theorem Ep(R0:Rel K m0 S0 H0)(hB:AtB B m0 H0)(sq:H0 a=some (.tup vs))(vd:VDs K m0 H0 ds vs):IOk K B (Itt K a) (nxL ds) m0 H0:=by
 intro m S H i x R;have sq':SqT K H a vs:=.of (Eo R0 hB x sq);have vd':=vd.monoB R0 hB x;refine⟨λe=>⟨vs,sq',?_⟩,λd e=>?_⟩
 ·rw[<-vd'.length];exact Ym.mp (Option.some.inj e)
 ·obtain⟨v,hv,vv⟩:=vd'.get (Option.some.inj e);refine⟨⟨vs,v,sq',hv⟩,λy H' ⟨eH,hy⟩=>?_⟩;subst eH;have:=hy vs sq';rw[hv] at this;cases this;exact⟨Aft.refl R,vv⟩
theorem wg{lo:Int}{n:Nat}:IOk K B (Itr lo n) (nxR lo n) m0 H0:=by
 intro m S H i x R;unfold nxR;refine⟨λe=>?_,λd e=>?_⟩
 ·split at e
  ·cases e
  ·show n<=i;lia
 ·split at e
  ·rename_i hi;cases e;exact⟨hi,λy H' ⟨eH,hy⟩=>by subst eH;subst hy;exact⟨Aft.refl R,aX⟩⟩
  ·cases e
theorem qr(h:∀m S H i o,ExtB B m0 H0 m H->Rel K m S H->nx i S=some o->∃ds vs,enm ds i=some o/\sqf K H a vs/\VDs K m H ds vs):IOk K B (Ite K a sqf) nx m0 H0:=by
 intro m S H i x R;refine⟨λe=>?_,λd e=>?_⟩
 ·obtain⟨ds,vs,e',sq,vd⟩:=h m S H i _ x R e;unfold enm at e';split at e'
  ·rename_i hl;refine⟨vs,sq,?_⟩;rw[<-vd.length];cases hd:ds[i]? with
   |none=>have:=Ym.mp hd;lia
   |some z=>rw[hd] at e';cases e'
  ·cases e'
 ·obtain⟨ds,vs,e',sq,vd⟩:=h m S H i _ x R e;unfold enm at e';split at e'
  ·cases hd:ds[i]? with
   |none=>rw[hd] at e';cases e'
   |some z=>
    rw[hd] at e';cases e';obtain⟨v,hv,vv⟩:=vd.get hd;refine⟨⟨vs,v,sq,hv⟩,λy H' ⟨T,hT,ey,hy⟩=>?_⟩;subst ey;have eH:=hy vs v sq hv;subst eH;have xb:=Ext.beside R hT (.tup [.int i,v]);exact⟨⟨xb,R.beside hT _⟩,qe aJ (.cons aX (.cons (vv.mono R xb) .nil))⟩
  ·cases e'
abbrev Rh(d:D):Option Nxt:=match d with
 |.tup ds=>some (nxL ds)
 |.ref n=>some (nxS n)
 |_=>none
abbrev xIV(x:XE):XI:=λρ S=>bnd (x ρ S) λd S1=>match d with
 |.tup ds=>some (nxL ds,S1)
 |.ref n=>if (aq S1 n).isSome=true then some (nxS n,S1) else none
 |_=>none
abbrev xIT(x:XA):XI:=λρ S=>bnd (x ρ S) λds S1=>some (nxL ds,S1)
abbrev xEV(x:XE):XI:=λρ S=>bnd (x ρ S) λd S1=>match d with
 |.tup ds=>some (yw ds,S1)
 |.ref n=>if (aq S1 n).isSome=true then some (yx n,S1) else none
 |_=>none
abbrev xET(x:XA):XI:=λρ S=>bnd (x ρ S) λds S1=>some (yw ds,S1)
abbrev lim(i:Int):Bool:=decide (-(2 ^ 62)<=i) && decide (i < 2 ^ 62)
abbrev xR1(x:XE):XI:=λρ S=>bnd (x ρ S) λd S1=>match d with
 |.int j=>if lim j=true then some (nxR 0 j.toNat,S1) else none
 |_=>none
abbrev xR2(x y:XE):XI:=λρ S=>bnd (x ρ S) λd S1=>bnd (y ρ S1) λe S2=>match d,e with
 |.int i,.int j=>if lim i=true/\lim j=true then some (nxR i (j - i).toNat,S2) else none
 |_,_=>none
theorem jH{i:Int}(h:lim i=true):-(2 ^ 62)<=i/\i < 2 ^ 62:=by simpa[lim] using h
theorem kW{n:Nat}(ha:m0[n]?=some a)(x:m0 <+: m)(R:Rel K m S H)(hs:aq S n=some ds):∃vs,SqL K H a vs/\VDs K m H ds vs:=by
 obtain⟨p,vs,hp,sq,vd⟩:=R.seq hs;have:=kP x ha;rw[this] at hp;cases hp;exact⟨vs,sq,vd⟩
theorem Oe(hB:AtB B m H)(h:H a=none):a ∉ B:=λz=>by
 obtain⟨⟨vs,e⟩,_⟩:=hB a z;rw[h] at e;cases e
theorem QM(h:tIt K B (xIV x) σ H R):zA K (tE K x) σ H R\/Nv K (tE K x) σ H R:=by
 obtain⟨m,ρ,S,nx,S',E,Rl,hB,e,q⟩:=h;obtain⟨d,S1,e1,e⟩:=ai e;cases d with
 |tup ds=>
  cases e;refine .inr ⟨m,ρ,S,_,_,E,Rl,e1,λm1 H1 v A1 vd=>?_⟩;obtain⟨a,vs,rfl,sq,vds⟩:=vd.tups;exact⟨a,rfl,⟨vs,.of sq⟩,q m1 H1 _ A1 (Ep A1.rel (hB.ext A1.ext) sq vds)⟩
 |ref n=>
  dsimp only at e;split at e
  ·rename_i hs;cases e;refine .inl ⟨m,ρ,S,_,_,E,Rl,e1,λm1 H1 v A1 vd=>?_⟩;obtain⟨a,ha,rfl⟩:=vd.refs;obtain⟨ds,hds⟩:=ZV.mp hs;obtain⟨vs,sq,vds⟩:=kW ha (Z9 _) A1.rel hds;refine⟨a,rfl,⟨vs,sq⟩,q m1 H1 _ A1 (rV λm2 S2 H2 i o x2 R2 e2=>?_)⟩;unfold nxS at e2;cases h2:aq S2 n with
   |none=>rw[h2] at e2;cases e2
   |some es=>
    rw[h2] at e2;cases e2;obtain⟨ws,sq2,vd2⟩:=kW ha x2.pre R2 h2;exact⟨es,ws,rfl,sq2,vd2⟩
  ·cases e
 |_=>cases e
theorem QN(h:tIt K B (xIT x) σ H R):zA K (eO K x) σ H R:=by
 obtain⟨m,ρ,S,nx,S',E,Rl,hB,e,q⟩:=h;obtain⟨ds,S1,e1,e⟩:=ai e;cases e;refine⟨m,ρ,S,_,_,E,Rl,e1,λm1 H1 a vs A1 sq n1 n2 n3 vd=>⟨a,rfl,⟨vs,.of sq⟩,q m1 H1 _ A1 (rV λm2 S2 H2 i o x2 R2 e2=>?_)⟩⟩;cases e2;exact⟨ds,vs,rfl,.of (x2.keep _ _ sq n1 (Oe hB n3)),vd.monoB A1.rel (hB.ext A1.ext) x2⟩
theorem Og(h:tIt K B (xEV x) σ H R):Jm K (cP (tE K x) jw) σ H R\/NX K (cP (tE K x) jw) σ H R:=by
 obtain⟨m,ρ,S,nx,S',E,Rl,hB,e,q⟩:=h;obtain⟨d,S1,e1,e⟩:=ai e;cases d with
 |tup ds=>
  cases e;refine .inr ⟨m,ρ,S,_,_,E,Rl,e1,λm1 H1 v A1 vd=>?_⟩;obtain⟨a,vs,rfl,sq,vds⟩:=vd.tups;refine⟨a,vs,rfl,.of sq,q m1 H1 _ A1 (qr λm2 S2 H2 i o x2 R2 e2=>⟨ds,vs,e2,.of (Eo A1.rel (hB.ext A1.ext) x2 sq),vds.monoB A1.rel (hB.ext A1.ext) x2⟩)⟩
 |ref n=>
  dsimp only at e;split at e
  ·rename_i hs;cases e;refine .inl ⟨m,ρ,S,_,_,E,Rl,e1,λm1 H1 v A1 vd=>?_⟩;obtain⟨a,ha,rfl⟩:=vd.refs;obtain⟨ds,hds⟩:=ZV.mp hs;obtain⟨vs,sq,vds⟩:=kW ha (Z9 _) A1.rel hds;refine⟨a,vs,rfl,sq,q m1 H1 _ A1 (qr λm2 S2 H2 i o x2 R2 e2=>?_)⟩;unfold yx at e2;cases h2:aq S2 n with
   |none=>rw[h2] at e2;cases e2
   |some es=>
    rw[h2] at e2;obtain⟨ws,sq2,vd2⟩:=kW ha x2.pre R2 h2;exact⟨es,ws,e2,sq2,vd2⟩
  ·cases e
 |_=>cases e
theorem Oh(h:tIt K B (xET x) σ H R):Jm K (cP (eO K x) jw) σ H R:=by
 obtain⟨m,ρ,S,nx,S',E,Rl,hB,e,q⟩:=h;obtain⟨ds,S1,e1,e⟩:=ai e;cases e;exact⟨m,ρ,S,_,_,E,Rl,e1,λm1 H1 a vs A1 sq n1 n2 n3 vd=>⟨a,vs,rfl,.of sq,q m1 H1 _ A1 (qr λm2 S2 H2 i o x2 R2 e2=>⟨ds,vs,e2,.of (x2.keep _ _ sq n1 (Oe hB n3)),vd.monoB A1.rel (hB.ext A1.ext) x2⟩)⟩⟩
theorem Oi(h:tIt K B (xR1 x) σ H R):Hj (cP (tE K x) jw) σ H R:=by
 obtain⟨m,ρ,S,nx,S',E,Rl,hB,e,q⟩:=h;obtain⟨d,S1,e1,e⟩:=ai e;refine⟨m,ρ,S,d,S1,E,Rl,e1,λm1 H1 v A1 vd=>?_⟩;cases d with
 |int j=>
  dsimp only at e;split at e
  ·rename_i hl;cases e;exact⟨j,by rw[vd.ints],(jH hl).1,(jH hl).2,q m1 H1 _ A1 wg⟩
  ·cases e
 |_=>cases e
theorem Oj(h:tIt K B (xR2 x y) σ H R):Hk (cP (tE K x) (cP (tE K y) jw)) σ H R:=by
 obtain⟨m,ρ,S,nx,S',E,Rl,hB,e,q⟩:=h;obtain⟨d,S1,e1,e⟩:=ai e;obtain⟨c,S2,e2,e⟩:=ai e;refine⟨m,ρ,S,d,S1,E,Rl,e1,λm1 H1 v A1 vd=>⟨m1,ρ,S1,c,S2,E.mono Rl A1.ext,A1.rel,e2,λm2 H2 w A2 vc=>?_⟩⟩;cases d with
 |int i=>
  cases c with
  |int j=>
   dsimp only at e;split at e
   ·rename_i hl;cases e;exact⟨i,j,by rw[vd.ints,vc.ints],⟨(jH hl.1).1,(jH hl.1).2,(jH hl.2).1,(jH hl.2).2⟩,q m2 H2 _ (A1.trans A2) wg⟩
   ·cases e
  |_=>cases e
 |_=>cases e
inductive Tg where
 |name (i:Nat) |tup (ts:List Tg)
mutual
noncomputable def aA:Tg->D->Rho->Option Rho
 |.name i,d,ρ=>if i < ρ.length then some (ρ.set i (some d)) else none
 |.tup ts,.tup ds,ρ=>aK ts ds ρ
 |_,_,_=>none
noncomputable def aK:List Tg->List D->Rho->Option Rho
 |[],[],ρ=>some ρ
 |t::ts,d::ds,ρ=>match aA t d ρ with
  |some ρ'=>aK ts ds ρ'
  |none=>none
 |_,_,_=>none
end
def tTg(K:W6)(t:Tg):TG:=λx σ H Q=>∃m S ρ d ρ',Rel K m S H/\EnvR K m H ρ σ/\VD K m H d x/\aA t d ρ=some ρ'/\∀σ',EnvR K m H ρ' σ'->Q σ' H
def AF(K:W6)(ts:List Tg):TGs:=λxs σ H Q=>∃m S ρ ds ρ',Rel K m S H/\EnvR K m H ρ σ/\VDs K m H ds xs/\aK ts ds ρ=some ρ'/\∀σ',EnvR K m H ρ' σ'->Q σ' H
theorem EnvR.set{i:Nat}(E:EnvR K m H ρ σ)(h:VD K m H d v):EnvR K m H (ρ.set i (some d)) (σ.set i (some v)):=by
 refine⟨by simp[E.len],λj d' e=>?_⟩;rw[YB] at e;rw[YB,<-E.len];by_cases hj:i=j
 ·rw[if_pos hj] at e ⊢;split at e
  ·rename_i hl;rw[if_pos hl];cases e;exact⟨v,rfl,h⟩
  ·cases e
 ·rw[if_neg hj] at e ⊢;exact E.at_ j d' e
theorem qt{i:Nat}(h:tTg K (.name i) x σ H Q):om i x σ H Q:=by
 obtain⟨m,S,ρ,d,ρ',R,E,vd,e,q⟩:=h;simp only[aA] at e;split at e
 ·cases e;exact q _ (E.set vd)
 ·cases e
theorem JV{n:Nat}(hn:n=ts.length)(h:tTg K (.tup ts) x σ H Q):II K n (AF K ts) x σ H Q:=by
 obtain⟨m,S,ρ,d,ρ',R,E,vd,e,q⟩:=h;cases d with
 |tup ds=>
  simp only[aA] at e;obtain⟨a,vs,rfl,sq,vds⟩:=vd.tups;refine⟨a,vs,rfl,.of sq,?_,m,S,ρ,ds,ρ',R,E,vds,e,q⟩
  have len:∀ (ts:List Tg) (ds:List D) (ρ ρ':Rho),aK ts ds ρ=some ρ'->ts.length=ds.length:=by
   intro ts
   induction ts with
   |nil=>intro ds ρ ρ' e;cases ds with |nil=>rfl |cons _ _=>simp[aK] at e
   |cons t ts ih=>
    intro ds ρ ρ' e;cases ds with
    |nil=>simp[aK] at e
    |cons d ds=>
     simp only[aK] at e;split at e
     ·simp[ih _ _ _ e]
     ·cases e
  rw[hn,<-vds.length];exact(len _ _ _ _ e).symm
 |_=>simp[aA] at e
theorem Er(h:AF K [] xs σ H Q):IH xs σ H Q:=by
 obtain⟨m,S,ρ,ds,ρ',R,E,vd,e,q⟩:=h;cases ds with
 |nil=>simp[aK] at e;subst e;rw[VDs] at vd;exact⟨vd,q _ E⟩
 |cons _ _=>simp[aK] at e
theorem AG(h:AF K (t::ts) xs σ H Q):vO (tTg K t) (AF K ts) xs σ H Q:=by
 obtain⟨m,S,ρ,ds,ρ',R,E,vd,e,q⟩:=h;cases ds with
 |nil=>simp[aK] at e
 |cons d ds=>
  simp only[aK] at e;rw[VDs] at vd;obtain⟨y,r,rfl,p,p'⟩:=vd;cases hb:aA t d ρ with
  |none=>rw[hb] at e;cases e
  |some ρ1=>
   rw[hb] at e;exact⟨y,r,rfl,m,S,ρ,d,ρ1,R,E,p,hb,λσ' E'=>⟨m,S,ρ1,ds,ρ',R,E',p',e,q⟩⟩
theorem PG.imp(h:PG X e t)(f:∀x σ H Q,t' x σ H Q->t x σ H Q):PG X e t':=λpins s σ H v u Q I r q=>h pins s σ H v u Q I r (f v σ H Q q)
theorem PGs.imp(h:PGs X es t)(f:∀x σ H Q,t' x σ H Q->t x σ H Q):PGs X es t':=λpins s σ H v u Q I r q=>h pins s σ H v u Q I r (f v σ H Q q)
end
inductive Fl where
 |nx |bk |ct |rt (d:D)
@[inline]abbrev XS:=Rho->Sto->Option (Fl × Rho × Sto)
def wj(K:W6)(m:List Addr)(H:Hp)(fl:Fl)(ρ:Rho)(D:Ends):Prop:=match fl with
 |.nx=>∀σ,EnvR K m H ρ σ->D.nx σ H
 |.bk=>∀σ,EnvR K m H ρ σ->D.bk σ H
 |.ct=>∀σ,EnvR K m H ρ σ->D.ct σ H
 |.rt d=>∀v,VD K m H d v->D.rt v H
def tSt(K:W6)(x:XS):TS:=λD σ H=>∃m ρ S fl ρ' S',EnvR K m H ρ σ/\Rel K m S H/\x ρ S=some (fl,ρ',S')/\∀m' H',Aft K m H S' m' H'->wj K m' H' fl ρ' D
section
variable {X:Cx} {K:W6} {m:List Addr} {H:Hp} {S:Sto}
abbrev uF(x y:XS):XS:=λρ S=>match x ρ S with
 |none=>none
 |some (.nx,ρ1,S1)=>y ρ1 S1
 |some r=>some r
abbrev Hu:XS:=λρ S=>some (.nx,ρ,S)
theorem Es{D:Ends}{σ:L2.St}{H:Hp}(h:tSt K Hu D σ H):Hg D σ H:=by
 obtain⟨m,ρ,S,fl,ρ',S',E,R,e,q⟩:=h;cases e;exact q m H (Aft.refl R) σ E
theorem JW{x y:XS}{D:Ends}{σ:L2.St}{H:Hp}(h:tSt K (uF x y) D σ H):Np (tSt K x) (tSt K y) D σ H:=by
 obtain⟨m,ρ,S,fl,ρ',S',E,R,e,q⟩:=h;unfold uF at e;cases hx:x ρ S with
 |none=>rw[hx] at e;cases e
 |some r=>
  obtain⟨f1,ρ1,S1⟩:=r;rw[hx] at e;refine⟨m,ρ,S,f1,ρ1,S1,E,R,hx,λm1 H1 A1=>?_⟩;cases f1 with
  |nx=>exactλσ1 E1=>⟨m1,ρ1,S1,fl,ρ',S',E1,A1.rel,e,λm2 H2 A2=>q m2 H2 (A1.trans A2)⟩
  |bk=>cases e;exact q m1 H1 A1
  |ct=>cases e;exact q m1 H1 A1
  |rt d=>cases e;exact q m1 H1 A1
abbrev rX(x:XE):XS:=λρ S=>match x ρ S with
 |none=>none
 |some (_,S1)=>some (.nx,ρ,S1)
abbrev AH(x:XE):XS:=λρ S=>match x ρ S with
 |none=>none
 |some (d,S1)=>some (.rt d,ρ,S1)
abbrev Ol:XS:=λρ S=>some (.ct,ρ,S)
theorem Et{x:XE}{D:Ends}{σ:L2.St}{H:Hp}(h:tSt K (rX x) D σ H):Hi (tE K x) D σ H:=by
 obtain⟨m,ρ,S,fl,ρ',S',E,R,e,q⟩:=h;unfold rX at e;cases hx:x ρ S with
 |none=>rw[hx] at e;cases e
 |some r=>
  obtain⟨d,S1⟩:=r;rw[hx] at e;cases e;exact⟨m,ρ,S,d,_,E,R,hx,λm1 H1 v A1 _=>q m1 H1 A1 σ (E.mono R A1.ext)⟩
theorem JX{x:XE}{D:Ends}{σ:L2.St}{H:Hp}(h:tSt K (AH x) D σ H):Nq (tE K x) D σ H:=by
 obtain⟨m,ρ,S,fl,ρ',S',E,R,e,q⟩:=h;unfold AH at e;cases hx:x ρ S with
 |none=>rw[hx] at e;cases e
 |some r=>
  obtain⟨d,S1⟩:=r;rw[hx] at e;cases e;exact⟨m,ρ,S,d,_,E,R,hx,λm1 H1 v A1 vd=>q m1 H1 A1 v vd⟩
theorem JY{D:Ends}{σ:L2.St}{H:Hp}(h:tSt K Ol D σ H):Hh D σ H:=by
 obtain⟨m,ρ,S,fl,ρ',S',E,R,e,q⟩:=h;cases e;exact q m H (Aft.refl R) σ E
abbrev xIf(c:XT)(x y:XS):XS:=λρ S=>match c ρ S with
 |none=>none
 |some (b,S1)=>if b=true then x ρ S1 else y ρ S1
theorem Om{c:XT}{x y:XS}{D:Ends}{σ:L2.St}{H:Hp}(h:tSt K (xIf c x y) D σ H):Nt (tT K c) (tSt K x) (tSt K y) D σ H:=by
 obtain⟨m,ρ,S,fl,ρ',S',E,R,e,q⟩:=h;unfold xIf at e;cases hc:c ρ S with
 |none=>rw[hc] at e;cases e
 |some r=>
  obtain⟨b,S1⟩:=r;rw[hc] at e;dsimp only at e;refine⟨m,ρ,S,b,S1,E,R,hc,λm1 H1 A1=>?_⟩;dsimp only;split
  ·rename_i hb;rw[if_pos hb] at e;exact⟨m1,ρ,S1,fl,ρ',S',E.mono R A1.ext,A1.rel,e,λm2 H2 A2=>q m2 H2 (A1.trans A2)⟩
  ·rename_i hb;rw[if_neg hb] at e;exact⟨m1,ρ,S1,fl,ρ',S',E.mono R A1.ext,A1.rel,e,λm2 H2 A2=>q m2 H2 (A1.trans A2)⟩
abbrev mv(x:XE)(t:Tg):XS:=λρ S=>match x ρ S with
 |none=>none
 |some (d,S1)=>(aA t d ρ).map λρ1=>(.nx,ρ1,S1)
theorem uG{x:XE}{t:Tg}{D:Ends}{σ:L2.St}{H:Hp}(h:tSt K (mv x t) D σ H):xI (tE K x) (tTg K t) D σ H:=by
 obtain⟨m,ρ,S,fl,ρ',S',E,R,e,q⟩:=h;unfold mv at e;cases hx:x ρ S with
 |none=>rw[hx] at e;cases e
 |some r=>
  obtain⟨d,S1⟩:=r;rw[hx] at e;dsimp only at e;cases hb:aA t d ρ with
  |none=>rw[hb] at e;cases e
  |some ρ1=>
   rw[hb] at e;cases e;exact⟨m,ρ,S,d,_,E,R,hx,λm1 H1 v A1 vd=>⟨m1,_,ρ,d,_,A1.rel,E.mono R A1.ext,vd,hb,λσ' E'=>q m1 H1 A1 σ' E'⟩⟩
abbrev rY(v o i:XE):XS:=λρ S=>match v ρ S with
 |none=>none
 |some (dv,S1)=>match o ρ S1 with
  |none=>none
  |some (d_o,S2)=>match i ρ S2 with
   |none=>none
   |some (di,S3)=>(eB d_o di dv S3).map λS4=>(.nx,ρ,S4)
theorem Eu{v o i:XE}{D:Ends}{σ:L2.St}{H:Hp}(h:tSt K (rY v o i) D σ H):xI (tE K v) (zy (tE K o) (tE K i) (AC K)) D σ H:=by
 obtain⟨m,ρ,S,fl,ρ',S',E,R,e,q⟩:=h;unfold rY at e;cases h1:v ρ S with
 |none=>rw[h1] at e;cases e
 |some r1=>
  obtain⟨dv,S1⟩:=r1;rw[h1] at e;dsimp only at e;cases h2:o ρ S1 with
  |none=>rw[h2] at e;cases e
  |some r2=>
   obtain⟨d2,S2⟩:=r2;rw[h2] at e;dsimp only at e;cases h3:i ρ S2 with
   |none=>rw[h3] at e;cases e
   |some r3=>
    obtain⟨d3,S3⟩:=r3;rw[h3] at e;dsimp only at e;cases h4:eB d2 d3 dv S3 with
    |none=>rw[h4] at e;cases e
    |some S4=>
     rw[h4] at e;cases e;refine⟨m,ρ,S,dv,S1,E,R,h1,λm1 H1 v1 A1 vd1=>⟨m1,ρ,S1,d2,S2,E.mono R A1.ext,A1.rel,h2,λm2 H2 v2 A2 vd2=>⟨m2,ρ,S2,d3,S3,E.mono R (A1.trans A2).ext,A2.rel,h3,λm3 H3 v3 A3 vd3=>?_⟩⟩⟩;exact⟨m3,S3,d2,d3,dv,_,A3.rel,vd2.mono A2.rel A3.ext,vd3,vd1.mono A1.rel (A2.trans A3).ext,h4,λm4 H4 A4=>q m4 H4 (((A1.trans A2).trans A3).trans A4) σ (E.mono R (((A1.trans A2).trans A3).trans A4).ext)⟩
abbrev mw(dv:D)(o i:XE)(ρ:Rho)(S:Sto):Option Sto:=match o ρ S with
 |none=>none
 | some r=>(match i ρ r.2 with
  |none=>none
  | some u=>eB r.1 u.1 dv u.2)
theorem yy(h:mw dv o i ρ S=some S4):∃r u,o ρ S=some r/\i ρ r.2=some u/\eB r.1 u.1 dv u.2=some S4:=by
 unfold mw at h;cases h1:o ρ S with
 |none=>rw[h1] at h;cases h
 |some r=>
  rw[h1] at h;dsimp only at h;cases h2:i ρ r.2 with
  |none=>rw[h2] at h;cases h
  |some u=>rw[h2] at h;exact⟨r,u,rfl,h2,h⟩
abbrev Ew:D->Option (D × D)
 |.tup [a,b]=>some (a,b)
 |_=>none
abbrev AI(v o i q j:XE):XS:=λρ S=>match v ρ S with
 |none=>none
 | some r=>(match Ew r.1 with
  |none=>none
  | some d=>(match mw d.1 o i ρ r.2 with
   |none=>none
   | some S2=>(mw d.2 q j ρ S2).map λS3=>(.nx,ρ,S3)))
theorem AJ(E:EnvR K m H ρ σ)(R:Rel K m S H)(vd:VD K m H dv v)(h:mw dv o i ρ S=some S4)(q:∀m' H',Aft K m H S4 m' H'->Q σ H'):zy (tE K o) (tE K i) (AC K) v σ H Q:=by
 obtain⟨r,u,h1,h2,h3⟩:=yy h;exact⟨m,ρ,S,r.1,r.2,E,R,h1,λm1 H1 v1 A1 vd1=>⟨m1,ρ,r.2,u.1,u.2,E.mono R A1.ext,A1.rel,h2,λm2 H2 v2 A2 vd2=>⟨m2,u.2,r.1,u.1,dv,S4,A2.rel,vd1.mono A1.rel A2.ext,vd2,vd.mono R (A1.trans A2).ext,h3,λm3 H3 A3=>q m3 H3 ((A1.trans A2).trans A3)⟩⟩⟩
theorem JZ{v o i q j:XE}{D:Ends}{σ:L2.St}{H:Hp}(h:tSt K (AI v o i q j) D σ H):xI (tE K v) (II K 2 (vO (zy (tE K o) (tE K i) (AC K)) (vO (zy (tE K q) (tE K j) (AC K)) IH))) D σ H:=by
 obtain⟨m,ρ,S,fl,ρ',S',E,R,e,z⟩:=h;unfold AI at e;cases h1:v ρ S with
 |none=>rw[h1] at e;cases e
 |some r=>
  rw[h1] at e;dsimp only at e;cases h2:Ew r.1 with
  |none=>rw[h2] at e;cases e
  |some d=>
   rw[h2] at e;dsimp only at e;cases h3:mw d.1 o i ρ r.2 with
   |none=>rw[h3] at e;cases e
   |some S2=>
    rw[h3] at e;dsimp only at e;cases h4:mw d.2 q j ρ S2 with
    |none=>rw[h4] at e;cases e
    |some S3=>
     rw[h4] at e;cases e
     have hd:r.1 = .tup [d.1,d.2]:=by
      unfold Ew at h2;split at h2
      ·rename_i a b e;rw[e];cases h2;rfl
      ·cases h2
     refine⟨m,ρ,S,r.1,r.2,E,R,h1,λm1 H1 w A1 vd=>?_⟩;rw[hd] at vd;obtain⟨p,vs,rfl,sq,vds⟩:=vd.tups;obtain⟨x,y,rfl,vx,vy⟩:=um vds;refine⟨p,[x,y],rfl,.of sq,rfl,x,[y],rfl,AJ (E.mono R A1.ext) A1.rel vx h3 λm2 H2 A2=>⟨y,[],rfl,AJ (E.mono R (A1.trans A2).ext) A2.rel (vy.mono A1.rel A2.ext) h4 λm3 H3 A3=>⟨rfl,?_⟩⟩⟩;exact z m3 H3 ((A1.trans A2).trans A3) σ (E.mono R ((A1.trans A2).trans A3).ext)
abbrev eC(nx:Nxt)(tg:Tg)(b:XS):Nat->Nat->XS
 |0,_=>λ_ _=>none
 |k+1,i=>λρ S=>match nx i S with
  |none=>none
  |some none=>some (.nx,ρ,S)
  |some (some d)=>match aA tg d ρ with
   |none=>none
   |some ρ1=>match b ρ1 S with
    |none=>none
    |some (.nx,ρ2,S2)=>eC nx tg b k (i+1) ρ2 S2
    |some (.ct,ρ2,S2)=>eC nx tg b k (i+1) ρ2 S2
    |some (.bk,ρ2,S2)=>some (.nx,ρ2,S2)
    |some (.rt d,ρ2,S2)=>some (.rt d,ρ2,S2)
abbrev AK(it:XI)(tg:Tg)(b:XS)(k:Nat):XS:=λρ S=>match it ρ S with
 |none=>none
 |some (nx,S1)=>eC nx tg b k 0 ρ S1
def lpW(K:W6)(nx:Nxt)(tg:Tg)(b:XS)(m1:List Addr)(H1:Hp)(D:Ends)(i k:Nat)(σ:L2.St)(H:Hp):Prop:=∃m ρ S fl ρ' S',EnvR K m H ρ σ/\Rel K m S H/\Ext m1 H1 m H/\eC nx tg b k i ρ S=some (fl,ρ',S')/\∀m' H',Aft K m H S' m' H'->wj K m' H' fl ρ' D
theorem Ex{nx:Nxt}{tg:Tg}{b:XS}{J:It}{m1:List Addr}{H1:Hp}{D:Ends}(hI:IOk K [] J nx m1 H1)(k:Nat){m:List Addr}{ρ:Rho}{S:Sto}{σ:L2.St}{H:Hp}{fl:Fl}{ρ':Rho}{S':Sto}(E:EnvR K m H ρ σ)(R:Rel K m S H)(x:Ext m1 H1 m H)(e:eC nx tg b k 0 ρ S=some (fl,ρ',S'))(q:∀m' H',Aft K m H S' m' H'->wj K m' H' fl ρ' D) :
  ∃W:Nat->Nat->L2.St->Hp->Prop,(∃m,W 0 m σ H)/\∀i m σ H,W i m σ H ->
   (J.stop i H/\D.nx σ H)\/(J.go i H/\∃N:L2.St->Hp->Prop,(∀σ' H',N σ' H'->∃m',m' < m/\W (i+1) m' σ' H')/\∀x H',J.yld i H x H'->tTg K tg x σ H' λσ2 H2=>tSt K b { D with nx:=N,ct:=N,bk:=D.nx } σ2 H2):=by
 refine⟨lpW K nx tg b m1 H1 D,⟨k,m,ρ,S,fl,ρ',S',E,R,x,e,q⟩,?_⟩;intro i k σ H z;obtain⟨m,ρ,S,fl,ρ',S',E,R,x,e,q⟩:=z;cases k with
 |zero=>simp[eC] at e
 |succ k=>
  simp only[eC] at e;cases hn:nx i S with
  |none=>rw[hn] at e;cases e
  |some o=>
   rw[hn] at e;obtain⟨h1,h2⟩:=hI m S H i (x.toB λb hb=>absurd hb (by simp)) R;cases o with
   |none=>cases e;exact .inl ⟨h1 hn,q m H (Aft.refl R) σ E⟩
   |some d=>
    obtain⟨go,hy⟩:=h2 d hn;dsimp only at e;cases hb:aA tg d ρ with
    |none=>rw[hb] at e;cases e
    |some ρ1=>
     rw[hb] at e;dsimp only at e;cases hx:b ρ1 S with
     |none=>rw[hx] at e;cases e
     |some r=>
      obtain⟨f2,ρ2,S2⟩:=r;rw[hx] at e;refine .inr ⟨go,lpW K nx tg b m1 H1 D (i+1) k,λσ' H' z=>⟨k,Y4 k,z⟩,λy H' yl=>?_⟩;obtain⟨A,vd⟩:=hy y H' yl;refine⟨m,S,ρ,d,ρ1,A.rel,E.mono R A.ext,vd,hb,λσ2 E2=>⟨m,ρ1,S,f2,ρ2,S2,E2,A.rel,hx,λm3 H3 A3=>?_⟩⟩;cases f2 with
      |nx=>exactλσ3 E3=>⟨m3,ρ2,S2,fl,ρ',S',E3,A3.rel,(x.trans A.ext).trans A3.ext,e,λm4 H4 A4=>q m4 H4 ((A.trans A3).trans A4)⟩
      |ct=>exactλσ3 E3=>⟨m3,ρ2,S2,fl,ρ',S',E3,A3.rel,(x.trans A.ext).trans A3.ext,e,λm4 H4 A4=>q m4 H4 ((A.trans A3).trans A4)⟩
      |bk=>cases e;exactλσ3 E3=>q m3 H3 (A.trans A3) σ3 E3
      |rt d=>cases e;exactλv vd=>q m3 H3 (A.trans A3) v vd
theorem J0{it:XI}{tg:Tg}{b:XS}{k:Nat}{D:Ends}{σ:L2.St}{H:Hp}(h:tSt K (AK it tg b k) D σ H):Nw (tIt K [] it) (tTg K tg) (tSt K b) D σ H:=by
 obtain⟨m,ρ,S,fl,ρ',S',E,R,e,q⟩:=h;unfold AK at e;cases hi:it ρ S with
 |none=>rw[hi] at e;cases e
 |some r=>
  obtain⟨nx,S1⟩:=r;rw[hi] at e;exact⟨m,ρ,S,nx,S1,E,R,λb hb=>absurd hb (by simp),hi,λm1 H1 J A1 hI=>Ex hI k (E.mono R A1.ext) A1.rel (Ext.refl _ _) e λm2 H2 A2=>q m2 H2 (A1.trans A2)⟩
end
mutual
noncomputable def dz:Tg->Rho->Bool
 |.name i,ρ=>match ρ[i]? with
  |some none=>true
  |_=>false
 |.tup ts,ρ=>fQ ts ρ
noncomputable def fQ:List Tg->Rho->Bool
 |[],_=>true
 |t::ts,ρ=>dz t ρ && fQ ts ρ
end
structure LeR(ρ ρ':Rho):Prop where
 len:ρ.length=ρ'.length
 at_:∀ (i:Nat) (d:D),ρ[i]?=some (some d)->ρ'[i]?=some (some d)
theorem LeR.refl(ρ:Rho):LeR ρ ρ:=⟨rfl,λ_ _ h=>h⟩
mutual
theorem rZ:∀ {t:Tg} {d:D} {ρ ρ':Rho},LeR ρ0 ρ->dz t ρ0=true->aA t d ρ=some ρ'->LeR ρ0 ρ'
 |.name i,d,ρ,ρ',l,f,e=>by
  simp only[aA] at e;split at e
  ·cases e;refine⟨by simp[l.len],λj d' h=>?_⟩;rw[YB];by_cases hj:i=j
   ·subst hj;simp only[dz] at f;rw[h] at f;cases f
   ·rw[if_neg hj];exact l.at_ j d' h
  ·cases e
 |.tup ts,.tup ds,ρ,ρ',l,f,e=>by
  simp only[aA] at e;simp only[dz] at f;exact oU l f e
 |.tup ts,.non,_,_,_,_,e=>by simp[aA] at e
 |.tup ts,.bl _,_,_,_,_,e=>by simp[aA] at e
 |.tup ts,.int _,_,_,_,_,e=>by simp[aA] at e
 |.tup ts,.str _,_,_,_,_,e=>by simp[aA] at e
 |.tup ts,.ref _,_,_,_,_,e=>by simp[aA] at e
theorem oU:∀ {ts:List Tg} {ds:List D} {ρ ρ':Rho},LeR ρ0 ρ->fQ ts ρ0=true->aK ts ds ρ=some ρ'->LeR ρ0 ρ'
 |[],[],ρ,ρ',l,_,e=>by simp only[aK] at e;cases e;exact l
 |[],_::_,_,_,_,_,e=>by simp[aK] at e
 |_::_,[],_,_,_,_,e=>by simp[aK] at e
 |t::ts,d::ds,ρ,ρ',l,f,e=>by
  simp only[aK] at e;simp only[fQ,bAE] at f;cases hb:aA t d ρ with
  |none=>rw[hb] at e;cases e
  |some ρ1=>rw[hb] at e;exact oU (rZ l f.1 hb) f.2 e
end
section
variable {X:Cx} {K:W6} {m:List Addr} {H:Hp} {S:Sto}
theorem EnvR.weaken(E:EnvR K m H ρ' σ)(l:LeR ρ ρ'):EnvR K m H ρ σ:=⟨l.len.trans E.len,λi d h=>E.at_ i d (l.at_ i d h)⟩
abbrev bj(nx:Nxt)(tg:Tg)(c:XA)(ρ:Rho):Nat->Nat->Sto->Option (List D × Sto)
 |0,_,_=>none
 |k+1,i,S=>match nx i S with
  |none=>none
  |some none=>some ([],S)
  |some (some d)=>match aA tg d ρ with
   |none=>none
   |some ρ1=>bnd (c ρ1 S) λes S1=>bnd (bj nx tg c ρ k (i+1) S1) λrs S2=>some (es++rs,S2)
abbrev AL(t:XT)(c:XA):XA:=λρ S=>bnd (t ρ S) λb S1=>if b=true then c ρ S1 else some ([],S1)
abbrev Hv(x:XE):XA:=λρ S=>bnd (x ρ S) λd S1=>some ([d],S1)
abbrev jI(it:XI)(tg:Tg)(c:XA)(k:Nat):XA:=λρ S=>if dz tg ρ=true then bnd (it ρ S) λnx S1=>bj nx tg c ρ k 0 S1 else none
abbrev my(own:Nat)(it:XI)(tg:Tg)(c:XA)(k:Nat):XA:=λρ S=>bnd (it ρ S) λnx S1=>if dz tg (ρ++Zp own none)=true then
 (bnd (bj nx tg c (ρ++Zp own none) k 0 S1) λes S2=>if es.length<=100000 then some (es,S2) else none) else none
def tCl(K:W6)(acc:Addr)(c:XA):TS:=λD σ H=>∃m ρ S es S' zs vs,EnvR K m H ρ σ/\Rel K m S H/\acc ∉ m/\H acc=some (.lst vs)/\VDs K m H zs vs/\zs.length+es.length<=100000/\c ρ S=some (es,S') ∧
 ∀m' H' σ' vs',ExtB [acc] m H m' H'->Rel K m' S' H'->H' acc=some (.lst vs')->VDs K m' H' (zs++es) vs'->EnvR K m' H' ρ σ'->D.nx σ' H'
theorem AM(h:H acc=some (.lst vs))(n:acc ∉ m):AtB [acc] m H:=λb hb=>by simp at hb;subst hb;exact⟨⟨vs,h⟩,n⟩
theorem ExtB.refl(n:acc ∉ m):ExtB [acc] m H m H:=⟨Z9 m,λ_ _ h _ _=>h,λ_ h n=>absurd h n,λb hb=>by simp at hb;subst hb;exact n⟩
theorem ExtB.put(n:acc ∉ m)(o:HO):ExtB [acc] m H m (upd H acc o):=⟨Z9 m,λa u h _ nb=>by
 rw[aE (λz=>nb (by simp[z]))];exact h,λ_ h n=>absurd h n,λb hb=>by simp at hb;subst hb;exact n⟩
theorem Rel.extB(R:Rel K m S H)(hB:AtB [acc] m H)(x:ExtB [acc] m H m H')(k:∀b ∈ m,H' b=H b):Rel K m S H':=by
 refine⟨R.len,R.nd,λi o e=>?_⟩;obtain⟨b,hb,r⟩:=R.ob i o e;have hm:b ∈ m:=Zh hb;refine⟨b,hb,?_⟩;cases o with
 |lst ds=>obtain⟨vs,p,q⟩:=r;exact⟨vs,(k b hm).trans p,VDs.monoB R hB x q⟩
 |frz ds=>obtain⟨o,vs,p,q⟩:=r;exact⟨o,vs,(k b hm).trans p,VDs.monoB R hB x q⟩
 |dic ks ds=>obtain⟨vs,p,l,q⟩:=r;exact⟨vs,(k b hm).trans p,l,VDs.monoB R hB x q⟩
theorem Ey{acc:Addr}{x:XE}{D:Ends}{σ:L2.St}{H:Hp}(h:tCl K acc (Hv x) D σ H):Ho acc (tE K x) D σ H:=by
 obtain⟨m,ρ,S,es,S',zs,vs,E,R,na,ha,vz,hl,e,q⟩:=h;obtain⟨d,S1,e1,e⟩:=ai e;cases e;refine⟨m,ρ,S,d,_,E,R,e1,λm1 H1 v A1 vd=>?_⟩;have hB:=AM ha na;have ha1:H1 acc=some (.lst vs):=A1.ext.keep _ _ ha na;have xB:=A1.ext.toB hB;have na1:acc ∉ m1:=xB.nb acc (by simp);have xp:=ExtB.put (H:=H1) na1 (.lst (vs++[v]));have hB1:=AM ha1 na1;have lz:=vz.length;simp only[ZR] at hl;refine⟨vs,ha1,by rw[Ua];lia,q m1 _ σ (vs++[v]) (xB.trans xp) (A1.rel.extB hB1 xp λb hb=>aE λz=>na1 (z ▸ hb)) aJ ?_ ((E.mono R A1.ext).monoB A1.rel hB1 xp)⟩;exact VDs.append ((vz.mono R A1.ext).monoB A1.rel hB1 xp) (.cons (vd.monoB A1.rel hB1 xp) .nil)
theorem Ez{acc:Addr}{t:XT}{c:XA}{D:Ends}{σ:L2.St}{H:Hp}(h:tCl K acc (AL t c) D σ H):fh (tT K t) (tCl K acc c) D σ H:=by
 obtain⟨m,ρ,S,es,S',zs,vs,E,R,na,ha,vz,hl,e,q⟩:=h;obtain⟨b,S1,e1,e⟩:=ai e;refine⟨m,ρ,S,b,S1,E,R,e1,λm1 H1 A1=>?_⟩;have hB:=AM ha na;have ha1:H1 acc=some (.lst vs):=A1.ext.keep _ _ ha na;have xB:=A1.ext.toB hB;have na1:acc ∉ m1:=xB.nb acc (by simp);dsimp only;split
 ·rename_i hb;rw[if_pos hb] at e;exact⟨m1,ρ,S1,es,S',zs,vs,E.mono R A1.ext,A1.rel,na1,ha1,vz.mono R A1.ext,hl,e,λm2 H2 σ2 vs2 x2 R2 h2 v2 E2=>q m2 H2 σ2 vs2 (xB.trans x2) R2 h2 v2 E2⟩
 ·rename_i hb;rw[if_neg hb] at e;cases e;refine q m1 H1 σ vs xB A1.rel ha1 ?_ (E.mono R A1.ext);rw[ZU];exact vz.mono R A1.ext
theorem r9{t:TS}{D:Ends}{σ:L2.St}{H:Hp}(h:t D σ H):fh DS t D σ H:=by
 show if true=true then t D σ H else D.nx σ H
 rw[if_pos rfl];exact h
theorem J1{acc:Addr}{c:XA}{D:Ends}{σ:L2.St}{H:Hp}(h:tCl K acc c D σ H):fh DS (tCl K acc c) D σ H:=by
 exact r9 h
def clW(K:W6)(acc:Addr)(nx:Nxt)(tg:Tg)(c:XA)(ρ:Rho)(m1:List Addr)(H1:Hp)(EE:Ends)(i k:Nat)(σ:L2.St)(H:Hp):Prop:=∃m S S' es zs vs,EnvR K m H ρ σ/\Rel K m S H/\ExtB [acc] m1 H1 m H/\H acc=some (.lst vs)/\VDs K m H zs vs/\zs.length+es.length<=100000/\bj nx tg c ρ k i S=some (es,S') ∧ ∀m' H' σ' vs',ExtB [acc] m H m' H'->Rel K m' S' H'->H' acc=some (.lst vs')->VDs K m' H' (zs++es) vs'->EnvR K m' H' ρ σ'->EE.nx σ' H'
theorem wk(hI:IOk K [acc] J nx m1 H1)(hts:∀D σ H,tCl K acc c D σ H->ts D σ H)(k:Nat)
  (fr:dz tg ρ=true) (E:EnvR K m H ρ σ) (R:Rel K m S H) (x:ExtB [acc] m1 H1 m H) (ha:H acc=some (.lst vs)) (vz:VDs K m H zs vs) (hl:zs.length+es.length<=100000) (e:bj nx tg c ρ k 0 S=some (es,S'))
  (q:∀m' H' σ' vs',ExtB [acc] m H m' H'->Rel K m' S' H'->H' acc=some (.lst vs')->VDs K m' H' (zs++es) vs'->EnvR K m' H' ρ σ'->EE.nx σ' H'):rh J (tTg K tg) ts EE σ H:=by
 refine⟨clW K acc nx tg c ρ m1 H1 EE,⟨k,m,S,S',es,zs,vs,E,R,x,ha,vz,hl,e,q⟩,?_⟩
 intro i k σ H z;obtain⟨m,S,S',es,zs,vs,E,R,x,ha,vz,hl,e,q⟩:=z;have na:acc ∉ m:=x.nb acc (by simp);have hB:=AM ha na;cases k with
 |zero=>simp[bj] at e
 |succ k=>
  simp only[bj] at e;cases hn:nx i S with
  |none=>rw[hn] at e;cases e
  |some o=>
   rw[hn] at e;obtain⟨h1,h2⟩:=hI m S H i x R;cases o with
   |none=>
    cases e;exact .inl ⟨h1 hn,q m H σ vs (ExtB.refl na) R ha (by rw[ZU];exact vz) E⟩
   |some d=>
    obtain⟨go,hy⟩:=h2 d hn;dsimp only at e;cases hb:aA tg d ρ with
    |none=>rw[hb] at e;cases e
    |some ρ1=>
     rw[hb] at e;dsimp only at e;obtain⟨e1,S1,c1,e⟩:=ai e;obtain⟨rs,S2,c2,e⟩:=ai e;cases e;rw[Zr] at hl
     refine .inr ⟨go,clW K acc nx tg c ρ m1 H1 EE (i+1) k,λσ' H' z=>⟨k,Y4 k,z⟩,λy H' yl=>?_⟩
     obtain⟨A,vd⟩:=hy y H' yl;have xA:=A.ext.toB hB;have ha':H' acc=some (.lst vs):=A.ext.keep _ _ ha na;refine⟨m,S,ρ,d,ρ1,A.rel,E.mono R A.ext,vd,hb,λσ2 E2=>hts _ _ _ ⟨m,ρ1,S,e1,S1,zs,vs,E2,A.rel,na,ha',vz.mono R A.ext,by lia,c1,λm3 H3 σ3 vs3 x3 R3 h3 v3 E3=>?_⟩⟩;refine⟨m3,S1,_,rs,zs++e1,vs3,E3.weaken (rZ (LeR.refl ρ) fr hb),R3,(x.trans xA).trans x3,h3,v3,by rw[Zr];lia,c2,λm4 H4 σ4 vs4 x4 R4 h4 v4 E4=>?_⟩;refine q m4 H4 σ4 vs4 ((xA.trans x3).trans x4) R4 h4 ?_ E4;rw[<-Yd];exact v4
theorem AN{acc:Addr}{it:XI}{tg:Tg}{t:TT}{c c':XA}{k:Nat}{D:Ends}{σ:L2.St}{H:Hp}(hts:∀D σ H,tCl K acc c D σ H->fh t (tCl K acc c') D σ H)(h:tCl K acc (jI it tg c k) D σ H):zQ (tIt K [acc] it) (tTg K tg) t (tCl K acc c') D σ H:=by
 obtain⟨m,ρ,S,es,S',zs,vs,E,R,na,ha,vz,hl,e,q⟩:=h;unfold jI at e;split at e
 ·rename_i fr;obtain⟨nx,S1,e1,e⟩:=ai e;have hB:=AM ha na;refine⟨m,ρ,S,nx,S1,E,R,hB,e1,λm1 H1 J A1 hI=>?_⟩;have xB:=A1.ext.toB hB;have na1:acc ∉ m1:=xB.nb acc (by simp);exact wk hI hts k fr (E.mono R A1.ext) A1.rel (ExtB.refl na1) (A1.ext.keep _ _ ha na) (vz.mono R A1.ext) hl e λm2 H2 σ2 vs2 x2 R2 h2 v2 E2=>q m2 H2 σ2 vs2 (xB.trans x2) R2 h2 v2 E2
 ·cases e
theorem EnvR.more(E:EnvR K m H ρ σ)(n:Nat):EnvR K m H (ρ++Zp n none) (σ++Zp n none):=by
 refine⟨by simp[E.len],λi d e=>?_⟩;by_cases hi:i < ρ.length
 ·rw[Zw hi] at e;rw[Zw (by rw[<-E.len];exact hi)];exact E.at_ i d e
 ·rw[Zs (by lia),Yq] at e;split at e <;> cases e
theorem wm{own:Nat}{k:Nat}(hts:∀acc D σ H,tCl K acc c D σ H->fh t (tCl K acc c') D σ H)(h:eO K (my own it tg c k) σ H Q):zR own (tIt K [] it) (tTg K tg) (λacc=>fh t (tCl K acc c')) σ H Q:=by
 obtain⟨m,ρ,S,es,S',E,R,e,q⟩:=h;obtain⟨nx,S1,e1,e⟩:=ai e;split at e
 ·rename_i fr;obtain⟨es',S2,e2,e⟩:=ai e;split at e
  ·rename_i hl;cases e;refine⟨m,ρ,S,nx,S1,E,R,λb hb=>absurd hb (by simp),e1,λm1 H1 J A1 hI acc hacc=>?_⟩;have x0:=Ext.beside A1.rel hacc (.lst []);have R0:=A1.rel.beside hacc (.lst []);have na:=A1.rel.no hacc
   have hI':IOk K [acc] J nx m1 (upd H1 acc (.lst [])):=by
    intro m2 S2 H2 i x2 R2;refine hI m2 S2 H2 i ⟨x2.pre,λa o h n _=>?_,λa h n=>?_,λb hb=>absurd hb (by simp)⟩ R2
    ·have ne:a ≠ acc:=aO h hacc;exact x2.keep a o (by rw[aE ne];exact h) n (by simp[ne])
    ·have:=x2.new a h n;by_cases hz:a=acc
     ·subst hz;exact hacc
     ·rw[aE hz] at this;exact this
   refine wk (zs:=[]) (vs:=[]) hI' (hts acc) k fr ((E.mono R A1.ext |>.mono A1.rel x0).more own) R0 (ExtB.refl na) aJ .nil (by simpa using hl) e2 λm2 H2 σ2 vs2 x2 R2 h2 v2 E2=>?_
   have xx:Ext m1 H1 m2 H2:=⟨x2.pre,λa o h n=>by
    have ne:a ≠ acc:=aO h hacc;exact x2.keep a o (by rw[aE ne];exact h) n (by simp[ne]),λa h n=>by
    have:=x2.new a h n;by_cases hz:a=acc
    ·subst hz;exact hacc
    ·rw[aE hz] at this;exact this⟩
   have hn:H acc=none:=by
    cases eh:H acc with
    |none=>rfl
    |some o=>
     by_cases hm:acc ∈ m
     ·exact absurd (A1.ext.pre.subset hm) na
     ·have:=A1.ext.keep acc o eh hm;rw[hacc] at this;cases this
   exact q m2 H2 acc vs2 (A1.trans ⟨xx,R2⟩) h2 (x2.nb acc (by simp)) (λb hb z=>na (A1.ext.pre.subset (z ▸ hb))) hn (by simpa using v2)
  ·cases e
 ·cases e
end
section
variable {X:Cx} {K:W6} {m:List Addr} {H:Hp} {S:Sto}
abbrev AO(x y:XE):XE:=λρ S=>bnd (x ρ S) λd S1=>match d with
 |.bl true=>y ρ S1
 |.bl false=>some (.bl false,S1)
 |_=>none
abbrev xOr(x y:XE):XE:=λρ S=>bnd (x ρ S) λd S1=>match d with
 |.bl true=>some (.bl true,S1)
 |.bl false=>y ρ S1
 |_=>none
abbrev yz:D->Sto->Option (D × Sto)
 |.bl b,S=>some (.bl (!b),S)
 |_,_=>none
abbrev J2:D->Sto->Option (D × Sto)
 |.int i,S=>some (.int (-i),S)
 |_,_=>none
theorem AQ(h:tE K (AO x y) σ H Q):Hd (tE K x) (tE K y) σ H Q:=by
 show 1;obtain⟨a,S1,e1,e⟩:=ai e;refine⟨m,ρ,S,a,S1,E,R,e1,λm1 H1 v A1 va=>?_⟩;cases a with
 |bl b=>
  refine⟨b,va.bls,?_⟩;cases b with
  |true=>exact⟨m1,ρ,S1,d,S',E.mono R A1.ext,A1.rel,e,λm2 H2 w A2 vd=>q m2 H2 w (A1.trans A2) vd⟩
  |false=>cases e;exact q m1 H1 _ A1 bN
 |_=>cases e
theorem Hw(h:tE K (xOr x y) σ H Q):Nn (tE K x) (tE K y) σ H Q:=by
 show 1;obtain⟨a,S1,e1,e⟩:=ai e;refine⟨m,ρ,S,a,S1,E,R,e1,λm1 H1 v A1 va=>?_⟩;cases a with
 |bl b=>
  refine⟨b,va.bls,?_⟩;cases b with
  |false=>exact⟨m1,ρ,S1,d,S',E.mono R A1.ext,A1.rel,e,λm2 H2 w A2 vd=>q m2 H2 w (A1.trans A2) vd⟩
  |true=>cases e;exact q m1 H1 _ A1 bN
 |_=>cases e
theorem J3(h:tE K (xUn yz x) σ H Q):He (tE K x) σ H Q:=by
 show 1;obtain⟨a,S1,e1,e⟩:=ai e;refine⟨m,ρ,S,a,S1,E,R,e1,λm1 H1 v A1 va=>?_⟩;cases a with
 |bl b=>cases e;exact⟨b,va.bls,q m1 H1 _ A1 bN⟩
 |_=>cases e
theorem EA:UnR X (unaryOp .USub) (rS1 X.K J2):=by
 intro pins s σ H x v Q I rx h;refine IV pins s σ H x v Q I rx ?_;obtain⟨m,S,a,d,S',R,va,e,q⟩:=h;cases a with
 |int i=>cases e;exact⟨i,va.ints,q m H _ (Aft.refl R) aX⟩
 |_=>cases e
abbrev yA(f g:D->D->Sto->Option (D × Sto))(x y z:XE):XE:=λρ S=>bnd (x ρ S) λa S1=>bnd (y ρ S1) λb S2=>bnd (f a b S2) λr S3=>match r with
 |.bl true=>bnd (z ρ S3) λc S4=>g b c S4
 |.bl false=>some (.bl false,S3)
 |_=>none
theorem AR(h:tE K (yA f g x y z) σ H Q):tU (rS K f) (rS K g) (tE K x) (tE K y) (tE K z) σ H Q:=by
 show 1;obtain⟨a,S1,e1,e⟩:=ai e;obtain⟨b,S2,e2,e⟩:=ai e;obtain⟨r,S3,e3,e⟩:=ai e;refine⟨m,ρ,S,a,S1,E,R,e1,λm1 H1 v A1 va=>⟨m1,ρ,S1,b,S2,E.mono R A1.ext,A1.rel,e2,λm2 H2 w A2 vb=>?_⟩⟩;refine⟨m2,S2,a,b,r,S3,A2.rel,va.mono A1.rel A2.ext,vb,e3,λm3 H3 u A3 vr=>?_⟩;cases r with
 |bl k=>
  refine⟨k,vr.bls,?_⟩;cases k with
  |true=>
   dsimp only at e;obtain⟨c,S4,e4,e⟩:=ai e;exact⟨m3,ρ,S3,c,S4,E.mono R ((A1.trans A2).trans A3).ext,A3.rel,e4,λm4 H4 y A4 vc=>⟨m4,S4,b,c,d,S',A4.rel,vb.mono A2.rel (A3.trans A4).ext,vc,e,λm5 H5 t A5 vd=>q m5 H5 t ((((A1.trans A2).trans A3).trans A4).trans A5) vd⟩⟩
  |false=>cases e;exact q m3 H3 _ ((A1.trans A2).trans A3) bN
 |_=>cases e
abbrev AS(x y:XT):XT:=λρ S=>bnd (x ρ S) λb S1=>if b=true then y ρ S1 else some (false,S1)
abbrev J4(x y:XT):XT:=λρ S=>bnd (x ρ S) λb S1=>if b=true then some (true,S1) else y ρ S1
abbrev AU(x:XT):XT:=λρ S=>bnd (x ρ S) λb S1=>some (!b,S1)
theorem AV(h:tT K (AS x y) σ H Q):Nl (tT K x) (tT K y) σ H Q:=by
 show 1;obtain⟨b,S1,e1,e⟩:=ai e;refine⟨m,ρ,S,b,S1,E,R,e1,λm1 H1 A1=>?_⟩;dsimp only;split
 ·rename_i hb;rw[if_pos hb] at e;exact⟨m1,ρ,S1,d,S',E.mono R A1.ext,A1.rel,e,λm2 H2 A2=>q m2 H2 (A1.trans A2)⟩
 ·rename_i hb;rw[if_neg hb] at e;cases e;exact q m1 H1 A1
theorem Hx(h:tT K (J4 x y) σ H Q):tOr (tT K x) (tT K y) σ H Q:=by
 show 1;obtain⟨b,S1,e1,e⟩:=ai e;refine⟨m,ρ,S,b,S1,E,R,e1,λm1 H1 A1=>?_⟩;dsimp only;split
 ·rename_i hb;rw[if_pos hb] at e;cases e;exact q m1 H1 A1
 ·rename_i hb;rw[if_neg hb] at e;exact⟨m1,ρ,S1,d,S',E.mono R A1.ext,A1.rel,e,λm2 H2 A2=>q m2 H2 (A1.trans A2)⟩
theorem J5(h:tT K (AU x) σ H Q):Nm (tT K x) σ H Q:=by
 show 1;obtain⟨b,S1,e1,e⟩:=ai e;cases e;exact⟨m,ρ,S,b,_,E,R,e1,λm1 H1 A1=>q m1 H1 A1⟩
@[inline]abbrev Calls:=Nat->List D->Sto->Option (D × Sto)
def spC(K:W6)(g:List D->Sto->Option (D × Sto))(n:Nat):Sp:=λvs H Q _=>∃m ds S d S',VDs K m H ds vs/\Rel K m S H/\ds.length=n/\g ds S=some (d,S')/\∀m' H' v,Aft K m H S' m' H'->VD K m' H' d v->Q v H'
abbrev se(g:List D->Sto->Option (D × Sto))(n:Nat)(x:XA):XE:=λρ S=>bnd (x ρ S) λds S1=>if ds.length=n then g ds S1 else none
theorem EB{n:Nat}(h:tE K (se g n x) σ H Q):Hm (spC K g n) [] E0 (tAr K x) σ H Q:=by
 show 1;obtain⟨ds,S1,e1,e⟩:=ai e;split at e
 ·rename_i hl;refine⟨m,ρ,S,ds,S1,E,R,e1,λm1 H1 vs A1 vd=>⟨m1,ds,S1,d,S',by rw[ZU];exact vd,A1.rel,hl,e,λm2 H2 v A2 vv=>q m2 H2 v (A1.trans A2) vv⟩⟩
 ·cases e
end
mutual
inductive CE where |non |bl (b:Bool) |int (i:Int) |str (x:Str) |var (i:Nat) |con (k:Nat)(v:Int) |tup (es:List CE) |lst (es:List CE) |dic0 |dic1 (i j:Int) |bin (o:BOp)(a b:CE) |neg (a:CE) |cmp (o:COp)(a b:CE) |chn (o p:COp)(a b c:CE) |and (a b:CE) |or (a b:CE) |not (a:CE) |ix (a b:CE) |sl (a:CE)(lo hi:Option CE) |call (f:Nat)(es:List CE) |inst (t:Ty)(a:CE) |len (a:CE) |all (a:CE) |any (a:CE) |tupOf (a:CE) |listOf (a:CE) |listR (a:CE) |srt (a:CE) |mxL (a:CE) |mxD (a:CE)(c:Int) |sm (a:CE) |intOf (a:CE) |mx (a b:CE) |mn (a b:CE) |rep (a:CE) |comp (own:List Str)(elt:CE)(cls:List Cl) |app (o e:CE) |popAt (o e:CE) |ins (o i e:CE) |cnt (o e:CE)
inductive CI where
 |val (a:CE) |r1 (a:CE) |r2 (a b:CE) |en (a:CE)
inductive Cl where
 |mk (tg:Tg) (it:CI) (cond:Option CE)
end
abbrev aj:CE->Bool
 |.lst _=>true |.comp _ _ _=>true |.listOf _=>true |.listR _=>true |.srt _=>true
 |_=>false
abbrev LF:Nat:=1000000
abbrev xNo{α:Type}:Rho->Sto->Option (α × Sto):=λ_ _=>none
abbrev mz(x:XE):XA:=λρ S=>bnd (x ρ S) λd S1=>(ao d S1).map λr=>(r.2,S1)
abbrev cR(tu:Bool)(ds:List D):Option (List D):=if tu=false then uy tu ds else none
abbrev yB(f:Bool->List D->Option (List D))(x:XA):XA:=λρ S=>bnd (x ρ S) λds S1=>(f false ds).map λes=>(es,S1)
abbrev yC(f:Bool->List D->Option (List D))(x:XE):XA:=λρ S=>bnd (x ρ S) λd S1=>match ao d S1 with
 |some r=>(f r.1 r.2).map λes=>(es,S1)
 |none=>none
abbrev og(i:Int):Key:=Sum.inl i
abbrev yD(x:XE):XA:=λρ S=>bnd (x ρ S) λd S1=>match d with
 |.int i=>if 0<=i/\i<=1000 then some ((Zj i.toNat).map λj=>.int (Int.ofNat j),S1) else none
 |_=>none
abbrev AW:XE:=λ_ S=>some (.ref S.length,S++[.dic [] []])
abbrev AX(i j:Int):XE:=λ_ S=>some (.ref S.length,S++[.dic [og i] [.int j]])
abbrev cnd(t:CE->XT):Option CE->XA->XA
 |some c,x=>AL (t c) x
 |none,x=>x
abbrev opt(t:CE->XE):Option CE->XO
 |some l=>uk (t l)
 |none=>uj
mutual
noncomputable def evE(C:Calls)(ar:Nat->Nat):Nat->CE->XE
 |0,_=>xNo
 |n+1,e=>match e with
  |.non=>xC .non
  |.bl b=>xC (.bl b)
  |.int i=>xC (.int i)
  |.str x=>xC (.str x)
  |.var i=>ya i
  |.con _ v=>xC (.int v)
  |.tup es=>kJ kK (evA C ar n es)
  |.lst es=>dH (oK (evA C ar n es))
  |.dic0=>AW
  |.dic1 i j=>AX i j
  |.bin o a b=>rH (bI o) (evE C ar n a) (evE C ar n b)
  |.neg a=>xUn J2 (evE C ar n a)
  |.cmp o a b=>rH (az o) (evE C ar n a) (evE C ar n b)
  |.chn o p a b c=>yA (az o) (az p) (evE C ar n a) (evE C ar n b) (evE C ar n c)
  |.and a b=>AO (evE C ar n a) (evE C ar n b)
  |.or a b=>xOr (evE C ar n a) (evE C ar n b)
  |.not a=>xUn yz (evE C ar n a)
  |.ix a b=>if aj a=true then ug (cu C ar n a) (evE C ar n b) else rH ixS (evE C ar n a) (evE C ar n b)
  |.sl a lo hi=>xSl (evE C ar n a) (opt (evE C ar n) lo) (opt (evE C ar n) hi)
  |.call f es=>se (C f) (ar f) (evA C ar n es)
  |.inst t a=>xUn (mi t) (evE C ar n a)
  |.len a=>if aj a=true then nW cq (cu C ar n a) else nX cq (evE C ar n a)
  |.all a=>if aj a=true then nW kM (cu C ar n a) else nX kM (evE C ar n a)
  |.any a=>if aj a=true then nW nZ (cu C ar n a) else nX nZ (evE C ar n a)
  |.tupOf a=>if aj a=true then nW jF (cu C ar n a) else nX jF (evE C ar n a)
  |.listOf a=>dH (if aj a=true then cu C ar n a else mz (evE C ar n a))
  |.listR a=>dH (yD (evE C ar n a))
  |.srt a=>dH (if aj a=true then yB cR (cu C ar n a) else yC cR (evE C ar n a))
  |.mxL a=>if aj a=true then nW kN (cu C ar n a) else nX kN (evE C ar n a)
  |.mxD a c=>if aj a=true then nW (gX c) (cu C ar n a) else nX (gX c) (evE C ar n a)
  |.sm a=>if aj a=true then nW n9 (cu C ar n a) else nX n9 (evE C ar n a)
  |.intOf a=>xUn Ax (evE C ar n a)
  |.mx a b=>kJ (two Aq) (evA C ar n [a,b])
  |.mn a b=>kJ (two Ar) (evA C ar n [a,b])
  |.rep a=>xUn kj (evE C ar n a)
  | .comp own elt cls=>dH (match cls with
   |[]=>xNo
   | ⟨tg,it,cond⟩::rest=>my own.length (evI C ar n it) tg (cnd (evT C ar n) cond (gQ C ar n elt rest)) LF)
  |.app o a=>yu eA uB (evE C ar n o) (evA C ar n [a])
  |.popAt o a=>yu eA eT (evE C ar n o) (evA C ar n [a])
  |.ins o i a=>yu eA uE (evE C ar n o) (evA C ar n [i,a])
  |.cnt o a=>yu (λd _=>isTup d) uC (evE C ar n o) (evA C ar n [a])
noncomputable def evA(C:Calls)(ar:Nat->Nat):Nat->List CE->XA
 |0,_=>xNo
 |n+1,es=>match es with
  |[]=>D9
  |e::es=>v9 (evE C ar n e) (evA C ar n es)
noncomputable def cu(C:Calls)(ar:Nat->Nat):Nat->CE->XA
 |0,_=>xNo
 |n+1,e=>match e with
  |.lst es=>oK (evA C ar n es)
  |.listOf a=>if aj a=true then cu C ar n a else mz (evE C ar n a)
  |.listR a=>yD (evE C ar n a)
  |.srt a=>if aj a=true then yB cR (cu C ar n a) else yC cR (evE C ar n a)
  |.comp own elt cls=>match cls with
   |[]=>xNo
   |⟨tg,it,cond⟩::rest=>my own.length (evI C ar n it) tg (cnd (evT C ar n) cond (gQ C ar n elt rest)) LF
  |_=>xNo
noncomputable def gQ(C:Calls)(ar:Nat->Nat):Nat->CE->List Cl->XA
 |0,_,_=>xNo
 |n+1,elt,cls=>match cls with
  |[]=>Hv (evE C ar n elt)
  |⟨tg,it,cond⟩::rest=>jI (evI C ar n it) tg (cnd (evT C ar n) cond (gQ C ar n elt rest)) LF
noncomputable def evI(C:Calls)(ar:Nat->Nat):Nat->CI->XI
 |0,_=>xNo
 |n+1,it=>match it with
  |.val a=>if aj a=true then xIT (cu C ar n a) else xIV (evE C ar n a)
  |.r1 a=>xR1 (evE C ar n a)
  |.r2 a b=>xR2 (evE C ar n a) (evE C ar n b)
  |.en a=>if aj a=true then xET (cu C ar n a) else xEV (evE C ar n a)
noncomputable def evT(C:Calls)(ar:Nat->Nat):Nat->CE->XT
 |0,_=>xNo
 |n+1,e=>match e with
  |.cmp o a b=>xB (rH (az o) (evE C ar n a) (evE C ar n b))
  |.chn o p a b c=>xB (yA (az o) (az p) (evE C ar n a) (evE C ar n b) (evE C ar n c))
  |.and a b=>AS (evT C ar n a) (evT C ar n b)
  |.or a b=>J4 (evT C ar n a) (evT C ar n b)
  |.not a=>AU (evT C ar n a)
  |e=>Ei (evE C ar n e)
end
structure Tab where
 con:List (Str × Int)
 fns:List (Str × Nat)
structure Blk where
 sc:Scope
 fs:Option Scope
 N:List Str
abbrev Blk.glo(b:Blk)(x:Str):Bool:=b.sc.names.lookup x == some .globalImplicit && !(x == ("__debug__" : Str))
abbrev Blk.vis(b:Blk)(x:Str):Bool:=(match b.sc.names.lookup x with
 |some .local=>true
 |some .cell=>true
 |some .free=>true
 | _=>false) && !(x == ("__debug__" : Str)) && !(x == ("__classdict__" : Str))
abbrev Blk.own(b:Blk)(x:Str):Bool:=match b.sc.names.lookup x with
 |some .local=>true
 | some .cell=>(match b.fs with
  |none=>true
  | some sc=>sc.names.lookup x == some .cell)
 |_=>false
theorem bO{P:Prop}[Decidable P]{f:P->Bool}(h:(if p:P then f p else false)=true):∃p,f p=true:=by
 by_cases p:P
 ·rw[dif_pos p] at h;exact⟨p,h⟩
 ·rw[dif_neg p] at h;cases h
theorem an2{a b:Bool}(h:(a && b)=true):a=true/\b=true:=by cases a;cases h;exact⟨rfl,h⟩
theorem an3{a b c:Bool}(h:(a && b && c)=true):a=true/\b=true/\c=true:=⟨(an2 (an2 h).1).1,(an2 (an2 h).1).2,(an2 h).2⟩
theorem an4{a b c d:Bool}(h:(a && b && c && d)=true):a=true/\b=true/\c=true/\d=true:=⟨(an3 (an2 h).1).1,(an3 (an2 h).1).2.1,(an3 (an2 h).1).2.2,(an2 h).2⟩
theorem an5{a b c d e:Bool}(h:(a && b && c && d && e)=true):a=true/\b=true/\c=true/\d=true/\e=true:=⟨(an4 (an2 h).1).1,(an4 (an2 h).1).2.1,(an4 (an2 h).1).2.2.1,(an4 (an2 h).1).2.2.2,(an2 h).2⟩
theorem an6{a b c d e f:Bool}(h:(a && b && c && d && e && f)=true):a=true/\b=true/\c=true/\d=true/\e=true/\f=true:=⟨(an5 (an2 h).1).1,(an5 (an2 h).1).2.1,(an5 (an2 h).1).2.2.1,(an5 (an2 h).1).2.2.2.1,(an5 (an2 h).1).2.2.2.2,(an2 h).2⟩
abbrev l1{α:Type}(l:List α)(k:α->Bool):Bool:=match l with
 |[]=>false
 |x::t=>t.isEmpty && k x
abbrev lC{α:Type}(l:List α)(k:α->List α->Bool):Bool:=match l with
 |[]=>false
 |x::t=>k x t
theorem bQ{α:Type}{l:List α}{k:α->List α->Bool}(h:lC l k=true):∃x t,l=x::t/\k x t=true:=by
 cases l with
 |nil=>cases h
 |cons x t=>exact⟨x,t,rfl,h⟩
theorem cv{α:Type}{l:List α}(h:l.isEmpty=true):l=[]:=by cases l;rfl;cases h
theorem ci{α:Type}{l:List α}{k:α->Bool}(h:l1 l k=true):∃x,l=[x]/\k x=true:=by
 cases l with
 |nil=>cases h
 |cons x t=>obtain⟨h1,h2⟩:=an2 h;cases cv h1;exact⟨x,rfl,h2⟩
abbrev aG(e:Expr):Bool:=!(e.ctorIdx == 22 || e.ctorIdx == 26 || e.ctorIdx == 7)
abbrev qv(e:Expr)(k:BoolOp->List Expr->Pos->Bool):Bool:=if h:e.ctorIdx=0 then @Expr.BoolOp.elim (λ_=>Bool) e h k else false
theorem oV{e:Expr}{k:BoolOp->List Expr->Pos->Bool}(h:qv e k=true):∃x0 x1 x2,e = .BoolOp x0 x1 x2/\k x0 x1 x2=true:=by
 obtain⟨h1,h⟩:=bO h;exact Expr.BoolOp.elim (motive_1:=λe=>∀h',@Expr.BoolOp.elim (λ_=>Bool) e h' k=true->∃x0 x1 x2,e = .BoolOp x0 x1 x2/\k x0 x1 x2=true) e h1 (λx0 x1 x2 _ hh=>⟨x0,x1,x2,rfl,hh⟩) h1 h
abbrev AY(e:Expr)(k:Expr->WR->Expr->Pos->Bool):Bool:=if h:e.ctorIdx=2 then @Expr.BinOp.elim (λ_=>Bool) e h k else false
theorem AZ{e:Expr}{k:Expr->WR->Expr->Pos->Bool}(h:AY e k=true):∃x0 x1 x2 x3,e = .BinOp x0 x1 x2 x3/\k x0 x1 x2 x3=true:=by
 obtain⟨h1,h⟩:=bO h;exact Expr.BinOp.elim (motive_1:=λe=>∀h',@Expr.BinOp.elim (λ_=>Bool) e h' k=true->∃x0 x1 x2 x3,e = .BinOp x0 x1 x2 x3/\k x0 x1 x2 x3=true) e h1 (λx0 x1 x2 x3 _ hh=>⟨x0,x1,x2,x3,rfl,hh⟩) h1 h
abbrev iW(e:Expr)(k:UnaryOp->Expr->Pos->Bool):Bool:=if h:e.ctorIdx=3 then @Expr.UnaryOp.elim (λ_=>Bool) e h k else false
theorem mB{e:Expr}{k:UnaryOp->Expr->Pos->Bool}(h:iW e k=true):∃x0 x1 x2,e = .UnaryOp x0 x1 x2/\k x0 x1 x2=true:=by
 obtain⟨h1,h⟩:=bO h;exact Expr.UnaryOp.elim (motive_1:=λe=>∀h',@Expr.UnaryOp.elim (λ_=>Bool) e h' k=true->∃x0 x1 x2,e = .UnaryOp x0 x1 x2/\k x0 x1 x2=true) e h1 (λx0 x1 x2 _ hh=>⟨x0,x1,x2,rfl,hh⟩) h1 h
abbrev A6(e:Expr)(k:List (Option Expr)->List Expr->Pos->Bool):Bool:=if h:e.ctorIdx=6 then @Expr.Dict.elim (λ_=>Bool) e h k else false
theorem wn{e:Expr}{k:List (Option Expr)->List Expr->Pos->Bool}(h:A6 e k=true):∃x0 x1 x2,e = .Dict x0 x1 x2/\k x0 x1 x2=true:=by
 obtain⟨h1,h⟩:=bO h;exact Expr.Dict.elim (motive_1:=λe=>∀h',@Expr.Dict.elim (λ_=>Bool) e h' k=true->∃x0 x1 x2,e = .Dict x0 x1 x2/\k x0 x1 x2=true) e h1 (λx0 x1 x2 _ hh=>⟨x0,x1,x2,rfl,hh⟩) h1 h
abbrev jJ(e:Expr)(k:Expr->List Wv->Scope->Pos->Bool):Bool:=if h:e.ctorIdx=8 then @Expr.ListComp.elim (λ_=>Bool) e h k else false
theorem kl{e:Expr}{k:Expr->List Wv->Scope->Pos->Bool}(h:jJ e k=true):∃x0 x1 x2 x3,e = .ListComp x0 x1 x2 x3/\k x0 x1 x2 x3=true:=by
 obtain⟨h1,h⟩:=bO h;exact Expr.ListComp.elim (motive_1:=λe=>∀h',@Expr.ListComp.elim (λ_=>Bool) e h' k=true->∃x0 x1 x2 x3,e = .ListComp x0 x1 x2 x3/\k x0 x1 x2 x3=true) e h1 (λx0 x1 x2 x3 _ hh=>⟨x0,x1,x2,x3,rfl,hh⟩) h1 h
abbrev mD(e:Expr)(k:Expr->List CmpOp->List Expr->Pos->Bool):Bool:=if h:e.ctorIdx=15 then @Expr.Compare.elim (λ_=>Bool) e h k else false
theorem mE{e:Expr}{k:Expr->List CmpOp->List Expr->Pos->Bool}(h:mD e k=true):∃x0 x1 x2 x3,e = .Compare x0 x1 x2 x3/\k x0 x1 x2 x3=true:=by
 obtain⟨h1,h⟩:=bO h;exact Expr.Compare.elim (motive_1:=λe=>∀h',@Expr.Compare.elim (λ_=>Bool) e h' k=true->∃x0 x1 x2 x3,e = .Compare x0 x1 x2 x3/\k x0 x1 x2 x3=true) e h1 (λx0 x1 x2 x3 _ hh=>⟨x0,x1,x2,x3,rfl,hh⟩) h1 h
abbrev sg(e:Expr)(k:Expr->List Expr->List Keyword->Pos->Bool):Bool:=if h:e.ctorIdx=16 then @Expr.Call.elim (λ_=>Bool) e h k else false
theorem qw{e:Expr}{k:Expr->List Expr->List Keyword->Pos->Bool}(h:sg e k=true):∃x0 x1 x2 x3,e = .Call x0 x1 x2 x3/\k x0 x1 x2 x3=true:=by
 obtain⟨h1,h⟩:=bO h;exact Expr.Call.elim (motive_1:=λe=>∀h',@Expr.Call.elim (λ_=>Bool) e h' k=true->∃x0 x1 x2 x3,e = .Call x0 x1 x2 x3/\k x0 x1 x2 x3=true) e h1 (λx0 x1 x2 x3 _ hh=>⟨x0,x1,x2,x3,rfl,hh⟩) h1 h
abbrev cU(e:Expr)(k:Const->Nat->Pos->Bool):Bool:=if h:e.ctorIdx=19 then @Expr.Constant.elim (λ_=>Bool) e h k else false
theorem cD{e:Expr}{k:Const->Nat->Pos->Bool}(h:cU e k=true):∃x0 x1 x2,e = .Constant x0 x1 x2/\k x0 x1 x2=true:=by
 obtain⟨h1,h⟩:=bO h;exact Expr.Constant.elim (motive_1:=λe=>∀h',@Expr.Constant.elim (λ_=>Bool) e h' k=true->∃x0 x1 x2,e = .Constant x0 x1 x2/\k x0 x1 x2=true) e h1 (λx0 x1 x2 _ hh=>⟨x0,x1,x2,rfl,hh⟩) h1 h
abbrev mF(e:Expr)(k:Expr->Str->Pos->Bool):Bool:=if h:e.ctorIdx=20 then @Expr.Attribute.elim (λ_=>Bool) e h k else false
theorem qx{e:Expr}{k:Expr->Str->Pos->Bool}(h:mF e k=true):∃x0 x1 x2,e = .Attribute x0 x1 x2/\k x0 x1 x2=true:=by
 obtain⟨h1,h⟩:=bO h;exact Expr.Attribute.elim (motive_1:=λe=>∀h',@Expr.Attribute.elim (λ_=>Bool) e h' k=true->∃x0 x1 x2,e = .Attribute x0 x1 x2/\k x0 x1 x2=true) e h1 (λx0 x1 x2 _ hh=>⟨x0,x1,x2,rfl,hh⟩) h1 h
abbrev c9(e:Expr)(k:Expr->Expr->Pos->Bool):Bool:=if h:e.ctorIdx=21 then @Expr.Subscript.elim (λ_=>Bool) e h k else false
theorem cS{e:Expr}{k:Expr->Expr->Pos->Bool}(h:c9 e k=true):∃x0 x1 x2,e = .Subscript x0 x1 x2/\k x0 x1 x2=true:=by
 obtain⟨h1,h⟩:=bO h;exact Expr.Subscript.elim (motive_1:=λe=>∀h',@Expr.Subscript.elim (λ_=>Bool) e h' k=true->∃x0 x1 x2,e = .Subscript x0 x1 x2/\k x0 x1 x2=true) e h1 (λx0 x1 x2 _ hh=>⟨x0,x1,x2,rfl,hh⟩) h1 h
abbrev A7(e:Expr)(k:Str->Pos->Bool):Bool:=if h:e.ctorIdx=23 then @Expr.Name.elim (λ_=>Bool) e h k else false
theorem wo{e:Expr}{k:Str->Pos->Bool}(h:A7 e k=true):∃x0 x1,e = .Name x0 x1/\k x0 x1=true:=by
 obtain⟨h1,h⟩:=bO h;exact Expr.Name.elim (motive_1:=λe=>∀h',@Expr.Name.elim (λ_=>Bool) e h' k=true->∃x0 x1,e = .Name x0 x1/\k x0 x1=true) e h1 (λx0 x1 _ hh=>⟨x0,x1,rfl,hh⟩) h1 h
abbrev Hy(e:Expr)(k:List Expr->Pos->Bool):Bool:=if h:e.ctorIdx=24 then @Expr.List.elim (λ_=>Bool) e h k else false
theorem EC{e:Expr}{k:List Expr->Pos->Bool}(h:Hy e k=true):∃x0 x1,e = .List x0 x1/\k x0 x1=true:=by
 obtain⟨h1,h⟩:=bO h;exact Expr.List.elim (motive_1:=λe=>∀h',@Expr.List.elim (λ_=>Bool) e h' k=true->∃x0 x1,e = .List x0 x1/\k x0 x1=true) e h1 (λx0 x1 _ hh=>⟨x0,x1,rfl,hh⟩) h1 h
abbrev A8(e:Expr)(k:List Expr->Nat->Pos->Bool):Bool:=if h:e.ctorIdx=25 then @Expr.Tuple.elim (λ_=>Bool) e h k else false
theorem A9{e:Expr}{k:List Expr->Nat->Pos->Bool}(h:A8 e k=true):∃x0 x1 x2,e = .Tuple x0 x1 x2/\k x0 x1 x2=true:=by
 obtain⟨h1,h⟩:=bO h;exact Expr.Tuple.elim (motive_1:=λe=>∀h',@Expr.Tuple.elim (λ_=>Bool) e h' k=true->∃x0 x1 x2,e = .Tuple x0 x1 x2/\k x0 x1 x2=true) e h1 (λx0 x1 x2 _ hh=>⟨x0,x1,x2,rfl,hh⟩) h1 h
abbrev Ba(e:Expr)(k:Option Expr->Option Expr->Option Expr->Pos->Bool):Bool:=if h:e.ctorIdx=26 then @Expr.Slice.elim (λ_=>Bool) e h k else false
theorem Bb{e:Expr}{k:Option Expr->Option Expr->Option Expr->Pos->Bool}(h:Ba e k=true):∃x0 x1 x2 x3,e = .Slice x0 x1 x2 x3/\k x0 x1 x2 x3=true:=by
 obtain⟨h1,h⟩:=bO h;exact Expr.Slice.elim (motive_1:=λe=>∀h',@Expr.Slice.elim (λ_=>Bool) e h' k=true->∃x0 x1 x2 x3,e = .Slice x0 x1 x2 x3/\k x0 x1 x2 x3=true) e h1 (λx0 x1 x2 x3 _ hh=>⟨x0,x1,x2,x3,rfl,hh⟩) h1 h
abbrev uH(e:Expr):Bool:=!(e.ctorIdx == 22 || sg e λf es ks _=>f.ctorIdx == 23 && es.isEmpty && ks.isEmpty)
abbrev ED(e:Expr):Bool:=!(e.ctorIdx == 0 || e.ctorIdx == 5 || e.ctorIdx == 15 || iW e λo _ _=>decide (o = .Not))
abbrev mG(own N:List Str):List Nat:=(Zj N.length).filter λi=>match N[i]? with
 |some x=>own.contains x
 |none=>false
abbrev Blk.inner(b:Blk)(own:List Str)(scope:Scope):Blk:=⟨fI scope b.sc,some scope,cX (mG own b.N) b.N++own⟩
abbrev Bc(e:Expr):Option (Str × Pos):=if h:e.ctorIdx=23 then some (@Expr.Name.elim (λ_=>Str × Pos) e h λx p=>(x,p)) else none
abbrev si(e:Expr):Option (List Expr × Nat × Pos):=if h:e.ctorIdx=25 then some (@Expr.Tuple.elim (λ_=>List Expr × Nat × Pos) e h λes k p=>(es,k,p)) else none
theorem Hz{α:Type}{P:Prop}[Decidable P]{f:P->α}{r:α}(h:(if p:P then some (f p) else none)=some r):∃p,f p=r:=by
 by_cases p:P
 ·rw[dif_pos p] at h;cases h;exact⟨p,rfl⟩
 ·rw[dif_neg p] at h;cases h
theorem qy{e:Expr}{x:Str}{p:Pos}(h:Bc e=some (x,p)):e = .Name x p:=by
 obtain⟨h1,h⟩:=Hz h;exact Expr.Name.elim (motive_1:=λe=>∀h',Expr.Name.elim (motive_1:=λ_=>Str × Pos) e h' (λx p=>(x,p))=(x,p)->e = .Name x p) e h1 (λ_ _ _ hh=>by cases hh;rfl) h1 h
theorem iX{e:Expr}{es:List Expr}{k:Nat}{p:Pos}(h:si e=some (es,k,p)):e = .Tuple es k p:=by
 obtain⟨h1,h⟩:=Hz h;exact Expr.Tuple.elim (motive_1:=λe=>∀h',Expr.Tuple.elim (motive_1:=λ_=>List Expr × Nat × Pos) e h' (λes k p=>(es,k,p))=(es,k,p)->e = .Tuple es k p) e h1 (λ_ _ _ _ hh=>by cases hh;rfl) h1 h
abbrev oA{α:Type}(o:Option α)(k:α->Bool):Bool:=match o with
 |some r=>k r
 |none=>false
theorem jK{α:Type}{o:Option α}{k:α->Bool}(h:oA o k=true):∃r,o=some r/\k r=true:=by
 cases o with
 |none=>cases h
 |some r=>exact⟨r,rfl,h⟩
theorem EF{a b:Bool}(h:(a || b)=true):a=true\/b=true:=by cases a;exact .inr h;exact .inl rfl
mutual
noncomputable def uI(b:Blk)(e:Expr):Tg->Bool
 |.name i=>oA (Bc e) λr=>b.N[i]? == some r.1 && b.own r.1
 |.tup ts=>oA (si e) λr=>mH b r.1 ts
noncomputable def mH(b:Blk)(es:List Expr):List Tg->Bool
 |[]=>es.isEmpty
 |t::ts=>lC es λe es=>uI b e t && aG e && mH b es ts
end
abbrev Oo(e:Expr):Bool:=cU e λc _ _=>decide (c = .none)
abbrev sBl(v:Bool)(e:Expr):Bool:=cU e λc _ _=>decide (c = .bool v)
abbrev yE(v:Int)(e:Expr):Bool:=cU e λc _ _=>decide (c = .int v)
abbrev yF(v:Str)(e:Expr):Bool:=cU e λc _ _=>decide (c = .str v)
abbrev fk(k:Str->Bool)(e:Expr):Bool:=A7 e λx _=>k x
abbrev J6(k:List Expr->Bool)(e:Expr):Bool:=A8 e λes _ _=>k es
abbrev uJ(k:List Expr->Bool)(e:Expr):Bool:=Hy e λes _=>k es
abbrev EG(o:WR)(k l:Expr->Bool)(e:Expr):Bool:=AY e λx op y _=>decide (op=o) && k x && l y
abbrev Op(k:Expr->Bool)(e:Expr):Bool:=iW e λo x _=>decide (o = .USub) && k x
abbrev EH(k:Expr->Bool)(e:Expr):Bool:=iW e λo x _=>decide (o = .Not) && k x
abbrev EI(o:CmpOp)(k l:Expr->Bool)(e:Expr):Bool:=mD e λx os ys _=>l1 os λop=>l1 ys λy=>decide (op=o) && k x && l y && aG y
abbrev J7(o p:CmpOp)(k l m:Expr->Bool)(e:Expr):Bool:=mD e λx os ys _=>lC os λop os=>l1 os λop'=>lC ys λy ys=>l1 ys λz=>decide (op=o) && decide (op'=p) && k x && l y && m z && aG z
abbrev yG(o:BoolOp)(k l:Expr->Bool)(e:Expr):Bool:=qv e λop vs _=>lC vs λx vs=>l1 vs λy=>decide (op=o) && k x && l y
abbrev Be(o:BoolOp)(k l:Expr->Bool)(e:Expr):Bool:=qv e λop vs p=>lC vs λx vs=>lC vs λy vs=>lC vs λz ys=>decide (op=o) && k x && l (.BoolOp o (y::z::ys) p)
abbrev sIx(k l:Expr->Bool)(e:Expr):Bool:=c9 e λx y _=>k x && l y && aG y
abbrev sSl(k:Expr->Bool)(l m:Option Expr->Bool)(e:Expr):Bool:=c9 e λx s _=>Ba s λy z w _=>w.isNone && k x && l y && m z
abbrev sCN(e:Expr)(k:Str->List Expr->List Keyword->Bool):Bool:=sg e λf es ks _=>A7 f λx _=>k x es ks
abbrev Bf(k:Str->Bool)(l:List Expr->Bool)(e:Expr):Bool:=sCN e λx es ks=>lC es λe es=>ks.isEmpty && k x && l (e::es)
abbrev uK(b:Blk)(f:Str)(k:List Expr->Bool)(e:Expr):Bool:=sCN e λx es ks=>lC es λe es=>ks.isEmpty && x == f && b.glo x && k (e::es)
abbrev bS(b:Blk)(f:Str)(k:Expr->Bool)(e:Expr):Bool:=sCN e λx es ks=>l1 es λe=>ks.isEmpty && x == f && b.glo x && k e && aG e
abbrev Oq(c:Int)(ks:List Keyword):Bool:=l1 ks λw=>w.arg == some (Str.ofString "default") && yE c w.value
abbrev HA(b:Blk)(c:Int)(k:Expr->Bool)(e:Expr):Bool:=sCN e λx es ks=>l1 es λe=>Oq c ks && x == "max" && b.glo x && k e && aG e
abbrev qz(b:Blk)(f:Str)(k l:Expr->Bool)(e:Expr):Bool:=sCN e λx es ks=>lC es λe es=>l1 es λe'=>ks.isEmpty && (x == f && b.glo x && k e && aG e && l e' && aG e')
abbrev yH(m:Str)(k:Expr->Bool)(l:List Expr->Bool)(e:Expr):Bool:=sg e λf es ks p=>mF f λx m' ap=>ks.isEmpty && m' == m && uH x && (ap.endLine == p.line) && k x && l es
abbrev HB(k:Expr->Expr->Expr->List Expr->List Wv->Scope->Bool)(e:Expr):Bool:=jJ e λe gs scope _=>lC gs λg gs=>decide (g.is_async=0) && k e g.target g.iter g.ifs gs scope
abbrev HC(e:Expr):Bool:=A6 e λks vs _=>ks.isEmpty && vs.isEmpty
abbrev HD(k l:Expr->Bool)(e:Expr):Bool:=A6 e λks vs _=>l1 ks λx=>l1 vs λy=>match x with
 |some x=>k x && l y
 |none=>false
theorem cE{x y:Str}(h:(x == y)=true):x=y:=eq_of_beq h
section
variable {e:Expr} {k l m:Expr->Bool}
theorem J8(h:Oo e=true):∃a p,e = .Constant .none a p:=by
 obtain⟨c,a,p,rfl,h⟩:=cD h;cases of_decide_eq_true h;exact⟨a,p,rfl⟩
theorem Bg{v:Bool}(h:sBl v e=true):∃a p,e = .Constant (.bool v) a p:=by
 obtain⟨c,a,p,rfl,h⟩:=cD h;cases of_decide_eq_true h;exact⟨a,p,rfl⟩
theorem mI{v:Int}(h:yE v e=true):∃a p,e = .Constant (.int v) a p:=by
 obtain⟨c,a,p,rfl,h⟩:=cD h;cases of_decide_eq_true h;exact⟨a,p,rfl⟩
theorem uL{v:Str}(h:yF v e=true):∃a p,e = .Constant (.str v) a p:=by
 obtain⟨c,a,p,rfl,h⟩:=cD h;cases of_decide_eq_true h;exact⟨a,p,rfl⟩
theorem b8{k:Str->Bool}(h:fk k e=true):∃x p,e = .Name x p/\k x=true:=wo h
theorem Bh{k:List Expr->Bool}(h:J6 k e=true):∃x a p,e = .Tuple x a p/\k x=true:=A9 h
theorem jL{k:List Expr->Bool}(h:uJ k e=true):∃x p,e = .List x p/\k x=true:=EC h
theorem uM{o:WR}(h:EG o k l e=true):∃x y p,e = .BinOp x o y p/\k x=true/\l y=true:=by
 obtain⟨x,op,y,p,rfl,h⟩:=AZ h;obtain⟨h1,z0⟩:=an3 h;cases of_decide_eq_true h1;exact⟨x,y,p,rfl,z0⟩
theorem J9(h:Op k e=true):∃x p,e = .UnaryOp .USub x p/\k x=true:=by
 obtain⟨op,x,p,rfl,h⟩:=mB h;obtain⟨h1,z0⟩:=an2 h;cases of_decide_eq_true h1;exact⟨x,p,rfl,z0⟩
theorem uN(h:EH k e=true):∃x p,e = .UnaryOp .Not x p/\k x=true:=by
 obtain⟨op,x,p,rfl,h⟩:=mB h;obtain⟨h1,z0⟩:=an2 h;cases of_decide_eq_true h1;exact⟨x,p,rfl,z0⟩
theorem uO{o:CmpOp}(h:EI o k l e=true):∃x y p,e = .Compare x [o] [y] p/\k x=true/\l y=true/\aG y=true:=by
 obtain⟨x,os,ys,p,rfl,h⟩:=mE h;obtain⟨op,rfl,h⟩:=ci h;obtain⟨y,rfl,h⟩:=ci h;obtain⟨h1,z0⟩:=an4 h;cases of_decide_eq_true h1;exact⟨x,y,p,rfl,z0⟩
theorem Bi{o p:CmpOp}(h:J7 o p k l m e=true):∃x y z q,e = .Compare x [o,p] [y,z] q/\k x=true/\l y=true/\m z=true/\aG z=true:=by
 obtain⟨x,os,ys,q,rfl,h⟩:=mE h;obtain⟨op,os,rfl,h⟩:=bQ h;obtain⟨op',rfl,h⟩:=ci h;obtain⟨y,ys,rfl,h⟩:=bQ h;obtain⟨z,rfl,h⟩:=ci h;obtain⟨h1,h2,z0⟩:=an6 h;cases of_decide_eq_true h1;cases of_decide_eq_true h2;exact⟨x,y,z,q,rfl,z0⟩
theorem mJ{o:BoolOp}(h:yG o k l e=true):∃x y p,e = .BoolOp o [x,y] p/\k x=true/\l y=true:=by
 obtain⟨op,vs,p,rfl,h⟩:=oV h;obtain⟨x,vs,rfl,h⟩:=bQ h;obtain⟨y,rfl,h⟩:=ci h;obtain⟨h1,z0⟩:=an3 h;cases of_decide_eq_true h1;exact⟨x,y,p,rfl,z0⟩
theorem qA{o:BoolOp}(h:Be o k l e=true):∃x y z ys p,e = .BoolOp o (x::y::z::ys) p/\k x=true/\l (.BoolOp o (y::z::ys) p)=true:=by
 obtain⟨op,vs,p,rfl,h⟩:=oV h;obtain⟨x,vs,rfl,h⟩:=bQ h;obtain⟨y,vs,rfl,h⟩:=bQ h;obtain⟨z,vs,rfl,h⟩:=bQ h;obtain⟨h1,z0⟩:=an3 h;cases of_decide_eq_true h1;exact⟨x,y,z,vs,p,rfl,z0⟩
theorem Bj(h:sIx k l e=true):∃x y p,e = .Subscript x y p/\k x=true/\l y=true/\aG y=true:=by
 obtain⟨x,y,p,rfl,h⟩:=cS h;exact⟨x,y,p,rfl,an3 h⟩
theorem Ot{l m:Option Expr->Bool}(h:sSl k l m e=true):∃x y z p q,e = .Subscript x (.Slice y z none p) q/\k x=true/\l y=true/\m z=true:=by
 obtain⟨x,s,q,rfl,h⟩:=cS h;obtain⟨y,z,w,p,rfl,h⟩:=Bb h;obtain⟨h1,z0⟩:=an4 h;cases w;exact⟨x,y,z,p,q,rfl,z0⟩;cases h1
theorem mL{k:Str->List Expr->List Keyword->Bool}(h:sCN e k=true):∃x p es ks q,e = .Call (.Name x p) es ks q/\k x es ks=true:=by
 obtain⟨f,es,ks,q,rfl,h⟩:=qw h;obtain⟨x,p,rfl,h⟩:=wo h;exact⟨x,p,es,ks,q,rfl,h⟩
theorem wq{k:Str->Bool}{l:List Expr->Bool}(h:Bf k l e=true):∃x x1 es p q,e = .Call (.Name x p) (x1::es) [] q/\k x=true/\l (x1::es)=true:=by
 obtain⟨x,p,es,ks,q,rfl,h⟩:=mL h;obtain⟨x1,es,rfl,h⟩:=bQ h;obtain⟨h1,z0⟩:=an3 h;cases cv h1;exact⟨x,x1,es,p,q,rfl,z0⟩
theorem sj{b:Blk}{f:Str}{k:List Expr->Bool}(h:uK b f k e=true):∃x es p q,e = .Call (.Name f p) (x::es) [] q/\b.glo f=true/\k (x::es)=true:=by
 obtain⟨x,p,es,ks,q,rfl,h⟩:=mL h;obtain⟨x1,es,rfl,h⟩:=bQ h;obtain⟨h1,h2,z0⟩:=an4 h;cases cv h1;cases cE h2;exact⟨x1,es,p,q,rfl,z0⟩
theorem aR{b:Blk}{f:Str}(h:bS b f k e=true):∃x p q,e = .Call (.Name f p) [x] [] q/\b.glo f=true/\k x=true/\aG x=true:=by
 obtain⟨x,p,es,ks,q,rfl,h⟩:=mL h;obtain⟨x1,rfl,h⟩:=ci h;obtain⟨h1,h2,z0⟩:=an5 h;cases cv h1;cases cE h2;exact⟨x1,p,q,rfl,z0⟩
theorem Ka{c:Int}{ks:List Keyword}(h:Oq c ks=true):∃j p q,ks=[⟨some "default", .Constant (.int c) j p,q⟩]:=by
 obtain⟨⟨a,v,q⟩,rfl,h⟩:=ci h;obtain⟨h1,z0⟩:=an2 h;obtain⟨j,p,e⟩:=mI z0;obtain e1:=eq_of_beq h1;exact⟨j,p,q,by rw[show v=_ from e,show a=_ from e1]⟩
theorem EJ{b:Blk}{c:Int}(h:HA b c k e=true):∃x p q j p' q',e = .Call (.Name "max" p) [x] [⟨some "default", .Constant (.int c) j p',q'⟩] q/\b.glo "max" = true/\k x=true/\aG x=true:=by
 obtain⟨x,p,es,ks,q,rfl,h⟩:=mL h;obtain⟨x1,rfl,h⟩:=ci h;obtain⟨h1,h2,z0⟩:=an5 h;obtain⟨j,p',q',rfl⟩:=Ka h1;cases cE h2;exact⟨x1,p,q,j,p',q',rfl,z0⟩
theorem eD{b:Blk}{f:Str}(h:qz b f k l e=true):∃x y p q,e = .Call (.Name f p) [x,y] [] q/\b.glo f=true/\k x=true/\aG x=true/\l y=true/\aG y=true:=by
 obtain⟨x,p,es,ks,q,rfl,h⟩:=mL h;obtain⟨x1,es,rfl,h⟩:=bQ h;obtain⟨y,rfl,h⟩:=ci h;obtain⟨h1,y0⟩:=an2 h;obtain⟨h2,z0⟩:=an6 y0;cases cv h1;cases cE h2;exact⟨x1,y,p,q,rfl,z0⟩
theorem jM{m:Str}{l:List Expr->Bool}(h:yH m k l e=true):∃x ap es p,e = .Call (.Attribute x m ap) es [] p/\uH x=true/\(ap.endLine == p.line)=true/\k x=true/\l es=true:=by
 obtain⟨f,es,ks,p,rfl,h⟩:=qw h;obtain⟨x,m',ap,rfl,h⟩:=qx h;obtain⟨h1,h2,z0⟩:=an6 h;cases cv h1;cases cE h2;exact⟨x,ap,es,p,rfl,z0⟩
theorem wt{k:Expr->Expr->Expr->List Expr->List Wv->Scope->Bool}(h:HB k e=true):∃el t i ifs gs scope p,e = .ListComp el (⟨t,i,ifs,0⟩::gs) scope p/\k el t i ifs gs scope=true:=by
 obtain⟨el,gs,scope,p,rfl,h⟩:=kl h;obtain⟨⟨t,i,ifs,as⟩,gs,rfl,h⟩:=bQ h;obtain⟨h1,z0⟩:=an2 h;cases of_decide_eq_true h1;exact⟨el,t,i,ifs,gs,scope,p,rfl,z0⟩
theorem EK(h:HC e=true):∃p,e = .Dict [] [] p:=by
 obtain⟨ks,vs,p,rfl,h⟩:=wn h;obtain⟨h1,h2⟩:=an2 h;cases cv h1;cases cv h2;exact⟨p,rfl⟩
theorem EL(h:HD k l e=true):∃x y p,e = .Dict [some x] [y] p/\k x=true/\l y=true:=by
 obtain⟨ks,vs,p,rfl,h⟩:=wn h;obtain⟨x,rfl,h⟩:=ci h;obtain⟨y,rfl,h⟩:=ci h;cases x with
 |none=>cases h
 |some x=>exact⟨x,y,p,rfl,an2 h⟩
end
abbrev Bk(f:Expr->CE->Bool)(l:Option Expr):Option CE->Bool
 |none=>l.isNone
 |some c=>oA l λe=>f e c
abbrev Bl(f:Expr->CE->Bool)(l:List Expr):Option CE->Bool
 |none=>l.isEmpty
 |some c=>l1 l λe=>f e c
abbrev clC(cls:List Cl)(k:Tg->CI->Option CE->List Cl->Bool):Bool:=match cls with
 |[]=>false
 |⟨tg,it,cond⟩::rest=>k tg it cond rest
theorem HE{cls:List Cl}{k:Tg->CI->Option CE->List Cl->Bool}(h:clC cls k=true):∃tg it cond rest,cls=⟨tg,it,cond⟩::rest/\k tg it cond rest=true:=by
 cases cls with
 |nil=>cases h
 |cons g rest=>obtain⟨tg,it,cond⟩:=g;exact⟨tg,it,cond,rest,rfl,h⟩
mutual
noncomputable def aH(T:Tab):Nat->Blk->Expr->CE->Bool
 |0,_,_,_=>false
 |n+1,b,e,c=>match c with
  |.non=>Oo e
  |.bl v=>sBl v e
  |.int i=>yE i e
  |.str x=>yF x e
  |.var i=>fk (λx=>b.N[i]? == some x && b.vis x) e
  |.con k v=>fk (λx=>T.con[k]? == some (x,v) && b.glo x) e
  |.tup cs=>J6 (λes=>dj T n b es cs) e
  |.lst cs=>uJ (λes=>dj T n b es cs) e
  |.dic0=>HC e
  |.dic1 i j=>HD (yE i) (yE j) e
  |.bin o a c=>EG o.op (λx=>aH T n b x a) (λx=>aH T n b x c) e
  |.neg a=>Op (λx=>aH T n b x a) e
  |.cmp o a c=>EI o.op (λx=>aH T n b x a) (λx=>aH T n b x c) e
  |.chn o p a c d=>J7 o.op p.op (λx=>aH T n b x a) (λx=>aH T n b x c) (λx=>aH T n b x d) e
  |.and a c=>yG .And (λx=>aH T n b x a) (λx=>aH T n b x c) e || Be .And (λx=>aH T n b x a) (λx=>aH T n b x c) e
  |.or a c=>yG .Or (λx=>aH T n b x a) (λx=>aH T n b x c) e || Be .Or (λx=>aH T n b x a) (λx=>aH T n b x c) e
  |.not a=>EH (λx=>aH T n b x a) e
  |.ix a c=>sIx (λx=>aH T n b x a) (λx=>aH T n b x c) e
  |.sl a lo hi=>sSl (λx=>aH T n b x a) (λl=>Bk (aH T n b) l lo) (λl=>Bk (aH T n b) l hi) e
  |.call f cs=>Bf (λx=>oA T.fns[f]? (λy=>y.1 == x) && b.glo x) (λes=>dj T n b es cs) e
  |.inst t a=>qz b "isinstance" (λx=>aH T n b x a) (fk λy=>y == Str.ofString t.nm && b.glo y) e
  |.len a=>bS b "len" (λx=>aH T n b x a) e
  |.all a=>bS b "all" (λx=>aH T n b x a) e
  |.any a=>bS b "any" (λx=>aH T n b x a) e
  |.tupOf a=>bS b "tuple" (λx=>aH T n b x a) e
  |.listOf a=>bS b "list" (λx=>aH T n b x a) e
  |.listR a=>bS b "list" (bS b "range" λx=>aH T n b x a) e
  |.srt a=>bS b "sorted" (λx=>aH T n b x a) e
  |.mxL a=>bS b "max" (λx=>aH T n b x a) e
  |.mxD a c=>HA b c (λx=>aH T n b x a) e
  |.sm a=>bS b "sum" (λx=>aH T n b x a) e
  |.intOf a=>bS b "int" (λx=>aH T n b x a) e
  |.mx a c=>uK b "max" (λes=>dj T n b es [a,c]) e
  |.mn a c=>uK b "min" (λes=>dj T n b es [a,c]) e
  |.rep a=>bS b "repr" (λx=>aH T n b x a) e
  |.comp own elt cls=>clC cls λtg it cond rest=>HB (λel t i ifs gs scope=>cmB own (mG own b.N) b.N scope b.sc && su T n b t i it && uI (b.inner own scope) t tg && Bl (fD T n (b.inner own scope)) ifs cond && oW T n (b.inner own scope) el gs elt rest) e
  |.app o a=>yH "append" (λx=>aH T n b x o) (λes=>dj T n b es [a]) e
  |.popAt o a=>yH "pop" (λx=>aH T n b x o) (λes=>dj T n b es [a]) e
  |.ins o i a=>yH "insert" (λx=>aH T n b x o) (λes=>dj T n b es [i,a]) e
  |.cnt o a=>yH "count" (λx=>aH T n b x o) (λes=>dj T n b es [a]) e
noncomputable def dj(T:Tab):Nat->Blk->List Expr->List CE->Bool
 |0,_,_,_=>false
 |n+1,b,es,cs=>match cs with
  |[]=>es.isEmpty
  |c::cs=>lC es λe es=>aH T n b e c && aG e && dj T n b es cs
noncomputable def oW(T:Tab):Nat->Blk->Expr->List Wv->CE->List Cl->Bool
 |0,_,_,_,_,_=>false
 |n+1,b,e,gs,elt,cls=>match cls with
  |[]=>gs.isEmpty && aH T n b e elt
  |⟨tg,it,cond⟩::rest=>lC gs λg gs=>decide (g.is_async=0) && su T n b g.target g.iter it && uI b g.target tg && Bl (fD T n b) g.ifs cond && oW T n b e gs elt rest
noncomputable def su(T:Tab):Nat->Blk->Expr->Expr->CI->Bool
 |0,_,_,_,_=>false
 |n+1,b,t,e,c=>match c with
  |.val a=>aH T n b e a && aG e
  |.r1 a=>bS b "range" (λx=>aH T n b x a) e
  |.r2 a c=>qz b "range" (λx=>aH T n b x a) (λx=>aH T n b x c) e
  |.en a=>bS b "enumerate" (λx=>aH T n b x a) e && J6 (λ_=>true) t
noncomputable def fD(T:Tab):Nat->Blk->Expr->CE->Bool
 |0,_,_,_=>false
 |n+1,b,e,c=>match c with
  |.cmp o a c=>EI o.op (λx=>aH T n b x a) (λx=>aH T n b x c) e
  |.chn o p a c d=>J7 o.op p.op (λx=>aH T n b x a) (λx=>aH T n b x c) (λx=>aH T n b x d) e
  |.and a c=>yG .And (λx=>fD T n b x a) (λx=>fD T n b x c) e || Be .And (λx=>fD T n b x a) (λx=>fD T n b x c) e
  |.or a c=>yG .Or (λx=>fD T n b x a) (λx=>fD T n b x c) e || Be .Or (λx=>fD T n b x a) (λx=>fD T n b x c) e
  |.not a=>EH (λx=>fD T n b x a) e
  |c=>aH T n b e c && ED e
end
theorem gG{T:Tab}{n:Nat}{b:Blk}{t e:Expr}{c:CI}(h:su T n b t e c=true)(hp:∀e,aG e=true->∀env x,VN e env x=pure x):∀env x,VN e env x=pure x:=by
 cases n with
 |zero=>cases h
 |succ n=>
  cases c with
  |val a=>exact hp e (an2 h).2
  |r1 a=>obtain⟨x,p,q,rfl,_⟩:=aR h;intro _ _;rfl
  |r2 a c=>obtain⟨x,y,p,q,rfl,_⟩:=eD h;intro _ _;rfl
  |en a=>obtain⟨x,p,q,rfl,_⟩:=aR (an2 h).1;intro _ _;rfl
def bv(h:Heap)(C:Addr)(bm:List Value):Prop:=∃N nm q bs hdct sn sub ab col dd k0 k1 k2 k3 k5 mN,h.get? C=some (VM nm q C N bs bm hdct sn sub ab col dd k0 k1 k2 k3 k5 "ValueError.__new__")/\h.Ns N mN/\∀n ∈ quN,mN n=none
theorem bv.keeps(x:bv h C bm)(k:∀b o,h.get? b=some o->h'.get? b=some o):bv h' C bm:=by
 obtain⟨N,nm,q,bs,hdct,sn,sub,ab,col,dd,k0,k1,k2,k3,k5,mN,hC,hN,hq⟩:=x;exact⟨N,nm,q,bs,hdct,sn,sub,ab,col,dd,k0,k1,k2,k3,k5,mN,k _ _ hC,hN.keeps k,hq⟩
section
variable {prog:Program} {w:World} {M:Model} {A:Around} {E:Value->Shared->Prop} {h:Heap} {g:Array WO} {d:Drawn} {t:Nat} {os:OsState} {a C R:Addr} {o:Obj} {vs:Array Value}
theorem uQ(hn:n ∈ quN)(hC:bv h C (.ref R::bmV))(hR:bv h R bmV)(hB:Uk (.type "ValueError") n=pure y)(hq:Q y ⟨h,g,d,t,os⟩):wpAny M A (Uk (.ref C) n) Q E ⟨h,g,d,t,os⟩:=by
 obtain⟨N,nm,q,bs,hdct,sn,sub,ab,col,dd,k0,k1,k2,k3,k5,mN,hC,hN,hqn⟩:=hC;obtain⟨N',nm',q',bs',hdct',sn',sub',ab',col',dd',k0',k1',k2',k3',k5',mN',hR,hN',hqn'⟩:=hR;have hrest:VT bmV n=pure y:=by rw[typeLookup_eq,PySem.F.excBase_ValueError.mroIs] at hB;exact hB
 rw[typeLookup_eq];refine Uo (wpAny_mroOf_exc hC ?_);rw[lookupAlong_cons];refine Uo (wpAny_classOwn_exc hC hN ?_);rw[hqn n hn];show wpAny M A (VT (.ref R::bmV) n) Q E _;rw[lookupAlong_cons];refine Uo (wpAny_classOwn_exc hR hN' ?_);rw[hqn' n hn];show wpAny M A (VT bmV n) Q E _;rw[hrest];exact UH hq
theorem sv:Uk (.type "ValueError") "__class__" = pure (some (.builtin "object.__class__")):=by rw[typeLookup_type,builtinLookup_eq_fast];kernel_rfl
theorem Kb(hC:bv h C (.ref R::bmV))(hx:h.get? a=some o)(hc:o.cls = .ref C)(hq:Q (.ok (.ret (.ref C))) ⟨h,g,d,t,os⟩) :
  codeAny (model prog w) A (.call (.builtin "getset_descriptor.__get__") ⟨[.builtin "object.__class__", .ref a,.ref C],[]⟩) Q ⟨h,g,d,t,os⟩:=by
 obtain⟨N,nm,q,bs,hdct,sn,sub,ab,col,dd,k0,k1,k2,k3,k5,mN,hC,hN,hqn⟩:=hC;have hT5:(⟨h,g,d,t,os⟩:Shared).TypeIs (.builtin "object.__class__") "getset_descriptor" := WM
 have hcB:(Value.ref C :: .ref R::bmV).contains (.type (".".intercalate ("object.__class__".cutAt '.').dropLast))=true:=by
  rw[PySem.F.owner_object_class,ZZ,ZZ];rfl
 refine VG PySem.F.slot_gs_get.plain PySem.F.entry_gs_get (PySem.F.slot_gs_get.check _ _ _ _ _ _ _ _ hT5 (PySem.F.args_gs_get _ _ _) ?_)
 repeat (any_goals (first |assumption |(with_reducible refine UB hx ?_;rw[hc]) |(with_reducible refine Ux hC ?_;rw[hcB]) |wp_step))
 refine⟨Code.quiet_builtin _ (by decide +kernel),VF PySem.F.entry_object_class ?_⟩
 repeat (any_goals (first |assumption |(with_reducible refine UB hx ?_;rw[hc]) |wp_step))
theorem Bm(hC:bv h C (.ref R::bmV))(hR:bv h R bmV)(hx:h.get? a=some o)(hc:o.cls = .ref C)(hq:Q (.done (.ret (.ref C))) ⟨h,g,d,t,os⟩) :
  wpAny (model prog w) A (Builtin.«object.__getattribute__» ⟨[.ref a,.str "__class__" tk],[]⟩) Q E ⟨h,g,d,t,os⟩:=by
 have hT5:(⟨h,g,d,t,os⟩:Shared).TypeIs (.builtin "object.__class__") "getset_descriptor" := WM;have f5:=WM;have f6:=PySem.F.slot_gs_get.lookup;have f7:=PySem.F.slot_gs_set.lookup;have hm:("__class__" : Str) ∈ quN:=.tail _ (.tail _ (.tail _ (.head _)))
 repeat (any_goals (first |assumption |(with_reducible refine UB hx ?_;rw[hc]) |with_reducible refine uQ hm hC hR sv ?_ |wp_step))
 refine Kb hC hx hc ?_
 repeat (any_goals (first |assumption |wp_step))
theorem Bn(hC:bv h C (.ref R::bmV))(hx:h.get? a=some o)(hc:o.cls = .ref C)(hq:Q () ⟨h,g,d,t,os⟩):wpAny M A (checkBuiltinCall "BaseException.__getattribute__" ⟨[.ref a,nameV],[]⟩) Q E ⟨h,g,d,t,os⟩:=by
 obtain⟨N,nm,q,bs,hdct,sn,sub,ab,col,dd,k0,k1,k2,k3,k5,mN,hC,hN,hqn⟩:=hC;have hk:builtinKind "BaseException.__getattribute__" = some .slot:=by decide +kernel
 have hsplit:splitId "BaseException.__getattribute__" = some ("BaseException", "__getattribute__"):=by decide +kernel
 have hcB:(Value.ref C :: .ref R::bmV).contains (.type "BaseException")=true:=by rw[ZZ,ZZ];rfl
 have ha:=PySem.F.args_bexc_ga (.ref a) nameV;simp only[checkBuiltinCall,hk,hsplit];refine Uo ?_
 ·unfold isInstance
  repeat (first |(with_reducible refine UB hx ?_;rw[hc]) |(with_reducible refine Ux hC ?_;rw[hcB]) |wp_step)
  exact hq
theorem Ou(hC:bv h C (.ref R::bmV))(hR:bv h R bmV)(hx:h.get? a=some o)(hc:o.cls = .ref C)(hq:Q (.ref C) ⟨h,g,d,t,os⟩) :
  wpAny (model prog w) A (getAttrBy (.ref a) (.str "__class__" tk) false) Q E ⟨h,g,d,t,os⟩:=by
 have FB:=PySem.F.attrBase_ValueError;have f3:=FB.ga.bind (.ref a);have hx2:(Value.builtin "BaseException.__getattribute__" == Value.builtin "object.__getattribute__")=false:=by decide +kernel
 have hm1:("__getattribute__" : Str) ∈ quN:=.tail _ (.head _);have hm2:("__getattr__" : Str) ∈ quN:=.tail _ (.tail _ (.head _))
 repeat (any_goals (first |assumption |(with_reducible refine UB hx ?_;rw[hc]) |with_reducible refine uQ hm1 hC hR FB.ga.lookup ?_ |with_reducible refine uQ hm2 hC hR FB.noGetattr ?_ |wp_step))
 refine VG FB.ga.plain PySem.F.entry_bexc_ga (Bn hC hx hc (Bm hC hR hx hc ?_))
 repeat (any_goals (first |assumption |wp_step))
theorem EM(hC:bv h C (.ref R::bmV))(hR:bv h R bmV)(hx:h.get? a=some o)(hc:o.cls = .ref C)(hq:Q (some (.ref C)) ⟨h,g,d,t+1,os⟩):wpAny (model prog w) A (getAttr? (.ref a) "__class__") Q E ⟨h,g,d,t,os⟩:=by
 unfold getAttr? getAttrBy?
 repeat (any_goals (first |assumption |with_reducible apply Ou hC hR hx hc |wp_step))
end
def oX(h:Heap)(e C:Addr):Prop:=∃o vs,h.get? e=some o/\o.cls = .ref C/\o.data = .fields vs
def oY(h:Heap)(D:Addr):Prop:=∃dd cd sl,h.get? D=some ⟨.type "type", dd,.cls cd,sl⟩
section
variable {prog:Program} {w:World} {M:Model} {A:Around} {E:Value->Shared->Prop} {s:Shared} {e C R D:Addr}
theorem wu{K:W6}{oc:Value}{dd:Option Addr}{cd:ClassData}{sl:Array (Option Value)}(hk:K.lookup C=some ⟨oc,dd,.cls cd,sl⟩):PySem.W.KitX K (.ref e) (.ref C) (λh=>bv h C (.ref R::bmV)/\bv h R bmV/\oX h e C) where
 ty:=λM h _ ⟨_,_,o,_,h1,h2,_⟩=>h2 ▸ (PySem.W.Looks.ld h1).andThen .now
 it:=λM h _ ⟨hC,_⟩=>by
  obtain⟨N,nm,q,bs,hdct,sn,sub,ab,col,dd,k0,k1,k2,k3,k5,mN,hC,_⟩:=hC;intro A' Q' E' s' k q;unfold isType loadHead;exact Uo (wpAny_loadPart (k _ _ hC) (UH q))
 ne:=λh tp dd its n sl X htp=>by
  refine XJ.mpr λq=>?_;have e:C=tp:=Value.ref.inj (beq_iff_eq.mp q);subst e;rw[X _ _ hk] at htp;cases htp
 ca:=λ{_ _ _ _ _ s} _ ⟨hC,hR,o,_,h1,h2,_⟩ hq=>by
  obtain⟨h,g,d,t,os⟩:=s;exact EM hC hR h1 h2 hq
theorem isx{D:Addr}{Q:Value->Shared->Prop}(hC:bv s.heap C (.ref R::bmV))(hR:bv s.heap R bmV)(he:oX s.heap e C)(hD:oY s.heap D)(hr:D ≠ R)(h:∀tk,Q (.bool (C == D)) { s with toks:=tk }) :
  wpAny (model prog w) A (call (.builtin "isinstance") [.ref e,.ref D]) Q E s:=by
 have hC':=hC;obtain⟨N,nm,q,bs,hdct,sn,sub,ab,col,dd,k0,k1,k2,k3,k5,mN,hc,_⟩:=hC';obtain⟨dd',cd',sl',hd⟩:=hD
 have KX:PySem.W.Frag.In [(C,VM nm q C N bs (.ref R::bmV) hdct sn sub ab col dd k0 k1 k2 k3 k5 "ValueError.__new__"),(D,⟨.type "type", dd',.cls cd',sl'⟩)] s.heap:=by
  intro b o hb;rw[ZP] at hb;split at hb
  ·rename_i z;cases hb;rw[show b=C from by simpa using z];exact hc
  ·rw[ZP] at hb;split at hb
   ·rename_i z;cases hb;rw[show b=D from by simpa using z];exact hd
   ·cases hb
 have l1:Xh C [(C,VM nm q C N bs (.ref R::bmV) hdct sn sub ab col dd k0 k1 k2 k3 k5 "ValueError.__new__"),(D,(⟨.type "type", dd',.cls cd',sl'⟩:Obj))]=some (VM nm q C N bs (.ref R::bmV) hdct sn sub ab col dd k0 k1 k2 k3 k5 "ValueError.__new__"):=by
  rw[ZP,beq_self_eq_true]
 refine Vj (wu (R:=R) l1) KX ⟨hC,hR,he⟩ ?_ (λz=>nomatch z) h;unfold Vl;by_cases z:C=D
 ·subst z;rw[if_pos (beq_self_eq_true _),beq_self_eq_true]
 ·have z1:(C == D)=false:=by simpa using z
  rw[if_neg (by simpa using z),z1]
  have l2:Xh D [(C,VM nm q C N bs (.ref R::bmV) hdct sn sub ab col dd k0 k1 k2 k3 k5 "ValueError.__new__"),(D,(⟨.type "type", dd',.cls cd',sl'⟩:Obj))]=some ⟨.type "type", dd',.cls cd',sl'⟩:=by
   rw[ZP,show(D == C)=false from by simpa using Ne.symm z,ZP,beq_self_eq_true]
  unfold Vk;dsimp only;rw[if_pos (by unfold W9 PySem.W.typeIn;dsimp only;rw[l2];rfl)];unfold Vt Vq W9;dsimp only;rw[l1];show some ((Value.ref C :: .ref R::bmV).contains (.ref D))=_;rw[ZZ,ZZ];have z2:((Value.ref D) == Value.ref C)=false:=by simpa using Ne.symm z
  have z3:((Value.ref D) == Value.ref R)=false:=by simpa using hr
  rw[z2,z3];rfl
theorem isv{Q:Value->Shared->Prop}(hC:bv s.heap C (.ref R::bmV))(hR:bv s.heap R bmV)(he:oX s.heap e C)(h:∀tk,Q (.bool true) { s with toks:=tk }) :
  wpAny (model prog w) A (call (.builtin "isinstance") [.ref e,.type "ValueError"]) Q E s:=by
 have hC':=hC;obtain⟨N,nm,q,bs,hdct,sn,sub,ab,col,dd,k0,k1,k2,k3,k5,mN,hc,_⟩:=hC'
 have KX:PySem.W.Frag.In [(C,VM nm q C N bs (.ref R::bmV) hdct sn sub ab col dd k0 k1 k2 k3 k5 "ValueError.__new__")] s.heap:=by
  intro b o hb;rw[ZP] at hb;split at hb
  ·rename_i z;cases hb;rw[show b=C from by simpa using z];exact hc
  ·cases hb
 have l1:Xh C [(C,VM nm q C N bs (.ref R::bmV) hdct sn sub ab col dd k0 k1 k2 k3 k5 "ValueError.__new__")]=some (VM nm q C N bs (.ref R::bmV) hdct sn sub ab col dd k0 k1 k2 k3 k5 "ValueError.__new__"):=by
  rw[ZP,beq_self_eq_true]
 refine Vj (wu (R:=R) l1) KX ⟨hC,hR,he⟩ ?_ (λz=>nomatch z) h;unfold Vl;rw[if_neg (by simp)];unfold Vk;dsimp only;rw[if_pos (by decide +kernel)];unfold Vt Vq W9;dsimp only;rw[l1];show some ((Value.ref C :: .ref R::bmV).contains (.type "ValueError"))=_;rw[ZZ,ZZ];rfl
theorem Kc{h:Heap}{g:Array WO}{d:Drawn}{t:Nat}{os:OsState}{Q:Bool->Shared->Prop}(hC:bv h C (.ref R::bmV))(hR:bv h R bmV)(he:oX h e C)(hq:Q true ⟨h,g,d,t,os⟩):wpAny M A (excMatches (.ref e) (.ref R)) Q E ⟨h,g,d,t,os⟩:=by
 obtain⟨N,nm,q,bs,hdct,sn,sub,ab,col,dd,k0,k1,k2,k3,k5,mN,hC,_⟩:=hC;obtain⟨N',nm',q',bs',hdct',sn',sub',ab',col',dd',k0',k1',k2',k3',k5',mN',hR,_⟩:=hR;obtain⟨oe,vs,he,hcls,_⟩:=he;have hcB:(Value.ref R::bmV).contains (.type "BaseException")=true:=by rw[ZZ];rfl
 have hcC:(Value.ref C :: .ref R::bmV).contains (.ref R)=true:=by simp
 have f:=tc_notTuple;unfold excMatches
 repeat (first |(with_reducible refine UB he ?_;rw[hcls]) |with_reducible refine UB hR ?_ |with_reducible refine UB hC ?_ |(with_reducible refine Ux hR ?_;rw[hcB]) |(with_reducible refine Ux hC ?_;rw[hcC]) |wp_step)
 exact hq
end
structure XLeft(P:Program)(w:World)(outer:List Env)(H H':Hp)(s:Shared)(B:Heap)(s':Shared):Prop where
 os:s'.os=s.os
 bare:AllBare s'.gens
 un:Un (frs outer) [] H H' s.heap s'.heap
 keep:∀b o,s.heap.get? b=some o->H b=none->b ∉ frs outer->B.get? b=some o
 there:∀b o,s.heap.get? b=some o->b ∉ frs outer->∃o',B.get? b=some o'
 hok:HOk P w H' B
def CXE(P:Program)(w:World):CXT:=λouter H s E ev s'=>∃e c a0 H' B,ev = .ref e/\Heap.FlyingW B outer e c a0 s'.heap/\XLeft P w outer H H' s B s'/\E c none H'
theorem Ov:lw (CXE P w) X E0:=λ_ _ _ _ _ _ _ ⟨_,_,_,_,_,_,_,_,h⟩=>h.elim
section
variable {P:Program} {w:World} {outer:List Env} {H H':Hp} {s s':Shared} {B:Heap} {e:Addr} {c a0:Value} {h':Heap}
theorem XLeft.later(x:XLeft P w outer H H' s B s')(f0:Heap.FlyingW B outer e c a0 s'.heap)(f:B.StaysIn h')(ff:h'.FunFrames B outer)(u:s'.heap.UpToSlots h'){t:Nat}(hg:AllBare g):XLeft P w outer H H' s B ⟨h',g,d,t,s'.os⟩ where
 os:=x.os
 bare:=hg
 un:=by
  have sl:∀b o,s'.heap.get? b=some o->b ∈ frs outer->∃sl,h'.get? b=some { o with slots:=sl }:=λb o q hb=>by
   obtain⟨_,o',q',nf⟩:=f0.2.2.1.mem hb;rw[q] at q';cases q';exact u b o q nf
  refine⟨λb o q n hb _=>f b o (x.keep b o q n hb),λb o q n hb hx=>?_,x.un.free,λb o q hx=>?_,x.un.tups,x.un.frzs,x.un.tbls⟩
  ·obtain⟨z,q1⟩:=x.un.slot b o q n hb hx;obtain⟨z2,q2⟩:=sl b _ q1 hb;exact⟨z2,q2⟩
  ·by_cases hb:b ∈ frs outer
   ·obtain⟨_,o',q',_⟩:=ff.mem hb;exact⟨o',q'⟩
   ·obtain⟨o',q'⟩:=x.there b o q hb;exact⟨o',f b o' q'⟩
 keep:=x.keep
 there:=x.there
 hok:=x.hok
end
section
variable {P:Program} {w:World} {K:W6} {mg:Str->Option Value} {base:Heap} {N:List Str} {qual:Str} {scope:Scope} {f:Addr} {cd:Value} {A:Around} {outer:List Env} {s0:Shared} {H0:Hp} {E:XK}
noncomputable abbrev cxE(P:Program)(w:World)(K:W6)(mg:Str->Option Value)(base:Heap)(N:List Str)(qual:Str)(scope:Scope)(f:Addr)(cd:Value)(A:Around)(outer:List Env)(s0:Shared)(H0:Hp)(E:XK):Cx:=nS (CXE P w) P w K mg base N qual scope f cd A outer s0 H0 E
theorem sx:frs (envOfC qual scope s0.heap.objs.size f cd::outer)=s0.heap.objs.size::frs outer:=rfl
theorem Ow:lw (CXE P w) (cxE P w K mg base N qual scope f cd A outer s0 H0 E) E:=by
 rintro pins σ H s _ s' I ⟨e,c,a0,H',B,rfl,fl,x,hE⟩;have hfr:(A.deeper (envOfC qual scope s0.heap.objs.size f cd)).frames=some (envOfC qual scope s0.heap.objs.size f cd::outer):=I.ok.frames;show wpAny (model P w) (A.deeper (envOfC qual scope s0.heap.objs.size f cd)) (leaving (envOfC qual scope s0.heap.objs.size f cd) (.ref e)) _ _ s'
 have nL:∀b o,s0.heap.get? b=some o->b ∉ frs outer->b ∉ frs (envOfC qual scope s0.heap.objs.size f cd::outer):=λb o q hb hm=>by
  rw[sx] at hm;rcases Zk.mp hm with z |z
  ·exact absurd (Zo q) (by rw[z];exact ZM _)
  ·exact hb z
 have ib:Un (frs outer) [] H0 H s0.heap s.heap:=I.base;refine wpAny_leaves_onW hfr rfl fl λh' x1 x2=>⟨e,c,a0,H',B,rfl,x1,?_,hE⟩;refine⟨x.os.trans I.os,x.bare,⟨λb o q n hb hx=>?_,λb o q n hb hx=>?_,λb o q n hx=>?_,λb o q hx=>?_,λb xs q=>x.un.tups b xs (ib.tups b xs q),λb o u q=>x.un.frzs b o u (ib.frzs b o u q),λb ps q=>?_⟩,λb o q n hb=>?_,λb o q hb=>?_,x.hok⟩
 ·exact x1.1 b o (x.keep b o (ib.keep b o q n hb hx) (ib.free b o q n hx) (nL b o q hb))
 ·obtain⟨z,q1⟩:=ib.slot b o q n hb hx;obtain⟨z2,q2⟩:=x.un.slot b _ q1 (ib.free b o q n hx) (show b ∈ s0.heap.objs.size::frs outer from Zf _ hb) hx
  obtain⟨_,o',q',nf⟩:=fl.2.2.1.mem (b:=b) (Yv.mpr (by
   obtain⟨y,hy,hz⟩:=Yv.mp hb;exact⟨y,Zf _ hy,hz⟩))
  rw[q2] at q';cases q';obtain⟨z3,q3⟩:=x2 b _ q2 nf;exact⟨z3,q3⟩
 ·obtain⟨o',q1⟩:=ib.there b o q hx;exact x.un.free b o' q1 (ib.free b o q n hx) hx
 ·by_cases hb:b ∈ frs outer
  ·obtain⟨_,o',q',_⟩:=x1.2.2.1.mem hb;exact⟨o',q'⟩
  ·obtain⟨o',q1⟩:=ib.there b o q hx;obtain⟨o2,q2⟩:=x.there b o' q1 (nL b o q hb);exact⟨o2,x1.1 b o2 q2⟩
 ·obtain⟨m1,e1⟩:=ib.tbls b ps q;obtain⟨m2,e2⟩:=x.un.tbls b _ e1;exact⟨m1++m2,by rw[e2,Xx]⟩
 ·exact x.keep b o (ib.keep b o q n hb (by simp)) (ib.free b o q n (by simp)) (nL b o q hb)
 ·obtain⟨o',q1⟩:=ib.there b o q (by simp);exact x.there b o' q1 (nL b o q hb)
theorem Ox(I:Inv (cxE P w K mg base N qual scope f cd A outer s0 H0 E) pins σ H s)(mk:Heap.MadeExcOf s.heap h1 e c args)(hE:E c none H) :
  (cxE P w K mg base N qual scope f cd A outer s0 H0 E).xe (.ref e) { s with heap:=h1 }:=by
 have hfr:(A.deeper (envOfC qual scope s0.heap.objs.size f cd)).frames=some (envOfC qual scope s0.heap.objs.size f cd::outer):=I.ok.frames;show wpAny (model P w) (A.deeper (envOfC qual scope s0.heap.objs.size f cd)) (leaving (envOfC qual scope s0.heap.objs.size f cd) (.ref e)) _ _ { s with heap:=h1 };have stk:s.heap.FunFrames base (envOfC qual scope s0.heap.objs.size f cd::outer):=I.stack;have sf:∀b ∈ frs (envOfC qual scope s0.heap.objs.size f cd::outer),H b=none:=I.stkFree
 have nL:∀b o,s0.heap.get? b=some o->b ∉ frs outer->b ∉ frs (envOfC qual scope s0.heap.objs.size f cd::outer):=λb o q hb hm=>by
  rw[sx] at hm;rcases Zk.mp hm with z |z
  ·exact absurd (Zo q) (by rw[z];exact ZM _)
  ·exact hb z
 have ib:Un (frs outer) [] H0 H s0.heap s.heap:=I.base;have hin:∀env ∈ (envOfC qual scope s0.heap.objs.size f cd::outer),∀b,env.frame=some b->b ∈ frs (envOfC qual scope s0.heap.objs.size f cd::outer):=λenv he b hb=>Yv.mpr ⟨env,he,hb⟩;refine wpAny_leaves_madeW hfr rfl (λb o q=>Vr _ q) (PySem.W.funFrames_hide stk hin) mk λh' t x1 x2 x3 x4=>⟨e,c,.ref t,H,_,rfl,x1,?_,hE⟩
 have up:∀b o,s.heap.get? b=some o->b ∈ frs (envOfC qual scope s0.heap.objs.size f cd::outer)->∃sl,h'.get? b=some { o with slots:=sl }:=λb o q hb=>by
  obtain⟨_,o',q',nf⟩:=stk.mem hb;rw[q] at q';cases q';exact x4 b o (mk.keeps b o q) nf
 refine⟨I.os,I.bare,⟨λb o q n hb hx=>?_,λb o q n hb hx=>?_,λb o q n hx=>ib.free b o q n hx,λb o q hx=>?_,ib.tups,ib.frzs,ib.tbls⟩,λb o q n hb=>?_,λb o q hb=>?_,λa o q=>?_⟩
 ·exact x1.1 b o (Vf _ (ib.keep b o q n hb hx) (nL b o q hb))
 ·obtain⟨z,q1⟩:=ib.slot b o q n hb hx;obtain⟨z2,q2⟩:=up b _ q1 (show b ∈ s0.heap.objs.size::frs outer from Zf _ hb);exact⟨z2,q2⟩
 ·obtain⟨o',q1⟩:=ib.there b o q hx;by_cases hb:b ∈ frs (envOfC qual scope s0.heap.objs.size f cd::outer)
  ·obtain⟨z2,q2⟩:=up b _ q1 hb;exact⟨_,q2⟩
  ·exact⟨o',x1.1 b o' (Vf _ q1 hb)⟩
 ·exact Vf _ (ib.keep b o q n hb (by simp)) (nL b o q hb)
 ·obtain⟨o',q1⟩:=ib.there b o q (by simp);exact⟨o',Vf _ q1 (nL b o q hb)⟩
 ·refine(I.hok a o q).stay (λb u hb qu=>Vf _ qu λhm=>?_) (λ_ z=>z) λ_ _ z=>z;have hf:=sf b hm;rcases hb with rfl |hb
  ·rw[q] at hf;cases hf
  ·rw[hb] at hf;cases hf
end
section
variable {X:Cx} {x:Str} {np cpos pos:Pos} {a:Expr} {C R:Addr} {v:V}
theorem Bo{E:XK}(hx:∀pins σ H s h1 e args,Inv X pins σ H s->Heap.MadeExcOf s.heap h1 e (.ref C) args->E (.ref C) none H->X.xe (.ref e) { s with heap:=h1 })(hc:X.calm=true)(hg:Gl X x)(hm:X.mg x=some (.ref C))(hC:bv X.base C (.ref R::bmV))(hR:bv X.base R bmV)
  (ha:PA X [a] (cP (tC v) jw)) (he:Uc [a] X.env=[(false,eval a X.env)]) (hd:(x == ("__debug__" : Str))=false):PS X (.Raise (some (.Call (.Name x np) [a] [] cpos)) none pos) (λD σ H=>E (.ref C) none H):=by
 intro pins s σ H D I h;have h:cP (tC v) jw σ H λvs H1=>vs.length=1/\E (.ref C) none H1:=⟨rfl,h⟩;obtain⟨N,nm,q,bs,hdct,sn,sub,ab,col,dd,k0,k1,k2,k3,k5,mN,hC,hN,hqn⟩:=hC;obtain⟨N',nm',q',bs',hdct',sn',sub',ab',col',dd',k0',k1',k2',k3',k5',mN',hR,hN',hqn'⟩:=hR;have T:OwnTail X.base bmV (.ref R::bmV):=.own hR hN' (hqn' _ (.head _)) .base
 refine wpAny_Raise_call_subT (C:=C) (nm:=nm) (q:=q) (N:=N) (bs:=bs) (bm:=.ref R::bmV) (hdct:=hdct) (sn:=sn) (sub:=sub) (ab:=ab) (col:=col) (dd:=dd) (k0:=k0) (k1:=k1) (k2:=k2) (k3:=k3) (k5:=k5)
  PySem.F.excBase_ValueError (mN:=mN) (T.hasType PySem.F.excBase_ValueError.hasBase) (I.ok.hd hc) (by rw[he];rfl) (hqn _ (.head _)) (iO I hg hm ⟨rfl,?_⟩ hd)
 have hp:=ha cpos pins s σ H _ I h;rw[he] at hp ⊢;exact Wu (UC hp (λvs s2 ⟨xs,H1,I1,r,q⟩=>⟨rfl,by rw[<-r.length,q.1];decide,I1.bk _ _ hC,hN.keeps I1.bk,T.keeps I1.bk,λh' e mk=>hx pins σ H1 s2 h' e vs I1 mk q.2⟩) λ_ _ y=>y)
end
theorem sy(x:bq P w H h a o):∃u,h.get? a=some u:=by
 cases o with
 |lst xs=>obtain⟨_,_,_,_,e⟩:=x;exact⟨_,e⟩
 |tup xs=>obtain⟨_,_,_,o,e,_⟩:=x;exact⟨_,e⟩
 |dK kvs=>obtain⟨_,_,_,_,o,_,_,e,_⟩:=x;exact⟨_,e⟩
 |dT kvs=>obtain⟨_,_,_,_,o,_,_,e,_⟩:=x;exact⟨_,e⟩
 |set S n=>obtain⟨o,_,_,_,e,_⟩:=x;exact⟨_,e⟩
 |ins C dx fs=>obtain⟨_,_,_,e,_⟩:=x;exact⟨_,e⟩
 |own y=>exact x
 |xd fs=>obtain⟨_,⟨_,_,_,e,_⟩,_⟩:=x;exact⟨_,e⟩
 |rng lo hi=>obtain⟨_,_,_,e⟩:=x;exact⟨_,e⟩
 |frz ob u=>obtain⟨e,_⟩:=x;exact⟨_,e⟩
 |tbl ps=>exact⟨_,x⟩
 |met f y=>exact⟨_,x⟩
 |ext φ=>obtain⟨_,e,_⟩:=x;exact e
noncomputable abbrev exO(e C:Addr):HO:=.ext λh=>oX h e C
section
variable {P:Program} {w:World} {l:List Env} {H H':Hp} {s s':Shared} {B:Heap} {e C:Addr} {a0:Value} {h6:Heap}
theorem XLeft.got(x:XLeft P w l H H' s B s')(f0:Heap.FlyingW B l e (.ref C) a0 s'.heap)(f:Heap.FlyingW B l e (.ref C) a0 h6)(u:s'.heap.UpToSlots h6):Un (frs l) [] H (upd H' e (exO e C)) s.heap h6/\HOk P w (upd H' e (exO e C)) h6:=by
 have un:=(x.later f0 f.1 f.2.2.1 u (g:=s'.gens) (d:=s'.drawn) (t:=s'.toks) x.bare).un
 have ne:H' e=none:=by
  cases q:H' e with
  |none=>rfl
  |some o=>obtain⟨z,q2⟩:=sy (x.hok e o q);rw[f.2.1] at q2;cases q2
 obtain⟨oe,vs,he,hc,hd,_⟩:=f.first
 have nb:∀b o,s.heap.get? b=some o->H b=none->b ≠ e:=λb o q n z=>by
  subst z;by_cases hb:b ∈ frs l
  ·obtain⟨_,o2,q2,nf⟩:=f.2.2.1.mem hb;rw[he] at q2;cases q2;exact nf vs hd
  ·have:=x.keep b o q n hb;rw[f.2.1] at this;cases this
 have up:∀b u,H' b=some u->upd H' e (exO e C) b=some u:=λb u q=>by rw[aE (aO q ne)];exact q
 refine⟨⟨un.keep,un.slot,λb o q n hx=>by rw[aE (nb b o q n)];exact un.free b o q n hx,un.there,λb xs q=>up b _ (un.tups b xs q),λb o v q=>up b _ (un.frzs b o v q),λb ps q=>?_⟩,λb o q=>?_⟩
 ·obtain⟨m,q1⟩:=un.tbls b ps q;exact⟨m,up b _ q1⟩
 ·by_cases hb:b=e
  ·subst hb;rw[aJ] at q;cases q;exact⟨⟨oe,vs,he,hc,hd⟩,⟨oe,he⟩,λh1 h2 ⟨o,vs,q1,q2⟩ k=>⟨o,vs,k o q1,q2⟩⟩
  ·rw[aE hb] at q;exact(x.hok b o q).stay (λc v _ z=>f.1 c v z) (λc z=>up c _ z) λc xs z=>up c _ z
end
section
variable {X:Cx} {pins:List (Addr × Obj)} {σ:L2.St} {H:Hp} {s:Shared}
noncomputable abbrev Cx.mk(X:Cx)(e:Addr):Cx:={ X with A:=X.A.mark (some (.ref e)),calm:=false,xe:=λ_ _=>False }
theorem Bp(I:L2.Inv X pins σ H s)(e:Addr):L2.Inv (Cx.mk X e) pins σ H s:=
 ⟨⟨I.ok.mod,I.ok.kind,I.ok.glob,I.ok.blt,I.ok.above,I.ok.inj,I.ok.has,I.ok.cab,λz=>(nomatch z),I.ok.frames,I.ok.stk,I.ok.exf,I.ok.bs,I.ok.bsz,I.ok.noex,I.ok.exfs,I.ok.funs,I.ok.frf⟩,I.os,I.bare,I.base,I.loc,I.cell,I.free,I.freeC,I.pin,I.hok,I.len⟩
theorem Kd(ok:X.Ok)(I:L2.Inv (Cx.mk X e) pins σ H s):L2.Inv X pins σ H s:=⟨ok,I.os,I.bare,I.base,I.loc,I.cell,I.free,I.freeC,I.pin,I.hok,I.len⟩
theorem EN{i:Nat}(I:L2.Inv X pins σ H s)(hN:X.N.Nodup)(hi:X.N[i]?=some x)(hk:X.env.scope.names.lookup x=some .local)
  (h:∀s',L2.Inv X pins (σ.set i none) H s'->Q () s'):wpAny M A (do Vz X.env x .none;unbindBehindTheSuite X.env x pos) Q E s:=by
 obtain⟨m,hn,hl⟩:=id I.loc;have hcls:(X.env.scope.kind == .class || (X.env.scope.kind == .module && X.env.locals != X.env.globals))=false:=by rw[I.ok.kind];rfl
 have hiσ:i < σ.length:=by rw[I.len];exact(Zc.mp hi).1
 have cne:=I.cne;refine wpAny_nameGoes_keeps hk hn hcls λh' v hn' hs=>?_;refine h _ ⟨I.ok,I.os,I.bare,⟨λb o e n hb hx=>?_,λb o e n hb hx=>?_,I.base.free,λb o e hx=>?_,I.base.tups,I.base.frzs,I.base.tbls⟩,⟨_,hn',λj y v' e1 e2 e3=>?_⟩,λy c e=>?_,I.free,I.freeC,λp hp=>?_,λb ob e=>?_,by simpa using I.len⟩
 ·exact(hs.2 b (Zx (Zu (Zo e) I.ok.above))).trans (I.base.keep b o e n hb hx)
 ·obtain⟨sl,e1⟩:=I.base.slot b o e n hb hx;exact⟨sl,(hs.2 b (Zx (Zu (Zo e) I.ok.above))).trans e1⟩
 ·obtain⟨o',e1⟩:=I.base.there b o e hx;exact⟨o',(hs.2 b (Zx (Zu (Zo e) I.ok.above))).trans e1⟩
 ·by_cases hj:j=i
  ·subst hj;rw[ZI hiσ] at e2;cases e2
  ·rw[ZN (Ne.symm hj)] at e2;obtain⟨u',r',q⟩:=hl j y v' e1 e2 e3;refine⟨u',r',?_⟩;rcases q with ⟨k,e⟩ |⟨k,c,e,z⟩
   ·refine .inl ⟨k,?_⟩;have:y ≠ x:=λe=>hj (lg hN e1 (e ▸ hi));simp[this,e]
   ·exact .inr ⟨k,c,e,z.sameBut hs (cne y c e)⟩
 ·obtain⟨w',z⟩:=I.cell y c e;exact⟨w',z.sameBut hs (cne y c e)⟩
 ·obtain⟨e,n,ne,nf,d⟩:=I.pin p hp;exact⟨(hs.2 p.1 ne).trans e,n,ne,nf,d⟩
 ·refine(I.hok b ob e).stay (λc w' hc q=>(hs.2 c ?_).trans q) (λ_ q=>q) λ_ _ q=>q;rintro rfl;rcases hc with rfl |hc
  ·rw[I.free] at e;cases e
  ·rw[I.free] at hc;cases hc
theorem EO{H':Hp}{s':Shared}{B:Heap}{e C R:Addr}{a0:Value}{i:Nat}{n ring:Str}{b₀:Stmt}{suite:List Stmt}{np hpos:Pos}{D:Ends}(hst:X.stack=X.env::X.outer)(hfm:X.env.frame=some X.env.locals)(I:L2.Inv X pins σ H s)(fl:Heap.FlyingW B X.stack e (.ref C) a0 s'.heap)(x:XLeft X.prog X.w X.stack H H' s B s')
  (hC:bv X.base C (.ref R::bmV)) (hR:bv X.base R bmV) (hg:Gl X ring) (hm:X.mg ring=some (.ref R)) (hdb:(ring == ("__debug__" : Str))=false) (hN:X.N.Nodup) (hi:X.N[i]?=some n) (hl:X.env.scope.names.lookup n=some .local)
  (hb:∀s6,L2.Inv (Cx.mk X e) pins (σ.set i (some (.ref e))) (upd H' e (exO e C)) s6->wpAny (model X.prog X.w) (Cx.mk X e).A (execs (b₀::suite) X.env) (λf s7=>∃u v σ7 H7,f = .ret u/\L2.Inv (Cx.mk X e) pins σ7 H7 s7/\aI v u/\D.rt v H7) (λ_ _=>False) s6) :
  wpAny (model X.prog X.w) X.A (V0 (.ref e) X.env) (λ_ s₂=>wpAny (model X.prog X.w) X.A (setFlight (.ref e) none) (λ_ s₃=>wpAny (model X.prog X.w) X.A (handleBy (.ref e) X.env [.ExceptHandler (some (.Name ring np)) (some n) (b₀::suite) hpos]) (SP X pins D) X.xe s₃) X.xe s₂) X.xe s':=by
 have hfr:X.A.frames=some (X.env::X.outer):=by rw[<-hst];exact I.ok.frames
 have st:X.base.StaysIn B:=λb o q=>x.keep b o (I.bs b o q).1 (I.bs b o q).2 λhm=>by
  rw[(I.stack.mem hm).1] at q;cases q
 have flS:=fl;rw[hst] at fl;refine wpAny_looks_onW hfr hfm fl λh4 held sm4=>?_;refine wpAny_landsW held λh5 fl5 sm5=>?_;rw[<-hst] at fl5;obtain⟨un5,ok5⟩:=x.got flS fl5 (sm4.trans sm5);have I5:L2.Inv X pins σ (upd H' e (exO e C)) { s' with heap:=h5 }:=I.call' x.os un5 ok5 x.bare (λb z=>absurd z (by simp));have I5m:=Bp I5 e;refine wpAny_handleBy_cons (codeAny_handlers_test (iO (X:=Cx.mk X e) I5m hg hm ?_ hdb)) (by intro q;cases q);have hE:oX h5 e C:=by obtain⟨oe,vs,he,hc,hd,_⟩:=fl5.first;exact⟨oe,vs,he,hc,hd⟩
 have kb:∀b o,X.base.get? b=some o->h5.get? b=some o:=λb o q=>fl5.1 b o (st b o q);refine Kc (hC.keeps kb) (hR.keeps kb) hE ?_;refine codeAny_handlers_suite_as ?_;refine lands_againW fl5 λh6 fl6 sm6=>?_;obtain⟨un6,ok6⟩:=x.got flS fl6 ((sm4.trans sm5).trans sm6);have I6:L2.Inv X pins σ (upd H' e (exO e C)) { s' with heap:=h6 }:=I.call' x.os un6 ok6 x.bare (λb z=>absurd z (by simp));refine cA (X:=Cx.mk X e) (Bp I6 e) hN hi (.inl hl) (show aI (.ref e) (.ref e) from rfl) (λs7 I7=>?_) (.inr hl);refine UC (hb s7 I7) (λf s8 ⟨u,v,σ8,H8,hf,I8,rv,q⟩=>?_) λ_ _ z=>z.elim;subst hf;exact EN (Kd I.ok I8) hN hi hl λs9 I9=>⟨v,_,H8,I9,rv,q⟩
end
structure CtxOk(T:Tab)(C:Calls)(ar:Nat->Nat)(k:Nat)(b:Blk)(X:Cx):Prop where
 calm:X.calm=true
 xe:X.xe=λ_ _=>False
 hN:X.N=b.N
 hs:X.env.scope=b.sc
 nd:b.N.Nodup
 fn:∀x,(match b.fs with |none=>true |some sc=>sc.names.lookup x == some .cell)=true->X.fn x=true
 room:Room k X.A
 con:∀ (i:Nat) (x:Str) (v:Int),T.con[i]?=some (x,v)->∃tk,X.mg x=some (.int v tk)
 bl:∀x,x ∈ fF->X.mg x=none
 fns:∀ (i:Nat) (y:Str × Nat),T.fns[i]?=some y->ar i=y.2/\∃f fd ps,X.mg y.1=some (.ref f)/\Vi X.K (.ref f)=true/\cV X.K fd ps []/\FnOk X.prog X.w X.K X.mg X.base (CXE X.prog X.w) k f fd ps (spC X.K (C i) (ar i))
section
variable {T:Tab} {C:Calls} {ar:Nat->Nat} {k:Nat} {b:Blk} {X:Cx}
theorem am{e:Expr}{es:List Expr}{env:Env}(h:aG e=true):Uc (e::es) env=(false,eval e env)::Uc es env:=by
 cases e <;> first |rfl |(exact absurd h Zd)
theorem iY{e:Expr}(h:aG e=true):vW e:=by
 intro o i;cases e <;> first |rfl |(exact absurd h Zd)
theorem eU{e:Expr}{op:CmpOp}(h:aG e=true):Vx op e=false:=by
 cases e <;> first |rfl |(exact absurd h Zd)
theorem mM{e f:Expr}{op op':CmpOp}(h:aG e=true):lastMarks [op,op'] [f,e]=false:=by
 show Vx op' e=false;exact eU h
theorem eV{e:Expr}{env:Env}(h:aG e=true):∀x,VN e env x=pure x:=by
 intro x;cases e <;> first |rfl |(exact absurd h Zd)
theorem cw{e:Expr}{m:Str}{env:Env}{w:Sem Value}(h:uH e=true):attributeBase e m env w=w:=by
 cases e with
 |Call f as ks p=>
  cases f with
  |Name x q=>
   cases as with
   |nil=>cases ks with |nil=>exact absurd h Zd |cons _ _=>rfl
   |cons _ _=>rfl
  |_=>rfl
 |_=>first |rfl |(exact absurd h Zd)
theorem mO{e:Expr}{env:Env}(h:ED e=true):∀whole,isTrue e env whole=(do let v <-whole;standAt e.pos;holding [v] (truthy v)):=by
 intro whole;cases e with
 |UnaryOp op x p=>cases op <;> first |rfl |(exact absurd h Zd)
 |_=>first |rfl |(exact absurd h Zd)
theorem eF{es:List Expr}{env:Env}{pos:Pos}(h:∀e ∈ es,aG e=true):(backTo pos (Uc es env)).any (·.1)=false:=by
 induction es with
 |nil=>rfl
 |cons e es ih=>
  rw[am (h e Zg)];show(false || (backTo pos (Uc es env)).any (·.1))=false;rw[ih λe he=>h e (Zf _ he)];rfl
theorem aY:∀ {n:Nat} {es:List Expr} {cs:List CE},dj T n b es cs=true->∀e ∈ es,aG e=true
 |0,_,_,h=>absurd h Zd
 |n+1,es,[],h=>λx hx=>by rw[cv h] at hx;cases hx
 |n+1,es,c::cs,h=>by
  obtain⟨e,es,rfl,h⟩:=bQ h;obtain⟨_,h1,h⟩:=an3 h;intro x hx;rcases Zk.mp hx with rfl |hx
  ·exact h1
  ·exact aY h x hx
theorem CtxOk.gl(G:CtxOk T C ar k b X){x:Str}(h:b.glo x=true):Gl X x/\(x == ("__debug__" : Str))=false:=by
 unfold Blk.glo at h;rw[bAE] at h;refine⟨?_,by simpa using h.2⟩;show X.env.scope.names.lookup x=_;rw[G.hs]
 simpa using h.1
theorem CtxOk.vis(G:CtxOk T C ar k b X){x:Str}(h:b.vis x=true):Vis X.env.scope x/\(x == ("__debug__" : Str))=false/\(x == ("__classdict__" : Str))=false:=by
 unfold Blk.vis at h;rw[bAE,bAE] at h;refine⟨?_,by simpa using h.1.2,by simpa using h.2⟩;unfold Vis;rw[G.hs];have h1:=h.1.1;split at h1
 ·rename_i e;exact .inl e
 ·rename_i e;exact .inr (.inl e)
 ·rename_i e;exact .inr (.inr e)
 ·cases h1
theorem CtxOk.own(G:CtxOk T C ar k b X){x:Str}(h:b.own x=true):L2.Loc X.env.scope x/\(X.fn x=true\/X.env.scope.names.lookup x=some .local):=by
 unfold Blk.own at h;unfold L2.Loc;rw[G.hs];split at h
 ·rename_i e;exact⟨.inl e,.inr e⟩
 ·rename_i e;refine⟨.inr e,.inl (G.fn x ?_)⟩;cases hf:b.fs with
  |none=>rfl
  |some sc=>rw[hf] at h;exact h
 ·cases h
theorem CtxOk.inner(G:CtxOk T C ar k b X){own:List Str}{scope:Scope}(S:CmScope own (mG own b.N) b.N scope b.sc){C':Addr}{ex:List Addr}{s:Shared}{H:Hp}:CtxOk T C ar k (b.inner own scope) (cxC X own (mG own b.N) scope C' ex s H):=
 ⟨G.calm,rfl,by show cX (mG own b.N) X.N++own=_;rw[G.hN];rfl,by show fI scope X.env.scope=_;rw[G.hs];rfl,S.nd,λx h=>h,G.room,G.con,G.bl,G.fns⟩
theorem oZ{e:Expr}{es:List Expr}{env:Env}(h:aG e=true):Vu (e::es) env=(false,assign e env)::Vu es env:=by
 cases e <;> first |rfl |(exact absurd h Zd)
mutual
theorem gH(G:CtxOk T C ar k b X):∀ {e:Expr} {t:Tg},uI b e t=true->PG X e (tTg X.K t)
 |e,.name i,h=>by
  obtain⟨r,hx,h⟩:=jK h;obtain⟨h1,h2⟩:=an2 h;rw[qy hx];have o:=G.own h2;exact PG.imp (vN (i:=i) (x:=r.1) (by rw[G.hN];exact G.nd) (by rw[G.hN];exact eq_of_beq h1) o.1 o.2) λx σ H Q q=>qt q
 |e,.tup ts,h=>by
  obtain⟨r,hx,h⟩:=jK h;rw[iX hx];have hl:=o3 h;exact PG.imp (zx G.calm (sD G h) rfl hl.2) λx σ H Q q=>JV hl.1 q
theorem sD(G:CtxOk T C ar k b X):∀ {es:List Expr} {ts:List Tg},mH b es ts=true->PGs X es (AF X.K ts)
 |es,[],h=>by
  rw[cv h];exact PGs.imp vP λx σ H Q q=>Er q
 |es,t::ts,h=>by
  obtain⟨e,es,rfl,h⟩:=bQ h;obtain⟨h1,h2,h⟩:=an3 h;exact PGs.imp (ls (gH G h1) (sD G h) (by rw[oZ h2];rfl)) λx σ H Q q=>AG q
theorem o3:∀ {es:List Expr} {ts:List Tg},mH b es ts=true->(Vu es X.env).length=ts.length/\(Vu es X.env).findIdx? (·.1)=none
 |es,[],h=>by
  rw[cv h];exact⟨rfl,rfl⟩
 |es,t::ts,h=>by
  obtain⟨e,es,rfl,h⟩:=bQ h;obtain⟨h1,h2,h⟩:=an3 h;have ih:=o3 h;rw[oZ h2];refine⟨congrArg (·+1) ih.1,?_⟩;rw[List.findIdx?_cons];simp[ih.2]
end
end
structure Snd(T:Tab)(C:Calls)(ar:Nat->Nat)(k n:Nat):Prop where
 e:∀ (b:Blk) (X:Cx) (e:Expr) (c:CE),CtxOk T C ar k b X->aH T n b e c=true->PE X e (tE X.K (evE C ar n c))
 tm:∀ (b:Blk) (X:Cx) (e:Expr) (c:CE),CtxOk T C ar k b X->aj c=true->aH T n b e c=true->PE X e (eO X.K (cu C ar n c))
 a:∀ (b:Blk) (X:Cx) (es:List Expr) (cs:List CE),CtxOk T C ar k b X->dj T n b es cs=true->PA X es (tAr X.K (evA C ar n cs))
 t:∀ (b:Blk) (X:Cx) (e:Expr) (c:CE),CtxOk T C ar k b X->fD T n b e c=true->PT X e (tT X.K (evT C ar n c))
 i:∀ (B:List Addr) (b:Blk) (X:Cx) (t e:Expr) (c:CI),CtxOk T C ar k b X->su T n b t e c=true->PI X t e (tIt X.K B (evI C ar n c))
 cl:∀ (b:Blk) (X:Cx) (e:Expr) (gs:List Wv) (elt:CE) (cls:List Cl),CtxOk T C ar k b X->oW T n b e gs elt cls=true ->
  ∀ (gens:List Wv) (scope:Scope) (pos:Pos) (acc:Addr) (d:Nat),gens.drop (d+1)=gs->PTl X e gens scope pos acc d (tCl X.K acc (gQ C ar n elt cls))
section
variable {T:Tab} {C:Calls} {ar:Nat->Nat} {k n:Nat} {b:Blk} {X:Cx}
theorem b9{e:Expr}{es:List Expr}{te:TE}{t:TA}(ha:PE X e te)(hr:PA X es t)(hp:aG e=true):PA X (e::es) (cP te t):=DF ha hr (am hp)
theorem Oy(ih:Snd T C ar k n)(es:List Expr)(cs:List CE)(G:CtxOk T C ar k b X)(h:dj T (n+1) b es cs=true):PA X es (tAr X.K (evA C ar (n+1) cs)):=by
 cases cs with
 |nil=>rw[cv h];exact PA.imp pS λσ H Q q=>Jx q
 |cons c cs=>
  obtain⟨e,es,rfl,h⟩:=bQ h;obtain⟨h1,h2,h⟩:=an3 h;exact PA.imp (b9 (ih.e b X e c G h1) (ih.a b X es cs G h) h2) λσ H Q q=>Ea q
theorem bz{e:Expr}{te:TE}(h:PE X e te)(hp:aG e=true):PA X [e] (cP te jw):=b9 h pS hp
theorem dA{x:Str}{id:String}{e:Expr}{te:TE}{r:V->Hp->VK->Prop}{p pos:Pos}(hc:aP X (.builtin id) (r1 r))(G:CtxOk T C ar k b X)(hg:b.glo x=true)(hb:x ∈ fF)(hv:VA x=some (.builtin id))(hn:x ≠ "__name__")(h:PE X e te)(hp:aG e=true) :
  PE X (.Call (.Name x p) [e] [] pos) (tUn r te):=
 PE.imp (ef hc (G.gl hg).1 (G.bl x hb) hv (bz h hp) hn (G.gl hg).2 (am hp) rfl) λσ H Q q=>q
theorem kY{x:Str}{id:String}{e:Expr}{te:TE}{r:V->Hp->VK->Prop}{p pos:Pos}(hc:aP X (.type id) (r1 r))(G:CtxOk T C ar k b X)(hg:b.glo x=true)(hb:x ∈ fF)(hv:VA x=some (.type id))(hn:x ≠ "__name__")(h:PE X e te)(hp:aG e=true) :
  PE X (.Call (.Name x p) [e] [] pos) (tUn r te):=
 PE.imp (jy hc (G.gl hg).1 (G.bl x hb) hv (bz h hp) hn (G.gl hg).2 (am hp) rfl) λσ H Q q=>q
theorem im{x:Str}{e:Expr}{a:CE}{f:Bool->List D->Sto->Option (D × Sto)}{ks:List Keyword}{p pos:Pos}(ih:Snd T C ar k n)(G:CtxOk T C ar k b X)(hq:∀te:TE,PE X e te->PE X (.Call (.Name x p) [e] ks pos) (tUn (rSq X.K f) te))(h:aH T n b e a=true) :
  PE X (.Call (.Name x p) [e] ks pos) (tE X.K (if aj a=true then nW f (cu C ar n a) else nX f (evE C ar n a))):=by
 split
 ·rename_i ht;exact PE.imp (hq _ (ih.tm b X e a G ht h)) λσ H Q q=>Jv q
 ·exact PE.imp (hq _ (ih.e b X e a G h)) λσ H Q q=>Jz q
theorem iZ{x y:Str}(h:(x == y)=true):x=y:=eq_of_beq h
theorem qB{K:W6}{x:XE}{σ:L2.St}{H:Hp}{Q Q':VK}(h:tE K x σ H Q)(f:∀v H',Q v H'->Q' v H'):tE K x σ H Q':=by
 show 1;exact⟨m,ρ,S,d,S',E,R,e,λm' H' v A vd=>f _ _ (q m' H' v A vd)⟩
theorem Bq{x:XE}{σ:L2.St}{H:Hp}{Q:VK}{K:W6}(h:eO K (mz x) σ H Q):tUn (rTm K λ_ ds=>some ds) (tE K x) σ H Q:=by
 obtain⟨m,ρ,S,ds,S',E,R,e,q⟩:=h;obtain⟨d,S1,e1,e⟩:=ai e;cases hi:ao d S1 with
 |none=>rw[hi] at e;cases e
 |some r=>
  rw[hi] at e;cases e;refine⟨m,ρ,S,d,_,E,R,e1,λm1 H1 v A1 vd=>?_⟩;obtain⟨a,vs,ev,sq,vds⟩:=ek (tu:=r.1) (ds:=r.2) A1.rel vd hi;refine⟨m1,_,r.1,r.2,a,vs,r.2,A1.rel,ev,sq,vds,rfl,λm2 H2 p ws A2 hp n1 n2 n3 vw=>?_⟩
  have hn:H p=none:=by
   cases eh:H p with
   |none=>rfl
   |some o=>
    by_cases hm:p ∈ m
    ·exact absurd rfl (n2 p (A1.ext.pre.subset hm))
    ·have:=A1.ext.keep p o eh hm;rw[n3] at this;cases this
  exact q m2 H2 p ws (A1.trans A2) hp n1 (λb hb=>n2 b (A1.ext.pre.subset hb)) hn vw
theorem Bs{x:XA}{σ:L2.St}{H:Hp}{Q:VK}{K:W6}(h:eO K x σ H Q):tUn (rTm K λ_ ds=>some ds) (eO K x) σ H Q:=by
 obtain⟨m,ρ,S,ds,S',E,R,e,q⟩:=h;refine⟨m,ρ,S,ds,S',E,R,e,λm1 H1 a vs A1 ha na _ _ vd=>?_⟩;refine⟨m1,_,false,ds,a,vs,ds,A1.rel,rfl,show SqL K H1 a vs from SqL.of ha,vd,rfl,λm2 H2 p ws A2 hp n1 n2 n3 vw=>?_⟩
 have hn:H p=none:=by
  cases eh:H p with
  |none=>rfl
  |some o=>
   by_cases hm:p ∈ m
   ·exact absurd rfl (n2 p (A1.ext.pre.subset hm))
   ·have:=A1.ext.keep p o eh hm;rw[n3] at this;cases this
 exact q m2 H2 p ws (A1.trans A2) hp n1 (λb hb=>n2 b (A1.ext.pre.subset hb)) hn vw
abbrev ifT(C:Calls)(ar:Nat->Nat)(n:Nat)(K:W6):Option CE->TT
 |none=>DS
 |some c=>tT K (evT C ar n c)
theorem mP(ih:Snd T C ar k n)(G:CtxOk T C ar k b X){ifs:List Expr}{cond:Option CE}(h:Bl (fD T n b) ifs cond=true):PTs X ifs (ifT C ar n X.K cond):=by
 cases cond with
 |none=>rw[cv h];exact DT
 |some c=>obtain⟨e,rfl,h⟩:=ci h;exact DU (ih.t b X e c G h)
theorem uR{K:W6}{cond:Option CE}{acc:Addr}{c:XA}{D:Ends}{σ:L2.St}{H:Hp}(q:tCl K acc (cnd (evT C ar n) cond c) D σ H):fh (ifT C ar n K cond) (tCl K acc c) D σ H:=by
 cases cond with
 |none=>exact J1 q
 |some c=>exact Ez q
theorem sE(ih:Snd T C ar k n)(G:CtxOk T C ar k b X){l:Option Expr}{lo:Option CE}(h:Bk (aH T n b) l lo=true):PO X l (tOI X.K (opt (evE C ar n) lo)):=by
 cases lo with
 |none=>
  cases l with
  |none=>exact PO.imp DI λσ H Q q=>Eg q
  |some _=>cases h
 |some c=>obtain⟨e,rfl,h⟩:=jK h;exact PO.imp (DJ (ih.e b X e c G h)) λσ H Q q=>Eh q
theorem Ke(ih:Snd T C ar k n)(e:Expr)(gs:List Wv)(elt:CE)(cls:List Cl)(G:CtxOk T C ar k b X)(h:oW T (n+1) b e gs elt cls=true)(gens:List Wv)(scope:Scope)(pos:Pos)(acc:Addr)(d:Nat)(hd:gens.drop (d+1)=gs) :
  PTl X e gens scope pos acc d (tCl X.K acc (gQ C ar (n+1) elt cls)):=by
 have imp:∀ {t t':TS},PTl X e gens scope pos acc d t->(∀D σ H,t' D σ H->t D σ H)->PTl X e gens scope pos acc d t':=λh f pins s σ H D I q=>h pins s σ H D I (f D σ H q);cases cls with
 |nil=>
  obtain⟨h0,h⟩:=an2 h;cases cv h0
  have hn:gens[d+1]?=none:=by
   have:=congrArg Zb hd;simp at this;exact Ym.mpr (by omega)
  exact imp (zP G.xe hn (ih.e b X e elt G h)) λD σ H q=>Ey q
 |cons g rest=>
  obtain⟨tg,it,cond⟩:=g;obtain⟨⟨t,i,ifs,as⟩,gs',rfl,h⟩:=bQ h;obtain⟨h0,h1,h2,h3,h4⟩:=an5 h;cases of_decide_eq_true h0
  have hn:gens[d+1]?=some ⟨t,i,ifs,0⟩:=by
   have:=congrArg (·[0]?) hd
   simpa using this
  have hd':gens.drop (d+1+1)=gs':=by
   have:=congrArg (Z8 1) hd
   simpa[List.drop_drop] using this
  have hpl:=gG h1 (λe he env=>eV he) X.env;exact imp (DV hn (ih.i [acc] b X t i it G h1) (gH G h2) (mP ih G h3) (ih.cl b X e gs' elt rest G h4 gens scope pos acc (d+1) hd') G.xe G.calm hpl) λD σ H q=>AN (λD σ H z=>uR z) q
theorem Oz(ih:Snd T C ar k n)(B:List Addr)(t e:Expr)(c:CI)(G:CtxOk T C ar k b X)(h:su T (n+1) b t e c=true):PI X t e (tIt X.K B (evI C ar (n+1) c)):=by
 cases c with
 |val a=>
  have h:=an2 h;show PI X t _ (tIt X.K B (if aj a=true then xIT (cu C ar n a) else xIV (evE C ar n a)));split
  ·rename_i ht;exact PI.imp (vQ (ih.tm b X _ a G ht h.1)) λσ H R q=>QN q
  ·exact PI.imp (PI.or (vQ (ih.e b X _ a G h.1)) (IL (ih.e b X _ a G h.1))) λσ H R q=>QM q
 |r1 a=>
  obtain⟨x,p,q,rfl,h2,h3,h4⟩:=aR h;exact PI.imp (xK (G.gl h2).1 (G.bl _ (by decide)) (bz (ih.e b X x a G h3) h4) (am h4)) λσ H R q=>Oi q
 |r2 a c=>
  obtain⟨x,y,p,q,rfl,h2,h3,h4,h5,h6⟩:=eD h;exact PI.imp (xL (G.gl h2).1 (G.bl _ (by decide)) (b9 (ih.e b X x a G h3) (bz (ih.e b X y c G h5) h6) h4) (by rw[am h4,am h6];rfl) (am h6)) λσ H R q=>Oj q
 |en a=>
  have h:=an2 h;obtain⟨x,p,q,rfl,h2,h3,h4⟩:=aR h.1;obtain⟨elts,x1,tp,rfl,_⟩:=Bh h.2;show PI X _ _ (tIt X.K B (if aj a=true then xET (cu C ar n a) else xEV (evE C ar n a)));split
  ·rename_i ht;exact PI.imp (zY (G.gl h2).1 (G.bl _ (by decide)) (bz (ih.tm b X x a G ht h3) h4) (am h4)) λσ H R q=>Oh q
  ·exact PI.imp (PI.or (zY (G.gl h2).1 (G.bl _ (by decide)) (bz (ih.e b X x a G h3) h4) (am h4)) (Jn (G.gl h2).1 (G.bl _ (by decide)) (bz (ih.e b X x a G h3) h4) (am h4))) λσ H R q=>Og q
end
section
variable {T:Tab} {C:Calls} {ar:Nat->Nat} {k n:Nat} {b:Blk} {X:Cx}
theorem sF{k:Nat}{A:Around}(r:Room k A):A.units+64 < cLine:=r.units
theorem i5(K:W6)(m:List Addr)(H:Hp):∀l:List Nat,VDs K m H (l.map λj=>D.int (Int.ofNat j)) (l.map λ(j:Nat)=>V.int j)
 |[]=>by rw[Yc,Yc,VDs]
 |a::l=>by rw[Zv,Zv,VDs];exact⟨_,_,rfl,aX,i5 K m H l⟩
theorem vK{H:Hp}{p:Addr}{x y:HO}:upd (upd H p x) p y=upd H p y:=by
 funext b
 unfold upd;split <;> rfl
theorem Rel.adoptO{K:W6}{m:List Addr}{S:Sto}{H:Hp}{a:Addr}(R:Rel K m S H)(n:a ∉ m){ob:Ob}(h:ObR K (m++[a]) H a ob):Rel K (m++[a]) (S++[ob]) H:=by
 have p:=Yw m [a];have g:∀ {es:List D} {ws:List V},VDs K m H es ws->VDs K (m++[a]) H es ws:=λz=>VDs.mono0 p (λ_ _ t=>t) z;refine⟨by simp[R.len],XF.mpr ⟨R.nd,by simp,λx hx y hy=>by simp at hy;subst hy;exactλz=>n (z ▸ hx)⟩,λi o e=>?_⟩;by_cases hi:i < S.length
 ·rw[Zw hi] at e;obtain⟨b,hb,r⟩:=R.ob i o e;refine⟨b,kP p hb,?_⟩;cases o with
  |lst ds=>obtain⟨vs,p,q⟩:=r;exact⟨vs,p,g q⟩
  |frz ds=>obtain⟨o,vs,p,q⟩:=r;exact⟨o,vs,p,g q⟩
  |dic ks ds=>obtain⟨vs,p,l,q⟩:=r;exact⟨vs,p,l,g q⟩
 ·rw[Zs (by lia)] at e
  have hz:i - S.length=0:=by
   have:=(Zc.mp e).1;simp at this;lia
  rw[hz] at e;have e':ob=o:=by simpa using e
  subst e';refine⟨a,?_,h⟩;rw[Zs (by rw[R.len];lia),R.len,hz];rfl
theorem ww{K:W6}{m:List Addr}{H:Hp}{S:Sto}{p:Addr}{ks:List Key}{ds:List D}{vs:List V}{Q:VK}(R:Rel K m S H)(hp:H p=none)(vd:VDs K m H ds vs)(hl:ks.length=ds.length)(q:∀m' H' u,Aft K m H (S++[.dic ks ds]) m' H'->VD K m' H' (.ref S.length) u->Q u H'):Q (.ref p) (upd H p (.dK (ks.zip vs))):=by
 have x:=Ext.beside R hp (.dK (ks.zip vs));have R1:=R.beside hp (.dK (ks.zip vs));refine q (m++[p]) _ _ ⟨x.adopt hp,?_⟩ ?_
 ·exact R1.adoptO (R.no hp) (ob:=.dic ks ds) ⟨vs,aJ,hl,VDs.mono0 (Yw m [p]) (λ_ _ t=>t) (vd.mono R x)⟩
 ·rw[VD];exact⟨p,by rw[Zs (by rw[R.len];exact Ze _),R.len,Yx];rfl,rfl⟩
theorem qC{es:List Expr}{a:CE}(h:dj T n b es [a]=true):∃y,es=[y]:=by
 cases n with
 |zero=>exact absurd h Zd
 |succ n=>
  obtain⟨e,es,rfl,h⟩:=bQ h;have h:=(an2 h).2;cases n with
  |zero=>exact absurd h Zd
  |succ n=>cases cv h;exact⟨e,rfl⟩
theorem ER(ih:Snd T C ar k n){own:List Str}{elt:CE}{tg:Tg}{it:CI}{cond:Option CE}{rest:List Cl}{e t i:Expr}{ifs:List Expr}{gs:List Wv}{scope:Scope}{pos:Pos}(G:CtxOk T C ar k b X)
  (h0:cmB own (mG own b.N) b.N scope b.sc=true) (h1:su T n b t i it=true) (h2:uI (b.inner own scope) t tg=true) (h3:Bl (fD T n (b.inner own scope)) ifs cond=true) (h4:oW T n (b.inner own scope) e gs elt rest=true) :
  PE X (.ListComp e (⟨t,i,ifs,0⟩::gs) scope pos) (eO X.K (my own.length (evI C ar n it) tg (cnd (evT C ar n) cond (gQ C ar n elt rest)) LF)):=by
 have S:CmScope own (mG own b.N) b.N scope b.sc:=zZ _ h0;have S':CmScope own (mG own b.N) X.N scope X.env.scope:=by rw[G.hN,G.hs];exact S
 have hpl:=gG h1 (λe he env=>eV he) X.env
 refine PE.imp (DW (g:=tTg X.K tg) (ti:=ifT C ar n X.K cond) (t:=λacc=>tCl X.K acc (gQ C ar n elt rest)) G.calm S' (ih.i [] b X t i it G h1) (λC' ex s H=>gH (G.inner S (C':=C') (ex:=ex) (s:=s) (H:=H)) h2) (λC' ex s H=>mP ih (G.inner S (C':=C') (ex:=ex) (s:=s) (H:=H)) h3)
  (λC' ex s H acc=>ih.cl _ _ e gs elt rest (G.inner S (C':=C') (ex:=ex) (s:=s) (H:=H)) h4 _ scope pos acc 0 rfl) hpl) λσ H Q q=>?_
 exact wm (λacc D σ H z=>uR z) q
theorem Kf{x:XE}{σ:L2.St}{H:Hp}{Q:VK}{K:W6}(h:eO K (yD x) σ H Q):tE K x σ H λv H1=>∃i:Nat,v = .int i/\i<=1000/\∀p,H1 p=none->∀l,upd H1 p (.rng 0 i) l=none->Q (.ref l) (upd (upd H1 p (.rng 0 i)) l (.lst ((Zj i).map λ(j:Nat)=>V.int j))):=by
 obtain⟨m,ρ,S,ds,S',E,R,e,q⟩:=h;obtain⟨d,S1,e1,e⟩:=ai e;cases d with
 |int i=>
  dsimp only at e;split at e
  ·rename_i hi;cases e;refine⟨m,ρ,S,.int i,_,E,R,e1,λm1 H1 v A1 vd=>⟨i.toNat,by rw[vd.ints];congr 1;lia,by lia,λp hp l hl=>?_⟩⟩;have A2:Aft K m1 H1 S' m1 (upd H1 p (.rng 0 i.toNat)):=⟨Ext.beside A1.rel hp _,A1.rel.beside hp _⟩;have A3:Aft K m1 (upd H1 p (.rng 0 i.toNat)) S' m1 (upd (upd H1 p (.rng 0 i.toNat)) l (.lst ((Zj i.toNat).map λ(j:Nat)=>V.int j))):=⟨Ext.beside A2.rel hl _,A2.rel.beside hl _⟩;have nl:l ∉ m1:=A2.rel.no hl
   have n1:H1 l=none:=by
    cases hh:H1 l with
    |none=>rfl
    |some o=>rw[(Ext.beside A1.rel hp (.rng 0 i.toNat)).keep l o hh nl] at hl;cases hl
   have nH:H l=none:=by
    cases hh:H l with
    |none=>rfl
    |some o=>
     by_cases hm:l ∈ m
     ·exact absurd (A1.ext.pre.subset hm) nl
     ·rw[A1.ext.keep l o hh hm] at n1;cases n1
   refine q m1 _ l _ (A1.trans (A2.trans A3)) aJ nl (λb hb z=>nl (z ▸ A1.ext.pre.subset hb)) nH ?_;exact i5 _ _ _ _
  ·cases e
 |_=>cases e
theorem ES{σ:L2.St}{H:Hp}{Q:VK}{K:W6}(h:tE K AW σ H Q):zT σ H Q:=by
 show 1;cases e;exactλp hp=>ww R hp (show VDs K m H [] [] by rw[VDs]) rfl q
theorem ET{σ:L2.St}{H:Hp}{Q:VK}{K:W6}{i j:Int}(h:tE K (AX i j) σ H Q):zW [(tC (.int i),tC (.int j))] σ H Q:=by
 show 1;cases e;intro p hp;refine⟨aJ,[(og i,.int j)],rfl,by simp,?_⟩;rw[vK];exact ww R hp (ks:=[og i]) (vs:=[.int j]) (show VDs K m H [.int j] [.int j] by rw[VDs];exact⟨_,_,rfl,aX,by rw[VDs]⟩) rfl q
theorem Kg{f:Bool->List D->Option (List D)}{x:XE}{σ:L2.St}{H:Hp}{Q:VK}{K:W6}(h:eO K (yC f x) σ H Q):tUn (rTm K f) (tE K x) σ H Q:=by
 obtain⟨m,ρ,S,ds,S',E,R,e,q⟩:=h;obtain⟨d,S1,e1,e⟩:=ai e;cases hi:ao d S1 with
 |none=>rw[hi] at e;cases e
 |some r=>
  rw[hi] at e;dsimp only at e;cases hf:f r.1 r.2 with
  |none=>rw[hf] at e;cases e
  |some es=>
  rw[hf] at e;cases e;refine⟨m,ρ,S,d,_,E,R,e1,λm1 H1 v A1 vd=>?_⟩;obtain⟨a,vs,ev,sq,vds⟩:=ek (tu:=r.1) (ds:=r.2) A1.rel vd hi;refine⟨m1,_,r.1,r.2,a,vs,ds,A1.rel,ev,sq,vds,hf,λm2 H2 p ws A2 hp n1 n2 n3 vw=>?_⟩
  have hn:H p=none:=by
   cases eh:H p with
   |none=>rfl
   |some o=>
    by_cases hm:p ∈ m
    ·exact absurd rfl (n2 p (A1.ext.pre.subset hm))
    ·have:=A1.ext.keep p o eh hm;rw[n3] at this;cases this
  exact q m2 H2 p ws (A1.trans A2) hp n1 (λb hb=>n2 b (A1.ext.pre.subset hb)) hn vw
theorem Kh{f:Bool->List D->Option (List D)}{x:XA}{σ:L2.St}{H:Hp}{Q:VK}{K:W6}(h:eO K (yB f x) σ H Q):tUn (rTm K f) (eO K x) σ H Q:=by
 obtain⟨m,ρ,S,es,S',E,R,e,q⟩:=h;obtain⟨ds,S1,e1,e⟩:=ai e;cases hf:f false ds with
 |none=>rw[hf] at e;cases e
 |some es'=>
 rw[hf] at e;cases e;refine⟨m,ρ,S,ds,_,E,R,e1,λm1 H1 a vs A1 ha na _ _ vd=>?_⟩;refine⟨m1,_,false,ds,a,vs,es,A1.rel,rfl,show SqL K H1 a vs from SqL.of ha,vd,hf,λm2 H2 p ws A2 hp n1 n2 n3 vw=>?_⟩
 have hn:H p=none:=by
  cases eh:H p with
  |none=>rfl
  |some o=>
   by_cases hm:p ∈ m
   ·exact absurd rfl (n2 p (A1.ext.pre.subset hm))
   ·have:=A1.ext.keep p o eh hm;rw[n3] at this;cases this
 exact q m2 H2 p ws (A1.trans A2) hp n1 (λb hb=>n2 b (A1.ext.pre.subset hb)) hn vw
theorem Bt(ih:Snd T C ar k n)(e:Expr)(c:CE)(G:CtxOk T C ar k b X)(ht:aj c=true)(h:aH T (n+1) b e c=true):PE X e (eO X.K (cu C ar (n+1) c)):=by
 cases c with
 |lst cs=>
  obtain⟨es,p,rfl,hh⟩:=jL h;exact PE.imp (jx (ih.a b X es cs G hh)) λσ H Q q=>Eb q
 |listOf a=>
  obtain⟨x,p,q,rfl,h2,h3,h4⟩:=aR h;show PE X _ (eO X.K (if aj a=true then cu C ar n a else mz (evE C ar n a)));split
  ·rename_i ht;exact PE.imp (kY mh G h2 (by decide) Wn (by decide) (ih.tm b X x a G ht h3) h4) λσ H Q q=>Bs q
  ·exact PE.imp (kY mh G h2 (by decide) Wn (by decide) (ih.e b X x a G h3) h4) λσ H Q q=>Bq q
 |listR a=>
  obtain⟨x,p,q,rfl,h2,h3,h4⟩:=aR h;obtain⟨y,p',q',rfl,h5,h6,h7⟩:=aR h3
  exact PE.imp (jy (qa G.calm) (G.gl h2).1 (G.bl _ (by decide)) Wn (bz (jy rC (G.gl h5).1 (G.bl _ (by decide)) PyProof.Rows.boot_range (bz (ih.e b X y a G h6) h7) (by decide) (G.gl h5).2 (am h7) rfl) h4) (by decide) (G.gl h2).2 (am h4) rfl) λσ H Q q=>qB (Kf q) λv H1 ⟨i,ev,hi,z⟩=>by
    subst ev;exact⟨i,rfl,λp hp=>⟨p,i,rfl,aJ,hi,λl hl=>z p hp l hl⟩⟩
 |srt a=>
  obtain⟨x,p,q,rfl,h2,h3,h4⟩:=aR h;show PE X _ (eO X.K (if aj a=true then yB cR (cu C ar n a) else yC cR (evE C ar n a)));split
  ·rename_i ht;exact PE.imp (dA oQ G h2 (by decide) Wp (by decide) (ih.tm b X x a G ht h3) h4) λσ H Q q=>Kh (f:=cR) q
  ·exact PE.imp (dA oQ G h2 (by decide) Wp (by decide) (ih.e b X x a G h3) h4) λσ H Q q=>Kg (f:=cR) q
 |comp own elt cls=>
  obtain⟨tg,it,cond,rest,rfl,hc⟩:=HE h;obtain⟨el,t,i,ifs,gs,scope,p,rfl,hh⟩:=wt hc;obtain⟨h0,h1,h2,h3,h4⟩:=an5 hh;exact ER ih G h0 h1 h2 h3 h4
 |_=>cases ht
theorem i6{y:Expr}{pos:Pos}(h:aG y=true):((backTo pos (Uc [y] X.env)).all (λx=>!x.1) && (Vw pos (VR [] X.env)).all (λx=>x.1.isSome) && decide (([y]:List Expr).length+([]:List Keyword).length+(if ([]:List Keyword).isEmpty then 0 else 1) < 30))=true:=by
 rw[am h];rfl
theorem Ki{es:List Expr}{a c:CE}(h:dj T n b es [a,c]=true):∃y z,es=[y,z]:=by
 cases n with
 |zero=>exact absurd h Zd
 |succ n=>
  obtain⟨e,es,rfl,h⟩:=bQ h;obtain⟨z,rfl⟩:=qC (an2 h).2;exact⟨e,z,rfl⟩
theorem OA(ih:Snd T C ar k n)(e:Expr)(c:CE)(G:CtxOk T C ar k b X)(h:aH T (n+1) b e c=true):PE X e (tE X.K (evE C ar (n+1) c)):=by
 have hu:=sF G.room
 have tmp:aj c=true->evE C ar (n+1) c=dH (cu C ar (n+1) c)->PE X e (tE X.K (evE C ar (n+1) c)):=λht he=>by
  rw[he];exact PE.imp (Bt ih e c G ht h) λσ H Q q=>rJ q
 cases c with
 |non=>obtain⟨_,_,rfl⟩:=J8 h;exact PE.imp IA λσ H Q q=>Ai (λ_ _=>lY) q
 |bl v=>obtain⟨_,_,rfl⟩:=Bg h;exact PE.imp zp λσ H Q q=>Ai (λ_ _=>bN) q
 |int v=>obtain⟨_,_,rfl⟩:=mI h;exact PE.imp lh λσ H Q q=>Ai (λ_ _=>aX) q
 |str v=>obtain⟨_,_,rfl⟩:=uL h;exact PE.imp pR λσ H Q q=>Ai (λ_ _=>lZ) q
 |var i=>
  obtain⟨x,p,rfl,hh⟩:=b8 h;have hh:=an2 hh;have v:=G.vis hh.2;exact PE.imp (tO (i:=i) (by rw[G.hN];exact eq_of_beq hh.1) v.1 v.2.1 v.2.2) λσ H Q q=>Jw q
 |con k' v=>
  obtain⟨x,p,rfl,hh⟩:=b8 h;have hh:=an2 hh;have g:=G.gl hh.2;obtain⟨tk,hm⟩:=G.con k' x v (eq_of_beq hh.1);exact PE.imp (kO (v:=.int v) g.1 hm ⟨tk,rfl⟩ g.2) λσ H Q q=>Ai (λ_ _=>aX) q
 |tup cs=>obtain⟨es,_,_,rfl,hh⟩:=Bh h;exact PE.imp (IZ (ih.a b X es cs G hh)) λσ H Q q=>Jy q
 |lst cs=>exact tmp rfl rfl
 |dic0=>obtain⟨p,rfl⟩:=EK h;exact PE.imp zU λσ H Q q=>ES q
 |dic1 i j=>
  obtain⟨x,y,p,rfl,h1,h2⟩:=EL h;obtain⟨_,_,rfl⟩:=mI h1;obtain⟨_,_,rfl⟩:=mI h2;exact PE.imp (z8 lh lh) λσ H Q q=>ET q
 |bin o a c'=>obtain⟨l,r,p,rfl,h2,h3⟩:=uM h;exact PE.imp (zB (Ef o) (ih.e b X l a G h2) (ih.e b X r c' G h3)) λσ H Q q=>qd q
 |neg a=>obtain⟨x,p,rfl,hh⟩:=J9 h;exact PE.imp (Nx EA (ih.e b X x a G hh)) λσ H Q q=>Ag q
 |cmp o a c'=>obtain⟨l,r,p,rfl,h2,h3,h4⟩:=uO h;exact PE.imp (DC (gD hu o) (ih.e b X l a G h2) (ih.e b X r c' G h3) (eU h4)) λσ H Q q=>qd q
 |chn o p' a c' d=>obtain⟨l,r,s,p,rfl,h2,h3,h4,h5⟩:=Bi h;exact PE.imp (zC (gD hu o) (gD hu p') (ih.e b X l a G h2) (ih.e b X r c' G h3) (ih.e b X s d G h4) (mM h5)) λσ H Q q=>AR q
 |and a c'=>
  rcases EF h with h |h
  ·obtain⟨x,y,p,rfl,h1,h2⟩:=mJ h;exact PE.imp (zw (ih.e b X x a G h1) (zv (ih.e b X y c' G h2))) λσ H Q q=>AQ q
  ·obtain⟨x,y,z,ys,p,rfl,h1,h2⟩:=qA h;exact PE.imp (zw (ih.e b X x a G h1) (ih.e b X _ c' G h2)) λσ H Q q=>AQ q
 |or a c'=>
  rcases EF h with h |h
  ·obtain⟨x,y,p,rfl,h1,h2⟩:=mJ h;exact PE.imp (Hf (ih.e b X x a G h1) (zv (ih.e b X y c' G h2))) λσ H Q q=>Hw q
  ·obtain⟨x,y,z,ys,p,rfl,h1,h2⟩:=qA h;exact PE.imp (Hf (ih.e b X x a G h1) (ih.e b X _ c' G h2)) λσ H Q q=>Hw q
 |not a=>obtain⟨x,p,rfl,hh⟩:=uN h;exact PE.imp (IC (ih.e b X x a G hh)) λσ H Q q=>J3 q
 |ix a c'=>
  obtain⟨x,y,p,rfl,h1,h2,h3⟩:=Bj h;show PE X _ (tE X.K (if aj a=true then ug (cu C ar n a) (evE C ar n c') else rH ixS (evE C ar n a) (evE C ar n c')));split
  ·rename_i ht;exact PE.imp (vX zJ (ih.tm b X x a G ht h1) (ih.e b X y c' G h2) (iY h3)) λσ H Q q=>JJ q
  ·exact PE.imp (vX QK (ih.e b X x a G h1) (ih.e b X y c' G h2) (iY h3)) λσ H Q q=>qd q
 |sl a lo hi=>obtain⟨x,y,z,p,p',rfl,h1,h2,h3⟩:=Ot h;exact PE.imp (zH QL (ih.e b X x a G h1) (sE ih G h2) (sE ih G h3)) λσ H Q q=>N9 q
 |call f cs=>
  obtain⟨x,e,es,p,p',rfl,h12,h3⟩:=wq (k:=λx=>oA T.fns[f]? (λy=>y.1 == x) && b.glo x) (l:=λes=>dj T n b es cs) (e:=e) h;obtain⟨h1,h2⟩:=an2 h12
  ·obtain⟨y,hy,h1⟩:=jK h1;have hx:=iZ h1;subst hx;obtain⟨ha,fa,fd,ps,hm,hk,hb,F⟩:=G.fns f y hy;have hpl:=aY h3;have g:=G.gl h2;exact PE.imp (vT F G.room g.1 hm hk hb .nil Ov (ih.a b X (e::es) cs G h3) g.2 (am (hpl e Zg)) (eF λe he=>hpl e (Zf _ he))) λσ H Q q=>EB q
 |inst t a=>
  obtain⟨x,y,p,p',rfl,h2,h5,h6,h7,_⟩:=eD h;obtain⟨y,p'',rfl,h8⟩:=b8 h7;obtain⟨h3,h4⟩:=an2 h8;have hy:=iZ h3;subst hy
  have ty:PE X (.Name (Str.ofString t.nm) p'') (tC (.ty t.nm)):=by
   have g:=G.gl h4;cases t with
   |int=>exact gz g.1 (G.bl _ (by decide)) Wl rfl (by decide) g.2
   |bool=>exact gz g.1 (G.bl _ (by decide)) PyProof.Rows.boot_bool rfl (by decide) g.2
   |tuple=>exact gz g.1 (G.bl _ (by decide)) Wq rfl (by decide) g.2
   |list=>exact gz g.1 (G.bl _ (by decide)) Wn rfl (by decide) g.2
   |str=>exact gz g.1 (G.bl _ (by decide)) PyProof.Rows.boot_str rfl (by decide) g.2
  exact PE.imp (ef (qb X.K) (G.gl h2).1 (G.bl _ (by decide)) Wm (b9 (ih.e b X x a G h5) (bz ty rfl) h6) (by decide) (G.gl h2).2 (am h6) rfl) λσ H Q q=>Ek q
 |len a=>obtain⟨x,p,p',rfl,h2,h3,h4⟩:=aR h;exact im ih G (λte z=>dA yg G h2 (by decide) PySem.boot_len (by decide) z h4) h3
 |all a=>obtain⟨x,p,p',rfl,h2,h3,h4⟩:=aR h;exact im ih G (λte z=>dA (yi G.calm) G h2 (by decide) PyProof.Rows.boot_all (by decide) z h4) h3
 |any a=>obtain⟨x,p,p',rfl,h2,h3,h4⟩:=aR h;exact im ih G (λte z=>dA (yj G.calm) G h2 (by decide) PyProof.Rows.boot_any (by decide) z h4) h3
 |mxL a=>obtain⟨x,p,p',rfl,h2,h3,h4⟩:=aR h;exact im ih G (λte z=>dA (yo G.calm) G h2 (by decide) Wo (by decide) z h4) h3
 |mxD a c=>
  obtain⟨x,p,q,j,p',q',rfl,h2,h3,h4⟩:=EJ h;exact im ih G (λte z=>PE.imp (JQ G.calm (G.gl h2).1 (G.bl _ (by decide)) (G.gl h2).2 (bz z h4) (am h4)) λσ H Q q=>q) h3
 |sm a=>obtain⟨x,p,p',rfl,h2,h3,h4⟩:=aR h;exact im ih G (λte z=>dA (yq G.calm) G h2 (by decide) PyProof.Rows.boot_sum (by decide) z h4) h3
 |intOf a=>obtain⟨x,p,p',rfl,h2,h3,h4⟩:=aR h;exact PE.imp (kY yr G h2 (by decide) Wl (by decide) (ih.e b X x a G h3) h4) λσ H Q q=>Ag q
 |tupOf a=>obtain⟨x,p,p',rfl,h2,h3,h4⟩:=aR h;exact im ih G (λte z=>kY yh G h2 (by decide) Wq (by decide) z h4) h3
 |listOf a=>exact tmp rfl rfl
 |listR a=>exact tmp rfl rfl
 |srt a=>exact tmp rfl rfl
 |mx a c'=>
  obtain⟨x,es,p,p',rfl,h2,h3⟩:=sj (b:=b) (f := "max") (k:=λes=>dj T n b es [a,c']) (e:=e) h;have hpl:=aY h3;exact PE.imp (ef (uo G.calm) (G.gl h2).1 (G.bl _ (by decide)) Wo (ih.a b X (x::es) [a,c'] G h3) (by decide) (G.gl h2).2 (am (hpl x Zg)) (eF λe he=>hpl e (Zf _ he))) λσ H Q q=>Ah q
 |mn a c'=>
  obtain⟨x,es,p,p',rfl,h2,h3⟩:=sj (b:=b) (f := "min") (k:=λes=>dj T n b es [a,c']) (e:=e) h;have hpl:=aY h3;exact PE.imp (ef (uq G.calm) (G.gl h2).1 (G.bl _ (by decide)) PyProof.Rows.boot_min (ih.a b X (x::es) [a,c'] G h3) (by decide) (G.gl h2).2 (am (hpl x Zg)) (eF λe he=>hpl e (Zf _ he))) λσ H Q q=>Ah q
 |rep a=>obtain⟨x,p,p',rfl,h2,h3,h4⟩:=aR h;exact PE.imp (dA (uD G.room) G h2 (by decide) PyProof.Rows.boot_repr (by decide) (ih.e b X x a G h3) h4) λσ H Q q=>Ag q
 |comp own elt cls=>exact tmp rfl rfl
 |app o a=>
  obtain⟨x,ap,es,p,rfl,h2,h3,h4,h5⟩:=jM h;obtain⟨y,rfl⟩:=qC h5;have hpl:=aY h5 y (by simp);exact PE.imp (oB WB WD PySem.F.type_list_append JS (ih.e b X x o G h4) (ih.a b X [y] [a] G h5) (cw h2) (i6 hpl) h3 (am hpl) rfl) λσ H Q q=>qp (λR vd c=>uA R vd c) q
 |popAt o a=>
  obtain⟨x,ap,es,p,rfl,h2,h3,h4,h5⟩:=jM h;obtain⟨y,rfl⟩:=qC h5;have hpl:=aY h5 y (by simp);exact PE.imp (oB WB WI PySem.F.type_list_pop yv (ih.e b X x o G h4) (ih.a b X [y] [a] G h5) (cw h2) (i6 hpl) h3 (am hpl) rfl) λσ H Q q=>qp (λR vd c=>uA R vd c) q
 |ins o i a=>
  obtain⟨x,ap,es,p,rfl,h2,h3,h4,h5⟩:=jM h;obtain⟨y,z,rfl⟩:=Ki h5;have hpl:=aY h5 y (by simp);have hpz:=aY h5 z (by simp);exact PE.imp (oB WB WG PySem.F.type_list_insert En (ih.e b X x o G h4) (ih.a b X [y,z] [i,a] G h5) (cw h2) (by rw[am hpl,am hpz];rfl) h3 (am hpl) (by rw[am hpz];rfl)) λσ H Q q=>qp (λR vd c=>uA R vd c) q
 |cnt o a=>
  obtain⟨x,ap,es,p,rfl,h2,h3,h4,h5⟩:=jM h;obtain⟨y,rfl⟩:=qC h5;have hpl:=aY h5 y (by simp);exact PE.imp (oB PySem.F.plainAttrs_tuple WK PySem.F.type_tuple_count Em (ih.e b X x o G h4) (ih.a b X [y] [a] G h5) (cw h2) (i6 hpl) h3 (am hpl) rfl) λσ H Q q=>qp (λR vd c=>JR R vd c) q
end
section
variable {T:Tab} {C:Calls} {ar:Nat->Nat} {k n:Nat} {b:Blk} {X:Cx}
theorem wx{op:BoolOp}{vs:List Expr}{p:Pos}{t:TT}(h:PT X (.BoolOp op vs p) t):PW X (.BoolOp op vs p) t:=λwhole pins s σ H Q I q=>h pins s σ H Q I q
theorem OB(ih:Snd T C ar k n)(e:Expr)(c:CE)(G:CtxOk T C ar k b X)(h:fD T (n+1) b e c=true):PT X e (tT X.K (evT C ar (n+1) c)):=by
 have hu:=sF G.room
 have dflt:evT C ar (n+1) c=Ei (evE C ar n c)->(aH T n b e c && ED e)=true->PT X e (tT X.K (evT C ar (n+1) c)):=λe1 hh=>by
  rw[e1];have hh:=an2 hh;exact PT.imp (zE (ih.e b X e c G hh.1) (mO hh.2)) λσ H Q q=>JL q
 cases c with
 |cmp o a c'=>obtain⟨l,r,p,rfl,h2,h3,h4⟩:=uO h;exact PT.imp (vR (gD hu o) (ih.e b X l a G h2) (ih.e b X r c' G h3) (eU h4)) λσ H Q q=>qd (Oa q)
 |chn o p' a c' d=>obtain⟨l,r,s,p,rfl,h2,h3,h4,h5⟩:=Bi h;exact PT.imp (zD (gD hu o) (gD hu p') (ih.e b X l a G h2) (ih.e b X r c' G h3) (ih.e b X s d G h4) (mM h5)) λσ H Q q=>AR (Oa q)
 |and a c'=>
  rcases EF h with h |h
  ·obtain⟨x,y,p,rfl,h1,h2⟩:=mJ h;exact PT.imp (zr (ih.t b X x a G h1) (Du (ih.t b X y c' G h2))).pt λσ H Q q=>AV q
  ·obtain⟨x,y,z,ys,p,rfl,h1,h2⟩:=qA h;exact PT.imp (zr (ih.t b X x a G h1) (wx (ih.t b X _ c' G h2))).pt λσ H Q q=>AV q
 |or a c'=>
  rcases EF h with h |h
  ·obtain⟨x,y,p,rfl,h1,h2⟩:=mJ h;exact PT.imp (zt (ih.t b X x a G h1) (zq (ih.t b X y c' G h2))).pt λσ H Q q=>Hx q
  ·obtain⟨x,y,z,ys,p,rfl,h1,h2⟩:=qA h;exact PT.imp (zt (ih.t b X x a G h1) (wx (ih.t b X _ c' G h2))).pt λσ H Q q=>Hx q
 |not a=>obtain⟨x,p,rfl,h1⟩:=uN h;exact PT.imp (zu (ih.t b X x a G h1)) λσ H Q q=>J5 q
 |_=>exact dflt rfl h
theorem snd:∀n,Snd T C ar k n
 |0=>⟨λb X e c _ h=>absurd h Zd,λb X e c _ _ h=>absurd h Zd,λb X e c _ h=>absurd h Zd,λb X e c _ h=>absurd h Zd,λB b X t e c _ h=>absurd h Zd,λb X e gs elt cls _ h=>absurd h Zd⟩
 |n+1=>⟨λb X e c G h=>OA (snd n) e c G h,λb X e c G ht h=>Bt (snd n) e c G ht h,λb X es cs G h=>Oy (snd n) es cs G h,λb X e c G h=>OB (snd n) e c G h,λB b X t e c G h=>Oz (snd n) B t e c G h,λb X e gs elt cls G h=>Ke (snd n) e gs elt cls G h⟩
end
inductive CS where |asg (t:Tg)(e:CE) |setI (v o i:CE) |swp (v o i q j:CE) |ex (e:CE) |ret (e:CE) |ifs (c:CE)(a b:List CS) |for_ (t:Tg)(it:CI)(b:List CS) |cnt |never
abbrev EU:XS:=λ_ _=>none
mutual
noncomputable def evS(C:Calls)(ar:Nat->Nat):Nat->CS->XS
 |0,_=>EU
 |n+1,s=>match s with
  |.asg t e=>mv (evE C ar n e) t
  |.setI v o i=>rY (evE C ar n v) (evE C ar n o) (evE C ar n i)
  |.swp v o i q j=>AI (evE C ar n v) (evE C ar n o) (evE C ar n i) (evE C ar n q) (evE C ar n j)
  |.ex e=>rX (evE C ar n e)
  |.ret e=>AH (evE C ar n e)
  |.ifs c a b=>xIf (evT C ar n c) (fE C ar n a) (fE C ar n b)
  |.for_ t it b=>AK (evI C ar n it) t (fE C ar n b) LF
  |.cnt=>Ol
  |.never=>EU
noncomputable def fE(C:Calls)(ar:Nat->Nat):Nat->List CS->XS
 |0,_=>EU
 |n+1,ss=>match ss with
  |[]=>Hu
  |s::ss=>uF (evS C ar n s) (fE C ar n ss)
end
abbrev Bu:Expr->Bool
 |.Starred _ _=>true
 |_=>false
abbrev gI(sc:Scope)(line:Nat)(ts:List Expr):List Str:=ts.filterMap λ
 |.Name id pos=>if sc.names.lookup id == some .local && pos.line == line then some id else none
 |_=>none
abbrev mQ(sc:Scope)(ts vs:List Expr):Option (Option (List Str)):=
 if (!(ts.length == 2 || ts.length == 3) || vs.length != ts.length)=true then some none
 else if (vs.any Bu)=true then some none
 else if ((gI sc ((ts.head?.map (·.pos.line)).getD 0) ts).length != ts.length || (gI sc ((ts.head?.map (·.pos.line)).getD 0) ts).eraseDups.length != (gI sc ((ts.head?.map (·.pos.line)).getD 0) ts).length)=true then some none
 else if (vs.all (foldedForSure 8))=true then some none
 else if (vs.all (constantsAlone 8))=true then none
 else some (some (gI sc ((ts.head?.map (·.pos.line)).getD 0) ts))
theorem HF{k k2:Nat}(hk:env.blockKind = .function)(hs:env.scope=sc)(h:mQ sc ts vs=some r):Ue [.Tuple ts k p] (.Tuple vs k2 p2) env=pure r:=by
 unfold mQ at h;unfold Ue
 have e1:(vs.any λ|.Starred ..=>true |_=>false)=vs.any Bu:=by
  congr 1
 have e2:(ts.filterMap λ
   |.Name id pos=>if env.kindOf id == some .local && pos.line == ((ts.head?.map (·.pos.line)).getD 0) then some id else none
   | _=>none)=gI sc ((ts.head?.map (·.pos.line)).getD 0) ts:=by
  unfold gI Env.kindOf;rw[hs]
 have e3:(env.blockKind != .function)=false:=by rw[hk];rfl
 simp only[e3,X9];split at h
 ·rename_i c1;rw[if_pos c1];cases h;rfl
 rename_i c1;rw[if_neg c1];split at h
 ·rename_i c2;cases h;exact if_pos (e1.trans c2)
 rename_i c2;refine Eq.trans (if_neg λz=>c2 (e1.symm.trans z)) ?_;split at h
 ·rename_i c3;cases h;rw[<-e2] at c3;exact if_pos c3
 rename_i c3;rw[<-e2] at c3 h;refine Eq.trans (if_neg c3) ?_;split at h
 ·rename_i c4;cases h;exact if_pos c4
 rename_i c4;refine Eq.trans (if_neg c4) ?_;split at h
 ·cases h
 rename_i c5;cases h;exact if_neg c5
abbrev uS:Expr->Option (Scope × Pos)
 |.ListComp _ _ s p=>some (s,p)
 |.SetComp _ _ s p=>some (s,p)
 |.DictComp _ _ _ s p=>some (s,p)
 |_=>none
abbrev swW(sc:Scope)(v:Expr)(t:Str)(pos:Pos):Bool:=match uS v with
 |none=>false
 |some (s,p)=>sc.names.lookup t == some .local && pos.line == p.line && !(s.names.any λy=>y.1 == t && (y.2 == .local || y.2 == .cell))
theorem Bv{line:Nat}(hk:env.blockKind = .function)(hs:env.scope=sc):Uf v (some (.Name t pos)) line env=pure (swW sc v t pos):=by
 unfold Uf swW uS;have e3:(env.blockKind == .function)=true:=by rw[hk];rfl
 cases v <;> first |rfl |(simp only[e3,Xs,Env.kindOf,hs];rfl)
theorem mR{line:Nat}(h:∀x p,tg ≠ .Name x p):Ug [tg] v line env=pure false:=by
 show Uf v (some tg) line env=pure false;unfold Uf;cases v <;> first |rfl |(cases tg <;> first |rfl |(exact absurd rfl (h _ _)))
theorem i7(h:(∀es k p,v ≠ .Tuple es k p)\/(∃x p,tg = .Name x p)\/(∃o i p,tg = .Subscript o i p)):Ue [tg] v env=pure none:=by
 unfold Ue;rcases h with h |⟨x,p,rfl⟩ |⟨o,i,p,rfl⟩
 ·split
  ·rename_i e;split at e
   ·exact absurd rfl (h _ _ _)
   ·exact absurd rfl (h _ _ _)
   ·cases e
  ·rfl
 ·rfl
 ·rfl
abbrev nmL:List Expr->Option (List Str)
 |[]=>some []
 |e::es=>match Bc e,nmL es with
  |some r,some xs=>some (r.1::xs)
  |_,_=>none
theorem fR(h:nmL es=some (x::xs)):∃p es',es = .Name x p::es'/\nmL es'=some xs:=by
 cases es with
 |nil=>cases h
 |cons e es=>
  rw[nmL] at h;split at h
  ·rename_i r ys h1 h2;cases h;exact⟨_,es,by rw[qy h1],h2⟩
  ·cases h
theorem wy(h:nmL es=some []):es=[]:=by
 cases es with
 |nil=>rfl
 |cons e es=>
  rw[nmL] at h;split at h <;> cases h
abbrev tgL:List Tg->Option (List Nat)
 |[]=>some []
 |.name i::ts=>match tgL ts with
  |some is=>some (i::is)
  |none=>none
 |.tup _::_=>none
theorem Bw:∀ {ts:List Tg} {is:List Nat},tgL ts=some is->ts=is.map Tg.name
 |[],_,h=>by cases h;rfl
 |.name i::ts,is,h=>by
  rw[tgL] at h;cases e:tgL ts with
  |none=>rw[e] at h;cases h
  |some js=>rw[e] at h;cases h;rw[Bw e];rfl
 |.tup _::_,_,h=>by cases h
abbrev OC(b:Blk)(ns:List Str)(is:List Nat):Bool:=match ns with
 | [x,y]=>(match is with
  |[i,j]=>b.N[i]? == some x && b.N[j]? == some y && i != j && b.sc.names.lookup x == some .local && b.sc.names.lookup y == some .local
  | _=>false)
 | [x,y,z]=>(match is with
  |[i,j,l]=>b.N[i]? == some x && b.N[j]? == some y && b.N[l]? == some z && i != j && i != l && j != l && b.sc.names.lookup x == some .local && b.sc.names.lookup y == some .local && b.sc.names.lookup z == some .local
  | _=>false)
 |_=>false
abbrev QO(e:Expr):Bool:=jJ e λ_ _ _ _=>true
abbrev QP(e:Expr):Bool:=e.ctorIdx == 24
abbrev uT(T:Tab)(n:Nat)(b:Blk)(tg e:Expr)(t:Tg)(c:CE):Bool:=match t with
 | .name i=>(match Bc tg with
  |some r=>aH T n b e c && b.N[i]? == some r.1 && b.own r.1 && (!(swW b.sc e r.1 r.2) || (QO e && b.sc.names.lookup r.1 == some .local))
  | none=>false)
 | .tup gs=>(match si tg with
  | some r=>aH T n b e c && (match si e with
   | some q=>(match mQ b.sc r.1 q.1 with
    |some none=>mH b r.1 gs
    | some (some ns)=>(match tgL gs with
     |some is=>nmL r.1 == some ns && q.1.length == ns.length && OC b ns is
     | none=>false)
    | none=>false)
   | none=>!(QP e) && mH b r.1 gs)
  | none=>false)
abbrev wD(e:Stmt)(k:Option Expr->Pos->Bool):Bool:=if h:e.ctorIdx=3 then @Stmt.Return.elim (λ_=>Bool) e h k else false
theorem yI(h:wD e k=true):∃x0 x1,e = .Return x0 x1/\k x0 x1=true:=by
 obtain⟨h1,h⟩:=bO h;exact Stmt.Return.elim (motive_2:=λe=>∀h',@Stmt.Return.elim (λ_=>Bool) e h' k=true->∃x0 x1,e = .Return x0 x1/\k x0 x1=true) e h1 (λx0 x1 _ hh=>⟨x0,x1,rfl,hh⟩) h1 h
abbrev kZ(e:Stmt)(k:List Expr->Expr->Pos->Bool):Bool:=if h:e.ctorIdx=5 then @Stmt.Assign.elim (λ_=>Bool) e h k else false
theorem jN(h:kZ e k=true):∃x0 x1 x2,e = .Assign x0 x1 x2/\k x0 x1 x2=true:=by
 obtain⟨h1,h⟩:=bO h;exact Stmt.Assign.elim (motive_2:=λe=>∀h',@Stmt.Assign.elim (λ_=>Bool) e h' k=true->∃x0 x1 x2,e = .Assign x0 x1 x2/\k x0 x1 x2=true) e h1 (λx0 x1 x2 _ hh=>⟨x0,x1,x2,rfl,hh⟩) h1 h
abbrev OD(e:Stmt)(k:Expr->Expr->List Stmt->List Stmt->Pos->Bool):Bool:=if h:e.ctorIdx=9 then @Stmt.For.elim (λ_=>Bool) e h k else false
theorem Kj(h:OD e k=true):∃x0 x1 x2 x3 x4,e = .For x0 x1 x2 x3 x4/\k x0 x1 x2 x3 x4=true:=by
 obtain⟨h1,h⟩:=bO h;exact Stmt.For.elim (motive_2:=λe=>∀h',@Stmt.For.elim (λ_=>Bool) e h' k=true->∃x0 x1 x2 x3 x4,e = .For x0 x1 x2 x3 x4/\k x0 x1 x2 x3 x4=true) e h1 (λx0 x1 x2 x3 x4 _ hh=>⟨x0,x1,x2,x3,x4,rfl,hh⟩) h1 h
abbrev jIf(e:Stmt)(k:Expr->List Stmt->List Stmt->Pos->Bool):Bool:=if h:e.ctorIdx=12 then @Stmt.If.elim (λ_=>Bool) e h k else false
theorem OE(h:jIf e k=true):∃x0 x1 x2 x3,e = .If x0 x1 x2 x3/\k x0 x1 x2 x3=true:=by
 obtain⟨h1,h⟩:=bO h;exact Stmt.If.elim (motive_2:=λe=>∀h',@Stmt.If.elim (λ_=>Bool) e h' k=true->∃x0 x1 x2 x3,e = .If x0 x1 x2 x3/\k x0 x1 x2 x3=true) e h1 (λx0 x1 x2 x3 _ hh=>⟨x0,x1,x2,x3,rfl,hh⟩) h1 h
abbrev HG(e:Stmt)(k:Expr->Pos->Bool):Bool:=if h:e.ctorIdx=24 then @Stmt.Expr.elim (λ_=>Bool) e h k else false
theorem EV(h:HG e k=true):∃x0 x1,e = .Expr x0 x1/\k x0 x1=true:=by
 obtain⟨h1,h⟩:=bO h;exact Stmt.Expr.elim (motive_2:=λe=>∀h',@Stmt.Expr.elim (λ_=>Bool) e h' k=true->∃x0 x1,e = .Expr x0 x1/\k x0 x1=true) e h1 (λx0 x1 _ hh=>⟨x0,x1,rfl,hh⟩) h1 h
abbrev o4(e:Stmt)(k:Pos->Bool):Bool:=if h:e.ctorIdx=27 then @Stmt.Continue.elim (λ_=>Bool) e h k else false
theorem sG(h:o4 e k=true):∃x0,e = .Continue x0/\k x0=true:=by
 obtain⟨h1,h⟩:=bO h;exact Stmt.Continue.elim (motive_2:=λe=>∀h',@Stmt.Continue.elim (λ_=>Bool) e h' k=true->∃x0,e = .Continue x0/\k x0=true) e h1 (λx0 _ hh=>⟨x0,rfl,hh⟩) h1 h
abbrev qD(e:Expr):Bool:=e.ctorIdx == 8 || e.ctorIdx == 9 || e.ctorIdx == 10
abbrev Bx(k:Expr->Expr->Bool)(s:Stmt):Bool:=kZ s λts v _=>l1 ts λtg=>k tg v
abbrev HH(k l m:Expr->Bool)(s:Stmt):Bool:=kZ s λts z _=>l1 ts λtg=>c9 tg λx y _=>k z && l x && m y && aG y
abbrev Bz(e:Expr)(l m:Expr->Bool):Bool:=c9 e λx y _=>l x && m y && aG y
abbrev OG(k:Expr->Bool)(l m l' m':Expr->Bool)(b:Blk)(s:Stmt):Bool:=kZ s λts z _=>l1 ts λtg=>oA (si tg) λr=>lC r.1 λt1 t=>l1 t λt2=>oA (si z) λw=>k z && Bz t1 l m && Bz t2 l' m' && (match mQ b.sc r.1 w.1 with |some none=>true |_=>false)
abbrev zEx(k:Expr->Bool)(s:Stmt):Bool:=HG s λv _=>k v && !(qD v)
abbrev yJ(k:Expr->Bool)(s:Stmt):Bool:=wD s λv _=>oA v k
abbrev zIf(k:Expr->Bool)(l m:List Stmt->Bool)(s:Stmt):Bool:=jIf s λt p q _=>k t && l p && m q
abbrev OH(k:Expr->Expr->Bool)(l:List Stmt->Bool)(s:Stmt):Bool:=OD s λtg i p q _=>q.isEmpty && k tg i && l p
abbrev OI(s:Stmt):Bool:=o4 s λ_=>true
section
variable {s:Stmt} {k l m:Expr->Bool}
theorem qE{k:Expr->Expr->Bool}(h:Bx k s=true):∃tg v p,s = .Assign [tg] v p/\k tg v=true:=by
 obtain⟨ts,v,p,rfl,h⟩:=jN h;obtain⟨tg,rfl,h⟩:=ci h;exact⟨tg,v,p,rfl,h⟩
theorem EW(h:HH k l m s=true):∃x y q z p,s = .Assign [.Subscript x y q] z p/\k z=true/\l x=true/\m y=true/\aG y=true:=by
 obtain⟨ts,v,p,rfl,h⟩:=jN h;obtain⟨tg,rfl,h⟩:=ci h;obtain⟨x,y,q,rfl,h⟩:=cS h;exact⟨x,y,q,v,p,rfl,an4 h⟩
theorem BA(h:Bz e l m=true):∃x y q,e = .Subscript x y q/\l x=true/\m y=true/\aG y=true:=by
 obtain⟨x,y,q,rfl,h⟩:=cS h;exact⟨x,y,q,rfl,an3 h⟩
theorem Kk(h:OG k l m l' m' b s=true):∃t1 t2 kt pt es ke pe p,s = .Assign [.Tuple [t1,t2] kt pt] (.Tuple es ke pe) p/\k (.Tuple es ke pe)=true/\Bz t1 l m=true/\Bz t2 l' m'=true/\mQ b.sc [t1,t2] es=some none:=by
 obtain⟨ts,z,p,rfl,h⟩:=jN h;obtain⟨tg,rfl,h⟩:=ci h;obtain⟨⟨r1,r2,r3⟩,hr,h⟩:=jK h;obtain⟨t1,t,e1,h⟩:=bQ h;obtain⟨t2,e2,h⟩:=ci h;obtain⟨⟨w1,w2,w3⟩,hw,h⟩:=jK h;obtain⟨h1,h2,h3,h4⟩:=an4 h;have e1:r1=t1::t:=e1;subst e2;subst e1;rw[iX hr];rw[iX hw] at h1 ⊢;refine⟨t1,t2,r2,r3,w1,w2,w3,p,rfl,h1,h2,h3,?_⟩;have h4:(match mQ b.sc [t1,t2] w1 with |some none=>true |_=>false)=true:=h4;split at h4
 ·rename_i e;exact e
 ·cases h4
theorem HI(h:zEx k s=true):∃v p,s = .Expr v p/\k v=true/\qD v=false:=by
 obtain⟨v,p,rfl,h⟩:=EV h;obtain⟨h1,h2⟩:=an2 h;exact⟨v,p,rfl,h1,by cases e:qD v;rfl;rw[e] at h2;cases h2⟩
theorem mS(h:yJ k s=true):∃v p,s = .Return (some v) p/\k v=true:=by
 obtain⟨v,p,rfl,h⟩:=yI h;obtain⟨v,rfl,h⟩:=jK h;exact⟨v,p,rfl,h⟩
theorem BB{l m:List Stmt->Bool}(h:zIf k l m s=true):∃t p q r,s = .If t p q r/\k t=true/\l p=true/\m q=true:=by
 obtain⟨t,p,q,r,rfl,h⟩:=OE h;exact⟨t,p,q,r,rfl,an3 h⟩
theorem Kl{k:Expr->Expr->Bool}{l:List Stmt->Bool}(h:OH k l s=true):∃tg i p q,s = .For tg i p [] q/\k tg i=true/\l p=true:=by
 obtain⟨tg,i,p,q,r,rfl,h⟩:=Kj h;obtain⟨h1,z0⟩:=an3 h;cases cv h1;exact⟨tg,i,p,r,rfl,z0⟩
theorem Km(h:OI s=true):∃p,s = .Continue p:=by obtain⟨p,rfl,_⟩:=sG h;exact⟨p,rfl⟩
end
mutual
noncomputable def Kn(T:Tab):Nat->Blk->Stmt->CS->Bool
 |0,_,_,_=>false
 |n+1,b,s,c=>match c with
  |.asg t e=>Bx (λtg v=>uT T n b tg v t e) s
  |.setI v o i=>HH (λx=>aH T n b x v) (λx=>aH T n b x o) (λx=>aH T n b x i) s
  |.swp v o i q j=>OG (λx=>aH T n b x v) (λx=>aH T n b x o) (λx=>aH T n b x i) (λx=>aH T n b x q) (λx=>aH T n b x j) b s
  |.ex e=>zEx (λx=>aH T n b x e) s
  |.ret e=>yJ (λx=>aH T n b x e) s
  |.ifs c x y=>zIf (λe=>fD T n b e c) (λp=>o5 T n b p x) (λp=>o5 T n b p y) s
  |.for_ t it x=>OH (λtg i=>su T n b tg i it && uI b tg t) (λp=>o5 T n b p x) s
  |.cnt=>OI s
  |.never=>true
noncomputable def o5(T:Tab):Nat->Blk->List Stmt->List CS->Bool
 |0,_,_,_=>false
 |n+1,b,ss,cs=>match cs with
  |[]=>ss.isEmpty
  |c::cs=>lC ss λs ss=>Kn T n b s c && o5 T n b ss cs
end
section
variable {T:Tab} {C:Calls} {ar:Nat->Nat} {k n:Nat} {b:Blk} {X:Cx}
theorem EX{k':Nat}(h:aH T (n+1) b (.Tuple es k' p) (.tup cs)=true):dj T n b es cs=true:=h
theorem BC{k':Nat}(h:aH T (n+1) b (.Tuple es k' p) c=true):∃cs,c = .tup cs:=by
 cases c with
 |tup cs=>exact⟨cs,rfl⟩
 |comp own elt cls=>
  cases cls with
  |nil=>exact absurd h Zd
  |cons g rest=>obtain⟨tg,it,cond⟩:=g;exact absurd h Zd
 |_=>exact absurd h Zd
theorem io:∀ (ts:List Tg) (ds:List D) (ρ ρ':Rho),aK ts ds ρ=some ρ'->ts.length=ds.length
 |[],[],_,_,_=>rfl
 |[],_::_,_,_,e=>by simp[aK] at e
 |_::_,[],_,_,e=>by simp[aK] at e
 |t::ts,d::ds,ρ,ρ',e=>by
  simp only[aK] at e;split at e
  ·simp[io _ _ _ _ e]
  ·cases e
theorem sH{K:W6}{x:XA}{ts:List Tg}{D:Ends}{σ:L2.St}{H:Hp}(h:tSt K (mv (kJ kK x) (.tup ts)) D σ H):tAr K x σ H λvs H1=>∃m1 ρ ρ' ds,EnvR K m1 H1 ρ σ/\VDs K m1 H1 ds vs/\aK ts ds ρ=some ρ'/\∀σ',EnvR K m1 H1 ρ' σ'->D.nx σ' H1:=by
 obtain⟨m,ρ,S,fl,ρ',S',E,R,e,q⟩:=h;unfold mv at e;cases hx:kJ kK x ρ S with
 |none=>rw[hx] at e;cases e
 |some r=>
  rw[hx] at e;obtain⟨ds,S1,e1,e2⟩:=ai hx;unfold kK at e2;split at e2
  ·cases e2;dsimp only at e;simp only[aA] at e;cases hb:aK ts ds ρ with
   |none=>rw[hb] at e;cases e
   |some ρ1=>
    rw[hb] at e;cases e;exact⟨m,ρ,S,ds,_,E,R,e1,λm1 H1 vs A1 vd=>⟨m1,ρ,_,ds,E.mono R A1.ext,vd,hb,λσ' E'=>q m1 H1 A1 σ' E'⟩⟩
  ·cases e2
theorem sI{K:W6}{x:XA}{σ:L2.St}{H:Hp}{Q Q':List V->Hp->Prop}(h:tAr K x σ H Q)(f:∀v H',Q v H'->Q' v H'):tAr K x σ H Q':=by
 show 1;exact⟨m,ρ,S,d,S',E,R,e,λm' H' v A vd=>f _ _ (q m' H' v A vd)⟩
theorem mU{ρ ρ':Rho}{i:Nat}{d:D}(h:(if i < ρ.length then some (ρ.set i (some d)) else none)=some ρ'):ρ'=ρ.set i (some d):=by
 split at h
 ·cases h;rfl
 ·cases h
theorem EY{K:W6}{x:XA}{i j:Nat}{D:Ends}{σ:L2.St}{H:Hp}(h:tSt K (mv (kJ kK x) (.tup [.name i,.name j])) D σ H):Nu i j (tAr K x) D σ H:=by
 refine sI (sH h) λvs H1 q10=>?_;obtain⟨m1,ρ,ρ',ds,E,vd,e,q⟩:=q10;have hl:=io _ _ _ _ e
 match ds,hl with
 |[a,c],_=>
  obtain⟨v,w,rfl,va,vc⟩:=um vd;refine⟨v,w,rfl,q _ ?_⟩;simp only[aK,aA] at e;split at e
  ·rename_i r1 h1;have:=mU h1;subst this;split at e
   ·rename_i r2 h2;have:=mU h2;subst this;cases e;exact(E.set va).set vc
   ·cases e
  ·cases e
theorem QQ{K:W6}{m:List Addr}{H:Hp}{a b c:D}{vs:List V}(h:VDs K m H [a,b,c] vs):∃v w z,vs=[v,w,z]/\VD K m H a v/\VD K m H b w/\VD K m H c z:=by
 rw[VDs] at h;obtain⟨v,r,rfl,p,q⟩:=h;obtain⟨w,z,rfl,p',q'⟩:=um q;exact⟨v,w,z,rfl,p,p',q'⟩
theorem EZ{K:W6}{x:XA}{i j l:Nat}{D:Ends}{σ:L2.St}{H:Hp}(h:tSt K (mv (kJ kK x) (.tup [.name i,.name j,.name l])) D σ H):Hq i j l (tAr K x) D σ H:=by
 refine sI (sH h) λvs H1 q10=>?_;obtain⟨m1,ρ,ρ',ds,E,vd,e,q⟩:=q10;have hl:=io _ _ _ _ e
 match ds,hl with
 |[a,c,d],_=>
  obtain⟨v,w,z,rfl,va,vc,vd'⟩:=QQ vd;refine⟨v,w,z,rfl,q _ ?_⟩;simp only[aK,aA] at e;split at e
  ·rename_i r1 h1;have:=mU h1;subst this;split at e
   ·rename_i r2 h2;have:=mU h2;subst this;split at e
    ·rename_i r3 h3;have:=mU h3;subst this;cases e;exact((E.set va).set vc).set vd'
    ·cases e
   ·cases e
  ·cases e
theorem BD(h:aH T (n+1) b (.ListComp e gs scope p) c=true):∃own elt tg it cond rest t i ifs gs',c = .comp own elt (⟨tg,it,cond⟩::rest)/\gs=⟨t,i,ifs,0⟩::gs' ∧
  cmB own (mG own b.N) b.N scope b.sc=true/\su T n b t i it=true/\uI (b.inner own scope) t tg=true/\Bl (fD T n (b.inner own scope)) ifs cond=true/\oW T n (b.inner own scope) e gs' elt rest=true:=by
 cases c with
 |comp own elt cls=>
  ·obtain⟨tg,it,cond,rest,rfl,hc⟩:=HE h;obtain⟨el,t,i,ifs,gs',scope',p',he,hh⟩:=wt hc;cases he;obtain⟨h0,h1,h2,h3,h4⟩:=an5 hh;exact⟨own,elt,tg,it,cond,rest,t,i,ifs,gs',rfl,rfl,h0,h1,h2,h3,h4⟩
 |_=>exact absurd h Zd
end
section
variable {T:Tab} {C:Calls} {ar:Nat->Nat} {k n:Nat} {b:Blk} {X:Cx}
theorem qF(h:X.env.scope.kind = .function):X.env.blockKind = .function:=by
 unfold Env.blockKind;rw[h];rfl
theorem E5{α:Type}{l:List α}(h:l.length=2):∃a b,l=[a,b]:=by
 match l,h with
 |[a,b],_=>exact⟨a,b,rfl⟩
theorem yK{α:Type}{l:List α}(h:l.length=3):∃a b c,l=[a,b,c]:=by
 match l,h with
 |[a,b,c],_=>exact⟨a,b,c,rfl⟩
theorem Ko(G:CtxOk T C ar k b X)(hk:X.env.scope.kind = .function){tg e:Expr}{t:Tg}{c:CE}{p:Pos}(h:uT T n b tg e t c=true):PS X (.Assign [tg] e p) (tSt X.K (mv (evE C ar n c) t)):=by
 have hb:=qF hk;unfold uT at h;cases t with
 |name i=>
  dsimp only at h;cases hx:Bc tg with
  |none=>rw[hx] at h;cases h
  |some r=>
  obtain⟨x,px⟩:=r;rw[hx] at h;rw[qy hx];simp only[bAE] at h;obtain⟨⟨⟨h1,h2⟩,h3⟩,h4⟩:=h;have hi:X.N[i]?=some x:=by rw[G.hN];simpa using h2
  have nd:X.N.Nodup:=by rw[G.hN];exact G.nd
  have o:=G.own h3;have sw:=Bv (sc:=b.sc) (v:=e) (t:=x) (pos:=px) (line:=p.line) hb G.hs;cases hw:swW b.sc e x px with
  |false=>
   rw[hw] at sw;exact PS.imp (IJ nd hi o.1 ((snd n).e b X e c G h1) sw o.2) λD σ H q=>qB (uG q) λv H' z=>qt z
  |true=>
   rw[hw] at h4 sw;simp only[Bool.not_true,Bool.false_or,bAE] at h4;obtain⟨h5,h4⟩:=h4;obtain⟨el,gs,scope,pp,rfl,_⟩:=kl h5
   ·cases n with
    |zero=>exact absurd h1 Zd
    |succ n=>
     obtain⟨own,elt,tg',it,cond,rest,tt,ii,ifs,gs',rfl,rfl,c0,c1,c2,c3,c4⟩:=BD h1;have S:CmScope own (mG own b.N) b.N scope b.sc:=zZ _ c0;have S':CmScope own (mG own b.N) X.N scope X.env.scope:=by rw[G.hN,G.hs];exact S
     have hpl:=gG c1 (λe he env=>eV he) X.env;have hx:X.env.scope.names.lookup x=some .local:=by rw[G.hs];simpa using h4
     refine PS.imp (DX (g:=tTg X.K tg') (ti:=ifT C ar n X.K cond) (t:=λacc=>tCl X.K acc (gQ C ar n elt rest)) G.calm S' nd hi hx ((snd n).i [] b X tt ii it G c1) (λC' ex s H=>gH (G.inner S (C':=C') (ex:=ex) (s:=s) (H:=H)) c2) (λC' ex s H=>mP (snd n) (G.inner S (C':=C') (ex:=ex) (s:=s) (H:=H)) c3)
      (λC' ex s H acc=>(snd n).cl _ _ el gs' elt rest (G.inner S (C':=C') (ex:=ex) (s:=s) (H:=H)) c4 _ scope pp acc 0 rfl) sw hpl) λD σ H q=>?_
     exact wm (λacc D σ H z=>uR z) (rJ (qB (uG q) λv H' z=>qt z))
 |tup gs=>
  dsimp only at h;cases hx:si tg with
  |none=>rw[hx] at h;cases h
  |some r=>
  obtain⟨ts,kt,pt⟩:=r;rw[hx] at h;rw[iX hx];simp only[bAE] at h;obtain⟨h1,h3⟩:=h;have so:Ug [.Tuple ts kt pt] e p.line X.env=pure false:=mR λx p z=>nomatch z
  have plain:∀ (hw:Ue [.Tuple ts kt pt] e X.env=pure none) (hg:mH b ts gs=true),PS X (.Assign [.Tuple ts kt pt] e p) (tSt X.K (mv (evE C ar n c) (.tup gs))):=λhw hg=>
   PS.imp (ju ((snd n).e b X e c G h1) (gH G (e:=.Tuple ts kt pt) (t:=.tup gs) hg) so hw rfl) λD σ H q=>uG q
  cases hy:si e with
  |none=>
   rw[hy] at h3;simp only[bAE] at h3;exact plain (i7 (.inl λes k p z=>by rw[z] at hy;cases hy)) h3.2
  |some q=>
   obtain⟨es,ke,pe⟩:=q;rw[hy] at h3;obtain rfl:=iX hy;cases n with
   |zero=>exact absurd h1 Zd
   |succ n=>
    obtain⟨cs,rfl⟩:=BC h1;have ha:=EX h1;dsimp only at h3;cases hr:mQ b.sc ts es with
    |none=>rw[hr] at h3;cases h3
    |some w=>
     have hw:=HF (k:=kt) (p:=pt) (k2:=ke) (p2:=pe) hb G.hs hr;rw[hr] at h3;cases w with
     |none=>exact plain hw h3
     |some ns=>
      dsimp only at h3;cases ht:tgL gs with
      |none=>rw[ht] at h3;cases h3
      |some is=>
       rw[ht] at h3;simp only[bAE] at h3;obtain⟨⟨hn0,hl0⟩,h3⟩:=h3;have hn:nmL ts=some ns:=by simpa using hn0
       have hl:es.length=ns.length:=by simpa using hl0
       clear hn0 hl0;obtain rfl:=Bw ht;unfold OC at h3;split at h3
       ·rename_i x y;split at h3
        ·rename_i i j;obtain⟨p1,t1,rfl,hn1⟩:=fR hn;obtain⟨p2,t2,rfl,hn2⟩:=fR hn1;obtain rfl:=wy hn2;obtain⟨a1,a2,rfl⟩:=E5 hl;simp only[bAE] at h3;obtain⟨⟨⟨⟨q2,q3⟩,q4⟩,q5⟩,q6⟩:=h3;exact PS.imp (IK (i:=i) (j:=j) G.calm (by rw[G.hN];exact G.nd) (by rw[G.hN];simpa using q2) (by rw[G.hN];simpa using q3) (by simpa using q4) (by rw[G.hs];simpa using q5) (by rw[G.hs];simpa using q6) ((snd n).a b X _ cs G ha) hw so) λD σ H q=>EY q
        ·cases h3
       ·rename_i x y z;split at h3
        ·rename_i i j l;obtain⟨p1,t1,rfl,hn1⟩:=fR hn;obtain⟨p2,t2,rfl,hn2⟩:=fR hn1;obtain⟨p3,t3,rfl,hn3⟩:=fR hn2;obtain rfl:=wy hn3;obtain⟨a1,a2,a3,rfl⟩:=yK hl;simp only[bAE] at h3;obtain⟨⟨⟨⟨⟨⟨⟨⟨q2,q3⟩,q3'⟩,q4⟩,q4'⟩,q4''⟩,q5⟩,q6⟩,q7⟩:=h3;exact PS.imp (D3 (i:=i) (j:=j) (k:=l) G.calm (by rw[G.hN];exact G.nd) (by rw[G.hN];simpa using q2) (by rw[G.hN];simpa using q3) (by rw[G.hN];simpa using q3') (by simpa using q4) (by simpa using q4') (by simpa using q4'') (by rw[G.hs];simpa using q5) (by rw[G.hs];simpa using q6) (by rw[G.hs];simpa using q7) ((snd n).a b X _ cs G ha) hw so) λD σ H q=>EZ q
        ·cases h3
       ·cases h3
theorem sJ{line:Nat}(h:qD v=false):Uf v none line X.env=pure false:=by
 unfold Uf;cases v <;> first |rfl |(exact absurd h (λz=>Zd z.symm))
structure SndS(T:Tab)(C:Calls)(ar:Nat->Nat)(k n:Nat):Prop where
 s:∀ (b:Blk) (X:Cx) (s:Stmt) (c:CS),CtxOk T C ar k b X->X.env.scope.kind = .function->Kn T n b s c=true->PS X s (tSt X.K (evS C ar n c))
 ss:∀ (b:Blk) (X:Cx) (s:List Stmt) (c:List CS),CtxOk T C ar k b X->X.env.scope.kind = .function->o5 T n b s c=true->PSs X s (tSt X.K (fE C ar n c))
theorem OJ{K:W6}{D:Ends}{σ:L2.St}{H:Hp}(h:tSt K EU D σ H):False:=by
 obtain⟨m,ρ,S,fl,ρ',S',E,R,e,q⟩:=h;cases e
theorem Kq:∀n,SndS T C ar k n
 |0=>⟨λb X s c _ _ h=>absurd h Zd,λb X s c _ _ h=>absurd h Zd⟩
 |n+1=>by
  have ih:=Kq n;refine⟨λb X s c G hk h=>?_,λb X ss cs G hk h=>?_⟩
  ·have hp:PassesOwn (model X.prog X.w) X.A X.env X.xe:=by rw[G.xe];exact PassesOwn.never
   cases c with
   |asg t e=>obtain⟨tg,v,p,rfl,h1⟩:=qE h;exact Ko G hk h1
   |setI v o i=>
    obtain⟨x,y,px,z,p,rfl,h1,h2,h3,pl⟩:=EW h
    exact PS.imp (ju ((snd n).e b X z v G h1) (tQ ((snd n).e b X x o G h2) ((snd n).e b X y i G h3) AE (λv=>by
     cases y <;> first | rfl | (exact absurd pl Zd))) (mR λx p z=>nomatch z) (i7 (.inr (.inr ⟨_,_,_,rfl⟩))) rfl) λD σ H q=>Eu q
   |swp v o i q j=>
    obtain⟨t1,t2,kt,pt,es,ke,pe,p,rfl,h1,h2,h3,h4⟩:=Kk h;obtain⟨x1,y1,q1,rfl,a1,a2,pl1⟩:=BA h2;obtain⟨x2,y2,q2,rfl,b1,b2,pl2⟩:=BA h3;have hb:=qF hk
    exact PS.imp (ju ((snd n).e b X _ v G h1) (zx G.calm (ls (tQ ((snd n).e b X x1 o G a1) ((snd n).e b X y1 i G a2) AE (λv=>by
     cases y1 <;> first | rfl | (exact absurd pl1 Zd))) (ls (tQ ((snd n).e b X x2 q G b1) ((snd n).e b X y2 j G b2) AE (λv=>by
     cases y2 <;> first | rfl | (exact absurd pl2 Zd))) vP))) (mR λx p z=>nomatch z) (HF hb G.hs h4) rfl) λD σ H q=>JZ q
   |ex e=>obtain⟨v,p,rfl,h1,h2⟩:=HI h;exact PS.imp (vL ((snd n).e b X v e G h1) (sJ h2)) λD σ H q=>Et q
   |ret e=>obtain⟨v,p,rfl,h1⟩:=mS h;exact PS.imp (tP ((snd n).e b X _ _ G h1)) λD σ H q=>JX q
   |ifs c x y=>obtain⟨t,p,q,r,rfl,h1,h2,h3⟩:=BB h;exact PS.imp (vM ((snd n).t b X _ _ G h1) (ih.ss b X _ _ G hk h2) (ih.ss b X _ _ G hk h3)) λD σ H q=>Om q
   |for_ t it x=>
    obtain⟨tg,i,p,pos,rfl,h1,h2⟩:=Kl h;have h1:=an2 h1;exact PS.imp (IM hp G.calm ((snd n).i [] b X _ _ _ G h1.1) (gH G h1.2) (ih.ss b X _ _ G hk h2) (gG h1.1 (λe he env=>eV he) X.env)) λD σ H q=>J0 q
   |cnt=>obtain⟨p,rfl⟩:=Km h;exact PS.imp qZ λD σ H q=>JY q
   |never=>exact PS.imp rd λD σ H q=>(OJ q).elim
  ·cases cs with
   |nil=>rw[cv h];exact PSs.imp iP λD σ H q=>Es q
   |cons c cs=>
    obtain⟨s,ss,rfl,h⟩:=bQ h;have h:=an2 h;exact PSs.imp (bE (ih.s b X s c G hk h.1) (ih.ss b X ss cs G hk h.2)) λD σ H q=>JW q
end
abbrev wIs(b:Blk)(x:Str)(e:Expr):Bool:=qz b "isinstance" (fk λy=>b.N[0]? == some y && b.vis y) (fk λy=>y == x && b.glo y) e
abbrev uU(k:Str->Expr->Bool):List Str->List Expr->Bool
 |[],es=>es.isEmpty
 |x::xs,es=>lC es λe es=>aG e && k x e && uU k xs es
abbrev wV(b:Blk)(i:Nat)(e:Expr):Bool:=fk (λy=>b.N[i]? == some y && b.vis y) e
abbrev wTg(b:Blk)(i:Nat)(e:Expr):Bool:=fk (λy=>b.N[i]? == some y && b.own y) e
abbrev wMt(b:Blk)(m:Str)(e:Expr):Bool:=yH m (wV b 1) (λes=>l1 es λe=>sBl true e) e
abbrev wG(b:Blk)(cs:List Str)(s:Stmt):Bool:=Bx (λtg v=>wTg b 1 tg && EG .Add (wV b 1) (uJ (uU (wIs b) cs)) v) s
abbrev OK(b:Blk)(cs:List Str)(s:Stmt):Bool:=Bx (λtg v=>wTg b 1 tg && uJ (uU (wIs b) cs) v) s
abbrev OL(b:Blk)(s:Stmt):Bool:=zIf (yG .Or (EI .NotEq (wMt b "count") (yE 1)) (EH (wIs b "ValueError"))) (λss=>l1 ss λs=>yJ (yF "other") s) (λss=>ss.isEmpty) s
abbrev OM(b:Blk)(ws:List Str)(s:Stmt):Bool:=Bx (λtg v=>wTg b 2 tg && uJ (uU yF ws) v) s
abbrev OO(b:Blk)(ws:List Str)(s:Stmt):Bool:=yJ (sIx (EG .Add (wV b 2) (uJ (uU yF ws))) (wMt b "index")) s
abbrev sK(b:Blk)(cs ws:List Str)(ss:List Stmt):Bool:=
 ie b.N && b.N.length == 3 && b.glo "isinstance" && lC ss λs1 ss=>lC ss λs2 ss=>lC ss λs3 ss=>lC ss λs4 ss=>lC ss λs5 ss=>lC ss λs6 ss=>l1 ss λs7=>
  OK b (cs.take 4) s1 && wG b ((cs.drop 4).take 4) s2 && wG b ((cs.drop 8).take 4) s3 && wG b (cs.drop 12) s4 && OL b s5 && (OM b (ws.take 12) s6 && OO b (ws.drop 12) s7)
def gR(H H2:Hp):Prop:=∀p o,H p=some o->H2 p=some o
theorem gR.upd(h:H p=none):gR H (L2.upd H p o):=λq u e=>by rw[aE (aO e h)];exact e
theorem gR.trans(a:gR H H1)(b:gR H1 H2):gR H H2:=λp o e=>b p o (a p o e)
section
variable {X:Cx}
theorem yL:MtR X "list.count" (λx vs H Q=>∃l xs y,x = .ref l/\vs=[y]/\H l=some (.lst xs)/\bK y=true/\xs.all bK=true/\Q (.int ((xs.countP λz=>eqV z y:Nat):Int)) H):=by
 intro pins s σ H x vs v us Q I rx rv h;obtain⟨p,xs,y,rfl,rfl,hq,fy,fs,q⟩:=h;cases rx;obtain⟨u,rfl,ru⟩:=rv.one;obtain⟨_,its,n,r,e⟩:=I.hok p _ hq;refine VC WE ⟨_,e,rfl⟩ PySem.F.entry_list_count (PySem.F.args_list_count_2 _ _) (SeqAt.list_countAt p its.toArray n none #[] u (eqU y)) ⟨e,λw hw=>cB ru fy r fs w (by simpa using hw),?_⟩;refine⟨.int _,H,I.tok _,⟨_,rfl⟩,?_⟩
 have z:(its.toArray.toList.countP (eqU y))=xs.countP λz=>eqV z y:=by
  rw[Xm];exact ig r fs
 rw[z];exact q
theorem yM:MtR X "list.index" (λx vs H Q=>∃l xs y,∃j:Nat,∃z,x = .ref l/\vs=[y]/\H l=some (.lst xs)/\bK y=true/\xs.all bK=true/\j < 100/\xs[j]?=some z/\eqV z y=true/\(∀ (m:Nat) z,m < j->xs[m]?=some z->eqV z y=false)/\Q (.int (j:Int)) H):=by
 intro pins s σ H x vs v us Q I rx rv h;obtain⟨p,xs,y,j,z,rfl,rfl,hq,fy,fs,hj,hz,hit,hno,q⟩:=h;cases rx;obtain⟨u,rfl,ru⟩:=rv.one;obtain⟨_,its,n,r,e⟩:=I.hok p _ hq
 have at_:∀m (hm:m < its.toArray.size),∃w,xs[m]?=some w/\eqU y its.toArray[m]=eqV w y:=λm hm=>by
  have hm':m < xs.length:=by rw[r.length];simpa using hm
  obtain⟨u',hu,rr⟩:=r.get (i:=m) (gEG hm');refine⟨xs[m],gEG hm',?_⟩
  have e1:its.toArray[m]=u':=by
   have:=Zc.mp hu;obtain⟨_,z⟩:=this
   simpa using z
  rw[e1];exact pX rr (ZJ.mp fs _ (Zy hm'))
 have hjs:j < its.toArray.size:=by have:=(Zc.mp hz).1;rw[r.length] at this;simpa using this
 refine VC WF ⟨_,e,rfl⟩ PySem.F.entry_list_index (PySem.F.args_list_index_2 _ _) (SeqAt.list_indexAt p its.toArray n none #[] u (eqU y) j hjs (by lia) ?_ ?_) ⟨e,λw hw=>cB ru fy r fs w (by simpa using hw),?_⟩
 ·obtain⟨w,hw,e1⟩:=at_ j hjs;rw[hz] at hw;cases hw;rw[e1];exact hit
 ·intro m hm hlt;obtain⟨w,hw,e1⟩:=at_ m hm;rw[e1];exact hno m w hlt hw
 ·exact⟨.int _,H,I.tok _,⟨_,rfl⟩,q⟩
end
section
variable {X:Cx} {b:Blk} {a C R:Addr}
theorem sL(hs:X.env.scope=b.sc)(h:b.glo x=true):Gl X x/\(x == ("__debug__" : Str))=false:=by
 unfold Blk.glo at h;rw[bAE] at h;refine⟨?_,by simpa using h.2⟩;show X.env.scope.names.lookup x=_;rw[hs]
 simpa using h.1
theorem mV(hs:X.env.scope=b.sc)(hN:X.N=b.N){i:Nat}(h:wV b i e=true):PE X e (Dt i):=by
 obtain⟨x,p,rfl,hh⟩:=b8 h;obtain⟨h1,h2⟩:=an2 hh;unfold Blk.vis at h2;rw[bAE,bAE] at h2;refine tO (i:=i) (by rw[hN];exact eq_of_beq h1) ?_ (by simpa using h2.1.2) (by simpa using h2.2);unfold Vis;rw[hs];have h3:=h2.1.1;split at h3
 ·rename_i e;exact .inl e
 ·rename_i e;exact .inr (.inl e)
 ·rename_i e;exact .inr (.inr e)
 ·cases h3
theorem BE(hC:bv X.base C (.ref R::bmV))(hR:bv X.base R bmV):aP X (.builtin "isinstance") (λxs H Q=>∃D,xs=[.ref a,.ref D]/\H a=some (exO a C)/\oY X.base D/\D ≠ R/\Q (.bl (C == D)) H):=by
 intro pins s σ H xs us Q I rs h;obtain⟨D,rfl,ha,⟨dd,cd,sl,hD⟩,hr,q⟩:=h;cases rs with
 |cons r1 rs=>
  cases rs with
  |cons r2 rs=>
   cases rs;cases r1;cases r2;exact isx (hC.keeps I.bk) (hR.keeps I.bk) (I.hok a _ ha).1 ⟨dd,cd,sl,I.bk _ _ hD⟩ hr λtk=>⟨.bl _,H,I.tok _,rfl,q⟩
theorem BF(hC:bv X.base C (.ref R::bmV))(hR:bv X.base R bmV):aP X (.builtin "isinstance") (λxs H Q=>xs=[.ref a,.ty "ValueError"]/\H a=some (exO a C)/\Q (.bl true) H):=by
 intro pins s σ H xs us Q I rs h;obtain⟨rfl,ha,q⟩:=h;cases rs with
 |cons r1 rs=>
  cases rs with
  |cons r2 rs=>
   cases rs;cases r1;cases r2;exact isv (hC.keeps I.bk) (hR.keeps I.bk) (I.hok a _ ha).1 λtk=>⟨.bl _,H,I.tok _,rfl,q⟩
theorem QR(hs:X.env.scope=b.sc)(hN:X.N=b.N)(hb:X.mg "isinstance" = none)(hC:bv X.base C (.ref R::bmV))(hR:bv X.base R bmV){x:Str}{D:Addr}{e:Expr}(hm:X.mg x=some (.ref D))(h:wIs b x e=true) :
  PE X e (λσ H Q=>σ[0]?=some (some (.ref a))/\H a=some (exO a C)/\oY X.base D/\D ≠ R/\Q (.bl (C == D)) H):=by
 obtain⟨x1,y,p,p',rfl,h2,h5,h6,h7,_⟩:=eD h;obtain⟨y,p'',rfl,h8⟩:=b8 h7;obtain⟨h3,h4⟩:=an2 h8;have hy:=eq_of_beq h3;subst hy;exact PE.imp (ef (BE (a:=a) hC hR) (sL hs h2).1 hb Wm (b9 (mV hs hN h5) (bz (kO (v:=.ref D) (sL hs h4).1 hm rfl (sL hs h4).2) rfl) h6) (by decide) (sL hs h2).2 (am h6) rfl) λσ H Q q=>⟨_,q.1,D,rfl,q.2.1,q.2.2.1,q.2.2.2.1,q.2.2.2.2⟩
theorem OP(hs:X.env.scope=b.sc)(hN:X.N=b.N)(hb:X.mg "isinstance" = none)(hv:X.mg "ValueError" = none)(hC:bv X.base C (.ref R::bmV))(hR:bv X.base R bmV)(h:wIs b "ValueError" e=true) :
  PE X e (λσ H Q=>σ[0]?=some (some (.ref a))/\H a=some (exO a C)/\Q (.bl true) H):=by
 obtain⟨x1,y,p,p',rfl,h2,h5,h6,h7,_⟩:=eD h;obtain⟨y,p'',rfl,h8⟩:=b8 h7;obtain⟨h3,h4⟩:=an2 h8;have hy:=eq_of_beq h3;subst hy;exact PE.imp (ef (BF (a:=a) hC hR) (sL hs h2).1 hb Wm (b9 (mV hs hN h5) (bz (gz (v:=.ty "ValueError") (sL hs h4).1 hv PyProof.Rows.Boot.«ValueError» rfl (by decide) (sL hs h4).2) rfl) h6) (by decide) (sL hs h2).2 (am h6) rfl) λσ H Q q=>⟨_,q.1,rfl,q.2.1,q.2.2⟩
inductive Cls2(X:Cx)(R:Addr):List Str->List Addr->Prop
 |nil:Cls2 X R [] []
 |cons {x:Str} {D:Addr} {xs:List Str} {Ds:List Addr}:X.mg x=some (.ref D)->oY X.base D->D ≠ R->Cls2 X R xs Ds->Cls2 X R (x::xs) (D::Ds)
theorem BG(hs:X.env.scope=b.sc)(hN:X.N=b.N)(hb:X.mg "isinstance" = none)(hC:bv X.base C (.ref R::bmV))(hR:bv X.base R bmV):∀ {cs:List Str} {Ds:List Addr} {es:List Expr},Cls2 X R cs Ds->uU (wIs b) cs es=true ->
  PA X es (λσ H Q=>σ[0]?=some (some (.ref a))/\H a=some (exO a C)/\Q (Ds.map λD=>.bl (C == D)) H)
 |_,_,es,.nil,h=>by rw[cv h];exact PA.imp pS λσ H Q q=>q.2.2
 |_,_,es,.cons h1 h2 h3 t,h=>by
  obtain⟨e,es,rfl,h⟩:=bQ h;obtain⟨p1,p2,p3⟩:=an3 h;exact PA.imp (b9 (QR hs hN hb hC hR h1 p2) (BG hs hN hb hC hR t p3) p1) λσ H Q q=>⟨q.1,q.2.1,h2,h3,q.1,q.2.1,q.2.2⟩
theorem uV:∀ {ws:List Str} {es:List Expr},uU yF ws es=true->PA X es (λσ H Q=>Q (ws.map V.str) H)
 |[],es,h=>by rw[cv h];exact PA.imp pS λσ H Q q=>q
 |w::ws,es,h=>by
  obtain⟨e,es,rfl,h⟩:=bQ h;obtain⟨p1,p2,p3⟩:=an3 h;obtain⟨_,_,rfl⟩:=uL p2;exact PA.imp (b9 pR (uV p3) p1) λσ H Q q=>q
theorem Kr(hs:X.env.scope=b.sc)(hN:X.N=b.N)(hf:X.fn=λ_=>true)(hnd:b.N.Nodup){i:Nat}(h:wTg b i e=true):∃x p,e = .Name x p/\PG X e (om i):=by
 obtain⟨x,p,rfl,hh⟩:=b8 h;obtain⟨h1,h2⟩:=an2 hh;refine⟨x,p,rfl,vN (by rw[hN];exact hnd) (by rw[hN];exact eq_of_beq h1) ?_ (.inl (by rw[hf]))⟩;unfold Blk.own at h2;unfold L2.Loc;rw[hs];split at h2
 ·rename_i e;exact .inl e
 ·rename_i e;exact .inr e
 ·cases h2
theorem uW{line:Nat}(hk:X.env.blockKind = .function)(hs:X.env.scope=b.sc)(h:uS e=none):Ug [.Name x p] e line X.env=pure false:=by
 have z:=Bv (sc:=b.sc) (v:=e) (t:=x) (pos:=p) (line:=line) hk hs;unfold swW at z;rw[h] at z;exact z
def yN(a C:Addr)(σ:L2.St)(H:Hp):Prop:=σ.length=3/\σ[0]?=some (some (.ref a))/\H a=some (exO a C)
theorem fS{i:Nat}(x:yN a C σ H)(hi:i ≠ 0)(e:gR H H2):yN a C (σ.set i (some v)) H2:=⟨by simpa using x.1,by rw[ZN hi];exact x.2.1,e _ _ x.2.2⟩
variable (hk:X.env.blockKind = .function) (hs:X.env.scope=b.sc) (hN:X.N=b.N) (hf:X.fn=λ_=>true) (hnd:b.N.Nodup) (hb:X.mg "isinstance" = none) (hv:X.mg "ValueError" = none) (hC:bv X.base C (.ref R::bmV)) (hR:bv X.base R bmV)
include hk hs hN hf hnd hb hC hR in
theorem OQ(c2:Cls2 X R cs Ds)(hl:Ds.length<=100)(h:OK b cs s=true):PS X s (λD σ H=>yN a C σ H/\∀q H2,gR H H2->H2 q=some (.lst (Ds.map λD=>.bl (C == D)))->D.nx (σ.set 1 (some (.ref q))) H2):=by
 obtain⟨tg,v,p,rfl,h⟩:=qE h;obtain⟨h1,h2⟩:=an2 h;obtain⟨x,p1,rfl,g⟩:=Kr hs hN hf hnd h1;obtain⟨es,p2,rfl,h2⟩:=jL h2;refine PS.imp (ju (jx (BG (a:=a) hs hN hb hC hR c2 h2)) g (uW hk hs rfl) (i7 (.inr (.inl ⟨_,_,rfl⟩))) rfl) λD σ H q10=>?_;obtain⟨e,q⟩:=q10;exact⟨e.2.1,e.2.2,by rw[Za,Ua];lia,λl hl=>q l _ (gR.upd hl) aJ⟩
include hk hs hN hf hnd hb hC hR in
theorem uX(c2:Cls2 X R cs Ds)(hl:Ds.length<=100)(h:wG b cs s=true):PS X s (λD σ H=>yN a C σ H/\∃l xs,σ[1]?=some (some (.ref l))/\H l=some (.lst xs)/\xs.length<=100/\∀q H2,gR H H2->H2 q=some (.lst (xs++Ds.map λD=>.bl (C == D)))->D.nx (σ.set 1 (some (.ref q))) H2):=by
 obtain⟨tg,v,p,rfl,h⟩:=qE h;obtain⟨h1,h2⟩:=an2 h;obtain⟨x,p1,rfl,g⟩:=Kr hs hN hf hnd h1;obtain⟨y,z,p3,rfl,h3,h4⟩:=uM h2;obtain⟨es,p2,rfl,h4⟩:=jL h4;refine PS.imp (ju (zB t5 (mV hs hN h3) (jx (BG (a:=a) hs hN hb hC hR c2 h4))) g (uW hk hs rfl) (i7 (.inr (.inl ⟨_,_,rfl⟩))) rfl) λD σ H q10=>?_;obtain⟨e,l,xs,hl1,hl2,hl3,q⟩:=q10;refine⟨_,hl1,e.2.1,e.2.2,by rw[Za,Ua];lia,λp hp=>?_⟩;refine⟨l,p,xs,_,rfl,rfl,gR.upd hp _ _ hl2,aJ,by rw[Za,Ua];lia,λr hr=>?_⟩;exact q r _ ((gR.upd hp).trans (gR.upd hr)) aJ
include hs hN in
theorem OT(h:wMt b "count" e=true):PE X e (λσ H Q=>∃l xs,σ[1]?=some (some (.ref l))/\H l=some (.lst xs)/\xs.all bK=true/\Q (.int ((xs.countP λz=>eqV z (.bl true):Nat):Int)) H):=by
 obtain⟨x,ap,es,p,rfl,h2,h3,h4,h5⟩:=jM h;obtain⟨y,rfl,h5⟩:=ci h5;obtain⟨_,_,rfl⟩:=Bg h5;exact PE.imp (oB WB WE PySem.F.type_list_count yL (mV hs hN h4) (bz zp rfl) (cw h2) (i6 rfl) h3 (am rfl) rfl) λσ H Q ⟨l,xs,h1,h2,h3,q⟩=>⟨_,h1,.inl ⟨rfl,xs,SqL.of h2⟩,l,xs,.bl true,rfl,rfl,h2,rfl,h3,q⟩
include hs hN in
theorem OU(h:wMt b "index" e=true):PE X e (λσ H Q=>∃l xs,∃j:Nat,∃z,σ[1]?=some (some (.ref l))/\H l=some (.lst xs)/\xs.all bK=true/\j < 100/\xs[j]?=some z/\eqV z (.bl true)=true/\(∀ (m:Nat) z,m < j->xs[m]?=some z->eqV z (.bl true)=false)/\Q (.int (j:Int)) H):=by
 obtain⟨x,ap,es,p,rfl,h2,h3,h4,h5⟩:=jM h;obtain⟨y,rfl,h5⟩:=ci h5;obtain⟨_,_,rfl⟩:=Bg h5;exact PE.imp (oB WB WF PySem.F.type_list_index yM (mV hs hN h4) (bz zp rfl) (cw h2) (i6 rfl) h3 (am rfl) rfl) λσ H Q ⟨l,xs,j,z,h1,h2,h3,q⟩=>⟨_,h1,.inl ⟨rfl,xs,SqL.of h2⟩,l,xs,.bl true,j,z,rfl,rfl,h2,rfl,h3,q⟩
include hs hN hb hv hC hR in
theorem OV(h:OL b s=true):PS X s (λD σ H=>yN a C σ H/\(∃l xs,σ[1]?=some (some (.ref l))/\H l=some (.lst xs)/\xs.all bK=true/\(xs.countP λz=>eqV z (.bl true))=1)/\D.nx σ H):=by
 obtain⟨t,p,q,r,rfl,h1,h2,h3⟩:=BB h;obtain⟨s,rfl,h2⟩:=ci h2;obtain⟨v,p',rfl,h2⟩:=mS h2;obtain⟨_,_,rfl⟩:=uL h2;rw[cv h3];obtain⟨x,y,p2,rfl,h4,h5⟩:=mJ h1;obtain⟨l,z,p3,rfl,h6,h7,h8⟩:=uO h4;obtain⟨_,_,rfl⟩:=mI h7;obtain⟨w,p4,rfl,h9⟩:=uN h5
 have hw:ED w=true:=by
  obtain⟨_,_,_,_,rfl,_⟩:=eD h9;rfl
 refine PS.imp (vM (zt (vR NA (OT hs hN h6) lh (eU rfl)) (zq (zu (IB (OP (a:=a) hs hN hb hv hC hR h9) (mO hw))))).pt (iQ (tP pR)) iP) λD σ H q10=>?_;obtain⟨e,⟨l,xs,h1,h2,h3,h4⟩,q⟩:=q10;refine⟨l,xs,h1,h2,h3,rfl,_,rfl,?_⟩;rw[h4];show if (!decide (V.int ((1:Nat):Int)=V.int 1))=true then _ else _
 rw[if_neg (by decide)];refine⟨e.2.1,e.2.2,true,rfl,?_⟩;show if (!true)=true then _ else _
 rw[if_neg (by decide)];exact q
include hk hs hN hf hnd in
theorem OW(hl:ws.length<=100)(h:OM b ws s=true):PS X s (λD σ H=>∀q H2,gR H H2->H2 q=some (.lst (ws.map V.str))->D.nx (σ.set 2 (some (.ref q))) H2):=by
 obtain⟨tg,v,p,rfl,h⟩:=qE h;obtain⟨h1,h2⟩:=an2 h;obtain⟨x,p1,rfl,g⟩:=Kr hs hN hf hnd h1;obtain⟨es,p2,rfl,h2⟩:=jL h2;refine PS.imp (ju (jx (uV h2)) g (uW hk hs rfl) (i7 (.inr (.inl ⟨_,_,rfl⟩))) rfl) λD σ H q=>?_;exact⟨by rw[Za,Ua];lia,λl hl=>q l _ (gR.upd hl) aJ⟩
include hs hN in
theorem OX(hl:ws.length<=100)(h:OO b ws s=true):PS X s (λD σ H=>∃l xs m ys,∃j:Nat,∃z w,σ[1]?=some (some (.ref l))/\H l=some (.lst xs)/\xs.all bK=true/\j < 100/\xs[j]?=some z/\eqV z (.bl true)=true/\(∀ (m:Nat) z,m < j->xs[m]?=some z->eqV z (.bl true)=false) ∧
  σ[2]?=some (some (.ref m))/\H m=some (.lst ys)/\ys.length<=100/\(ys++ws.map V.str)[j]?=some w/\∀H2,gR H H2->D.rt w H2):=by
 obtain⟨v,p,rfl,h⟩:=mS h;obtain⟨x,y,p1,rfl,h1,h2,h3⟩:=Bj h;obtain⟨x1,x2,p2,rfl,h4,h5⟩:=uM h1;obtain⟨es,p3,rfl,h5⟩:=jL h5;refine PS.imp (tP (vX vY (zB t5 (mV hs hN h4) (jx (uV h5))) (OU hs hN h2) (iY h3))) λD σ H q10=>?_;obtain⟨l,xs,m,ys,j,z,w,a1,a2,a3,a4,a5,a6,a7,b1,b2,b3,b4,q⟩:=q10;refine⟨_,b1,by rw[Za,Ua];lia,λp hp=>⟨m,p,ys,_,rfl,rfl,gR.upd hp _ _ b2,aJ,by rw[Za,Ua];lia,λr hr=>?_⟩⟩;refine⟨l,xs,j,z,a1,gR.upd hr _ _ (gR.upd hp _ _ a2),a3,a4,a5,a6,a7,r,_,(j:Int),w,rfl,rfl,SqL.of aJ,?_,q _ ((gR.upd hp).trans (gR.upd hr))⟩;have hj:=(Zc.mp b4).1;unfold atI ixN;rw[if_pos (Int.natCast_nonneg j),if_pos (by lia)]
 simpa using b4
include hk hs hN hf hb hv hC hR in
theorem E6{cs ws:List Str}{Ds:List Addr}{i:Nat}{w:Str}{ss:List Stmt}(c1:Cls2 X R (cs.take 4) (Ds.take 4))(c2:Cls2 X R ((cs.drop 4).take 4) ((Ds.drop 4).take 4))(c3:Cls2 X R ((cs.drop 8).take 4) ((Ds.drop 8).take 4))(c4:Cls2 X R (cs.drop 12) (Ds.drop 12))
  (hl:Ds.length<=100) (hws:ws.length<=100) (hnd:Ds.Nodup) (hi:Ds[i]?=some C) (hw:ws[i]?=some w) (h:sK b cs ws ss=true) :
  PSs X ss (λD σ H=>yN a C σ H/\∀H2,gR H H2->D.rt (.str w) H2):=by
 unfold sK at h;obtain⟨h1,h2,_,k0⟩:=an4 h;clear h;obtain⟨s1,ss1,e1,k1⟩:=bQ k0;subst e1;obtain⟨s2,ss2,e2,k2⟩:=bQ k1;subst e2;obtain⟨s3,ss3,e3,k3⟩:=bQ k2;subst e3;obtain⟨s4,ss4,e4,k4⟩:=bQ k3;subst e4;obtain⟨s5,ss5,e5,k5⟩:=bQ k4;subst e5;obtain⟨s6,ss6,e6,k6⟩:=bQ k5;subst e6;obtain⟨s7,e7,k7⟩:=ci k6;subst e7;obtain⟨g1,g2,g3,g4,g5,g6⟩:=an6 k7;obtain⟨g6,g7⟩:=an2 g6;have nd:=fK h1;have t1:(Ds.take 4).length<=100:=by rw[Zt];lia
 have t2:((Ds.drop 4).take 4).length<=100:=by rw[Zt];lia
 have t3:((Ds.drop 8).take 4).length<=100:=by rw[Zt];lia
 have t4:(Ds.drop 12).length<=100:=by rw[ZW];lia
 refine PSs.imp (bE (OQ (a:=a) hk hs hN hf nd hb hC hR c1 t1 g1) (bE (uX (a:=a) hk hs hN hf nd hb hC hR c2 t2 g2) (bE (uX (a:=a) hk hs hN hf nd hb hC hR c3 t3 g3) (bE (uX (a:=a) hk hs hN hf nd hb hC hR c4 t4 g4) (bE (OV (a:=a) hs hN hb hv hC hR g5)
  (bE (OW hk hs hN hf nd (by rw[Zt];lia) g6) (iQ (OX hs hN (by rw[ZW];lia) g7))))))) ) λD σ H ⟨e,q⟩=>?_
 have el:=e.1;refine⟨e,λq1 H1 x1 y1=>?_⟩;have e1:=fS (v:=.ref q1) e (by decide:1 ≠ 0) x1;refine⟨e1,q1,_,by rw[ZI (by lia)],y1,by rw[Za];exact t1,λq2 H2 x2 y2=>?_⟩;have e2:=fS (v:=.ref q2) e1 (by decide:1 ≠ 0) x2;refine⟨e2,q2,_,by rw[ZI (by have:=e1.1;lia)],y2,by rw[Zr,Za,Za,Zt,Zt];lia,λq3 H3 x3 y3=>?_⟩;have e3:=fS (v:=.ref q3) e2 (by decide:1 ≠ 0) x3;refine⟨e3,q3,_,by rw[ZI (by have:=e2.1;lia)],y3,by rw[Zr,Zr,Za,Za,Za,Zt,Zt,Zt];lia,λq4 H4 x4 y4=>?_⟩;have e4:=fS (v:=.ref q4) e3 (by decide:1 ≠ 0) x4
 have all:(((Ds.take 4).map (λD=>V.bl (C == D))++((Ds.drop 4).take 4).map (λD=>V.bl (C == D)))++((Ds.drop 8).take 4).map (λD=>V.bl (C == D)))++(Ds.drop 12).map (λD=>V.bl (C == D))=Ds.map λD=>V.bl (C == D):=by
  rw[<-ZA,<-ZA,<-ZA]
  congr 1
  have z1:Ds.take 4++(Ds.drop 4).take 4=Ds.take 8:=by rw[show 8=4+4 from rfl,Wb]
  have z2:Ds.take 8++(Ds.drop 8).take 4=Ds.take 12:=by rw[show 12=8+4 from rfl,Wb]
  rw[z1,z2,Xc]
 rw[all] at y4;have fl:(Ds.map λD=>V.bl (C == D)).all bK=true:=by rw[Yy];exact ZJ.mpr λ_ _=>rfl
 have hev:∀D:Addr,eqV (V.bl (C == D)) (.bl true)=(C == D):=λD=>by cases C == D <;> rfl
 have at_:∀ (m:Nat) z,(Ds.map λD=>V.bl (C == D))[m]?=some z->∃D,Ds[m]?=some D/\z = .bl (C == D):=λm z hz=>by
  rw[Zm] at hz;cases hd:Ds[m]? with
  |none=>rw[hd] at hz;cases hz
  |some D=>rw[hd] at hz;cases hz;exact⟨D,rfl,rfl⟩
 refine⟨e4,⟨q4,_,by rw[ZI (by have:=e3.1;lia)],y4,fl,?_⟩,λq5 H5 x5 y5=>?_⟩
 ·rw[X1]
  have:((λz=>eqV z (V.bl true)) ∘ λD=>V.bl (C == D))=λD=>D == C:=by
   funext D
   show eqV (V.bl (C == D)) (.bl true)=_;rw[hev,Bool.beq_comm]
  rw[this];show Ds.count C=1;rw[hnd.count,if_pos (Zh hi)]
 ·have e5:=fS (v:=.ref q5) e4 (by decide:2 ≠ 0) x5;have hil:=(Zc.mp hi).1;refine⟨q4,_,q5,_,i,.bl (C == C),.str w,?_,x5 _ _ y4,fl,by lia,by rw[Zm,hi];rfl,by rw[hev,beq_self_eq_true],λm z hm hz=>?_,?_,y5,by rw[Za,Zt];lia,?_,λH6 x6=>?_⟩
  ·rw[ZN (by decide),ZI (by have:=e3.1;lia)]
  ·obtain⟨D,hD,rfl⟩:=at_ m z hz;rw[hev];refine XJ.mpr λq=>?_;have z:C=D:=by simpa using q
   subst z;obtain⟨i1,j1⟩:=Zc.mp hD;obtain⟨i2,j2⟩:=Zc.mp hi;have z2:m=i:=(YK hnd).mp (j1.trans j2.symm)
   lia
  ·rw[ZI (by have:=e4.1;lia)]
  ·rw[<-ZA,Xc,Zm,hw];rfl
  ·exact q H6 ((((x1.trans x2).trans x3).trans x4).trans (x5.trans x6))
end
section
variable {X:Cx}
theorem Ks(h:PA X.nox es t):PA X es t:=λpos pins s σ H Q I hw=>
 UC (h pos pins s σ H Q (I.wish _) hw) (λ_ _ ⟨v,H',I',r,q⟩=>⟨v,H',I'.unwish,r,q⟩) λ_ _ z=>False.elim z
theorem Kt(h:PS X.nox s t):PS X s t:=λpins s σ H D I hw=>
 UC (h pins s σ H D (I.wish _) hw) (λ_ _ z=>SP.unwish z) λ_ _ z=>False.elim z
end
noncomputable abbrev cxM(P:Program)(w:World)(K:W6)(mg:Str->Option Value)(base:Heap)(N:List Str)(qual:Str)(scope:Scope)(f:Addr)(cd:Value)(A:Around)(outer:List Env)(s:Shared)(H:Hp):Cx:=
 { nS CX0 P w K mg base N qual scope f cd { A with handled:=none } outer s H E0 with A:=A.deeper (envOfC qual scope s.heap.objs.size f cd),calm:=false,xe:=λ_ _=>False }
section
variable {P:Program} {w:World} {K:W6} {mg:Str->Option Value} {base:Heap} {A:Around} {outer:List Env} {s:Shared} {H:Hp}
theorem BH{x qual:Str}{st:Stmt}{f:Addr}{fd:WN}{N ps:List Str}{us:List Value}{vs:List V}{Q:VK}(F:Fun K x qual st f fd)(S:FnScope N ps (au st))(hd:A.depth < recursionLimit)(e0:Env0 P w K mg base A outer s H)(hb:BindsTo s fd ⟨us,[]⟩ (ps.zip us))(r:aN vs us)(hl:vs.length=ps.length)
  (hbody:∀cdv,∃t,PSs (cxM P w K mg base N qual (au st) f cdv A outer s H) (ba st) t/\t { nx:=λ_ H'=>Q .non H',rt:=Q } (dn N vs) H) :
  codeAny (model P w) A (.call (.ref f) ⟨us,[]⟩) (λr s'=>match r with |.ok (.ret u)=>L2.CE outer P w H s Q u s' |_=>False) s:=by
 obtain⟨oc,od,kV,doc,pm,an,cdv,ct,osl,rfl,lk,hcd⟩:=F.ex;have KX:K.In s.heap:=e0.mod.kin.keeps λb o e=>(e0.bs b o e).1;have lim:s.heap.NoLimit:=e0.mod.nolimit.keeps λb o e=>(e0.bs b o e).1
 have hkind:∀y ∈ ps.zip us,(au st).names.lookup y.1=some .local\/((au st).names.lookup y.1=some .cell/\((VE (s.heap.objs.size+1) (au st).names []).lookup y.1).isSome=true):=λ⟨n,v⟩ hy=>by
  rcases S.par n (YN hy).1 with q |q
  ·exact .inl q
  ·exact .inr ⟨q,W8 _ _ _ (.inl q)⟩
 refine VH hd (KX _ _ lk) rfl S.co S.gen rfl (Vb KX hcd) (hb _ _ _ _ ?_);refine UD S.kind hkind λenv he s1 x=>?_;subst he;refine⟨lim.keeps x.toInCall.keep,codeAny_func ?_⟩;obtain⟨t,ht,hq⟩:=hbody cdv;have e1:Env0 P w K mg base { A with handled:=none } outer s H:=⟨e0.frames,e0.mod,e0.bs,e0.bsz,e0.funs,e0.frf,e0.hok,e0.bare⟩;have I0:L2.Inv (nS CX0 P w K mg base N qual (au st) f cdv { A with handled:=none } outer s H E0) [] (dn N vs) H s1:=oz S rfl e1 hl r x
 have I:L2.Inv (cxM P w K mg base N qual (au st) f cdv A outer s H) [] (dn N vs) H s1:=
  ⟨⟨I0.ok.mod,I0.ok.kind,I0.ok.glob,I0.ok.blt,I0.ok.above,I0.ok.inj,I0.ok.has,I0.ok.cab,λz=>(nomatch z),I0.ok.frames,I0.ok.stk,I0.ok.exf,I0.ok.bs,I0.ok.bsz,I0.ok.noex,I0.ok.exfs,I0.ok.funs,I0.ok.frf⟩,I0.os,I0.bare,I0.base,I0.loc,I0.cell,I0.free,I0.freeC,I0.pin,I0.hok,I0.len⟩
 refine UC (ht [] s1 (dn N vs) H _ I hq) (λfl s' hs=>?_) λe s' hs=>hs.elim
 have fin:∀ {σ':L2.St} {H':Hp} {v:V} {u:Value},L2.Inv (cxM P w K mg base N qual (au st) f cdv A outer s H) [] σ' H' s'->aI v u->Q v H'->L2.CE outer P w H s Q u s':=
  λ{σ' H' v u} J rv q=>⟨v,H',J.os,J.bare,J.base,J.hok,rv,q⟩
 cases fl with
 |ret u=>
  obtain⟨v,σ',H',J,rv,q⟩:=hs;exact fin J rv q
 |next=>
  obtain⟨σ',H',J,q⟩:=hs;exact fin (v:=V.non) (u:=Value.none) J rfl q
 |brk=>
  obtain⟨_,_,_,q⟩:=hs;exact False.elim q
 |cont=>
  obtain⟨_,_,_,q⟩:=hs;exact False.elim q
end
abbrev mW:List Str:=["meadow", "sky", "landings", "order", "lot", "text", "name", "glider", "minute", "aim", "many", "bound", "deed", "row", "way"]
structure XInf(K:W6)(mg:Str->Option Value)(R:Addr)(Ds:List Addr):Prop where
 ring:mg "RingError" = some (.ref R)
 ve:mg "ValueError" = none
 isi:mg "isinstance" = none
 hR:∀h,K.In h->bv h R bmV
 hC:∀h,K.In h->∀ (i:Nat) C,Ds[i]?=some C->i < 14->bv h C (.ref R::bmV)
 hT:∀h,K.In h->∀D ∈ Ds,oY h D
 nd:Ds.Nodup
 nr:∀D ∈ Ds,D ≠ R
 nm:∀ (i:Nat) x,dZ[i]?=some x->∃D,Ds[i]?=some D/\mg x=some (.ref D)
 len:Ds.length=15
section
variable {X:Cx} {R:Addr}
theorem wH:∀ {xs:List Str} {Ds:List Addr},xs.length=Ds.length->(∀ (i:Nat) x,xs[i]?=some x->∃D,Ds[i]?=some D/\X.mg x=some (.ref D))->(∀D ∈ Ds,oY X.base D/\D ≠ R)->Cls2 X R xs Ds
 |[],[],_,_,_=>.nil
 |x::xs,D::Ds,hl,h,g=>by
  obtain⟨D',e,hm⟩:=h 0 x rfl;cases e;exact .cons hm (g D Zg).1 (g D Zg).2 (wH (by simpa using hl) (λi y hy=>h (i+1) y (by simpa using hy)) λD hD=>g D (Zf _ hD))
theorem jO{n:Nat}(h:Cls2 X R xs Ds):Cls2 X R (xs.take n) (Ds.take n):=by
 induction h generalizing n with
 |nil=>rw[Xu,Xu];exact .nil
 |cons a b c _ ih=>cases n with
  |zero=>exact .nil
  |succ n=>exact .cons a b c ih
theorem jP{n:Nat}(h:Cls2 X R xs Ds):Cls2 X R (xs.drop n) (Ds.drop n):=by
 induction h generalizing n with
 |nil=>rw[Wc,Wc];exact .nil
 |cons a b c d ih=>cases n with
  |zero=>exact .cons a b c d
  |succ n=>exact ih
end
theorem noE(x:XLeft P w l H H' s B s')(f:B.get? e=none):H' e=none:=by
 cases q:H' e with
 |none=>rfl
 |some o=>obtain⟨z,q2⟩:=sy (x.hok e o q);rw[f] at q2;cases q2
section
variable {X:Cx} {R:Addr} {Ds:List Addr} {k f fw:Nat} {fd fdw:WN} {ps psW NW:List Str} {sp:Sp} {xf xw n:Str} {stw:Stmt} {e:Expr} {es:List Expr} {t:TA} {p pos rp np wp p2 p3 p4 hp tp:Pos} {i:Nat}
theorem sM(hst:X.stack=X.env::X.outer)(hfm:X.env.frame=some X.env.locals)(xi:XInf X.K X.mg R Ds)(F:FnOk X.prog X.w X.K X.mg X.base (CXE X.prog X.w) k f fd ps sp)(hr:Room k X.A)(hk:Vi X.K (.ref f)=true)(hb:cV X.K fd ps [])(hA:PA X.nox (e::es) t)
  (he:Uc (e::es) X.env=(false,eval e X.env)::Uc es X.env) (hpl:(backTo pos (Uc es X.env)).any (·.1)=false)
  (FW:Fun X.K xw xw stw fw fdw) (SW:FnScope NW psW (au stw)) (bW:cV X.K fdw psW []) (h1W:psW.length=1) (cW:sK ⟨au stw,none,NW⟩ dZ mW (ba stw)=true) (hgW:Gl X xw) (hmW:X.mg xw=some (.ref fw)) (hdw:(xw == ("__debug__" : Str))=false)
  (hN:X.N.Nodup) (hi:X.N[i]?=some n) (hl:X.env.scope.names.lookup n=some .local) (hgr:Gl X "RingError") (hn1:(n == ("__debug__" : Str))=false) (hn2:(n == ("__classdict__" : Str))=false) {pins:List (Addr × Obj)} {s:Shared} {σ:L2.St} {H:Hp} {D:Ends} (I:L2.Inv X pins σ H s) (h:t σ H λvs H1=>sp vs H1 D.rt λc _ H2=>∃j C w,c = .ref C/\Ds[j]?=some C/\j < 14/\mW[j]?=some w/\∀H3,gR H2 H3->D.rt (.str w) H3) :
  wpAny (model X.prog X.w) X.A (callWith pos (.ref f) [] (backTo pos (Uc (e::es) X.env)) (Vw pos (VR [] X.env))) (λv s1=>SP X pins D (.ret v) s1)
   (λev s₁=>wpAny (model X.prog X.w) X.A (V0 ev X.env) (λ_ s₂=>wpAny (model X.prog X.w) X.A (setFlight ev none) (λ_ s₃=>wpAny (model X.prog X.w) X.A (handleBy ev X.env [.ExceptHandler (some (.Name "RingError" np)) (some n) [.Return (some (.Call (.Name xw wp) [.Name n p2] [] p3)) p4] hp]) (SP X pins D) X.xe s₃) X.xe s₂) X.xe s₁) s:=by
 refine W7 (h₀:=X.base) I.ok.mod.kin hk (UC (hA pos pins s σ H _ (I.wish _) h) (λus s1 ⟨vs,H1,I1,r,q⟩=>⟨I1.unwish.kIn,?_⟩) λ_ _ z=>z.elim) he hpl;have I1:L2.Inv X pins σ H1 s1:=I1.unwish;have hlen:us.length=ps.length:=by rw[<-r.length];exact F.len _ _ _ _ q
 have hb':=hb s1 us I1.kIn (by rw[ZU];exact hlen);rw[ZU] at hb';refine wpAny_call (VI (F.run X.A X.stack s1 H1 ⟨us,[]⟩ us vs _ _ hr I1.env0 hb' r q) λr s' hq=>?_);cases r with
 |ok fl=>
  cases fl with
  |ret u=>
   obtain⟨v,H',I',rv,z⟩:=I1.after hq;exact⟨v,σ,H',I',rv,z⟩
  |next=>exact False.elim hq
  |brk=>exact False.elim hq
  |cont=>exact False.elim hq
 |error ev=>
  obtain⟨a,c,a0,H',B,rfl,fl,x,j,C,w,rfl,hj,hj14,hw,q⟩:=hq;have hC:=xi.hC _ I.ok.mod.kin j C hj hj14;have hR:=xi.hR _ I.ok.mod.kin;have hH':=noE x fl.2.1;refine EO hst hfm I1 fl x hC hR hgr xi.ring (by decide) hN hi hl λs6 I6=>?_;refine Ut (Um (Ul (iO (X:=Cx.mk X a) I6 hgW hmW ?_ hdw)));have hiσ:i < σ.length:=by rw[I.len];exact(Zc.mp hi).1
  refine W7 (h₀:=X.base) I.ok.mod.kin FW.kp (UC ((bz (X:=Cx.mk X a) (tO (i:=i) hi (.inl hl) hn1 hn2) rfl) p3 pins s6 _ _ (λvs H7=>vs=[.ref a]/\H7=upd H' a (exO a C)) I6 ⟨_,ZI hiσ,rfl,rfl⟩) (λus s7 ⟨vs,H7,I7,r,hvs,hH7⟩=>⟨I7.kIn,?_⟩) λ_ _ z=>z.elim) rfl rfl;subst hvs hH7;have hlW:us.length=psW.length:=by rw[<-r.length,h1W];rfl
  have hbW:=bW s7 us I7.kIn (by rw[ZU];exact hlW);rw[ZU] at hbW;have hdep:X.A.depth < recursionLimit:=hr.depth;refine wpAny_call (VI (BH (Q:=λv H8=>v = .str w/\gR (upd H' a (exO a C)) H8) FW SW hdep I7.env0 hbW r (by rw[h1W];rfl) λcdv=>?_) λr s8 hq=>?_)
  ·have c2:Cls2 (cxM X.prog X.w X.K X.mg X.base NW xw (au stw) fw cdv (Cx.mk X a).A X.stack s7 (upd H' a (exO a C))) R dZ Ds:=wH (by rw[xi.len];rfl) xi.nm λD hD=>⟨xi.hT _ I.ok.mod.kin D hD,xi.nr D hD⟩;refine⟨_,E6 (X:=cxM X.prog X.w X.K X.mg X.base NW xw (au stw) fw cdv (Cx.mk X a).A X.stack s7 (upd H' a (exO a C))) (b:=⟨au stw,none,NW⟩) (a:=a) (C:=C) (qF SW.kind) rfl rfl rfl xi.isi xi.ve hC hR (jO c2) (jO (jP c2)) (jO (jP c2)) (jP c2) (by rw[xi.len];decide) (by decide) xi.nd hj hw cW,⟨?_,?_,aJ⟩,λH2 x2=>⟨rfl,x2⟩⟩
   ·unfold sK at cW;have:=(an4 cW).2.1;have hl3:NW.length=3:=by simpa using this
    unfold L2.dn;rw[Zr,YJ,Za,hl3];rfl
   ·rfl
  ·cases r with
   |ok fl=>
    cases fl with
    |ret u=>
     obtain⟨v,H8,I8,rv,rfl,z⟩:=I7.after hq;exact⟨u,_,_,H8,rfl,I8,rv,q H8 ((gR.upd hH').trans z)⟩
    |next=>exact False.elim hq
    |brk=>exact False.elim hq
    |cont=>exact False.elim hq
   |error ev=>exact False.elim hq
theorem E7{ga:Nat}{fdg:WN}{psg:List Str}{spg:Sp}{xg:Str}{ix:Expr}{iw:Nat}{pg lp xp:Pos}(hst:X.stack=X.env::X.outer)(hfm:X.env.frame=some X.env.locals)(xi:XInf X.K X.mg R Ds)(F:FnOk X.prog X.w X.K X.mg X.base (CXE X.prog X.w) k f fd ps sp)(Fg:FnOk X.prog X.w X.K X.mg X.base (CXE X.prog X.w) k ga fdg psg spg)(hr:Room k X.A)(hk:Vi X.K (.ref f)=true)(hb:cV X.K fd ps [])(hkg:Vi X.K (.ref ga)=true)(hbg:cV X.K fdg psg [])(hA:PA X.nox (e::es) t)
  (he:Uc (e::es) X.env=(false,eval e X.env)::Uc es X.env) (hpl:(backTo pos (Uc es X.env)).any (·.1)=false)
  (hg:Gl X xf) (hm:X.mg xf=some (.ref f)) (hdb:(xf == ("__debug__" : Str))=false) (hgg:Gl X xg) (hmg:X.mg xg=some (.ref ga)) (hdg:(xg == ("__debug__" : Str))=false) (hv:PE X.nox ix (Dt iw)) (hx:aG ix=true)
  (FW:Fun X.K xw xw stw fw fdw) (SW:FnScope NW psW (au stw)) (bW:cV X.K fdw psW []) (h1W:psW.length=1) (cW:sK ⟨au stw,none,NW⟩ dZ mW (ba stw)=true) (hgW:Gl X xw) (hmW:X.mg xw=some (.ref fw)) (hdw:(xw == ("__debug__" : Str))=false)
  (hN:X.N.Nodup) (hi:X.N[i]?=some n) (hl:X.env.scope.names.lookup n=some .local) (hgr:Gl X "RingError") (hn1:(n == ("__debug__" : Str))=false) (hn2:(n == ("__classdict__" : Str))=false) :
  PS X (.Try [.Return (some (.Call (.Subscript (.List [.Name xf p,.Name xg pg] lp) ix xp) (e::es) [] pos)) rp] [.ExceptHandler (some (.Name "RingError" np)) (some n) [.Return (some (.Call (.Name xw wp) [.Name n p2] [] p3)) p4] hp] [] [] tp)
   (λD σ H=>∃c:Bool,σ[iw]?=some (some (.int (if c then 1 else 0)))/\∀H0,gR H H0->t σ H0 λvs H1=>(if c then spg else sp) vs H1 D.rt λc _ H2=>∃j C w,c = .ref C/\Ds[j]?=some C/\j < 14/\mW[j]?=some w/\∀H3,gR H2 H3->D.rt (.str w) H3):=by
 intro pins s σ H D I ⟨c,hc,h⟩;refine wpAny_Try_except ?_;refine Ut (Um ?_);show wpAny _ _ (eval (.Subscript (.List [.Name xf p,.Name xg pg] lp) ix xp) X.env >>= λfv=>callWith pos fv [] (backTo pos (Uc (e::es) X.env)) (Vw pos (VR [] X.env))) _ _ s;refine Uo (UC ((vX vY (jx (b9 (kO (X:=X.nox) (v:=.ref f) hg hm rfl hdb) (bz (kO (X:=X.nox) (v:=.ref ga) hgg hmg rfl hdg) rfl) rfl)) hv (iY hx)) pins s σ H (λv H1=>v = .ref (if c then ga else f)/\gR H H1) (I.wish _) ?_) (λfv s1 ⟨v,H1,I1,rv,hv,x⟩=>?_) λ_ _ z=>z.elim)
 ·refine⟨by rw[Ua];show 2<=16777216;decide,λq hq=>⟨_,hc,q,_,_,_,rfl,rfl,SqL.of aJ,?_,rfl,gR.upd hq⟩⟩;cases c <;> rfl
 ·subst hv;cases rv;have I1:L2.Inv X pins σ H1 s1:=I1.unwish;have h:=h H1 x;cases c with
  |true=>exact sM (i:=i) hst hfm xi Fg hr hkg hbg hA he hpl FW SW bW h1W cW hgW hmW hdw hN hi hl hgr hn1 hn2 I1 h
  |false=>exact sM (i:=i) hst hfm xi F hr hk hb hA he hpl FW SW bW h1W cW hgW hmW hdw hN hi hl hgr hn1 hn2 I1 h
end
inductive RS where
 |pl (s:CS) |ck (f:Nat) (es:List CE) |rz (c:CE) (i:Nat) |tr (f g iw:Nat) (es:List CE)
inductive RR where
 |val (d:D) |exc (i:Nat)
structure DefE where
 x:Str
 st:Stmt
 N:List Str
 np:Nat
 body:List CS
 rb:Option (List RS)
abbrev DefE.ps(d:DefE):List Str:=d.N.take d.np
abbrev FU:Nat:=60
abbrev cF(ae:List DefE)(f:Nat):Nat:=match ae[f]? with
 |some d=>d.ps.length
 |none=>0
@[inline]abbrev fT:=Nat->List D->Sto->Option (RR × Sto)
abbrev toC(g:fT):Calls:=λf ds S=>match g f ds S with
 |some (.val d,S')=>some (d,S')
 |_=>none
abbrev E8(C:Calls)(ar:Nat->Nat)(d:DefE)(ds:List D)(S:Sto):Option (D × Sto):=
 match fE C ar FU d.body (ds.map some++Zp (d.N.length - ds.length) none) S with
 |some (.rt v,_,S')=>some (v,S')
 |some (.nx,_,S')=>some (.non,S')
 |_=>none
abbrev xck(g:fT)(n f:Nat)(o:Option (List D × Sto))(k:RR->Sto->Option (RR × Sto)):Option (RR × Sto):=match o with
 | some (ds,S1)=>if ds.length=n then (match g f ds S1 with
  |some (r,S2)=>k r S2
  | none=>none) else none
 |none=>none
abbrev cj(g:fT)(ar:Nat->Nat):List RS->Rho->Sto->Option (RR × Sto)
 |[],_,S=>some (.val .non,S)
 | .pl s::r,ρ,S=>(match evS (toC g) ar 59 s ρ S with
  |some (.nx,ρ',S')=>cj g ar r ρ' S'
  |some (.rt v,_,S')=>some (.val v,S')
  | _=>none)
 | .ck f es::r,ρ,S=>xck g (ar f) f (evA (toC g) ar FU es ρ S) λv S2=>(match v with
  |.val _=>cj g ar r ρ S2
  | .exc i=>some (.exc i,S2))
 | .rz c i::r,ρ,S=>(match evT (toC g) ar FU c ρ S with
  |some (true,S1)=>if i < 14 then some (.exc i,S1) else none
  |some (false,S1)=>cj g ar r ρ S1
  | none=>none)
 | .tr f f' iw es::_,ρ,S=>(match ρ[iw]? with
  | some (some (.int z))=>if z=0\/z=1 then xck g (ar (if z=1 then f' else f)) (if z=1 then f' else f) (evA (toC g) ar FU es ρ S) λv S2=>(match v with
   |.val d=>some (.val d,S2)
   | .exc i=>if i < 14 then (mW[i]?).map λw=>(.val (.str w),S2) else none) else none
  | _=>none)
abbrev evX(ae:List DefE):Nat->fT
 |0=>λ_ _ _=>none
 |k+1=>λf ds S=>match ae[f]? with
  | some d=>(match d.rb with
   |none=>(E8 (toC (evX ae k)) (cF ae) d ds S).map λr=>(.val r.1,r.2)
   | some rs=>cj (evX ae k) (cF ae) rs (ds.map some++Zp (d.N.length - ds.length) none) S)
  |none=>none
abbrev evC(ae:List DefE)(k:Nat):Calls:=toC (evX ae k)
abbrev BI(N ps:List Str)(sc:Scope):Bool:=sc.kind == .function && sc.isCoroutine == false && sc.isGenerator == false && ie N && N.take ps.length == ps && (ps.all λx=>sc.names.lookup x == some .local || sc.names.lookup x == some .cell) && sc.names.all λy=>y.2 != .free
theorem wJ(h:BI N ps sc=true):FnScope N ps sc:=by
 unfold BI at h;simp only[bAE,ZJ] at h;obtain⟨⟨⟨⟨⟨⟨h1,h2⟩,h3⟩,h4⟩,h5⟩,h6⟩,h7⟩:=h;refine⟨by simpa using h1,by simpa using h2,by simpa using h3,fK h4,by simpa using h5,λx hx=>?_,λy hy=>by simpa using h7 y hy⟩;have:=h6 x hx
 simpa using this
abbrev BJ(e:Stmt)(k:Option Expr->Option Expr->Pos->Bool):Bool:=if h:e.ctorIdx=16 then @Stmt.Raise.elim (λ_=>Bool) e h k else false
theorem BK(h:BJ e k=true):∃x0 x1 x2,e = .Raise x0 x1 x2/\k x0 x1 x2=true:=by
 obtain⟨h1,h⟩:=bO h;exact Stmt.Raise.elim (motive_2:=λe=>∀h',@Stmt.Raise.elim (λ_=>Bool) e h' k=true->∃x0 x1 x2,e = .Raise x0 x1 x2/\k x0 x1 x2=true) e h1 (λx0 x1 x2 _ hh=>⟨x0,x1,x2,rfl,hh⟩) h1 h
abbrev OY(e:Stmt)(k:List Stmt->List ExceptHandler->List Stmt->List Stmt->Pos->Bool):Bool:=if h:e.ctorIdx=17 then @Stmt.Try.elim (λ_=>Bool) e h k else false
theorem Ku(h:OY e k=true):∃x0 x1 x2 x3 x4,e = .Try x0 x1 x2 x3 x4/\k x0 x1 x2 x3 x4=true:=by
 obtain⟨h1,h⟩:=bO h;exact Stmt.Try.elim (motive_2:=λe=>∀h',@Stmt.Try.elim (λ_=>Bool) e h' k=true->∃x0 x1 x2 x3 x4,e = .Try x0 x1 x2 x3 x4/\k x0 x1 x2 x3 x4=true) e h1 (λx0 x1 x2 x3 x4 _ hh=>⟨x0,x1,x2,x3,x4,rfl,hh⟩) h1 h
abbrev OZ(T:Tab)(b:Blk)(f:Nat)(es:List CE)(e:Expr):Bool:=Bf (λx=>oA T.fns[f]? (λy=>y.1 == x) && b.glo x) (λa=>dj T FU b a es) e
abbrev HJ(T:Tab)(b:Blk)(f f' iw:Nat)(es:List CE)(e:Expr):Bool:=sg e λc as ks _=>lC as λa as=>ks.isEmpty && dj T FU b (a::as) es && sIx (uJ λl=>lC l λn1 l=>l1 l λn2=>fk (λx=>oA T.fns[f]? (λy=>y.1 == x) && b.glo x) n1 && fk (λx=>oA T.fns[f']? (λy=>y.1 == x) && b.glo x) n2) (wV b iw) c
abbrev O0(b:Blk)(i:Nat)(s:Stmt):Bool:=BJ s λv c _=>c.isNone && oA v λe=>sCN e λx es ks=>l1 es λa=>ks.isEmpty && dZ[i]? == some x && b.glo x && cU a λc _ _=>(match c with |.str _=>true |_=>false)
abbrev gY:Str := "_law_word"
abbrev Kv(b:Blk)(h:ExceptHandler):Bool:=match h with
 |.ExceptHandler t n body _=>(oA t λe=>fk (λx=>x == ("RingError" : Str) && b.glo x) e) && oA n λn=>b.sc.names.lookup n == some .local && b.N.contains n && !(n == ("__debug__" : Str)) && !(n == ("__classdict__" : Str)) && l1 body λs=>yJ (λe=>sCN e λx es ks=>l1 es λa=>ks.isEmpty && x == gY && b.glo x && fk (λy=>y == n) a) s
abbrev QS(k:Expr->Bool)(b:Blk)(s:Stmt):Bool:=OY s λbody hs o f _=>o.isEmpty && f.isEmpty && (l1 body λr=>yJ k r) && l1 hs λh=>Kv b h
abbrev eG(T:Tab)(b:Blk):List RS->List Stmt->Bool
 |[],ss=>ss.isEmpty
 |.pl c::rs,ss=>lC ss λs ss=>Kn T 59 b s c && eG T b rs ss
 |.ck f es::rs,ss=>lC ss λs ss=>zEx (OZ T b f es) s && eG T b rs ss
 |.rz c i::rs,ss=>lC ss λs ss=>zIf (λe=>fD T FU b e c) (λp=>l1 p λs=>O0 b i s) (λq=>q.isEmpty) s && eG T b rs ss
 |.tr f f' iw es::rs,ss=>l1 ss λs=>QS (HJ T b f f' iw es) b s
abbrev BL(T:Tab)(d:DefE):Bool:=BI d.N d.ps (au d.st) && (match d.rb with
 |none=>o5 T FU ⟨au d.st,none,d.N⟩ (ba d.st) d.body
 | some rs=>eG T ⟨au d.st,none,d.N⟩ rs (ba d.st))
abbrev o6(con:List (Str × Int))(ae:List DefE):Tab:=⟨con,ae.map λd=>(d.x,d.ps.length)⟩
abbrev wK(d:DefE):Bool:=d.x == gY && d.ps.length == 1 && sK ⟨au d.st,none,d.N⟩ dZ mW (ba d.st)
structure TextOk(K:W6)(mg:Str->Option Value)(con:List (Str × Int))(ae:List DefE):Prop where
 con:∀ (i:Nat) (x:Str) (v:Int),con[i]?=some (x,v)->∃tk,mg x=some (.int v tk)
 bl:∀x,x ∈ fF->mg x=none
 fn:∀ (i:Nat) (d:DefE),ae[i]?=some d->∃f fd,mg d.x=some (.ref f)/\Vi K (.ref f)=true/\cV K fd d.ps []/\Fun K d.x d.x d.st f fd
 xs:∃R Ds,XInf K mg R Ds
def spX(K:W6)(Ds:List Addr)(g:List D->Sto->Option (RR × Sto))(n:Nat):Sp:=λvs H Q E=>∃m ds S r S',VDs K m H ds vs/\Rel K m S H/\ds.length=n/\g ds S=some (r,S')/\∀m' H',Aft K m H S' m' H'->(match r with
 |.val d=>∀v,VD K m' H' d v->Q v H'
 | .exc i=>∃C,Ds[i]?=some C/\i < 14/\E (.ref C) none H')
theorem BM{K:W6}{Ds:List Addr}{g:fT}{f n:Nat}{vs:List V}{H:Hp}{Q:VK}{E:XK}(h:spC K (toC g f) n vs H Q E):spX K Ds (g f) n vs H Q E:=by
 obtain⟨m,ds,S,d,S',vd,R,hl,e,q⟩:=h;unfold toC at e;split at e
 ·rename_i d' S2 hg;cases e;exact⟨m,ds,S,.val d,S',vd,R,hl,hg,λm' H' A v vv=>q m' H' v A vv⟩
 ·cases e
section
variable {P:Program} {w:World} {K:W6} {mg:Str->Option Value} {base:Heap} {con:List (Str × Int)} {ae:List DefE}
theorem o7(vd:VDs K m H ds vs):EnvR K m H (ds.map some++Zp (N.length - ds.length) none) (L2.dn N vs):=by
 have hl:=vd.length;unfold L2.dn;refine⟨by simp[hl],λi d e=>?_⟩;by_cases hi:i < ds.length
 ·rw[Zw (by simpa using hi),Zm] at e;cases h:ds[i]? with
  |none=>rw[h] at e;cases e
  |some d'=>
   rw[h] at e;cases e;obtain⟨v,hv,vv⟩:=vd.get h;exact⟨v,by rw[Zw (by simp;lia),Zm,hv];rfl,vv⟩
 ·rw[Zs (by simpa using hi),Yq] at e;split at e <;> cases e
def tRs(K:W6)(Ds:List Addr)(E:XK)(g:fT)(ar:Nat->Nat)(rs:List RS):TS:=λD σ H=>(∀σ H,D.rt .non H->D.nx σ H)/\∃m ρ S r S',EnvR K m H ρ σ/\Rel K m S H/\cj g ar rs ρ S=some (r,S')/\∀m' H',Aft K m H S' m' H'->(match r with
 |.val d=>∀v,VD K m' H' d v->D.rt v H'
 | .exc i=>∃C,Ds[i]?=some C/\i < 14/\E (.ref C) none H')
theorem sN{n f:Nat}(h:xck g n f o k=some z):∃ds S1 v S2,o=some (ds,S1)/\ds.length=n/\g f ds S1=some (v,S2)/\k v S2=some z:=by
 cases o with
 |none=>cases h
 |some p=>
  obtain⟨ds,S1⟩:=p;unfold xck at h;dsimp only at h;split at h
  ·rename_i hl;cases hg:g f ds S1 with
   |none=>rw[hg] at h;cases h
   |some p=>obtain⟨v,S2⟩:=p;rw[hg] at h;exact⟨ds,S1,v,S2,rfl,hl,hg,h⟩
  ·cases h
theorem wL(A:Aft K m H S2 m2 H2)(x:gR H2 H3):Aft K m H S2 m2 H3:=by
 have E:Ext m2 H2 m2 H3:=⟨Z9 _,λa o h _=>x a o h,λ_ h n=>absurd h n⟩
 exact A.trans ⟨E,A.rel.ext_keep E λb hb=>by
  obtain⟨o,_,ho,_⟩:=A.rel.ex hb;rw[ho];exact x b o ho⟩
structure RCx(T:Tab)(g:fT)(ar:Nat->Nat)(k:Nat)(b:Blk)(X:Cx)(E:XK)(R:Addr)(Ds:List Addr):Prop where
 G:CtxOk T (toC g) ar k b X.nox
 xi:XInf X.K X.mg R Ds
 kin:X.K.In X.base
 fns:∀ (i:Nat) (y:Str × Nat),T.fns[i]?=some y->∃f fd ps,X.mg y.1=some (.ref f)/\Vi X.K (.ref f)=true/\cV X.K fd ps []/\FnOk X.prog X.w X.K X.mg X.base (CXE X.prog X.w) k f fd ps (spX X.K Ds (g i) (ar i))
 pass:lw (CXE X.prog X.w) X E
 made:∀pins σ H s h1 e c args,L2.Inv X pins σ H s->Heap.MadeExcOf s.heap h1 e c args->E c none H->X.xe (.ref e) { s with heap:=h1 }
 stk:X.stack=X.env::X.outer
 frm:X.env.frame=some X.env.locals
 kind:X.env.scope.kind = .function
 word:∃fw fdw psW NW stw,X.mg gY=some (.ref fw)/\Fun X.K gY gY stw fw fdw/\FnScope NW psW (au stw)/\cV X.K fdw psW []/\psW.length=1/\sK ⟨au stw,none,NW⟩ dZ mW (ba stw)=true
theorem Kw{P:Prop}{f f' iw:Nat}(h:HJ T b f f' iw es e0=true)(q:∀y y' p' pg lp ix xp e as p'',e0 = .Call (.Subscript (.List [.Name y.1 p',.Name y'.1 pg] lp) ix xp) (e::as) [] p''->T.fns[f]?=some y->b.glo y.1=true->T.fns[f']?=some y'->b.glo y'.1=true->wV b iw ix=true->aG ix=true->dj T FU b (e::as) es=true->P):P:=by
 obtain⟨cl,as,ks,p'',q1,c5⟩:=qw h;obtain⟨e,as',q2,c6⟩:=bQ c5;obtain⟨g1,h5,g2⟩:=an3 c6;have q3:=cv g1;obtain⟨cl',ix,xp,q4,g3,g4,g5⟩:=Bj g2;obtain⟨l,lp,q5,g6⟩:=jL g3;obtain⟨n1,l',q6,g7⟩:=bQ g6;obtain⟨n2,q7,g8⟩:=ci g7;obtain⟨g9,g10⟩:=an2 g8;obtain⟨x,p',q8,h12⟩:=b8 g9;obtain⟨h6,h7⟩:=an2 h12;obtain⟨y,hy,h8⟩:=jK h6;have hx:=iZ h8;obtain⟨x',pg,q9,h12'⟩:=b8 g10;obtain⟨h6',h7'⟩:=an2 h12';obtain⟨y',hy',h8'⟩:=jK h6';have hx':=iZ h8';exact q y y' p' pg lp ix xp e as' p'' (by rw[q1,q2,q3,q4,q5,q6,q7,q8,q9,hx,hx']) hy (hx ▸ h7) hy' (hx' ▸ h7') g4 g5 h5
theorem O1{P:Prop}(c4:Kv b hd=true)(q:∀np n wp p2 p3 rp2 hp (i:Nat),hd = .ExceptHandler (some (.Name "RingError" np)) (some n) [.Return (some (.Call (.Name gY wp) [.Name n p2] [] p3)) rp2] hp->b.glo "RingError" = true->b.glo gY=true->b.N[i]?=some n->b.sc.names.lookup n=some .local->(n == ("__debug__" : Str))=false->(n == ("__classdict__" : Str))=false->P):P:=by
 obtain⟨ty,nm,hbody,hp⟩:=hd;unfold Kv at c4;obtain⟨k1,k2⟩:=an2 c4;obtain⟨e1,q1,k3⟩:=jK k1;obtain⟨rn,np,q2,k4⟩:=b8 k3;obtain⟨k5,k6⟩:=an2 k4;have q3:=eq_of_beq k5;obtain⟨n,q4,k7⟩:=jK k2;obtain⟨l5,l6,l7,l8,l9⟩:=an5 k7;obtain⟨s0,q5,l10⟩:=ci l9;obtain⟨v2,rp2,q6,l11⟩:=mS l10;obtain⟨xw,wp,es2,ks,p3,q7,l12⟩:=mL l11;obtain⟨a,q8,l13⟩:=ci l12;obtain⟨k10,k11,k12,k13⟩:=an4 l13;have q9:=cv k10;have q10:=eq_of_beq k11;obtain⟨n2,p2,q11,k14⟩:=b8 k13;have q12:=eq_of_beq k14;obtain⟨i,hi⟩:=Z4 (Xd.mp l6);exact q np n wp p2 p3 rp2 hp i (by rw[q1,q2,q3,q4,q5,q6,q7,q8,q9,q10,q11,q12]) (q3 ▸ k6) (q10 ▸ k12) hi (by simpa using l5) (by simpa using l7) (by simpa using l8)
theorem Kx{k:Nat}(rc:RCx T g ar k b X E R Ds)(h:eG T b ([]) ss=true):PSs X ss (tRs X.K Ds E g ar ([])):=by
 rw[cv h];refine PSs.imp iP λD σ H q10=>?_;obtain⟨hD,m,ρ,S,r,S',Ev,Rl,e,q⟩:=q10;cases e;exact hD σ H (q m H (Aft.refl Rl) _ lY)
theorem O2{k:Nat}(rc:RCx T g ar k b X E R Ds)(ih:∀ss,eG T b rs ss=true->PSs X ss (tRs X.K Ds E g ar rs))(h:eG T b (.pl c::rs) ss=true):PSs X ss (tRs X.K Ds E g ar (.pl c::rs)):=by
 obtain⟨s,ss,rfl,h⟩:=bQ h;obtain⟨h1,h2⟩:=an2 h;refine PSs.imp (bE (Kt ((Kq 59).s b X.nox s c rc.G rc.kind h1)) (ih ss h2)) λD σ H q10=>?_;obtain⟨hD,m,ρ,S,r,S',Ev,Rl,e,q⟩:=q10;simp only[cj] at e;split at e
 ·rename_i ρ1 S1 hs;exact⟨m,ρ,S,.nx,ρ1,S1,Ev,Rl,hs,λm1 H1 A1 σ1 E1=>⟨hD,m1,ρ1,S1,r,S',E1,A1.rel,e,λm2 H2 A2=>q m2 H2 (A1.trans A2)⟩⟩
 ·rename_i v ρ1 S1 hs;cases e;exact⟨m,ρ,S,_,_,_,Ev,Rl,hs,λm1 H1 A1 u vu=>q m1 H1 A1 u vu⟩
 ·cases e
theorem O3{k:Nat}(rc:RCx T g ar k b X E R Ds){f:Nat}(ih:∀ss,eG T b rs ss=true->PSs X ss (tRs X.K Ds E g ar rs))(h:eG T b (.ck f es::rs) ss=true):PSs X ss (tRs X.K Ds E g ar (.ck f es::rs)):=by
 obtain⟨s,ss,rfl,h⟩:=bQ h;obtain⟨h1,h2⟩:=an2 h;obtain⟨v,p,rfl,h3,h4⟩:=HI h1;obtain⟨x,e,as,p',p'',rfl,h12,h5⟩:=wq h3;obtain⟨h6,h7⟩:=an2 h12;obtain⟨y,hy,h6⟩:=jK h6;have hx:=iZ h6;subst hx;obtain⟨fa,fd,ps,hm,hk,hb,F⟩:=rc.fns f y hy;have hpl:=aY h5;have gl:=rc.G.gl h7;refine PSs.imp (bE (vL (vT F rc.G.room gl.1 hm hk hb .nil rc.pass (Ks ((snd FU).a b X.nox _ es rc.G h5)) gl.2 (am (hpl e Zg)) (eF λe he=>hpl e (Zf _ he))) (sJ h4)) (ih ss h2)) λD σ H q10=>?_;obtain⟨hD,m,ρ,S,r,S',Ev,Rl,e,q⟩:=q10;simp only[cj] at e;obtain⟨ds,S1,v,S2,e1,hl,eg,e⟩:=sN e;refine⟨m,ρ,S,ds,S1,Ev,Rl,e1,λm1 H1 vs A1 vd=>⟨m1,ds,S1,v,S2,by rw[ZU];exact vd,A1.rel,hl,eg,λm2 H2 A2=>?_⟩⟩;cases v with
 |val d=>exactλu _=>⟨hD,m2,ρ,S2,r,S',Ev.mono Rl (A1.trans A2).ext,A2.rel,e,λm3 H3 A3=>q m3 H3 ((A1.trans A2).trans A3)⟩
 |exc i=>cases e;exact q m2 H2 (A1.trans A2)
theorem O4{P:Prop}{i:Nat}(h:O0 b i s=true)(q:∀x p1 p2 z j p3 pos,s = .Raise (some (.Call (.Name x p1) [.Constant (.str z) j p3] [] p2)) none pos->dZ[i]?=some x->b.glo x=true->P):P:=by
 obtain⟨v,cs,pos,z1,h6⟩:=BK h;obtain⟨h7,h6⟩:=an2 h6;obtain⟨e1,z2,h6⟩:=jK h6;obtain⟨x,p1,es,ks,p2,z3,h6⟩:=mL h6;obtain⟨a,z4,h6⟩:=ci h6;obtain⟨h8,h9,h10,h11⟩:=an4 h6;obtain⟨c0,j,p3,z5,h11⟩:=cD h11;have z6:cs=none:=by cases cs <;> first |rfl |cases h7
 have ⟨z,z7⟩:∃z,c0 = .str z:=by cases c0 <;> first |exact⟨_,rfl⟩ |cases h11
 exact q x p1 p2 z j p3 pos (by rw[z1,z2,z3,z4,cv h8,z5,z6,z7]) (by simpa using h9) h10
theorem O5{k:Nat}(rc:RCx T g ar k b X E R Ds){i:Nat}(ih:∀ss,eG T b rs ss=true->PSs X ss (tRs X.K Ds E g ar rs))(h:eG T b (.rz c i::rs) ss=true):PSs X ss (tRs X.K Ds E g ar (.rz c i::rs)):=by
 obtain⟨s,ss',z1,h⟩:=bQ h;obtain⟨h1,h2⟩:=an2 h;obtain⟨t,p,q,r,z2,h3,h4,h5⟩:=BB h1;obtain⟨s1,z3,h4⟩:=ci h4;refine O4 h4 λx p1 p2 z j p3 pos z4 hx h10=>?_;rw[z1,z2,cv h5,z3,z4];obtain⟨C,hC,hm⟩:=rc.xi.nm i x hx;have gl:=rc.G.gl h10;by_cases h14:i < 14
 ·refine PSs.imp (bE (vM (PT.nox ((snd FU).t b X.nox t c rc.G h3)) (iQ (Bo (E:=E) (v:=.str z) (λpins σ H s h1 e args I mk hE=>rc.made pins σ H s h1 e _ args I mk hE) rc.G.calm gl.1 hm (rc.xi.hC _ rc.kin i C hC h14) (rc.xi.hR _ rc.kin) (bz pR rfl) rfl gl.2)) iP) (ih ss' h2)) λD σ H q10=>?_;obtain⟨hD,m,ρ,S,r,S',Ev,Rl,e,q⟩:=q10;simp only[cj] at e;split at e
  ·rename_i S1 ht;rw[if_pos h14] at e;cases e;refine⟨m,ρ,S,true,_,Ev,Rl,ht,λm1 H1 A1=>?_⟩;dsimp only;rw[if_pos rfl];obtain⟨C',hC',_,z⟩:=q m1 H1 A1;rw[hC] at hC';cases hC';exact z
  ·rename_i S1 ht;refine⟨m,ρ,S,false,_,Ev,Rl,ht,λm1 H1 A1=>?_⟩;dsimp only;rw[if_neg Zd];exact⟨hD,m1,ρ,S1,r,S',Ev.mono Rl A1.ext,A1.rel,e,λm2 H2 A2=>q m2 H2 (A1.trans A2)⟩
  ·cases e
 ·refine PSs.imp (bE (vM (PT.nox ((snd FU).t b X.nox t c rc.G h3)) (iQ rd) iP) (ih ss' h2)) λD σ H q10=>?_;obtain⟨hD,m,ρ,S,r,S',Ev,Rl,e,q⟩:=q10;simp only[cj] at e;split at e
  ·rename_i S1 ht;rw[if_neg h14] at e;cases e
  ·rename_i S1 ht;refine⟨m,ρ,S,false,_,Ev,Rl,ht,λm1 H1 A1=>?_⟩;dsimp only;rw[if_neg Zd];exact⟨hD,m1,ρ,S1,r,S',Ev.mono Rl A1.ext,A1.rel,e,λm2 H2 A2=>q m2 H2 (A1.trans A2)⟩
  ·cases e
theorem O6{k:Nat}(rc:RCx T g ar k b X E R Ds){f f' iw:Nat}(h:eG T b (.tr f f' iw es::rs) ss=true):PSs X ss (tRs X.K Ds E g ar (.tr f f' iw es::rs)):=by
 obtain⟨s,z1,c0⟩:=ci h;obtain⟨body,hs,o,fi,tp,z2,c1⟩:=Ku c0;obtain⟨h1,h2,h3,h4⟩:=an4 c1;obtain⟨r0,z3,c2⟩:=ci h3;obtain⟨v,rp,z4,c3⟩:=mS c2;obtain⟨hd,z5,c4⟩:=ci h4;refine Kw c3 λy y' p' pg lp ix xp e as p'' z6 hy h7 hy' h7' g4 g5 h5=>O1 c4 λnp n wp p2 p3 rp2 hp i z7 k6 k12 hi l5 l7 l8=>?_;rw[z1,z2,cv h1,cv h2,z3,z4,z5,z6,z7];obtain⟨fa,fd,ps,hm,hk,hb,F⟩:=rc.fns f y hy;obtain⟨fa',fd',ps',hm',hk',hb',F'⟩:=rc.fns f' y' hy';have hpl:=aY h5;have gl:=rc.G.gl h7;have gl':=rc.G.gl h7';obtain⟨fw,fdw,psW,NW,stw,w1,w2,w3,w4,w5,w6⟩:=rc.word;refine PSs.imp (iQ (E7 (i:=i) (iw:=iw) rc.stk rc.frm rc.xi F F' rc.G.room hk hb hk' hb' ((snd FU).a b X.nox _ es rc.G h5) (am (hpl e Zg)) (eF λe he=>hpl e (Zf _ he)) gl.1 hm gl.2 gl'.1 hm' gl'.2 (mV rc.G.hs rc.G.hN g4) g5 w2 w3 w4 w5 w6 (rc.G.gl k12).1 w1 (rc.G.gl k12).2 (by rw[show X.N=b.N from rc.G.hN];exact rc.G.nd) (by rw[show X.N=b.N from rc.G.hN];exact hi) (by rw[show X.env.scope=b.sc from rc.G.hs];exact l5) (rc.G.gl k6).1 l7 l8)) λD σ H q10=>?_;obtain⟨hD,m,ρ,S,r,S',Ev,Rl,e,q⟩:=q10;simp only[cj] at e;split at e
 rotate_left
 ·cases e
 rename_i z hz;split at e
 rotate_left
 ·cases e
 rename_i hz01;obtain⟨ds,S1,v,S2,e1,hl,eg,e⟩:=sN e;refine⟨decide (z=1),?_,λH0 x0=>?_⟩
 ·obtain⟨u,hu,vu⟩:=Ev.at_ _ _ hz;rw[hu,vu.ints];rcases hz01 with rfl |rfl <;> rfl
 have A0:=wL (Aft.refl Rl) x0
 have z2:(if decide (z=1)=true then spX X.K Ds (g f') (ar f') else spX X.K Ds (g f) (ar f))=spX X.K Ds (g (if z=1 then f' else f)) (ar (if z=1 then f' else f)):=by
  rcases hz01 with rfl |rfl <;> rfl
 refine⟨m,ρ,S,ds,S1,Ev.mono Rl A0.ext,A0.rel,e1,λm1 H1 vs A1 vd=>?_⟩;rw[z2];refine⟨m1,ds,S1,v,S2,vd,A1.rel,hl,eg,λm2 H2 A2=>?_⟩;have A1:=A0.trans A1;cases v with
 |val d=>cases e;exactλu vu=>q m2 H2 (A1.trans A2) u vu
 |exc j=>
  dsimp only at e;split at e
  ·rename_i h14;cases hw:mW[j]? with
   |none=>rw[hw] at e;cases e
   |some w=>
    rw[hw] at e;cases e;have hj:j < Ds.length:=by rw[rc.xi.len];lia
    exact⟨Ds[j],gEG hj,h14,j,Ds[j],w,rfl,gEG hj,h14,hw,λH3 x3=>q m2 H3 (wL (A1.trans A2) x3) _ lZ⟩
  ·cases e
theorem wM{k:Nat}(rc:RCx T g ar k b X E R Ds):∀ (rs:List RS) (ss:List Stmt),eG T b rs ss=true->PSs X ss (tRs X.K Ds E g ar rs)
 |[],ss,h=>Kx rc h
 |.pl c::rs,ss,h=>O2 rc (wM rc rs) h
 |.ck f es::rs,ss,h=>O3 rc (wM rc rs) h
 |.rz c i::rs,ss,h=>O5 rc (wM rc rs) h
 |.tr f f' iw es::rs,ss,h=>O6 rc h
theorem E9{i n:Nat}:FnOk P w K mg base (CXE P w) 0 f fd ps (spX K Ds (evX ae 0 i) n):=
 ⟨λvs H Q E h=>(by obtain⟨m,ds,S,d,S',_,_,_,e,_⟩:=h;cases e),λA outer s H args us vs Q E _ _ _ _ h=>(by obtain⟨m,ds,S,d,S',_,_,_,e,_⟩:=h;cases e)⟩
theorem wN(T:TextOk K mg con ae)(xi:XInf K mg R Ds)(kin:K.In base)(hc:ae.all (BL (o6 con ae))=true)(hw:ae.any wK=true):∀ (k i:Nat) (d:DefE),ae[i]?=some d->∀f fd,mg d.x=some (.ref f)->Fun K d.x d.x d.st f fd->FnOk P w K mg base (CXE P w) k f fd d.ps (spX K Ds (evX ae k i) d.ps.length)
 |0,i,d,_,f,fd,_,_=>E9
 |k+1,i,d,hd,f,fd,hm,F=>by
  have ih:=wN T xi kin hc hw k;have ck:=ZJ.mp hc d (Zh hd);unfold BL at ck;rw[bAE] at ck;have S:=wJ ck.1
  have word:∃fw fdw psW NW stw,mg gY=some (.ref fw)/\Fun K gY gY stw fw fdw/\FnScope NW psW (au stw)/\cV K fdw psW []/\psW.length=1/\sK ⟨au stw,none,NW⟩ dZ mW (ba stw)=true:=by
   obtain⟨dw,hmem,hq⟩:=YD.mp hw;obtain⟨j,hj⟩:=Z4 hmem;unfold wK at hq;obtain⟨q1,q2,q3⟩:=an3 hq;obtain⟨fw,fdw,m1,m2,m3,m4⟩:=T.fn j dw hj;have ck2:=ZJ.mp hc dw hmem;unfold BL at ck2;rw[bAE] at ck2;rw[<-eq_of_beq q1];exact⟨fw,fdw,dw.ps,dw.N,dw.st,m1,m4,wJ ck2.1,m3,by simpa using q2,q3⟩
  obtain⟨oc,od,kV,doc,pm,an,cdv,ct,osl,rfl,lk,hcd⟩:=F.ex;refine NJ lk hcd S (λvs H Q E h=>?_) λA outer s H vs Q E hr h=>?_
  ·obtain⟨m,ds,S,d',S',vd,_,hl,_⟩:=h;rw[<-vd.length,hl]
  ·have FX:∀ (j:Nat) (y:Str × Nat),(o6 con ae).fns[j]?=some y->cF ae j=y.2/\∃f fd ps,mg y.1=some (.ref f)/\Vi K (.ref f)=true/\cV K fd ps []/\FnOk P w K mg base (CXE P w) k f fd ps (spX K Ds (evX ae k j) (cF ae j)):=λj y hy=>by
    have hy':(ae.map λd=>(d.x,d.ps.length))[j]?=some y:=hy;rw[Zm] at hy';cases hj:ae[j]? with
    |none=>rw[hj] at hy';cases hy'
    |some e=>
     rw[hj] at hy';cases hy';have ha:cF ae j=e.ps.length:=by unfold cF;rw[hj]
     obtain⟨f',fd',m',k',b',F'⟩:=T.fn j e hj;refine⟨ha,f',fd',e.ps,m',k',b',?_⟩;rw[ha];exact ih j e hj f' fd' m' F'
   have G:CtxOk (o6 con ae) (toC (evX ae k)) (cF ae) k ⟨au d.st,none,d.N⟩ (nS (CXE P w) P w K mg base d.N d.x (au d.st) f cdv A outer s H E).nox:=by
    refine⟨rfl,rfl,rfl,rfl,S.nd,λ_ _=>rfl,hr,T.con,T.bl,λj y hy=>?_⟩;obtain⟨ha,f',fd',ps',m',k',b',F'⟩:=FX j y hy;exact⟨ha,f',fd',ps',m',k',b',F'.imp λvs H Q E q=>BM q⟩
   obtain⟨m,ds,S0,r,S',vd,Rl,hl,e,q⟩:=h;simp only[evX,hd] at e;cases hrb:d.rb with
   |none=>
    rw[hrb] at e ck;dsimp only at e ck;refine⟨_,((Kq FU).ss _ _ (ba d.st) d.body G S.kind ck.2).nox,?_⟩;unfold E8 at e;cases hx:fE (toC (evX ae k)) (cF ae) FU d.body (ds.map some++Zp (d.N.length - ds.length) none) S0 with
    |none=>rw[hx] at e;cases e
    |some z=>
     obtain⟨fl,ρ',S1⟩:=z;rw[hx] at e;refine⟨m,_,S0,fl,ρ',S1,o7 vd,Rl,hx,λm' H' A'=>?_⟩;cases fl with
     |nx=>cases e;exactλσ _=>q m' H' A' .non lY
     |rt v=>cases e;exactλu vu=>q m' H' A' u vu
     |bk=>cases e
     |ct=>cases e
   |some rs=>
    rw[hrb] at e ck;dsimp only at e ck
    have rc:RCx (o6 con ae) (evX ae k) (cF ae) k ⟨au d.st,none,d.N⟩ (nS (CXE P w) P w K mg base d.N d.x (au d.st) f cdv A outer s H E) E R Ds:=
     ⟨G,xi,kin,λj y hy=>(FX j y hy).2,Ow,λpins σ H s h1 e c args I mk hE=>Ox I mk hE,rfl,rfl,S.kind,word⟩
    exact⟨_,wM rc rs (ba d.st) ck.2,λ_ _ z=>z,m,_,S0,r,S',o7 vd,Rl,e,q⟩
end
abbrev wP(d:DefE):Option qW:=some ((d.x,d.x),(dm d.st,ba d.st),(au d.st,VU),([],.none),(VB,some d.x))
theorem wQ:∀ {l:List Nat},Iq l=true->l.Nodup
 |[],_=>X7
 |a::l,h=>by
  obtain⟨h1,h2⟩:=an2 h;refine Yg.mpr ⟨λhm=>?_,wQ h2⟩;rw[Xd.mpr hm] at h1;cases h1
abbrev cp(h:Heap)(x:Str):W6:=match h.nsMap VU x with
 | some (.ref C)=>(match h.get? C with
  | some ⟨c0,dd,.cls cd,sl⟩=>(C,⟨c0,dd,.cls cd,sl⟩)::(match h.get? cd.ns with
   |some ⟨c1,d1,.dict es ep,s1⟩=>[(cd.ns,⟨c1,d1,.dict es ep,s1⟩)]
   | _=>[])
  | _=>[])
 |_=>[]
@[inline]abbrev sO:=Bool × List (Option qW) × List (Option Int) × List Bool × Bool
abbrev yO(con:List (Str × Int))(ae:List DefE)(h:Heap):sO:=(h.isNs VU,ae.map (λd=>tN h d.x),con.map (λc=>Dn h c.1),(fF.map λx=>(h.nsMap VU x).isNone),zn h)
abbrev sP(con:List (Str × Int))(ae:List DefE):sO:=(true,ae.map wP,con.map (λc=>some c.2),(fF.map λ_=>true),true)
def HK(d:DefE):Prop:=∀ (kV doc pm:Value) (an:Option Addr) (cdv ct:Value) (us:List Value),us.length=d.ps.length->bindArgs (Ve d.x d.x (dm d.st) (ba d.st) (au d.st) .none kV doc pm an cdv ct) ⟨us,[]⟩=pure (d.ps.zip us)
def yP:List DefE->Prop
 |[]=>True
 |d::ds=>HK d/\yP ds
theorem yP.at:∀ {ds:List DefE} {d:DefE},yP ds->d ∈ ds->HK d
 |e::ds,d,h,hd=>by
  rcases Zk.mp hd with rfl |hd
  ·exact h.1
  ·exact yP.at h.2 hd
abbrev o8(h:Heap)(f:Addr):W6:=match h.get? f with
 | some o=>(f,o)::(match o.data with
  | .func fd=>(match fd.code with
   |.ref c=>(match h.get? c with |some oc=>[(c,oc)] |none=>[])
   | _=>[])
  | _=>[])
 |none=>[]
abbrev dC(h:Heap)(d:DefE):W6:=match h.nsMap VU d.x with
 |some (.ref f)=>o8 h f
 |_=>[]
def O7(K:W6):Prop:=∀a o,K.lookup a=some o->∀its n,o.data ≠ .seq its n
structure Says(con:List (Str × Int))(ae:List DefE)(h:Heap):Prop where
 ns:∃m,h.Ns VU m
 frag:∃K:W6,K.In h/\O7 K/\∀mg,h.Ns VU mg->TextOk K mg con ae
theorem mX{K:W6}{a:Addr}{o:Obj}(h:K.lookup a=some o):(a,o) ∈ K:=by
 induction K with
 |nil=>cases h
 |cons p K ih=>
  obtain⟨b,q⟩:=p;rw[ZP] at h;cases hb:a == b with
  |true=>
   rw[hb] at h;cases h;have:a=b:=by simpa using hb
   subst this;exact Zg
  |false=>rw[hb] at h;exact Zf _ (ih h)
theorem BN{K:W6}{a:Addr}{o:Obj}(h:(a,o) ∈ K):∃o',K.lookup a=some o':=by
 induction K with
 |nil=>cases h
 |cons p K ih=>
  obtain⟨b,q⟩:=p;rw[ZP];cases hb:a == b with
  |true=>exact⟨_,rfl⟩
  |false=>
   rcases Zk.mp h with e |h
   ·cases e;simp at hb
   ·exact ih h
theorem BO(e:(a,o) ∈ o8 h f):h.get? a=some o:=by
 unfold o8 at e;cases hf:h.get? f with
 |none=>rw[hf] at e;cases e
 |some of=>
  rw[hf] at e;dsimp only at e;rcases Zk.mp e with q |e
  ·cases q;exact hf
  ·split at e
   ·split at e
    ·rename_i c hc;cases hc':h.get? c with
     |none=>rw[hc'] at e;cases e
     |some oc=>
      rw[hc'] at e;dsimp only at e;rcases Zk.mp e with q |e
      ·cases q;exact hc'
      ·cases e
    ·cases e
   ·cases e
theorem Ky{h:Heap}{a:Addr}{mg:Str->Option Value}(N:h.Ns a mg):h.nsMap a=mg:=by
 obtain⟨o,es,ep,ho,hd,_,hm⟩:=N
 funext x
 unfold Heap.nsMap;rw[ho];dsimp only;rw[hd];exact hm x
theorem BP(e:tN h d.x=wP d):∃f oc od kV doc pm an c ct osl cc cd vs a t r cs,h.nsMap VU d.x=some (.ref f)/\h.get? f=some ⟨oc,od,.func (Ve d.x d.x (dm d.st) (ba d.st) (au d.st) .none kV doc pm an (.ref c) ct),osl⟩ ∧
  h.get? c=some ⟨cc,cd,.fields vs,cs⟩/\vs.toList=a :: .str d.x t::r:=by
 unfold tN wP at e;split at e
 ·rename_i f hf;unfold Nk at e;split at e
  ·rename_i oc od nm qn ps b sc gl cl dv kV doc pm an cdv ct bi osl hg;simp only[Option.some.injEq,Prod.mk.injEq] at e;obtain⟨⟨rfl,rfl⟩,⟨rfl,rfl⟩,⟨rfl,rfl⟩,⟨rfl,rfl⟩,rfl,e⟩:=e;unfold Hc at e;split at e
   ·rename_i c;split at e
    ·rename_i cc cd vs cs hc;split at e
     ·rename_i a n t r hv;cases e;exact⟨f,oc,od,kV,doc,pm,an,c,ct,osl,cc,cd,vs,a,t,r,cs,hf,hg,hc,hv⟩
     ·cases e
    ·cases e
   ·cases e
  ·cases e
 ·cases e
theorem sQ(e:(a,o) ∈ cp h x):h.get? a=some o/\∀its n,o.data ≠ .seq its n:=by
 unfold cp at e;split at e
 ·split at e
  ·rename_i C _ c0 dd cd sl hC;rcases Zk.mp e with q |e
   ·cases q;exact⟨hC,λ_ _ z=>nomatch z⟩
   ·split at e
    ·rename_i c1 d1 es ep s1 hN;rcases Zk.mp e with q |e
     ·cases q;exact⟨hN,λ_ _ z=>nomatch z⟩
     ·cases e
    ·cases e
  ·cases e
 ·cases e
theorem wR(e:Ip h x=true):∃dd cd sl,h.nsMap VU x=some (.ref (adX h x))/\(adX h x,(⟨.type "type", dd,.cls cd,sl⟩:Obj)) ∈ cp h x:=by
 unfold Ip at e;split at e
 ·rename_i C hx;split at e
  ·rename_i dd cd sl hC;have z:adX h x=C:=by unfold adX;rw[hx]
   refine⟨dd,cd,sl,by rw[hx,z],?_⟩;unfold cp;rw[hx,z];dsimp only;rw[hC];exact Zg
  ·cases e
 ·cases e
theorem wU{h:Heap}{bm:List Value}{x:Str}(e:Dp h bm x=true){K:W6}(lk:∀a o,(a,o) ∈ cp h x->K.lookup a=some o):h.nsMap VU x=some (.ref (adX h x))/\∀h',K.In h'->bv h' (adX h x) bm:=by
 unfold Dp at e;split at e
 ·rename_i C hx;split at e
  ·rename_i dd cd sl hC;split at e
   ·rename_i C' bm' k0 k1 k2 k3 n k5 hm hs;simp only[bAE,beq_iff_eq,Bool.not_eq_true',ZJ] at e;obtain⟨⟨⟨⟨⟨rfl,rfl⟩,rfl⟩,hdel⟩,hns⟩,hq⟩:=e;have z:adX h x=C':=by unfold adX;rw[hx]
    refine⟨by rw[hx,z],λh' KX=>?_⟩;rw[z];have N:=Heap.Ns.of_isNs hns;obtain⟨oN,es,ep,hN,hd,r⟩:=id N;obtain⟨c1,d1,dat,s1⟩:=oN;dsimp only at hd;subst hd
    have m1:(C',(⟨.type "type", dd,.cls cd,sl⟩:Obj)) ∈ cp h x:=by
     unfold cp;rw[hx];dsimp only;rw[hC];exact Zg
    have m2:(cd.ns,(⟨c1,d1,.dict es ep,s1⟩:Obj)) ∈ cp h x:=by
     unfold cp;rw[hx];dsimp only;rw[hC];dsimp only;rw[hN];exact Zf _ Zg
    have g1:=KX _ _ (lk _ _ m1);have g2:=KX _ _ (lk _ _ m2);obtain⟨nm,bs,mro,ns,qn,hdd,sn,sub,ab,col,del⟩:=cd;dsimp only at hm hdel hns hq N hN r m1 m2 g1 g2;subst hm hdel
    have hsl:sl=#[k0,k1,k2,k3,some (.builtin "ValueError.__new__"),k5]:=by
     obtain⟨l⟩:=sl;simp only at hs;rw[hs]
    subst hsl;exact⟨ns,nm,qn,bs,hdd,sn,sub,ab,col,dd,k0,k1,k2,k3,k5,h.nsMap ns,g1,⟨_,es,ep,g2,rfl,r⟩,λn hn=>by simpa using hq n hn⟩
   ·cases e
  ·cases e
 ·cases e
theorem Fa{h:Heap}(e:zn h=true){K:W6}{mg:Str->Option Value}(hm:h.nsMap VU=mg)(hb:mg "isinstance" = none)(lk:∀x,x ∈ ("RingError" : Str)::dZ->∀a o,(a,o) ∈ cp h x->K.lookup a=some o):XInf K mg (adX h "RingError") (dZ.map (adX h)):=by
 unfold zn at e;obtain⟨e1,e2,e3,e4,e5⟩:=an5 e;subst hm;have r1:=wU e1 (lk _ Zg);have nd:=Yg.mp (wQ e4);refine⟨r1.1,by simpa using e5,hb,r1.2,λh' KX i C hi h14=>?_,λh' KX D hD=>?_,nd.2,λD hD z=>nd.1 (z ▸ hD),λi x hx=>?_,by rw[Za];rfl⟩
 ·rw[Zm] at hi;cases hx:dZ[i]? with
  |none=>rw[hx] at hi;cases hi
  |some x=>
   rw[hx] at hi;cases hi;have hmem:x ∈ dZ.take 14:=Zh (i:=i) (by rw[YG h14];exact hx);exact(wU (ZJ.mp e2 x hmem) (lk x (Zf _ (Zh hx)))).2 h' KX
 ·obtain⟨x,hx,rfl⟩:=ZH.mp hD;obtain⟨dd,cd,sl,_,m⟩:=wR (ZJ.mp e3 x hx);exact⟨dd,cd,sl,KX _ _ (lk x (Zf _ hx) _ _ m)⟩
 ·obtain⟨dd,cd,sl,m,_⟩:=wR (ZJ.mp e3 x (Zh hx));exact⟨adX h x,by rw[Zm,hx];rfl,m⟩
theorem Fb{con:List (Str × Int)}{ae:List DefE}(hb:yP ae){h:Heap}(e:yO con ae h=sP con ae):Says con ae h:=by
 unfold yO sP at e;simp only[Prod.mk.injEq] at e;obtain⟨e0,e1,e2,e3,e4⟩:=e;have N:=Heap.Ns.of_isNs e0;have D:∀d ∈ ae,tN h d.x=wP d:=λd hd=>YZ.mp e1 d hd
 have inK:∀a o,(a,o) ∈ ae.flatMap (dC h)++(("RingError" : Str)::dZ).flatMap (cp h)->h.get? a=some o:=λa o he=>by
  rcases ZG.mp he with he |he
  rotate_left
  ·obtain⟨x,_,he⟩:=Z2.mp he;exact(sQ he).1
  obtain⟨d,hd,he⟩:=Z2.mp he;obtain⟨f,oc,od,kV,doc,pm,an,c,ct,osl,cc,cd,vs,a',t,r,cs,g1,g2,g3,g4⟩:=BP (D d hd);unfold dC at he;rw[g1] at he;exact BO he
 have lk:∀a o,(a,o) ∈ ae.flatMap (dC h)++(("RingError" : Str)::dZ).flatMap (cp h)->(ae.flatMap (dC h)++(("RingError" : Str)::dZ).flatMap (cp h)).lookup a=some o:=λa o he=>by
  obtain⟨o',q⟩:=BN he;have z:=inK a o' (mX q);rw[inK a o he] at z;cases z;exact q
 refine⟨⟨_,N⟩,ae.flatMap (dC h)++(("RingError" : Str)::dZ).flatMap (cp h),λa o q=>inK a o (mX q),λa o q its n hs=>?_,λmg G=>?_⟩
 ·rcases ZG.mp (mX q) with he |he
  rotate_left
  ·obtain⟨x,_,he⟩:=Z2.mp he;exact(sQ he).2 its n hs
  obtain⟨d,hd,he⟩:=Z2.mp he;obtain⟨f,oc,od,kV,doc,pm,an,c,ct,osl,cc,cd,vs,a',t,r,cs,g1,g2,g3,g4⟩:=BP (D d hd);unfold dC at he;rw[g1] at he;dsimp only at he;unfold o8 at he;rw[g2] at he;dsimp only at he;rw[g3] at he;dsimp only at he;rcases Zk.mp he with z |he
  ·cases z;cases hs
  ·rcases Zk.mp he with z |he
   ·cases z;cases hs
   ·cases he
 ·have hm:=Ky G
  have bl:∀x,x ∈ fF->mg x=none:=λx hx=>by
   have z:=YZ.mp e3 x hx;rw[hm] at z
   simpa using z
  refine⟨λi x v hi=>?_,bl,λi d hi=>?_,_,_,Fa e4 hm (bl _ (by decide)) λx hx a o ho=>lk a o (Zz _ (Z2.mpr ⟨x,hx,ho⟩))⟩
  ·have z:=YZ.mp e2 (x,v) (Zh hi);unfold Dn at z;rw[hm] at z;dsimp only at z;split at z
   ·rename_i v' t hv;cases z;exact⟨t,hv⟩
   ·cases z
  ·have hd:=Zh hi;obtain⟨f,oc,od,kV,doc,pm,an,c,ct,osl,cc,cd,vs,a',t,r,cs,g1,g2,g3,g4⟩:=BP (D d hd)
   have m1:(f,_) ∈ ae.flatMap (dC h)++(("RingError" : Str)::dZ).flatMap (cp h):=Yn _ <| Z2.mpr ⟨d,hd,by
    show _ ∈ dC h d;unfold dC;rw[g1];dsimp only;unfold o8;rw[g2];exact Zg⟩
   have m2:(c,_) ∈ ae.flatMap (dC h)++(("RingError" : Str)::dZ).flatMap (cp h):=Yn _ <| Z2.mpr ⟨d,hd,by
    show _ ∈ dC h d;unfold dC;rw[g1];dsimp only;unfold o8;rw[g2];dsimp only;rw[g3];exact Zf _ Zg⟩
   have l1:=lk _ _ m1;have l2:=lk _ _ m2;have kp:Vi (ae.flatMap (dC h)++(("RingError" : Str)::dZ).flatMap (cp h)) (.ref f)=true:=by unfold Vi;dsimp only;rw[l1]
   have cdI:Va (ae.flatMap (dC h)++(("RingError" : Str)::dZ).flatMap (cp h)) (.ref c) d.x=true:=by
    unfold Va;dsimp only;rw[l2];dsimp only;rw[g4];simp
   have F:=Jj (st:=d.st) (x:=d.x) (qual:=d.x) l1 cdI kp;refine⟨f,_,by rw[<-hm];exact g1,kp,F.binds (hb.at hd),F⟩
theorem uY(x:Says con ae h)(k:∀b o,h.get? b=some o->h'.get? b=some o):Says con ae h':=by
 obtain⟨⟨m,N⟩,K,KX,ns,T⟩:=x
 have back:∀mg,h'.Ns VU mg->h.Ns VU mg:=λmg ⟨o,es,ep,ho,r⟩=>by
  obtain⟨o',es',ep',ho',r'⟩:=N;have z:=k _ _ ho';rw[ho] at z;cases z;exact⟨o,es,ep,ho',r⟩
 refine⟨⟨m,let ⟨o,es,ep,ho,r⟩:=N;⟨o,es,ep,k _ _ ho,r⟩⟩,K,λa o q=>k _ _ (KX a o q),ns,λmg G=>T mg (back mg G)⟩
abbrev jQ(con:List (Str × Int))(ae:List DefE)(hb:yP ae):PySem.W.Hook:=
 ⟨sO,λs=>yO con ae s.heap,λ_=>sP con ae,λ_ h=>Says con ae h,λ_ _ e=>Fb hb e,λ_ _ _ x k=>uY x k⟩
theorem mY{K:W6}{m:List Addr}{H:Hp}:∀ns:List Int,VDs K m H (ns.map D.int) (ns.map V.int)
 |[]=>by rw[Yc,Yc,VDs]
 |a::l=>by rw[Zv,Zv,VDs];exact⟨_,_,rfl,aX,mY l⟩
theorem Fc{l:PySem.W.OpenLaw}{n k i:Nat}{q:Program}{loose:List Str}{XP:(Str->Option Value)->Heap->Prop}{d:DefRec}{con:List (Str × Int)}{ae:List DefE}{hb:yP ae}{dl:DefE}{x:Str}
  (hn:l.most=some n) (hn2:n<=sizeLine) (hdf:d.params.defaults=[]) (hr:Room k callerA) (hx:d.name=dl.x) (hi:ae[i]?=some dl) (hps:dl.ps=[x]) (hc:ae.all (BL (o6 con ae))=true) (hw:ae.any wK=true)
  (main:∀ns:List Int,ns.length<=n->∃S',evC ae k i [.ref 0] [.frz (ns.map D.int)]=some (.bl true,S')) :
  PySem.W.WalkO q loose XP (jQ con ae hb).says l.row.toRowW d [] (λf vs=>PySem.call f vs):=by
 refine Att.attach_call hn hdf λw s₀ s₁ mg mb fa o pm cd doc a vs ns G Y ho hd hcd hmg hobj hints hlen hg=>?_;obtain⟨_,K,KX,noS,T⟩:=(show Says con ae s₁.heap from Y);have T:=T mg G.T.g;obtain⟨R,Ds,xi⟩:=T.xs;obtain⟨f,fd,hm,kp,_,F⟩:=T.fn i dl hi;rw[hx] at hmg;rw[hmg] at hm;cases hm
 have bd:∀ (s:Shared) (u:Value),BindsTo s fd ⟨[u],[]⟩ [(x,u)]:=λs u=>by
  obtain⟨oc,od,kV,doc,pm,an,cdv,ct,osl,rfl,lk,hcd⟩:=F.ex;have z:=(hb.at (Zh hi)) kV doc pm an cdv ct [u] (by rw[hps];rfl);rw[hps] at z;exact .of_eq z
 refine zN (CX:=CXE l.row.toRowW.prog w) (sp:=spX K Ds (evX ae k i) dl.ps.length) KX G.T.g G.T.b G.T.builtins G.T.nolimit hg hobj hints (ZF hlen hn2) hr (λbase kin _=>by
  have:=wN (P:=l.row.toRowW.prog) (w:=w) (base:=base) T xi kin hc hw k i dl hi fa fd hmg F;rw[hps] at this ⊢;exact this) bd (λH hO hS=>?_) λH e s' ⟨_,_,_,_,_,_,_,_,z⟩=>z
 have fz:∃o,H a=some (.frz o (.lst (ns.map V.int))):=by
  rcases hS with (z |⟨o,z⟩) |⟨o,its,n',hk,hc,hdd,hdt,_⟩
  ·rcases hO a with y |⟨o',xs,y⟩
   ·rw[y] at z;cases z
   ·rw[y] at z;cases z
  ·exact⟨o,z⟩
  ·exact absurd hdt (noS a o hk its n')
 obtain⟨o,fz⟩:=fz;obtain⟨S',e⟩:=main ns hlen;refine BM ⟨[a],[.ref 0],[.frz (ns.map D.int)],.bl true,S',?_,⟨rfl,by simp,λj ob ej=>?_⟩,by rw[hps];rfl,e,λm' H' v A vv=>vv.bls⟩
 ·rw[VDs];exact⟨_,_,rfl,by rw[VD];exact⟨a,rfl,rfl⟩,by rw[VDs]⟩
 ·cases j with
  |zero=>cases ej;exact⟨a,rfl,o,_,fz,mY ns⟩
  |succ j=>simp at ej
end Ev
namespace Lw
open PySem Ev
abbrev mZ:List CS:=[.ret (.and (.inst .int (.var 0)) (.not (.inst .bool (.var 0))))]
abbrev km:List CS:=[.ret (.and (.call 0 [.var 0]) (.chn .le .le (.var 1) (.var 0) (.var 2)))]
abbrev ko:List CS:=[.ret (.call 1 [.var 0,.int 0,.con 0 9999])]
abbrev m6:List CS:=[.ret (.and (.inst .tuple (.var 0)) (.chn .le .le (.var 1) (.len (.var 0)) (.var 2)))]
abbrev i8:List CS:=[.ifs (.or (.not (.call 3 [.var 0,.int 0,.var 1])) (.not (.all (.comp ["number"] (.call 1 [.var 2,.int 0,.bin .sub (.var 1) (.int 1)]) [⟨.name 2,.val (.var 0),none⟩])))) [.ret (.bl false)] [],.ret (.all (.comp ["number"] (.cmp .eq (.cnt (.var 0) (.var 2)) (.int 1)) [⟨.name 2,.val (.var 0),none⟩]))]
abbrev kq:List CS:=[.ifs (.not (.call 3 [.var 0,.int 4,.int 4])) [.ret (.bl false)] [],.asg (.tup [.name 1,.name 2,.name 3,.name 4]) (.var 0),.ret (.and (.call 1 [.var 1,.int 0,.con 1 8]) (.and (.call 1 [.var 2,.int 0,.con 2 60]) (.and (.call 6 [.var 3]) (.call 9 [.var 4]))))]
abbrev m7:List CS:=[.ifs (.not (.call 3 [.var 0,.int 1,.con 3 4])) [.ret (.bl false)] [],.ret (.and (.all (.comp ["row"] (.call 7 [.var 1,.len (.var 0)]) [⟨.name 1,.val (.var 0),none⟩])) (.call 8 [.var 0]))]
abbrev i9:List CS:=[.ret (.and (.call 3 [.var 0,.var 1,.var 1]) (.all (.comp ["gap"] (.call 1 [.var 2,.int 1,.con 4 99]) [⟨.name 2,.val (.var 0),none⟩])))]
abbrev bP:List CS:=[.asg (.name 1) (.listR (.len (.var 0))),.ret (.all (.comp ["a", "b", "c"] (.cmp .le (.ix (.ix (.var 0) (.var 2)) (.var 3)) (.bin .add (.ix (.ix (.var 0) (.var 2)) (.var 4)) (.ix (.ix (.var 0) (.var 4)) (.var 3)))) [⟨.name 2,.val (.var 1),none⟩,⟨.name 3,.val (.var 1),none⟩,⟨.name 4,.val (.var 1),none⟩]))]
abbrev kr:List CS:=[.ifs (.or (.not (.call 3 [.var 0,.int 0,.con 5 4])) (.not (.all (.comp ["part"] (.call 10 [.var 1]) [⟨.name 1,.val (.var 0),none⟩])))) [.ret (.bl false)] [],.ret (.all (.comp ["at"] (.cmp .gt (.ix (.ix (.var 0) (.var 1)) (.int 0)) (.ix (.ix (.var 0) (.bin .sub (.var 1) (.int 1))) (.int 1))) [⟨.name 1,.r2 (.int 1) (.len (.var 0)),none⟩]))]
abbrev ja:List CS:=[.ret (.and (.call 3 [.var 0,.int 2,.int 2]) (.and (.call 2 [.ix (.var 0) (.int 0)]) (.and (.call 2 [.ix (.var 0) (.int 1)]) (.cmp .lt (.ix (.var 0) (.int 0)) (.ix (.var 0) (.int 1))))))]
abbrev o9:List CS:=[.ret (.call 1 [.var 1,.int 0,.bin .sub (.len (.ix (.var 0) (.int 2))) (.int 1)])]
abbrev pc:List CS:=[.ret (.any (.comp ["begin", "end"] (.chn .le .lt (.var 2) (.var 1) (.var 3)) [⟨.tup [.name 2,.name 3],.val (.ix (.var 0) (.int 3)),none⟩]))]
abbrev sR:List CS:=[.ifs (.not (.call 3 [.var 0,.int 4,.int 4])) [.ret (.bl false)] [],.asg (.tup [.name 1,.name 2,.name 3,.name 4]) (.var 0),.ret (.and (.call 5 [.var 1]) (.and (.call 14 [.var 1,.var 2]) (.and (.call 15 [.var 1,.var 3]) (.call 17 [.var 3,.var 4]))))]
abbrev m8:List CS:=[.ifs (.cmp .is (.var 1) .non) [.ret (.bl true)] [],.ret (.and (.call 3 [.var 1,.int 2,.int 2]) (.and (.call 11 [.var 0,.ix (.var 1) (.int 0)]) (.call 2 [.ix (.var 1) (.int 1)])))]
abbrev gZ:List CS:=[.ret (.and (.call 3 [.var 1,.int 0,.con 6 7]) (.all (.comp ["part"] (.call 16 [.var 0,.var 2]) [⟨.name 2,.val (.var 1),none⟩])))]
abbrev ku:List CS:=[.ifs (.not (.call 3 [.var 1,.int 7,.int 7])) [.ret (.bl false)] [],.asg (.tup [.name 2,.name 3,.name 4,.name 5,.name 6,.name 7,.name 8]) (.var 1),.ifs (.not (.all (.comp ["minute"] (.call 2 [.var 9]) [⟨.name 9,.val (.tup [.var 3,.var 4,.var 5,.var 6]),none⟩]))) [.ret (.bl false)] [],.ifs (.not (.chn .le .le (.bin .add (.var 3) (.ix (.var 0) (.int 1))) (.var 4) (.var 5))) [.ret (.bl false)] [],.ret (.and (.call 11 [.var 0,.var 2]) (.and (.call 1 [.var 7,.int 0,.con 7 99]) (.call 1 [.var 8,.int 0,.ix (.var 0) (.int 0)])))]
abbrev kx:List CS:=[.ifs (.not (.call 4 [.var 1,.len (.var 0)])) [.ret (.bl false)] [],.ret (.all (.comp ["number", "glider"] (.or (.cmp .eq (.ix (.var 3) (.int 6)) (.int 0)) (.cmp .isin (.var 2) (.var 1))) [⟨.tup [.name 2,.name 3],.en (.var 0),none⟩]))]
abbrev fU:List RS:=[.rz (.not (.call 13 [.var 0])) 1]
abbrev jR:List RS:=[.ck 23 [.var 0,.var 1],.pl (.ret (.mxD (.comp ["glider", "minute"] (.var 3) [⟨.tup [.name 2,.name 3],.val (.var 1),none⟩]) 0))]
abbrev jS:List RS:=[.ck 23 [.var 0,.var 1],.pl (.ret (.call 21 [.var 0,.var 1]))]
abbrev fm:List CS:=[.ret (.sm (.comp ["glider", "minute"] (.call 22 [.ix (.ix (.var 0) (.int 2)) (.var 2),.var 3]) [⟨.tup [.name 2,.name 3],.val (.var 1),none⟩]))]
abbrev hF:List CS:=[.asg (.tup [.name 2,.name 3,.name 4,.name 5,.name 6,.name 7,.name 8]) (.var 0),.ret (.bin .mul (.var 7) (.mx (.int 0) (.bin .sub (.var 1) (.var 6))))]
abbrev dJ:List RS:=[.ck 18 [.var 0],.rz (.not (.call 24 [.var 0,.var 1])) 2]
abbrev ky:List CS:=[.ret (.and (.call 25 [.var 1]) (.cmp .is (.call 27 [.var 0,.var 1]) .non))]
abbrev kz:List CS:=[.ifs (.or (.not (.inst .list (.var 0))) (.cmp .gt (.len (.var 0)) (.con 8 20))) [.ret (.bl false)] [],.ret (.all (.comp ["part"] (.call 26 [.var 1]) [⟨.name 1,.val (.var 0),none⟩]))]
abbrev pd:List CS:=[.ret (.and (.call 3 [.var 0,.int 2,.int 2]) (.and (.call 0 [.ix (.var 0) (.int 0)]) (.call 0 [.ix (.var 0) (.int 1)])))]
abbrev hU:List CS:=[.for_ (.name 2) (.r1 (.len (.var 1))) [.asg (.name 3) (.call 28 [.var 0,.var 1,.var 2]),.ifs (.cmp .isnot (.var 3) .non) [.ret (.tup [.var 3,.ix (.ix (.var 1) (.var 2)) (.int 0)])] []],.asg (.name 4) (.call 32 [.var 0,.var 1]),.ifs (.cmp .isnot (.var 4) .non) [.ret (.tup [.str "lacks", .var 4])] [],.asg (.name 5) (.call 36 [.var 0,.var 1]),.ifs (.cmp .isnot (.var 5) .non) [.ret (.tup [.str "rings", .var 5])] [],.asg (.name 6) (.call 37 [.var 0,.var 1]),.ifs (.cmp .isnot (.var 6) .non) [.ret (.tup [.str "ring", .var 6])] [],.ret .non]
abbrev fo:List CS:=[.asg (.tup [.name 3,.name 4,.name 5,.name 6]) (.var 0),.asg (.name 7) (.ix (.ix (.var 1) (.var 2)) (.int 0)),.ifs (.not (.chn .le .lt (.int 0) (.var 7) (.len (.var 5)))) [.ret (.str "none")] [],.ifs (.cmp .isin (.var 7) (.comp ["other", "minute"] (.var 8) [⟨.tup [.name 8,.name 9],.val (.sl (.var 1) none (some (.var 2))),none⟩])) [.ret (.str "twice")] [],.ifs (.and (.cmp .lt (.var 2) (.len (.var 6))) (.cmp .ne (.var 7) (.ix (.var 6) (.var 2)))) [.ret (.str "order")] [],.ret (.call 29 [.var 0,.var 1,.var 2])]
abbrev fV:List CS:=[.asg (.tup [.name 3,.name 4,.name 5,.name 6]) (.var 0),.asg (.tup [.name 7,.name 8]) (.ix (.var 1) (.var 2)),.asg (.tup [.name 9,.name 10,.name 11,.name 12,.name 13,.name 14,.name 15]) (.ix (.var 5) (.var 7)),.ifs (.cmp .lt (.var 8) (.var 11)) [.ret (.str "soon")] [],.ifs (.cmp .gt (.var 8) (.var 12)) [.ret (.str "late")] [],.ifs (.call 12 [.var 3,.var 8]) [.ret (.str "shut")] [],.ifs (.cmp .lt (.var 8) (.call 31 [.var 0,.call 30 [.var 0,.sl (.var 1) none (some (.var 2))],.var 9])) [.ret (.str "gap")] [],.ret .non]
abbrev fq:List CS:=[.ifs (.not (.var 1)) [.ret (.ix (.var 0) (.int 1))] [],.asg (.tup [.name 2,.name 3]) (.ix (.var 1) (.neg (.int 1))),.ret (.tup [.ix (.ix (.ix (.var 0) (.int 2)) (.var 2)) (.int 0),.var 3])]
abbrev pj:List CS:=[.ifs (.cmp .is (.var 1) .non) [.ret (.int 0)] [],.ret (.bin .add (.ix (.var 1) (.int 1)) (.ix (.ix (.ix (.ix (.var 0) (.int 0)) (.int 2)) (.ix (.var 1) (.int 0))) (.var 2)))]
abbrev ft:List CS:=[.asg (.name 2) (.comp ["glider", "minute"] (.var 4) [⟨.tup [.name 4,.name 5],.val (.var 1),none⟩]),.for_ (.name 3) (.r1 (.len (.ix (.var 0) (.int 2)))) [.ifs (.cmp .notin (.var 3) (.var 2)) [.ret (.var 3)] []],.ret .non]
abbrev m9:List CS:=[.asg (.tup [.name 3,.name 4]) (.var 1),.ret (.chn .le .lt (.ix (.ix (.ix (.var 0) (.int 2)) (.var 3)) (.int 1)) (.var 2) (.bin .sub (.var 4) (.ix (.ix (.var 0) (.int 0)) (.int 1))))]
abbrev fu:List CS:=[.ret (.len (.comp ["landing"] (.var 3) [⟨.name 3,.val (.var 1),some (.call 33 [.var 0,.var 3,.var 2])⟩]))]
abbrev dD:List CS:=[.ret (.srt (.comp ["glider"] (.ix (.var 1) (.int 1)) [⟨.name 1,.val (.ix (.var 0) (.int 2)),none⟩]))]
abbrev fA:List CS:=[.for_ (.name 2) (.val (.call 35 [.var 0])) [.ifs (.cmp .gt (.call 34 [.var 0,.var 1,.var 2]) (.ix (.ix (.var 0) (.int 0)) (.int 0))) [.ret (.var 2)] []],.ret .non]
abbrev eI:List CS:=[.for_ (.tup [.name 2,.name 3]) (.en (.var 1)) [.ifs (.call 38 [.var 0,.var 1,.var 2]) [.ret (.ix (.var 3) (.int 0))] []],.ret .non]
abbrev hV:List CS:=[.asg (.tup [.name 3,.name 4,.name 5,.name 6,.name 7,.name 8,.name 9]) (.ix (.ix (.var 0) (.int 2)) (.ix (.ix (.var 1) (.var 2)) (.int 0))),.ret (.and (.cmp .gt (.var 9) (.int 0)) (.and (.call 33 [.var 0,.ix (.var 1) (.var 2),.var 4]) (.cmp .gt (.call 39 [.var 0,.var 1,.var 2,.var 4]) (.var 9))))]
abbrev hX:List CS:=[.asg (.name 4) (.sl (.var 1) none (some (.var 2))),.asg (.name 5) (.comp ["when"] (.var 6) [⟨.name 6,.val (.call 35 [.var 0]),some (.and (.cmp .gt (.var 6) (.var 3)) (.call 33 [.var 0,.ix (.var 1) (.var 2),.var 6]))⟩]),.ret (.mxL (.comp ["when"] (.bin .add (.int 1) (.call 34 [.var 0,.var 4,.var 6])) [⟨.name 6,.val (.bin .add (.lst [.var 3]) (.var 5)),none⟩]))]
abbrev hY:List CS:=[.ifs (.cmp .lt (.var 1) (.len (.var 0))) [.ret (.ix (.var 0) (.var 1))] [],.ret (.int 0)]
abbrev pk:List CS:=[.ifs (.cmp .ge (.var 0) (.bin .pow (.int 10) (.int 18))) [.ret (.lst [.bin .sub (.var 0) (.bin .pow (.int 10) (.int 18))])] [],.asg (.name 1) (.int 0),.for_ (.name 2) (.r1 (.int 64)) [.asg (.name 3) (.bin .mod (.bin .mul (.bin .add (.bin .add (.bin .mod (.var 0) (.int 2147483629)) (.bin .mul (.int 7919) (.var 2))) (.int 1)) (.int 48271)) (.int 2147483647)),.asg (.name 3) (.bin .mod (.bin .add (.bin .add (.bin .mul (.var 3) (.var 3)) (.bin .mul (.int 69621) (.var 2))) (.int 7)) (.int 2147483587)),.asg (.name 1) (.bin .add (.bin .mul (.var 1) (.int 2147483587)) (.var 3))],.ret (.lst [.var 1])]
abbrev nc:List CS:=[.asg (.name 2) (.bin .mod (.ix (.var 0) (.int 0)) (.var 1)),.setI (.bin .fdiv (.ix (.var 0) (.int 0)) (.var 1)) (.var 0) (.int 0),.ret (.var 2)]
abbrev dc:List CS:=[.asg (.name 1) (.bin .add (.int 1) (.call 42 [.var 0,.int 4])),.asg (.name 2) (.comp ["_law_a"] (.comp ["_law_b"] (.bin .add (.int 1) (.call 42 [.var 0,.int 9])) [⟨.name 5,.r1 (.var 1),none⟩]) [⟨.name 4,.r1 (.var 1),none⟩]),.ifs (.cmp .eq (.call 42 [.var 0,.int 8]) (.int 0)) [.asg (.name 2) (.comp ["_law_row"] (.comp ["_law_gap"] (.bin .sub (.int 99) (.call 42 [.var 0,.int 3])) [⟨.name 5,.val (.var 4),none⟩]) [⟨.name 4,.val (.var 2),none⟩])] [],.for_ (.name 3) (.r1 (.var 1)) [.asg (.name 2) (.comp ["_law_row"] (.comp ["_law_b", "_law_gap"] (.mn (.var 6) (.bin .add (.ix (.var 4) (.var 3)) (.ix (.ix (.var 2) (.var 3)) (.var 5)))) [⟨.tup [.name 5,.name 6],.en (.var 4),none⟩]) [⟨.name 4,.val (.var 2),none⟩])],.ret (.tupOf (.comp ["_law_row"] (.tupOf (.var 4)) [⟨.name 4,.val (.var 2),none⟩]))]
abbrev kA:List CS:=[.asg (.tup [.name 2,.name 3]) (.tup [.lst [],.var 1]),.for_ (.name 4) (.r1 (.ix (.lst [.int 0,.int 1,.int 2,.int 3,.int 4]) (.call 42 [.var 0,.int 5]))) [.asg (.name 3) (.bin .add (.bin .add (.var 3) (.int 1)) (.call 42 [.var 0,.int 14])),.ex (.app (.var 2) (.tup [.var 3,.bin .add (.bin .add (.var 3) (.int 1)) (.call 42 [.var 0,.int 6])])),.asg (.name 3) (.ix (.ix (.var 2) (.neg (.int 1))) (.int 1))],.ret (.tupOf (.var 2))]
abbrev jc:List CS:=[.asg (.name 1) (.ix (.lst [.int 2,.int 1,.int 3,.int 8,.int 0]) (.call 42 [.var 0,.int 5])),.ret (.tup [.var 1,.ix (.lst [.int 2,.int 0,.int 1,.int 5,.int 60]) (.call 42 [.var 0,.int 5]),.call 43 [.var 0],.call 44 [.var 0,.int 0]])]
abbrev jd:List CS:=[.asg (.name 2) (.call 42 [.var 0,.int 40]),.asg (.name 3) (.bin .add (.bin .add (.var 2) (.ix (.var 1) (.int 1))) (.ix (.lst [.int 0,.int 0,.call 42 [.var 0,.int 9]]) (.call 42 [.var 0,.int 3]))),.asg (.name 4) (.bin .add (.var 3) (.ix (.lst [.call 42 [.var 0,.int 5],.bin .add (.int 5) (.call 42 [.var 0,.int 20]),.int 60,.int 200]) (.call 42 [.var 0,.int 4]))),.asg (.name 5) (.ix (.lst [.var 3,.bin .add (.var 2) (.call 42 [.var 0,.int 30]),.call 42 [.var 0,.int 90]]) (.call 42 [.var 0,.int 3])),.ret (.tup [.call 42 [.var 0,.len (.ix (.var 1) (.int 2))],.var 2,.var 3,.var 4,.var 5,.call 42 [.var 0,.int 10],.int 0])]
abbrev kB:List CS:=[.asg (.name 2) (.listOf (.var 1)),.ret (.comp ["_law_one"] (.popAt (.var 2) (.call 42 [.var 0,.len (.var 2)])) [⟨.name 3,.val (.var 1),none⟩])]
abbrev jT:List CS:=[.asg (.name 2) (.call 45 [.var 0]),.asg (.name 3) (.comp ["_law_g"] (.call 46 [.var 0,.var 2]) [⟨.name 8,.r1 (.call 42 [.var 0,.bin .add (.var 1) (.int 1)]),none⟩]),.asg (.name 4) (.listR (.len (.var 3))),.ifs (.cmp .eq (.call 42 [.var 0,.int 2]) (.int 0)) [.asg (.name 4) (.comp ["_law_pair"] (.ix (.var 8) (.int 1)) [⟨.name 8,.val (.srt (.comp ["_law_g", "_law_glider_here"] (.tup [.ix (.var 9) (.int 2),.var 8]) [⟨.tup [.name 8,.name 9],.en (.var 3),none⟩])),none⟩])] [.asg (.name 4) (.call 47 [.var 0,.var 4])],.asg (.name 5) (.sl (.var 4) none (some (.ix (.lst [.int 0,.int 1,.int 2,.int 3]) (.call 42 [.var 0,.int 4])))),.for_ (.name 6) (.val (.var 5)) [.ifs (.and (.cmp .eq (.call 42 [.var 0,.int 2]) (.int 0)) (.cmp .gt (.ix (.var 2) (.int 0)) (.int 0))) [.setI (.bin .add (.sl (.ix (.var 3) (.var 6)) none (some (.int 6))) (.tup [.bin .add (.int 1) (.call 42 [.var 0,.ix (.var 2) (.int 0)])])) (.var 3) (.var 6)] []],.asg (.name 7) .non,.ifs (.cmp .eq (.call 42 [.var 0,.int 2]) (.int 0)) [.asg (.name 7) (.tup [.call 42 [.var 0,.len (.ix (.var 2) (.int 2))],.call 42 [.var 0,.int 20]])] [],.ret (.tup [.var 2,.var 7,.tupOf (.var 3),.tupOf (.var 5)])]
abbrev kC:List CS:=[.ret (.bin .add (.ix (.var 1) (.int 3)) (.tupOf (.call 47 [.var 0,.comp ["_law_g"] (.var 2) [⟨.name 2,.r1 (.len (.ix (.var 1) (.int 2))),some (.cmp .notin (.var 2) (.ix (.var 1) (.int 3)))⟩]])))]
abbrev ng:List CS:=[.asg (.name 2) (.var 1),.for_ (.name 3) (.r1 (.bin .add (.len (.var 0)) (.int 1))) [.for_ (.tup [.name 4,.name 5]) (.val (.var 0)) [.ifs (.chn .le .lt (.var 4) (.var 2) (.var 5)) [.asg (.name 2) (.var 5)] []]],.ret (.var 2)]
abbrev pw:List CS:=[.asg (.tup [.name 2,.name 3]) (.tup [.lst [],.ix (.var 0) (.int 1)]),.for_ (.name 4) (.val (.var 1)) [.asg (.name 5) (.ix (.ix (.ix (.var 0) (.int 2)) (.var 4)) (.int 2)),.ifs (.cmp .isnot (.var 3) .non) [.asg (.name 5) (.mx (.var 5) (.bin .add (.ix (.var 3) (.int 1)) (.ix (.ix (.ix (.ix (.var 0) (.int 0)) (.int 2)) (.ix (.var 3) (.int 0))) (.ix (.ix (.ix (.var 0) (.int 2)) (.var 4)) (.int 0)))))] [],.asg (.name 5) (.call 50 [.ix (.ix (.var 0) (.int 0)) (.int 3),.var 5]),.ex (.app (.var 2) (.tup [.var 4,.var 5])),.asg (.name 3) (.tup [.ix (.ix (.ix (.var 0) (.int 2)) (.var 4)) (.int 0),.var 5])],.ret (.var 2)]
abbrev kD:List CS:=[.ret (.chn .le .lt (.ix (.ix (.ix (.var 0) (.int 2)) (.ix (.var 1) (.int 0))) (.int 1)) (.var 2) (.bin .sub (.ix (.var 1) (.int 1)) (.ix (.ix (.var 0) (.int 0)) (.int 1))))]
abbrev ni:List CS:=[.asg (.name 4) (.int 0),.for_ (.name 5) (.r2 (.var 3) (.bin .sub (.ix (.ix (.var 1) (.var 2)) (.int 1)) (.ix (.ix (.var 0) (.int 0)) (.int 1)))) [.asg (.name 4) (.mx (.var 4) (.bin .add (.int 1) (.len (.comp ["_law_one"] (.var 6) [⟨.name 6,.val (.sl (.var 1) none (some (.var 2))),some (.call 52 [.var 0,.var 6,.var 5])⟩]))))],.ret (.var 4)]
abbrev bf:List CS:=[.asg (.tup [.name 3,.name 4]) (.ix (.var 1) (.var 2)),.ifs (.not (.chn .le .lt (.int 0) (.var 3) (.len (.ix (.var 0) (.int 2))))) [.ret (.tup [.str "none", .var 3])] [],.ifs (.cmp .isin (.var 3) (.comp ["_law_one"] (.ix (.var 6) (.int 0)) [⟨.name 6,.val (.sl (.var 1) none (some (.var 2))),none⟩])) [.ret (.tup [.str "twice", .var 3])] [],.ifs (.and (.cmp .lt (.var 2) (.len (.ix (.var 0) (.int 3)))) (.cmp .ne (.ix (.ix (.var 0) (.int 3)) (.var 2)) (.var 3))) [.ret (.tup [.str "order", .var 3])] [],.ifs (.cmp .lt (.var 4) (.ix (.ix (.ix (.var 0) (.int 2)) (.var 3)) (.int 2))) [.ret (.tup [.str "soon", .var 3])] [],.ifs (.cmp .gt (.var 4) (.ix (.ix (.ix (.var 0) (.int 2)) (.var 3)) (.int 3))) [.ret (.tup [.str "late", .var 3])] [],.ifs (.cmp .ne (.comp ["_law_begin", "_law_end"] (.var 6) [⟨.tup [.name 6,.name 7],.val (.ix (.ix (.var 0) (.int 0)) (.int 3)),some (.chn .le .lt (.var 6) (.var 4) (.var 7))⟩]) (.lst [])) [.ret (.tup [.str "shut", .var 3])] [],.asg (.name 5) (.ix (.var 0) (.int 1)),.ifs (.cmp .gt (.var 2) (.int 0)) [.asg (.name 5) (.tup [.ix (.ix (.ix (.var 0) (.int 2)) (.ix (.ix (.var 1) (.bin .sub (.var 2) (.int 1))) (.int 0))) (.int 0),.ix (.ix (.var 1) (.bin .sub (.var 2) (.int 1))) (.int 1)])] [],.ifs (.and (.cmp .isnot (.var 5) .non) (.cmp .lt (.var 4) (.bin .add (.ix (.var 5) (.int 1)) (.ix (.ix (.ix (.ix (.var 0) (.int 0)) (.int 2)) (.ix (.var 5) (.int 0))) (.ix (.ix (.ix (.var 0) (.int 2)) (.var 3)) (.int 0)))))) [.ret (.tup [.str "gap", .var 3])] [],.ret .non]
abbrev kE:List CS:=[.for_ (.name 2) (.r1 (.len (.var 1))) [.asg (.name 3) (.call 54 [.var 0,.var 1,.var 2]),.ifs (.cmp .isnot (.var 3) .non) [.ret (.var 3)] []],.asg (.name 4) (.comp ["_law_one"] (.ix (.var 9) (.int 0)) [⟨.name 9,.val (.var 1),none⟩]),.asg (.name 5) (.comp ["_law_g"] (.var 9) [⟨.name 9,.r1 (.len (.ix (.var 0) (.int 2))),some (.cmp .notin (.var 9) (.var 4))⟩]),.ifs (.cmp .ne (.var 5) (.lst [])) [.ret (.tup [.str "lacks", .ix (.var 5) (.int 0)])] [],.for_ (.name 6) (.r1 (.mxL (.bin .add (.lst [.int 0]) (.comp ["_law_glider_here"] (.bin .add (.ix (.var 9) (.int 1)) (.int 1)) [⟨.name 9,.val (.ix (.var 0) (.int 2)),none⟩])))) [.ifs (.cmp .gt (.len (.comp ["_law_one"] (.var 9) [⟨.name 9,.val (.var 1),some (.call 52 [.var 0,.var 9,.var 6])⟩])) (.ix (.ix (.var 0) (.int 0)) (.int 0))) [.ret (.tup [.str "rings", .var 6])] []],.for_ (.tup [.name 2,.name 7]) (.en (.var 1)) [.asg (.name 8) (.ix (.ix (.var 0) (.int 2)) (.ix (.var 7) (.int 0))),.ifs (.and (.cmp .gt (.ix (.var 8) (.int 6)) (.int 0)) (.cmp .gt (.call 53 [.var 0,.var 1,.var 2,.ix (.var 8) (.int 1)]) (.ix (.var 8) (.int 6)))) [.ret (.tup [.str "ring", .ix (.var 7) (.int 0)])] []],.ret .non]
abbrev nj:List CS:=[.asg (.name 2) (.int 0),.for_ (.tup [.name 3,.name 4]) (.val (.var 1)) [.ifs (.cmp .gt (.var 4) (.ix (.ix (.ix (.var 0) (.int 2)) (.var 3)) (.int 4))) [.asg (.name 2) (.bin .add (.var 2) (.bin .mul (.ix (.ix (.ix (.var 0) (.int 2)) (.var 3)) (.int 5)) (.bin .sub (.var 4) (.ix (.ix (.ix (.var 0) (.int 2)) (.var 3)) (.int 4)))))] []],.ret (.var 2)]
abbrev dM:List CS:=[.asg (.name 2) .non,.for_ (.name 3) (.r1 (.int 8)) [.asg (.name 4) (.call 51 [.var 1,.call 49 [.var 0,.var 1]]),.ifs (.and (.cmp .is (.var 2) .non) (.cmp .is (.call 55 [.var 1,.var 4]) .non)) [.asg (.name 2) (.var 4)] []],.ifs (.cmp .is (.var 2) .non) [.ret .non] [],.asg (.name 5) (.comp ["_law_one"] (.ix (.var 10) (.int 0)) [⟨.name 10,.val (.var 2),none⟩]),.asg (.tup [.name 6,.name 7]) (.tup [.call 42 [.var 0,.bin .add (.len (.var 5)) (.int 1)],.call 42 [.var 0,.int 7]]),.asg (.name 8) (.comp ["_law_g", "_law_glider_here"] (.bin .add (.bin .add (.sl (.var 11) none (some (.int 2))) (.tup [.bin .add (.ix (.var 11) (.int 2)) (.bin .mul (.var 7) (.intOf (.cmp .isin (.var 10) (.sl (.var 5) (some (.var 6)) none))))])) (.sl (.var 11) (some (.int 3)) none)) [⟨.tup [.name 10,.name 11],.en (.ix (.var 1) (.int 2)),none⟩]),.asg (.name 9) (.call 51 [.tup [.ix (.var 1) (.int 0),.ix (.var 1) (.int 1),.var 8,.ix (.var 1) (.int 3)],.var 5]),.ifs (.cmp .is (.call 55 [.var 1,.var 9]) .non) [.ret (.var 9)] [],.ret (.var 2)]
abbrev je:List CS:=[.asg (.name 3) (.listOf (.var 1)),.asg (.name 4) (.call 42 [.var 0,.int 8]),.ifs (.or (.cmp .eq (.var 3) (.lst [])) (.cmp .eq (.var 4) (.int 0))) [.ex (.ins (.var 3) (.call 42 [.var 0,.bin .add (.len (.var 3)) (.int 1)]) (.tup [.bin .sub (.call 42 [.var 0,.bin .add (.len (.ix (.var 2) (.int 2))) (.int 2)]) (.int 1),.call 42 [.var 0,.int 120]])),.ret (.var 3)] [],.asg (.tup [.name 5,.name 6]) (.tup [.call 42 [.var 0,.len (.var 3)],.call 42 [.var 0,.len (.var 3)]]),.asg (.tup [.name 7,.name 8]) (.ix (.var 3) (.var 5)),.ifs (.cmp .eq (.var 4) (.int 1)) [.ex (.popAt (.var 3) (.var 5))] [.ifs (.cmp .eq (.var 4) (.int 2)) [.swp (.tup [.ix (.var 3) (.var 6),.ix (.var 3) (.var 5)]) (.var 3) (.var 5) (.var 3) (.var 6)] [.ifs (.cmp .eq (.var 4) (.int 3)) [.setI (.tup [.ix (.ix (.var 3) (.var 6)) (.int 0),.var 8]) (.var 3) (.var 5)] [.ifs (.cmp .eq (.var 4) (.int 4)) [.setI (.tup [.ix (.lst [.neg (.int 1),.len (.ix (.var 2) (.int 2)),.bin .pow (.int 10) (.int 20)]) (.call 42 [.var 0,.int 3]),.var 8]) (.var 3) (.var 5)] [.ifs (.cmp .eq (.var 4) (.int 5)) [.setI (.tup [.var 7,.bin .add (.var 8) (.ix (.lst [.neg (.int 1),.int 1,.bin .pow (.int 10) (.int 20),.neg (.bin .pow (.int 10) (.int 20))]) (.call 42 [.var 0,.int 4]))]) (.var 3) (.var 5)] [.asg (.name 3) (.bin .add (.sl (.var 3) none (some (.var 5))) (.comp ["_law_h", "_law_when"] (.tup [.var 9,.bin .add (.var 10) (.int 1)]) [⟨.tup [.name 9,.name 10],.val (.sl (.var 3) (some (.var 5)) none),none⟩]))]]]]],.ret (.var 3)]
abbrev pA:List CS:=[.asg (.name 1) (.lst [.non,.bl true,.bl false,.neg (.int 1),.bin .pow (.int 10) (.int 30),.str "", .str "a", .str "1", .tup [],.lst [],.dic0,.lst [.tup []],.tup [.tup []],.tup [.int 0],.lst [.int 0],.dic1 0 1,.tup [.bl true,.bl true]]),.ret (.ix (.var 1) (.call 42 [.var 0,.len (.var 1)]))]
abbrev uZ:List CS:=[.never,.never,.never,.never,.never,.asg (.name 2) (.lst [.str "meadow", .str "sky", .str "landings", .str "order", .str "lot", .str "text", .str "name", .str "glider", .str "minute", .str "aim", .str "many", .str "bound"]),.never]
abbrev ip:List RS:=[.tr 19 20 0 [.var 1,.var 2]]
abbrev kF:List CS:=[.for_ (.name 1) (.r1 (.mx (.int 1) (.mn (.len (.var 0)) (.int 10)))) [.asg (.name 2) (.call 41 [.call 40 [.var 0,.var 1]]),.asg (.name 3) (.call 48 [.var 2,.int 6]),.asg (.name 4) (.lst [.call 51 [.var 3,.call 49 [.var 2,.var 3]],.lst []]),.asg (.name 5) (.call 57 [.var 2,.var 3]),.ifs (.cmp .isnot (.var 5) .non) [.asg (.name 4) (.bin .add (.var 4) (.lst [.var 5,.call 58 [.var 2,.var 5,.var 3],.var 5]))] [],.for_ (.name 6) (.val (.var 4)) [.asg (.name 7) (.lst [.str "landings", .str "landings"]),.ifs (.cmp .is (.call 55 [.var 3,.var 6]) .non) [.asg (.name 7) (.lst [.mxL (.bin .add (.lst [.int 0]) (.comp ["_law_one"] (.ix (.var 10) (.int 1)) [⟨.name 10,.val (.var 6),none⟩])),.call 56 [.var 3,.var 6]])] [],.asg (.name 8) (.listOf (.var 6)),.ifs (.or (.cmp .ne (.rep (.comp ["_law_way"] (.call 61 [.var 10,.var 3,.var 8]) [⟨.name 10,.val (.tup [.int 0,.int 1]),none⟩])) (.rep (.var 7))) (.cmp .ne (.var 8) (.var 6))) [.ret (.bl false)] []],.for_ (.name 9) (.val (.lst [.call 59 [.var 2],.tupOf (.ix (.var 4) (.int 0)),.lst [.call 59 [.var 2]],.non])) [.ifs (.and (.cmp .ne (.var 9) (.lst [])) (.cmp .ne (.comp ["_law_way"] (.call 61 [.var 10,.var 3,.var 9]) [⟨.name 10,.val (.tup [.int 1,.int 0]),none⟩]) (.bin .mul (.lst [.str "landings"]) (.int 2)))) [.ret (.bl false)] []]],.ret (.bl true)]
abbrev iq:DefE:=⟨"is_whole", top 19,["thing"],1,mZ,none⟩
abbrev fW:DefE:=⟨"is_within", top 20,["thing", "least", "most"],3,km,none⟩
abbrev fX:DefE:=⟨"is_minute", top 21,["thing"],1,ko,none⟩
abbrev ir:DefE:=⟨"is_tuple", top 22,["thing", "least", "most"],3,m6,none⟩
abbrev eW:DefE:=⟨"are_unlike", top 23,["thing", "many"],2,i8,none⟩
abbrev fY:DefE:=⟨"is_meadow", top 30,["thing", "rings", "sink", "gaps", "shuts"],1,kq,none⟩
abbrev iu:DefE:=⟨"are_gaps", top 31,["thing"],1,m7,none⟩
abbrev eX:DefE:=⟨"is_gap_row", top 32,["thing", "many"],2,i9,none⟩
abbrev bb:DefE:=⟨"no_glider_between_helps", top 33,["gaps", "kinds"],1,bP,none⟩
abbrev fZ:DefE:=⟨"are_shuts", top 34,["thing"],1,kr,none⟩
abbrev eY:DefE:=⟨"is_stretch", top 35,["thing"],1,ja,none⟩
abbrev jU:DefE:=⟨"is_kind", top 36,["meadow", "thing"],2,o9,none⟩
abbrev jV:DefE:=⟨"is_shut", top 37,["meadow", "minute"],2,pc,none⟩
abbrev nq:DefE:=⟨"is_sky", top 41,["thing", "meadow", "ahead", "gliders", "fixed"],1,sR,none⟩
abbrev iz:DefE:=⟨"is_ahead", top 42,["meadow", "thing"],2,m8,none⟩
abbrev dN:DefE:=⟨"are_gliders", top 43,["meadow", "thing"],2,gZ,none⟩
abbrev f8:DefE:=⟨"is_glider", top 44,["meadow", "thing", "kind", "joins", "first", "last", "due", "weight", "ring"],2,ku,none⟩
abbrev f9:DefE:=⟨"are_fixed", top 45,["gliders", "thing"],2,kx,none⟩
abbrev kG:DefE:=⟨"check_sky", top 46,["thing"],1,[],some fU⟩
abbrev pB:DefE:=⟨"last_of", top 49,["sky", "landings"],2,[],some jR⟩
abbrev pC:DefE:=⟨"cost_of", top 50,["sky", "landings"],2,[],some jS⟩
abbrev cI:DefE:=⟨"cost_together", top 51,["sky", "landings"],2,fm,none⟩
abbrev dP:DefE:=⟨"glider_cost", top 52,["glider", "minute", "kind", "joins", "first", "last", "due", "weight", "ring"],2,hF,none⟩
abbrev hZ:DefE:=⟨"check_keeps", top 53,["sky", "thing"],2,[],some dJ⟩
abbrev gf:DefE:=⟨"keeps_sky", top 54,["sky", "thing"],2,ky,none⟩
abbrev gg:DefE:=⟨"are_pairs", top 55,["thing"],1,kz,none⟩
abbrev jW:DefE:=⟨"is_pair", top 56,["thing"],1,pd,none⟩
abbrev dQ:DefE:=⟨"first_amiss", top 57,["sky", "landings", "place", "word", "lacking", "crowded", "high"],2,hU,none⟩
abbrev cJ:DefE:=⟨"landing_amiss", top 58,["sky", "landings", "place", "meadow", "ahead", "gliders", "fixed", "glider"],3,fo,none⟩
abbrev df:DefE:=⟨"minute_amiss", top 59,["sky", "landings", "place", "meadow", "ahead", "gliders", "fixed", "number", "minute", "kind", "joins", "first", "last", "due", "weight", "ring"],3,fV,none⟩
abbrev cK:DefE:=⟨"landing_ahead", top 60,["sky", "sooner", "number", "minute"],2,fq,none⟩
abbrev jX:DefE:=⟨"gap_end", top 61,["sky", "ahead", "kind"],3,pj,none⟩
abbrev cL:DefE:=⟨"first_lacking", top 62,["sky", "landings", "landed", "number"],2,ft,none⟩
abbrev iA:DefE:=⟨"waits_at", top 63,["sky", "landing", "minute", "number", "lands"],3,m9,none⟩
abbrev cM:DefE:=⟨"how_many_wait", top 64,["sky", "landings", "minute"],3,fu,none⟩
abbrev cb:DefE:=⟨"joining_minutes", top 65,["sky"],1,dD,none⟩
abbrev cN:DefE:=⟨"first_crowded", top 66,["sky", "landings", "minute"],2,fA,none⟩
abbrev cx:DefE:=⟨"first_too_high", top 67,["sky", "landings", "place", "landing"],2,eI,none⟩
abbrev dR:DefE:=⟨"is_too_high", top 68,["sky", "landings", "place", "kind", "joins", "first", "last", "due", "weight", "ring"],3,hV,none⟩
abbrev dS:DefE:=⟨"ring_needed", top 69,["sky", "landings", "place", "minute", "sooner", "later"],4,hX,none⟩
abbrev dU:DefE:=⟨"_law_cell_at", top 71,["_law_script", "_law_k"],2,hY,none⟩
abbrev jY:DefE:=⟨"_law_pot", top 72,["_law_cell", "_law_number", "_law_j", "_law_more"],1,pk,none⟩
abbrev iB:DefE:=⟨"_law_take", top 73,["_law_pot_here", "_law_far", "_law_found"],2,nc,none⟩
abbrev iC:DefE:=⟨"_law_gaps", top 74,["_law_pot_here", "_law_many", "_law_rows", "_law_c"],1,dc,none⟩
abbrev gh:DefE:=⟨"_law_shuts", top 75,["_law_pot_here", "_law_now", "_law_found", "_law_begin", "_law_turn"],2,kA,none⟩
abbrev eZ:DefE:=⟨"_law_meadow", top 76,["_law_pot_here", "_law_rings"],1,jc,none⟩
abbrev e8:DefE:=⟨"_law_glider", top 77,["_law_pot_here", "_law_meadow_here", "_law_joins", "_law_first", "_law_last", "_law_due"],2,jd,none⟩
abbrev gk:DefE:=⟨"_law_mixed", top 78,["_law_pot_here", "_law_some", "_law_left"],2,kB,none⟩
abbrev jZ:DefE:=⟨"_law_sky", top 79,["_law_pot_here", "_law_most", "_law_meadow_here", "_law_gliders", "_law_numbers", "_law_fixed", "_law_g", "_law_ahead"],2,jT,none⟩
abbrev gm:DefE:=⟨"_law_order", top 80,["_law_pot_here", "_law_sky_here"],2,kC,none⟩
abbrev iE:DefE:=⟨"_law_open", top 81,["_law_shuts_here", "_law_minute", "_law_found", "_law_turn", "_law_begin", "_law_end"],2,ng,none⟩
abbrev j3:DefE:=⟨"_law_run", top 82,["_law_sky_here", "_law_order_here", "_law_found", "_law_ahead", "_law_g", "_law_minute"],2,pw,none⟩
abbrev gq:DefE:=⟨"_law_waits", top 83,["_law_sky_here", "_law_one", "_law_minute"],3,kD,none⟩
abbrev iG:DefE:=⟨"_law_need", top 84,["_law_sky_here", "_law_landings", "_law_k", "_law_minute", "_law_found", "_law_when"],4,ni,none⟩
abbrev cO:DefE:=⟨"_law_one_amiss", top 85,["_law_sky_here", "_law_landings", "_law_k", "_law_g", "_law_minute", "_law_ahead"],3,bf,none⟩
abbrev gr:DefE:=⟨"_law_amiss", top 86,["_law_sky_here", "_law_landings", "_law_k", "_law_found", "_law_landed", "_law_lacking", "_law_minute", "_law_one", "_law_glider_here"],2,kE,none⟩
abbrev iH:DefE:=⟨"_law_cost", top 87,["_law_sky_here", "_law_landings", "_law_found", "_law_g", "_law_minute"],2,nj,none⟩
abbrev dX:DefE:=⟨"_law_landing", top 88,["_law_pot_here", "_law_sky_here", "_law_found", "_law_turn", "_law_landings", "_law_later", "_law_at", "_law_more", "_law_gliders", "_law_slow"],2,dM,none⟩
abbrev fb:DefE:=⟨"_law_turned", top 89,["_law_pot_here", "_law_landings", "_law_sky_here", "_law_found", "_law_way", "_law_at", "_law_other", "_law_g", "_law_minute"],3,je,none⟩
abbrev j4:DefE:=⟨"_law_odd", top 90,["_law_pot_here", "_law_some"],1,pA,none⟩
abbrev u0:DefE:=⟨"_law_word", top 91,["_law_e", "_law_some", "_law_words"],1,uZ,none⟩
abbrev nt:DefE:=⟨"_law_told", top 92,["_law_way", "_law_sky_here", "_law_thing", "_law_e"],3,[],some ip⟩
abbrev wW:DefE:=⟨"law", top 93,["_law_script", "_law_k", "_law_pot_here", "_law_sky_here", "_law_rows", "_law_right", "_law_row", "_law_due", "_law_handed", "_law_thing"],1,kF,none⟩
abbrev ae:List DefE:=[iq,fW,fX,ir,eW,fY,iu,eX,bb,fZ,eY,jU,jV,nq,iz,dN,f8,f9,kG,pB,pC,cI,dP,hZ,gf,gg,jW,dQ,cJ,df,cK,jX,cL,iA,cM,cb,cN,cx,dR,dS,dU,jY,iB,iC,gh,eZ,e8,gk,jZ,gm,iE,j3,gq,iG,cO,gr,iH,dX,fb,j4,u0,nt,wW]
theorem chk:ae.all (BL (o6 con ae))=true:=by kernel_rfl
theorem QT:ae.any wK=true:=by kernel_rfl
theorem us1:∀ {us:List Value},us.length=1->∃a0,us=[a0]
 |[a0],_=>⟨a0,rfl⟩
theorem us2:∀ {us:List Value},us.length=2->∃a0 a1,us=[a0,a1]
 |[a0,a1],_=>⟨a0,a1,rfl⟩
theorem us3:∀ {us:List Value},us.length=3->∃a0 a1 a2,us=[a0,a1,a2]
 |[a0,a1,a2],_=>⟨a0,a1,a2,rfl⟩
theorem us4:∀ {us:List Value},us.length=4->∃a0 a1 a2 a3,us=[a0,a1,a2,a3]
 |[a0,a1,a2,a3],_=>⟨a0,a1,a2,a3,rfl⟩
theorem bind:yP ae:=by
 repeat' apply And.intro
 all_goals first |trivial |(intro _ _ _ _ _ _ us hl;first |(obtain⟨_,rfl⟩:=us1 hl;rfl) |(obtain⟨_,_,rfl⟩:=us2 hl;rfl) |(obtain⟨_,_,_,rfl⟩:=us3 hl;rfl) |(obtain⟨_,_,_,_,rfl⟩:=us4 hl;rfl))
end Lw
section
open PySem PySem.W PyProof.Rows
theorem Lw.eqs(h:Heap):Ev.yO Lw.con Lw.ae h=(h.isNs VU,(Lw.nx.take 42).map (λx=>Ev.tN h (.ofString x.1))++(Lw.nx.drop 42).map (λx=>Ev.tN h (.ofString x.1)),Lw.con.map (λc=>Ev.Dn h c.1),(Ev.fF.map λx=>(h.nsMap VU x).isNone),Ev.zn h):=by kernel_rfl
theorem Lw.eqv:Ev.sP Lw.con Lw.ae=(true,Lw.vb (Lw.nx.take 42)++Lw.vb (Lw.nx.drop 42),Lw.con.map (λc=>some c.2),(Ev.fF.map λ_=>true),true):=by kernel_rfl
theorem Lw.partC:Cut.PartC PySem.Challenge.rw_downrings_k13_last_and_cost.row.toRowW.prog (Hook.obs (Ev.jQ Lw.con Lw.ae Lw.bind)) (Hook.val (Ev.jQ Lw.con Lw.ae Lw.bind)):=λw=>by
 have z:=Cut.two (λa (b:Ev.sO)=>((b.1,a++b.2.1,b.2.2):Ev.sO)) Lw.Ir Lw.Iu w;show X5 (λs=>Ev.yO Lw.con Lw.ae s.heap) (Cut.fin _ w)=some (Ev.sP Lw.con Lw.ae);rw[Lw.eqv,show(λs:Shared=>Ev.yO Lw.con Lw.ae s.heap)=_ from funext λs=>Lw.eqs s.heap];exact z
set_option maxHeartbeats 0 in
theorem Lw.head(hmain:∀ns:List Int,ns.length<=63->∃S',Ev.evC Lw.ae 40 62 [.ref 0] [.frz (ns.map Ev.D.int)]=some (.bl true,S')):PySem.Challenge.rw_downrings_k13_last_and_cost.Holds:=by
 w_on;refine holds_law Lw.said λsaid=>?_
 refine holds_open (q:=Lw.view) (loose:=Lw.loose) (Xt:=(λs=>xlAt Lw.view [] s && recOk (RowW.records PySem.Challenge.rw_downrings_k13_last_and_cost.row.toRowW) s)) (XP:=XL Lw.view []) (Yf:=(Hook.obs (Ev.jQ Lw.con Lw.ae Lw.bind))) (Ya:=(Hook.val (Ev.jQ Lw.con Lw.ae Lw.bind))) (YP:=Hook.says (Ev.jQ Lw.con Lw.ae Lw.bind)) (N:=20000) ?hl (Hook.of _) (Hook.keeps _) (λs e=>xl_of s (Xj.mp e).1) XL.keeps (by rfl) (by rfl) (by rfl) (λs e=>recFacts_of (Xj.mp e).2) (by rfl) (by first |assumption |decide +kernel) (by decide +kernel) ⟨rfl,rfl,rfl,rfl,rfl,by decide +kernel⟩ ?hw ?hc
 case hw=>w_witness2
 case hl=>exact Cut.left_cut Lw.opn Lw.partA Lw.partB Lw.partC
 case hc=>exact Ev.Fc (l:=PySem.Challenge.rw_downrings_k13_last_and_cost) (n:=63) (k:=40) (i:=62) (dl:=Lw.wW) rfl (by decide) rfl ⟨rfl,by decide,by decide,rfl⟩ rfl rfl rfl Lw.chk Lw.QT hmain
end
namespace Ev
open PySem PySem.Spec PyProof.Rows L2
def Ok{α:Type}(x:Option (α × Sto))(Q:α->Sto->Prop):Prop:=∃a S,x=some (a,S)/\Q a S
def OkS(x:Option (Fl × Rho × Sto))(Q:Fl->Rho->Sto->Prop):Prop:=∃f ρ S,x=some (f,ρ,S)/\Q f ρ S
section
variable {α β:Type} {S S':Sto} {ρ ρ':Rho}
theorem aF{a:α}:Ok (some (a,S)) Q=Q a S:=by
 apply propext;exact⟨λ⟨_,_,e,q⟩=>by cases e;exact q,λq=>⟨a,S,rfl,q⟩⟩
theorem aV:Ok none Q=False:=propext ⟨λ⟨_,_,e,_⟩=>(nomatch e),λh=>h.elim⟩
theorem bH:Ok (bnd x f) Q=Ok x λa S=>Ok (f a S) Q:=by
 apply propext;constructor
 ·rintro⟨b,S',e,q⟩;obtain⟨a,S,e1,e2⟩:=ai e;exact⟨a,S,e1,b,S',e2,q⟩
 ·rintro⟨a,S,e1,b,S',e2,q⟩;exact⟨b,S',by rw[e1];exact e2,q⟩
theorem dg{c:Prop}[Decidable c]:Ok (if c then x else y) Q=if c then Ok x Q else Ok y Q:=by split <;> rfl
theorem Kz{x:Option β}{f:β->α × Sto}{Q:α->Sto->Prop}:Ok (x.map f) Q=∃b,x=some b/\Q (f b).1 (f b).2:=by
 apply propext;cases x with
 |none=>exact⟨λ⟨_,_,e,_⟩=>(nomatch e),λ⟨_,e,_⟩=>(nomatch e)⟩
 |some b=>exact⟨λ⟨a,S,e,q⟩=>⟨b,rfl,by have e':=Option.some.inj e;rw[e'];exact q⟩,λ⟨b',e,q⟩=>by cases e;exact⟨_,_,rfl,q⟩⟩
theorem Ok.mono(h:Ok x Q)(f:∀a S,Q a S->Q' a S):Ok x Q':=let ⟨a,S,e,q⟩:=h;⟨a,S,e,f a S q⟩
theorem OkS.mono(h:OkS x Q)(f:∀a ρ S,Q a ρ S->Q' a ρ S):OkS x Q':=let ⟨a,ρ,S,e,q⟩:=h;⟨a,ρ,S,e,f a ρ S q⟩
def nxt(y:XS)(Q:Fl->Rho->Sto->Prop)(f:Fl)(ρ:Rho)(S:Sto):Prop:=match f with
 |.nx=>OkS (y ρ S) Q
 |f=>Q f ρ S
theorem Fd:OkS (uF x y ρ S) Q=OkS (x ρ S) (nxt y Q):=by
 apply propext;unfold uF;constructor
 ·rintro⟨f,ρ1,S1,e,q⟩;split at e
  ·cases e
  ·rename_i ρ2 S2 h;exact⟨_,_,_,h,f,ρ1,S1,e,q⟩
  ·rename_i r n h;cases e;cases f with
   |nx=>exact absurd rfl (n ρ1 S1)
   |_=>exact⟨_,_,_,h,q⟩
 ·rintro⟨f,ρ1,S1,e,q⟩;rw[e];cases f with
  |nx=>exact q
  |_=>exact⟨_,_,_,rfl,q⟩
theorem KA:OkS (xIf c x y ρ S) Q=Ok (c ρ S) λb S1=>if b=true then OkS (x ρ S1) Q else OkS (y ρ S1) Q:=by
 apply propext;unfold xIf;constructor
 ·rintro⟨f,ρ1,S1,e,q⟩;cases h:c ρ S with
  |none=>rw[h] at e;cases e
  |some r=>
   obtain⟨b,S2⟩:=r;rw[h] at e;refine⟨b,S2,rfl,?_⟩;dsimp only at e ⊢;split
   ·rename_i hb;rw[if_pos hb] at e;exact⟨f,ρ1,S1,e,q⟩
   ·rename_i hb;rw[if_neg hb] at e;exact⟨f,ρ1,S1,e,q⟩
 ·rintro⟨b,S2,e,q⟩;rw[e];dsimp only;split
  ·rename_i hb;rw[if_pos hb] at q;exact q
  ·rename_i hb;rw[if_neg hb] at q;exact q
theorem Fe:OkS (mv x t ρ S) Q=Ok (x ρ S) λd S1=>∃ρ1,aA t d ρ=some ρ1/\Q .nx ρ1 S1:=by
 apply propext;unfold mv;constructor
 ·rintro⟨f,ρ1,S1,e,q⟩;cases h:x ρ S with
  |none=>rw[h] at e;cases e
  |some r=>
   obtain⟨d,S2⟩:=r;rw[h] at e;dsimp only at e;cases h2:aA t d ρ with
   |none=>rw[h2] at e;cases e
   |some ρ2=>rw[h2] at e;cases e;exact⟨d,_,rfl,ρ1,h2,q⟩
 ·rintro⟨d,S2,e,ρ1,e2,q⟩;rw[e];dsimp only;rw[e2];exact⟨_,_,_,rfl,q⟩
theorem BQ:OkS (rX x ρ S) Q=Ok (x ρ S) λ_ S1=>Q .nx ρ S1:=by
 apply propext;unfold rX;constructor
 ·rintro⟨f,ρ1,S1,e,q⟩;cases h:x ρ S with
  |none=>rw[h] at e;cases e
  |some r=>rw[h] at e;cases e;exact⟨_,_,rfl,q⟩
 ·rintro⟨d,S2,e,q⟩;rw[e];exact⟨_,_,_,rfl,q⟩
theorem Ff:OkS (AH x ρ S) Q=Ok (x ρ S) λd S1=>Q (.rt d) ρ S1:=by
 apply propext;unfold AH;constructor
 ·rintro⟨f,ρ1,S1,e,q⟩;cases h:x ρ S with
  |none=>rw[h] at e;cases e
  |some r=>rw[h] at e;cases e;exact⟨_,_,rfl,q⟩
 ·rintro⟨d,S2,e,q⟩;rw[e];exact⟨_,_,_,rfl,q⟩
theorem BR:OkS (rY v o i ρ S) Q=Ok (v ρ S) λa S1=>Ok (o ρ S1) λb S2=>Ok (i ρ S2) λc S3=>∃S4,eB b c a S3=some S4/\Q .nx ρ S4:=by
 apply propext;unfold rY;constructor
 ·rintro⟨f,ρ1,S1,e,q⟩;cases h:v ρ S with
  |none=>rw[h] at e;cases e
  |some r=>
   rw[h] at e;dsimp only at e;cases h2:o ρ r.2 with
   |none=>rw[h2] at e;cases e
   |some r2=>
    rw[h2] at e;dsimp only at e;cases h3:i ρ r2.2 with
    |none=>rw[h3] at e;cases e
    |some r3=>
     rw[h3] at e;dsimp only at e;cases h4:eB r2.1 r3.1 r.1 r3.2 with
     |none=>rw[h4] at e;cases e
     |some S4=>rw[h4] at e;cases e;exact⟨_,_,rfl,_,_,h2,_,_,h3,_,h4,q⟩
 ·rintro⟨a,S1,e1,b,S2,e2,c,S3,e3,S4,e4,q⟩;rw[e1];dsimp only;rw[e2];dsimp only;rw[e3];dsimp only;rw[e4];exact⟨_,_,_,rfl,q⟩
theorem Fh{k:Nat}:OkS (AK it tg b k ρ S) Q=Ok (it ρ S) λnx S1=>OkS (eC nx tg b k 0 ρ S1) Q:=by
 apply propext;unfold AK;constructor
 ·rintro⟨f,ρ1,S1,e,q⟩;cases h:it ρ S with
  |none=>rw[h] at e;cases e
  |some r=>rw[h] at e;exact⟨_,_,rfl,_,_,_,e,q⟩
 ·rintro⟨d,S2,e,q⟩;rw[e];exact q
def out(Q:D->Sto->Prop)(f:Fl)(_:Rho)(S:Sto):Prop:=match f with
 |.rt v=>Q v S
 |.nx=>Q .non S
 |_=>False
theorem KB:out Q (.rt d) ρ S=Q d S:=rfl
theorem KC:out Q .nx ρ S=Q .non S:=rfl
theorem aC{k f:Nat}(hd:ae[f]?=some d)(hρ:ds.map some++Zp (d.N.length - ds.length) none=ρ)(h:OkS (fE (evC ae k) (cF ae) 60 d.body ρ S) (out Q))(hr:d.rb=none:=by rfl):Ok (evC ae (k+1) f ds S) Q:=by
 subst hρ;obtain⟨fl,ρ1,S1,e,q⟩:=h;have e:fE (toC (evX ae k)) (cF ae) FU d.body _ S=some (fl,ρ1,S1):=e;have z:evX ae (k+1) f ds S=(E8 (toC (evX ae k)) (cF ae) d ds S).map λr=>(.val r.1,r.2):=by simp only[evX,hd,hr]
 unfold evC toC;rw[z];unfold E8;rw[e];cases fl with
 |rt v=>exact⟨_,_,rfl,q⟩
 |nx=>exact⟨_,_,rfl,q⟩
 |bk=>exact q.elim
 |ct=>exact q.elim
theorem pD{N:Nat}(I:Nat->List D->Sto->Prop)
  (step:∀i acc S,i < N->I i acc S->∃d ρ1,nx i S=some (some d)/\aA tg d ρ=some ρ1/\Ok (c ρ1 S) λes S1=>I (i+1) (acc++es) S1) (stop:∀acc S,I N acc S->nx N S=some none) :
  ∀ (n i k:Nat) (acc:List D) (S:Sto),N=i+n->n < k->I i acc S->Ok (bj nx tg c ρ k i S) λes S'=>I N (acc++es) S'
 |0,i,k+1,acc,S,hN,hk,h=>by
  obtain rfl:N=i:=by lia
  simp only[bj,stop acc S h];exact⟨_,_,rfl,by show I _ (acc++[]) S;rw[ZU];exact h⟩
 |n+1,i,k+1,acc,S,hN,hk,h=>by
  obtain⟨d,ρ1,e1,e2,es,S1,e3,h'⟩:=step i acc S (by lia) h;simp only[bj,e1,e2,e3,bnd];obtain⟨rs,S2,e4,h2⟩:=pD I step stop n (i+1) k (acc++es) S1 (by lia) (by lia) h';simp only[e4];exact⟨_,_,rfl,by show I _ (acc++(es++rs)) S2;rw[<-Yd];exact h2⟩
theorem gu{k:Nat}(N:Nat)(I:Nat->List D->Sto->Prop)(hk:N < k)
  (step:∀i acc S,i < N->I i acc S->∃d ρ1,nx i S=some (some d)/\aA tg d ρ=some ρ1/\Ok (c ρ1 S) λes S1=>I (i+1) (acc++es) S1) (stop:∀acc S,I N acc S->nx N S=some none) (h:I 0 [] S) :
  Ok (bj nx tg c ρ k 0 S) (I N):=(pD I step stop N 0 k [] S (by lia) hk h).mono λes S' z=>by rw[XY] at z;exact z
theorem nu{N:Nat}(I:Nat->Rho->Sto->Prop)
  (step:∀i ρ S,i < N->I i ρ S->∃d ρ1,nx i S=some (some d)/\aA tg d ρ=some ρ1/\OkS (b ρ1 S) λfl ρ2 S2=>match fl with |.nx=>I (i+1) ρ2 S2 |.ct=>I (i+1) ρ2 S2 |.bk=>Q .nx ρ2 S2 |.rt d=>Q (.rt d) ρ2 S2)
  (stop:∀ρ S,I N ρ S->nx N S=some none/\Q .nx ρ S) :
  ∀ (n i k:Nat) (ρ:Rho) (S:Sto),N=i+n->n < k->I i ρ S->OkS (eC nx tg b k i ρ S) Q
 |0,i,k+1,ρ,S,hN,hk,h=>by
  obtain rfl:N=i:=by lia
  simp only[eC,(stop ρ S h).1];exact⟨_,_,_,rfl,(stop ρ S h).2⟩
 |n+1,i,k+1,ρ,S,hN,hk,h=>by
  obtain⟨d,ρ1,e1,e2,fl,ρ2,S2,e3,h'⟩:=step i ρ S (by lia) h;simp only[eC,e1,e2,e3];cases fl with
  |nx=>exact nu I step stop n (i+1) k ρ2 S2 (by lia) (by lia) h'
  |ct=>exact nu I step stop n (i+1) k ρ2 S2 (by lia) (by lia) h'
  |bk=>exact⟨_,_,_,rfl,h'⟩
  |rt d=>exact⟨_,_,_,rfl,h'⟩
theorem jf{k:Nat}(N:Nat)(I:Nat->Rho->Sto->Prop)(hk:N < k)
  (step:∀i ρ S,i < N->I i ρ S->∃d ρ1,nx i S=some (some d)/\aA tg d ρ=some ρ1/\OkS (b ρ1 S) λfl ρ2 S2=>match fl with |.nx=>I (i+1) ρ2 S2 |.ct=>I (i+1) ρ2 S2 |.bk=>Q .nx ρ2 S2 |.rt d=>Q (.rt d) ρ2 S2)
  (stop:∀ρ S,I N ρ S->nx N S=some none/\Q .nx ρ S) (h:I 0 ρ S):OkS (eC nx tg b k 0 ρ S) Q:=nu I step stop N 0 k ρ S (by lia) hk h
end
mutual
def TD(p:Nat)(S:Sto):Dw.D->D->Prop
 |.non,d=>d = .non
 |.bl b,d=>d = .bl b
 |.int i,d=>d = .int i
 |.str x,d=>d = .str x
 |.tup ts,d=>∃ds,d = .tup ds/\TDs p S ts ds
 |.lst ts,d=>∃n ds,d = .ref n/\n ≠ p/\S[n]?=some (.lst ds)/\TDs p S ts ds
 |.dic ks ts,d=>∃n ds,d = .ref n/\n ≠ p/\S[n]?=some (.dic ks ds)/\TDs p S ts ds
def TDs(p:Nat)(S:Sto):List Dw.D->List D->Prop
 |[],ds=>ds=[]
 |t::ts,ds=>∃d r,ds=d::r/\TD p S t d/\TDs p S ts r
end
def Kp(p:Nat)(S S':Sto):Prop:=∀i o,i ≠ p->S[i]?=some o->S'[i]?=some o
def Sm(S S':Sto):Prop:=∀ (i:Nat) (o:Ob),S[i]?=some o->S'[i]?=some o
theorem Sm.kp{p:Nat}(h:Sm S S'):Kp p S S':=λi o _ e=>h i o e
theorem Sm.refl(S:Sto):Sm S S:=λ_ _ e=>e
theorem Sm.trans(a:Sm S S1)(b:Sm S1 S2):Sm S S2:=λi o e=>b i o (a i o e)
theorem Sm.app(S X:Sto):Sm S (S++X):=λi o e=>by
 have hi:=(Zc.mp e).1;rw[Zw hi];exact e
theorem Kp.refl(p:Nat)(S:Sto):Kp p S S:=λ_ _ _ e=>e
theorem Kp.trans{p:Nat}(a:Kp p S S1)(b:Kp p S1 S2):Kp p S S2:=λi o n e=>b i o n (a i o n e)
mutual
theorem TD.keep{p:Nat}(k:Kp p S S'):∀ {t:Dw.D} {d:D},TD p S t d->TD p S' t d
 |.non,_,h=>by rw[TD] at h ⊢;exact h
 |.bl _,_,h=>by rw[TD] at h ⊢;exact h
 |.int _,_,h=>by rw[TD] at h ⊢;exact h
 |.str _,_,h=>by rw[TD] at h ⊢;exact h
 |.tup ts,_,h=>by rw[TD] at h ⊢;obtain⟨ds,e,q⟩:=h;exact⟨ds,e,TDs.keep k q⟩
 |.lst ts,_,h=>by rw[TD] at h ⊢;obtain⟨n,ds,e,ne,a,q⟩:=h;exact⟨n,ds,e,ne,k _ _ ne a,TDs.keep k q⟩
 |.dic ks ts,_,h=>by rw[TD] at h ⊢;obtain⟨n,ds,e,ne,a,q⟩:=h;exact⟨n,ds,e,ne,k _ _ ne a,TDs.keep k q⟩
theorem TDs.keep{p:Nat}(k:Kp p S S'):∀ {ts:List Dw.D} {ds:List D},TDs p S ts ds->TDs p S' ts ds
 |[],_,h=>by rw[TDs] at h ⊢;exact h
 |t::ts,_,h=>by rw[TDs] at h ⊢;obtain⟨d,r,e,a,q⟩:=h;exact⟨d,r,e,TD.keep k a,TDs.keep k q⟩
end
section
variable {p:Nat} {S S':Sto}
theorem vf:TD p S .non .non:=by rw[TD]
theorem wX:TD p S (.bl b) (.bl b):=by rw[TD]
theorem bc{i:Int}:TD p S (.int i) (.int i):=by rw[TD]
theorem nv:TD p S (.str x) (.str x):=by rw[TD]
theorem bA(h:TDs p S ts ds):TD p S (.tup ts) (.tup ds):=by rw[TD];exact⟨ds,rfl,h⟩
theorem aM:TDs p S [] []:=by rw[TDs]
theorem ag(h:TD p S t d)(q:TDs p S ts ds):TDs p S (t::ts) (d::ds):=by rw[TDs];exact⟨d,ds,rfl,h,q⟩
theorem TD.non(h:TD p S .non d):d = .non:=by rw[TD] at h;exact h
theorem TD.bl(h:TD p S (.bl b) d):d = .bl b:=by rw[TD] at h;exact h
theorem TD.int{i:Int}(h:TD p S (.int i) d):d = .int i:=by rw[TD] at h;exact h
theorem TD.str(h:TD p S (.str x) d):d = .str x:=by rw[TD] at h;exact h
theorem TD.tup(h:TD p S (.tup ts) d):∃ds,d = .tup ds/\TDs p S ts ds:=by rw[TD] at h;exact h
theorem TDs.cons(h:TDs p S (t::ts) ds):∃d r,ds=d::r/\TD p S t d/\TDs p S ts r:=by rw[TDs] at h;exact h
theorem TDs.nil(h:TDs p S [] ds):ds=[]:=by rw[TDs] at h;exact h
theorem TDs.len:∀ {ts:List Dw.D} {ds:List D},TDs p S ts ds->ds.length=ts.length
 |[],_,h=>by rw[h.nil];rfl
 |t::ts,_,h=>by obtain⟨d,r,rfl,_,q⟩:=h.cons;simp[q.len]
theorem TDs.get:∀ {ts:List Dw.D} {ds:List D} {i:Nat} {t:Dw.D},TDs p S ts ds->ts[i]?=some t->∃d,ds[i]?=some d/\TD p S t d
 |[],_,_,_,_,e=>by simp at e
 |t::ts,_,0,_,h,e=>by obtain⟨d,r,rfl,a,q⟩:=h.cons;simp at e;subst e;exact⟨d,rfl,a⟩
 |t::ts,_,i+1,_,h,e=>by obtain⟨d,r,rfl,a,q⟩:=h.cons;simp at e;obtain⟨x,hx,y⟩:=q.get e;exact⟨x,by simpa using hx,y⟩
abbrev tyT:Dw.D->String
 |.non => "NoneType" |.bl _ => "bool" |.int _ => "int" |.str _ => "str" |.tup _ => "tuple" |.lst _ => "list" |.dic _ _ => "dict"
theorem O8(h:TD p S t d):tyN d S=some (tyT t):=by
 cases t with
 |non=>rw[h.non];rfl
 |bl _=>rw[h.bl];rfl
 |int _=>rw[h.int];rfl
 |str _=>rw[h.str];rfl
 |tup _=>obtain⟨_,rfl,_⟩:=h.tup;rfl
 |lst _=>rw[TD] at h;obtain⟨n,ds,rfl,_,e,_⟩:=h;simp only[tyN,e];rfl
 |dic _ _=>rw[TD] at h;obtain⟨n,ds,rfl,_,e,_⟩:=h;simp only[tyN,e];rfl
theorem k8(h:TD p S t d):mi ty d S=some (.bl (fj ty (tyT t)),S):=by
 unfold mi;rw[O8 h];rfl
end
theorem Fi{n:Nat}:Ok (se g n x ρ S) Q=Ok (x ρ S) λds S1=>ds.length=n/\Ok (g ds S1) Q:=by
 unfold se;rw[bH]
 congr 1
 funext ds S1
 rw[dg,aV];apply propext;split
 ·show 7
 ·show 5
theorem KD:Ok (AO x y ρ S) Q=Ok (x ρ S) λd S1=>∃b,d = .bl b/\if b=true then Ok (y ρ S1) Q else Q (.bl false) S1:=by
 unfold AO;rw[bH]
 congr 1
 funext d S1
 apply propext;cases d with
 |bl b=>cases b <;> simp[aF]
 |_=>simp[aV]
theorem O9:Ok (xOr x y ρ S) Q=Ok (x ρ S) λd S1=>∃b,d = .bl b/\if b=true then Q (.bl true) S1 else Ok (y ρ S1) Q:=by
 unfold xOr;rw[bH]
 congr 1
 funext d S1
 apply propext;cases d with
 |bl b=>cases b <;> simp[aF]
 |_=>simp[aV]
theorem KF:Ok (yz d S) Q=∃b,d = .bl b/\Q (.bl (!b)) S:=by
 apply propext;cases d with
 |bl b=>simp[yz,aF]
 |_=>simp[yz,aV]
theorem KG:Ok (yA f g x y z ρ S) Q=Ok (x ρ S) λa S1=>Ok (y ρ S1) λb S2=>Ok (f a b S2) λr S3=>∃c,r = .bl c/\if c=true then Ok (z ρ S3) λe S4=>Ok (g b e S4) Q else Q (.bl false) S3:=by
 unfold yA;rw[bH]
 congr 1
 funext a S1
 rw[bH]
 congr 1
 funext b S2
 rw[bH]
 congr 1
 funext r S3
 apply propext;cases r with
 |bl c=>cases c <;> simp[aF,bH]
 |_=>simp[aV]
theorem KH{i:Nat}:Ok (ya i ρ S) Q=∃d,ρ[i]?=some (some d)/\Q d S:=by
 apply propext;unfold ya;cases h:ρ[i]? with
 |none=>simp[aV]
 |some o=>cases o with
  |none=>simp[aV]
  |some d=>simp[aF]
theorem Pa{i j:Int}:Ok (az .le (.int i) (.int j) S) Q=Q (.bl (decide (i<=j))) S:=aF
theorem Pb{i j:Int}:Ok (az .lt (.int i) (.int j) S) Q=Q (.bl (decide (i < j))) S:=aF
theorem Pc{i j:Int}:Ok (az .gt (.int i) (.int j) S) Q=Q (.bl (decide (j < i))) S:=aF
theorem Pd{i j:Int}:Ok (az .ge (.int i) (.int j) S) Q=Q (.bl (decide (j<=i))) S:=aF
theorem KI{i j:Int}:Ok (bI .add (.int i) (.int j) S) Q=Q (.int (i+j)) S:=aF
theorem KJ{i j:Int}:Ok (bI .sub (.int i) (.int j) S) Q=Q (.int (i - j)) S:=aF
theorem Pe:Ok (xB x ρ S) Q=Ok (x ρ S) λd S1=>∃b,d = .bl b/\Q b S1:=by
 unfold xB;rw[bH]
 congr 1
 funext d S1
 apply propext;cases d with
 |bl b=>simp[aF]
 |_=>simp[aV]
theorem Fj{own k:Nat}:Ok (my own it tg c k ρ S) Q=Ok (it ρ S) λnx S1=>dz tg (ρ++Zp own none)=true/\Ok (bj nx tg c (ρ++Zp own none) k 0 S1) λes S2=>es.length<=100000/\Q es S2:=by
 unfold my;rw[bH]
 congr 1
 funext nx S1
 rw[dg,aV];apply propext
 have e:Ok (bnd (bj nx tg c (ρ++Zp own none) k 0 S1) λes S2=>if es.length<=100000 then some (es,S2) else none) Q=Ok (bj nx tg c (ρ++Zp own none) k 0 S1) λes S2=>es.length<=100000/\Q es S2:=by
  rw[bH]
  congr 1
  funext es S2
  rw[dg,aV,aF];apply propext;split
  ·show 7
  ·show 5
 rw[e];split
 ·show 7
 ·show 5
theorem BS{k:Nat}:Ok (jI it tg c k ρ S) Q=(dz tg ρ=true/\Ok (it ρ S) λnx S1=>Ok (bj nx tg c ρ k 0 S1) Q):=by
 unfold jI;rw[dg,aV,bH];apply propext;split
 ·show 7
 ·show 5
theorem Fk:Ok (oK x ρ S) Q=Ok (x ρ S) λds S1=>ds.length<=1000/\Q ds S1:=by
 unfold oK;rw[bH]
 congr 1
 funext ds S1
 rw[dg,aV,aF];apply propext;split
 ·show 7
 ·show 5
theorem Fm:Ok (kK ds S) Q=(ds.length<=1000/\Q (.tup ds) S):=by
 unfold kK;rw[dg,aV,aF];apply propext;split
 ·show 7
 ·show 5
theorem k9{α:Type}(l:List α)(g:α->Bool)(S:Sto):kM false (l.map λt=>D.bl (g t)) S=some (.bl (l.all g),S):=by
 unfold kM;have h1:(l.map λt=>D.bl (g t)).all yf=true:=by rw[Yy];simp[Function.comp_def,yf]
 have h2:(l.map λt=>D.bl (g t)).all nY=l.all g:=by rw[Yy];rfl
 rw[if_pos ⟨rfl,h1⟩,h2]
theorem Fn{S:Sto}{n:Nat}{lo:Int}{tg:Tg}{c:XA}{ρ:Rho}{Q:List D->Sto->Prop}(hl:n<=100000)(g:Nat->Bool)
  (step:∀ (i:Nat) S',i < n->Sm S S'->∃ρ1,aA tg (.int (lo+i)) ρ=some ρ1/\Ok (c ρ1 S') λes S1=>es=[.bl (g i)]/\Sm S' S1) (q:∀S',Sm S S'->Q ((Zj n).map λi=>.bl (g i)) S') :
  Ok (bj (nxR lo n) tg c ρ LF 0 S) λes S2=>es.length<=100000/\Q es S2:=by
 refine(gu n (λi acc S'=>Sm S S'/\acc=(Zj i).map λt=>.bl (g t)) (by unfold LF;lia) (λi acc S' hi ⟨sm,ea⟩=>?_) (λacc S' ⟨sm,ea⟩=>?_) ⟨Sm.refl S,by simp⟩).mono λes S' ⟨sm,ea⟩=>?_
 ·obtain⟨ρ1,e2,es,S1,e3,rfl,sm'⟩:=step i S' hi sm;refine⟨_,ρ1,by show some (if i < n then some (D.int (lo+i)) else none)=_;rw[if_pos hi],e2,_,S1,e3,sm.trans sm',?_⟩;rw[ea,Y8,ZA];rfl
 ·show some (if n < n then some (D.int (lo+n)) else none)=_;rw[if_neg (ZM n)]
 ·subst ea;exact⟨by rw[Za,ZK];exact hl,q S' sm⟩
theorem vg{m n:Nat}(hm:S[m]?=some (.lst ((Zj n).map λj=>.int (Int.ofNat j))))(hn:n<=1000)(f:Nat->List D)
  (step:∀ (i:Nat) S',i < n->Sm S S'->∃ρ1,aA tg (.int i) ρ=some ρ1/\Ok (c ρ1 S') λes S1=>es=f i/\Sm S' S1):Ok (bj (nxS m) tg c ρ LF 0 S) λes S2=>es=(Zj n).flatMap f/\Sm S S2:=by
 refine(gu n (λi acc S'=>Sm S S'/\acc=(Zj i).flatMap f) (by unfold LF;lia) (λi acc S' hi ⟨sm,ea⟩=>?_) (λacc S' ⟨sm,ea⟩=>?_) ⟨Sm.refl S,by simp⟩).mono λes S' ⟨sm,ea⟩=>⟨ea,sm⟩
 ·obtain⟨ρ1,e2,es,S1,e3,rfl,sm'⟩:=step i S' hi sm;refine⟨.int i,ρ1,?_,e2,_,S1,e3,sm.trans sm',?_⟩
  ·show(aq S' m).map (λds=>ds[i]?)=_;simp only[aq,sm _ _ hm,Zq,Zm,YF hi];rfl
  ·rw[ea,Dw.oI]
 ·show(aq S' m).map (λds=>ds[n]?)=_;simp only[aq,sm _ _ hm,Zq];rw[ZC (by simp)]
theorem BU:Ok (dH x ρ S) Q=Ok (x ρ S) λds S1=>Q (.ref S1.length) (S1++[.lst ds]):=by
 unfold dH;rw[bH]
 congr 1
 funext ds S1
 rw[aF]
theorem KL(h:Ok (x ρ S) λd S1=>∃i:Nat,d = .int i/\i<=1000/\Q ((Zj i).map λj=>.int (Int.ofNat j)) S1):Ok (yD x ρ S) Q:=by
 unfold yD;rw[bH];refine h.mono λd S1 q10=>?_;obtain⟨i,e,hi,q⟩:=q10;subst e;dsimp only;rw[if_pos (by lia),aF,Zn];exact q
theorem sS(is:List Int):(is.map D.int).all cC=true:=by rw[Yy];simp[Function.comp_def,cC]
theorem BV(is:List Int)(i:Int)(S:Sto):uC (.tup (is.map D.int)) [.int i] S=some (.int (is.count i:Nat),S):=by
 have e:((is.map D.int).countP λz=>eqF z (.int i))=is.count i:=by
  rw[X1];unfold List.count
  congr 1
 simp only[uC];rw[if_pos ⟨rfl,sS is⟩,e]
theorem qG(neg:Bool)(is:List Int)(i:Int)(S:Sto):inS neg (.int i) (.tup (is.map D.int)) S=some (.bl (neg != decide (i ∈ is)),S):=by
 have e:inF (.int i) (is.map D.int)=decide (i ∈ is):=by
  unfold inF;rw[XG,Z3,YD];simp only[Function.comp_def,eqF,beq_iff_eq,decide_eq_true_eq];exact⟨λ⟨x,hx,e⟩=>e ▸ hx,λh=>⟨i,h,rfl⟩⟩
 simp only[inS,ao];rw[if_pos ⟨rfl,sS is⟩,e]
theorem Fo(i j:Int)(S:Sto):az .eq (.int i) (.int j) S=some (.bl (decide (i=j)),S):=by
 simp only[az,eqS];have:eqD 60 S (.int i) (.int j)=some (i == j):=rfl;rw[this];rfl
theorem Fp(i j:Int)(S:Sto):az .ne (.int i) (.int j) S=some (.bl (!decide (i=j)),S):=ma (x:=.int i) (y:=.int j) (b:=decide (i=j)) rfl
theorem KM{i j:Int}:Ok (az .eq (.int i) (.int j) S) Q=Q (.bl (decide (i=j))) S:=by rw[Fo,aF]
theorem KN{i j:Int}:Ok (az .ne (.int i) (.int j) S) Q=Q (.bl (!decide (i=j))) S:=by rw[Fp,aF]
theorem Fq{i:Nat}:aA (.name i) d ρ=if i < ρ.length then some (ρ.set i (some d)) else none:=by simp only[aA]
theorem BW:aA (.tup ts) (.tup ds) ρ=aK ts ds ρ:=by simp only[aA]
theorem wY:aK [] [] ρ=some ρ:=by simp only[aK]
theorem sU{i:Nat}:aK (.name i::ts) (d::ds) ρ=if i < ρ.length then aK ts ds (ρ.set i (some d)) else none:=by
 simp only[aK,aA];split
 ·rename_i ρ' h;split at h
  ·rename_i hc;cases h;rw[if_pos hc]
  ·cases h
 ·rename_i h;split at h
  ·cases h
  ·rename_i hc;rw[if_neg hc]
theorem bT{i j:Nat}(h1:i < ρ.length)(h2:j < ρ.length):aA (.tup [.name i,.name j]) (.tup [a,b]) ρ=some ((ρ.set i (some a)).set j (some b)):=by
 rw[BW,sU,if_pos h1,sU,if_pos (by rw[Yh];exact h2),wY]
theorem ak{a:Nat}(h:S[a]?=some (.lst es)):aq S a=some es:=by simp only[aq,h]
theorem wZ{a b n:Nat}(h1:S[a]?=some (.lst es))(h2:S[b]?=some (.lst []))(hn:a ≠ b):eqD (n+1) S (.ref a) (.ref b)=some es.isEmpty:=by
 show(match aq S a,aq S b with |some xs,some ys=>if a=b then some true else if xs.length=ys.length then eqL (eqD n S) xs ys else some false |_,_=>none)=_;rw[ak h1,ak h2];show(if a=b then some true else if es.length=([]:List D).length then eqL (eqD n S) es [] else some false)=_;rw[if_neg hn];cases es with
 |nil=>simp[eqL]
 |cons x xs=>simp
theorem ne_nil{a b:Nat}(h1:S[a]?=some (.lst es))(h2:S[b]?=some (.lst []))(hn:a ≠ b):az .ne (.ref a) (.ref b) S=some (.bl (!es.isEmpty),S):=ma (wZ h1 h2 hn)
theorem KO{a b:Nat}(h1:S[a]?=some (.lst es))(h2:S[b]?=some (.lst []))(hn:a ≠ b):az .eq (.ref a) (.ref b) S=some (.bl es.isEmpty,S):=by
 simp only[az,eqS,wZ h1 h2 hn,Zq]
theorem w9:az .ne (.ref (Zb S)) (.ref (Zb (S++[Ob.lst es]))) (S++[Ob.lst es]++[Ob.lst []])=some (.bl (!es.isEmpty),S++[Ob.lst es]++[Ob.lst []]):=
 ne_nil (by rw[Yd,Zs (Ze _),Yx];rfl) (by rw[Zs (Ze _),Yx];rfl) (by simp)
theorem BX(ds:List D)(k:Nat)(hk:k<=ds.length):gP ds none (some (k:Int))=ds.take k:=by
 unfold gP;rw[Dw.z9 _ _ (by lia),Zn,Xa hk];rfl
theorem KP{p:Nat}(h:TDs p S ts ds):av cq (.tup ds) S=some (.int ts.length,S):=by
 simp only[av,ao,cq,h.len]
theorem HL{p:Nat}{i:Nat}(h:TDs p S ts ds)(e:ts[i]?=some t)(q:∀d,TD p S t d->Q d S):Ok (ixS (.tup ds) (.int i) S) Q:=by
 obtain⟨d,e1,td⟩:=h.get e;have hi:=(Zc.mp e1).1
 have ea:atI ds (i:Int)=some d:=by
  unfold atI ixN;rw[if_pos (by lia),if_pos (by lia),Zn];exact e1
 simp only[ixS,ao,ea,Zq];rw[aF];exact q d td
section
variable {S S' S1 S2:Sto} {p:Nat} {Q:D->Sto->Prop} {ρ:Rho}
theorem KQ{i j:Int}:Ok (bI .mod (.int i) (.int j) S) Q=(0 < j/\Q (.int (i % j)) S):=by
 simp only[bI,JE,dg,aF,aV];apply propext;split
 ·show 7
 ·show 5
theorem Fs{i j:Int}:Ok (bI .fdiv (.int i) (.int j) S) Q=((0 < j/\j < 1237940039285380274899124224)/\Q (.int (i / j)) S):=by
 simp only[bI,Al,dg,aF,aV];apply propext;split
 ·show 7
 ·show 5
theorem KR{i j:Int}:Ok (bI .mul (.int i) (.int j) S) Q=(iT i j=true/\Q (.int (i * j)) S):=by
 simp only[bI,qi,dg,aF,aV];apply propext;split
 ·show 7
 ·show 5
theorem KS{i j:Int}:Ok (bI .pow (.int i) (.int j) S) Q=((0<=j/\j<=1000000/\i.natAbs < 2 ^ 64)/\Q (.int (i ^ j.toNat)) S):=by
 simp only[bI,JF,dg,aF,aV];apply propext;split
 ·show 7
 ·show 5
theorem xa{i j:Int}(h1:-(2 ^ 64) < j)(h2:j < 2 ^ 64):iT i j=true:=by simp only[iT,Y9,bAE,decide_eq_true_eq];exact .inr ⟨h1,h2⟩
theorem gJ{i j:Int}(h1:-(2 ^ 64) < i)(h2:i < 2 ^ 64):iT i j=true:=by simp only[iT,Y9,bAE,decide_eq_true_eq];exact .inl ⟨h1,h2⟩
def Pot(p:Nat)(S:Sto):Prop:=∃n:Int,S[p]?=some (.lst [.int n])
structure Dr(p:Nat)(S S':Sto):Prop where
 kp:Kp p S S'
 pot:Pot p S'
theorem Dr.refl(h:Pot p S):Dr p S S:=⟨Kp.refl p S,h⟩
theorem Dr.trans(a:Dr p S S1)(b:Dr p S1 S2):Dr p S S2:=⟨a.kp.trans b.kp,b.pot⟩
theorem Dr.sm(h:Pot p S)(s:Sm S S'):Dr p S S':=⟨s.kp,let ⟨n,e⟩:=h;⟨n,s _ _ e⟩⟩
theorem Dr.thenSm(a:Dr p S S1)(s:Sm S1 S2):Dr p S S2:=a.trans (Dr.sm a.pot s)
theorem Pot.lt(h:Pot p S):p < S.length:=let ⟨_,e⟩:=h;(Zc.mp e).1
theorem KU:Kp p S (S.set p o):=λi u n e=>by rw[ZN (Ne.symm n)];exact e
theorem iI(h:p < S.length):(S.set p o)[p]?=some o:=by rw[ZI h]
theorem gw{n:Nat}{lo:Int}{tg:Tg}{b:XS}{Q:Fl->Rho->Sto->Prop}(hl:n<=100000)(I:Nat->Rho->Sto->Prop)
  (step:∀ (i:Nat) ρ S,i < n->I i ρ S->∃ρ1,aA tg (.int (lo+i)) ρ=some ρ1/\OkS (b ρ1 S) λfl ρ2 S2=>match fl with |.nx=>I (i+1) ρ2 S2 |.ct=>I (i+1) ρ2 S2 |.bk=>Q .nx ρ2 S2 |.rt d=>Q (.rt d) ρ2 S2)
  (q:∀ρ S',I n ρ S'->Q .nx ρ S') (h0:I 0 ρ S):OkS (eC (nxR lo n) tg b LF 0 ρ S) Q:=by
 refine jf n I (by unfold LF;lia) (λi ρ S' hi iv=>?_) (λρ S' iv=>⟨?_,q ρ S' iv⟩) h0
 ·obtain⟨ρ1,e2,z⟩:=step i ρ S' hi iv;exact⟨_,ρ1,by show some (if i < n then some (D.int (lo+i)) else none)=_;rw[if_pos hi],e2,z⟩
 ·show some (if n < n then some (D.int (lo+n)) else none)=_;rw[if_neg (ZM n)]
theorem vh{n:Nat}{lo:Int}{tg:Tg}{c:XA}{Q:List D->Sto->Prop}(hl:n<=100000)(I:Nat->List D->Sto->Prop)
  (step:∀ (i:Nat) acc S',i < n->I i acc S'->∃ρ1,aA tg (.int (lo+i)) ρ=some ρ1/\Ok (c ρ1 S') λes S1=>I (i+1) (acc++es) S1) (q:∀es S',I n es S'->es.length<=100000/\Q es S') (h0:I 0 [] S) :
  Ok (bj (nxR lo n) tg c ρ LF 0 S) λes S2=>es.length<=100000/\Q es S2:=by
 refine(gu n I (by unfold LF;lia) (λi acc S' hi iv=>?_) (λacc S' iv=>?_) h0).mono q
 ·obtain⟨ρ1,e2,z⟩:=step i acc S' hi iv;exact⟨_,ρ1,by show some (if i < n then some (D.int (lo+i)) else none)=_;rw[if_pos hi],e2,z⟩
 ·show some (if n < n then some (D.int (lo+n)) else none)=_;rw[if_neg (ZM n)]
theorem KW:Ok (ug x y ρ S) Q=Ok (x ρ S) λds S1=>Ok (y ρ S1) λi S2=>∃k,i = .int k/\∃d,atI ds k=some d/\Q d S2:=by
 unfold ug;rw[bH]
 congr 1
 funext ds S1
 rw[bH]
 congr 1
 funext i S2
 apply propext;cases i with
 |int k=>simp[Kz]
 |_=>simp[aV]
theorem KY{i:Int}(h0:0<=i)(h1:i < ds.length):∃d,atI ds i=some d/\ds[i.toNat]?=some d:=by
 have hi:i.toNat < ds.length:=by lia
 refine⟨ds[i.toNat],?_,gEG hi⟩;unfold atI ixN;rw[if_pos h0,if_pos (by lia)];exact gEG hi
theorem dY{nx:Nxt}{tg:Tg}{c:XA}{Q:List D->Sto->Prop}(n:Nat)(el:Nat->D)(I:Nat->List D->Sto->Prop)(hnx:∀i acc S',i<=n->I i acc S'->nx i S'=some (if i < n then some (el i) else none))(hl:n<=100000)
  (step:∀ (i:Nat) acc S',i < n->I i acc S'->∃ρ1,aA tg (el i) ρ=some ρ1/\Ok (c ρ1 S') λes S1=>I (i+1) (acc++es) S1) (q:∀es S',I n es S'->es.length<=100000/\Q es S') (h0:I 0 [] S) :
  Ok (bj nx tg c ρ LF 0 S) λes S2=>es.length<=100000/\Q es S2:=by
 refine(gu n I (by unfold LF;lia) (λi acc S' hi iv=>?_) (λacc S' iv=>?_) h0).mono q
 ·obtain⟨ρ1,e2,z⟩:=step i acc S' hi iv;exact⟨_,ρ1,by rw[hnx i acc S' (by lia) iv,if_pos hi],e2,z⟩
 ·rw[hnx n acc S' (Ze _) iv,if_neg (ZM n)]
theorem j5{m i:Nat}(h:S[m]?=some (.lst ds))(el:Nat->D)(he:∀i d,ds[i]?=some d->el i=d):nxS m i S=some (if i < ds.length then some (el i) else none):=by
 show(aq S m).map (λds=>ds[i]?)=_;rw[ak h,Zq];split
 ·rename_i hi;rw[gEG hi,he i _ (gEG hi)]
 ·rename_i hi;rw[ZC (by lia)]
theorem xc{m i:Nat}(h:S[m]?=some (.lst ds))(hi':i<=ds.length)(el:Nat->D)(he:∀i d,ds[i]?=some d->el i = .tup [.int i,d]):yx m i S=some (if i < ds.length then some (el i) else none):=by
 show(aq S m).bind (λds=>enm ds i)=_;rw[ak h];show enm ds i=_;unfold enm;rw[if_pos hi'];split
 ·rename_i hi;rw[gEG hi,he i _ (gEG hi)];rfl
 ·rename_i hi;rw[ZC (by lia)];rfl
structure RowsS(p:Nat)(S:Sto)(rs:List D)(M:List (List Int)):Prop where
 len:rs.length=M.length
 row:∀ (i:Nat) r,M[i]?=some r->∃a,rs[i]?=some (.ref a)/\a ≠ p/\S[a]?=some (.lst (r.map D.int))
theorem RowsS.keep(h:RowsS p S rs M)(k:Kp p S S'):RowsS p S' rs M:=⟨h.len,λi r hr=>let ⟨a,e,n,z⟩:=h.row i r hr;⟨a,e,n,k _ _ n z⟩⟩
theorem RowsS.nil:RowsS p S [] []:=⟨rfl,λi r h=>by simp at h⟩
theorem RowsS.snoc{a:Nat}(h:RowsS p S rs M)(n:a ≠ p)(z:S[a]?=some (.lst (r.map D.int))):RowsS p S (rs++[.ref a]) (M++[r]):=by
 refine⟨by simp[h.len],λi r' hr=>?_⟩;by_cases hi:i < M.length
 ·rw[Zw hi] at hr;obtain⟨b,e,nb,zb⟩:=h.row i r' hr;exact⟨b,by rw[Zw (by rw[h.len];exact hi)];exact e,nb,zb⟩
 ·rw[Zs (by lia)] at hr
  have hz:i - M.length=0:=by
   have:=(Zc.mp hr).1;simp at this;lia
  rw[hz] at hr;cases hr;exact⟨a,by rw[Zs (by rw[h.len];lia),h.len,hz];rfl,n,z⟩
theorem al:(S++[o])[S.length]?=some o:=by rw[Zs (Ze _),Yx];rfl
theorem Kp.setNew{f:Nat}(h:Kp p S S')(hf:S.length<=f):Kp p S (S'.set f o):=λi u n e=>by
 have hi:=(Zc.mp e).1;rw[ZN (by lia)];exact h i u n e
theorem Pot.setNe{f:Nat}(h:Pot p S)(hf:f ≠ p):Pot p (S.set f o):=by
 obtain⟨n,e⟩:=h;exact⟨n,by rw[ZN hf];exact e⟩
abbrev ac(q:Int × Int):D:=.tup [.int q.1,.int q.2]
theorem eJ:∀ (es:List (Int × Int)),TDs p S (es.map Dw.bG) (es.map ac)
 |[]=>aM
 |e::es=>ag (bA (ag bc (ag bc aM))) (eJ es)
theorem BZ{f:Nat}(h:S[f]?=some (.lst ds))(hl:ds.length < 100000):Ok (uB (.ref f) [e] S) Q=Q .non (S.set f (.lst (ds++[e]))):=by
 simp only[uB,chg,h];rw[if_pos hl];exact aF
theorem gx{f:Nat}(h:S[f]?=some (.lst ds)):eA (.ref f) S=true:=by simp only[eA,ak h];rfl
theorem xh{f:Nat}(h:S[f]?=some (.lst (ds++[e]))):ixS (.ref f) (.int (-1)) S=some (e,S):=by
 have:atI (ds++[e]) (-1:Int)=some e:=by
  unfold atI ixN;rw[if_neg (by decide),if_pos (by rw[Zr,ZR];lia)];show(ds++[e])[((-1:Int)+((ds++[e]).length:Int)).toNat]?=some e;have:((-1:Int)+((ds++[e]).length:Int)).toNat=ds.length:=by rw[Zr,ZR];lia
  rw[this,Zs (Ze _),Yx];rfl
 simp only[ixS,ao,ak h,Zq,this]
theorem zI{i:Nat}(h:ds[i]?=some d):ixS (.tup ds) (.int i) S=some (d,S):=by
 have hi:=(Zc.mp h).1
 have ea:atI ds (i:Int)=some d:=by
  unfold atI ixN;rw[if_pos (by lia),if_pos (by lia),Zn];exact h
 simp only[ixS,ao,ea,Zq]
theorem pV{i:Nat}(h:ds[i]?=some d):atI ds (i:Int)=some d:=by
 have hi:=(Zc.mp h).1;unfold atI ixN;rw[if_pos (by lia),if_pos (by lia),Zn];exact h
theorem iJ{n:Nat}(hn:n ≠ p)(h:S[n]?=some (.lst ds))(q:TDs p S ts ds):TD p S (.lst ts) (.ref n):=by rw[TD];exact⟨n,ds,rfl,hn,h,q⟩
theorem B0{n:Nat}(hn:n ≠ p)(h:S[n]?=some (.dic ks ds))(q:TDs p S ts ds):TD p S (.dic ks ts) (.ref n):=by rw[TD];exact⟨n,ds,rfl,hn,h,q⟩
theorem Ft:az .eq (.tup ds) (.tup []) S=some (.bl ds.isEmpty,S):=by
 simp only[az,eqS]
 have:eqD 60 S (.tup ds) (.tup [])=some ds.isEmpty:=by
  cases ds <;> rfl
 rw[this];rfl
theorem Fu:az .ne (.tup ds) (.tup []) S=some (.bl (!ds.isEmpty),S):=ma (x:=.tup ds) (y:=.tup []) (b:=ds.isEmpty) (by cases ds <;> rfl)
theorem KZ:Ok (bI .add (.tup xs) (.tup ys) S) Q=(xs.length+ys.length<=1000/\Q (.tup (xs++ys)) S):=by
 simp only[bI,kL,dg,aF,aV];apply propext;split
 ·show 7
 ·show 5
end
@[inline]abbrev WP(α:Type):=Rho->Sto->(α->Sto->Prop)->Prop
def Sd{α:Type}(w:WP α)(x:Rho->Sto->Option (α × Sto)):Prop:=∀ρ S Q,w ρ S Q->Ok (x ρ S) Q
theorem aZ{α β:Type}{x:Option (α × Sto)}{f:α->Sto->Option (β × Sto)}{Q:β->Sto->Prop}(h:Ok x λa S=>Ok (f a S) Q):Ok (bnd x f) Q:=bH ▸ h
theorem bw{α:Type}{a:α}{S:Sto}{Q:α->Sto->Prop}(h:Q a S):Ok (some (a,S)) Q:=⟨_,_,rfl,h⟩
def wIf(b:Bool)(A B:Prop):Prop:=match b with
 |true=>A
 |false=>B
def wBl(d:D)(Q:Bool->Prop):Prop:=match d with
 |.bl b=>Q b
 |.non=>False |.int _=>False |.str _=>False |.tup _=>False |.ref _=>False
def dk(d:D)(Q:Int->Prop):Prop:=match d with
 |.int i=>Q i
 |.non=>False |.bl _=>False |.str _=>False |.tup _=>False |.ref _=>False
theorem nw{d:D}{Q:Bool->Prop}(h:wBl d Q):∃b,d = .bl b/\Q b:=by cases d <;> first |exact h.elim |exact⟨_,rfl,h⟩
theorem cz{d:D}{Q:Int->Prop}(h:dk d Q):∃b,d = .int b/\Q b:=by cases d <;> first |exact h.elim |exact⟨_,rfl,h⟩
def QU(o:Option D)(Q:D->Prop):Prop:=match o with
 |some d=>Q d
 |none=>False
def vj:Rho->Nat->(D->Prop)->Prop
 |[],_,_=>False
 |o::_,0,Q=>QU o Q
 |_::ρ,i+1,Q=>vj ρ i Q
theorem xj:∀ {ρ:Rho} {i:Nat} {Q:D->Prop},vj ρ i Q->∃d,ρ[i]?=some (some d)/\Q d
 |[],_,_,h=>h.elim
 |some d::_,0,_,h=>⟨d,rfl,h⟩
 |none::_,0,_,h=>h.elim
 |o::ρ,i+1,_,h=>by rw[Yr];exact xj (ρ:=ρ) h
def Pf(i:Nat):WP D:=λρ S Q=>vj ρ i λd=>Q d S
theorem Pg{i:Nat}:Sd (Pf i) (ya i):=λρ S Q h=>by
 rw[KH];exact xj h
def wC(d:D):WP D:=λ_ S Q=>Q d S
theorem s_c{d:D}:Sd (wC d) (xC d):=λ_ _ _ h=>bw h
def Fv(g:D->D->Sto->(D->Sto->Prop)->Prop)(x y:WP D):WP D:=λρ S Q=>x ρ S λa S1=>y ρ S1 λb S2=>g a b S2 Q
theorem B1{g:D->D->Sto->(D->Sto->Prop)->Prop}{f:D->D->Sto->Option (D × Sto)}{w v:WP D}{x y:XE}(hw:Sd w x)(hv:Sd v y)(hg:∀ {a b S Q},g a b S Q->Ok (f a b S) Q):Sd (Fv g w v) (rH f x y):=
 λ_ _ _ h=>aZ ((hw _ _ _ h).mono λ_ _ h=>aZ ((hv _ _ _ h).mono λ_ _ h=>hg h))
def wUn{α β:Type}(g:α->Sto->(β->Sto->Prop)->Prop)(x:WP α):WP β:=λρ S Q=>x ρ S λa S1=>g a S1 Q
theorem Fw{α β:Type}{g:α->Sto->(β->Sto->Prop)->Prop}{f:α->Sto->Option (β × Sto)}{w:WP α}{x:Rho->Sto->Option (α × Sto)}(hw:Sd w x)(hg:∀ {a S Q},g a S Q->Ok (f a S) Q):Sd (wUn g w) (λρ S=>bnd (x ρ S) f):=
 λ_ _ _ h=>aZ ((hw _ _ _ h).mono λ_ _ h=>hg h)
def wOk{α β:Type}(f:α->Sto->Option (β × Sto))(a:α)(S:Sto)(Q:β->Sto->Prop):Prop:=Ok (f a S) Q
def wII:BOp->Int->Int->Sto->(D->Sto->Prop)->Prop
 |.add,i,j,S,Q=>Q (.int (i+j)) S
 |.sub,i,j,S,Q=>Q (.int (i - j)) S
 |.mul,i,j,S,Q=>iT i j=true/\Q (.int (i * j)) S
 |.mod,i,j,S,Q=>0 < j/\Q (.int (i % j)) S
 |.fdiv,i,j,S,Q=>(0 < j/\j < 1237940039285380274899124224)/\Q (.int (i / j)) S
 |.pow,i,j,S,Q=>(0<=j/\j<=1000000/\i.natAbs < 2 ^ 64)/\Q (.int (i ^ j.toNat)) S
theorem K0{i j:Int}(h:wII o i j S Q):Ok (bI o (.int i) (.int j) S) Q:=by
 cases o with
 |add=>rw[KI];exact h
 |sub=>rw[KJ];exact h
 |mul=>rw[KR];exact h
 |mod=>rw[KQ];exact h
 |fdiv=>rw[Fs];exact h
 |pow=>rw[KS];exact h
def wTT:BOp->List D->List D->Sto->(D->Sto->Prop)->Prop
 |.add,xs,ys,S,Q=>xs.length+ys.length<=1000/\Q (.tup (xs++ys)) S
 |.sub,_,_,_,_=>False
 |.mul,_,_,_,_=>False
 |.mod,_,_,_,_=>False
 |.fdiv,_,_,_,_=>False
 |.pow,_,_,_,_=>False
theorem K1(h:wTT o i j S Q):Ok (bI o (.tup i) (.tup j) S) Q:=by
 cases o with
 |add=>rw[KZ];exact h
 |_=>exact h.elim
def B2(o:BOp)(i:Int)(y:D)(S:Sto)(Q:D->Sto->Prop):Prop:=match y with
 |.int j=>wII o i j S Q
 |.non=>False |.bl _=>False |.str _=>False |.ref _=>False
 |.tup ys=>Ok (bI o (.int i) (.tup ys) S) Q
def xk(o:BOp)(xs:List D)(y:D)(S:Sto)(Q:D->Sto->Prop):Prop:=match y with
 |.tup ys=>wTT o xs ys S Q
 |.non=>False |.bl _=>False |.str _=>False |.ref _=>False
 |.int j=>Ok (bI o (.tup xs) (.int j) S) Q
def vk(o:BOp)(x y:D)(S:Sto)(Q:D->Sto->Prop):Prop:=match x with
 |.int i=>B2 o i y S Q
 |.tup xs=>xk o xs y S Q
 |.non=>Ok (bI o .non y S) Q
 |.bl b=>Ok (bI o (.bl b) y S) Q
 |.str b=>Ok (bI o (.str b) y S) Q
 |.ref b=>Ok (bI o (.ref b) y S) Q
theorem Fx(h:vk o x y S Q):Ok (bI o x y S) Q:=by
 cases x with
 |int i=>cases y with
  |int j=>exact K0 h
  |tup ys=>exact h
  |_=>exact h.elim
 |tup xs=>cases y with
  |int j=>exact h
  |tup ys=>exact K1 h
  |_=>exact h.elim
 |_=>exact h
def wCI:COp->Int->Int->Sto->(D->Sto->Prop)->Prop
 |.eq,i,j,S,Q=>Q (.bl (decide (i=j))) S
 |.ne,i,j,S,Q=>Q (.bl (!decide (i=j))) S
 |.lt,i,j,S,Q=>Q (.bl (decide (i < j))) S
 |.le,i,j,S,Q=>Q (.bl (decide (i<=j))) S
 |.gt,i,j,S,Q=>Q (.bl (decide (j < i))) S
 |.ge,i,j,S,Q=>Q (.bl (decide (j<=i))) S
 |.is,_,_,_,_=>False
 |.isnot,_,_,_,_=>False
 |.isin,_,_,_,_=>False
 |.notin,_,_,_,_=>False
theorem K2{i j:Int}(h:wCI o i j S Q):Ok (az o (.int i) (.int j) S) Q:=by
 cases o with
 |eq=>rw[KM];exact h
 |ne=>rw[KN];exact h
 |lt=>rw[Pb];exact h
 |le=>rw[Pa];exact h
 |gt=>rw[Pc];exact h
 |ge=>rw[Pd];exact h
 |_=>exact h.elim
def K3(o:COp)(i:Int)(y:D)(S:Sto)(Q:D->Sto->Prop):Prop:=match y with
 |.int j=>wCI o i j S Q
 |.non=>Ok (az o (.int i) .non S) Q
 |.bl b=>Ok (az o (.int i) (.bl b) S) Q
 |.str b=>Ok (az o (.int i) (.str b) S) Q
 |.ref b=>Ok (az o (.int i) (.ref b) S) Q
 |.tup b=>Ok (az o (.int i) (.tup b) S) Q
def yQ(o:COp)(xs:List D)(y:D)(S:Sto)(Q:D->Sto->Prop):Prop:=match o with
 |.eq=>match y with
  |.tup ys=>match ys with
   |[]=>Q (.bl xs.isEmpty) S
   |y::ys=>Ok (az .eq (.tup xs) (.tup (y::ys)) S) Q
  |.non=>Ok (az .eq (.tup xs) .non S) Q
  |.bl b=>Ok (az .eq (.tup xs) (.bl b) S) Q
  |.str b=>Ok (az .eq (.tup xs) (.str b) S) Q
  |.ref b=>Ok (az .eq (.tup xs) (.ref b) S) Q
  |.int b=>Ok (az .eq (.tup xs) (.int b) S) Q
 |.ne=>match y with
  |.tup ys=>match ys with
   |[]=>Q (.bl (!xs.isEmpty)) S
   |y::ys=>Ok (az .ne (.tup xs) (.tup (y::ys)) S) Q
  |.non=>Ok (az .ne (.tup xs) .non S) Q
  |.bl b=>Ok (az .ne (.tup xs) (.bl b) S) Q
  |.str b=>Ok (az .ne (.tup xs) (.str b) S) Q
  |.ref b=>Ok (az .ne (.tup xs) (.ref b) S) Q
  |.int b=>Ok (az .ne (.tup xs) (.int b) S) Q
 |.is=>Ok (az .is (.tup xs) y S) Q
 |.isnot=>Ok (az .isnot (.tup xs) y S) Q
 |.isin=>Ok (az .isin (.tup xs) y S) Q
 |.notin=>Ok (az .notin (.tup xs) y S) Q
 |.lt=>False |.le=>False |.gt=>False |.ge=>False
def wCx(o:COp)(x y:D)(S:Sto)(Q:D->Sto->Prop):Prop:=match x with
 |.int i=>K3 o i y S Q
 |.tup xs=>yQ o xs y S Q
 |.non=>Ok (az o .non y S) Q
 |.bl b=>Ok (az o (.bl b) y S) Q
 |.str b=>Ok (az o (.str b) y S) Q
 |.ref b=>Ok (az o (.ref b) y S) Q
theorem K4(h:wCx o x y S Q):Ok (az o x y S) Q:=by
 cases x with
 |int i=>cases y with
  |int j=>exact K2 h
  |_=>exact h
 |tup xs=>cases o with
  |eq=>cases y with
   |tup ys=>cases ys with
    |nil=>rw[Ft,aF];exact h
    |cons y ys=>exact h
   |_=>exact h
  |ne=>cases y with
   |tup ys=>cases ys with
    |nil=>rw[Fu,aF];exact h
    |cons y ys=>exact h
   |_=>exact h
  |lt=>exact h.elim
  |le=>exact h.elim
  |gt=>exact h.elim
  |ge=>exact h.elim
  |_=>exact h
 |_=>exact h
def wCm(o:COp)(x y:D)(S:Sto)(Q:D->Sto->Prop):Prop:=match o with
 |.is=>Ok (az .is x y S) Q
 |.isnot=>Ok (az .isnot x y S) Q
 |.isin=>Ok (az .isin x y S) Q
 |.notin=>Ok (az .notin x y S) Q
 |.eq=>wCx .eq x y S Q
 |.ne=>wCx .ne x y S Q
 |.lt=>wCx .lt x y S Q
 |.le=>wCx .le x y S Q
 |.gt=>wCx .gt x y S Q
 |.ge=>wCx .ge x y S Q
theorem qH(h:wCm o x y S Q):Ok (az o x y S) Q:=by
 cases o <;> first |exact K4 h |exact h
def K5(o p:COp)(x y z:WP D):WP D:=λρ S Q=>x ρ S λa S1=>y ρ S1 λb S2=>wCm o a b S2 λr S3=>wBl r λc=>wIf c (z ρ S3 λe S4=>wCm p b e S4 Q) (Q (.bl false) S3)
theorem HM(hw:Sd w x)(hv:Sd v y)(hu:Sd u z):Sd (K5 o p w v u) (yA (az o) (az p) x y z):=λ_ _ _ h=>by
 rw[KG];refine(hw _ _ _ h).mono λa S1 h=>(hv _ _ _ h).mono λb S2 h=>(qH h).mono λr S3 h=>?_;obtain⟨c,e,h⟩:=nw h;refine⟨c,e,?_⟩;cases c with
 |true=>exact(hu _ _ _ h).mono λe S4 h=>qH h
 |false=>exact h
def Ph(x y:WP D):WP D:=λρ S Q=>x ρ S λd S1=>wBl d λb=>wIf b (y ρ S1 Q) (Q (.bl false) S1)
theorem Pj(hw:Sd w x)(hv:Sd v y):Sd (Ph w v) (AO x y):=λ_ _ _ h=>by
 rw[KD];refine(hw _ _ _ h).mono λa S1 h=>?_;obtain⟨c,e,h⟩:=nw h;refine⟨c,e,?_⟩;cases c with
 |true=>exact hv _ _ _ h
 |false=>exact h
def wOr(x y:WP D):WP D:=λρ S Q=>x ρ S λd S1=>wBl d λb=>wIf b (Q (.bl true) S1) (y ρ S1 Q)
theorem QV(hw:Sd w x)(hv:Sd v y):Sd (wOr w v) (xOr x y):=λ_ _ _ h=>by
 rw[O9];refine(hw _ _ _ h).mono λa S1 h=>?_;obtain⟨c,e,h⟩:=nw h;refine⟨c,e,?_⟩;cases c with
 |false=>exact hv _ _ _ h
 |true=>exact h
def Pk(x:WP D):WP D:=λρ S Q=>x ρ S λd S1=>wBl d λb=>Q (.bl (!b)) S1
theorem Pl{w:WP D}{x:XE}(hw:Sd w x):Sd (Pk w) (xUn yz x):=λ_ _ _ h=>aZ ((hw _ _ _ h).mono λa S1 h=>by
 rw[KF];exact nw h)
def Pn(x:WP D):WP D:=λρ S Q=>x ρ S λd S1=>dk d λi=>Q (.int (-i)) S1
theorem Po{w:WP D}{x:XE}(hw:Sd w x):Sd (Pn w) (xUn J2 x):=λ_ _ _ h=>aZ ((hw _ _ _ h).mono λa S1 h=>by
 obtain⟨i,rfl,h⟩:=cz h;exact bw h)
def wO:Option (WP D)->WP (Option Int)
 |none=>λ_ S Q=>Q none S
 |some w=>λρ S Q=>w ρ S λd S1=>dk d λi=>Q (some i) S1
def vm(lo hi:Option Int)(d:D)(S:Sto)(Q:D->Sto->Prop):Prop:=match d with
 |.tup ds=>Q (.tup (gP ds lo hi)) S
 |.ref n=>Ok (slS lo hi (.ref n) S) Q
 |.non=>False |.bl _=>False |.str _=>False |.int _=>False
def wSl(x:WP D)(lo hi:WP (Option Int)):WP D:=λρ S Q=>x ρ S λd S1=>lo ρ S1 λl S2=>hi ρ S2 λh S3=>vm l h d S3 Q
theorem QW:Sd (wO none) uj:=λ_ _ _ h=>bw h
theorem QX{w:WP D}{x:XE}(hw:Sd w x):Sd (wO (some w)) (uk x):=λ_ _ _ h=>aZ ((hw _ _ _ h).mono λd S1 h=>by
 obtain⟨i,rfl,h⟩:=cz h;exact bw h)
theorem QY{w:WP D}{l u:WP (Option Int)}{x:XE}{lo hi:XO}(hw:Sd w x)(hl:Sd l lo)(hu:Sd u hi):Sd (wSl w l u) (xSl x lo hi):=λ_ _ _ h=>aZ ((hw _ _ _ h).mono λd S1 h=>aZ ((hl _ _ _ h).mono λa S2 h=>aZ ((hu _ _ _ h).mono λb S3 h=>by
 cases d with
 |tup ds=>exact bw h
 |ref n=>exact h
 | _=>exact h.elim)))
def HN(g:List D->Sto->Option (D × Sto))(n:Nat)(x:WP (List D)):WP D:=λρ S Q=>x ρ S λds S1=>ds.length=n/\Ok (g ds S1) Q
theorem K6{n:Nat}(hw:Sd w x):Sd (HN g n w) (se g n x):=λ_ _ _ h=>by
 rw[Fi];exact hw _ _ _ h
def j6(x:WP (List D)):WP D:=λρ S Q=>x ρ S λds S1=>Q (.ref S1.length) (S1++[.lst ds])
theorem gK(hw:Sd w x):Sd (j6 w) (dH x):=λ_ _ _ h=>by rw[BU];exact hw _ _ _ h
def fc:Nat->List CE->Prop->Prop
 |_,[],A=>A
 |0,_::_,_=>False
 |n+1,_::es,A=>fc n es A
theorem jg:∀ {n:Nat} {es:List CE} {A:Prop},fc n es A->es.length<=n/\A
 |n,[],_,h=>⟨XW _,by cases n <;> exact h⟩
 |0,_::_,_,h=>h.elim
 |n+1,_::es,_,h=>by rw[ZE];exact⟨XN (jg (es:=es) h).1,(jg (es:=es) h).2⟩
def wSh{α:Type}(es:List CE)(x:WP α):WP α:=λρ S Q=>fc 60 es (x ρ S Q)
def B3(c:D->Sto->Bool)(f:D->List D->Sto->Option (D × Sto))(x:WP D)(y:WP (List D)):WP D:=λρ S Q=>x ρ S λd S1=>c d S1=true/\y ρ S1 λas S2=>Ok (f d as S2) Q
theorem xl{c:D->Sto->Bool}{f:D->List D->Sto->Option (D × Sto)}{w:WP D}{v:WP (List D)}{x:XE}{y:XA}(hw:Sd w x)(hv:Sd v y):Sd (B3 c f w v) (yu c f x y):=λ_ _ _ h=>aZ ((hw _ _ _ h).mono λd S1 h=>by
 rw[if_pos h.1];exact aZ (hv _ _ _ h.2))
def K7(x:WP D):WP (List D):=λρ S Q=>x ρ S λd S1=>∃i:Nat,d = .int i/\i<=1000/\Q ((Zj i).map λj=>.int (Int.ofNat j)) S1
theorem HP(hw:Sd w x):Sd (K7 w) (yD x):=λ_ _ _ h=>KL (hw _ _ _ h)
def Pp:WP (List D):=λ_ S Q=>Q [] S
theorem Pq:Sd Pp D9:=λ_ _ _ h=>bw h
def HQ(x:WP D)(y:WP (List D)):WP (List D):=λρ S Q=>x ρ S λa S1=>y ρ S1 λas S2=>Q (a::as) S2
theorem K8{w:WP D}{v:WP (List D)}{x:XE}{y:XA}(hw:Sd w x)(hv:Sd v y):Sd (HQ w v) (v9 x y):=λ_ _ _ h=>aZ ((hw _ _ _ h).mono λd S1 h=>aZ ((hv _ _ _ h).mono λds S2 h=>bw h))
def QZ(o:Option D)(A:Prop):Prop:=match o with
 |none=>A
 |some _=>False
def wFr:Rho->Nat->Prop->Prop
 |[],_,_=>False
 |o::_,0,A=>QZ o A
 |_::ρ,i+1,A=>wFr ρ i A
theorem qI:∀ {ρ:Rho} {i:Nat} {A:Prop},wFr ρ i A->ρ[i]?=some none/\A
 |[],_,_,h=>h.elim
 |none::_,0,_,h=>⟨rfl,h⟩
 |some _::_,0,_,h=>h.elim
 |o::ρ,i+1,_,h=>by rw[Yr];exact qI (ρ:=ρ) h
def sV:List Tg->Rho->Prop->Prop
 |[],_,A=>A
 |.name i::ts,ρ,A=>wFr ρ i (sV ts ρ A)
 |.tup us::ts,ρ,A=>dz (.tup us) ρ=true/\sV ts ρ A
def wFt:Tg->Rho->Prop->Prop
 |.name i,ρ,A=>wFr ρ i A
 |.tup ts,ρ,A=>sV ts ρ A
theorem pE{i:Nat}(h:ρ[i]?=some none):dz (.name i) ρ=true:=by rw[dz,h]
theorem qJ:∀ {ts:List Tg} {ρ:Rho} {A:Prop},sV ts ρ A->fQ ts ρ=true/\A
 |[],_,_,h=>⟨by rw[fQ],h⟩
 |.name i::ts,ρ,_,h=>by
  obtain⟨e,h⟩:=qI h;obtain⟨e2,h⟩:=qJ h;exact⟨by rw[fQ,pE e,e2];rfl,h⟩
 |.tup us::ts,ρ,_,h=>by
  obtain⟨e,h⟩:=h;obtain⟨e2,h⟩:=qJ h;exact⟨by rw[fQ,e,e2];rfl,h⟩
theorem vn{A:Prop}(h:wFt t ρ A):dz t ρ=true/\A:=by
 cases t with
 |name i=>exact⟨pE (qI h).1,(qI h).2⟩
 |tup ts=>rw[dz];exact qJ h
def sW:List Str->Rho->(Rho->Prop)->Prop
 |[],r,Q=>Q r
 |_::own,r,Q=>sW own (none::r) Q
def sX:Rho->Rho->(Rho->Prop)->Prop
 |[],r,Q=>Q r
 |o::ρ,r,Q=>sX ρ r λr'=>Q (o::r')
theorem xm:∀ {ρ r:Rho} {Q:Rho->Prop},sX ρ r Q->Q (ρ++r)
 |[],_,_,h=>h
 |o::ρ,r,Q,h=>xm (ρ:=ρ) (Q:=λr'=>Q (o::r')) h
theorem xn:∀ {own:List Str} {k:Nat} {Q:Rho->Prop},sW own (Zp k none) Q->Q (Zp (own.length+k) none)
 |[],k,_,h=>by rw[YO,We];exact h
 |_::own,k,Q,h=>by
  have:=xn (own:=own) (k:=k+1) h;rw[ZE,show own.length+1+k=own.length+(k+1) by lia];exact this
def HR(own:List Str)(it:WP Nxt)(tg:Tg)(c:XA)(k:Nat):WP (List D):=λρ S Q=>it ρ S λnx S1=>sW own [] λr=>sX ρ r λρ'=>wFt tg ρ' (Ok (bj nx tg c ρ' k 0 S1) λes S2=>es.length<=100000/\Q es S2)
theorem B4{k:Nat}(hw:Sd w it):Sd (HR own w tg c k) (my own.length it tg c k):=λ_ _ _ h=>by
 rw[Fj]
 exact(hw _ _ _ h).mono λnx S1 h=>by
  have h:=xm (xn (own:=own) (k:=0) h);exact vn h
def B5(it:WP Nxt)(tg:Tg)(c:XA)(k:Nat):WP (List D):=λρ S Q=>wFt tg ρ (it ρ S λnx S1=>Ok (bj nx tg c ρ k 0 S1) Q)
theorem Fy{k:Nat}(hw:Sd w it):Sd (B5 w tg c k) (jI it tg c k):=λ_ _ _ h=>by
 rw[BS];exact⟨(vn h).1,hw _ _ _ (vn h).2⟩
def B6(d:D)(S1:Sto)(Q:Nxt->Sto->Prop):Prop:=match d with
 |.tup ds=>Q (nxL ds) S1
 |.ref n=>(aq S1 n).isSome=true/\Q (nxS n) S1
 |.non=>False |.bl _=>False |.str _=>False |.int _=>False
theorem Q0{w:WP D}{x:XE}(hw:Sd w x):Sd (λρ S Q=>w ρ S λd S1=>B6 d S1 Q) (xIV x):=λ_ _ _ h=>aZ ((hw _ _ _ h).mono λd S1 h=>by
 cases d with
 |tup ds=>exact bw h
 |ref n=>dsimp only;rw[if_pos h.1];exact bw h.2
 | _=>exact h.elim)
def B7(d:D)(S1:Sto)(Q:Nxt->Sto->Prop):Prop:=match d with
 |.tup ds=>Q (yw ds) S1
 |.ref n=>(aq S1 n).isSome=true/\Q (yx n) S1
 |.non=>False |.bl _=>False |.str _=>False |.int _=>False
theorem Q1{w:WP D}{x:XE}(hw:Sd w x):Sd (λρ S Q=>w ρ S λd S1=>B7 d S1 Q) (xEV x):=λ_ _ _ h=>aZ ((hw _ _ _ h).mono λd S1 h=>by
 cases d with
 |tup ds=>exact bw h
 |ref n=>dsimp only;rw[if_pos h.1];exact bw h.2
 | _=>exact h.elim)
def wOn{α β:Type}(f:α->β)(x:WP α):WP β:=λρ S Q=>x ρ S λa S1=>Q (f a) S1
theorem B8{α β:Type}{f:α->β}{w:WP α}{x:Rho->Sto->Option (α × Sto)}(hw:Sd w x):Sd (wOn f w) (λρ S=>bnd (x ρ S) λa S1=>some (f a,S1)):=λ_ _ _ h=>aZ ((hw _ _ _ h).mono λd S1 h=>bw h)
def wR1(x:WP D):WP Nxt:=λρ S Q=>x ρ S λd S1=>dk d λj=>lim j=true/\Q (nxR 0 j.toNat) S1
theorem Q2{w:WP D}{x:XE}(hw:Sd w x):Sd (wR1 w) (xR1 x):=λ_ _ _ h=>aZ ((hw _ _ _ h).mono λd S1 h=>by
 obtain⟨i,rfl,h⟩:=cz h;dsimp only;rw[if_pos h.1];exact bw h.2)
def wR2(x y:WP D):WP Nxt:=λρ S Q=>x ρ S λd S1=>y ρ S1 λe S2=>dk d λi=>dk e λj=>(lim i=true/\lim j=true)/\Q (nxR i (j - i).toNat) S2
theorem Q3{w v:WP D}{x y:XE}(hw:Sd w x)(hv:Sd v y):Sd (wR2 w v) (xR2 x y):=λ_ _ _ h=>aZ ((hw _ _ _ h).mono λd S1 h=>aZ ((hv _ _ _ h).mono λe S2 h=>by
 obtain⟨i,rfl,h'⟩:=cz h;obtain⟨j,rfl,h''⟩:=cz h';dsimp only;rw[if_pos h''.1];exact bw h''.2))
def cG(d:D)(S:Sto)(Q:Bool->Sto->Prop):Prop:=match d with
 |.bl b=>Q b S
 |.tup ds=>Q (!ds.isEmpty) S
 |.int i=>Q (i != 0) S
 |.non=>Q false S
 |.str y=>Ok (md (.str y) S) Q
 |.ref y=>Ok (md (.ref y) S) Q
theorem B9{d:D}{S:Sto}{Q:Bool->Sto->Prop}(h:cG d S Q):Ok (md d S) Q:=by cases d <;> first |exact bw h |exact h
def wB(x:WP D):WP Bool:=λρ S Q=>x ρ S λd S1=>wBl d λb=>Q b S1
theorem s_b(hw:Sd w x):Sd (wB w) (xB x):=λ_ _ _ h=>by
 rw[Pe];exact(hw _ _ _ h).mono λd S1 h=>nw h
def HS(x y:WP Bool):WP Bool:=λρ S Q=>x ρ S λb S1=>wIf b (y ρ S1 Q) (Q false S1)
def Pr(x y:WP Bool):WP Bool:=λρ S Q=>x ρ S λb S1=>wIf b (Q true S1) (y ρ S1 Q)
def HU(x:WP Bool):WP Bool:=λρ S Q=>x ρ S λb S1=>Q (!b) S1
theorem K9{w v:WP Bool}{x y:XT}(hw:Sd w x)(hv:Sd v y):Sd (HS w v) (AS x y):=λ_ _ _ h=>aZ ((hw _ _ _ h).mono λb S1 h=>by
 cases b with
 |true=>exact hv _ _ _ h
 | false=>exact bw h)
theorem Ps{w v:WP Bool}{x y:XT}(hw:Sd w x)(hv:Sd v y):Sd (Pr w v) (J4 x y):=λ_ _ _ h=>aZ ((hw _ _ _ h).mono λb S1 h=>by
 cases b with
 |false=>exact hv _ _ _ h
 | true=>exact bw h)
theorem La{w:WP Bool}{x:XT}(hw:Sd w x):Sd (HU w) (AU x):=λ_ _ _ h=>aZ ((hw _ _ _ h).mono λb S1 h=>bw h)
def HV(t:WP Bool)(c:WP (List D)):WP (List D):=λρ S Q=>t ρ S λb S1=>wIf b (c ρ S1 Q) (Q [] S1)
theorem Lb{t:WP Bool}{c:WP (List D)}{x:XT}{y:XA}(ht:Sd t x)(hc:Sd c y):Sd (HV t c) (AL x y):=λ_ _ _ h=>aZ ((ht _ _ _ h).mono λb S1 h=>by
 cases b with
 |true=>exact hc _ _ _ h
 | false=>exact bw h)
def Fz(f:Bool->List D->Option (List D))(ds:List D)(S:Sto)(Q:List D->Sto->Prop):Prop:=∃es,f false ds=some es/\Q es S
def FA(f:Bool->List D->Option (List D))(d:D)(S:Sto)(Q:List D->Sto->Prop):Prop:=∃r es,ao d S=some r/\f r.1 r.2=some es/\Q es S
def vo(d:D)(S:Sto)(Q:List D->Sto->Prop):Prop:=Ok ((ao d S).map λr=>(r.2,S)) Q
theorem Pt{f:Bool->List D->Option (List D)}{w:WP (List D)}{x:XA}(hw:Sd w x):Sd (λρ S Q=>w ρ S λds S1=>Fz f ds S1 Q) (yB f x):=λ_ _ _ h=>aZ ((hw _ _ _ h).mono λds S1 ⟨es,e,h⟩=>by rw[e];exact bw h)
theorem Pu{f:Bool->List D->Option (List D)}{w:WP D}{x:XE}(hw:Sd w x):Sd (λρ S Q=>w ρ S λds S1=>FA f ds S1 Q) (yC f x):=λ_ _ _ h=>aZ ((hw _ _ _ h).mono λds S1 ⟨r,es,e1,e,h⟩=>by
 rw[e1];dsimp only;rw[e];exact bw h)
def wNo{α:Type}:WP α:=λ_ _ _=>False
theorem sY{α:Type}{x:Rho->Sto->Option (α × Sto)}:Sd wNo x:=λ_ _ _ h=>h.elim
def aQ(b:Bool)(x:WP (List D))(y:WP D)(ρ:Rho)(S:Sto)(KT:List D->Sto->Prop)(KV:D->Sto->Prop):Prop:=match b with
 |true=>x ρ S KT
 |false=>y ρ S KV
def wOf{α:Type}(b:Bool)(x:WP (List D))(y:WP D)(gt:List D->Sto->(α->Sto->Prop)->Prop)(gv:D->Sto->(α->Sto->Prop)->Prop):WP α:=λρ S Q=>aQ b x y ρ S (λds S1=>gt ds S1 Q) (λd S1=>gv d S1 Q)
theorem s_of{α:Type}{b:Bool}{w:WP (List D)}{v:WP D}{gt:List D->Sto->(α->Sto->Prop)->Prop}{gv:D->Sto->(α->Sto->Prop)->Prop}{x y:Rho->Sto->Option (α × Sto)}(hw:Sd (λρ S Q=>w ρ S λds S1=>gt ds S1 Q) x)(hv:Sd (λρ S Q=>v ρ S λd S1=>gv d S1 Q) y):Sd (wOf b w v gt gv) (if b=true then x else y):=by
 cases b with
 |true=>exact hw
 |false=>exact hv
theorem Q4{b:Bool}{w:WP (List D)}{v u:WP D}{x:XA}{y z:XE}(hw:Sd w x)(hu:Sd u z)(hv:Sd v y):Sd (λρ S Q=>aQ b w u ρ S (λds S1=>v ρ S1 λi S2=>dk i λk=>∃d,atI ds k=some d/\Q d S2) (λd S1=>v ρ S1 λi S2=>Ok (ixS d i S2) Q)) (if b=true then ug x y else rH ixS z y):=λρ S Q h=>by
 cases b with
 |true=>
  show Ok (ug x y ρ S) Q;rw[KW];exact(hw _ _ _ h).mono λds S1 h=>(hv _ _ _ h).mono λi S2 h=>cz h
 |false=>exact aZ ((hu _ _ _ h).mono λds S1 h=>aZ (hv _ _ _ h))
abbrev wO2(t:CE->WP D):Option CE->Option (WP D)
 |none=>none
 |some e=>some (t e)
def FC(t:CE->WP Bool):Option CE->WP (List D)->WP (List D)
 |some c,x=>HV (t c) x
 |none,x=>x
def Ca(x y:D)(S:Sto)(Q:D->Sto->Prop):Prop:=dk x λi=>dk y λj=>Q (.int (if j > i then j else i)) S
def Cb(x y:D)(S:Sto)(Q:D->Sto->Prop):Prop:=dk x λi=>dk y λj=>Q (.int (if j < i then j else i)) S
def w2(g:D->D->Sto->(D->Sto->Prop)->Prop):List D->Sto->(D->Sto->Prop)->Prop
 |[],_,_=>False
 |[_],_,_=>False
 |[x,y],S,Q=>g x y S Q
 |_::_::_::_,_,_=>False
theorem HW(hg:∀ {a b S Q},g a b S Q->Ok (f a b S) Q):∀ {ds:List D} {S:Sto} {Q:D->Sto->Prop},w2 g ds S Q->Ok (two f ds S) Q
 |[],_,_,h=>h.elim
 |[_],_,_,h=>h.elim
 |[x,y],_,_,h=>hg h
 |_::_::_::_,_,_,h=>h.elim
def HX:WP D:=λ_ S Q=>Q (.ref (Zb S)) (S++[.dic [] []])
def HY(i j:Int):WP D:=λ_ S Q=>Q (.ref (Zb S)) (S++[.dic [og i] [.int j]])
def wCf(i:CI->WP Nxt)(own:List Str)(t:CE->XT)(e:List Cl->XA):List Cl->WP (List D)
 |[]=>wNo
 |⟨tg,it,cond⟩::rest=>HR own (i it) tg (cnd t cond (e rest)) LF
mutual
def wE(C:Calls)(ar:Nat->Nat):Nat->CE->WP D
 |0,_=>wNo
 |n+1,e=>match e with
  |.non=>wC .non
  |.bl b=>wC (.bl b)
  |.int i=>wC (.int i)
  |.str x=>wC (.str x)
  |.var i=>Pf i
  |.con _ v=>wC (.int v)
  |.tup es=>wSh es (wOn D.tup (wA C ar n es))
  |.lst es=>j6 (wSh es (wA C ar n es))
  |.dic0=>HX
  |.dic1 i j=>HY i j
  |.bin o a b=>Fv (vk o) (wE C ar n a) (wE C ar n b)
  |.neg a=>Pn (wE C ar n a)
  |.cmp o a b=>Fv (wCm o) (wE C ar n a) (wE C ar n b)
  |.chn o p a b c=>K5 o p (wE C ar n a) (wE C ar n b) (wE C ar n c)
  |.and a b=>Ph (wE C ar n a) (wE C ar n b)
  |.or a b=>wOr (wE C ar n a) (wE C ar n b)
  |.not a=>Pk (wE C ar n a)
  |.ix a b=>λρ S Q=>aQ (aj a) (wTm C ar n a) (wE C ar n a) ρ S (λds S1=>wE C ar n b ρ S1 λi S2=>dk i λk=>∃d,atI ds k=some d/\Q d S2) (λd S1=>wE C ar n b ρ S1 λi S2=>Ok (ixS d i S2) Q)
  |.sl a lo hi=>wSl (wE C ar n a) (wO (wO2 (wE C ar n) lo)) (wO (wO2 (wE C ar n) hi))
  |.call f es=>HN (C f) (ar f) (wA C ar n es)
  |.inst t a=>wUn (wOk (mi t)) (wE C ar n a)
  |.len a=>wOf (aj a) (wTm C ar n a) (wE C ar n a) (wOk (cq false)) (wOk (av cq))
  |.all a=>wOf (aj a) (wTm C ar n a) (wE C ar n a) (wOk (kM false)) (wOk (av kM))
  |.any a=>wOf (aj a) (wTm C ar n a) (wE C ar n a) (wOk (nZ false)) (wOk (av nZ))
  |.tupOf a=>wOf (aj a) (wTm C ar n a) (wE C ar n a) (wOk (jF false)) (wOk (av jF))
  |.listOf a=>j6 (wOf (aj a) (wTm C ar n a) (wE C ar n a) (λds S Q=>Q ds S) vo)
  |.listR a=>j6 (K7 (wE C ar n a))
  |.srt a=>j6 (wOf (aj a) (wTm C ar n a) (wE C ar n a) (Fz cR) (FA cR))
  |.mxL a=>wOf (aj a) (wTm C ar n a) (wE C ar n a) (wOk (kN false)) (wOk (av kN))
  |.mxD a c=>wOf (aj a) (wTm C ar n a) (wE C ar n a) (wOk (gX c false)) (wOk (av (gX c)))
  |.sm a=>wOf (aj a) (wTm C ar n a) (wE C ar n a) (wOk (n9 false)) (wOk (av n9))
  |.intOf a=>wUn (wOk Ax) (wE C ar n a)
  |.mx a b=>wUn (w2 Ca) (wA C ar n [a,b])
  |.mn a b=>wUn (w2 Cb) (wA C ar n [a,b])
  |.rep a=>wUn (wOk kj) (wE C ar n a)
  |.comp own elt cls=>j6 (wCf (wI C ar n) own (evT C ar n) (gQ C ar n elt) cls)
  |.app o a=>B3 eA uB (wE C ar n o) (wA C ar n [a])
  |.popAt o a=>B3 eA eT (wE C ar n o) (wA C ar n [a])
  |.ins o i a=>B3 eA uE (wE C ar n o) (wA C ar n [i,a])
  |.cnt o a=>B3 (λd _=>isTup d) uC (wE C ar n o) (wA C ar n [a])
def wA(C:Calls)(ar:Nat->Nat):Nat->List CE->WP (List D)
 |0,_=>wNo
 |n+1,es=>match es with
  |[]=>Pp
  |e::es=>HQ (wE C ar n e) (wA C ar n es)
def wTm(C:Calls)(ar:Nat->Nat):Nat->CE->WP (List D)
 |0,_=>wNo
 |n+1,e=>match e with
  |.lst es=>wSh es (wA C ar n es)
  |.listOf a=>wOf (aj a) (wTm C ar n a) (wE C ar n a) (λds S Q=>Q ds S) vo
  |.listR a=>K7 (wE C ar n a)
  |.srt a=>wOf (aj a) (wTm C ar n a) (wE C ar n a) (Fz cR) (FA cR)
  |.comp own elt cls=>wCf (wI C ar n) own (evT C ar n) (gQ C ar n elt) cls
  |_=>wNo
def wI(C:Calls)(ar:Nat->Nat):Nat->CI->WP Nxt
 |0,_=>wNo
 |n+1,it=>match it with
  |.val a=>wOf (aj a) (wTm C ar n a) (wE C ar n a) (λds S Q=>Q (nxL ds) S) B6
  |.r1 a=>wR1 (wE C ar n a)
  |.r2 a b=>wR2 (wE C ar n a) (wE C ar n b)
  |.en a=>wOf (aj a) (wTm C ar n a) (wE C ar n a) (λds S Q=>Q (yw ds) S) B7
def wT(C:Calls)(ar:Nat->Nat):Nat->CE->WP Bool
 |0,_=>wNo
 |n+1,e=>match e with
  |.cmp o a b=>wB (Fv (wCm o) (wE C ar n a) (wE C ar n b))
  |.chn o p a b c=>wB (K5 o p (wE C ar n a) (wE C ar n b) (wE C ar n c))
  |.and a b=>HS (wT C ar n a) (wT C ar n b)
  |.or a b=>Pr (wT C ar n a) (wT C ar n b)
  |.not a=>HU (wT C ar n a)
  |e=>wUn cG (wE C ar n e)
end
def wCl(C:Calls)(ar:Nat->Nat)(n:Nat)(elt:CE):List Cl->WP (List D)
 |[]=>wOn (λd=>[d]) (wE C ar n elt)
 |⟨tg,it,cond⟩::rest=>B5 (wI C ar n it) tg (cnd (evT C ar n) cond (gQ C ar n elt rest)) LF
theorem qK{C:Calls}{ar:Nat->Nat}:∀ {n:Nat} {es:List CE} {ρ:Rho} {S S':Sto} {ds:List D},evA C ar n es ρ S=some (ds,S')->ds.length=es.length
 |0,_,_,_,_,_,h=>by simp only[evA,xNo] at h;cases h
 |n+1,[],_,_,_,_,h=>by simp only[evA,D9] at h;cases h;rfl
 |n+1,e::es,_,_,_,_,h=>by
  simp only[evA,v9] at h;obtain⟨a,S1,e1,h⟩:=ai h;obtain⟨as,S2,e2,h⟩:=ai h;cases h;rw[ZE,ZE,qK e2]
structure SndW(C:Calls)(ar:Nat->Nat)(n:Nat):Prop where
 e:∀ {e:CE},Sd (wE C ar n e) (evE C ar n e)
 a:∀ {es:List CE},Sd (wA C ar n es) (evA C ar n es)
 m:∀ {e:CE},Sd (wTm C ar n e) (cu C ar n e)
 i:∀ {i:CI},Sd (wI C ar n i) (evI C ar n i)
 t:∀ {e:CE},Sd (wT C ar n e) (evT C ar n e)
section
variable {C:Calls} {ar:Nat->Nat} {n:Nat}
theorem Pv(h:SndW C ar n){es:List CE}:Sd (wSh es (wOn D.tup (wA C ar n es))) (kJ kK (evA C ar n es)):=λρ S Q w=>by
 obtain⟨le,w⟩:=jg w;obtain⟨ds,S1,e1,q⟩:=h.a _ _ _ w;refine aZ ⟨ds,S1,e1,?_⟩;have l:=qK e1;show Ok (kK ds S1) Q;rw[Fm];exact⟨by lia,q⟩
theorem Cc(h:SndW C ar n):Sd (wSh es (wA C ar n es)) (oK (evA C ar n es)):=λρ S Q w=>by
 obtain⟨le,w⟩:=jg w;obtain⟨ds,S1,e1,q⟩:=h.a _ _ _ w;rw[Fk];have l:=qK e1;exact⟨ds,S1,e1,by lia,q⟩
theorem HZ(h:SndW C ar n):Sd (wO (wO2 (wE C ar n) o)) (opt (evE C ar n) o):=by
 cases o with
 |none=>exact QW
 |some e=>exact QX h.e
theorem FD{a b:D}{S:Sto}{Q:D->Sto->Prop}(h:Ca a b S Q):Ok (Aq a b S) Q:=by
 obtain⟨i,rfl,h'⟩:=cz h;obtain⟨j,rfl,h''⟩:=cz h';exact bw h''
theorem FE{a b:D}{S:Sto}{Q:D->Sto->Prop}(h:Cb a b S Q):Ok (Ar a b S) Q:=by
 obtain⟨i,rfl,h'⟩:=cz h;obtain⟨j,rfl,h''⟩:=cz h';exact bw h''
end
section
variable {C:Calls} {ar:Nat->Nat} {n:Nat}
theorem Pw(h:SndW C ar n){o:Option CE}{w:WP (List D)}{x:XA}(hw:Sd w x):Sd (FC (wT C ar n) o w) (cnd (evT C ar n) o x):=by
 cases o with
 |none=>exact hw
 |some c=>exact Lb h.t hw
theorem Cd{α β:Type}{f:α->Sto->Option (β × Sto)}{a:α}{S:Sto}{Q:β->Sto->Prop}(h:wOk f a S Q):Ok (f a S) Q:=h
theorem s_q(h:SndW C ar n){f:Bool->List D->Sto->Option (D × Sto)}{a:CE}:Sd (wOf (aj a) (wTm C ar n a) (wE C ar n a) (wOk (f false)) (wOk (av f))) (if aj a=true then nW f (cu C ar n a) else nX f (evE C ar n a)):=
 s_of (Fw (f:=f false) h.m Cd) (Fw (f:=av f) h.e Cd)
theorem Ia(h:SndW C ar n){a:CE}:Sd (wOf (aj a) (wTm C ar n a) (wE C ar n a) (λds S Q=>Q ds S) vo) (if aj a=true then cu C ar n a else mz (evE C ar n a)):=s_of h.m (λ_ _ _ w=>aZ (h.e _ _ _ w))
theorem Ib(h:SndW C ar n){a:CE}:Sd (wOf (aj a) (wTm C ar n a) (wE C ar n a) (Fz cR) (FA cR)) (if aj a=true then yB cR (cu C ar n a) else yC cR (evE C ar n a)):=s_of (Pt h.m) (Pu h.e)
theorem s_u{g:D->Sto->Option (D × Sto)}{w:WP D}{x:XE}(hw:Sd w x):Sd (wUn (wOk g) w) (xUn g x):=Fw (f:=g) hw Cd
theorem Q5{w:WP (List D)}{x:XA}(hw:Sd w x):Sd (wUn (w2 Ca) w) (kJ (two Aq) x):=λ_ _ _ h=>aZ ((hw _ _ _ h).mono λ_ _ h=>HW (λz=>FD z) h)
theorem Q6{w:WP (List D)}{x:XA}(hw:Sd w x):Sd (wUn (w2 Cb) w) (kJ (two Ar) x):=λ_ _ _ h=>aZ ((hw _ _ _ h).mono λ_ _ h=>HW (λz=>FE z) h)
theorem Lc:Sd HX AW:=λ_ _ _ h=>bw h
theorem Lf{i j:Int}:Sd (HY i j) (AX i j):=λ_ _ _ h=>bw h
theorem Px{w:WP D}{x:XE}(hw:Sd w x):Sd (wUn cG w) (Ei x):=Fw (f:=md) hw B9
theorem pF:∀n,SndW C ar n
 |0=>⟨sY,sY,sY,sY,sY⟩
 |n+1=>by
  have h:=pF n;refine⟨λ{e}=>?_,λ{es}=>?_,λ{e}=>?_,λ{i}=>?_,λ{e}=>?_⟩
  ·cases e with
   |non=>exact s_c
   |bl b=>exact s_c
   |int b=>exact s_c
   |str b=>exact s_c
   |var b=>exact Pg
   |con b v=>exact s_c
   |tup es=>exact Pv h
   |lst es=>exact gK (Cc h)
   |dic0=>exact Lc
   |dic1 i j=>exact Lf
   |bin o a b=>exact B1 h.e h.e Fx
   |neg a=>exact Po h.e
   |cmp o a b=>exact B1 h.e h.e qH
   |chn o p a b c=>exact HM h.e h.e h.e
   |and a b=>exact Pj h.e h.e
   |or a b=>exact QV h.e h.e
   |not a=>exact Pl h.e
   |ix a b=>exact Q4 h.m h.e h.e
   |sl a lo hi=>exact QY h.e (HZ h) (HZ h)
   |call f es=>exact K6 h.a
   |inst t a=>exact s_u h.e
   |len a=>exact s_q h
   |all a=>exact s_q h
   |any a=>exact s_q h
   |tupOf a=>exact s_q h
   |listOf a=>exact gK (Ia h)
   |listR a=>exact gK (HP h.e)
   |srt a=>exact gK (Ib h)
   |mxL a=>exact s_q h
   |mxD a c=>exact s_q h
   |sm a=>exact s_q h
   |intOf a=>exact s_u h.e
   |mx a b=>exact Q5 h.a
   |mn a b=>exact Q6 h.a
   |rep a=>exact s_u h.e
   |comp own elt cls=>cases cls with
    |nil=>exact gK sY
    |cons c rest=>cases c with |mk tg it cond=>exact gK (B4 h.i)
   |app o a=>exact xl h.e h.a
   |popAt o a=>exact xl h.e h.a
   |ins o i a=>exact xl h.e h.a
   |cnt o a=>exact xl h.e h.a
  ·cases es with
   |nil=>exact Pq
   |cons e es=>exact K8 h.e h.a
  ·cases e with
   |lst es=>exact Cc h
   |listOf a=>exact Ia h
   |listR a=>exact HP h.e
   |srt a=>exact Ib h
   |comp own elt cls=>cases cls with
    |nil=>exact sY
    |cons c rest=>cases c with |mk tg it cond=>exact B4 h.i
   |_=>exact sY
  ·cases i with
   |val a=>exact s_of (B8 h.m) (Q0 h.e)
   |r1 a=>exact Q2 h.e
   |r2 a b=>exact Q3 h.e h.e
   |en a=>exact s_of (B8 h.m) (Q1 h.e)
  ·cases e with
   |cmp o a b=>exact s_b (B1 h.e h.e qH)
   |chn o p a b c=>exact s_b (HM h.e h.e h.e)
   |and a b=>exact K9 h.t h.t
   |or a b=>exact Ps h.t h.t
   |not a=>exact La h.t
   |_=>exact Px h.e
theorem Q7{elt:CE}{cls:List Cl}:Sd (wCl C ar n elt cls) (gQ C ar (n+1) elt cls):=by
 cases cls with
 |nil=>exact B8 (pF n).e
 |cons c rest=>cases c with |mk tg it cond=>exact Fy (pF n).i
theorem Lg{elt:CE}{cls:List Cl}{o:Option CE}{ρ:Rho}{S:Sto}{Q:List D->Sto->Prop}(h:FC (wT C ar (n+1)) o (wCl C ar n elt cls) ρ S Q):Ok (cnd (evT C ar (n+1)) o (gQ C ar (n+1) elt cls) ρ S) Q:=Pw (pF (n+1)) Q7 _ _ _ h
def wNm:Nat->D->Rho->(Rho->Prop)->Prop
 |_,_,[],_=>False
 |0,d,_::ρ,Q=>Q (some d::ρ)
 |i+1,d,o::ρ,Q=>wNm i d ρ λρ'=>Q (o::ρ')
theorem qL:∀ {i:Nat} {d:D} {ρ:Rho} {Q:Rho->Prop},wNm i d ρ Q->i < ρ.length/\Q (ρ.set i (some d))
 |i,_,[],_,h=>by cases i <;> exact h.elim
 |0,d,_::ρ,Q,h=>⟨by simp,h⟩
 |i+1,d,o::ρ,Q,h=>by
  have:=qL (ρ:=ρ) (Q:=λρ'=>Q (o::ρ')) h;exact⟨by rw[ZE];lia,this.2⟩
def wBs:List Tg->List D->Rho->(Rho->Prop)->Prop
 |[],[],ρ,Q=>Q ρ
 |[],_::_,_,_=>False
 |.name _::_,[],_,_=>False
 |.tup _::_,[],_,_=>False
 |.name i::ts,d::ds,ρ,Q=>wNm i d ρ λρ1=>wBs ts ds ρ1 Q
 |.tup us::ts,d::ds,ρ,Q=>∃ρ1,aA (.tup us) d ρ=some ρ1/\wBs ts ds ρ1 Q
def wTp(ts:List Tg)(d:D)(ρ:Rho)(Q:Rho->Prop):Prop:=match d with
 |.tup ds=>wBs ts ds ρ Q
 |.non=>False |.bl _=>False |.str _=>False |.int _=>False |.ref _=>False
def wBd:Tg->D->Rho->(Rho->Prop)->Prop
 |.name i,d,ρ,Q=>wNm i d ρ Q
 |.tup ts,d,ρ,Q=>wTp ts d ρ Q
theorem Ce{i:Nat}{d:D}{ρ:Rho}{Q:Rho->Prop}(h:wNm i d ρ Q):∃ρ1,aA (.name i) d ρ=some ρ1/\Q ρ1:=⟨_,by rw[Fq,if_pos (qL h).1],(qL h).2⟩
theorem vq:∀ {ts:List Tg} {ds:List D} {ρ:Rho} {Q:Rho->Prop},wBs ts ds ρ Q->∃ρ1,aK ts ds ρ=some ρ1/\Q ρ1
 |[],[],ρ,Q,h=>⟨ρ,wY,h⟩
 |[],_::_,_,_,h=>h.elim
 |.name _::_,[],_,_,h=>h.elim
 |.tup _::_,[],_,_,h=>h.elim
 |.name i::ts,d::ds,ρ,Q,h=>by
  obtain⟨ρ1,e,q⟩:=Ce h;obtain⟨ρ2,e2,q⟩:=vq q;exact⟨ρ2,by rw[aK,e];exact e2,q⟩
 |.tup us::ts,d::ds,ρ,Q,h=>by
  obtain⟨ρ1,e,q⟩:=h;obtain⟨ρ2,e2,q⟩:=vq q;exact⟨ρ2,by rw[aK,e];exact e2,q⟩
theorem Lh{t:Tg}{d:D}{ρ:Rho}{Q:Rho->Prop}(h:wBd t d ρ Q):∃ρ1,aA t d ρ=some ρ1/\Q ρ1:=by
 cases t with
 |name i=>exact Ce h
 |tup ts=>cases d with
  |tup ds=>rw[BW];exact vq h
  |_=>exact h.elim
@[inline]abbrev WS:=Rho->Sto->(Fl->Rho->Sto->Prop)->Prop
def rW(y:WS)(ρ:Rho)(S:Sto)(Q:Fl->Rho->Sto->Prop):Prop:=y ρ S Q
def wNx(y:WS)(Q:Fl->Rho->Sto->Prop)(f:Fl)(ρ:Rho)(S:Sto):Prop:=match f with
 |.nx=>rW y ρ S Q
 |.rt d=>Q (.rt d) ρ S
 |.bk=>Q .bk ρ S
 |.ct=>Q .ct ρ S
mutual
def wS(C:Calls)(ar:Nat->Nat):Nat->CS->WS
 |0,_=>λ_ _ _=>False
 |n+1,s=>match s with
  |.asg t e=>λρ S Q=>wE C ar n e ρ S λd S1=>wBd t d ρ λρ1=>Q .nx ρ1 S1
  |.setI v o i=>λρ S Q=>wE C ar n v ρ S λa S1=>wE C ar n o ρ S1 λb S2=>wE C ar n i ρ S2 λc S3=>∃S4,eB b c a S3=some S4/\Q .nx ρ S4
  |.swp v o i q j=>λρ S Q=>wE C ar n v ρ S λd S1=>∃a b,d = .tup [a,b]/\wE C ar n o ρ S1 λx S2=>wE C ar n i ρ S2 λy S3=>∃S4,eB x y a S3=some S4/\wE C ar n q ρ S4 λz S5=>wE C ar n j ρ S5 λw S6=>∃S7,eB z w b S6=some S7/\Q .nx ρ S7
  |.ex e=>λρ S Q=>wE C ar n e ρ S λ_ S1=>Q .nx ρ S1
  |.ret e=>λρ S Q=>wE C ar n e ρ S λd S1=>Q (.rt d) ρ S1
  |.ifs c a b=>λρ S Q=>wT C ar n c ρ S λt S1=>wIf t (rW (wSs C ar n a) ρ S1 Q) (rW (wSs C ar n b) ρ S1 Q)
  |.for_ t it b=>λρ S Q=>wI C ar n it ρ S λnx S1=>OkS (eC nx t (fE C ar n b) LF 0 ρ S1) Q
  |.cnt=>λρ S Q=>Q .ct ρ S
  |.never=>λ_ _ _=>False
def wSs(C:Calls)(ar:Nat->Nat):Nat->List CS->WS
 |0,_=>λ_ _ _=>False
 |n+1,ss=>match ss with
  |[]=>λρ S Q=>Q .nx ρ S
  |s::ss=>λρ S Q=>wS C ar n s ρ S (wNx (wSs C ar n ss) Q)
end
structure SdS(C:Calls)(ar:Nat->Nat)(n:Nat):Prop where
 s:∀ {s:CS} {ρ S Q},wS C ar n s ρ S Q->OkS (evS C ar n s ρ S) Q
 ss:∀ {ss:List CS} {ρ S Q},wSs C ar n ss ρ S Q->OkS (fE C ar n ss ρ S) Q
theorem Cf:∀n,SdS C ar n
 |0=>⟨λh=>by simp only[wS] at h,λh=>by simp only[wSs] at h⟩
 |n+1=>by
  have h:=Cf n;have g:SndW C ar n:=pF n;refine⟨λ{s ρ S Q} w=>?_,λ{ss ρ S Q} w=>?_⟩
  ·cases s with
   |asg t e=>simp only[evS,Fe];simp only[wS] at w;exact(g.e _ _ _ w).mono λd S1 w=>Lh w
   |setI v o i=>simp only[evS,BR];simp only[wS] at w;exact(g.e _ _ _ w).mono λa S1 w=>(g.e _ _ _ w).mono λb S2 w=>g.e _ _ _ w
   |swp v o i q j=>
    obtain⟨d,S1,e1,a,b,rfl,w⟩:=g.e _ _ _ w;obtain⟨x,S2,e2,w⟩:=g.e _ _ _ w;obtain⟨y,S3,e3,S4,e4,w⟩:=g.e _ _ _ w;obtain⟨z,S5,e5,w⟩:=g.e _ _ _ w;obtain⟨u,S6,e6,S7,e7,w⟩:=g.e _ _ _ w;refine⟨.nx,ρ,S7,?_,w⟩;show AI (evE C ar n v) (evE C ar n o) (evE C ar n i) (evE C ar n q) (evE C ar n j) ρ S=_;unfold AI;rw[e1];have h1:mw a (evE C ar n o) (evE C ar n i) ρ S1=some S4:=by unfold mw;rw[e2];dsimp only;rw[e3];exact e4
    have h2:mw b (evE C ar n q) (evE C ar n j) ρ S4=some S7:=by unfold mw;rw[e5];dsimp only;rw[e6];exact e7
    dsimp only[Ew];rw[h1];dsimp only;rw[h2];rfl
   |ex e=>simp only[evS,BQ];simp only[wS] at w;exact g.e _ _ _ w
   |ret e=>simp only[evS,Ff];simp only[wS] at w;exact g.e _ _ _ w
   |ifs c a b=>
    simp only[evS,KA];simp only[wS] at w;refine(g.t _ _ _ w).mono λt S1 w=>?_;cases t with
    |true=>exact h.ss w
    |false=>exact h.ss w
   |for_ t it b=>simp only[evS,Fh];simp only[wS] at w;exact g.i _ _ _ w
   |cnt=>simp only[wS] at w;simp only[evS];exact⟨_,_,_,rfl,w⟩
   |never=>simp only[wS] at w
  ·cases ss with
   |nil=>simp only[wSs] at w;simp only[fE];exact⟨_,_,_,rfl,w⟩
   |cons s ss=>
    simp only[wSs] at w;simp only[fE,Fd];refine(h.s w).mono λf ρ1 S1 w=>?_;cases f with
    |nx=>exact h.ss w
    |_=>exact w
theorem qM{ss:List CS}{ρ:Rho}{S:Sto}{Q:Fl->Rho->Sto->Prop}(h:rW (wSs C ar n ss) ρ S Q):OkS (fE C ar n ss ρ S) Q:=(Cf n).ss h
theorem Cg{s:CS}{ss:List CS}{ρ:Rho}{S:Sto}{Q:Fl->Rho->Sto->Prop}(h:wS C ar n s ρ S (wNx (wSs C ar n ss) Q)):rW (wSs C ar (n+1) (s::ss)) ρ S Q:=h
theorem FF{ρ:Rho}{S:Sto}{Q:Fl->Rho->Sto->Prop}(h:Q .nx ρ S):rW (wSs C ar (n+1) []) ρ S Q:=h
end
section
variable {C:Calls} {ar:Nat->Nat} {A B:Prop} {S S1:Sto} {Q:D->Sto->Prop} {Ql:List D->Sto->Prop} {Qn:Nxt->Sto->Prop} {Qb:Bool->Prop} {Qi:Int->Prop} {Qd:D->Prop} {Qr:Rho->Prop} {Qt:Bool->Sto->Prop} {Qs:Fl->Rho->Sto->Prop} {t:Bool} {d x y:D} {i j:Int} {n m f:Nat} {s:Str} {o:BOp} {c p:COp} {ds xs ys:List D} {l h:Option Int} {tg:Tg} {ts:List Tg} {ρ ρ2:Rho} {es:List CE} {a b e:CE} {oa ob cd:Option CE} {own:List Str} {it:CI} {rest:List Cl} {ty:Ty} {w wl:WP (List D)} {wv:WP D} {sa sb:List CS} {ws:WS} {od:Option D} {g:D->D->Sto->(D->Sto->Prop)->Prop}
theorem Li:wE C ar (n+1) (.non) ρ S Q=(Q .non S):=rfl
theorem Py:wE C ar (n+1) (.bl t) ρ S Q=(Q (.bl t) S):=rfl
theorem Lj:wE C ar (n+1) (.int i) ρ S Q=(Q (.int i) S):=rfl
theorem Lk:wE C ar (n+1) (.str s) ρ S Q=(Q (.str s) S):=rfl
theorem Ll:wE C ar (n+1) (.con m i) ρ S Q=(Q (.int i) S):=rfl
theorem Lm:wE C ar (n+1) (.var m) ρ S Q=(vj ρ m λd=>Q d S):=rfl
theorem Ln:wE C ar (n+1) (.tup es) ρ S Q=(fc 60 es (wA C ar n es ρ S λds S1=>Q (.tup ds) S1)):=rfl
theorem Lp:wE C ar (n+1) (.lst es) ρ S Q=(fc 60 es (wA C ar n es ρ S λds S1=>Q (.ref S1.length) (S1++[.lst ds]))):=rfl
theorem FG:wE C ar (n+1) (.dic0) ρ S Q=(Q (.ref (Zb S)) (S++[.dic [] []])):=rfl
theorem FH:wE C ar (n+1) (.dic1 i j) ρ S Q=(Q (.ref (Zb S)) (S++[.dic [og i] [.int j]])):=rfl
theorem Lq:wE C ar (n+1) (.bin o a b) ρ S Q=(wE C ar n a ρ S λx S1=>wE C ar n b ρ S1 λy S2=>vk o x y S2 Q):=rfl
theorem Lr:wE C ar (n+1) (.neg a) ρ S Q=(wE C ar n a ρ S λd S1=>dk d λi=>Q (.int (-i)) S1):=rfl
theorem Ls:wE C ar (n+1) (.cmp c a b) ρ S Q=(wE C ar n a ρ S λx S1=>wE C ar n b ρ S1 λy S2=>wCm c x y S2 Q):=rfl
theorem Lu:wE C ar (n+1) (.chn c p a b e) ρ S Q=(wE C ar n a ρ S λx S1=>wE C ar n b ρ S1 λy S2=>wCm c x y S2 λr S3=>wBl r λt=>wIf t (wE C ar n e ρ S3 λz S4=>wCm p y z S4 Q) (Q (.bl false) S3)):=rfl
theorem Lv:wE C ar (n+1) (.and a b) ρ S Q=(wE C ar n a ρ S λd S1=>wBl d λt=>wIf t (wE C ar n b ρ S1 Q) (Q (.bl false) S1)):=rfl
theorem Pz:wE C ar (n+1) (.or a b) ρ S Q=(wE C ar n a ρ S λd S1=>wBl d λt=>wIf t (Q (.bl true) S1) (wE C ar n b ρ S1 Q)):=rfl
theorem Lx:wE C ar (n+1) (.not a) ρ S Q=(wE C ar n a ρ S λd S1=>wBl d λt=>Q (.bl (!t)) S1):=rfl
theorem PB:wE C ar (n+1) (.ix a b) ρ S Q=(aQ (aj a) (wTm C ar n a) (wE C ar n a) ρ S (λds S1=>wE C ar n b ρ S1 λi S2=>dk i λk=>∃d,atI ds k=some d/\Q d S2) (λd S1=>wE C ar n b ρ S1 λi S2=>Ok (ixS d i S2) Q)):=rfl
theorem FI:wE C ar (n+1) (.sl a none none) ρ S Q=(wE C ar n a ρ S λd S1=>vm none none d S1 Q):=rfl
theorem FJ:wE C ar (n+1) (.sl a none (some b)) ρ S Q=(wE C ar n a ρ S λd S1=>wE C ar n b ρ S1 λy S2=>dk y λj=>vm none (some j) d S2 Q):=rfl
theorem FK:wE C ar (n+1) (.sl a (some b) none) ρ S Q=(wE C ar n a ρ S λd S1=>wE C ar n b ρ S1 λy S2=>dk y λj=>vm (some j) none d S2 Q):=rfl
theorem FL:wE C ar (n+1) (.sl a (some b) (some e)) ρ S Q=(wE C ar n a ρ S λd S1=>wE C ar n b ρ S1 λy S2=>dk y λj=>wE C ar n e ρ S2 λz S3=>dk z λk=>vm (some j) (some k) d S3 Q):=rfl
theorem FM:wE C ar (n+1) (.call f es) ρ S Q=(wA C ar n es ρ S λds S1=>ds.length=ar f/\Ok (C f ds S1) Q):=rfl
theorem FN:wE C ar (n+1) (.inst ty a) ρ S Q=(wE C ar n a ρ S λd S1=>Ok (mi ty d S1) Q):=rfl
theorem Ly:wE C ar (n+1) (.len a) ρ S Q=(aQ (aj a) (wTm C ar n a) (wE C ar n a) ρ S (λds S1=>Ok (cq false ds S1) Q) (λd S1=>Ok (av cq d S1) Q)):=rfl
theorem Lz:wE C ar (n+1) (.all a) ρ S Q=(aQ (aj a) (wTm C ar n a) (wE C ar n a) ρ S (λds S1=>Ok (kM false ds S1) Q) (λd S1=>Ok (av kM d S1) Q)):=rfl
theorem LA:wE C ar (n+1) (.any a) ρ S Q=(aQ (aj a) (wTm C ar n a) (wE C ar n a) ρ S (λds S1=>Ok (nZ false ds S1) Q) (λd S1=>Ok (av nZ d S1) Q)):=rfl
theorem Ch:wE C ar (n+1) (.tupOf a) ρ S Q=(aQ (aj a) (wTm C ar n a) (wE C ar n a) ρ S (λds S1=>Ok (jF false ds S1) Q) (λd S1=>Ok (av jF d S1) Q)):=rfl
theorem LB:wE C ar (n+1) (.mxL a) ρ S Q=(aQ (aj a) (wTm C ar n a) (wE C ar n a) ρ S (λds S1=>Ok (kN false ds S1) Q) (λd S1=>Ok (av kN d S1) Q)):=rfl
theorem LC:wE C ar (n+1) (.mxD a i) ρ S Q=(aQ (aj a) (wTm C ar n a) (wE C ar n a) ρ S (λds S1=>Ok (gX i false ds S1) Q) (λd S1=>Ok (av (gX i) d S1) Q)):=rfl
theorem PC:wE C ar (n+1) (.sm a) ρ S Q=(aQ (aj a) (wTm C ar n a) (wE C ar n a) ρ S (λds S1=>Ok (n9 false ds S1) Q) (λd S1=>Ok (av n9 d S1) Q)):=rfl
theorem yR:wE C ar (n+1) (.listOf a) ρ S Q=(aQ (aj a) (wTm C ar n a) (wE C ar n a) ρ S (λds S1=>Q (.ref S1.length) (S1++[.lst ds])) (λd S1=>Ok ((ao d S1).map λr=>(r.2,S1)) λds S1=>Q (.ref S1.length) (S1++[.lst ds]))):=rfl
theorem Ci:wE C ar (n+1) (.listR a) ρ S Q=(wE C ar n a ρ S λd S1=>∃i:Nat,d = .int i/\i<=1000/\Q (.ref S1.length) (S1++[.lst ((Zj i).map λj=>.int (Int.ofNat j))])):=rfl
theorem LG:wE C ar (n+1) (.srt a) ρ S Q=(aQ (aj a) (wTm C ar n a) (wE C ar n a) ρ S (λds S1=>∃es,cR false ds=some es/\Q (.ref S1.length) (S1++[.lst es])) (λd S1=>∃r es,ao d S1=some r/\cR r.1 r.2=some es/\Q (.ref S1.length) (S1++[.lst es]))):=rfl
theorem Cj:wE C ar (n+1) (.intOf a) ρ S Q=(wE C ar n a ρ S λd S1=>Ok (Ax d S1) Q):=rfl
theorem PD:wE C ar (n+1) (.mx a b) ρ S Q=(wA C ar n [a,b] ρ S λds S1=>w2 Ca ds S1 Q):=rfl
theorem PF:wE C ar (n+1) (.mn a b) ρ S Q=(wA C ar n [a,b] ρ S λds S1=>w2 Cb ds S1 Q):=rfl
theorem LH:wE C ar (n+1) (.rep a) ρ S Q=(wE C ar n a ρ S λd S1=>Ok (kj d S1) Q):=rfl
theorem FO:wE C ar (n+1) (.comp own a (⟨tg,it,cd⟩::rest)) ρ S Q=(wI C ar n it ρ S λnx S1=>sW own [] λr=>sX ρ r λρ'=>wFt tg ρ' (Ok (bj nx tg (cnd (evT C ar n) cd (gQ C ar n a rest)) ρ' LF 0 S1) λes S2=>es.length<=100000/\Q (.ref S2.length) (S2++[.lst es]))):=rfl
theorem LI:wE C ar (n+1) (.app a b) ρ S Q=(wE C ar n a ρ S λd S1=>eA d S1=true/\wA C ar n [b] ρ S1 λas S2=>Ok (uB d as S2) Q):=rfl
theorem Ck:wE C ar (n+1) (.popAt a b) ρ S Q=(wE C ar n a ρ S λd S1=>eA d S1=true/\wA C ar n [b] ρ S1 λas S2=>Ok (eT d as S2) Q):=rfl
theorem LJ:wE C ar (n+1) (.ins a b e) ρ S Q=(wE C ar n a ρ S λd S1=>eA d S1=true/\wA C ar n [b,e] ρ S1 λas S2=>Ok (uE d as S2) Q):=rfl
theorem LK:wE C ar (n+1) (.cnt a b) ρ S Q=(wE C ar n a ρ S λd S1=>isTup d=true/\wA C ar n [b] ρ S1 λas S2=>Ok (uC d as S2) Q):=rfl
theorem Q8:wA C ar (n+1) [] ρ S Ql=Ql [] S:=rfl
theorem Q9:wA C ar (n+1) (a::es) ρ S Ql=(wE C ar n a ρ S λd S1=>wA C ar n es ρ S1 λds S2=>Ql (d::ds) S2):=rfl
theorem LL:wTm C ar (n+1) (.lst es) ρ S Ql=fc 60 es (wA C ar n es ρ S Ql):=rfl
theorem yS:wTm C ar (n+1) (.listOf a) ρ S Ql=(aQ (aj a) (wTm C ar n a) (wE C ar n a) ρ S (λds S1=>Ql ds S1) (λd S1=>Ok ((ao d S1).map λr=>(r.2,S1)) Ql)):=rfl
theorem Cm:wTm C ar (n+1) (.listR a) ρ S Ql=(wE C ar n a ρ S λd S1=>∃i:Nat,d = .int i/\i<=1000/\Ql ((Zj i).map λj=>.int (Int.ofNat j)) S1):=rfl
theorem LM:wTm C ar (n+1) (.srt a) ρ S Ql=(aQ (aj a) (wTm C ar n a) (wE C ar n a) ρ S (λds S1=>∃es,cR false ds=some es/\Ql es S1) (λd S1=>∃r es,ao d S1=some r/\cR r.1 r.2=some es/\Ql es S1)):=rfl
theorem FP:wTm C ar (n+1) (.comp own a (⟨tg,it,cd⟩::rest)) ρ S Ql=(wI C ar n it ρ S λnx S1=>sW own [] λr=>sX ρ r λρ'=>wFt tg ρ' (Ok (bj nx tg (cnd (evT C ar n) cd (gQ C ar n a rest)) ρ' LF 0 S1) λes S2=>es.length<=100000/\Ql es S2)):=rfl
theorem LN:wI C ar (n+1) (.val a) ρ S Qn=(aQ (aj a) (wTm C ar n a) (wE C ar n a) ρ S (λds S1=>Qn (nxL ds) S1) (λd S1=>B6 d S1 Qn)):=rfl
theorem PH:wI C ar (n+1) (.en a) ρ S Qn=(aQ (aj a) (wTm C ar n a) (wE C ar n a) ρ S (λds S1=>Qn (yw ds) S1) (λd S1=>B7 d S1 Qn)):=rfl
theorem PJ:wI C ar (n+1) (.r1 a) ρ S Qn=(wE C ar n a ρ S λd S1=>dk d λj=>lim j=true/\Qn (nxR 0 j.toNat) S1):=rfl
theorem PL:wI C ar (n+1) (.r2 a b) ρ S Qn=(wE C ar n a ρ S λd S1=>wE C ar n b ρ S1 λe S2=>dk d λi=>dk e λj=>(lim i=true/\lim j=true)/\Qn (nxR i (j - i).toNat) S2):=rfl
theorem LP:wT C ar (n+1) (.cmp c a b) ρ S Qt=(wE C ar n a ρ S λx S1=>wE C ar n b ρ S1 λy S2=>wCm c x y S2 λd S3=>wBl d λt=>Qt t S3):=rfl
theorem LQ:wT C ar (n+1) (.chn c p a b e) ρ S Qt=(wE C ar n a ρ S λx S1=>wE C ar n b ρ S1 λy S2=>wCm c x y S2 λr S3=>wBl r λt=>wIf t (wE C ar n e ρ S3 λz S4=>wCm p y z S4 λd S5=>wBl d λt=>Qt t S5) (wBl (.bl false) λt=>Qt t S3)):=rfl
theorem LR:wT C ar (n+1) (.and a b) ρ S Qt=(wT C ar n a ρ S λt S1=>wIf t (wT C ar n b ρ S1 Qt) (Qt false S1)):=rfl
theorem PM:wT C ar (n+1) (.or a b) ρ S Qt=(wT C ar n a ρ S λt S1=>wIf t (Qt true S1) (wT C ar n b ρ S1 Qt)):=rfl
theorem LS:wT C ar (n+1) (.not a) ρ S Qt=(wT C ar n a ρ S λt S1=>Qt (!t) S1):=rfl
theorem PN:wT C ar (n+1) (.bl t) ρ S Qt=(wE C ar n (.bl t) ρ S λd S1=>cG d S1 Qt):=rfl
theorem LU:wT C ar (n+1) (.var m) ρ S Qt=(wE C ar n (.var m) ρ S λd S1=>cG d S1 Qt):=rfl
theorem FQ:wT C ar (n+1) (.call f es) ρ S Qt=(wE C ar n (.call f es) ρ S λd S1=>cG d S1 Qt):=rfl
theorem FR:wT C ar (n+1) (.inst ty a) ρ S Qt=(wE C ar n (.inst ty a) ρ S λd S1=>cG d S1 Qt):=rfl
theorem LV:wT C ar (n+1) (.all a) ρ S Qt=(wE C ar n (.all a) ρ S λd S1=>cG d S1 Qt):=rfl
theorem LW:wT C ar (n+1) (.any a) ρ S Qt=(wE C ar n (.any a) ρ S λd S1=>cG d S1 Qt):=rfl
theorem LX:wT C ar (n+1) (.len a) ρ S Qt=(wE C ar n (.len a) ρ S λd S1=>cG d S1 Qt):=rfl
theorem PP:wT C ar (n+1) (.ix a b) ρ S Qt=(wE C ar n (.ix a b) ρ S λd S1=>cG d S1 Qt):=rfl
theorem LY:wT C ar (n+1) (.lst es) ρ S Qt=(wE C ar n (.lst es) ρ S λd S1=>cG d S1 Qt):=rfl
theorem LZ:wT C ar (n+1) (.tup es) ρ S Qt=(wE C ar n (.tup es) ρ S λd S1=>cG d S1 Qt):=rfl
theorem Ra:wCl C ar n a [] ρ S Ql=(wE C ar n a ρ S λd S1=>Ql [d] S1):=rfl
theorem Rb:wCl C ar n a (⟨tg,it,cd⟩::rest) ρ S Ql=(wFt tg ρ (wI C ar n it ρ S λnx S1=>Ok (bj nx tg (cnd (evT C ar n) cd (gQ C ar n a rest)) ρ LF 0 S1) Ql)):=rfl
theorem Rc:FC (wT C ar n) none w ρ S Ql=w ρ S Ql:=rfl
theorem Re:FC (wT C ar n) (some a) w ρ S Ql=(wT C ar n a ρ S λt S1=>wIf t (w ρ S1 Ql) (Ql [] S1)):=rfl
theorem L1:wS C ar (n+1) (.asg tg a) ρ S Qs=(wE C ar n a ρ S λd S1=>wBd tg d ρ λρ1=>Qs .nx ρ1 S1):=rfl
theorem FS:wS C ar (n+1) (.setI a b e) ρ S Qs=(wE C ar n a ρ S λx S1=>wE C ar n b ρ S1 λy S2=>wE C ar n e ρ S2 λz S3=>∃S4,eB y z x S3=some S4/\Qs .nx ρ S4):=rfl
theorem L3{f g:CE}:wS C ar (n+1) (.swp e a b f g) ρ S Qs=(wE C ar n e ρ S λd S1=>∃s t,d = .tup [s,t]/\wE C ar n a ρ S1 λx S2=>wE C ar n b ρ S2 λy S3=>∃S4,eB x y s S3=some S4/\wE C ar n f ρ S4 λz S5=>wE C ar n g ρ S5 λw S6=>∃S7,eB z w t S6=some S7/\Qs .nx ρ S7):=rfl
theorem PQ:wS C ar (n+1) (.ex a) ρ S Qs=(wE C ar n a ρ S λ_ S1=>Qs .nx ρ S1):=rfl
theorem L4:wS C ar (n+1) (.ret a) ρ S Qs=(wE C ar n a ρ S λd S1=>Qs (.rt d) ρ S1):=rfl
theorem L5:wS C ar (n+1) (.ifs a sa sb) ρ S Qs=(wT C ar n a ρ S λt S1=>wIf t (rW (wSs C ar n sa) ρ S1 Qs) (rW (wSs C ar n sb) ρ S1 Qs)):=rfl
theorem L6:wS C ar (n+1) (.for_ tg it sa) ρ S Qs=(wI C ar n it ρ S λnx S1=>OkS (eC nx tg (fE C ar n sa) LF 0 ρ S1) Qs):=rfl
theorem L7:wS C ar (n+1) .cnt ρ S Qs=Qs .ct ρ S:=rfl
theorem PR:wNx ws Qs .nx ρ S=rW ws ρ S Qs:=rfl
theorem PU:wNx ws Qs (.rt d) ρ S=Qs (.rt d) ρ S:=rfl
theorem PV:wNx ws Qs .bk ρ S=Qs .bk ρ S:=rfl
theorem PX:wNx ws Qs .ct ρ S=Qs .ct ρ S:=rfl
theorem L8:wIf (true && t) A B=wIf t A B:=rfl
theorem L9:wIf (false && t) A B=B:=rfl
theorem Ma:wIf (true || t) A B=A:=rfl
theorem FT:wIf (false || t) A B=wIf t A B:=rfl
theorem FV:wIf (!(true && t)) A B=wIf (!t) A B:=rfl
theorem FY:wIf (!(false && t)) A B=A:=rfl
theorem FZ:wIf (!(true || t)) A B=B:=rfl
theorem F0:wIf (!(false || t)) A B=wIf (!t) A B:=rfl
theorem PY:wIf true A B=A:=rfl
theorem PZ:wIf false A B=B:=rfl
theorem Mb:wIf (!true) A B=B:=rfl
theorem Mc:wIf (!false) A B=A:=rfl
theorem P0:wBl (.bl t) Qb=Qb t:=rfl
theorem Md:dk (.int i) Qi=Qi i:=rfl
theorem Me:vj (some d::ρ) 0 Qd=Qd d:=rfl
theorem Mf:vj (od::ρ) (n+1) Qd=vj ρ n Qd:=rfl
theorem P1:wFr (none::ρ) 0 A=A:=rfl
theorem P2:wFr (od::ρ) (n+1) A=wFr ρ n A:=rfl
theorem Mg:sV [] ρ A=A:=rfl
theorem Mh:sV (.name m::ts) ρ A=wFr ρ m (sV ts ρ A):=rfl
theorem P3:wFt (.name m) ρ A=wFr ρ m A:=rfl
theorem P4:wFt (.tup ts) ρ A=sV ts ρ A:=rfl
theorem Mi:sW [] ρ Qr=Qr ρ:=rfl
theorem Mj:sW (s::own) ρ Qr=sW own (none::ρ) Qr:=rfl
theorem Ml:sX [] ρ Qr=Qr ρ:=rfl
theorem Mm:sX (od::ρ) ρ2 Qr=sX ρ ρ2 λr=>Qr (od::r):=rfl
theorem P5:fc (n+1) [] A=A:=rfl
theorem P6:fc (n+1) (a::es) A=fc n es A:=rfl
theorem P7:wNm 0 d (od::ρ) Qr=Qr (some d::ρ):=rfl
theorem P8:wNm (n+1) d (od::ρ) Qr=wNm n d ρ λr=>Qr (od::r):=rfl
theorem P9:wBs [] [] ρ Qr=Qr ρ:=rfl
theorem Qa:wBs (.name m::ts) (d::ds) ρ Qr=wNm m d ρ λr=>wBs ts ds r Qr:=rfl
theorem Qc:wBd (.name m) d ρ Qr=wNm m d ρ Qr:=rfl
theorem Qe:wBd (.tup ts) d ρ Qr=wTp ts d ρ Qr:=rfl
theorem Qg:wTp ts (.tup ds) ρ Qr=wBs ts ds ρ Qr:=rfl
theorem F1:wII .add i j S Q=Q (.int (i+j)) S:=rfl
theorem F2:wII .sub i j S Q=Q (.int (i - j)) S:=rfl
theorem F3:wII .mul i j S Q=(iT i j=true/\Q (.int (i * j)) S):=rfl
theorem F4:wII .mod i j S Q=(0 < j/\Q (.int (i % j)) S):=rfl
theorem Cn:wII .fdiv i j S Q=((0 < j/\j < 1237940039285380274899124224)/\Q (.int (i / j)) S):=rfl
theorem F5:wII .pow i j S Q=((0<=j/\j<=1000000/\i.natAbs < 2 ^ 64)/\Q (.int (i ^ j.toNat)) S):=rfl
theorem F6:wTT .add xs ys S Q=(xs.length+ys.length<=1000/\Q (.tup (xs++ys)) S):=rfl
theorem F7:B2 o i (.int j) S Q=wII o i j S Q:=rfl
theorem F8:xk o xs (.tup ys) S Q=wTT o xs ys S Q:=rfl
theorem F9:xk o xs (.int j) S Q=Ok (bI o (.tup xs) (.int j) S) Q:=rfl
theorem Mn:vk o (.int i) y S Q=B2 o i y S Q:=rfl
theorem Mo:vk o (.tup xs) y S Q=xk o xs y S Q:=rfl
theorem Mp:vk o (.ref n) y S Q=Ok (bI o (.ref n) y S) Q:=rfl
theorem Mq:vk o (.str s) y S Q=Ok (bI o (.str s) y S) Q:=rfl
theorem Mr:wCI .eq i j S Q=Q (.bl (decide (i=j))) S:=rfl
theorem Ms:wCm .eq x y S Q=wCx .eq x y S Q:=rfl
theorem Mu:wCI .ne i j S Q=Q (.bl (!decide (i=j))) S:=rfl
theorem Mv:wCm .ne x y S Q=wCx .ne x y S Q:=rfl
theorem Mw:wCI .lt i j S Q=Q (.bl (decide (i < j))) S:=rfl
theorem Mx:wCm .lt x y S Q=wCx .lt x y S Q:=rfl
theorem My:wCI .le i j S Q=Q (.bl (decide (i<=j))) S:=rfl
theorem Mz:wCm .le x y S Q=wCx .le x y S Q:=rfl
theorem MA:wCI .gt i j S Q=Q (.bl (decide (j < i))) S:=rfl
theorem MB:wCm .gt x y S Q=wCx .gt x y S Q:=rfl
theorem MC:wCI .ge i j S Q=Q (.bl (decide (j<=i))) S:=rfl
theorem MD:wCm .ge x y S Q=wCx .ge x y S Q:=rfl
theorem ME:wCm .is x y S Q=Ok (az .is x y S) Q:=rfl
theorem yT:wCm .isnot x y S Q=Ok (az .isnot x y S) Q:=rfl
theorem Co:wCm .isin x y S Q=Ok (az .isin x y S) Q:=rfl
theorem yU:wCm .notin x y S Q=Ok (az .notin x y S) Q:=rfl
theorem Qh:wCx c (.int i) y S Q=K3 c i y S Q:=rfl
theorem Qj:wCx c (.tup xs) y S Q=yQ c xs y S Q:=rfl
theorem Qk:wCx c .non y S Q=Ok (az c .non y S) Q:=rfl
theorem Qm:wCx c (.bl t) y S Q=Ok (az c (.bl t) y S) Q:=rfl
theorem Qo:wCx c (.str s) y S Q=Ok (az c (.str s) y S) Q:=rfl
theorem Qp:wCx c (.ref n) y S Q=Ok (az c (.ref n) y S) Q:=rfl
theorem MF:K3 c i (.int j) S Q=wCI c i j S Q:=rfl
theorem MG:yQ .eq xs (.tup []) S Q=Q (.bl xs.isEmpty) S:=rfl
theorem MH:yQ .ne xs (.tup []) S Q=Q (.bl (!xs.isEmpty)) S:=rfl
theorem Ga:yQ .eq xs (.tup (y::ys)) S Q=Ok (az .eq (.tup xs) (.tup (y::ys)) S) Q:=rfl
theorem Gb:yQ .ne xs (.tup (y::ys)) S Q=Ok (az .ne (.tup xs) (.tup (y::ys)) S) Q:=rfl
theorem MI:vm l h (.tup ds) S Q=Q (.tup (gP ds l h)) S:=rfl
theorem MJ:vm l h (.ref n) S Q=Ok (slS l h (.ref n) S) Q:=rfl
theorem ML:B6 (.tup ds) S Qn=Qn (nxL ds) S:=rfl
theorem MM:B6 (.ref n) S Qn=((aq S n).isSome=true/\Qn (nxS n) S):=rfl
theorem MN:B7 (.tup ds) S Qn=Qn (yw ds) S:=rfl
theorem MO:B7 (.ref n) S Qn=((aq S n).isSome=true/\Qn (yx n) S):=rfl
theorem Gc:cG (.bl t) S Qt=Qt t S:=rfl
theorem Gd:cG (.tup ds) S Qt=Qt (!ds.isEmpty) S:=rfl
theorem Gf:cG (.int i) S Qt=Qt (i != 0) S:=rfl
theorem Gg:cG (.ref n) S Qt=Ok (md (.ref n) S) Qt:=rfl
theorem Rf:w2 g [x,y] S Q=g x y S Q:=rfl
theorem MP:Ca (.int i) (.int j) S Q=Q (.int (if j > i then j else i)) S:=rfl
theorem MQ:Cb (.int i) (.int j) S Q=Q (.int (if j < i then j else i)) S:=rfl
theorem Gh:aQ (aj (.lst es)) wl wv ρ S Ql Q=wl ρ S Ql:=rfl
theorem vt:aQ (aj (.listOf a)) wl wv ρ S Ql Q=wl ρ S Ql:=rfl
theorem yV:aQ (aj (.listR a)) wl wv ρ S Ql Q=wl ρ S Ql:=rfl
theorem Gi:aQ (aj (.srt a)) wl wv ρ S Ql Q=wl ρ S Ql:=rfl
theorem Cp:aQ (aj (.comp own a rest)) wl wv ρ S Ql Q=wl ρ S Ql:=rfl
theorem Gj:aQ (aj (.non)) wl wv ρ S Ql Q=wv ρ S Q:=rfl
theorem MR:aQ (aj (.bl t)) wl wv ρ S Ql Q=wv ρ S Q:=rfl
theorem Gk:aQ (aj (.int i)) wl wv ρ S Ql Q=wv ρ S Q:=rfl
theorem Gm:aQ (aj (.str s)) wl wv ρ S Ql Q=wv ρ S Q:=rfl
theorem Gn:aQ (aj (.var m)) wl wv ρ S Ql Q=wv ρ S Q:=rfl
theorem Go:aQ (aj (.con m i)) wl wv ρ S Ql Q=wv ρ S Q:=rfl
theorem Gp:aQ (aj (.tup es)) wl wv ρ S Ql Q=wv ρ S Q:=rfl
theorem Cq:aQ (aj (.dic0)) wl wv ρ S Ql Q=wv ρ S Q:=rfl
theorem Cr:aQ (aj (.dic1 i j)) wl wv ρ S Ql Q=wv ρ S Q:=rfl
theorem Gq:aQ (aj (.bin o a b)) wl wv ρ S Ql Q=wv ρ S Q:=rfl
theorem Gr:aQ (aj (.neg a)) wl wv ρ S Ql Q=wv ρ S Q:=rfl
theorem Gs:aQ (aj (.cmp c a b)) wl wv ρ S Ql Q=wv ρ S Q:=rfl
theorem Gu:aQ (aj (.chn c p a b e)) wl wv ρ S Ql Q=wv ρ S Q:=rfl
theorem Gv:aQ (aj (.and a b)) wl wv ρ S Ql Q=wv ρ S Q:=rfl
theorem MS:aQ (aj (.or a b)) wl wv ρ S Ql Q=wv ρ S Q:=rfl
theorem Gw:aQ (aj (.not a)) wl wv ρ S Ql Q=wv ρ S Q:=rfl
theorem MU:aQ (aj (.ix a b)) wl wv ρ S Ql Q=wv ρ S Q:=rfl
theorem MV:aQ (aj (.sl a oa ob)) wl wv ρ S Ql Q=wv ρ S Q:=rfl
theorem Cs:aQ (aj (.call f es)) wl wv ρ S Ql Q=wv ρ S Q:=rfl
theorem Ct:aQ (aj (.inst ty a)) wl wv ρ S Ql Q=wv ρ S Q:=rfl
theorem Gx:aQ (aj (.len a)) wl wv ρ S Ql Q=wv ρ S Q:=rfl
theorem Gy:aQ (aj (.all a)) wl wv ρ S Ql Q=wv ρ S Q:=rfl
theorem Gz:aQ (aj (.any a)) wl wv ρ S Ql Q=wv ρ S Q:=rfl
theorem yW:aQ (aj (.tupOf a)) wl wv ρ S Ql Q=wv ρ S Q:=rfl
theorem GA:aQ (aj (.mxL a)) wl wv ρ S Ql Q=wv ρ S Q:=rfl
theorem GC:aQ (aj (.mxD a i)) wl wv ρ S Ql Q=wv ρ S Q:=rfl
theorem MW:aQ (aj (.sm a)) wl wv ρ S Ql Q=wv ρ S Q:=rfl
theorem yX:aQ (aj (.intOf a)) wl wv ρ S Ql Q=wv ρ S Q:=rfl
theorem MX:aQ (aj (.mx a b)) wl wv ρ S Ql Q=wv ρ S Q:=rfl
theorem MY:aQ (aj (.mn a b)) wl wv ρ S Ql Q=wv ρ S Q:=rfl
theorem GD:aQ (aj (.rep a)) wl wv ρ S Ql Q=wv ρ S Q:=rfl
theorem GF:aQ (aj (.app a b)) wl wv ρ S Ql Q=wv ρ S Q:=rfl
theorem yY:aQ (aj (.popAt a b)) wl wv ρ S Ql Q=wv ρ S Q:=rfl
theorem GG:aQ (aj (.ins a b e)) wl wv ρ S Ql Q=wv ρ S Q:=rfl
theorem GH:aQ (aj (.cnt a b)) wl wv ρ S Ql Q=wv ρ S Q:=rfl
theorem aa{α:Type}{z:Option (α × Sto)}{r:α}{S2:Sto}{K:α->Sto->Prop}(e:z=some (r,S2))(q:K r S2):Ok z K:=⟨r,S2,e,q⟩
theorem eK(h1:t=true->A)(h2:t=false->B):wIf t A B:=by
 cases t with
 |true=>exact h1 rfl
 |false=>exact h2 rfl
end
end Ev
local macro_rules |`(tactic|k_go)=>`(tactic|dsimp only[↓Ev.Li,↓Ev.Py,↓Ev.Lj,↓Ev.Lk,↓Ev.Ll,↓Ev.Lm,↓Ev.Ln,↓Ev.Lp,↓Ev.FG,↓Ev.FH,↓Ev.Lq,↓Ev.Lr,↓Ev.Ls,↓Ev.Lu,↓Ev.Lv,↓Ev.Pz,↓Ev.Lx,↓Ev.PB,↓Ev.FI,↓Ev.FJ,↓Ev.FK,↓Ev.FL,↓Ev.FM,↓Ev.FN,↓Ev.Ly,↓Ev.Lz,↓Ev.LA,↓Ev.Ch,↓Ev.LB,↓Ev.LC,↓Ev.PC,↓Ev.yR,↓Ev.Ci,↓Ev.LG,↓Ev.Cj,↓Ev.PD,↓Ev.PF,↓Ev.LH,↓Ev.FO,↓Ev.LI,↓Ev.Ck,↓Ev.LJ,↓Ev.LK,↓Ev.Q8,↓Ev.Q9,↓Ev.LL,↓Ev.yS,↓Ev.Cm,↓Ev.LM,↓Ev.FP,↓Ev.LN,↓Ev.PH,↓Ev.PJ,↓Ev.PL,↓Ev.LP,↓Ev.LQ,↓Ev.LR,↓Ev.PM,↓Ev.LS,↓Ev.PN,↓Ev.LU,↓Ev.FQ,↓Ev.FR,↓Ev.LV,↓Ev.LW,↓Ev.LX,↓Ev.PP,↓Ev.LY,↓Ev.LZ,↓Ev.Ra,↓Ev.Rb,↓Ev.Rc,↓Ev.Re,↓Ev.L1,↓Ev.FS,↓Ev.L3,↓Ev.PQ,↓Ev.L4,↓Ev.L5,↓Ev.L6,↓Ev.L7,↓Ev.PR,↓Ev.PU,↓Ev.PV,↓Ev.PX,↓Ev.L8,↓Ev.L9,↓Ev.Ma,↓Ev.FT,↓Ev.FV,↓Ev.FY,↓Ev.FZ,↓Ev.F0,↓Ev.PY,↓Ev.PZ,↓Ev.Mb,↓Ev.Mc,↓Ev.P0,↓Ev.Md,↓Ev.Me,↓Ev.Mf,↓Ev.P1,↓Ev.P2,↓Ev.Mg,↓Ev.Mh,↓Ev.P3,↓Ev.P4,↓Ev.Mi,↓Ev.Mj,↓Ev.Ml,↓Ev.Mm,↓Ev.P5,↓Ev.P6,↓Ev.P7,↓Ev.P8,↓Ev.P9,↓Ev.Qa,↓Ev.Qc,↓Ev.Qe,↓Ev.Qg,↓Ev.F1,↓Ev.F2,↓Ev.F3,↓Ev.F4,↓Ev.Cn,↓Ev.F5,↓Ev.F6,↓Ev.F7,↓Ev.F8,↓Ev.F9,↓Ev.Mn,↓Ev.Mo,↓Ev.Mp,↓Ev.Mq,↓Ev.Mr,↓Ev.Ms,↓Ev.Mu,↓Ev.Mv,↓Ev.Mw,↓Ev.Mx,↓Ev.My,↓Ev.Mz,↓Ev.MA,↓Ev.MB,↓Ev.MC,↓Ev.MD,↓Ev.ME,↓Ev.yT,↓Ev.Co,↓Ev.yU,↓Ev.Qh,↓Ev.Qj,↓Ev.Qk,↓Ev.Qm,↓Ev.Qo,↓Ev.Qp,↓Ev.MF,↓Ev.MG,↓Ev.MH,↓Ev.Ga,↓Ev.Gb,↓Ev.MI,↓Ev.MJ,↓Ev.ML,↓Ev.MM,↓Ev.MN,↓Ev.MO,↓Ev.Gc,↓Ev.Gd,↓Ev.Gf,↓Ev.Gg,↓Ev.Rf,↓Ev.MP,↓Ev.MQ,↓Ev.Gh,↓Ev.vt,↓Ev.yV,↓Ev.Gi,↓Ev.Cp,↓Ev.Gj,↓Ev.MR,↓Ev.Gk,↓Ev.Gm,↓Ev.Gn,↓Ev.Go,↓Ev.Gp,↓Ev.Cq,↓Ev.Cr,↓Ev.Gq,↓Ev.Gr,↓Ev.Gs,↓Ev.Gu,↓Ev.Gv,↓Ev.MS,↓Ev.Gw,↓Ev.MU,↓Ev.MV,↓Ev.Cs,↓Ev.Ct,↓Ev.Gx,↓Ev.Gy,↓Ev.Gz,↓Ev.yW,↓Ev.GA,↓Ev.GC,↓Ev.MW,↓Ev.yX,↓Ev.MX,↓Ev.MY,↓Ev.GD,↓Ev.GF,↓Ev.yY,↓Ev.GG,↓Ev.GH,↓Ev.KB,↓Ev.KC])
local macro_rules |`(tactic|k_is)=>`(tactic|((with_reducible first |refine Ev.qM ?_ |refine Ev.Lg ?_ |refine Ev.wcl_ok ?_ |skip);(try dsimp only[List.set_cons_zero,List.set_cons_succ]);(try k_go);(repeat ((with_reducible first |refine Ev.Cg ?_ |refine Ev.FF ?_);(try k_go)))))
namespace Lw
open PySem Ev
variable {p:Nat} {S:Sto} {k:Nat} {Q:D->Sto->Prop}
theorem ny(h:TD p S t d)(q:Q (.bl (Dw.isW t)) S):Ok (evC ae (k+1) 0 [d] S) Q:=by
 refine aC (d:=iq) (ρ:=[some d]) rfl rfl ?_;dsimp only[iq,mZ];k_is;refine aa (k8 h) ?_;k_is;cases t <;> first |exact q |(k_is;rw[k8 h,aF];exact q)
theorem pG{a b:Int}(h:TD p S t d)(q:Q (.bl (Dw.ij t a b)) S):Ok (evC ae (k+2) 1 [d,.int a,.int b] S) Q:=by
 refine aC (d:=fW) (ρ:=[some d,some (.int a),some (.int b)]) rfl rfl ?_;dsimp only[fW,km];k_is;refine⟨rfl,ny h ?_⟩;k_is;cases t with
 |int i=>
  obtain rfl:=h.int;dsimp only[Dw.isW];k_is;dsimp only[Dw.ij] at q;cases c:decide (a<=i) with
  |true=>rw[c] at q;exact q
  |false=>rw[c] at q;exact q
 |_=>exact q
theorem yZ(h:TD p S t d)(q:Q (.bl (Dw.ij t 0 9999)) S):Ok (evC ae (k+3) 2 [d] S) Q:=by
 refine aC (d:=fX) (ρ:=[some d]) rfl rfl ?_;dsimp only[fX,ko];k_is;exact⟨rfl,pG h q⟩
theorem sZ{a b:Int}(h:TD p S t d)(q:Q (.bl (Dw.isT t a b)) S):Ok (evC ae (k+1) 3 [d,.int a,.int b] S) Q:=by
 refine aC (d:=ir) (ρ:=[some d,some (.int a),some (.int b)]) rfl rfl ?_;dsimp only[ir,m6];k_is;refine aa (k8 h) ?_;k_is;cases t with
 |tup ts=>
  obtain⟨ds,rfl,hs⟩:=h.tup;rw[show fj Ty.tuple (tyT (Dw.D.tup ts))=true from rfl];k_is;refine aa (KP hs) ?_;k_is;dsimp only[Dw.isT] at q;cases c:decide (a<=(ts.length:Int)) with
  |true=>rw[c] at q;exact q
  |false=>rw[c] at q;exact q
 |_=>exact q
theorem ax{f:Int}(h:Pot p S)(h0:0 < f)(h1:f < 1237940039285380274899124224)(q:∀ (r:Int) S',0<=r->r < f->Dr p S S'->Q (.int r) S'):Ok (evC ae (k+1) 42 [.ref p,.int f] S) Q:=by
 obtain⟨n,e⟩:=h;have lt:p < S.length:=(Zc.mp e).1;refine aC (d:=iB) (ρ:=[some (.ref p),some (.int f),none]) rfl rfl ?_;dsimp only[iB,nc];k_is;have ix:ixS (.ref p) (.int 0) S=some (.int n,S):=by simp only[ixS,ao,aq,e];rfl
 refine aa ix ?_;k_is;refine⟨h0,?_⟩;k_is;refine aa ix ?_;k_is;refine⟨⟨h0,h1⟩,?_⟩;k_is;refine⟨S.set p (.lst [.int (n / f)]),by simp only[eB,e];rfl,?_⟩;exact q _ _ (X2 _ (by omega)) (Xy _ h0) ⟨KU,_,iI lt⟩
theorem GI{c:Nat}{ns:List Int}(h:S[0]?=some (.frz (ns.map D.int)))(q:∀i:Int,Q (.int i) S):Ok (evC ae (k+1) 40 [.ref 0,.int c] S) Q:=by
 refine aC (d:=dU) (ρ:=[some (.ref 0),some (.int c)]) rfl rfl ?_;dsimp only[dU,hY];k_is;have ln:av cq (.ref 0) S=some (.int ns.length,S):=by simp only[av,ao,aq,h,Zq,cq,Za]
 refine aa ln ?_;k_is;refine eK (λhc=>?_) λhc=>?_
 ·k_is;have hc':=of_decide_eq_true hc;obtain⟨d,e1,e2⟩:=KY (ds:=ns.map D.int) (i:=c) (by omega) (by rw[Za];omega);have ix:ixS (.ref 0) (.int c) S=some (d,S):=by simp only[ixS,ao,aq,h,Zq,e1]
  refine aa ix ?_;rw[Zm] at e2;cases hn:ns[(c:Int).toNat]? with
  |none=>rw[hn] at e2;cases e2
  |some i=>rw[hn] at e2;cases e2;exact q i
 ·k_is;exact q 0
theorem MZ{c:Int}(q:∀n:Int,Q (.ref S.length) (S++[.lst [.int n]])):Ok (evC ae (k+1) 41 [.int c] S) Q:=by
 refine aC (d:=jY) (ρ:=[some (.int c),none,none,none]) rfl rfl ?_;dsimp only[jY,pk];k_is;refine⟨⟨by decide,by decide,by decide⟩,?_⟩;k_is;refine eK (λ_=>?_) λ_=>?_
 ·k_is;refine⟨⟨by decide,by decide,by decide⟩,?_⟩;k_is;exact q _
 ·k_is;refine⟨by decide,?_⟩;refine gw (by decide) (λi ρ S'=>S'=S/\∃n:Int,∃u v,ρ=[some (.int c),some (.int n),u,v]) (λi ρ S' hi ⟨es,n,u,v,er⟩=>?_) (λρ S' ⟨es,n,u,v,er⟩=>?_) ⟨rfl,0,none,none,rfl⟩
  ·subst es er;refine⟨_,rfl,?_⟩;k_is;refine⟨by decide,?_⟩;k_is;refine⟨gJ (by decide) (by decide),?_⟩;k_is;refine⟨xa (by decide) (by decide),by decide,?_⟩;k_is;have a1:=X2 ((c % 2147483629+7919 * (0+(i:Int))+1) * 48271) (show(2147483647:Int) ≠ 0 by decide);have a2:=Xy ((c % 2147483629+7919 * (0+(i:Int))+1) * 48271) (show(0:Int) < 2147483647 by decide);refine⟨gJ (by omega) (by omega),?_⟩;k_is;refine⟨gJ (by decide) (by decide),?_⟩;k_is;refine⟨by decide,?_⟩;k_is;refine⟨xa (by decide) (by decide),?_⟩;k_is;exact⟨rfl,_,_,_,rfl⟩
  ·subst es er;k_is;exact q n
end Lw
namespace Sn
open Ev
structure Sky where
 r:Int
 s:Int
 M:List (List Int)
 H:List (Int × Int)
 ah:Option (Int × Int)
 G:List (List Int)
 F:List Int
abbrev gi(G:List (List Int))(i:Int)(k:Nat):Int:=((G[i.toNat]?).getD []).getD k 0
def Ris:Int->List (Int × Int)->Prop
 |_,[]=>True
 |lo,p::l=>lo < p.1/\p.1 < p.2/\Ris p.2 l
section
variable (K:Sky)
abbrev jn(g:Int):Int:=gi K.G g 1
abbrev gp(a b:Int):Int:=Dw.mg2 K.M a.toNat b.toNat
abbrev y7(ah:Option (Int × Int))(k:Int):Int:=match ah with
 |none=>0
 |some p=>p.2+gp K p.1 k
abbrev js:List Int:=fN (K.G.map λg=>g.getD 1 0)
abbrev aB(t:Int)(p:Int × Int):Bool:=decide (jn K p.1<=t) && decide (t < p.2 - K.s)
abbrev wts(L:List (Int × Int))(t:Int):Nat:=(L.filter (aB K t)).length
abbrev eM(L:List (Int × Int))(g m:Int):List Int:=((jn K g::L.map λp=>jn K p.1).filter λt=>decide (jn K g<=t) && decide (t < m - K.s))
abbrev vA(L:List (Int × Int))(g m:Int):Int:=AB 0 ((eM K L g m).map λt=>1+(wts K L t:Int))
abbrev iK(L:List (Int × Int))(g m:Int):List Int:=jn K g::(js K).filter λt=>decide (jn K g < t) && aB K t (g,m)
abbrev tf(L:List (Int × Int))(g m:Int):Int:=cZ ((iK K L g m).map λt=>1+(wts K L t:Int))
abbrev tj(L:List (Int × Int))(g m:Int):Bool:=decide (0 < gi K.G g 6) && (aB K (jn K g) (g,m) && decide (gi K.G g 6 < tf K L g m))
abbrev fB(L:List (Int × Int))(g m:Int):Bool:=decide (0 < gi K.G g 6) && decide (gi K.G g 6 < vA K L g m)
end
variable {K:Sky}
theorem qN(h:ns ≠ []):cZ ns ∈ ns:=by
 cases ns with
 |nil=>exact absurd rfl h
 |cons n ns=>exact(fP ns n).1
theorem qO{x:Int}(h:x ∈ ns):x<=cZ ns:=by
 cases ns with
 |nil=>simp at h
 |cons n ns=>exact(fP ns n).2 x h
theorem Cu(hA:A ≠ [])(h:∀x ∈ A,∃y ∈ B,x<=y):cZ A<=cZ B:=by
 obtain⟨y,hy,hle⟩:=h _ (qN hA);exact Wf hle (qO hy)
theorem nz{c:Int}(h:ns ≠ []):AB c ns=cZ ns:=by
 cases ns with
 |nil=>exact absurd rfl h
 |cons n ns=>rfl
theorem lb{α:Type}{p q:α->Bool}:∀ {l:List α},(∀x ∈ l,p x=true->q x=true)->(l.filter p).length<=(l.filter q).length
 |[],_=>Ze _
 |a::l,h=>by
  have ih:=lb (l:=l) λx hx=>h x (Zf _ hx);have h0:=h a Zg;rw[YM,YM];split
  ·rename_i c;rw[if_pos (h0 c),ZE,ZE]
   lia
  ·split
   ·rw[ZE];lia
   ·exact ih
theorem qP{j t:Int}(hj:j<=t):∀ (L:List (Int × Int)),∃u,(u=j\/∃p ∈ L,u=jn K p.1)/\j<=u/\u<=t/\∀p ∈ L,aB K t p=true->jn K p.1<=u
 |[]=>⟨j,.inl rfl,ZS _,hj,λp hp=>by simp at hp⟩
 |p::L=>by
  obtain⟨u,h1,h2,h3,h4⟩:=qP hj L;by_cases hw:aB K t p=true/\u < jn K p.1
  ·refine⟨jn K p.1,.inr ⟨p,Zg,rfl⟩,by lia,?_,λq hq hqw=>?_⟩
   ·have:=hw.1;simp only[aB,bAE,decide_eq_true_eq] at this;exact this.1
   ·rcases Zk.mp hq with rfl |hq
    ·exact ZS _
    ·have:=h4 q hq hqw;lia
  ·refine⟨u,?_,h2,h3,λq hq hqw=>?_⟩
   ·rcases h1 with h1 |⟨q,hq,h1⟩
    ·exact .inl h1
    ·exact .inr ⟨q,Zf _ hq,h1⟩
   ·rcases Zk.mp hq with rfl |hq
    ·by_cases hlt:u < jn K q.1
     ·exact absurd ⟨hqw,hlt⟩ hw
     ·lia
    ·exact h4 q hq hqw
theorem GJ{L:List (Int × Int)}{g m:Int}(h:jn K g < m - K.s)(hL:∀p ∈ L,jn K p.1 ∈ js K):tf K L g m=vA K L g m:=by
 have k0:jn K g ∈ eM K L g m:=by
  unfold eM;rw[Z0];exact⟨Zg,by simp[h]⟩
 have kn:(eM K L g m).map (λt=>1+(wts K L t:Int)) ≠ []:=λz=>by
  rw[List.map_eq_nil_iff] at z;rw[z] at k0;simp at k0
 unfold vA tf;rw[nz kn];refine X3 (Cu (by simp[iK]) λx hx=>?_) (Cu kn λx hx=>?_)
 ·obtain⟨t,ht,rfl⟩:=ZH.mp hx
  have ht':jn K g<=t/\t < m - K.s:=by
   rcases Zk.mp ht with rfl |ht
   ·exact⟨ZS _,h⟩
   ·have:=(Z0.mp ht).2;simp only[aB,bAE,decide_eq_true_eq] at this;exact⟨this.2.1,this.2.2⟩
  obtain⟨u,h1,h2,h3,h4⟩:=qP (K:=K) ht'.1 L;refine⟨1+(wts K L u:Int),ZH.mpr ⟨u,?_,rfl⟩,?_⟩
  ·unfold eM;refine Z0.mpr ⟨?_,by simp only[bAE,decide_eq_true_eq];lia⟩;rcases h1 with rfl |⟨p,hp,rfl⟩
   ·exact Zg
   ·exact Zf _ (ZH.mpr ⟨p,hp,rfl⟩)
  ·have:wts K L t<=wts K L u:=lb λp hp hw=>by
    have a:=h4 p hp hw;simp only[aB,bAE,decide_eq_true_eq] at hw ⊢
    lia
   lia
 ·obtain⟨t,ht,rfl⟩:=ZH.mp hx;refine⟨1+(wts K L t:Int),ZH.mpr ⟨t,?_,rfl⟩,ZS _⟩;unfold eM at ht;obtain⟨h1,h2⟩:=Z0.mp ht;simp only[bAE,decide_eq_true_eq] at h2;unfold iK;by_cases e:t=jn K g
  ·rw[e];exact Zg
  ·refine Zf _ (Z0.mpr ⟨?_,by simp only[aB,bAE,decide_eq_true_eq];lia⟩);rcases Zk.mp h1 with rfl |h1
   ·exact absurd rfl e
   ·obtain⟨p,hp,rfl⟩:=ZH.mp h1;exact hL p hp
theorem y8{g m:Int}(h:¬ jn K g < m - K.s):vA K L g m=0:=by
 have:eM K L g m=[]:=by
  unfold eM;rw[List.filter_eq_nil_iff];intro t _;simp only[bAE,decide_eq_true_eq]
  lia
 unfold vA;rw[this];rfl
theorem GK{g m:Int}(hL:∀p ∈ L,jn K p.1 ∈ js K):tj K L g m=fB K L g m:=by
 unfold tj fB;by_cases h:jn K g < m - K.s
 ·rw[GJ h hL];have:aB K (jn K g) (g,m)=true:=by simp only[aB,bAE,decide_eq_true_eq];exact⟨ZS _,h⟩
  rw[this,Xs]
 ·rw[y8 h];have:aB K (jn K g) (g,m)=false:=by simp[aB,h]
  rw[this,Xf];by_cases h0:0 < gi K.G g 6
  ·have e:decide (gi K.G g 6 < 0)=false:=by simp;lia
   rw[e]
  ·rw[decide_eq_false h0];rfl
end Sn
namespace Lw
open PySem Ev Sn
variable {p:Nat} {S:Sto} {k:Nat} {Q:D->Sto->Prop}
theorem Ic{ds:List D}{tg:Tg}{b:XS}{ρ:Rho}{Q:Fl->Rho->Sto->Prop}(hl:ds.length<=100000)(I:Nat->Rho->Sto->Prop)
  (step:∀ (i:Nat) d ρ S',ds[i]?=some d->I i ρ S'->∃ρ1,aA tg d ρ=some ρ1/\OkS (b ρ1 S') λfl ρ2 S2=>match fl with |.nx=>I (i+1) ρ2 S2 |.ct=>I (i+1) ρ2 S2 |.bk=>Q .nx ρ2 S2 |.rt d=>Q (.rt d) ρ2 S2)
  (q:∀ρ S',I ds.length ρ S'->Q .nx ρ S') (h0:I 0 ρ S):OkS (eC (nxL ds) tg b LF 0 ρ S) Q:=by
 refine jf ds.length I (by unfold LF;lia) (λi ρ S' hi iv=>?_) (λρ S' iv=>⟨?_,q ρ S' iv⟩) h0
 ·obtain⟨ρ1,e2,z⟩:=step i ds[i] ρ S' (gEG hi) iv;exact⟨ds[i],ρ1,by show some ds[i]?=_;rw[gEG hi],e2,z⟩
 ·show some ds[ds.length]?=_;rw[ZC (Ze _)]
theorem a9{α:Type}{nx:Nxt}{tg:Tg}{c:XA}{ρ:Rho}{Q:List D->Sto->Prop}(l:List α)(E:α->D)(f:α->List D)(hl:l.length<=1000)(hf:∀a ∈ l,(f a).length<=1)
  (hnx:∀i S',Sm S S'->nx i S'=some ((l[i]?).map E))
  (step:∀ (i:Nat) a S',l[i]?=some a->Sm S S'->∃ρ1,aA tg (E a) ρ=some ρ1/\Ok (c ρ1 S') λes S1=>es=f a/\Sm S' S1) (q:∀S',Sm S S'->Q (l.flatMap f) S') :
  Ok (bj nx tg c ρ LF 0 S) λes S2=>es.length<=100000/\Q es S2:=by
 refine(gu l.length (λi acc S'=>Sm S S'/\acc=(l.take i).flatMap f) (by unfold LF;lia) (λi acc S' hi ⟨sm,ea⟩=>?_) (λacc S' ⟨sm,ea⟩=>?_) ⟨Sm.refl S,by simp⟩).mono λes S' ⟨sm,ea⟩=>?_
 ·obtain⟨ρ1,e2,es,S1,e3,e4,sm'⟩:=step i l[i] S' (gEG hi) sm;refine⟨E l[i],ρ1,by rw[hnx i S' sm,gEG hi];rfl,e2,es,S1,e3,sm.trans sm',?_⟩;rw[ea,e4,ZL hi,Xn];simp
 ·rw[hnx _ S' sm,ZC (Ze _)];rfl
 ·rw[Ys] at ea;subst ea;refine⟨?_,q S' sm⟩
  have:∀m:List α,(∀a ∈ m,(f a).length<=1)->(m.flatMap f).length<=m.length:=λm=>by
   induction m with
   |nil=>intro _;simp
   |cons a m ih=>
    intro h;rw[Y0,Zr,ZE];have:=h a Zg;have:=ih λb hb=>h b (Zf _ hb)
    lia
  have:=this l hf
  lia
theorem bU{α:Type}{l:List α}{E:α->D}:∀i S',Sm S S'->nxL (l.map E) i S'=some ((l[i]?).map E):=λi S' _=>by
 show some (l.map E)[i]?=_;rw[Zm]
theorem ce{α:Type}{n:Nat}{l:List α}{E:α->D}(h:S[n]?=some (.lst (l.map E))):∀i S',Sm S S'->nxS n i S'=some ((l[i]?).map E):=λi S' sm=>by
 show(aq S' n).map (λds=>ds[i]?)=_;rw[ak (sm _ _ h),Zq,Zm]
theorem aU{α:Type}(l:List α)(f:α->D):(l.flatMap λa=>[f a])=l.map f:=by
 induction l with
 |nil=>rfl
 |cons a l ih=>rw[Y0,ih];rfl
theorem bV{α:Type}(l:List α)(c:α->Bool)(f:α->D):(l.flatMap λa=>if c a=true then [f a] else [])=(l.filter c).map f:=by
 induction l with
 |nil=>rfl
 |cons a l ih=>
  rw[Y0,ih,YM];split <;> rfl
abbrev ay(r:List Int):D:=.tup (r.map D.int)
abbrev ahE:Option (Int × Int)->D
 |none=>.non
 |some q=>.tup [.int q.1,.int q.2]
abbrev meE(K:Sky):D:=.tup [.int K.r,.int K.s,.tup (K.M.map ay),.tup (K.H.map ac)]
abbrev skE(K:Sky):D:=.tup [meE K,ahE K.ah,.tup (K.G.map ay),.tup (K.F.map D.int)]
structure Vd(K:Sky):Prop where
 r0:0<=K.r
 r8:K.r<=8
 s0:0<=K.s
 s60:K.s<=60
 m0:1<=K.M.length
 m4:K.M.length<=4
 row:∀r ∈ K.M,r.length=K.M.length
 ris:Ris (-1) K.H
 h4:K.H.length<=4
 ah0:∀q,K.ah=some q->0<=q.1/\q.1 < K.M.length
 g7:K.G.length<=7
 gl:∀g ∈ K.G,g.length=7/\0<=g.getD 0 0/\g.getD 0 0 < K.M.length/\0<=g.getD 2 0
variable {K:Sky}
theorem sk0:ixS (skE K) (.int 0) S=some (meE K,S):=rfl
theorem sk1:ixS (skE K) (.int 1) S=some (ahE K.ah,S):=rfl
theorem sk2:ixS (skE K) (.int 2) S=some (.tup (K.G.map ay),S):=rfl
theorem sk3:ixS (skE K) (.int 3) S=some (.tup (K.F.map D.int),S):=rfl
theorem me0:ixS (meE K) (.int 0) S=some (.int K.r,S):=rfl
theorem me1:ixS (meE K) (.int 1) S=some (.int K.s,S):=rfl
theorem me2:ixS (meE K) (.int 2) S=some (.tup (K.M.map ay),S):=rfl
theorem me3:ixS (meE K) (.int 3) S=some (.tup (K.H.map ac),S):=rfl
theorem gl7(V:Vd K){g:Int}(h0:0<=g)(h1:g < K.G.length):∃a b c d e f h,K.G[g.toNat]?=some [a,b,c,d,e,f,h]/\gi K.G g 0=a/\gi K.G g 1=b/\gi K.G g 2=c/\gi K.G g 3=d/\gi K.G g 6=h/\0<=a/\a < K.M.length/\0<=c:=by
 have hi:g.toNat < K.G.length:=by lia
 obtain⟨l7,a0,a1,c0⟩:=V.gl K.G[g.toNat] (Zy hi)
 match hr:K.G[g.toNat],l7 with
 |[a,b,c,d,e,f,h],_=>
  have eq:K.G[g.toNat]?=some [a,b,c,d,e,f,h]:=by rw[gEG hi,hr]
  rw[hr] at a0 a1 c0;refine⟨a,b,c,d,e,f,h,eq,?_,?_,?_,?_,?_,a0,a1,c0⟩ <;> (unfold gi;rw[eq];rfl)
theorem nB{i:Int}(h0:0<=i)(h:ds[i.toNat]?=some d):ixS (.tup ds) (.int i) S=some (d,S):=by
 obtain⟨n,rfl⟩:∃n:Nat,i=(n:Int):=⟨i.toNat,by lia⟩;exact zI h
theorem dh{g:Int}(h0:0<=g)(h:K.G[g.toNat]?=some r):ixS (.tup (K.G.map ay)) (.int g) S=some (ay r,S):=nB h0 (by rw[Zm,h];rfl)
theorem j7(V:Vd K){a b:Int}(a0:0<=a)(a1:a < K.M.length)(b0:0<=b)(b1:b < K.M.length):∃r,ixS (.tup (K.M.map ay)) (.int a) S=some (ay r,S)/\ixS (ay r) (.int b) S=some (.int (gp K a b),S):=by
 have hi:a.toNat < K.M.length:=by lia
 have hr:=V.row K.M[a.toNat] (Zy hi);have hj:b.toNat < K.M[a.toNat].length:=by lia
 refine⟨K.M[a.toNat],nB a0 (by rw[Zm,gEG hi];rfl),nB b0 ?_⟩;rw[Zm,gEG hj];have:gp K a b=K.M[a.toNat][b.toNat]:=by unfold gp Dw.mg2;rw[gEG hi,ZQ,gEG hj];rfl
 rw[this];rfl
end Lw
namespace Lw
open PySem Ev Sn L2
variable {p:Nat} {S S':Sto} {k:Nat} {Q:D->Sto->Prop} {K:Sky}
theorem Cv{A B:Prop}(ha:t=true->u=true->A)(hb:(t && u)=false->B):wIf t (wIf u A B) B:=by
 cases t with
 |false=>exact hb rfl
 |true=>cases u with
  |true=>exact ha rfl rfl
  |false=>exact hb rfl
theorem nD{α:Type}{l:List α}{E:α->D}{i:Nat}{d:D}(h:(l.map E)[i]?=some d):∃a,l[i]?=some a/\d=E a:=by
 rw[Zm] at h;cases e:l[i]? with
 |none=>rw[e] at h;cases h
 |some a=>rw[e] at h;cases h;exact⟨a,rfl,rfl⟩
abbrev fC(K:Sky)(L:List (Int × Int)):Option (Int × Int):=match L.getLast? with
 |none=>K.ah
 |some p=>some (gi K.G p.1 0,p.2)
def InG(K:Sky)(L:List (Int × Int)):Prop:=∀p ∈ L,0<=p.1/\p.1 < K.G.length
theorem Cw(V:Vd K){n:Nat}(hn:S[n]?=some (.lst (L.map ac)))(hL:InG K L)(q:Q (ahE (fC K L)) S):Ok (evC ae (k+1) 30 [skE K,.ref n] S) Q:=by
 refine aC (d:=cK) (ρ:=[some (skE K),some (.ref n),none,none]) rfl rfl ?_;dsimp only[cK,fq];k_is;have tr:md (.ref n) S=some (!(L.map ac).isEmpty,S):=by simp only[md,ak hn]
 refine aa tr ?_;k_is;rcases List.eq_nil_or_concat L with rfl |⟨L',z,rfl⟩
 ·k_is;exact aa sk1 q
 ·rw[List.concat_eq_append] at hn hL q ⊢;rw[show(!!((L'++[z]).map ac).isEmpty)=false by simp];k_is;have hz:=hL z (by simp);refine aa (xh (ds:=L'.map ac) (e:=ac z) (by rw[hn,ZA];rfl)) ?_;rw[show ac z = .tup [.int z.1,.int z.2] from rfl];k_is;refine aa sk2 ?_;obtain⟨a,b,c,d,e,f,h,eg,e0,_⟩:=gl7 V hz.1 hz.2;refine aa (dh hz.1 eg) (aa (show ixS (ay [a,b,c,d,e,f,h]) (.int 0) S=some (.int a,S) from rfl) ?_);k_is
  have:fC K (L'++[z])=some (a,z.2):=by
   unfold fC;rw[Xk];simp[e0]
  rw[this] at q;exact q
theorem GL(V:Vd K){a:Option (Int × Int)}{kd:Int}(ha:∀q,a=some q->0<=q.1/\q.1 < K.M.length)(k0:0<=kd)(k1:kd < K.M.length)(q:Q (.int (y7 K a kd)) S):Ok (evC ae (k+1) 31 [skE K,ahE a,.int kd] S) Q:=by
 refine aC (d:=jX) (ρ:=[some (skE K),some (ahE a),some (.int kd)]) rfl rfl ?_;dsimp only[jX,pj];k_is;cases a with
 |none=>exact aa (show az .is (ahE none) .non S=some (.bl true,S) from rfl) (by k_is;exact q)
 |some z=>
  refine aa (show az .is (ahE (some z)) .non S=some (.bl false,S) from rfl) ?_;k_is;obtain⟨h0,h1⟩:=ha z rfl;refine aa (show ixS (ahE (some z)) (.int 1) S=some (.int z.2,S) from rfl) ?_;refine aa sk0 (aa me2 (aa (show ixS (ahE (some z)) (.int 0) S=some (.int z.1,S) from rfl) ?_));obtain⟨r,g1,g2⟩:=j7 (S:=S) V h0 h1 k0 k1;refine aa g1 (aa g2 ?_);k_is;exact q
theorem nI(V:Vd K){z:Int × Int}{t:Int}(h0:0<=z.1)(h1:z.1 < K.G.length)(q:Q (.bl (aB K t z)) S):Ok (evC ae (k+1) 33 [skE K,ac z,.int t] S) Q:=by
 refine aC (d:=iA) (ρ:=[some (skE K),some (ac z),some (.int t),none,none]) rfl rfl ?_;dsimp only[iA,m9];rw[show ac z = .tup [.int z.1,.int z.2] from rfl];k_is;refine aa sk2 ?_;obtain⟨a,b,c,d,e,f,h,eg,_,e1,_⟩:=gl7 V h0 h1;refine aa (dh h0 eg) (aa (show ixS (ay [a,b,c,d,e,f,h]) (.int 1) S=some (.int b,S) from rfl) ?_);k_is;have ew:aB K t z=(decide (b<=t) && decide (t < z.2 - K.s)):=by unfold aB jn;rw[e1]
 rw[ew] at q;cases c1:decide (b<=t) with
 |false=>rw[c1] at q;k_is;exact q
 |true=>
  rw[c1] at q;k_is;refine aa sk0 (aa me1 ?_);k_is;exact q
theorem Cy(V:Vd K){L:List (Int × Int)}{n:Nat}{t:Int}(hn:S[n]?=some (.lst (L.map ac)))(hL:InG K L)(hl:L.length<=1000)(q:∀S',Sm S S'->Q (.int (wts K L t)) S'):Ok (evC ae (k+2) 34 [skE K,.ref n,.int t] S) Q:=by
 refine aC (d:=cM) (ρ:=[some (skE K),some (.ref n),some (.int t)]) rfl rfl ?_;dsimp only[cM,fu];k_is;refine⟨by rw[ak hn];rfl,?_⟩;refine a9 L ac (λz=>if aB K t z=true then [ac z] else []) hl (λz _=>by split <;> simp) (ce hn) (λi z S' hz sm=>⟨_,rfl,?_⟩) λS' sm=>?_
 ·have:=hL z (Zh hz);k_is;refine⟨rfl,nI V this.1 this.2 ?_⟩;k_is;cases aB K t z with
  |true=>k_is;show 6
  |false=>k_is;show 6
 ·rw[bV];refine aa (show cq false ((L.filter (aB K t)).map ac) S'=some (.int (wts K L t),S') by unfold cq wts;rw[Za]) ?_;k_is;exact q S' sm
theorem y9{x:Int}:dI ((x::xs).map D.int)=none:=by simp only[Zv,dI,mo]
theorem gL:∀ (xs:List Int),gW (xs.map D.int)=some xs
 |[]=>rfl
 |x::xs=>by simp only[Zv,gW,gL xs]
theorem Cz(h:xs.length < 64):cR false (xs.map D.int)=some ((fN xs).map D.int):=by
 unfold cR;rw[if_pos rfl];cases xs with
 |nil=>rfl
 |cons x xs=>
  simp only[uy,y9,gL];rw[if_pos h]
theorem CA:(js K).length=K.G.length:=by unfold js;rw[(cr _).length_eq,Za]
theorem tw(V:Vd K)(q:∀S',Sm S S'->S'[Zb S' - 1]?=some (.lst ((js K).map D.int))->Zb S<=Zb S' - 1->Q (.ref (Zb S' - 1)) S'):Ok (evC ae (k+1) 35 [skE K] S) Q:=by
 refine aC (d:=cb) (ρ:=[some (skE K)]) rfl rfl ?_;dsimp only[cb,dD];k_is;refine aa sk2 ?_;k_is;refine a9 K.G ay (λg=>[.int (g.getD 1 0)]) (by have:=V.g7;lia) (λ_ _=>Ze _) bU (λi g S' hg sm=>⟨_,rfl,?_⟩) λS' sm=>?_
 ·obtain⟨l7,_⟩:=V.gl g (Zh hg)
  match g,l7 with
  |[a,b,c,d,e,f,h],_=>
   k_is;exact aa (show ixS (ay [a,b,c,d,e,f,h]) (.int 1) S'=some (.int b,S') from rfl) ⟨rfl,Sm.refl _⟩
 ·rw[aU];refine⟨_,show cR false (K.G.map λg=>D.int (g.getD 1 0))=some ((js K).map D.int) from ?_,?_⟩
  ·have:=Cz (xs:=K.G.map λg=>g.getD 1 0) (by rw[Za];have:=V.g7;lia);rw[ZX] at this;exact this
  ·have e:Zb (S'++[Ob.lst ((js K).map D.int)]) - 1=Zb S':=by simp
   have sl:Zb S<=Zb S':=by
    cases hz:decide (Zb S<=Zb S') with
    |true=>exact of_decide_eq_true hz
    |false=>
     exfalso;have hlt:Zb S' < Zb S:=by have:=of_decide_eq_false hz;lia
     have:=sm (Zb S') S[Zb S'] (gEG hlt);rw[ZC (Ze _)] at this;cases this
   have:=q (S'++[Ob.lst ((js K).map D.int)]) (sm.trans (Sm.app _ _)) (by rw[e];exact al) (by rw[e];exact sl);rw[e] at this;exact this
theorem cg{n:Nat}{i:Int}(hn:S[n]?=some (.lst ds))(h0:0<=i)(h:ds[i.toNat]?=some d):ixS (.ref n) (.int i) S=some (d,S):=by
 obtain⟨j,rfl⟩:∃j:Nat,i=(j:Int):=⟨i.toNat,by lia⟩;rw[Zn] at h;simp only[ixS,ao,ak hn,Zq,Ev.pV h]
theorem fe{n:Nat}{j:Nat}(hn:S[n]?=some (.lst ds)):slS none (some (j:Int)) (.ref n) S=some (.ref (Zb S),S++[.lst (ds.take j)]):=by
 have:gP ds none (some (j:Int))=ds.take j:=by
  by_cases h:j<=ds.length
  ·exact BX ds j h
  ·unfold gP;rw[Dw.z9 _ _ (by lia),Zn,XV (by lia)];show(ds.drop 0).take (ds.length - 0)=ds.take j;rw[List.drop_zero,ZT (by lia),ZT (by lia)]
 simp only[slS,ak hn,this]
theorem jh{a b:Nat}(ha:S[a]?=some (.lst xs))(hb:S[b]?=some (.lst ys))(hl:xs.length+ys.length<=100000):bI .add (.ref a) (.ref b) S=some (.ref (Zb S),S++[.lst (xs++ys)]):=by
 simp only[bI,kL,JD,ha,hb];rw[if_pos hl]
theorem dE{n:Nat}(hn:S[n]?=some (.lst ds)):av cq (.ref n) S=some (.int ds.length,S):=by simp only[av,ao,ak hn,Zq,cq]
theorem CB(h:xs ≠ []):kN false (xs.map D.int) S=some (.int (cZ xs),S):=by
 cases xs with
 |nil=>exact absurd rfl h
 |cons x xs=>unfold kN;rw[gL]
theorem GM(V:Vd K){L:List (Int × Int)}{n j:Nat}{z:Int × Int}(hn:S[n]?=some (.lst (L.map ac)))(hz:L[j]?=some z)(hL:InG K L)(hl:L.length<=100)(q:∀S',Sm S S'->Q (.int (tf K (L.take j) z.1 z.2)) S'):Ok (evC ae (k+3) 39 [skE K,.ref n,.int j,.int (jn K z.1)] S) Q:=by
 refine aC (d:=dS) (ρ:=[some (skE K),some (.ref n),some (.int j),some (.int (jn K z.1)),none,none]) rfl rfl ?_;dsimp only[dS,hX];have hzG:=hL z (Zh hz);k_is;refine aa (fe hn) ?_;k_is;have s1:Sm S (S++[Ob.lst ((L.map ac).take j)]):=Sm.app _ _;have a1:(S++[Ob.lst ((L.map ac).take j)])[Zb S]?=some (Ob.lst ((L.take j).map ac)):=by rw[al,Yp]
 generalize Zb S=N1 at *;generalize S++[Ob.lst ((L.map ac).take j)]=S1 at *;refine⟨rfl,tw V λS2 s2 a2 _=>?_⟩;k_is;refine⟨by rw[ak a2];rfl,?_⟩;have hjl:(js K).length<=7:=by rw[CA];exact V.g7
 refine a9 (js K) D.int (λt=>if (decide (jn K z.1 < t) && aB K t z)=true then [D.int t] else []) (by lia) (λ_ _=>by split <;> simp) (ce a2) (λi t S' ht sm=>⟨_,rfl,?_⟩) λS3 s3=>?_
 ·k_is;cases c:decide (jn K z.1 < t) with
  |false=>k_is;show 6
  |true=>
   k_is;have hn':=sm _ _ (s2 _ _ (s1 _ _ hn));refine aa (cg hn' (by lia) (show(L.map ac)[((j:Nat):Int).toNat]?=some (ac z) by rw[Zn,Zm,hz];rfl)) ?_;refine⟨rfl,nI V hzG.1 hzG.2 ?_⟩;k_is;cases aB K t z with
   |true=>k_is;show 6
   |false=>k_is;show 6
 ·rw[bV];k_is;have lt3:Zb S3 < Zb (S3++[Ob.lst (((js K).filter λt=>decide (jn K z.1 < t) && aB K t z).map D.int)]):=by simp
  have a3:(S3++[Ob.lst (((js K).filter λt=>decide (jn K z.1 < t) && aB K t z).map D.int)])[Zb S3]?=some (Ob.lst (((js K).filter λt=>decide (jn K z.1 < t) && aB K t z).map D.int)):=al;have s4:Sm S3 (S3++[Ob.lst (((js K).filter λt=>decide (jn K z.1 < t) && aB K t z).map D.int)]):=Sm.app _ _;have lf:((js K).filter λt=>decide (jn K z.1 < t) && aB K t z).length<=7:=ZF (Xe _ _) hjl;generalize Zb S3=N3 at *;generalize S3++[Ob.lst (((js K).filter λt=>decide (jn K z.1 < t) && aB K t z).map D.int)]=S4 at *;have s5:Sm S4 (S4++[Ob.lst [D.int (jn K z.1)]]):=Sm.app _ _;refine aa (jh (xs:=[D.int (jn K z.1)]) al (s5 _ _ a3) (by rw[Za,ZR];lia)) ?_;k_is;have s6:Sm (S4++[Ob.lst [D.int (jn K z.1)]]) (S4++[Ob.lst [D.int (jn K z.1)]]++[Ob.lst ([D.int (jn K z.1)]++((js K).filter λt=>decide (jn K z.1 < t) && aB K t z).map D.int)]):=Sm.app _ _;have a6:(S4++[Ob.lst [D.int (jn K z.1)]]++[Ob.lst ([D.int (jn K z.1)]++((js K).filter λt=>decide (jn K z.1 < t) && aB K t z).map D.int)])[Zb (S4++[Ob.lst [D.int (jn K z.1)]])]?=some (Ob.lst ((iK K (L.take j) z.1 z.2).map D.int)):=al;refine⟨by rw[ak a6];rfl,?_⟩;have sA:=((((s1.trans s2).trans s3).trans s4).trans s5).trans s6;have aL:=(((((s2.trans s3).trans s4).trans s5).trans s6)) _ _ a1;refine a9 (iK K (L.take j) z.1 z.2) D.int (λt=>[D.int (1+(wts K (L.take j) t:Int))]) (by show((js K).filter λt=>decide (jn K z.1 < t) && aB K t z).length+1<=1000;lia) (λ_ _=>Ze _) (ce a6) (λi t S' ht sm=>⟨_,rfl,?_⟩) λS7 s7=>?_
  ·k_is;refine⟨rfl,Cy V (sm _ _ aL) (λw hw=>hL w (Z5 hw)) (by rw[Zt];lia) λS8 s8=>?_⟩;k_is;exact⟨rfl,s8⟩
  ·rw[aU];have em:=CB (S:=S7) (xs:=(iK K (L.take j) z.1 z.2).map λt=>1+(wts K (L.take j) t:Int)) (by unfold iK;simp);rw[ZX] at em;exact aa em (by k_is;exact q S7 (sA.trans s7))
theorem GN(V:Vd K){L:List (Int × Int)}{n j:Nat}{z:Int × Int}(hn:S[n]?=some (.lst (L.map ac)))(hz:L[j]?=some z)(hL:InG K L)(hl:L.length<=100)(q:∀S',Sm S S'->Q (.bl (tj K (L.take j) z.1 z.2)) S'):Ok (evC ae (k+4) 38 [skE K,.ref n,.int j] S) Q:=by
 refine aC (d:=dR) (ρ:=[some (skE K),some (.ref n),some (.int j),none,none,none,none,none,none,none]) rfl rfl ?_;dsimp only[dR,hV];have hzG:=hL z (Zh hz);obtain⟨a,b,c,d,e,f,h,eg,e0,e1,e2,e3,e6,_⟩:=gl7 V hzG.1 hzG.2;have hi:=cg hn (show(0:Int)<=(j:Int) by lia) (show(L.map ac)[((j:Nat):Int).toNat]?=some (ac z) by rw[Zn,Zm,hz];rfl);k_is;refine aa sk2 (aa hi (aa (show ixS (ac z) (.int 0) S=some (.int z.1,S) from rfl) (aa (dh hzG.1 eg) ?_)));rw[show ay [a,b,c,d,e,f,h] = .tup [.int a,.int b,.int c,.int d,.int e,.int f,.int h] from rfl];k_is;have ej:jn K z.1=b:=e1;have eh:tj K (L.take j) z.1 z.2=(decide (0 < h) && (aB K b z && decide (h < tf K (L.take j) z.1 z.2))):=by unfold tj;rw[e6,ej]
 rw[eh] at q;cases c1:decide (0 < h) with
 |false=>rw[c1] at q;k_is;exact q S (Sm.refl S)
 |true=>
  rw[c1] at q;k_is;refine aa hi ?_;refine⟨rfl,nI V hzG.1 hzG.2 ?_⟩;k_is;cases c2:aB K b z with
  |false=>rw[c2] at q;k_is;exact q S (Sm.refl S)
  |true=>
   rw[c2] at q;k_is
   have rg:=GM (k:=k) (Q:=λy S2=>wCx .gt y (.int h) S2 λd S1=>Q d S1) V hn hz hL hl λS' sm=>by
    k_is;exact q S' sm
   rw[ej] at rg;exact⟨rfl,rg⟩
theorem Sm.setNew{f:Nat}(h:Sm S S')(hf:S.length<=f):Sm S (S'.set f o):=λi u e=>by
 have hi:=(Zc.mp e).1;rw[ZN (by lia)];exact h i u e
theorem vB{g:Int}(g0:0<=g)(g1:g < K.G.length):jn K g ∈ js K:=by
 have hi:g.toNat < K.G.length:=by lia
 refine(cr _).mem_iff.mpr (ZH.mpr ⟨K.G[g.toNat],Zy hi,?_⟩);unfold jn gi;rw[gEG hi];rfl
theorem tz(V:Vd K)(hL:InG K L):∀q,fC K L=some q->0<=q.1/\q.1 < K.M.length:=λq e=>by
 unfold fC at e;cases h:L.getLast? with
 |none=>rw[h] at e;exact V.ah0 q e
 |some z=>
  rw[h] at e;cases e;have hz:=hL z (List.mem_of_getLast? h);obtain⟨a,b,c,d,e,f,h,eg,e0,e1,e2,e3,e6,k0,k1,c0⟩:=gl7 V hz.1 hz.2;show 0<=gi K.G z.1 0/\gi K.G z.1 0 < K.M.length;rw[e0];exact⟨k0,k1⟩
theorem vC:fC K (L++[z])=some (gi K.G z.1 0,z.2):=by
 unfold fC;rw[Xk];rfl
end Lw
namespace Ev
open PySem
def OkX(o:Option (RR × Sto))(Q:RR->Sto->Prop):Prop:=∃r S',o=some (r,S')/\Q r S'
section
variable {ae:List DefE} {k f:Nat} {d:DefE} {ds:List D} {ρ:Rho} {S:Sto} {g:fT} {ar:Nat->Nat} {r:List RS} {Q:RR->Sto->Prop}
theorem CC(hd:ae[f]?=some d)(hr:d.rb=some rs)(hρ:ds.map some++Zp (d.N.length - ds.length) none=ρ)(h:OkX (cj (evX ae k) (cF ae) rs ρ S) Q):OkX (evX ae (k+1) f ds S) Q:=by
 subst hρ;have z:evX ae (k+1) f ds S=cj (evX ae k) (cF ae) rs (ds.map some++Zp (d.N.length - ds.length) none) S:=by simp only[evX,hd,hr]
 rw[z];exact h
theorem M0{Q:D->Sto->Prop}(h:OkX (evX ae k f ds S) λr S'=>match r with |.val d=>Q d S' |.exc _=>False):Ok (evC ae k f ds S) Q:=by
 obtain⟨r,S',e,q⟩:=h;cases r with
 |val d=>exact⟨d,S',by unfold evC toC;rw[e],q⟩
 |exc i=>exact q.elim
theorem CD(q:Q (.val .non) S):OkX (cj g ar [] ρ S) Q:=⟨_,_,rfl,q⟩
theorem GO{n:Nat}:fE C ar (n+2) [s] ρ S=evS C ar (n+1) s ρ S:=by
 show uF (evS C ar (n+1) s) (fE C ar (n+1) []) ρ S=_;unfold uF;cases evS C ar (n+1) s ρ S with
 |none=>rfl
 |some z=>
  obtain⟨fl,ρ1,S1⟩:=z;cases fl <;> rfl
theorem Ie(h:rW (wSs (toC g) ar 60 [s]) ρ S λfl ρ' S'=>match fl with |.nx=>OkX (cj g ar r ρ' S') Q |.rt v=>Q (.val v) S' |_=>False):OkX (cj g ar (.pl s::r) ρ S) Q:=by
 obtain⟨fl,ρ1,S1,e,q⟩:=qM h;rw[GO] at e;have z:evS (toC g) ar 59 s ρ S=some (fl,ρ1,S1):=e;cases fl with
 |nx=>obtain⟨v,S2,e2,q2⟩:=q;exact⟨v,S2,by simp only[cj,z];exact e2,q2⟩
 |rt v=>exact⟨.val v,S1,by simp only[cj,z],q⟩
 |bk=>exact q.elim
 |ct=>exact q.elim
theorem CF(h:evA (toC g) ar FU es ρ S=some (ds,S1))(hl:ds.length=ar f)(q:OkX (g f ds S1) λv S2=>match v with |.val _=>OkX (cj g ar r ρ S2) Q |.exc i=>Q (.exc i) S2):OkX (cj g ar (.ck f es::r) ρ S) Q:=by
 obtain⟨v,S2,e,q⟩:=q;cases v with
 |val d=>
  obtain⟨v,S3,e3,q3⟩:=q;exact⟨v,S3,by simp only[cj,xck,h,hl,if_true,e];exact e3,q3⟩
 |exc i=>exact⟨.exc i,S2,by simp only[cj,xck,h,hl,if_true,e],q⟩
theorem Ig{i:Nat}(h:wT (toC g) ar 60 c ρ S λb S1=>if b=true then i < 14/\Q (.exc i) S1 else OkX (cj g ar r ρ S1) Q):OkX (cj g ar (.rz c i::r) ρ S) Q:=by
 obtain⟨b,S1,e,q⟩:=(pF 60).t _ _ _ h;have z:evT (toC g) ar FU c ρ S=some (b,S1):=e;cases b with
 |true=>
  rw[if_pos rfl] at q;exact⟨.exc i,S1,by simp only[cj,z];rw[if_pos q.1],q.2⟩
 |false=>
  rw[if_neg Zd] at q;obtain⟨v,S2,e2,q2⟩:=q;exact⟨v,S2,by simp only[cj,z];exact e2,q2⟩
theorem Ih{f' iw:Nat}{c:Bool}{es:List CE}{ds:List D}{S1:Sto}(hc:ρ[iw]?=some (some (.int (if c then 1 else 0))))(h:evA (toC g) ar FU es ρ S=some (ds,S1))(hl:ds.length=ar (if c then f' else f))(q:OkX (g (if c then f' else f) ds S1) λv S2=>match v with |.val d=>Q (.val d) S2 |.exc i=>i < 14/\∃w,mW[i]?=some w/\Q (.val (.str w)) S2):OkX (cj g ar (.tr f f' iw es::r) ρ S) Q:=by
 obtain⟨v,S2,e,q⟩:=q
 have k:cj g ar (.tr f f' iw es::r) ρ S=xck g (ar (if c then f' else f)) (if c then f' else f) (evA (toC g) ar FU es ρ S) λv S2=>(match v with
   |.val d=>some (.val d,S2)
   | .exc i=>if i < 14 then (mW[i]?).map λw=>(.val (.str w),S2) else none):=by
  simp only[cj,hc];cases c <;> rfl
 cases v with
 |val d=>exact⟨.val d,S2,by rw[k];simp only[xck,h,hl,if_true,e],q⟩
 |exc i=>
  obtain⟨h14,w,hw,q⟩:=q;exact⟨.val (.str w),S2,by rw[k];simp only[xck,h,hl,if_true,e];rw[if_pos h14,hw];rfl,q⟩
end
end Ev
namespace Lw
open PySem Ev Sn L2
variable {p:Nat} {S S':Sto} {k:Nat} {Q:D->Sto->Prop} {K:Sky}
theorem ji(r:List Int):TDs p S (r.map Dw.D.int) (r.map D.int):=by
 induction r with
 |nil=>exact aM
 |cons a r ih=>exact ag bc ih
theorem j8:∀ (M:List (List Int)),TDs p S (Dw.Ab M) (M.map ay)
 |[]=>aM
 |r::M=>ag (bA (ji r)) (j8 M)
abbrev ahT:Option (Int × Int)->Dw.D
 |none=>.non
 |some q=>.tup [.int q.1,.int q.2]
theorem Qq:∀ (a:Option (Int × Int)),TD p S (ahT a) (ahE a)
 |none=>vf
 |some q=>bA (ag bc (ag bc aM))
theorem pH{ds:List D}(i:Nat)(d:D)(h:ds[i]?=some d):(λi=>(ds[i]?).getD .non) i=d:=by
 show(ds[i]?).getD .non=d;rw[h];rfl
theorem fg{i:Int}(h0:0<=i)(h1:i < 1000):lim i=true:=by simp only[lim,bAE,decide_eq_true_eq];lia
theorem Kp.len{p:Nat}(h:Ev.Kp p S S')(hp:p < S'.length):S.length<=S'.length:=by
 by_cases hz:S.length<=S'.length
 ·exact hz
 ·exfalso;have hlt:S'.length < S.length:=by lia
  have:=h S'.length S[S'.length] (by lia) (gEG hlt);rw[ZC (Ze _)] at this;cases this
theorem tD:∀ {H:List (Int × Int)} {lo x y:Int},Ris lo H->lo < x->(∀q ∈ H,q.2 < x)->x < y->Ris lo (H++[(x,y)])
 |[],lo,x,y,_,h1,_,h3=>⟨h1,h3,trivial⟩
 |q::H,lo,x,y,h,h1,h2,h3=>by
  rw[Ris] at h;exact⟨h.1,h.2.1,tD h.2.2 (h2 q Zg) (λr hr=>h2 r (Zf _ hr)) h3⟩
theorem qQ:∀ {H:List (Int × Int)} {lo:Int} {q:Int × Int},Ris lo H->q ∈ H->lo < q.1/\q.1 < q.2
 |q'::H,lo,q,h,hq=>by
  rw[Ris] at h;rcases Zk.mp hq with rfl |hq
  ·exact⟨h.1,h.2.1⟩
  ·have:=qQ h.2.2 hq
   lia
theorem tF:∀ {H:List (Int × Int)} {lo:Int},Ris lo H->∀ (i:Nat) q q',H[i]?=some q->H[i+1]?=some q'->q.2 < q'.1
 |q0::H,lo,h,0,q,q',e1,e2=>by
  rw[Ris] at h;cases e1;rw[Yr] at e2;exact(qQ h.2.2 (Zh e2)).1
 |q0::H,lo,h,i+1,q,q',e1,e2=>by
  rw[Ris] at h;rw[Yr] at e1 e2;exact tF h.2.2 i q q' e1 e2
structure MeOk(r s:Int)(M:List (List Int))(H:List (Int × Int)):Prop where
 r0:0<=r
 r8:r<=8
 s0:0<=s
 s60:s<=60
 mat:Dw.Mat M.length M
 m1:1<=M.length
 m4:M.length<=4
 tri:Dw.oJ M.length M.length M
 ris:Ris (-1) H
 h4:H.length<=4
 hb:∀q ∈ H,q.2<=9999
def GB(n:Nat)(r s:Int)(g:List Int):Prop:=∃kd jo fi la du we ri:Int,g=[kd,jo,fi,la,du,we,ri]/\0<=kd/\kd < n/\0<=jo/\jo+s<=fi/\fi<=la/\la<=9999/\0<=du/\du<=9999/\0<=we/\we<=99/\0<=ri/\ri<=r
structure SkOk(K:Sky):Prop where
 me:MeOk K.r K.s K.M K.H
 g7:K.G.length<=7
 gb:∀g ∈ K.G,GB K.M.length K.r K.s g
 nd:K.F.Nodup
 bd:∀x ∈ K.F,0<=x/\x < K.G.length
 rg:∀ (j:Nat) g,K.G[j]?=some g->g.getD 6 0=0\/(j:Int) ∈ K.F
 ah:∀q,K.ah=some q->0<=q.1/\q.1 < K.M.length/\0<=q.2/\q.2<=9999
theorem SkOk.vd(h:SkOk K):Vd K:=by
 refine⟨h.me.r0,h.me.r8,h.me.s0,h.me.s60,h.me.m1,h.me.m4,h.me.mat.row,h.me.ris,h.me.h4,λq e=>⟨(h.ah q e).1,(h.ah q e).2.1⟩,h.g7,λg hg=>?_⟩;obtain⟨kd,jo,fi,la,du,we,ri,rfl,h1,h2,h3,h4,_⟩:=h.gb g hg;have:=h.me.s0;refine⟨rfl,h1,h2,?_⟩;show 0<=fi
 lia
abbrev meL(r s:Int)(M:List (List Int))(H:List (Int × Int)):D:=.tup [.int r,.int s,.tup (M.map ay),.tup (H.map ac)]
theorem vD{n:Nat}{l:List Int}(h:l.Perm ((Zj n).map λi=>Int.ofNat i)):l.Nodup/\(∀x ∈ l,0<=x/\x < n)/\l.length=n:=by
 refine⟨h.nodup_iff.mpr (List.pairwise_map.mpr (List.nodup_range.imp λh z=>h (Int.ofNat.inj z))),λx hx=>?_,by rw[h.length_eq,Za,ZK]⟩;obtain⟨i,hi,rfl⟩:=ZH.mp (h.mem_iff.mp hx);have:=Z6.mp hi;show 0<=(i:Int)/\(i:Int) < n
 lia
theorem CG{n:Nat}:∀i S',Sm S S'->nxR 0 n i S'=some (((Zj n)[i]?).map λ(j:Nat)=>D.int (0+(j:Int))):=λi S' _=>by
 show some (if i < n then some (D.int (0+(i:Int))) else none)=_;split
 ·rename_i h;rw[YF h];rfl
 ·rename_i h;rw[ZC (by rw[ZK];lia)];rfl
theorem qR{α β:Type}(f:α->β):∀ (l:List α) (j:Nat),(l.map f).eraseIdx j=(l.eraseIdx j).map f
 |[],_=>rfl
 |_::_,0=>rfl
 |a::l,j+1=>by rw[Zv,YH,YH,Zv,qR f l j]
theorem tG{α:Type}:∀ (l:List α) (j:Nat) (hj:j < l.length),(l[j]::l.eraseIdx j).Perm l
 |a::l,0,_=>List.Perm.refl _
 |a::l,j+1,hj=>by
  rw[YH,List.getElem_cons_succ];exact(List.Perm.swap _ _ _).trans ((tG l j (by simpa using hj)).cons a)
theorem pJ{L:Nat}{is0:List Int}(h:Pot p S)(hL:S[L]?=some (.lst (is0.map D.int)))(nL:L ≠ p)(hn:is0.length<=1000)
  (q:∀ (is:List Int) S',Dr p S S'->is.Perm is0->Q (.ref (Zb S')) (S'++[.lst (is.map D.int)])):Ok (evC ae (k+2) 47 [.ref p,.ref L] S) Q:=by
 refine aC (d:=gk) (ρ:=[some (.ref p),some (.ref L),none]) rfl rfl ?_;dsimp only[gk,kB];k_is;have it:ao (.ref L) S=some (false,is0.map D.int):=by simp only[ao,ak hL,Zq]
 rw[it];show Ok (some (is0.map D.int,S)) _;rw[aF];k_is;have lt:=h.lt;have d0:Dr p S (S++[Ob.lst (is0.map D.int)]):=Dr.sm h (Sm.app _ _);have hL0:=Sm.app S [Ob.lst (is0.map D.int)] _ _ hL;have hLl:L < Zb S:=(Zc.mp hL).1;k_is;refine⟨(by rw[ak hL0];rfl),?_⟩;have lm:(is0.map D.int).length=is0.length:=Za _;refine dY is0.length (λi=>((is0.map D.int)[i]?).getD .non) (λi acc S'=>Ev.Kp p S S'/\Pot p S'/\∃left as:List Int,S'[Zb S]?=some (.lst (left.map D.int))/\acc=as.map D.int/\(as++left).Perm is0/\left.length+i=is0.length) (λi acc S' hi ⟨kp,_⟩=>by rw[<-lm];exact j5 (kp _ _ nL hL) _ pH) (by lia) (λi acc S1 hi ⟨kp,pt,left,as,hf,ea,pm,ll⟩=>⟨_,rfl,?_⟩) (λes S1 ⟨kp,pt,left,as,hf,ea,pm,ll⟩=>⟨by rw[ea,Za];have:=pm.length_eq;rw[Zr] at this;lia,?_⟩) ⟨d0.kp,d0.pot,is0,[],al,rfl,by simp,by lia⟩
 ·k_is;refine⟨gx hf,?_⟩;k_is;have lq:av cq (D.ref (Zb S)) S1=some (.int left.length,S1):=by simp only[av,ao,ak hf,Zq,cq,Za]
  refine aa lq ?_;k_is;refine⟨rfl,ax pt (by lia) (by lia) λr S2 r1 r2 d2=>?_⟩;k_is;obtain⟨j,rfl⟩:∃n:Nat,r=(n:Int):=⟨r.toNat,by lia⟩;have hj:j < left.length:=by lia
  have hf2:=d2.kp _ _ (show Zb S ≠ p by lia) hf;have lt2:Zb S < S2.length:=(Zc.mp hf2).1
  have pa:eT (.ref (Zb S)) [.int (j:Int)] S2=some (.int left[j],S2.set (Zb S) (.lst ((left.map D.int).eraseIdx j))):=by
   have hix:ixN (left.map D.int).length (j:Int)=some j:=by
    unfold ixN;rw[if_pos (by lia),if_pos (by rw[Za];lia),Zn]
   simp only[eT,chg,hf2,hix,Zm,gEG hj,Zq]
  refine aa pa ?_;k_is;refine⟨(kp.trans d2.kp).setNew (Ze _),d2.pot.setNe (by lia),left.eraseIdx j,as++[left[j]],by rw[iI lt2,qR],by rw[ea,ZA];rfl,?_,by rw[YT hj];lia⟩;refine List.Perm.trans ?_ pm;rw[Yd];exact List.Perm.append_left as (tG left j hj)
 ·subst ea;k_is;have:left=[]:=Ye.mp (by lia);subst this;rw[ZU] at pm;exact q as S1 ⟨kp,pt⟩ pm
theorem pK:∀ (ps:List (Int × Int)),dI (ps.map ac)=some ps
 |[]=>rfl
 |q::ps=>by
  rw[Zv];simp only[dI,pK ps,ac,mo]
theorem vE{α:Type}(d:α)(l:List α):(Zj l.length).map (λi=>l.getD i d)=l:=by
 apply List.ext_getElem
 ·simp
 ·intro i h1 h2;simp at h1;simp[h1]
theorem zc(ps:List (Int × Int)):∃qs:List (Int × Int),cY ps .non (ps.map ac)=qs.map ac/\qs.Perm ps:=by
 by_cases h:ps.length < 2
 ·exact⟨ps,by unfold cY;rw[if_pos (by rw[Za];exact h)],List.Perm.refl _⟩
 ·have hn:0 < ps.length:=by lia
  have pm:Pm ps.length (eR (n8 ps) (Vh ps.length)):=(qk hn).run;refine⟨(eR (n8 ps) (Vh ps.length)).toList.map λi=>ps.getD i (0,0),?_,?_⟩
  ·unfold cY;rw[if_neg (by rw[Za];exact h),Za,ZX];refine YR λi hi=>?_;have hi':=(qm (lt:=n8 ps) hn).1 i hi;simp[hi']
  ·have e:(eR (n8 ps) (Vh ps.length)).toList.Perm (Zj ps.length):=by
    have:=Array.perm_iff_toList_perm.mp pm
    simpa using this
   have:=e.map λi=>ps.getD i (0,0)
   rwa [vE] at this
theorem zd(h:ps.length < 64):∃qs:List (Int × Int),cR false (ps.map ac)=some (qs.map ac)/\qs.Perm ps:=by
 obtain⟨qs,e,pm⟩:=zc ps;refine⟨qs,?_,pm⟩;show(if false=false then uy false (ps.map ac) else none)=_;rw[if_pos rfl];simp only[uy,pK];rw[if_pos (by rw[Za];exact h),e]
theorem bp{α:Type}{l:List α}{E:α->D}{S:Sto}:av cq (.tup (l.map E)) S=some (.int l.length,S):=by simp only[av,ao,cq,Za]
theorem vF{α:Type}{l:List α}:l.all (λ_=>true)=true:=ZJ.mpr λ_ _=>rfl
theorem vG{α:Type}{nx:Nxt}{tg:Tg}{c:XA}{ρ:Rho}(l:List α)(E:α->D)(hl:l.length<=1000)(hnx:∀i S',Sm S S'->nx i S'=some ((l[i]?).map E))
  (step:∀ (i:Nat) a S',l[i]?=some a->Sm S S'->∃ρ1,aA tg (E a) ρ=some ρ1/\Ok (c ρ1 S') λes S1=>es=[.bl true]/\Sm S' S1) (q:∀S',Sm S S'->Q (.bl true) S') :
  Ok (bj nx tg c ρ LF 0 S) λes S2=>es.length<=100000/\Ok (kM false es S2) Q:=by
 refine a9 l E (λ_=>[.bl true]) hl (λ_ _=>Ze _) hnx step λS' s'=>?_;rw[aU];refine aa (k9 l (λ_=>true) S') ?_;rw[vF];exact q S' s'
theorem vH{i a b:Int}(h0:a<=i)(h1:i<=b)(q:Q (.bl true) S):Ok (evC ae (k+2) 1 [.int i,.int a,.int b] S) Q:=pG (p:=0) bc (by
 rw[show Dw.ij (.int i) a b=true by simp only[Dw.ij,decide_eq_true h0,decide_eq_true h1,Xv]];exact q)
theorem GP{i:Int}(h0:0<=i)(h1:i<=9999)(q:Q (.bl true) S):Ok (evC ae (k+3) 2 [.int i] S) Q:=yZ (p:=0) bc (by
 rw[show Dw.ij (.int i) 0 9999=true by simp only[Dw.ij,decide_eq_true h0,decide_eq_true h1,Xv]];exact q)
theorem oh{ts:List Dw.D}{ds:List D}{a b:Int}(h:TDs 0 S ts ds)(h0:a<=ts.length)(h1:(ts.length:Int)<=b)(q:Q (.bl true) S):Ok (evC ae (k+1) 3 [.tup ds,.int a,.int b] S) Q:=sZ (bA h) (by
 rw[show Dw.isT (.tup ts) a b=true by simp only[Dw.isT,decide_eq_true h0,decide_eq_true h1,Xv]];exact q)
theorem lc{M:List (List Int)}:(Dw.Ab M).length=M.length:=by unfold Dw.Ab;rw[Za]
theorem Qu{r:List Int}{n:Nat}(hl:r.length=n)(hn:n<=4)(hr:∀x ∈ r,1<=x/\x<=99)(q:∀S',Sm S S'->Q (.bl true) S'):Ok (evC ae (k+3) 7 [ay r,.int n] S) Q:=by
 refine aC (d:=eX) (ρ:=[some (ay r),some (.int n)]) rfl rfl ?_;dsimp only[eX,i9];rw[show ay r = .tup (r.map D.int) from rfl];k_is;refine⟨rfl,oh (ji r) (by rw[Za];lia) (by rw[Za];lia) ?_⟩;k_is;refine vG r D.int (by lia) bU (λi x S' hx sm=>⟨_,rfl,?_⟩) q;k_is;have:=hr x (Zh hx);exact⟨rfl,vH this.1 this.2 ⟨rfl,Sm.refl _⟩⟩
theorem CH{es:List D}(h:∀e ∈ es,e = .bl true)(S:Sto):kM false es S=some (.bl true,S):=by
 have e:es.map (λ_=>D.bl true)=es:=by
  conv=>rhs;rw[<-List.map_id es]
  exact YR λx hx=>(h x hx).symm
 rw[<-e];exact(k9 es (λ_=>true) S).trans (by rw[vF])
theorem Qv(sk:SkOk K)(q:∀S',Sm S S'->Q (.bl true) S'):Ok (evC ae (k+1) 8 [.tup (K.M.map ay)] S) Q:=by
 refine aC (d:=bb) (ρ:=[some (.tup (K.M.map ay)),none]) rfl rfl ?_;dsimp only[bb,bP];have V:=sk.vd;have m4:=sk.me.m4;k_is;refine aa bp ?_;refine⟨_,rfl,by lia,?_⟩;k_is;have hm:(S++[Ob.lst ((Zj K.M.length).map λj=>D.int (Int.ofNat j))])[S.length]?=some (.lst ((Zj K.M.length).map λj=>D.int (Int.ofNat j))):=al;have sq:∀S',Sm (S++[Ob.lst ((Zj K.M.length).map λj=>D.int (Int.ofNat j))]) S'->(aq S' S.length).isSome=true:=λS' sm=>by rw[ak (sm _ _ hm)];rfl
 refine⟨sq _ (Sm.refl _),?_⟩;refine(vg hm (by lia) (λa=>(Zj K.M.length).flatMap λb=>(Zj K.M.length).flatMap λc=>[.bl true]) λa S1 ha sm1=>⟨_,rfl,?_⟩).mono λes S2 ⟨ee,sm⟩=>?_
 ·k_is;refine⟨sq _ sm1,?_⟩;refine vg (sm1 _ _ hm) (by lia) _ λb S2 hb sm2=>⟨_,rfl,?_⟩;k_is;refine⟨sq _ (sm1.trans sm2),?_⟩;refine vg (sm2 _ _ (sm1 _ _ hm)) (by lia) _ λc S3 hc sm3=>⟨_,rfl,?_⟩;k_is;obtain⟨r1,e1,e2⟩:=j7 (S:=S3) V (a:=a) (b:=b) (by lia) (by lia) (by lia) (by lia);obtain⟨r2,e3,e4⟩:=j7 (S:=S3) V (a:=a) (b:=c) (by lia) (by lia) (by lia) (by lia);obtain⟨r3,e5,e6⟩:=j7 (S:=S3) V (a:=c) (b:=b) (by lia) (by lia) (by lia) (by lia);refine aa e1 (aa e2 (aa e3 (aa e4 (aa e5 (aa e6 ?_)))));k_is;refine⟨?_,Sm.refl _⟩;have t:=sk.me.tri a b c ha hb hc;rw[decide_eq_true (show gp K a b<=gp K a c+gp K c b from t)]
 ·subst ee
  have all:∀e ∈ (Zj K.M.length).flatMap λa=>(Zj K.M.length).flatMap λb=>(Zj K.M.length).flatMap λc=>[D.bl true],e = .bl true:=λe he=>by
   obtain⟨a,_,he⟩:=Z2.mp he;obtain⟨b,_,he⟩:=Z2.mp he;obtain⟨c,_,he⟩:=Z2.mp he;exact ZO.mp he
  refine⟨?_,aa (CH all _) (q _ ((Sm.app S _).trans sm))⟩;have f3:∀a b:Nat,((Zj K.M.length).flatMap λc=>[D.bl true]).length<=4:=λ_ _=>by rw[aU (Zj K.M.length) (λ_=>D.bl true),Za,ZK];exact m4
  have f2:∀a:Nat,((Zj K.M.length).flatMap λb=>(Zj K.M.length).flatMap λc=>[D.bl true]).length<=K.M.length * 4:=λa=>Dw.v0 λb _=>f3 a b;have f1:=Dw.v0 (n:=K.M.length) (m:=K.M.length * 4) (f:=λa=>(Zj K.M.length).flatMap λb=>(Zj K.M.length).flatMap λc=>[D.bl true]) λa _=>f2 a;have:K.M.length * (K.M.length * 4)<=4 * (4 * 4):=X8 m4 (X8 m4 (Ze _))
  lia
theorem M1(sk:SkOk K)(q:∀S',Sm S S'->Q (.bl true) S'):Ok (evC ae (k+4) 6 [.tup (K.M.map ay)] S) Q:=by
 refine aC (d:=iu) (ρ:=[some (.tup (K.M.map ay))]) rfl rfl ?_;dsimp only[iu,m7];have m1:=sk.me.m1;have m4:=sk.me.m4;k_is;refine⟨rfl,oh (j8 K.M) (by rw[lc];lia) (by rw[lc];lia) ?_⟩;k_is;refine vG K.M ay (by lia) bU (λi r S' hr sm=>⟨_,rfl,?_⟩) λS' sm=>?_
 ·k_is;refine aa bp ?_;have hm:=Zh hr;exact⟨rfl,Qu (sk.me.mat.row r hm) m4 (sk.me.mat.ent r hm) λS2 s2=>⟨rfl,s2⟩⟩
 ·k_is;exact⟨rfl,Qv sk λS2 s2=>q S2 (sm.trans s2)⟩
theorem ze{z:Int × Int}(h0:0<=z.1)(h1:z.1 < z.2)(h2:z.2<=9999)(q:Q (.bl true) S):Ok (evC ae (k+4) 10 [ac z] S) Q:=by
 refine aC (d:=eY) (ρ:=[some (ac z)]) rfl rfl ?_;dsimp only[eY,ja];rw[show ac z = .tup [.int z.1,.int z.2] from rfl];have x0:ixS (.tup [D.int z.1,.int z.2]) (.int 0) S=some (.int z.1,S):=rfl;have x1:ixS (.tup [D.int z.1,.int z.2]) (.int 1) S=some (.int z.2,S):=rfl;k_is;refine⟨rfl,oh (ag bc (ag bc aM)) (ZS _) (ZS _) ?_⟩;k_is;refine aa x0 ⟨rfl,GP h0 (by lia) ?_⟩;k_is;refine aa x1 ⟨rfl,GP (by lia) h2 ?_⟩;k_is;refine aa x0 (aa x1 ?_);k_is;rw[decide_eq_true h1];exact q
theorem GQ(sk:SkOk K)(q:∀S',Sm S S'->Q (.bl true) S'):Ok (evC ae (k+5) 9 [.tup (K.H.map ac)] S) Q:=by
 refine aC (d:=fZ) (ρ:=[some (.tup (K.H.map ac))]) rfl rfl ?_;dsimp only[fZ,kr];have h4:=sk.me.h4;k_is;refine⟨rfl,oh (eJ K.H) (by rw[Za];lia) (by rw[Za];lia) ?_⟩;k_is;refine vG K.H ac (by lia) bU (λi z S' hz sm=>⟨_,rfl,?_⟩) λS' sm=>?_
 ·k_is;have a:=qQ sk.me.ris (Zh hz);exact⟨rfl,ze (by lia) a.2 (sk.me.hb z (Zh hz)) ⟨rfl,Sm.refl _⟩⟩
 ·k_is;refine aa bp ?_;k_is;refine⟨⟨by decide,fg (by lia) (by lia)⟩,?_⟩;refine Fn (by lia) (λ_=>true) (λi S2 hi sm2=>⟨_,rfl,?_⟩) λS2 sm2=>?_
  ·k_is;have hi1:i+1 < K.H.length:=by lia
   have z1:(1:Int)+i=((i+1:Nat):Int):=by lia
   have z2:((i+1:Nat):Int) - 1=((i:Nat):Int):=by lia
   rw[z1,z2];refine aa (nB (d:=ac K.H[i+1]) (by lia) (by rw[Zn,Zm,gEG hi1];rfl)) (aa (show ixS (ac K.H[i+1]) (.int 0) S2=some (.int K.H[i+1].1,S2) from rfl) ?_);refine aa (nB (d:=ac K.H[i]) (by lia) (by rw[Zn,Zm,gEG (by lia)];rfl)) (aa (show ixS (ac K.H[i]) (.int 1) S2=some (.int K.H[i].2,S2) from rfl) ?_);k_is;rw[decide_eq_true (tF sk.me.ris i _ _ (gEG (by lia)) (gEG hi1))];show 6
  ·refine aa (k9 _ (λ_=>true) _) ?_;rw[vF];exact q S2 (sm.trans sm2)
theorem CJ(sk:SkOk K)(q:∀S',Sm S S'->Q (.bl true) S'):Ok (evC ae (k+6) 5 [meE K] S) Q:=by
 refine aC (d:=fY) (ρ:=[some (meE K),none,none,none,none]) rfl rfl ?_;dsimp only[fY,kq];rw[show meE K = .tup [.int K.r,.int K.s,.tup (K.M.map ay),.tup (K.H.map ac)] from rfl];k_is;refine⟨rfl,oh (ag bc (ag bc (ag (bA (j8 K.M)) (ag (bA (eJ K.H)) aM)))) (ZS _) (ZS _) ?_⟩;k_is;refine⟨rfl,vH sk.me.r0 sk.me.r8 ?_⟩;k_is;refine⟨rfl,vH sk.me.s0 sk.me.s60 ?_⟩;k_is;refine⟨rfl,M1 sk λS1 s1=>?_⟩;k_is;exact⟨rfl,GQ sk λS2 s2=>q S2 (s1.trans s2)⟩
theorem CK{i:Int}(h0:0<=i)(h1:i < K.M.length)(q:Q (.bl true) S):Ok (evC ae (k+3) 11 [meE K,.int i] S) Q:=by
 refine aC (d:=jU) (ρ:=[some (meE K),some (.int i)]) rfl rfl ?_;dsimp only[jU,o9];k_is;refine aa me2 (aa bp ?_);k_is;exact⟨rfl,vH h0 (by lia) q⟩
theorem GR(sk:SkOk K)(q:Q (.bl true) S):Ok (evC ae (k+4) 14 [meE K,ahE K.ah] S) Q:=by
 refine aC (d:=iz) (ρ:=[some (meE K),some (ahE K.ah)]) rfl rfl ?_;dsimp only[iz,m8];cases h:K.ah with
 |none=>k_is;exact aa (show az .is (ahE none) .non S=some (.bl true,S) from rfl) q
 |some z=>
  obtain⟨a0,a1,b0,b1⟩:=sk.ah z h;have x0:ixS (.tup [D.int z.1,.int z.2]) (.int 0) S=some (.int z.1,S):=rfl;have x1:ixS (.tup [D.int z.1,.int z.2]) (.int 1) S=some (.int z.2,S):=rfl;rw[show ahE (some z) = .tup [.int z.1,.int z.2] from rfl];k_is;refine aa (show az .is (.tup [D.int z.1,.int z.2]) .non S=some (.bl false,S) from rfl) ?_;k_is;refine⟨rfl,oh (ag bc (ag bc aM)) (ZS _) (ZS _) ?_⟩;k_is;refine aa x0 ⟨rfl,CK a0 a1 ?_⟩;k_is;exact aa x1 ⟨rfl,GP b0 b1 q⟩
theorem CL(sk:SkOk K){g:List Int}(hg:g ∈ K.G)(q:∀S',Sm S S'->Q (.bl true) S'):Ok (evC ae (k+4) 16 [meE K,ay g] S) Q:=by
 obtain⟨kd,jo,fi,la,du,we,ri,rfl,a0,a1,b0,b1,b2,b3,c0,c1,d0,d1,e0,e1⟩:=sk.gb g hg;have s0:=sk.me.s0;refine aC (d:=f8) (ρ:=[some (meE K),some (ay [kd,jo,fi,la,du,we,ri]),none,none,none,none,none,none,none]) rfl rfl ?_;dsimp only[f8,ku];rw[show ay [kd,jo,fi,la,du,we,ri] = .tup [.int kd,.int jo,.int fi,.int la,.int du,.int we,.int ri] from rfl];k_is;refine⟨rfl,oh (ji [kd,jo,fi,la,du,we,ri]) (ZS _) (ZS _) ?_⟩;k_is;refine vG [jo,fi,la,du] D.int (by show 4<=1000;decide) (bU (l:=[jo,fi,la,du]) (E:=D.int)) (λi x S' hx sm=>⟨_,rfl,?_⟩) λS' sm=>?_
 ·k_is;have hm:=Zh hx;simp only[Zk,Yj,or_false] at hm;refine⟨rfl,GP ?_ ?_ ⟨rfl,Sm.refl _⟩⟩
  ·rcases hm with rfl |rfl |rfl |rfl <;> lia
  ·rcases hm with rfl |rfl |rfl |rfl <;> lia
 ·k_is;refine aa me1 ?_;k_is;rw[decide_eq_true b1];k_is;rw[decide_eq_true b2];k_is;refine⟨rfl,CK a0 a1 ?_⟩;k_is;refine⟨rfl,vH d0 d1 ?_⟩;k_is;refine aa me0 ⟨rfl,vH e0 e1 (q S' sm)⟩
theorem zf(sk:SkOk K)(q:∀S',Sm S S'->Q (.bl true) S'):Ok (evC ae (k+5) 15 [meE K,.tup (K.G.map ay)] S) Q:=by
 refine aC (d:=dN) (ρ:=[some (meE K),some (.tup (K.G.map ay))]) rfl rfl ?_;dsimp only[dN,gZ];have g7:=sk.g7;k_is;refine⟨rfl,oh (j8 K.G) (by rw[lc];lia) (by rw[lc];lia) ?_⟩;k_is;refine vG K.G ay (by lia) bU (λi g S' hg sm=>⟨_,rfl,?_⟩) q;k_is;exact⟨rfl,CL sk (Zh hg) λS2 s2=>⟨rfl,s2⟩⟩
theorem CM(sk:SkOk K)(q:∀S',Sm S S'->Q (.bl true) S'):Ok (evC ae (k+3) 4 [.tup (K.F.map D.int),.int K.G.length] S) Q:=by
 refine aC (d:=eW) (ρ:=[some (.tup (K.F.map D.int)),some (.int K.G.length)]) rfl rfl ?_;dsimp only[eW,i8];have g7:=sk.g7;have lF:=Dw.dq K.G.length K.F sk.nd sk.bd;k_is;refine⟨rfl,oh (ji K.F) (by rw[Za];lia) (by rw[Za];lia) ?_⟩;k_is;refine vG K.F D.int (by lia) bU (λi x S' hx sm=>⟨_,rfl,?_⟩) λS' sm=>?_
 ·k_is;have:=sk.bd x (Zh hx);exact⟨rfl,vH this.1 (by lia) ⟨rfl,Sm.refl _⟩⟩
 ·k_is;refine vG K.F D.int (by lia) bU (λi x S2 hx sm2=>⟨_,rfl,?_⟩) λS2 sm2=>q S2 (sm.trans sm2);k_is;refine⟨rfl,aa (BV K.F x S2) ?_⟩;k_is;rw[show((K.F.count x:Nat):Int)=1 by rw[List.Nodup.count sk.nd,if_pos (Zh hx)];rfl];show 6
theorem GS(sk:SkOk K)(q:∀S',Sm S S'->Q (.bl true) S'):Ok (evC ae (k+4) 17 [.tup (K.G.map ay),.tup (K.F.map D.int)] S) Q:=by
 refine aC (d:=f9) (ρ:=[some (.tup (K.G.map ay)),some (.tup (K.F.map D.int))]) rfl rfl ?_;dsimp only[f9,kx];have g7:=sk.g7;k_is;refine aa bp ?_;refine⟨rfl,CM sk λS1 s1=>?_⟩;k_is;refine dY K.G.length (λi=>.tup [.int i,((K.G.map ay)[i]?).getD .non]) (λi acc S'=>Sm S1 S'/\acc.length=i/\∀e ∈ acc,e = .bl true) (λi acc S' hi _=>?_) (by lia) (λi acc S' hi hq1=>?_) (λes S' hq2=>by obtain⟨s',la,ha⟩:=hq2;exact⟨by lia,aa (CH ha _) (q S' (s1.trans s'))⟩) ⟨Sm.refl _,rfl,λe he=>by cases he⟩
 ·show enm (K.G.map ay) i=_;unfold enm;rw[if_pos (by rw[Za];exact hi)];split
  ·rename_i hlt;rw[gEG (by rw[Za];exact hlt)];rfl
  ·rw[ZC (by rw[Za];lia)];rfl
 ·obtain⟨s',la,ha⟩:=hq1;obtain⟨kd,jo,fi,la',du,we,ri,eg,_⟩:=sk.gb K.G[i] (Zy hi);have rg:=sk.rg i _ (gEG hi);have ez:((K.G.map ay)[i]?).getD .non = .tup [.int kd,.int jo,.int fi,.int la',.int du,.int we,.int ri]:=by rw[Zm,gEG hi,eg];rfl
  rw[eg] at rg;have rg:ri=0\/(i:Int) ∈ K.F:=rg;rw[ez];have fin:∀S',Sm S1 S'->Sm S1 S'/\(acc++[D.bl true]).length=i+1/\∀e ∈ acc++[D.bl true],e = .bl true:=λS' s'=>⟨s',by rw[Zr,ZR];lia,λe he=>(ZG.mp he).elim (ha e) λz=>ZO.mp z⟩;refine⟨_,bT (by simp) (by simp),?_⟩;k_is;refine aa (show ixS (.tup [D.int kd,.int jo,.int fi,.int la',.int du,.int we,.int ri]) (.int 6) S'=some (.int ri,S') from rfl) ?_;k_is;cases c:decide (ri=0) with
  |true=>k_is;exact fin S' s'
  |false=>
   k_is;refine aa (show az .isin (.int (i:Int)) (.tup (K.F.map D.int)) S'=some (.bl (false != decide ((i:Int) ∈ K.F)),S') from qG false K.F i S') ?_;rw[decide_eq_true (rg.resolve_left (of_decide_eq_false c))];exact fin S' s'
theorem Qw(sk:SkOk K)(q:∀S',Sm S S'->Q (.bl true) S'):Ok (evC ae (k+7) 13 [skE K] S) Q:=by
 refine aC (d:=nq) (ρ:=[some (skE K),none,none,none,none]) rfl rfl ?_;dsimp only[nq,sR];rw[show skE K = .tup [meE K,ahE K.ah,.tup (K.G.map ay),.tup (K.F.map D.int)] from rfl];k_is;refine⟨rfl,oh (ts:=[.tup [.int K.r,.int K.s,.tup (Dw.Ab K.M),.tup (K.H.map Dw.bG)],ahT K.ah,.tup (Dw.Ab K.G),.tup (K.F.map Dw.D.int)]) (ag (bA (ag bc (ag bc (ag (bA (j8 K.M)) (ag (bA (eJ K.H)) aM))))) (ag (Qq K.ah) (ag (bA (j8 K.G)) (ag (bA (ji K.F)) aM)))) (ZS _) (ZS _) ?_⟩;k_is;refine⟨rfl,CJ sk λS1 s1=>?_⟩;k_is;refine⟨rfl,GR sk ?_⟩;k_is;refine⟨rfl,zf sk λS2 s2=>?_⟩;k_is;exact⟨rfl,GS sk λS3 s3=>q S3 ((s1.trans s2).trans s3)⟩
theorem CN{Q:RR->Sto->Prop}(sk:SkOk K)(q:∀S',Sm S S'->Q (.val .non) S'):OkX (evX ae (k+8) 18 [skE K] S) Q:=by
 refine CC (d:=kG) (rs:=fU) (ρ:=[some (skE K)]) rfl rfl rfl ?_;unfold fU;refine Ig ?_;k_is;refine⟨rfl,Qw sk λS' sm=>?_⟩;k_is;exact CD (q S' sm)
theorem nJ{L n:Nat}(h:Pot p S)(hL:S[L]?=some (.lst es))(nL:L ≠ p)(hr:RowsS p S es M)(hm:Dw.Mat (n+1) M)(hn:n < 4)
  (q:∀n M S',Dr p S S'->Dw.Mat n M->1<=n->n<=4->Dw.oJ n n M->Q (.tup (M.map ay)) S') :
  rW (wSs (evC ae (k+1)) (cF ae) 57 (dc.drop 3)) [some (.ref p),some (.int (1+(n:Int))),some (.ref L),none] S (out Q):=by
 dsimp only[dc,Z8];k_is;have e1:((1:Int)+n).toNat=n+1:=by lia
 refine⟨(by simp only[lim,bAE,decide_eq_true_eq];lia),?_⟩;rw[e1];refine gw (by lia) (λc ρ S'=>Dr p S S'/\∃L es M u,ρ=[some (.ref p),some (.int (1+(n:Int))),some (.ref L),u]/\L ≠ p/\S'[L]?=some (.lst es)/\RowsS p S' es M/\Dw.Mat (n+1) M/\Dw.oJ (n+1) c M) (λc ρ S1 hc ⟨d1,L,es,M,u,er,nL,hL,hr,hm,tr⟩=>?_) (λρ S1 ⟨d1,L,es,M,u,er,nL,hL,hr,hm,tr⟩=>?_) ⟨Dr.refl h,L,es,M,none,rfl,nL,hL,hr,hm,λa b q _ _ hq=>absurd hq (Yi q)⟩
 ·subst er;refine⟨_,rfl,?_⟩;k_is;refine⟨(by rw[ak hL];rfl),?_⟩;have le:es.length=n+1:=by rw[hr.len,hm.len]
  refine dY (n+1) (λi=>(es[i]?).getD .non) (λi acc S'=>Sm S1 S'/\RowsS p S' acc ((Zj i).map (Dw.bB M (n+1) c))) (λi acc S' hi ⟨sm,_⟩=>by rw[<-le];exact j5 (sm _ _ hL) _ pH) (by lia) (λi acc S2 hi ⟨sm,ra⟩=>?_) (λes' S2 ⟨sm,ra⟩=>⟨by rw[ra.len,Za,ZK];lia,?_⟩) ⟨Sm.refl _,RowsS.nil⟩
  ·obtain⟨r,m1,lr,_⟩:=hm.at hi hc;obtain⟨a,ea,na,za⟩:=hr.row i r m1;obtain⟨rc,m2,lrc,_⟩:=hm.at hc hc;obtain⟨b,eb,nb,zb⟩:=hr.row c rc m2;have za2:=sm _ _ za;have zb2:=sm _ _ zb;simp only[ea,ZQ];refine⟨_,rfl,?_⟩;k_is;refine⟨(by rw[ak za2];rfl),?_⟩;have lm:(r.map D.int).length=n+1:=by rw[Za];exact lr
   refine dY (n+1) (λj=>.tup [.int j,((r.map D.int)[j]?).getD .non]) (λj acc S'=>S'=S2/\acc=((Dw.bB M (n+1) c i).take j).map D.int) (λj acc S' hj ⟨e,_⟩=>by subst e;rw[<-lm];exact xc (i:=j) za2 (by lia) (λj=>.tup [.int j,((r.map D.int)[j]?).getD .non]) λj d hd=>by show D.tup [.int j,((r.map D.int)[j]?).getD .non]=_;rw[hd];rfl) (by lia) (λj acc S3 hj ⟨e3,ea'⟩=>?_) (λes3 S3 ⟨e3,ea'⟩=>⟨by rw[ea',Za,Zt];lia,?_⟩) ⟨rfl,rfl⟩
   ·subst e3;obtain⟨r',m3,_,e4,_⟩:=hm.at hi hj;rw[m1] at m3;cases m3;have g1:((r.map D.int)[j]?).getD .non = .int (Dw.mg2 M i j):=by rw[Zm,e4];rfl
    rw[g1];refine⟨_,bT (by simp) (by simp),?_⟩;k_is;obtain⟨r',m3,_,e5,_⟩:=hm.at hi hc;rw[m1] at m3;cases m3;obtain⟨rc',m3,_,e6,_⟩:=hm.at hc hj;rw[m2] at m3;cases m3;have z0:(0:Int)+(c:Int)=(c:Int):=by lia
    have at1:∀ (l:List Int) (m:Nat) (x:Int),l[m]?=some x->atI (l.map D.int) (m:Int)=some (.int x):=λl m x hx=>by
     have hlt:=(Zc.mp hx).1;unfold atI ixN;rw[if_pos (by lia),if_pos (by rw[Za];lia),Zn];show(l.map D.int)[m]?=_;rw[Zm,hx];rfl
    have i1:ixS (.ref a) (.int (0+(c:Int))) S3=some (.int (Dw.mg2 M i c),S3):=by
     simp only[ixS,ao,ak za2,Zq,z0,at1 r c _ e5]
    have i2:ixS (.ref L) (.int (0+(c:Int))) S3=some (.ref b,S3):=by
     have:atI es (c:Int)=some (.ref b):=by
      unfold atI ixN;rw[if_pos (by lia),if_pos (by lia),Zn];exact eb
     simp only[ixS,ao,ak (sm _ _ hL),Zq,z0,this]
    have i3:ixS (.ref b) (.int (j:Int)) S3=some (.int (Dw.mg2 M c j),S3):=by
     simp only[ixS,ao,ak zb2,Zq,at1 rc j _ e6]
    refine aa i1 (aa i2 (aa i3 ?_));k_is;have lj:j < (Dw.bB M (n+1) c i).length:=by rw[Dw.lV];exact hj
    have gj:=Dw.rD M (c:=c) (i:=i) hj;rw[gEG lj] at gj;rw[ea',ZL lj,ZA,Option.some.inj gj];exact⟨rfl,rfl⟩
   ·subst e3;rw[ZT (by rw[Dw.lV];exact Ze _)] at ea';subst ea';k_is;have lt:=(Dr.sm d1.pot sm).pot.lt;refine⟨sm.trans (Sm.app _ _),?_⟩;rw[Y8,ZA];exact(ra.keep (Sm.app _ _).kp).snoc (by lia) al
  ·k_is;have lt:=(Dr.sm d1.pot sm).pot.lt;have st:Dw.Mat (n+1) ((Zj (n+1)).map (Dw.bB M (n+1) c)):=Dw.Ac hm hc;exact⟨(d1.thenSm sm).thenSm (Sm.app _ _),_,_,_,_,rfl,by lia,al,ra.keep (Sm.app _ _).kp,st,Dw.Aa hm hc tr (Dw.D5 hm hc)⟩
 ·subst er;k_is;refine⟨(by rw[ak hL];rfl),?_⟩;have le:es.length=n+1:=by rw[hr.len,hm.len]
  refine dY (n+1) (λi=>(es[i]?).getD .non) (λi acc S'=>S'=S1/\acc=(M.take i).map ay) (λi acc S' hi ⟨e,_⟩=>by subst e;rw[<-le];exact j5 hL _ pH) (by lia) (λi acc S2 hi ⟨e2,ea⟩=>?_) (λes' S2 ⟨e2,ea⟩=>⟨by rw[ea,Za,Zt];lia,?_⟩) ⟨rfl,rfl⟩
  ·subst e2;have li:i < M.length:=by rw[hm.len];exact hi
   obtain⟨a,eb,na,za⟩:=hr.row i M[i] (gEG li);simp only[eb,ZQ];refine⟨_,rfl,?_⟩;k_is;have tq:av jF (.ref a) S2=some (.tup (M[i].map D.int),S2):=by simp only[av,ao,ak za,Zq,jF]
   refine aa tq ?_;refine⟨rfl,?_⟩;rw[ea,ZL li,ZA];rfl
  ·subst e2;rw[ZT (by rw[hm.len];exact Ze _)] at ea;subst ea;show Ok (some (D.tup _,S2)) _;rw[aF];exact q (n+1) M S2 d1 hm (by lia) (by lia) tr
theorem CO(h:Pot p S)(q:∀n M S',Dr p S S'->Dw.Mat n M->1<=n->n<=4->Dw.oJ n n M->Q (.tup (M.map ay)) S'):Ok (evC ae (k+2) 43 [.ref p] S) Q:=by
 refine aC (d:=iC) (ρ:=[some (.ref p),none,none,none]) rfl rfl ?_;dsimp only[iC,dc];k_is;refine⟨rfl,ax h (by decide) (by decide) λr0 S1 r1 r2 d1=>?_⟩;k_is;obtain⟨n,rfl⟩:∃n:Nat,r0=(n:Int):=⟨r0.toNat,by lia⟩;have e1:((1:Int)+n).toNat=n+1:=by lia
 refine⟨(by simp only[lim,bAE,decide_eq_true_eq];lia),?_⟩;rw[e1];refine vh (by lia) (λi acc S'=>Dr p S1 S'/\∃M:List (List Int),M.length=i/\RowsS p S' acc M/\∀r ∈ M,r.length=n+1/\∀x ∈ r,1<=x/\x<=99) (λi acc S2 hi ⟨d2,M,lM,rM,bM⟩=>⟨_,rfl,?_⟩) (λes S2 ⟨d2,M,lM,rM,bM⟩=>⟨by rw[rM.len];lia,?_⟩) ⟨Dr.refl d1.pot,[],rfl,RowsS.nil,λr hr=>by simp at hr⟩
 ·k_is;refine⟨(by simp only[lim,bAE,decide_eq_true_eq];lia),?_⟩;rw[e1];refine vh (by lia) (λj acc S'=>Dr p S2 S'/\∃r:List Int,acc=r.map D.int/\r.length=j/\∀x ∈ r,1<=x/\x<=99) (λj acc S3 hj ⟨d3,r,ea,lr,br⟩=>⟨_,rfl,?_⟩) (λes S3 ⟨d3,r,ea,lr,br⟩=>⟨by rw[ea,Za];lia,?_⟩) ⟨Dr.refl d2.pot,[],rfl,rfl,λx hx=>by simp at hx⟩
  ·k_is;refine⟨rfl,ax d3.pot (by decide) (by decide) λx S4 x1 x2 d4=>?_⟩;k_is;refine⟨d3.trans d4,r++[1+x],by rw[ea,ZA];rfl,by simp[lr],λy hy=>?_⟩;rcases ZG.mp hy with hy |hy
   ·exact br y hy
   ·simp at hy;lia
  ·subst ea;k_is;have lt:=d3.pot.lt;refine⟨(d2.trans d3).thenSm (Sm.app _ _),M++[r],by simp[lM],((rM.keep d3.kp).keep (Sm.app _ _).kp).snoc (by lia) al,λr' hr'=>?_⟩;rcases ZG.mp hr' with hr' |hr'
   ·exact bM r' hr'
   ·simp at hr';subst hr';exact⟨lr,br⟩
 ·have lt2:=d2.pot.lt;have d3:Dr p S1 (S2++[Ob.lst es]):=d2.thenSm (Sm.app _ _);have r3:RowsS p (S2++[Ob.lst es]) es M:=rM.keep (Sm.app _ _).kp;have a3:(S2++[Ob.lst es])[S2.length]?=some (Ob.lst es):=al;have m3:Dw.Mat (n+1) M:=⟨lM,λr hr=>(bM r hr).1,λr hr=>(bM r hr).2⟩;have ne3:S2.length ≠ p:=by lia
  revert a3 r3 d3;generalize S2++[Ob.lst es]=S3;intro d3 r3 a3;k_is;refine⟨rfl,ax d3.pot (by decide) (by decide) λx S4 x1 x2 d4=>?_⟩;k_is;have a4:=d4.kp _ _ ne3 a3;have r4:=r3.keep d4.kp;have d5:Dr p S S4:=(d1.trans d3).trans d4;have hlim:lim (1+(n:Int))=true:=by simp only[lim,bAE,decide_eq_true_eq];lia
  refine eK (λ_=>?_) λ_=>?_
  ·k_is;refine⟨(by rw[ak a4];rfl),?_⟩;have le:es.length=n+1:=by rw[r4.len,lM]
   refine dY (n+1) (λi=>(es[i]?).getD .non) (λi acc S'=>Dr p S4 S'/\∃M':List (List Int),M'.length=i/\RowsS p S' acc M'/\∀r ∈ M',r.length=n+1/\∀x ∈ r,1<=x/\x<=99) (λi acc S' hi ⟨dd,_⟩=>by rw[<-le];exact j5 (dd.kp _ _ ne3 a4) _ pH) (by lia) (λi acc S5 hi ⟨dd,M',lM',rM',bM'⟩=>?_) (λes' S5 ⟨dd,M',lM',rM',bM'⟩=>⟨by rw[rM'.len];lia,?_⟩) ⟨Dr.refl d4.pot,[],rfl,RowsS.nil,λr hr=>by simp at hr⟩
   ·obtain⟨r,m1,lr,_⟩:=m3.at hi hi;obtain⟨a,ea,na,za⟩:=r4.row i r m1;simp only[ea,ZQ];refine⟨_,rfl,?_⟩;k_is;have za5:=dd.kp _ _ na za;refine⟨(by rw[ak za5];rfl),?_⟩;have lm:(r.map D.int).length=n+1:=by rw[Za];exact lr
    refine dY (n+1) (λi=>((r.map D.int)[i]?).getD .non) (λj acc S'=>Dr p S5 S'/\∃r:List Int,acc=r.map D.int/\r.length=j/\∀x ∈ r,1<=x/\x<=99) (λj acc S' hj ⟨de,_⟩=>by rw[<-lm];exact j5 (de.kp _ _ na za5) _ pH) (by lia) (λj acc S6 hj ⟨de,r',ea',lr',br⟩=>⟨_,rfl,?_⟩) (λes6 S6 ⟨de,r',ea',lr',br⟩=>⟨by rw[ea',Za];lia,?_⟩) ⟨Dr.refl dd.pot,[],rfl,rfl,λx hx=>by simp at hx⟩
    ·k_is;refine⟨rfl,ax de.pot (by decide) (by decide) λy S7 y1 y2 d7=>?_⟩;k_is;refine⟨de.trans d7,r'++[99 - y],by rw[ea',ZA];rfl,by simp[lr'],λz hz=>?_⟩;rcases ZG.mp hz with hz |hz
     ·exact br z hz
     ·simp at hz;lia
    ·subst ea';k_is;have lt:=de.pot.lt;refine⟨(dd.trans de).thenSm (Sm.app _ _),M'++[r'],by simp[lM'],((rM'.keep de.kp).keep (Sm.app _ _).kp).snoc (by lia) al,λr'' hr''=>?_⟩;rcases ZG.mp hr'' with hr'' |hr''
     ·exact bM' r'' hr''
     ·simp at hr'';subst hr'';exact⟨lr',br⟩
   ·have lt:=dd.pot.lt;have d6:Dr p S4 (S5++[Ob.lst es']):=dd.thenSm (Sm.app _ _);have tail:=nJ (k:=k) (Q:=Q) (n:=n) (L:=S5.length) (es:=es') (M:=M') d6.pot al (by lia) (rM'.keep (Sm.app _ _).kp) ⟨lM',λr hr=>(bM' r hr).1,λr hr=>(bM' r hr).2⟩ (by lia) λn' M S' dd' h1 h2 h3 h4=>q n' M S' ((d5.trans d6).trans dd') h1 h2 h3 h4;dsimp only[dc,Z8] at tail;k_is;exact tail
  ·have tail:=nJ (k:=k) (Q:=Q) (n:=n) d4.pot a4 ne3 r4 m3 (by lia) λn' M S' dd' h1 h2 h3 h4=>q n' M S' (d5.trans dd') h1 h2 h3 h4;dsimp only[dc,Z8] at tail;k_is;exact tail
theorem zg(h:Pot p S)(q:∀H S',Dr p S S'->Ris (-1) H->H.length<=4->(∀z ∈ H,z.2<=9999)->Q (.tup (H.map ac)) S'):Ok (evC ae (k+2) 44 [.ref p,.int 0] S) Q:=by
 refine aC (d:=gh) (ρ:=[some (.ref p),some (.int 0),none,none,none]) rfl rfl ?_;dsimp only[gh,kA];k_is;have d0:Dr p S (S++[Ob.lst []]):=Dr.sm h (Sm.app _ _);refine⟨rfl,ax d0.pot (by decide) (by decide) λr0 S1 r1 r2 d1=>?_⟩;obtain⟨n,rfl⟩:∃n:Nat,r0=(n:Int):=⟨r0.toNat,by lia⟩;have lt:=h.lt;have a1:S1[S.length]?=some (Ob.lst []):=d1.kp _ _ (by lia) al
 have at5:atI [D.int 0,D.int 1,D.int 2,D.int 3,D.int 4] (n:Int)=some (D.int n):=by
  have:n=0\/n=1\/n=2\/n=3\/n=4:=by lia
  rcases this with rfl |rfl |rfl |rfl |rfl <;> rfl
 refine⟨_,at5,?_⟩;k_is;refine⟨(by simp only[lim,bAE,decide_eq_true_eq];lia),?_⟩;rw[Zn];refine gw (by lia) (λi ρ S'=>Kp p S S'/\Pot p S'/\∃ (es:List (Int × Int)) (b:Int) (u:Option D),ρ=[some (.ref p),some (.int 0),some (.ref S.length),some (.int b),u]/\S'[S.length]?=some (.lst (es.map ac))/\(Ris (-1) es/\∀z ∈ es,z.2<=b)/\es.length=i/\0<=b/\b<=20 * i) (λi ρ S2 hi hq1=>?_) (λρ S2 hq2=>?_) ⟨d0.kp.trans d1.kp,d1.pot,[],0,none,rfl,a1,⟨trivial,λz hz=>by cases hz⟩,rfl,by lia,by lia⟩
 ·obtain⟨k2,p2,es,b,u,er,hf,hg,le,b0,b1⟩:=hq1;subst er;refine⟨_,rfl,?_⟩;k_is;refine⟨rfl,ax p2 (by decide) (by decide) λx S3 x1 x2 d3=>?_⟩;k_is;have f3:=d3.kp _ _ (show S.length ≠ p by lia) hf;refine⟨gx f3,?_⟩;k_is;refine⟨rfl,ax d3.pot (by decide) (by decide) λy S4 y1 y2 d4=>?_⟩;k_is;have f4:=d4.kp _ _ (show S.length ≠ p by lia) f3;rw[BZ f4 (by rw[Za];lia)];k_is;have lt4:S.length < S4.length:=(Zc.mp f4).1;have f5:(S4.set S.length (Ob.lst (es.map ac++[D.tup [D.int (b+1+x),D.int (b+1+x+1+y)]])))[S.length]?=some (Ob.lst (es.map ac++[D.tup [D.int (b+1+x),D.int (b+1+x+1+y)]])):=iI lt4;refine aa (xh f5) ?_;k_is;show Ok (some (D.int (b+1+x+1+y),_)) _;rw[aF];k_is;refine⟨((k2.trans d3.kp).trans d4.kp).setNew (Ze _),d4.pot.setNe (by lia),es++[(b+1+x,b+1+x+1+y)],_,_,rfl,by rw[ZA];exact f5,⟨tD hg.1 (by lia) (λz hz=>by have:=hg.2 z hz;lia) (by lia),λz hz=>?_⟩,by simp[le],by lia,by lia⟩;rcases ZG.mp hz with hz |hz
  ·have:=hg.2 z hz;lia
  ·rw[ZO.mp hz];exact ZS _
 ·obtain⟨k2,p2,es,b,u,er,hf,hg,le,b0,b1⟩:=hq2;subst er;k_is;have tq:av jF (.ref S.length) S2=some (.tup (es.map ac),S2):=by simp only[av,ao,ak hf,Zq,jF]
  refine aa tq ?_;k_is;exact q es S2 ⟨k2,p2⟩ hg.1 (by lia) λz hz=>by have:=hg.2 z hz;lia
theorem CP(h:Pot p S)(q:∀r s M H S',Dr p S S'->MeOk r s M H->Q (meL r s M H) S'):Ok (evC ae (k+3) 45 [.ref p] S) Q:=by
 refine aC (d:=eZ) (ρ:=[some (.ref p),none]) rfl rfl ?_;dsimp only[eZ,jc];k_is;refine⟨rfl,ax h (by decide) (by decide) λr0 S1 r1 r2 d1=>?_⟩;obtain⟨n,rfl⟩:∃n:Nat,r0=(n:Int):=⟨r0.toNat,by lia⟩
 obtain⟨r,at1,hr⟩:∃r:Int,atI [D.int 2,D.int 1,D.int 3,D.int 8,D.int 0] (n:Int)=some (D.int r)/\0<=r/\r<=8:=by
  have:n=0\/n=1\/n=2\/n=3\/n=4:=by lia
  rcases this with rfl |rfl |rfl |rfl |rfl
  ·exact⟨2,rfl,by decide,by decide⟩
  ·exact⟨1,rfl,by decide,by decide⟩
  ·exact⟨3,rfl,by decide,by decide⟩
  ·exact⟨8,rfl,by decide,by decide⟩
  ·exact⟨0,rfl,by decide,by decide⟩
 refine⟨_,at1,?_⟩;k_is;refine⟨rfl,ax d1.pot (by decide) (by decide) λs0 S2 s1 s2 d2=>?_⟩;obtain⟨m,rfl⟩:∃n:Nat,s0=(n:Int):=⟨s0.toNat,by lia⟩
 obtain⟨s,at2,hs⟩:∃r:Int,atI [D.int 2,D.int 0,D.int 1,D.int 5,D.int 60] (m:Int)=some (D.int r)/\0<=r/\r<=60:=by
  have:m=0\/m=1\/m=2\/m=3\/m=4:=by lia
  rcases this with rfl |rfl |rfl |rfl |rfl
  ·exact⟨2,rfl,by decide,by decide⟩
  ·exact⟨0,rfl,by decide,by decide⟩
  ·exact⟨1,rfl,by decide,by decide⟩
  ·exact⟨5,rfl,by decide,by decide⟩
  ·exact⟨60,rfl,by decide,by decide⟩
 refine⟨_,at2,?_⟩;k_is;refine⟨rfl,CO d2.pot λn' M S3 d3 hM m1 m4 tr=>?_⟩;k_is;refine⟨rfl,zg d3.pot λH S4 d4 ri h4 hb=>?_⟩;k_is;obtain rfl:=hM.len;exact q r s M H S4 (((d1.trans d2).trans d3).trans d4) ⟨hr.1,hr.2,hs.1,hs.2,hM,m1,m4,tr,ri,h4,hb⟩
theorem CQ{r s:Int}(h:Pot p S)(me:MeOk r s M Hs)
  (q:∀ (a j f l u w:Int) S',Dr p S S'->GB M.length r s [a,j,f,l,u,w,0]->Q (ay [a,j,f,l,u,w,0]) S'):Ok (evC ae (k+2) 46 [.ref p,meL r s M Hs] S) Q:=by
 have m1:=me.m1;have m4:=me.m4;have s0:=me.s0;have s60:=me.s60;have r0:=me.r0;refine aC (d:=e8) (ρ:=[some (.ref p),some (meL r s M Hs),none,none,none,none]) rfl rfl ?_;dsimp only[e8,jd];k_is;refine⟨rfl,ax h (by decide) (by decide) λj S1 j1 j2 d1=>?_⟩;k_is;refine aa (show ixS (meL r s M Hs) (.int 1) S1=some (.int s,S1) from rfl) ?_;k_is;refine⟨rfl,ax d1.pot (by decide) (by decide) λx S2 x1 x2 d2=>?_⟩;k_is;refine⟨rfl,ax d2.pot (by decide) (by decide) λy S3 y1 y2 d3=>?_⟩;obtain⟨n,rfl⟩:∃n:Nat,y=(n:Int):=⟨y.toNat,by lia⟩
 obtain⟨e,at1,he⟩:∃e:Int,atI [D.int 0,D.int 0,D.int x] (n:Int)=some (D.int e)/\0<=e/\e<=9:=by
  have:n=0\/n=1\/n=2:=by lia
  rcases this with rfl |rfl |rfl
  ·exact⟨0,rfl,by decide,by decide⟩
  ·exact⟨0,rfl,by decide,by decide⟩
  ·exact⟨x,rfl,by lia,by lia⟩
 refine⟨_,at1,?_⟩;k_is;refine⟨rfl,ax d3.pot (by decide) (by decide) λx' S4 a1 a2 d4=>?_⟩;k_is;refine⟨rfl,ax d4.pot (by decide) (by decide) λx'' S5 b1 b2 d5=>?_⟩;k_is;refine⟨rfl,ax d5.pot (by decide) (by decide) λy' S6 c1 c2 d6=>?_⟩;obtain⟨n',rfl⟩:∃n:Nat,y'=(n:Int):=⟨y'.toNat,by lia⟩
 obtain⟨g,at2,hg⟩:∃e:Int,atI [D.int x',D.int (5+x''),D.int 60,D.int 200] (n':Int)=some (D.int e)/\0<=e/\e<=200:=by
  have:n'=0\/n'=1\/n'=2\/n'=3:=by lia
  rcases this with rfl |rfl |rfl |rfl
  ·exact⟨x',rfl,by lia,by lia⟩
  ·exact⟨5+x'',rfl,by lia,by lia⟩
  ·exact⟨60,rfl,by decide,by decide⟩
  ·exact⟨200,rfl,by decide,by decide⟩
 refine⟨_,at2,?_⟩;k_is;refine⟨rfl,ax d6.pot (by decide) (by decide) λz S7 z1 z2 d7=>?_⟩;k_is;refine⟨rfl,ax d7.pot (by decide) (by decide) λz' S8 z3 z4 d8=>?_⟩;k_is;refine⟨rfl,ax d8.pot (by decide) (by decide) λy'' S9 y3 y4 d9=>?_⟩;obtain⟨n'',rfl⟩:∃n:Nat,y''=(n:Int):=⟨y''.toNat,by lia⟩
 obtain⟨u,at3,hu⟩:∃v:Int,atI [D.int (j+s+e),D.int (j+z),D.int z'] (n'':Int)=some (D.int v)/\0<=v/\v<=300:=by
  have:n''=0\/n''=1\/n''=2:=by lia
  rcases this with rfl |rfl |rfl
  ·exact⟨j+s+e,rfl,by lia,by lia⟩
  ·exact⟨j+z,rfl,by lia,by lia⟩
  ·exact⟨z',rfl,by lia,by lia⟩
 refine⟨_,at3,?_⟩;k_is;have d10:=(((((((d1.trans d2).trans d3).trans d4).trans d5).trans d6).trans d7).trans d8).trans d9;refine aa (show ixS (meL r s M Hs) (.int 2) _=some (.tup (M.map ay),_) from rfl) ?_;refine aa (show av cq (.tup (M.map ay)) S9=some (.int M.length,S9) by simp only[av,ao,cq,Za]) ?_;k_is;refine⟨rfl,ax d9.pot (by lia) (by lia) λkd Sa ka kb da=>?_⟩;k_is;refine⟨rfl,ax da.pot (by decide) (by decide) λw Sb w1 w2 db=>?_⟩;k_is;exact q kd j (j+s+e) (j+s+e+g) u w Sb ((d10.trans da).trans db) ⟨_,_,_,_,_,_,_,rfl,by omega⟩
theorem xo{n:Nat}{ds:List D}{tg:Tg}{b:XS}{ρ:Rho}{Q:Fl->Rho->Sto->Prop}(hl:ds.length<=100000)(I:Nat->Rho->Sto->Prop)(hI:∀i ρ S',I i ρ S'->S'[n]?=some (.lst ds))
  (step:∀ (i:Nat) d ρ S',ds[i]?=some d->I i ρ S'->∃ρ1,aA tg d ρ=some ρ1/\OkS (b ρ1 S') λfl ρ2 S2=>match fl with |.nx=>I (i+1) ρ2 S2 |.ct=>I (i+1) ρ2 S2 |.bk=>Q .nx ρ2 S2 |.rt d=>Q (.rt d) ρ2 S2)
  (q:∀ρ S',I ds.length ρ S'->Q .nx ρ S') (h0:I 0 ρ S):OkS (eC (nxS n) tg b LF 0 ρ S) Q:=by
 refine jf ds.length I (by unfold LF;lia) (λi ρ S' hi iv=>?_) (λρ S' iv=>⟨?_,q ρ S' iv⟩) h0
 ·obtain⟨ρ1,e2,z⟩:=step i ds[i] ρ S' (gEG hi) iv;refine⟨ds[i],ρ1,?_,e2,z⟩;show(aq S' n).map (λds=>ds[i]?)=_;rw[ak (hI i ρ S' iv),Zq,gEG hi]
 ·show(aq S' n).map (λds'=>ds'[ds.length]?)=_;rw[ak (hI _ ρ S' iv),Zq,ZC (Ze _)]
theorem gM{n:Nat}(h:S[n]?=some (.lst ds)):av jF (.ref n) S=some (.tup ds,S):=by simp only[av,ao,ak h,Zq,jF]
theorem GU{n j:Nat}{G:List (List Int)}{g:List Int}(h:S[n]?=some (.lst (G.map ay)))(hj:j < G.length):eB (.ref n) (.int (j:Int)) (ay g) S=some (S.set n (.lst ((G.set j g).map ay))):=by
 have hix:ixN (G.map ay).length (j:Int)=some j:=by
  unfold ixN;rw[if_pos (by lia),if_pos (by rw[Za];lia),Zn]
 simp only[eB,h,hix,Zq,Wg]
theorem CT{r s:Int}{M G:List (List Int)}{Hs:List (Int × Int)}{N Ng:Nat}{is:List Int}{S0:Sto}(h:Pot p S)(k0:Ev.Kp p S0 S)(l0:S0.length<=Ng)(me:MeOk r s M Hs)(hG:S[Ng]?=some (.lst (G.map ay)))(nG:Ng ≠ p)(hN:S[N]?=some (.lst (is.map D.int)))(nN:N ≠ p)(gb:∀g ∈ G,GB M.length r s g)(h0:∀g ∈ G,g.getD 6 0=0)(l6:G.length<=6)(pm:is.Perm ((Zj G.length).map λi=>Int.ofNat i))
  (q:∀K S',Ev.Kp p S0 S'->Pot p S'->SkOk K->K.G.length<=6->Q (skE K) S') :
  rW (wSs (evC ae (k+1)) (cF ae) 56 (jT.drop 4)) [some (.ref p),some (.int 6),some (meL r s M Hs),some (.ref Ng),some (.ref N),none,none,none] S (out Q):=by
 dsimp only[jT,Z8];have m1:=me.m1;have m4:=me.m4;have r8:=me.r8;k_is;refine⟨rfl,ax h (by decide) (by decide) λx S1 x1 x2 d1=>?_⟩;obtain⟨c,rfl⟩:∃n:Nat,x=(n:Int):=⟨x.toNat,by lia⟩
 have at4:atI [D.int 0,D.int 1,D.int 2,D.int 3] (c:Int)=some (D.int c):=by
  have:c=0\/c=1\/c=2\/c=3:=by lia
  rcases this with rfl |rfl |rfl |rfl <;> rfl
 refine⟨_,at4,?_⟩;k_is;have hN1:=d1.kp _ _ nN hN;have hG1:=d1.kp _ _ nG hG;refine aa (fe hN1) ?_;k_is;rw[<-Yp];have d2:Dr p S1 (S1++[Ob.lst ((is.take c).map D.int)]):=Dr.sm d1.pot (Sm.app _ _);have hF2:(S1++[Ob.lst ((is.take c).map D.int)])[Zb S1]?=some (Ob.lst ((is.take c).map D.int)):=al;have hG2:=d2.kp _ _ nG hG1;have k2:=(k0.trans d1.kp).trans d2.kp;have lt1:=d1.pot.lt;have nF:Zb S1 ≠ p:=by lia
 have nFG:Zb S1 ≠ Ng:=by have:=(Zc.mp hG1).1;lia
 refine⟨(by rw[ak hF2];rfl),?_⟩;generalize S1++[Ob.lst ((is.take c).map D.int)]=S2 at *;generalize Zb S1=F at *;have pr:=vD pm;have pf:∀x ∈ is.take c,0<=x/\x < (G.length:Int):=λx hx=>pr.2.1 x (Z5 hx);have ndf:(is.take c).Nodup:=pr.1.sublist (XD c is);have lf:(is.take c).length<=6:=by rw[Zt];have:=pr.2.2;lia
 generalize is.take c=fx at *
 have fin:∀ (G':List (List Int)) (a:Option (Int × Int)) S3,Ev.Kp p S0 S3->Pot p S3->G'.length=G.length->(∀g ∈ G',GB M.length r s g)->(∀ (j:Nat) g,G'[j]?=some g->g.getD 6 0=0\/(j:Int) ∈ fx)->(∀z:Int × Int,a=some z->0<=z.1/\z.1 < M.length/\0<=z.2/\z.2<=9999)->Q (skE ⟨r,s,M,Hs,a,G',fx⟩) S3:=λG' a S3 k3 p3 l3 g3 r3 ha=>
  q ⟨r,s,M,Hs,a,G',fx⟩ S3 k3 p3 ⟨me,by show G'.length<=7;lia,g3,ndf,λx hx=>by show 0<=x/\x < (G'.length:Int);rw[l3];exact pf x hx,r3,ha⟩ (by show G'.length<=6;lia)
 refine xo (by rw[Za];lia) (λi ρ S'=>Ev.Kp p S0 S'/\Pot p S'/\S'[F]?=some (Ob.lst (fx.map D.int))/\∃ (G':List (List Int)) (u:Option D),ρ=[some (.ref p),some (.int 6),some (meL r s M Hs),some (.ref Ng),some (.ref N),some (.ref F),u,none]/\S'[Ng]?=some (Ob.lst (G'.map ay))/\G'.length=G.length/\(∀g ∈ G',GB M.length r s g)/\∀ (j:Nat) g,G'[j]?=some g->g.getD 6 0=0\/(j:Int) ∈ fx) (λi ρ S' iv=>iv.2.2.1) (λi d ρ S3 hd hq1=>?_) (λρ S3 hq2=>?_) ⟨k2,d2.pot,hF2,G,none,rfl,hG2,rfl,gb,λj g e=>.inl (h0 g (Zh e))⟩
 ·obtain⟨k3,p3,f3,G',u,er,g3,l3,hM3,hr3⟩:=hq1;subst er;obtain⟨x,hx,rfl⟩:=nD hd;have hxf:=Zh hx;have hxb:=pf x hxf;obtain⟨j,rfl⟩:∃n:Nat,x=(n:Int):=⟨x.toNat,by lia⟩;have hj:j < G'.length:=by lia
  refine⟨_,rfl,?_⟩;k_is;refine⟨rfl,ax p3 (by decide) (by decide) λy S4 y1 y2 d4=>?_⟩;k_is;have g4:=d4.kp _ _ nG g3;have f4:=d4.kp _ _ nF f3;have k4:=k3.trans d4.kp;have mt:∀S,ixS (meL r s M Hs) (.int 0) S=some (.int r,S):=λS=>rfl;cases ey:decide (y=0) with
  |false=>k_is;exact⟨k4,d4.pot,f4,G',_,rfl,g4,l3,hM3,hr3⟩
  |true=>
   k_is;refine aa (mt S4) ?_;k_is;cases er0:decide (0 < r) with
   |false=>k_is;exact⟨k4,d4.pot,f4,G',_,rfl,g4,l3,hM3,hr3⟩
   |true=>
    have hr0:=of_decide_eq_true er0;k_is;obtain⟨a1,a2,a3,a4,a5,a6,a7,eg,hb⟩:=hM3 G'[j] (Zy hj);refine aa (cg g4 (by lia) (show(G'.map ay)[((j:Nat):Int).toNat]?=some (ay G'[j]) by rw[Zn,Zm,gEG hj];rfl)) ?_;rw[eg,show ay [a1,a2,a3,a4,a5,a6,a7]=D.tup [.int a1,.int a2,.int a3,.int a4,.int a5,.int a6,.int a7] from rfl];k_is;rw[show gP [D.int a1,.int a2,.int a3,.int a4,.int a5,.int a6,.int a7] none (some 6)=[.int a1,.int a2,.int a3,.int a4,.int a5,.int a6] from rfl];refine aa (mt S4) ?_;refine⟨rfl,ax d4.pot hr0 (by lia) λz S5 z1 z2 d5=>?_⟩;k_is;have g5:=d5.kp _ _ nG g4;have f5:=d5.kp _ _ nF f4;have lt5:Ng < S5.length:=(Zc.mp g5).1;refine⟨by show 7<=1000;decide,?_⟩;refine⟨_,GU (g:=[a1,a2,a3,a4,a5,a6,1+z]) g5 hj,?_⟩;k_is;refine⟨(k4.trans d5.kp).setNew l0,d5.pot.setNe nG,by rw[ZN (Ne.symm nFG)];exact f5,G'.set j [a1,a2,a3,a4,a5,a6,1+z],_,rfl,iI lt5,by rw[Yh];exact l3,λg hg=>?_,λj' g e=>?_⟩
    ·rcases YW hg with hg |rfl
     ·exact hM3 g hg
     ·exact⟨_,_,_,_,_,_,_,rfl,by omega⟩
    ·by_cases hjj:j'=j
     ·subst hjj;exact .inr hxf
     ·rw[ZN (Ne.symm hjj)] at e;exact hr3 j' g e
 ·obtain⟨k3,p3,f3,G',u,er,g3,l3,hM3,hr3⟩:=hq2;subst er;k_is;refine⟨rfl,ax p3 (by decide) (by decide) λy S4 y1 y2 d4=>?_⟩;k_is;have g4:=d4.kp _ _ nG g3;have f4:=d4.kp _ _ nF f3;refine eK (λ_=>?_) λ_=>?_
  ·k_is;refine aa (show ixS (meL r s M Hs) (.int 2) S4=some (.tup (M.map ay),S4) from rfl) (aa bp ?_);k_is;refine⟨rfl,ax d4.pot (by lia) (by lia) λa S5 a1 a2 d5=>?_⟩;k_is;refine⟨rfl,ax d5.pot (by decide) (by decide) λb S6 b1 b2 d6=>?_⟩;k_is;have g6:=(d5.trans d6).kp _ _ nG g4;have f6:=(d5.trans d6).kp _ _ nF f4;refine aa (gM g6) (aa (gM f6) ?_);k_is;exact fin G' (some (a,b)) S6 ((k3.trans d4.kp).trans (d5.trans d6).kp) d6.pot l3 hM3 hr3 λz e=>by cases e;exact⟨a1,a2,b1,by lia⟩
  ·k_is;refine aa (gM g4) (aa (gM f4) ?_);k_is;exact fin G' none S4 (k3.trans d4.kp) d4.pot l3 hM3 hr3 λz e=>by cases e
theorem GV(h:Pot p S)(q:∀K S',Dr p S S'->SkOk K->K.G.length<=6->Q (skE K) S'):Ok (evC ae (k+4) 48 [.ref p,.int 6] S) Q:=by
 refine aC (d:=jZ) (ρ:=[some (.ref p),some (.int 6),none,none,none,none,none,none]) rfl rfl ?_;have tail:=@CT p;dsimp only[jZ];dsimp only[jT,Z8] at tail ⊢;k_is;refine⟨rfl,CP h λr s M Hs S1 d1 me=>?_⟩;k_is;refine⟨rfl,ax d1.pot (by decide) (by decide) λx S2 x1 x2 d2=>?_⟩;obtain⟨n,rfl⟩:∃n:Nat,x=(n:Int):=⟨x.toNat,by lia⟩;k_is;refine⟨fg (by lia) (by lia),?_⟩;rw[Zn];refine vh (by lia) (λi acc S'=>Dr p S2 S'/\∃G:List (List Int),acc=G.map ay/\G.length=i/\∀g ∈ G,GB M.length r s g/\g.getD 6 0=0) (λi acc S3 hi ⟨d3,G,ea,lG,hG⟩=>⟨_,rfl,?_⟩) (λes S3 ⟨d3,G,ea,lG,hG⟩=>⟨by rw[ea,Za];lia,?_⟩) ⟨Dr.refl d2.pot,[],rfl,rfl,λg hg=>by cases hg⟩
 ·k_is;refine⟨rfl,CQ (k:=k+1) d3.pot me λa j f l u w S4 d4 hg=>?_⟩;refine⟨d3.trans d4,G++[[a,j,f,l,u,w,0]],by rw[ea,ZA];rfl,by simp[lG],λg hg'=>?_⟩;rcases ZG.mp hg' with hg' |hg'
  ·exact hG g hg'
  ·rw[ZO.mp hg'];exact⟨hg,rfl⟩
 ·subst ea;have lt3:=d3.pot.lt;have k3:=(d1.trans d2).trans d3;have lS:S.length<=Zb S3:=Kp.len k3.kp lt3;k_is;have d4:Dr p S3 (S3++[Ob.lst (G.map ay)]):=Dr.sm d3.pot (Sm.app _ _);have g4:(S3++[Ob.lst (G.map ay)])[Zb S3]?=some (Ob.lst (G.map ay)):=al;refine aa (dE g4) ?_;k_is;rw[Za];refine⟨_,rfl,by lia,?_⟩;k_is;have nG:Zb S3 ≠ p:=by lia
  have lG4:Zb S3 < Zb (S3++[Ob.lst (G.map ay)]):=by simp
  generalize S3++[Ob.lst (G.map ay)]=S4 at *;have d5:Dr p S4 (S4++[Ob.lst ((Zj G.length).map λj=>D.int (Int.ofNat j))]):=Dr.sm d4.pot (Sm.app _ _);have n5:(S4++[Ob.lst ((Zj G.length).map λj=>D.int (Int.ofNat j))])[Zb S4]?=some (Ob.lst (((Zj G.length).map λj=>Int.ofNat j).map D.int)):=by rw[ZX];exact al
  have g5:=d5.kp _ _ nG g4;have nN:Zb S4 ≠ p:=by lia
  generalize S4++[Ob.lst ((Zj G.length).map λj=>D.int (Int.ofNat j))]=S5 at *;generalize Zb S3=Ng at *;generalize Zb S4=N at *;have k5:=(k3.trans d4).trans d5;refine⟨rfl,ax d5.pot (by decide) (by decide) λy S6 y1 y2 d6=>?_⟩;k_is;have n6:=d6.kp _ _ nN n5;have g6:=d6.kp _ _ nG g5;have k6:=k5.trans d6;refine eK (λ_=>?_) λ_=>?_
  ·k_is;refine⟨by rw[ak g6];rfl,?_⟩;refine dY G.length (λi=>.tup [.int i,((G.map ay)[i]?).getD .non]) (λi acc S'=>S'=S6/\acc=((G.take i).zipIdx.map λz=>ac (z.1.getD 2 0,(z.2:Int)))) (λi acc S' hi ⟨e,_⟩=>by subst e;rw[<-Za (f:=ay)];exact xc (i:=i) g6 (by rw[Za];lia) (λj=>.tup [.int j,((G.map ay)[j]?).getD .non]) λj d hd=>by show D.tup [.int j,((G.map ay)[j]?).getD .non]=_;rw[hd];rfl) (by lia) (λi acc S7 hi ⟨e7,ea⟩=>?_) (λes S7 ⟨e7,ea⟩=>⟨by rw[ea,Za,YU,Zt];lia,?_⟩) ⟨rfl,rfl⟩
   ·subst e7;obtain⟨a1,a2,a3,a4,a5,a6,a7,eg,_⟩:=(hG G[i] (Zy hi)).1;have ez:((G.map ay)[i]?).getD .non=ay [a1,a2,a3,a4,a5,a6,a7]:=by rw[Zm,gEG hi,eg];rfl
    rw[ez];refine⟨_,bT (by simp) (by simp),?_⟩;k_is;refine aa (show ixS (ay [a1,a2,a3,a4,a5,a6,a7]) (.int 2) S7=some (.int a3,S7) from rfl) ?_;k_is;refine⟨rfl,?_⟩;rw[ea,ZL hi,List.zipIdx_append,ZA,Zt,Xa (by lia),eg];show _=_++[ac (a3,((0+i:Nat):Int))];rw[We];rfl
   ·subst e7;rw[ZT (Ze _)] at ea;have ep:(G.zipIdx.map λz=>ac (z.1.getD 2 0,(z.2:Int)))=(G.zipIdx.map λz=>(z.1.getD 2 0,(z.2:Int))).map ac:=by rw[ZX];rfl
    rw[ep] at ea;subst ea;obtain⟨qs,es,pq⟩:=zd (ps:=G.zipIdx.map λz=>(z.1.getD 2 0,(z.2:Int))) (by rw[Za,YU];lia);refine⟨_,es,?_⟩;have lq:qs.length<=6:=by rw[pq.length_eq,Za,YU];lia
    refine a9 qs ac (λz=>[D.int z.2]) (by lia) (λ_ _=>Ze _) bU (λi z S' hz sm=>⟨_,rfl,?_⟩) λS8 s8=>?_
    ·k_is;refine aa (show ixS (ac z) (.int 1) S'=some (.int z.2,S') from rfl) ?_;show 6
    ·rw[aU];k_is;have e7:(qs.map λz=>D.int z.2)=(qs.map (·.2)).map D.int:=by rw[ZX];rfl
     have pm7:(qs.map (·.2)).Perm ((Zj G.length).map λi=>Int.ofNat i):=by
      refine(pq.map (·.2)).trans ?_;rw[ZX];have:((·.2) ∘ λz:List Int × Nat=>(z.1.getD 2 0,(z.2:Int)))=(λi:Nat=>Int.ofNat i) ∘ Prod.snd:=rfl;rw[this,<-ZX,List.zipIdx_map_snd,List.range_eq_range']
     have d8:Dr p S7 (S8++[Ob.lst (qs.map λz=>D.int z.2)]):=Dr.sm d6.pot (s8.trans (Sm.app _ _));have lt8:Zb S7<=Zb S8:=Kp.len s8.kp (Dr.sm d6.pot s8).pot.lt;have l7:p < Zb S7:=d6.pot.lt;exact tail (k:=k+2) d8.pot (k6.trans d8).kp lS me (d8.kp _ _ nG g6) nG (by rw[<-e7];exact al) (by lia) (λg hg=>(hG g hg).1) (λg hg=>(hG g hg).2) (by lia) pm7 λK S' k' p' sk l'=>q K S' ⟨k',p'⟩ sk l'
  ·k_is;refine⟨rfl,pJ (k:=k+1) d6.pot n6 nN (by rw[Za,ZK];lia) λis S7 d7 pm=>?_⟩;k_is;have d8:Dr p S6 (S7++[Ob.lst (is.map D.int)]):=d7.thenSm (Sm.app _ _);have l7:=d7.pot.lt;exact tail (k:=k+2) d8.pot (k6.trans d8).kp lS me (d8.kp _ _ nG g6) nG al (by lia) (λg hg=>(hG g hg).1) (λg hg=>(hG g hg).2) (by lia) pm λK S' k' p' sk l'=>q K S' ⟨k',p'⟩ sk l'
abbrev pL(H:List (Int × Int))(m:Int):Bool:=H.any λz=>decide (z.1<=m) && decide (m < z.2)
abbrev vI(K:Sky)(A:List (Int × Int))(z:Int × Int):Option Str:=
 bif decide (z.2 < gi K.G z.1 2) then some "soon" else bif decide (gi K.G z.1 3 < z.2) then some "late" else bif pL K.H z.2 then some "shut" else bif decide (z.2 < y7 K (fC K A) (gi K.G z.1 0)) then some "gap" else none
abbrev bX(K:Sky)(A:List (Int × Int))(j:Nat)(z:Int × Int):Option Str:=
 bif decide (0<=z.1) && decide (z.1 < (K.G.length:Int)) then (bif decide (z.1 ∈ A.map (·.1)) then some "twice" else bif (K.F[j]?).any (λf=>!decide (z.1=f)) then some "order" else vI K A z) else some "none"
abbrev jj(K:Sky)(L:List (Int × Int))(j:Nat):Option D:=(L[j]?).bind λz=>(bX K (L.take j) j z).map λw=>.tup [.str w,.int z.1]
abbrev jk(K:Sky)(L:List (Int × Int))(j:Nat):Option D:=(L[j]?).bind λz=>bif fB K (L.take j) z.1 z.2 then some (.int z.1) else none
abbrev amF(K:Sky)(L:List (Int × Int)):D:=match (Zj L.length).findSome? (jj K L) with
 |some d=>d
 |none=>match (Zj K.G.length).find? λ(g:Nat)=>!decide ((g:Int) ∈ L.map (·.1)) with
  |some g=>.tup [.str "lacks", .int g]
  |none=>match (js K).find? λt=>decide (K.r < (wts K L t:Int)) with
   |some t=>.tup [.str "rings", .int t]
   |none=>match (Zj L.length).findSome? (jk K L) with
    |some d=>.tup [.str "ring", d]
    |none=>.non
theorem Ii{α β:Type}{f:α->Option β}:∀ {l:List α} {i:Nat} {a:α} {b:β},l[i]?=some a->f a=some b->(∀ (j:Nat) x,j < i->l[j]?=some x->f x=none)->l.findSome? f=some b
 |x::l,0,a,b,h,hp,_=>by cases h;rw[Xr,hp]
 |x::l,i+1,a,b,h,hp,ih=>by
  rw[Xr,ih 0 x (by lia) rfl];exact Ii (i:=i) (by simpa using h) hp λj y hj hy=>ih (j+1) y (by lia) (by simpa using hy)
theorem Qx{α β:Type}{f:α->Option β}{l:List α}(h:∀x ∈ l,f x=none):l.findSome? f=none:=YV.mpr h
theorem CU{α:Type}{f:α->Bool}:∀ {l:List α} {i:Nat} {a:α},l[i]?=some a->f a=true->(∀ (j:Nat) x,j < i->l[j]?=some x->f x=false)->l.find? f=some a
 |x::l,0,a,h,hp,_=>by cases h;rw[X4,hp]
 |x::l,i+1,a,h,hp,ih=>by
  rw[X4,ih 0 x (by lia) rfl];exact CU (i:=i) (by simpa using h) hp λj y hj hy=>ih (j+1) y (by lia) (by simpa using hy)
theorem CV{α:Type}{f:α->Bool}{l:List α}(h:∀x ∈ l,f x=false):l.find? f=none:=Xz.mpr λx hx=>by rw[h x hx];exact Zd
theorem Ij{n j x:Nat}(h:(Zj n)[j]?=some x):x=j/\j < n:=by
 obtain⟨h1,h2⟩:=Zc.mp h;rw[XB] at h2;rw[ZK] at h1;exact⟨h2.symm,h1⟩
theorem Ik{n j:Nat}(h:j < n):(Zj n)[j]?=some j:=by rw[gEG (by rw[ZK];exact h),XB]
theorem qS{β:Type}{f:Nat->Option β}{n i:Nat}{b:β}(hi:i < n)(h:f i=some b)(ih:∀j,j < i->f j=none):(Zj n).findSome? f=some b:=Ii (Ik hi) h λj x hj hx=>by rw[(Ij hx).1];exact ih j hj
theorem qT{β:Type}{f:Nat->Option β}{n:Nat}(ih:∀j,j < n->f j=none):(Zj n).findSome? f=none:=Qx λx hx=>ih x (Z6.mp hx)
theorem xq{j:Nat}(h:bX K A j z=none):0<=z.1/\z.1 < K.G.length:=by
 unfold bX at h;cases c:decide (0<=z.1) && decide (z.1 < (K.G.length:Int)) with
 |false=>rw[c] at h;cases h
 |true=>rw[bAE,decide_eq_true_eq,decide_eq_true_eq] at c;exact c
theorem CW{j:Nat}(h:bX K A j z=none):gi K.G z.1 2<=z.2/\z.2<=gi K.G z.1 3:=by
 unfold bX at h;cases c:decide (0<=z.1) && decide (z.1 < (K.G.length:Int)) with
 |false=>rw[c] at h;cases h
 |true=>
  rw[c,cond_true] at h;cases c1:decide (z.1 ∈ A.map (·.1)) with
  |true=>rw[c1] at h;cases h
  |false=>
   rw[c1,cond_false] at h;cases c2:(K.F[j]?).any (λf=>!decide (z.1=f)) with
   |true=>rw[c2] at h;cases h
   |false=>
    rw[c2,cond_false] at h;unfold vI at h;cases c3:decide (z.2 < gi K.G z.1 2) with
    |true=>rw[c3] at h;cases h
    |false=>
     rw[c3,cond_false] at h;cases c4:decide (gi K.G z.1 3 < z.2) with
     |true=>rw[c4] at h;cases h
     |false=>
      have:=of_decide_eq_false c3;have:=of_decide_eq_false c4
      lia
theorem M2{A:List (Int × Int)}{z:Int × Int}:fB K A z.1 z.2=true ↔ 0 < gi K.G z.1 6/\∃t,jn K z.1<=t/\t < z.2 - K.s/\gi K.G z.1 6 < 1+(wts K A t:Int):=by
 unfold fB;rw[bAE,decide_eq_true_eq,decide_eq_true_eq];constructor
 ·rintro⟨h0,h⟩;refine⟨h0,?_⟩;unfold vA at h;have ne:(eM K A z.1 z.2).map (λt=>1+(wts K A t:Int)) ≠ []:=λe=>by rw[e] at h;exact absurd h (by show ¬ gi K.G z.1 6 < 0;lia)
  rw[nz ne] at h;obtain⟨t,ht,e⟩:=ZH.mp (qN ne);rw[<-e] at h;unfold eM at ht;have h2:=(Z0.mp ht).2;simp only[bAE,decide_eq_true_eq] at h2;exact⟨t,h2.1,h2.2,h⟩
 ·rintro⟨h0,t,h1,h2,h3⟩;refine⟨h0,?_⟩;obtain⟨u,a1,a2,a3,a4⟩:=qP (K:=K) h1 A
  have hu:u ∈ eM K A z.1 z.2:=by
   unfold eM;refine Z0.mpr ⟨?_,by simp only[bAE,decide_eq_true_eq];lia⟩;rcases a1 with rfl |⟨q,hq,rfl⟩
   ·exact Zg
   ·exact Zf _ (ZH.mpr ⟨q,hq,rfl⟩)
  have hw:wts K A t<=wts K A u:=lb λq hq hw=>by
   have a:=a4 q hq hw;simp only[aB,bAE,decide_eq_true_eq] at hw ⊢
   lia
  unfold vA;have hm:1+(wts K A u:Int) ∈ (eM K A z.1 z.2).map (λt=>1+(wts K A t:Int)):=ZH.mpr ⟨u,hu,rfl⟩;rw[nz (λz=>by rw[z] at hm;cases hm)];have:=qO hm
  lia
theorem CY(hL:InG K L)(r0:0<=K.r){t:Int}(h:K.r < (wts K L t:Int)):∃u ∈ js K,u<=t/\K.r < (wts K L u:Int):=by
 cases hw:L.filter (aB K t) with
 |nil=>unfold wts at h;rw[hw] at h;exact absurd h (by show ¬ K.r < ((0:Nat):Int);lia)
 |cons q r=>
  have hq:=Z0.mp (by rw[hw];exact Zg:q ∈ L.filter (aB K t));have hq2:=hq.2;simp only[aB,bAE,decide_eq_true_eq] at hq2;obtain⟨u,a1,a2,a3,a4⟩:=qP (K:=K) hq2.1 L
  have hu:u ∈ js K:=by
   rcases a1 with rfl |⟨q',hq',rfl⟩
   ·exact vB (hL q hq.1).1 (hL q hq.1).2
   ·exact vB (hL q' hq').1 (hL q' hq').2
  have hle:wts K L t<=wts K L u:=lb λq hq hw=>by
   have a:=a4 q hq hw;simp only[aB,bAE,decide_eq_true_eq] at hw ⊢
   lia
  exact⟨u,hu,a3,by lia⟩
theorem CZ(hL:InG K L)(r0:0<=K.r)(j0:∀u ∈ js K,0<=u){i:Nat}(h:K.r < (wts K L i:Int))(ih:∀t:Nat,t < i->(wts K L t:Int)<=K.r):(js K).find? (λt=>decide (K.r < (wts K L t:Int)))=some (i:Int):=by
 have low:∀u ∈ js K,K.r < (wts K L u:Int)->(i:Int)<=u:=λu hu hw=>Int.not_lt.mp λhlt=>by
  have h0:=j0 u hu;have:=ih u.toNat (by lia);rw[show((u.toNat:Nat):Int)=u by lia] at this
  lia
 obtain⟨u,hu,hle,hw⟩:=CY hL r0 h;have e:u=(i:Int):=by have:=low u hu hw;lia
 subst e;cases hf:(js K).find? (λt=>decide (K.r < (wts K L t:Int))) with
 |none=>exact absurd (Xz.mp hf _ hu) (λx=>x (decide_eq_true hw))
 |some v=>
  obtain⟨hv,as,bs,ej,hb⟩:=List.find?_eq_some_iff_append.mp hf;have sr:=eS (K.G.map λg=>g.getD 1 0);rw[show fN (K.G.map λg=>g.getD 1 0)=js K from rfl,ej] at sr;have h1:=low v (by rw[ej];exact Zz _ Zg) (of_decide_eq_true hv);have hu':=hu;rw[ej] at hu';rcases ZG.mp hu' with x |x
  ·have:=hb _ x;rw[decide_eq_true hw] at this;cases this
  ·rcases Zk.mp x with x |x
   ·rw[x]
   ·have:=(Yl.mp (List.pairwise_append.mp sr).2.1).1 _ x;rw[X3 this h1]
theorem GW{α:Type}(l:List α)(g:α->Bool)(S:Sto):nZ false (l.map λt=>D.bl (g t)) S=some (.bl (l.any g),S):=by
 unfold nZ;rw[if_pos ⟨rfl,by rw[Yy,ZJ];intro x _;rfl⟩,XG];rfl
theorem GX(hl:K.H.length<=4){m:Int}(q:∀S',Sm S S'->Q (.bl (pL K.H m)) S'):Ok (evC ae (k+1) 12 [meE K,.int m] S) Q:=by
 refine aC (d:=jV) (ρ:=[some (meE K),some (.int m)]) rfl rfl ?_;dsimp only[jV,pc];k_is;refine aa me3 ?_;k_is;refine a9 K.H ac (λz=>[.bl (decide (z.1<=m) && decide (m < z.2))]) (by lia) (λ_ _=>Ze _) bU (λi z S' hz sm=>⟨_,show aA (.tup [.name 2,.name 3]) (.tup [.int z.1,.int z.2]) _=_ from bT (by simp) (by simp),?_⟩) λS1 s1=>?_
 ·k_is;cases decide (z.1<=m) with
  |true=>k_is;show 6
  |false=>k_is;show 6
 ·rw[aU];refine aa (GW _ _ _) ?_;k_is;exact q S1 s1
abbrev zh:Option Str->D
 |none=>.non
 |some w=>.str w
theorem C0(V:Vd K){L:List (Int × Int)}{n j:Nat}{z:Int × Int}(hn:S[n]?=some (.lst (L.map ac)))(hz:L[j]?=some z)(hL:InG K (L.take j))(z0:0<=z.1)(z1:z.1 < K.G.length)(q:∀S',Sm S S'->Q (zh (vI K (L.take j) z)) S'):Ok (evC ae (k+2) 29 [skE K,.ref n,.int j] S) Q:=by
 refine aC (d:=df) (ρ:=[some (skE K),some (.ref n),some (.int j),none,none,none,none,none,none,none,none,none,none,none,none,none]) rfl rfl ?_;dsimp only[df,fV];obtain⟨a0,b,c,d,e,f,h,eg,e0,e1,e2,e3,e6,k0,k1,c0⟩:=gl7 V z0 z1;have no:∀ (w:Option Str) S',Sm S S'->vI K (L.take j) z=w->Q (zh w) S':=λw S' s' nk=>by rw[<-nk];exact q S' s'
 rw[show skE K = .tup [meE K,ahE K.ah,.tup (K.G.map ay),.tup (K.F.map D.int)] from rfl];unfold vI at no;rw[e0,e2,e3] at no;k_is;refine aa (cg hn (by lia) (show(L.map ac)[((j:Nat):Int).toNat]?=some (ac z) by rw[Zn,Zm,hz];rfl)) ?_;rw[show ac z = .tup [.int z.1,.int z.2] from rfl];k_is;refine aa (dh z0 eg) ?_;rw[show ay [a0,b,c,d,e,f,h] = .tup [.int a0,.int b,.int c,.int d,.int e,.int f,.int h] from rfl];k_is;cases c1:decide (z.2 < c) with
 |true=>rw[c1] at no;k_is;exact no _ S (Sm.refl _) rfl
 |false=>
 rw[c1] at no;k_is;cases c2:decide (d < z.2) with
 |true=>rw[c2] at no;k_is;exact no _ S (Sm.refl _) rfl
 |false=>
 rw[c2] at no;k_is;refine⟨rfl,GX V.h4 λS1 s1=>?_⟩;k_is;cases c3:pL K.H z.2 with
 |true=>rw[c3] at no;k_is;exact no _ S1 s1 rfl
 |false=>
 rw[c3] at no;k_is;rw[show D.tup [meE K,ahE K.ah,.tup (K.G.map ay),.tup (K.F.map D.int)]=skE K from rfl];refine aa (fe (s1 _ _ hn)) ?_;have s2:Sm S1 (S1++[Ob.lst ((L.map ac).take j)]):=Sm.app _ _;have a2:(S1++[Ob.lst ((L.map ac).take j)])[Zb S1]?=some (Ob.lst ((L.take j).map ac)):=by rw[al,Yp]
 generalize Zb S1=N at *;generalize S1++[Ob.lst ((L.map ac).take j)]=S2 at *;refine⟨rfl,Cw V a2 hL ?_⟩;refine⟨rfl,GL V (tz V hL) k0 k1 ?_⟩;k_is;cases c4:decide (z.2 < y7 K (fC K (L.take j)) a0) with
 |true=>rw[c4] at no;k_is;exact no _ S2 (s1.trans s2) rfl
 |false=>rw[c4] at no;k_is;exact no _ S2 (s1.trans s2) rfl
theorem nK(neg:Bool){n:Nat}{is:List Int}(h:S[n]?=some (.lst (is.map D.int)))(i:Int):inS neg (.int i) (.ref n) S=some (.bl (neg != decide (i ∈ is)),S):=by
 have:=qG neg is i S;unfold inS at this ⊢;have e:ao (.ref n) S=some (false,is.map D.int):=by simp only[ao,ak h,Zq]
 rw[e];exact this
theorem C1{n:Nat}{ds:List D}{tg:Tg}{b:XS}{ρ:Rho}{Q:Fl->Rho->Sto->Prop}(hl:ds.length<=100000)(I:Nat->Rho->Sto->Prop)(hI:∀i ρ S',I i ρ S'->S'[n]?=some (.lst ds))
  (step:∀ (i:Nat) d ρ S',ds[i]?=some d->I i ρ S'->∃ρ1,aA tg (.tup [.int i,d]) ρ=some ρ1/\OkS (b ρ1 S') λfl ρ2 S2=>match fl with |.nx=>I (i+1) ρ2 S2 |.ct=>I (i+1) ρ2 S2 |.bk=>Q .nx ρ2 S2 |.rt d=>Q (.rt d) ρ2 S2)
  (q:∀ρ S',I ds.length ρ S'->Q .nx ρ S') (h0:I 0 ρ S):OkS (eC (yx n) tg b LF 0 ρ S) Q:=by
 refine jf ds.length I (by unfold LF;lia) (λi ρ S' hi iv=>?_) (λρ S' iv=>⟨?_,q ρ S' iv⟩) h0
 ·obtain⟨ρ1,e2,z⟩:=step i ds[i] ρ S' (gEG hi) iv;refine⟨.tup [.int i,ds[i]],ρ1,?_,e2,z⟩;show(aq S' n).bind (λds=>enm ds i)=_;rw[ak (hI i ρ S' iv)];show enm ds i=_;unfold enm;rw[if_pos (by lia),gEG hi];rfl
 ·show(aq S' n).bind (λds'=>enm ds' ds.length)=_;rw[ak (hI _ ρ S' iv)];show enm ds ds.length=_;unfold enm;rw[if_pos (Ze _),ZC (Ze _)];rfl
theorem nP{L:List (Int × Int)}{j:Nat}{z:Int × Int}(hz:L[j]?=some z):(L.map ac)[((j:Nat):Int).toNat]?=some (ac z):=by rw[Zn,Zm,hz];rfl
theorem bx:az .isnot d .non S=some (.bl (!bu d),S):=by
 show isB true d .non S=_;unfold isB;cases d <;> rfl
theorem j9:az .is d .non S=some (.bl (bu d),S):=by
 show isB false d .non S=_;unfold isB;cases d <;> rfl
abbrev M3:Option Nat->D
 |none=>.non
 |some g=>.int g
abbrev M4:Option Int->D
 |none=>.non
 |some g=>.int g
theorem C2{j:Nat}(hz:L[j]?=some z)(h:jj K L j=none):bX K (L.take j) j z=none:=by
 unfold jj at h;rw[hz,Yt,Option.map_eq_none_iff] at h;exact h
theorem GY{j:Nat}(h:jk K L j=some d):∃g,d = .int g:=by
 unfold jk at h;cases hz:L[j]? with
 |none=>rw[hz] at h;cases h
 |some z=>
  rw[hz,Yt] at h;cases c:fB K (L.take j) z.1 z.2 with
  |false=>rw[c] at h;cases h
  |true=>rw[c] at h;cases h;exact⟨_,rfl⟩
theorem jl{L:List (Int × Int)}:(L.map λz=>D.int z.1)=(L.map (·.1)).map D.int:=by rw[ZX];rfl
theorem GZ(V:Vd K){L:List (Int × Int)}{n j:Nat}{z:Int × Int}(hn:S[n]?=some (.lst (L.map ac)))(hl:L.length<=20)(hz:L[j]?=some z)(hL:InG K (L.take j))(q:∀S',Sm S S'->Q (zh (bX K (L.take j) j z)) S'):Ok (evC ae (k+3) 28 [skE K,.ref n,.int j] S) Q:=by
 refine aC (d:=cJ) (ρ:=[some (skE K),some (.ref n),some (.int j),none,none,none,none,none]) rfl rfl ?_;dsimp only[cJ,fo];have no:∀ (w:Option Str) S',Sm S S'->bX K (L.take j) j z=w->Q (zh w) S':=λw S' s' nk=>by rw[<-nk];exact q S' s'
 unfold bX at no;rw[show skE K = .tup [meE K,ahE K.ah,.tup (K.G.map ay),.tup (K.F.map D.int)] from rfl];k_is;refine aa (cg hn (by lia) (nP hz)) (aa (show ixS (ac z) (.int 0) S=some (.int z.1,S) from rfl) ?_);k_is;cases c1:decide (0<=z.1) with
 |false=>rw[c1] at no;k_is;exact no _ S (Sm.refl _) rfl
 |true=>
 rw[c1] at no;k_is;refine aa bp ?_;k_is;cases c2:decide (z.1 < (K.G.length:Int)) with
 |false=>rw[c2] at no;k_is;exact no _ S (Sm.refl _) rfl
 |true=>
 rw[c2] at no;k_is;refine aa (fe hn) ?_;have s1:Sm S (S++[Ob.lst ((L.map ac).take j)]):=Sm.app _ _;have a1:(S++[Ob.lst ((L.map ac).take j)])[Zb S]?=some (Ob.lst ((L.take j).map ac)):=by rw[al,Yp]
 generalize Zb S=N at *;generalize S++[Ob.lst ((L.map ac).take j)]=S1 at *;k_is;refine⟨by rw[ak a1];rfl,?_⟩;have lt:(L.take j).length<=20:=by rw[Zt];lia
 refine a9 (L.take j) ac (λz=>[.int z.1]) (by lia) (λ_ _=>Ze _) (ce a1) (λi y S' hy sm=>⟨_,show aA (.tup [.name 8,.name 9]) (.tup [.int y.1,.int y.2]) _=_ from bT (by simp) (by simp),?_⟩) λS2 s2=>?_
 ·k_is;show 6
 ·rw[aU,jl];k_is;have s3:Sm S2 (S2++[Ob.lst (((L.take j).map (·.1)).map D.int)]):=Sm.app _ _;refine aa (show az .isin (.int z.1) (.ref (Zb S2)) (S2++[Ob.lst (((L.take j).map (·.1)).map D.int)])=some (.bl (false != decide (z.1 ∈ (L.take j).map (·.1))),_) from nK false al z.1) ?_;have sA:=(s1.trans s2).trans s3;generalize S2++[Ob.lst (((L.take j).map (·.1)).map D.int)]=S3 at *;k_is;cases c3:decide (z.1 ∈ (L.take j).map (·.1)) with
  |true=>rw[c3] at no;k_is;exact no _ S3 sA rfl
  |false=>
  rw[c3] at no;k_is
  have rest:(K.F[j]?).any (λf=>!decide (z.1=f))=false->Ok (evC ae (k+2) 29 [skE K,.ref n,.int j] S3) Q:=λhf=>
   C0 V (sA _ _ hn) hz hL (of_decide_eq_true c1) (of_decide_eq_true c2) λS4 s4=>no _ S4 (sA.trans s4) (by rw[hf];rfl)
  refine aa bp ?_;k_is;by_cases hj:j < K.F.length
  ·rw[decide_eq_true (show(j:Int) < K.F.length by lia)];k_is;refine aa (nB (ds:=K.F.map D.int) (i:=(j:Int)) (d:=.int K.F[j]) (by lia) (by rw[Zn,Zm,gEG hj];rfl)) ?_;k_is;cases c4:decide (z.1=K.F[j]) with
   |false=>k_is;exact no (some "order") S3 sA (by rw[gEG hj,Xb,c4];rfl)
   |true=>k_is;exact⟨rfl,rest (by rw[gEG hj,Xb,c4];rfl)⟩
  ·rw[decide_eq_false (show ¬ (j:Int) < K.F.length by lia)];k_is;exact⟨rfl,rest (by rw[ZC (by lia)];rfl)⟩
theorem G0(V:Vd K){L:List (Int × Int)}{n:Nat}(hn:S[n]?=some (.lst (L.map ac)))(hl:L.length<=20)(q:∀S',Sm S S'->Q (M3 ((Zj K.G.length).find? λ(g:Nat)=>!decide ((g:Int) ∈ L.map (·.1)))) S'):Ok (evC ae (k+1) 32 [skE K,.ref n] S) Q:=by
 refine aC (d:=cL) (ρ:=[some (skE K),some (.ref n),none,none]) rfl rfl ?_;dsimp only[cL,ft];have g7:=V.g7;k_is;refine⟨by rw[ak hn];rfl,?_⟩;refine a9 L ac (λz=>[.int z.1]) (by lia) (λ_ _=>Ze _) (ce hn) (λi y S' hy sm=>⟨_,show aA (.tup [.name 4,.name 5]) (.tup [.int y.1,.int y.2]) _=_ from bT (by simp) (by simp),?_⟩) λS2 s2=>?_
 ·k_is;show 6
 ·rw[aU,jl];k_is;have s3:Sm S2 (S2++[Ob.lst ((L.map (·.1)).map D.int)]):=Sm.app _ _;have a3:(S2++[Ob.lst ((L.map (·.1)).map D.int)])[Zb S2]?=some (.lst ((L.map (·.1)).map D.int)):=al;have sA:=s2.trans s3;generalize S2++[Ob.lst ((L.map (·.1)).map D.int)]=S3 at *;generalize Zb S2=N at *;refine aa sk2 (aa bp ?_);k_is;refine⟨fg (by lia) (by lia),?_⟩;rw[Zn];refine gw (by lia) (λi ρ S'=>S'=S3/\(∃u,ρ=[some (skE K),some (.ref n),some (.ref N),u])/\∀g:Nat,g < i->(g:Int) ∈ L.map (·.1)) (λi ρ S' hi hq1=>?_) (λρ S' hq2=>?_) ⟨rfl,⟨_,rfl⟩,λg hg=>absurd hg (Yi g)⟩
  ·obtain⟨e,⟨u,er⟩,ih⟩:=hq1;subst e er;refine⟨_,rfl,?_⟩;k_is;rw[YE];refine aa (show az .notin (.int (i:Int)) (.ref N) S'=some (.bl (true != decide ((i:Int) ∈ L.map (·.1))),S') from nK true a3 (i:Int)) ?_;k_is;cases c:decide ((i:Int) ∈ L.map (·.1)) with
   |true=>
    k_is;refine⟨rfl,⟨_,rfl⟩,λg hg=>?_⟩;by_cases e:g=i
    ·rw[e];exact of_decide_eq_true c
    ·exact ih g (by lia)
   |false=>
    k_is;have hf:((Zj K.G.length).find? λ(g:Nat)=>!decide ((g:Int) ∈ L.map (·.1)))=some i:=CU (Ik hi) (by rw[c];rfl) λj x hj hx=>by rw[(Ij hx).1,decide_eq_true (ih j hj)];rfl
    have q:=q S' sA;rw[hf] at q;exact q
  ·obtain⟨e,⟨u,er⟩,ih⟩:=hq2;subst e er;k_is;have hf:((Zj K.G.length).find? λ(g:Nat)=>!decide ((g:Int) ∈ L.map (·.1)))=none:=CV λx hx=>by rw[decide_eq_true (ih x (Z6.mp hx))];rfl
   have q:=q S' sA;rw[hf] at q;exact q
theorem C3(V:Vd K){n:Nat}(hn:S[n]?=some (.lst (L.map ac)))(hl:L.length<=20)(hL:InG K L)(q:∀S',Sm S S'->Q (M4 ((js K).find? λt=>decide (K.r < (wts K L t:Int)))) S'):Ok (evC ae (k+3) 36 [skE K,.ref n] S) Q:=by
 refine aC (d:=cN) (ρ:=[some (skE K),some (.ref n),none]) rfl rfl ?_;dsimp only[cN,fA];k_is;refine⟨rfl,tw V λS1 s1 a1 _=>?_⟩;k_is;generalize Zb S1 - 1=N at *;refine⟨by rw[ak a1];rfl,?_⟩;have lj:(js K).length<=7:=by rw[CA];exact V.g7
 refine xo (by rw[Za];lia) (λi ρ S'=>Sm S1 S'/\(∃u,ρ=[some (skE K),some (.ref n),u])/\∀ (j:Nat) t,j < i->(js K)[j]?=some t->decide (K.r < (wts K L t:Int))=false) (λi ρ S' iv=>iv.1 _ _ a1) (λi d ρ S2 hd hq1=>?_) (λρ S2 hq2=>?_) ⟨Sm.refl _,⟨_,rfl⟩,λj t hj=>absurd hj (Yi j)⟩
 ·obtain⟨s2,⟨u,er⟩,ih⟩:=hq1;subst er;obtain⟨t,ht,rfl⟩:=nD hd;refine⟨_,rfl,?_⟩;k_is;refine⟨rfl,Cy V (s2 _ _ (s1 _ _ hn)) hL (by lia) λS3 s3=>?_⟩;refine aa sk0 (aa me0 ?_);k_is;cases c:decide (K.r < (wts K L t:Int)) with
  |true=>k_is;have q:=q S3 ((s1.trans s2).trans s3);rw[CU ht c ih] at q;exact q
  |false=>
   k_is;refine⟨s2.trans s3,⟨_,rfl⟩,λj t' hj ht'=>?_⟩;by_cases e:j=i
   ·subst e;rw[ht] at ht';cases ht';exact c
   ·exact ih j t' (by lia) ht'
 ·obtain⟨s2,⟨u,er⟩,ih⟩:=hq2;subst er;k_is;have q:=q S2 (s1.trans s2)
  rw[CV λt ht=>by
   obtain⟨j,hj⟩:=Z4 ht;exact ih j t (by rw[Za];exact(Zc.mp hj).1) hj] at q
  exact q
theorem C4(V:Vd K){n:Nat}(hn:S[n]?=some (.lst (L.map ac)))(hl:L.length<=20)(hL:InG K L)(q:∀S',Sm S S'->Q (((Zj L.length).findSome? (jk K L)).getD .non) S'):Ok (evC ae (k+5) 37 [skE K,.ref n] S) Q:=by
 refine aC (d:=cx) (ρ:=[some (skE K),some (.ref n),none,none]) rfl rfl ?_;dsimp only[cx,eI];k_is;refine⟨by rw[ak hn];rfl,?_⟩;refine C1 (by rw[Za];lia) (λi ρ S'=>Sm S S'/\(∃u v,ρ=[some (skE K),some (.ref n),u,v])/\∀j:Nat,j < i->jk K L j=none) (λi ρ S' iv=>iv.1 _ _ hn) (λi d ρ S2 hd hq1=>?_) (λρ S2 hq2=>?_) ⟨Sm.refl _,⟨_,_,rfl⟩,λj hj=>absurd hj (Yi j)⟩
 ·obtain⟨s2,⟨u,v,er⟩,ih⟩:=hq1;subst er;obtain⟨z,hz,rfl⟩:=nD hd;refine⟨_,bT (by simp) (by simp),?_⟩;k_is;refine⟨rfl,GN (k:=k) V (s2 _ _ hn) hz hL (by lia) λS3 s3=>?_⟩;rw[GK λy hy=>vB (hL y (Z5 hy)).1 (hL y (Z5 hy)).2];k_is;cases c:fB K (L.take i) z.1 z.2 with
  |true=>
   k_is;refine aa (show ixS (ac z) (.int 0) S3=some (.int z.1,S3) from rfl) ?_;have q:=q S3 (s2.trans s3);rw[qS (f:=jk K L) (Zc.mp hz).1 (by unfold jk;rw[hz,Yt,c];rfl) ih] at q;exact q
  |false=>
   k_is;refine⟨s2.trans s3,⟨_,_,rfl⟩,λj hj=>?_⟩;by_cases e:j=i
   ·subst e;unfold jk;rw[hz,Yt,c];rfl
   ·exact ih j (by lia)
 ·obtain⟨s2,⟨u,v,er⟩,ih⟩:=hq2;subst er;k_is;have q:=q S2 s2;rw[qT (f:=jk K L) λj hj=>ih j (by rw[Za];exact hj)] at q;exact q
theorem jm{i:Nat}(h:∀j:Nat,j < i->jj K L j=none):InG K (L.take i):=λz hz=>by
 obtain⟨j,hj⟩:=Z4 hz;have hl:=(Zc.mp hj).1;rw[Zt] at hl;rw[YG (by lia)] at hj;exact xq (C2 hj (h j (by lia)))
theorem C5(V:Vd K){L:List (Int × Int)}{n:Nat}(hn:S[n]?=some (.lst (L.map ac)))(hl:L.length<=20)(q:∀S',Sm S S'->Q (amF K L) S'):Ok (evC ae (k+6) 27 [skE K,.ref n] S) Q:=by
 refine aC (d:=dQ) (ρ:=[some (skE K),some (.ref n),none,none,none,none,none]) rfl rfl ?_;dsimp only[dQ,hU];unfold amF at q;k_is;refine aa (dE hn) ?_;k_is;rw[Za];refine⟨fg (by lia) (by lia),?_⟩;rw[Zn];refine gw (by lia) (λi ρ S'=>Sm S S'/\(∃u v,ρ=[some (skE K),some (.ref n),u,v,none,none,none])/\∀j:Nat,j < i->jj K L j=none) (λi ρ S1 hi hq1=>?_) (λρ S1 hq2=>?_) ⟨Sm.refl _,⟨_,_,rfl⟩,λj hj=>absurd hj (Yi j)⟩
 ·obtain⟨s1,⟨u,v,er⟩,ih⟩:=hq1;subst er;have hz:L[i]?=some L[i]:=gEG hi;refine⟨_,rfl,?_⟩;k_is;rw[YE];refine⟨rfl,GZ (k:=k+2) V (s1 _ _ hn) hl hz (jm ih) λS2 s2=>?_⟩;have ew:jj K L i=(bX K (L.take i) i L[i]).map λw=>.tup [.str w,.int L[i].1]:=by unfold jj;rw[hz];rfl
  cases c:bX K (L.take i) i L[i] with
  |some w=>
   k_is;refine aa bx ?_;rw[show bu (zh (some w))=false from rfl];k_is;refine aa (cg (s2 _ _ (s1 _ _ hn)) (by lia) (nP hz)) (aa (show ixS (ac L[i]) (.int 0) S2=some (.int L[i].1,S2) from rfl) ?_);k_is;have q:=q S2 (s1.trans s2);rw[c] at ew;rw[qS hi ew ih] at q;exact q
  |none=>
   k_is;refine aa bx ?_;rw[show bu (zh none)=true from rfl];k_is;refine⟨s1.trans s2,⟨_,_,rfl⟩,λj hj=>?_⟩;by_cases e:j=i
   ·rw[e,ew,c];rfl
   ·exact ih j (by lia)
 ·obtain⟨s1,⟨u,v,er⟩,ih⟩:=hq2;subst er;have hL:InG K L:=by have:=jm ih;rw[Ys] at this;exact this
  rw[qT ih] at q;dsimp only at q;k_is;refine⟨rfl,G0 (k:=k+4) V (s1 _ _ hn) hl λS2 s2=>?_⟩;cases c2:(Zj K.G.length).find? λ(g:Nat)=>!decide ((g:Int) ∈ L.map (·.1)) with
  |some g=>
   rw[c2] at q;k_is;refine aa bx ?_;rw[show bu (M3 (some g))=false from rfl];k_is;exact q S2 (s1.trans s2)
  |none=>
  rw[c2] at q;dsimp only at q;k_is;refine aa bx ?_;rw[show bu (M3 none)=true from rfl];k_is;refine⟨rfl,C3 (k:=k+2) V (s2 _ _ (s1 _ _ hn)) hl hL λS3 s3=>?_⟩;cases c3:(js K).find? λt=>decide (K.r < (wts K L t:Int)) with
  |some t=>
   rw[c3] at q;k_is;refine aa bx ?_;rw[show bu (M4 (some t))=false from rfl];k_is;exact q S3 ((s1.trans s2).trans s3)
  |none=>
  rw[c3] at q;dsimp only at q;k_is;refine aa bx ?_;rw[show bu (M4 none)=true from rfl];k_is;refine⟨rfl,C4 (k:=k) V (s3 _ _ (s2 _ _ (s1 _ _ hn))) hl hL λS4 s4=>?_⟩;k_is;refine aa bx ?_;cases c4:(Zj L.length).findSome? (jk K L) with
  |some d=>
   rw[c4] at q;obtain⟨j,_,hj⟩:=YI c4;obtain⟨g,rfl⟩:=GY hj;rw[show bu ((some (D.int g)).getD .non)=false from rfl];k_is;exact q S4 (((s1.trans s2).trans s3).trans s4)
  |none=>
   rw[c4] at q;rw[show bu ((none:Option D).getD .non)=true from rfl];k_is;exact q S4 (((s1.trans s2).trans s3).trans s4)
abbrev prT:Dw.D->Bool
 |.tup [a,b]=>Dw.isW a && Dw.isW b
 |_=>false
theorem M5(h:ts.length ≠ 2):prT (.tup ts)=false:=by
 unfold prT;split
 ·rename_i e;cases e;exact absurd rfl h
 ·rfl
theorem TD.lst(h:TD p S (.lst ts) d):∃n ds,d = .ref n/\n ≠ p/\S[n]?=some (.lst ds)/\TDs p S ts ds:=by rw[TD] at h;exact h
theorem G1(h:TD p S t d)(q:Q (.bl (prT t)) S):Ok (evC ae (k+2) 26 [d] S) Q:=by
 refine aC (d:=jW) (ρ:=[some d]) rfl rfl ?_;dsimp only[jW,pd];k_is;refine⟨rfl,sZ h ?_⟩;k_is;cases t with
 |tup ts=>
  obtain⟨ds,rfl,hs⟩:=h.tup;rw[Dw.Jp];by_cases hl:ts.length=2
  ·obtain⟨b,e,rfl⟩:=Dw.Jq hl;rw[decide_eq_true hl];k_is;refine HL (i:=0) hs rfl λd1 t1=>⟨rfl,ny t1 ?_⟩;k_is;have eq:prT (.tup [b,e])=(Dw.isW b && Dw.isW e):=rfl;rw[eq] at q;cases c:Dw.isW b with
   |false=>rw[c] at q;k_is;exact q
   |true=>
    rw[c] at q;k_is;exact HL (i:=1) hs rfl λd2 t2=>⟨rfl,ny t2 q⟩
  ·rw[decide_eq_false hl];k_is;rw[M5 hl] at q;exact q
 |_=>exact q
abbrev psT:Dw.D->Bool
 |.lst ts=>decide (ts.length<=20) && ts.all prT
 |_=>false
theorem C6(h:TD p S t d)(hl:∀ts,t = .lst ts->ts.length<=1000)(q:∀S',Sm S S'->Q (.bl (psT t)) S'):Ok (evC ae (k+3) 25 [d] S) Q:=by
 refine aC (d:=gg) (ρ:=[some d]) rfl rfl ?_;dsimp only[gg,kz];k_is;refine aa (k8 h) ?_;k_is;cases t with
 |lst ts=>
  have lt:=hl ts rfl;obtain⟨n,ds,rfl,nn,hn,hs⟩:=TD.lst h;rw[show(fj .list (tyT (.lst ts)))=true from rfl];k_is;refine aa (dE hn) ?_;k_is;rw[hs.len];have eq:psT (.lst ts)=(decide (ts.length<=20) && ts.all prT):=rfl;rw[eq] at q;by_cases h20:ts.length<=20
  ·rw[decide_eq_false (show ¬ (20:Int) < ts.length by lia)];rw[decide_eq_true h20,Xs] at q;k_is;refine⟨by rw[ak hn];rfl,?_⟩;refine dY ts.length (λi=>(ds[i]?).getD .non) (λi acc S'=>S'=S/\acc=(ts.take i).map λt=>D.bl (prT t)) (λi acc S' hi ⟨e,_⟩=>by subst e;rw[<-hs.len];exact j5 hn _ pH) (by lia) (λi acc S1 hi ⟨e,ea⟩=>?_) (λes S1 ⟨e,ea⟩=>⟨by rw[ea,Za,Zt];lia,?_⟩) ⟨rfl,rfl⟩
   ·subst e;obtain⟨d,hd,td⟩:=hs.get (gEG hi);simp only[hd,ZQ];refine⟨_,rfl,?_⟩;k_is;refine⟨rfl,G1 td ⟨rfl,?_⟩⟩;rw[ea,ZL hi,ZA];rfl
   ·subst e;rw[Ys] at ea;subst ea;refine aa (k9 _ _ _) ?_;k_is;exact q S1 (Sm.refl _)
  ·rw[decide_eq_true (show(20:Int) < ts.length by lia)];rw[decide_eq_false h20,Xf] at q;k_is;exact q S (Sm.refl _)
 |_=>exact q S (Sm.refl _)
theorem xr:∀ {ts:List Dw.D},ts.all prT=true->∃L:List (Int × Int),ts=L.map Dw.bG
 |[],_=>⟨[],rfl⟩
 |t::ts,h=>by
  rw[Yb,bAE] at h;obtain⟨L,e⟩:=xr h.2;have h1:=h.1;unfold prT at h1;split at h1
  ·rename_i a b;rw[bAE] at h1;cases a <;> simp[Dw.isW] at h1;cases b <;> simp[Dw.isW] at h1;rename_i i j;exact⟨(i,j)::L,by rw[e];rfl⟩
  ·cases h1
theorem pM:∀ {L:List (Int × Int)} {ds:List D},TDs p S (L.map Dw.bG) ds->ds=L.map ac
 |[],ds,h=>h.nil
 |z::L,ds,h=>by
  obtain⟨d,r,rfl,h1,h2⟩:=TDs.cons h;obtain⟨es,rfl,h3⟩:=h1.tup;obtain⟨d1,r1,rfl,a1,h4⟩:=h3.cons;obtain⟨d2,r2,rfl,a2,h5⟩:=h4.cons;rw[h5.nil,a1.int,a2.int,pM h2];rfl
theorem M6{i:Int}(h0:-1000<=i)(h1:i < 100000):lim i=true:=by simp only[lim,bAE,decide_eq_true_eq];omega
theorem pN(V:Vd K){z:Int × Int}{t:Int}(h0:0<=z.1)(h1:z.1 < K.G.length)(q:Q (.bl (aB K t z)) S):Ok (evC ae (k+1) 52 [skE K,ac z,.int t] S) Q:=by
 refine aC (d:=gq) (ρ:=[some (skE K),some (ac z),some (.int t)]) rfl rfl ?_;dsimp only[gq,kD];k_is;obtain⟨a,b,c,d,e,f,h,eg,_,e1,_⟩:=gl7 V h0 h1;refine aa sk2 (aa (show ixS (ac z) (.int 0) S=some (.int z.1,S) from rfl) (aa (dh h0 eg) (aa (show ixS (ay [a,b,c,d,e,f,h]) (.int 1) S=some (.int b,S) from rfl) ?_)));k_is;have ew:aB K t z=(decide (b<=t) && decide (t < z.2 - K.s)):=by unfold aB jn;rw[e1]
 rw[ew] at q;cases c1:decide (b<=t) with
 |false=>rw[c1] at q;k_is;exact q
 |true=>
  rw[c1] at q;k_is;refine aa (show ixS (ac z) (.int 1) S=some (.int z.2,S) from rfl) (aa sk0 (aa me1 ?_));k_is;exact q
theorem Il{A:List (Int × Int)}{n:Nat}{t:Int}{ρ:Rho}{cc:XA}{i:Nat}{Q:List D->Sto->Prop}(hn:S[n]?=some (.lst (A.map ac)))(hl:A.length<=20)
  (step:∀z S',z ∈ A->Sm S S'->∃ρ1,aA (.name i) (ac z) ρ=some ρ1/\Ok (cc ρ1 S') λes S1=>es=(if aB K t z=true then [ac z] else [])/\Sm S' S1)
  (q:∀ds S',Sm S S'->ds.length=wts K A t->Q ds S'):Ok (bj (nxS n) (.name i) cc ρ LF 0 S) λes S2=>es.length<=100000/\Q es S2:=by
 refine a9 A ac (λz=>if aB K t z=true then [ac z] else []) (by omega) (λz _=>by split <;> simp) (ce hn) (λi z S' hz sm=>step z S' (Zh hz) sm) λS' sm=>?_;rw[bV];exact q _ S' sm (by rw[Za];rfl)
theorem C7(V:Vd K){L:List (Int × Int)}{n j:Nat}{z:Int × Int}(hn:S[n]?=some (.lst (L.map ac)))(hl:L.length<=20)(hz:L[j]?=some z)(hL:InG K (L.take j))(j0:0<=jn K z.1)(j1:jn K z.1<=9999)(m1:z.2<=9999)(m0:0<=z.2)
  (q:∀v S',Sm S S'->(∀r:Int,0<=r->(r < v ↔ ∃t,jn K z.1<=t/\t < z.2 - K.s/\r < 1+(wts K (L.take j) t:Int)))->Q (.int v) S'):Ok (evC ae (k+2) 53 [skE K,.ref n,.int j,.int (jn K z.1)] S) Q:=by
 refine aC (d:=iG) (ρ:=[some (skE K),some (.ref n),some (.int j),some (.int (jn K z.1)),none,none]) rfl rfl ?_;dsimp only[iG,ni];have s0:=V.s0;have s60:=V.s60;k_is;refine aa (cg hn (by omega) (nP hz)) (aa (show ixS (ac z) (.int 1) S=some (.int z.2,S) from rfl) (aa sk0 (aa me1 ?_)));k_is;refine⟨⟨M6 (by omega) (by omega),M6 (by omega) (by omega)⟩,?_⟩;generalize hJ:jn K z.1=J at *;refine gw (by omega) (λi ρ S'=>Sm S S'/\∃ (v:Int) (u:Option D),ρ=[some (skE K),some (.ref n),some (.int j),some (.int J),some (.int v),u]/\∀r:Int,0<=r->(r < v ↔ ∃t,J<=t/\t < J+(i:Int)/\r < 1+(wts K (L.take j) t:Int))) (λi ρ S1 hi hq1=>?_) (λρ S1 hq2=>?_) ⟨Sm.refl _,0,none,rfl,λr r0=>⟨λh=>by omega,λ⟨t,h1,h2,_⟩=>by omega⟩⟩
 ·obtain⟨s1,v,u,er,ih⟩:=hq1;subst er;refine⟨_,rfl,?_⟩;k_is;refine aa (fe (s1 _ _ hn)) ?_;have s2:Sm S1 (S1++[Ob.lst ((L.map ac).take j)]):=Sm.app _ _;have a2:(S1++[Ob.lst ((L.map ac).take j)])[Zb S1]?=some (Ob.lst ((L.take j).map ac)):=by rw[al,Yp]
  generalize Zb S1=N at *;generalize S1++[Ob.lst ((L.map ac).take j)]=S2 at *;k_is;refine⟨by rw[ak a2];rfl,?_⟩;refine Il (K:=K) (t:=J+(i:Int)) a2 (by rw[Zt];omega) (λy S' hy sm=>⟨_,rfl,?_⟩) λds S3 s3 ld=>?_
  ·k_is;refine⟨rfl,pN V (hL y hy).1 (hL y hy).2 ?_⟩;k_is;cases aB K (J+(i:Int)) y with
   |true=>k_is;show 6
   |false=>k_is;show 6
  ·refine aa (show cq false ds S3=some (.int ds.length,S3) from rfl) ?_;k_is;rw[ld];refine⟨(s1.trans s2).trans s3,_,_,rfl,λr r0=>?_⟩;have ih:=ih r r0;have e:(r < if (1+(wts K (L.take j) (J+(i:Int)):Int)) > v then (1+(wts K (L.take j) (J+(i:Int)):Int)) else v) ↔ (r < v\/r < 1+(wts K (L.take j) (J+(i:Int)):Int)):=by split <;> omega
   rw[e,ih];constructor
   ·rintro(⟨t,h1,h2,h3⟩ |h)
    ·exact⟨t,h1,by omega,h3⟩
    ·exact⟨J+(i:Int),by omega,by omega,h⟩
   ·rintro⟨t,h1,h2,h3⟩;by_cases ht:t=J+(i:Int)
    ·exact .inr (by rw[<-ht];exact h3)
    ·exact .inl ⟨t,h1,by omega,h3⟩
 ·obtain⟨s1,v,u,er,ih⟩:=hq2;subst er;k_is;refine q v S1 s1 λr r0=>(ih r r0).trans ⟨λ⟨t,h1,h2,h3⟩=>⟨t,h1,?_,h3⟩,λ⟨t,h1,h2,h3⟩=>⟨t,h1,?_,h3⟩⟩
  ·by_cases hh:0<=z.2 - K.s - J
   ·omega
   ·omega
  ·omega
theorem C8{m:Int}:((K.H.filter λz=>decide (z.1<=m) && decide (m < z.2)).map λz=>D.int z.1).isEmpty = !pL K.H m:=by
 unfold pL;generalize K.H=H
 induction H with
 |nil=>rfl
 |cons a H ih=>
  rw[YM,Yz];cases decide (a.1<=m) && decide (m < a.2) with
  |true=>rfl
  |false=>exact ih
abbrev dW(z:Int × Int):Option Str->D
 |none=>.non
 |some w=>.tup [.str w,.int z.1]
theorem G2(V:Vd K){L:List (Int × Int)}{n j:Nat}{z:Int × Int}(hn:S[n]?=some (.lst (L.map ac)))(hl:L.length<=20)(hz:L[j]?=some z)(hL:InG K (L.take j))(q:∀S',Sm S S'->Q (dW z (bX K (L.take j) j z)) S'):Ok (evC ae (k+1) 54 [skE K,.ref n,.int j] S) Q:=by
 refine aC (d:=cO) (ρ:=[some (skE K),some (.ref n),some (.int j),none,none,none]) rfl rfl ?_;dsimp only[cO,bf];have no:∀ (w:Option Str) S',Sm S S'->bX K (L.take j) j z=w->Q (dW z w) S':=λw S' s' nk=>by rw[<-nk];exact q S' s'
 unfold bX at no;k_is;refine aa (cg hn (by omega) (nP hz)) ?_;rw[show ac z = .tup [.int z.1,.int z.2] from rfl];k_is;cases c1:decide (0<=z.1) with
 |false=>rw[c1] at no;k_is;exact no _ S (Sm.refl _) rfl
 |true=>
 rw[c1] at no;k_is;refine aa sk2 (aa bp ?_);k_is;cases c2:decide (z.1 < (K.G.length:Int)) with
 |false=>rw[c2] at no;k_is;exact no _ S (Sm.refl _) rfl
 |true=>
 rw[c2] at no;have z0:=of_decide_eq_true c1;have z1:=of_decide_eq_true c2;obtain⟨a0,b,c,d,e,f,h,eg,e0,e1,e2,e3,e6,k0,k1,c0⟩:=gl7 V z0 z1;unfold vI at no;rw[e0,e2,e3] at no;k_is;refine aa (fe hn) ?_;have s1:Sm S (S++[Ob.lst ((L.map ac).take j)]):=Sm.app _ _;have a1:(S++[Ob.lst ((L.map ac).take j)])[Zb S]?=some (Ob.lst ((L.take j).map ac)):=by rw[al,Yp]
 generalize Zb S=N at *;generalize S++[Ob.lst ((L.map ac).take j)]=S1 at *;k_is;refine⟨by rw[ak a1];rfl,?_⟩;have lt:(L.take j).length<=20:=by rw[Zt];omega
 refine a9 (L.take j) ac (λz=>[.int z.1]) (by omega) (λ_ _=>Ze _) (ce a1) (λi y S' hy sm=>⟨_,rfl,?_⟩) λS2 s2=>?_
 ·k_is;exact aa (show ixS (ac y) (.int 0) S'=some (.int y.1,S') from rfl) ⟨rfl,Sm.refl _⟩
 rw[aU,jl];k_is;have s3:Sm S2 (S2++[Ob.lst (((L.take j).map (·.1)).map D.int)]):=Sm.app _ _;refine aa (show az .isin (.int z.1) (.ref (Zb S2)) (S2++[Ob.lst (((L.take j).map (·.1)).map D.int)])=some (.bl (false != decide (z.1 ∈ (L.take j).map (·.1))),_) from nK false al z.1) ?_;have sA:=(s1.trans s2).trans s3;generalize S2++[Ob.lst (((L.take j).map (·.1)).map D.int)]=S3 at *;k_is;cases c3:decide (z.1 ∈ (L.take j).map (·.1)) with
 |true=>rw[c3] at no;k_is;exact no _ S3 sA rfl
 |false=>
 rw[c3] at no;k_is;refine aa sk3 (aa bp ?_);k_is
 have rest:(K.F[j]?).any (λf=>!decide (z.1=f))=false->rW (wSs (evC ae k) (cF ae) 56 (bf.drop 4)) [some (skE K),some (.ref n),some (.int j),some (.int z.1),some (.int z.2),none] S3 (out Q):=λhf=>by
  rw[hf] at no;dsimp only[bf,Z8];k_is;have g2:∀S,ixS (ay [a0,b,c,d,e,f,h]) (.int 2) S=some (.int c,S):=λ_=>rfl;have g3:∀S,ixS (ay [a0,b,c,d,e,f,h]) (.int 3) S=some (.int d,S):=λ_=>rfl;have g0:∀S,ixS (ay [a0,b,c,d,e,f,h]) (.int 0) S=some (.int a0,S):=λ_=>rfl;refine aa sk2 (aa (dh z0 eg) (aa (g2 _) ?_));k_is;cases c4:decide (z.2 < c) with
  |true=>rw[c4] at no;k_is;exact no _ S3 sA rfl
  |false=>
  rw[c4] at no;k_is;refine aa sk2 (aa (dh z0 eg) (aa (g3 _) ?_));k_is;cases c5:decide (d < z.2) with
  |true=>rw[c5] at no;k_is;exact no _ S3 sA rfl
  |false=>
  rw[c5] at no;k_is;refine aa sk0 (aa me3 ?_);k_is;refine a9 K.H ac (λy=>if (decide (y.1<=z.2) && decide (z.2 < y.2))=true then [.int y.1] else []) (by have:=V.h4;omega) (λy _=>by split <;> simp) bU (λi y S' hy sm=>⟨_,show aA (.tup [.name 6,.name 7]) (.tup [.int y.1,.int y.2]) _=_ from bT (by simp) (by simp),?_⟩) λS4 s4=>?_
  ·k_is;cases decide (y.1<=z.2) with
   |false=>k_is;show 6
   |true=>
    k_is;cases decide (z.2 < y.2) with
    |true=>k_is;show 6
    |false=>k_is;show 6
  rw[bV];k_is;refine aa w9 ?_;rw[C8,Bool.not_not];have s5:Sm S4 (S4++[Ob.lst ((K.H.filter λy=>decide (y.1<=z.2) && decide (z.2 < y.2)).map λy=>D.int y.1)]++[Ob.lst []]):=(Sm.app _ _).trans (Sm.app _ _);generalize S4++[Ob.lst ((K.H.filter λy=>decide (y.1<=z.2) && decide (z.2 < y.2)).map λy=>D.int y.1)]++[Ob.lst []]=S5 at *;have sB:=(sA.trans s4).trans s5;k_is;cases c6:pL K.H z.2 with
  |true=>rw[c6] at no;k_is;exact no _ S5 sB rfl
  |false=>
  rw[c6] at no;k_is;refine aa sk1 ?_;k_is
  have last:rW (wSs (evC ae k) (cF ae) 51 (bf.drop 9)) [some (skE K),some (.ref n),some (.int j),some (.int z.1),some (.int z.2),some (ahE (fC K (L.take j)))] S5 (out Q):=by
   dsimp only[bf,Z8];k_is;cases hA:fC K (L.take j) with
   |none=>
    refine aa (show az .isnot (ahE none) .non S5=some (.bl false,S5) from rfl) ?_;k_is;have cn:decide (z.2 < y7 K none a0)=false:=decide_eq_false (by show ¬ z.2 < 0;have:=of_decide_eq_false c4;omega);rw[hA,cn] at no;exact no none S5 sB rfl
   |some y=>
    obtain⟨y0,y1⟩:=tz V hL y hA;refine aa (show az .isnot (ahE (some y)) .non S5=some (.bl true,S5) from rfl) ?_;k_is;refine aa (show ixS (ahE (some y)) (.int 1) S5=some (.int y.2,S5) from rfl) ?_;refine aa sk0 (aa me2 (aa (show ixS (ahE (some y)) (.int 0) S5=some (.int y.1,S5) from rfl) ?_));obtain⟨r,h1,h2⟩:=j7 (S:=S5) V y0 y1 k0 k1;refine aa h1 (aa sk2 (aa (dh z0 eg) (aa (g0 _) (aa h2 ?_))));k_is;cases c7:decide (z.2 < y.2+gp K y.1 a0) with
    |true=>rw[hA,show decide (z.2 < y7 K (some y) a0)=true from c7] at no;k_is;exact no _ S5 sB rfl
    |false=>rw[hA,show decide (z.2 < y7 K (some y) a0)=false from c7] at no;k_is;exact no none S5 sB rfl
  dsimp only[bf,Z8] at last;cases j with
  |zero=>
   rw[decide_eq_false (show ¬ (0:Int) < ((0:Nat):Int) by decide)];k_is;exact last
  |succ i=>
   rw[decide_eq_true (show(0:Int) < ((i+1:Nat):Int) by omega)];k_is;have hi:i < L.length:=by have:=(Zc.mp hz).1;omega
   have hy:L[i]?=some L[i]:=gEG hi;have ht:L.take (i+1)=L.take i++[L[i]]:=ZL hi;have hyG:=hL L[i] (by rw[ht];exact Zz _ (ZO.mpr rfl));obtain⟨a0',b',c',d',e',f',h',eg',e0',_⟩:=gl7 V hyG.1 hyG.2
   have ix:∀S',Sm S S'->ixS (.ref n) (.int (((i+1:Nat):Int) - 1)) S'=some (ac L[i],S'):=λS' sm=>by
    rw[show((i+1:Nat):Int) - 1=(i:Int) by omega];exact cg (sm _ _ hn) (by omega) (nP hy)
   refine aa sk2 (aa (ix S5 sB) (aa (show ixS (ac L[i]) (.int 0) S5=some (.int L[i].1,S5) from rfl) (aa (dh hyG.1 eg') (aa (show ixS (ay [a0',b',c',d',e',f',h']) (.int 0) S5=some (.int a0',S5) from rfl) ?_))));refine aa (ix S5 sB) (aa (show ixS (ac L[i]) (.int 1) S5=some (.int L[i].2,S5) from rfl) ?_);k_is;have el:fC K (L.take (i+1))=some (a0',L[i].2):=by rw[ht,vC,e0']
   rw[el] at last;exact last
 dsimp only[bf,Z8] at rest;by_cases hj:j < K.F.length
 ·rw[decide_eq_true (show(j:Int) < K.F.length by omega)];k_is;refine aa sk3 (aa (nB (ds:=K.F.map D.int) (i:=(j:Int)) (d:=.int K.F[j]) (by omega) (by rw[Zn,Zm,gEG hj];rfl)) ?_);k_is;have cf:(K.F[j]?).any (λf=>!decide (z.1=f)) = !decide (K.F[j]=z.1):=by rw[gEG hj,Xb,decide_eq_decide.mpr (show z.1=K.F[j] ↔ K.F[j]=z.1 from eq_comm)]
  cases c4:decide (K.F[j]=z.1) with
  |false=>k_is;exact no (some "order") S3 sA (by rw[cf,c4];rfl)
  |true=>
   k_is;exact rest (by rw[cf,c4];rfl)
 ·rw[decide_eq_false (show ¬ (j:Int) < K.F.length by omega)];k_is;exact rest (by rw[ZC (by omega)];rfl)
theorem C9(sk:SkOk K){g:Int}(g0:0<=g)(g1:g < K.G.length):0<=jn K g/\jn K g<=9999/\gi K.G g 3<=9999/\0<=gi K.G g 2:=by
 have hi:g.toNat < K.G.length:=by omega
 have s0:=sk.me.s0;obtain⟨kd,jo,fi,la,du,we,ri,eg,hb⟩:=sk.gb K.G[g.toNat] (Zy hi);have e1:jn K g=jo:=by unfold jn gi;rw[gEG hi,eg];rfl
 have e2:gi K.G g 2=fi:=by unfold gi;rw[gEG hi,eg];rfl
 have e3:gi K.G g 3=la:=by unfold gi;rw[gEG hi,eg];rfl
 rw[e1,e2,e3];omega
theorem xt{n:Nat}(h:S[n]?=some (.lst (xs.map D.int)))(hx:xs ≠ []):av kN (.ref n) S=some (.int (cZ xs),S):=by
 cases xs with
 |nil=>exact absurd rfl hx
 |cons x xs=>simp only[av,ao,ak h,Zq,kN,gL]
theorem kc(sk:SkOk K){n:Nat}(hn:S[n]?=some (.lst (L.map ac)))(hl:L.length<=20)(q:∀S',Sm S S'->Q (amF K L) S'):Ok (evC ae (k+3) 55 [skE K,.ref n] S) Q:=by
 refine aC (d:=gr) (ρ:=[some (skE K),some (.ref n),none,none,none,none,none,none,none]) rfl rfl ?_;dsimp only[gr,kE];have V:=sk.vd;have g7:=sk.g7;unfold amF at q;k_is;refine aa (dE hn) ?_;k_is;rw[Za];refine⟨fg (by omega) (by omega),?_⟩;rw[Zn];refine gw (by omega) (λi ρ S'=>Sm S S'/\(∃u v,ρ=[some (skE K),some (.ref n),u,v,none,none,none,none,none])/\∀j:Nat,j < i->jj K L j=none) (λi ρ S1 hi hq1=>?_) (λρ S1 hq2=>?_) ⟨Sm.refl _,⟨_,_,rfl⟩,λj hj=>absurd hj (Yi j)⟩
 ·obtain⟨s1,⟨u,v,er⟩,ih⟩:=hq1;subst er;have hz:L[i]?=some L[i]:=gEG hi;refine⟨_,rfl,?_⟩;k_is;rw[YE];refine⟨rfl,G2 (k:=k+1) V (s1 _ _ hn) hl hz (jm ih) λS2 s2=>?_⟩;have ew:jj K L i=(bX K (L.take i) i L[i]).map λw=>.tup [.str w,.int L[i].1]:=by unfold jj;rw[hz];rfl
  cases c:bX K (L.take i) i L[i] with
  |some w=>
   k_is;refine aa bx ?_;rw[show bu (dW L[i] (some w))=false from rfl];k_is;have q:=q S2 (s1.trans s2);rw[c] at ew;rw[qS hi ew ih] at q;exact q
  |none=>
   k_is;refine aa bx ?_;rw[show bu (dW L[i] none)=true from rfl];k_is;refine⟨s1.trans s2,⟨_,_,rfl⟩,λj hj=>?_⟩;by_cases e:j=i
   ·rw[e,ew,c];rfl
   ·exact ih j (by omega)
 ·obtain⟨s1,⟨u,v,er⟩,ih⟩:=hq2;subst er;have hL:InG K L:=by have:=jm ih;rw[Ys] at this;exact this
  rw[qT ih] at q;dsimp only at q;have hn1:=s1 _ _ hn;k_is;refine⟨by rw[ak hn1];rfl,?_⟩;refine a9 L ac (λz=>[.int z.1]) (by omega) (λ_ _=>Ze _) (ce hn1) (λi y S' hy sm=>⟨_,rfl,?_⟩) λS2 s2=>?_
  ·k_is;exact aa (show ixS (ac y) (.int 0) S'=some (.int y.1,S') from rfl) ⟨rfl,Sm.refl _⟩
  rw[aU,jl];k_is;have s3:Sm S2 (S2++[Ob.lst ((L.map (·.1)).map D.int)]):=Sm.app _ _;have a3:(S2++[Ob.lst ((L.map (·.1)).map D.int)])[Zb S2]?=some (.lst ((L.map (·.1)).map D.int)):=al;have sA:=(s1.trans s2).trans s3;generalize S2++[Ob.lst ((L.map (·.1)).map D.int)]=S3 at *;generalize Zb S2=N at *;refine aa sk2 (aa bp ?_);k_is;refine⟨fg (by omega) (by omega),?_⟩;rw[Zn];refine a9 (Zj K.G.length) (λ(j:Nat)=>D.int (0+(j:Int))) (λ(j:Nat)=>if (!decide ((j:Int) ∈ L.map (·.1)))=true then [D.int (j:Int)] else []) (by rw[ZK];omega) (λ_ _=>by split <;> simp) CG (λi j S' hj sm=>⟨_,rfl,?_⟩) λS4 s4=>?_
  ·k_is;rw[YE];refine aa (show az .notin (.int (j:Int)) (.ref N) S'=some (.bl (true != decide ((j:Int) ∈ L.map (·.1))),S') from nK true (sm _ _ a3) (j:Int)) ?_;k_is;cases c:decide ((j:Int) ∈ L.map (·.1)) with
   |true=>k_is;show 6
   |false=>k_is;show 6
  rw[bV];k_is;rw[<-List.head?_filter] at q;generalize (Zj K.G.length).filter (λ(j:Nat)=>!decide ((j:Int) ∈ L.map (·.1)))=lac at *;refine aa w9 ?_;have s5:Sm S4 (S4++[Ob.lst (lac.map λ(j:Nat)=>D.int (j:Int))]++[Ob.lst []]):=(Sm.app _ _).trans (Sm.app _ _);have a5:(S4++[Ob.lst (lac.map λ(j:Nat)=>D.int (j:Int))]++[Ob.lst []])[Zb S4]?=some (.lst (lac.map λ(j:Nat)=>D.int (j:Int))):=Sm.app _ _ _ _ al;generalize S4++[Ob.lst (lac.map λ(j:Nat)=>D.int (j:Int))]++[Ob.lst []]=S5 at *;have sB:=(sA.trans s4).trans s5;k_is;cases lac with
  |cons j lac=>
   rw[show(!((j::lac).map λ(j:Nat)=>D.int (j:Int)).isEmpty)=true from rfl];k_is;refine aa (cg (i:=0) a5 (by omega) rfl) ?_;k_is;exact q S5 sB
  |nil=>
  rw[show(!(([]:List Nat).map λ(j:Nat)=>D.int (j:Int)).isEmpty)=false from rfl];k_is;rw[show([]:List Nat).head?=none from rfl] at q;dsimp only at q;have s6:Sm S5 (S5++[Ob.lst [D.int 0]]):=Sm.app _ _;have a6:(S5++[Ob.lst [D.int 0]])[Zb S5]?=some (.lst [D.int 0]):=al;generalize S5++[Ob.lst [D.int 0]]=S6 at *;generalize Zb S5=N6 at *;refine aa sk2 ?_;k_is;refine a9 K.G ay (λg=>[.int (g.getD 1 0+1)]) (by omega) (λ_ _=>Ze _) bU (λi g S' hg sm=>⟨_,rfl,?_⟩) λS7 s7=>?_
  ·obtain⟨l7,_⟩:=V.gl g (Zh hg)
   match g,l7 with
   |[a,b,c,d,e,f,h],_=>
    k_is;refine aa (show ixS (ay [a,b,c,d,e,f,h]) (.int 1) S'=some (.int b,S') from rfl) ?_;k_is;show 6
  rw[aU];have s8:Sm S7 (S7++[Ob.lst (K.G.map λg=>D.int (g.getD 1 0+1))]):=Sm.app _ _;refine aa (jh (s8 _ _ (s7 _ _ a6)) al (by rw[Za,ZR];omega)) ?_;k_is;have e9:([D.int 0]++K.G.map λg=>D.int (g.getD 1 0+1))=(0::K.G.map λg=>g.getD 1 0+1).map D.int:=by rw[Zv,ZX];rfl
  rw[e9];have s9:Sm (S7++[Ob.lst (K.G.map λg=>D.int (g.getD 1 0+1))]) (S7++[Ob.lst (K.G.map λg=>D.int (g.getD 1 0+1))]++[Ob.lst ((0::K.G.map λg=>g.getD 1 0+1).map D.int)]):=Sm.app _ _;refine aa (xt al (by simp)) ?_;have sC:=(((sB.trans s6).trans s7).trans s8).trans s9;generalize S7++[Ob.lst (K.G.map λg=>D.int (g.getD 1 0+1))]++[Ob.lst ((0::K.G.map λg=>g.getD 1 0+1).map D.int)]=S9 at *
  have jb:∀x ∈ js K,0<=x/\x < cZ (0::K.G.map λg=>g.getD 1 0+1):=λx hx=>by
   have hx':x ∈ K.G.map λg=>g.getD 1 0:=(cr _).mem_iff.mp hx;obtain⟨g,hg,rfl⟩:=ZH.mp hx';obtain⟨kd,jo,fi,la,du,we,ri,rfl,hb⟩:=sk.gb g hg;have:=qO (Zf 0 (ZH.mpr ⟨_,hg,rfl⟩):jo+1 ∈ 0::K.G.map λg=>g.getD 1 0+1);show 0<=jo/\jo < _;omega
  have tb:0<=cZ (0::K.G.map λg=>g.getD 1 0+1)/\cZ (0::K.G.map λg=>g.getD 1 0+1)<=10000:=by
   refine⟨qO Zg,?_⟩;rcases Zk.mp (qN (ns:=0::K.G.map λg=>g.getD 1 0+1) (by simp)) with h |h
   ·omega
   ·obtain⟨g,hg,e⟩:=ZH.mp h;obtain⟨kd,jo,fi,la,du,we,ri,rfl,hb⟩:=sk.gb g hg;have e:jo+1=_:=e;have s0:=sk.me.s0;omega
  generalize cZ (0::K.G.map λg=>g.getD 1 0+1)=T at *;k_is;refine⟨M6 (by omega) (by omega),?_⟩;refine gw (by omega) (λi ρ S'=>Sm S S'/\(∃u2 u3 u4 u5 u6,ρ=[some (skE K),some (.ref n),u2,u3,u4,u5,u6,none,none])/\∀t:Nat,t < i->(wts K L t:Int)<=K.r) (λi ρ Sa hi hq3=>?_) (λρ Sa hq4=>?_) ⟨sC,⟨_,_,_,_,_,rfl⟩,λt ht=>absurd ht (Yi t)⟩
  ·obtain⟨sa,⟨u2,u3,u4,u5,u6,er⟩,iw⟩:=hq3;subst er;refine⟨_,rfl,?_⟩;k_is;refine⟨by rw[ak (sa _ _ hn)];rfl,?_⟩;refine Il (K:=K) (t:=0+(i:Int)) (sa _ _ hn) hl (λy S' hy sm=>⟨_,rfl,?_⟩) λds Sb sb ld=>?_
   ·k_is;refine⟨rfl,pN V (hL y hy).1 (hL y hy).2 ?_⟩;k_is;cases aB K (0+(i:Int)) y with
    |true=>k_is;show 6
    |false=>k_is;show 6
   ·refine aa (show cq false ds Sb=some (.int ds.length,Sb) from rfl) (aa sk0 (aa me0 ?_));k_is;rw[ld,YE];cases c:decide (K.r < (wts K L (i:Int):Int)) with
    |true=>
     k_is;have q:=q Sb (sa.trans sb);rw[CZ hL sk.me.r0 (λu hu=>(jb u hu).1) (of_decide_eq_true c) iw] at q;exact q
    |false=>
     k_is;refine⟨sa.trans sb,⟨_,_,_,_,_,rfl⟩,λt ht=>?_⟩;by_cases e:t=i
     ·rw[e];have:=of_decide_eq_false c;omega
     ·exact iw t (by omega)
  ·obtain⟨sa,⟨u2,u3,u4,u5,u6,er⟩,iw⟩:=hq4;subst er
   rw[CV (l:=js K) (f:=λt=>decide (K.r < (wts K L t:Int))) λt ht=>by
    have:=jb t ht;have:=iw t.toNat (by omega);rw[show((t.toNat:Nat):Int)=t by omega] at this;exact decide_eq_false (by omega)] at q
   dsimp only at q;k_is;refine⟨by rw[ak (sa _ _ hn)];rfl,?_⟩;refine C1 (by rw[Za];omega) (λi ρ S'=>Sm S S'/\(∃u2 u3 u4 u5 u6 u7 u8,ρ=[some (skE K),some (.ref n),u2,u3,u4,u5,u6,u7,u8])/\∀j:Nat,j < i->jk K L j=none) (λi ρ S' iv=>iv.1 _ _ hn) (λi d ρ Sb hd hq5=>?_) (λρ Sb hq6=>?_) ⟨sa,⟨_,_,_,_,_,_,_,rfl⟩,λj hj=>absurd hj (Yi j)⟩
   ·obtain⟨sb,⟨u2,u3,u4,u5,u6,u7,u8,er⟩,ihh⟩:=hq5;subst er;obtain⟨z,hz,rfl⟩:=nD hd;have wz:=C2 hz (ih i (Zc.mp hz).1);obtain⟨z0,z1⟩:=xq wz;obtain⟨a,b,c,d,e,f,h,eg,e0,e1,e2,e3,e6,k0,k1,c0⟩:=gl7 V z0 z1;obtain⟨b0,b1,b2,b3⟩:=C9 sk z0 z1;obtain⟨lo,hi⟩:=CW wz;have eh:jk K L i=bif fB K (L.take i) z.1 z.2 then some (.int z.1) else none:=by unfold jk;rw[hz];rfl
    refine⟨_,bT (by simp) (by simp),?_⟩;k_is;refine aa sk2 (aa (show ixS (ac z) (.int 0) Sb=some (.int z.1,Sb) from rfl) (aa (dh z0 eg) ?_));k_is;have r6:∀S,ixS (ay [a,b,c,d,e,f,h]) (.int 6) S=some (.int h,S):=λ_=>rfl;have r1:∀S,ixS (ay [a,b,c,d,e,f,h]) (.int 1) S=some (.int b,S):=λ_=>rfl;refine aa (r6 _) ?_;k_is
    have next:∀ (w:Option D) Sd,Sm S Sd->fB K (L.take i) z.1 z.2=false->Sm S Sd/\(∃w2 w3 w4 w5 w6 w7 w8,[some (skE K),some (D.ref n),some (D.int i),u3,u4,u5,u6,some (ac z),w]=[some (skE K),some (.ref n),w2,w3,w4,w5,w6,w7,w8])/\∀j:Nat,j < i+1->jk K L j=none:=λw Sd sd hh=>⟨sd,⟨_,_,_,_,_,_,_,rfl⟩,λj hj=>by
     by_cases e:j=i
     ·rw[e,eh,hh];rfl
     ·exact ihh j (by omega)⟩
    cases c1:decide (0 < h) with
    |false=>
     k_is;exact next _ Sb sb (by unfold fB;rw[e6,c1];rfl)
    |true=>
     k_is;refine aa (r1 _) ?_;rw[<-(show jn K z.1=b from e1)];refine⟨rfl,C7 (k:=k) V (sb _ _ hn) hl hz (λy hy=>hL y (Z5 hy)) b0 b1 (by omega) (by omega) λv Sd sd hv=>?_⟩;refine aa (r6 _) ?_;k_is
     have key:decide (h < v)=fB K (L.take i) z.1 z.2:=by
      have h0:=of_decide_eq_true c1;rw[Z3,M2,decide_eq_true_eq,hv h (by omega),e6];exact⟨λx=>⟨h0,x⟩,λx=>x.2⟩
     rw[key];cases c2:fB K (L.take i) z.1 z.2 with
     |true=>
      k_is;refine aa (show ixS (ac z) (.int 0) Sd=some (.int z.1,Sd) from rfl) ?_;k_is;have q:=q Sd (sb.trans sd);rw[c2] at eh;rw[qS (Zc.mp hz).1 eh ihh] at q;exact q
     |false=>
      k_is;exact next _ Sd (sb.trans sd) c2
   ·obtain⟨sb,⟨u2,u3,u4,u5,u6,u7,u8,er⟩,ihh⟩:=hq6;subst er;k_is;have q:=q Sb sb;rw[qT λj hj=>ihh j (by rw[Za];exact hj)] at q;exact q
def InR(K:Sky)(os:List Int):Prop:=∀g ∈ os,0<=g/\g < K.G.length
theorem pO(h:Pot p S)(sk:SkOk K)(g6:K.G.length<=6)(q:∀os S',Dr p S S'->InR K os->os.length<=12->Q (.tup (os.map D.int)) S'):Ok (evC ae (k+3) 49 [.ref p,skE K] S) Q:=by
 refine aC (d:=gm) (ρ:=[some (.ref p),some (skE K)]) rfl rfl ?_;dsimp only[gm,kC];k_is;refine aa sk3 (aa sk2 (aa bp ?_));k_is;refine⟨fg (by omega) (by omega),?_⟩;rw[Zn];refine a9 (Zj K.G.length) (λ(j:Nat)=>D.int (0+(j:Int))) (λ(j:Nat)=>if (!decide ((j:Int) ∈ K.F))=true then [D.int (j:Int)] else []) (by rw[ZK];omega) (λ_ _=>by split <;> simp) CG (λi j S' hj sm=>⟨_,rfl,?_⟩) λS1 s1=>?_
 ·k_is;refine aa sk3 ?_;rw[YE];refine aa (show az .notin (.int (j:Int)) (.tup (K.F.map D.int)) S'=some (.bl (true != decide ((j:Int) ∈ K.F)),S') from qG true K.F j S') ?_;k_is;cases c:decide ((j:Int) ∈ K.F) with
  |true=>k_is;show 6
  |false=>k_is;show 6
 ·rw[bV];have eo:(((Zj K.G.length).filter λ(j:Nat)=>!decide ((j:Int) ∈ K.F)).map λ(j:Nat)=>D.int (j:Int))=(((Zj K.G.length).filter λ(j:Nat)=>!decide ((j:Int) ∈ K.F)).map λ(j:Nat)=>(j:Int)).map D.int:=by rw[ZX];rfl
  have bo:∀x ∈ ((Zj K.G.length).filter λ(j:Nat)=>!decide ((j:Int) ∈ K.F)).map λ(j:Nat)=>(j:Int),0<=x/\x < K.G.length:=λx hx=>by
   obtain⟨j,hj,rfl⟩:=ZH.mp hx;have:=Z6.mp (Z0.mp hj).1;omega
  have lo:(((Zj K.G.length).filter λ(j:Nat)=>!decide ((j:Int) ∈ K.F)).map λ(j:Nat)=>(j:Int)).length<=6:=by rw[Za];exact ZF (Xe _ _) (by rw[ZK];exact g6)
  rw[eo];generalize (((Zj K.G.length).filter λ(j:Nat)=>!decide ((j:Int) ∈ K.F)).map λ(j:Nat)=>(j:Int))=ot at *;k_is;have lt1:=(Dr.sm h s1).pot.lt;have d2:Dr p S (S1++[Ob.lst (ot.map D.int)]):=Dr.sm h (s1.trans (Sm.app _ _));refine⟨rfl,pJ (k:=k) d2.pot al (by omega) (by omega) λl S3 d3 pm=>?_⟩;k_is;refine aa (gM al) ?_;k_is;have lF:=Dw.dq K.G.length K.F sk.nd sk.bd;have ll:l.length<=6:=by rw[pm.length_eq];exact lo
  refine⟨by rw[Za,Za];omega,?_⟩;rw[<-ZA];refine q _ _ ((d2.trans d3).thenSm (Sm.app _ _)) (λg hg=>?_) (by rw[Zr];omega);rcases ZG.mp hg with hg |hg
  ·exact sk.bd g hg
  ·exact bo g (pm.mem_iff.mp hg)
theorem Da{H:List (Int × Int)}{m:Int}(hl:H.length<=4)(q:∀m',Q (.int m') S):Ok (evC ae (k+1) 50 [.tup (H.map ac),.int m] S) Q:=by
 refine aC (d:=iE) (ρ:=[some (.tup (H.map ac)),some (.int m),none,none,none,none]) rfl rfl ?_;dsimp only[iE,ng];k_is;refine aa bp ?_;k_is;refine⟨fg (by omega) (by omega),?_⟩;refine gw (by omega) (λi ρ S'=>S'=S/\∃ (m':Int) (u v w:Option D),ρ=[some (.tup (H.map ac)),some (.int m),some (.int m'),u,v,w]) (λi ρ S1 hi hq1=>?_) (λρ S1 hq2=>?_) ⟨rfl,m,none,none,none,rfl⟩
 ·obtain⟨e,m',u,v,w,er⟩:=hq1;subst e er;refine⟨_,rfl,?_⟩;k_is;refine Ic (by rw[Za];omega) (λi' ρ S'=>S'=S1/\∃ (m':Int) (u v w:Option D),ρ=[some (.tup (H.map ac)),some (.int m),some (.int m'),u,v,w]) (λi' d ρ S' hd hq3=>?_) (λρ S' hq4=>by obtain⟨e,m',u,v,w,er⟩:=hq4;exact⟨e,m',u,v,w,er⟩) ⟨rfl,_,_,_,_,rfl⟩;obtain⟨e,m',u,v,w,er⟩:=hq3;subst e er;obtain⟨pr,hp,rfl⟩:=nD hd;refine⟨_,show aA (.tup [.name 4,.name 5]) (.tup [.int pr.1,.int pr.2]) _=_ from bT (by simp) (by simp),?_⟩;k_is;refine Cv (λh1 h2=>?_) λh=>?_
  ·k_is;exact⟨rfl,_,_,_,_,rfl⟩
  ·k_is;exact⟨rfl,_,_,_,_,rfl⟩
 ·obtain⟨e,m',u,v,w,er⟩:=hq2;subst e er;k_is;exact q m'
theorem run_ok(V:Vd K){gv fx ov:D}{os:List Int}(hv:ov = .tup (os.map D.int)\/∃m,ov = .ref m/\S[m]?=some (.lst (os.map D.int)))(ho:InR K os)(lo:os.length<=20)
  (hg:∀S',Sm S S'->∀g:Int,0<=g->g < K.G.length->∃a b c d e f h:Int,0<=a/\a < K.M.length/\ixS gv (.int g) S'=some (ay [a,b,c,d,e,f,h],S'))
  (q:∀ (L:List (Int × Int)) N S',Sm S S'->S'[N]?=some (.lst (L.map ac))->S.length<=N->L.map (·.1)=os->Q (.ref N) S'):Ok (evC ae (k+2) 51 [.tup [meE K,ahE K.ah,gv,fx],ov] S) Q:=by
 refine aC (d:=j3) (ρ:=[some (.tup [meE K,ahE K.ah,gv,fx]),some ov,none,none,none,none]) rfl rfl ?_;dsimp only[j3,pw];k_is;have t0:∀S,ixS (.tup [meE K,ahE K.ah,gv,fx]) (.int 0) S=some (meE K,S):=λ_=>rfl;have t1:∀S,ixS (.tup [meE K,ahE K.ah,gv,fx]) (.int 1) S=some (ahE K.ah,S):=λ_=>rfl;have t2:∀S,ixS (.tup [meE K,ahE K.ah,gv,fx]) (.int 2) S=some (gv,S):=λ_=>rfl;refine aa (t1 _) ?_;k_is
 have loop:∀ (nx:Nxt) (S1:Sto),Sm S S1->S1[Zb S]?=some (.lst (([]:List (Int × Int)).map ac))->(∀i S',Sm S S'->nx i S'=some ((os[i]?).map D.int))->OkS (eC nx (.name 4) (fE (evC ae (k+1)) (cF ae) 58 [.asg (.name 5) (.ix (.ix (.ix (.var 0) (.int 2)) (.var 4)) (.int 2)),.ifs (.cmp .isnot (.var 3) .non) [.asg (.name 5) (.mx (.var 5) (.bin .add (.ix (.var 3) (.int 1)) (.ix (.ix (.ix (.ix (.var 0) (.int 0)) (.int 2)) (.ix (.var 3) (.int 0))) (.ix (.ix (.ix (.var 0) (.int 2)) (.var 4)) (.int 0)))))] [],.asg (.name 5) (.call 50 [(.ix (.ix (.var 0) (.int 0)) (.int 3)),(.var 5)]),.ex (.app (.var 2) (.tup [(.var 4),(.var 5)])),.asg (.name 3) (.tup [(.ix (.ix (.ix (.var 0) (.int 2)) (.var 4)) (.int 0)),(.var 5)])]) LF 0 [some (.tup [meE K,ahE K.ah,gv,fx]),some ov,some (.ref (Zb S)),some (ahE K.ah),none,none] S1)
   λfl ρ S'=>match fl with
    |.nx=>∃ (L:List (Int × Int)) (a:Option (Int × Int)) (u v:Option D),ρ=[some (.tup [meE K,ahE K.ah,gv,fx]),some ov,some (.ref (Zb S)),some (ahE a),u,v]/\Sm S S'/\S'[Zb S]?=some (.lst (L.map ac))/\L.map (·.1)=os
    |_=>False:=λnx S1 s1 a1 hnx=>by
  refine jf os.length (λi ρ S'=>∃ (L:List (Int × Int)) (a:Option (Int × Int)) (u v:Option D),ρ=[some (.tup [meE K,ahE K.ah,gv,fx]),some ov,some (.ref (Zb S)),some (ahE a),u,v]/\Sm S S'/\S'[Zb S]?=some (.lst (L.map ac))/\L.map (·.1)=os.take i/\∀z,a=some z->0<=z.1/\z.1 < K.M.length) (by unfold LF;omega) (λi ρ S2 hi hq1=>?_) (λρ S2 hq2=>by obtain⟨L,a,u,v,er,s2,hL,eL,ha⟩:=hq2;exact⟨by rw[hnx _ S2 s2,ZC (Ze _)];rfl,L,a,u,v,er,s2,hL,by rw[eL,Ys]⟩) ⟨[],K.ah,none,none,rfl,s1,a1,rfl,V.ah0⟩;obtain⟨L,a,u,v,er,s2,hL,eL,ha⟩:=hq1;subst er;have hgi:os[i]?=some os[i]:=gEG hi;obtain⟨g0,g1⟩:=ho os[i] (Zy hi);have hlen:L.length<=20:=by have:=congrArg Zb eL;rw[Za,Zt] at this;omega
  refine⟨.int os[i],_,by rw[hnx i S2 s2,hgi];rfl,rfl,?_⟩;obtain⟨x0,x1,x2,x3,x4,x5,x6,k0,k1,ix⟩:=hg S2 s2 os[i] g0 g1;have lt2:Zb S < S2.length:=(Zc.mp hL).1
  have rest:∀m:Int,rW (wSs (evC ae (k+1)) (cF ae) 56 [.asg (.name 5) (.call 50 [(.ix (.ix (.var 0) (.int 0)) (.int 3)),(.var 5)]),.ex (.app (.var 2) (.tup [(.var 4),(.var 5)])),.asg (.name 3) (.tup [(.ix (.ix (.ix (.var 0) (.int 2)) (.var 4)) (.int 0)),(.var 5)])]) [some (.tup [meE K,ahE K.ah,gv,fx]),some ov,some (.ref (Zb S)),some (ahE a),some (.int os[i]),some (.int m)] S2 (λfl ρ2 S2=>match fl with
    |.nx=>∃ (L:List (Int × Int)) (a:Option (Int × Int)) (u v:Option D),ρ2=[some (.tup [meE K,ahE K.ah,gv,fx]),some ov,some (.ref (Zb S)),some (ahE a),u,v]/\Sm S S2/\S2[Zb S]?=some (.lst (L.map ac))/\L.map (·.1)=os.take (i+1)/\∀z,a=some z->0<=z.1/\z.1 < K.M.length
    |.ct=>∃ (L:List (Int × Int)) (a:Option (Int × Int)) (u v:Option D),ρ2=[some (.tup [meE K,ahE K.ah,gv,fx]),some ov,some (.ref (Zb S)),some (ahE a),u,v]/\Sm S S2/\S2[Zb S]?=some (.lst (L.map ac))/\L.map (·.1)=os.take (i+1)/\∀z,a=some z->0<=z.1/\z.1 < K.M.length
    |.bk=>∃ (L:List (Int × Int)) (a:Option (Int × Int)) (u v:Option D),ρ2=[some (.tup [meE K,ahE K.ah,gv,fx]),some ov,some (.ref (Zb S)),some (ahE a),u,v]/\Sm S S2/\S2[Zb S]?=some (.lst (L.map ac))/\L.map (·.1)=os
    | .rt d=>False):=λm=>by
   k_is;refine aa (t0 _) (aa me3 ?_);refine⟨rfl,Da V.h4 λm'=>?_⟩;k_is;refine⟨gx hL,?_⟩;rw[BZ hL (by rw[Za];omega)];k_is;have s3:Sm S (S2.set (Zb S) (.lst (L.map ac++[.tup [.int os[i],.int m']]))):=Sm.setNew s2 (Ze _);have a3:(S2.set (Zb S) (.lst (L.map ac++[.tup [.int os[i],.int m']])))[Zb S]?=some (.lst ((L++[(os[i],m')]).map ac)):=by rw[iI lt2,ZA];rfl
   generalize S2.set (Zb S) (.lst (L.map ac++[.tup [.int os[i],.int m']]))=S3 at *;obtain⟨y0,y1,y2,y3,y4,y5,y6,l0,l1,iy⟩:=hg S3 s3 os[i] g0 g1;refine aa (t2 _) (aa iy (aa (show ixS (ay [y0,y1,y2,y3,y4,y5,y6]) (.int 0) S3=some (.int y0,S3) from rfl) ?_));k_is;exact⟨L++[(os[i],m')],some (y0,m'),_,_,rfl,s3,a3,by rw[ZA,eL,ZL hi];rfl,λz e=>by cases e;exact⟨l0,l1⟩⟩
  k_is;refine aa (t2 _) (aa ix (aa (show ixS (ay [x0,x1,x2,x3,x4,x5,x6]) (.int 2) S2=some (.int x2,S2) from rfl) ?_));k_is;cases a with
  |none=>
   refine aa (show az .isnot (ahE none) .non S2=some (.bl false,S2) from rfl) ?_;k_is;exact rest x2
  |some z=>
   obtain⟨z0,z1⟩:=ha z rfl;refine aa (show az .isnot (ahE (some z)) .non S2=some (.bl true,S2) from rfl) ?_;k_is;refine aa (show ixS (ahE (some z)) (.int 1) S2=some (.int z.2,S2) from rfl) ?_;refine aa (t0 _) (aa me2 (aa (show ixS (ahE (some z)) (.int 0) S2=some (.int z.1,S2) from rfl) ?_));obtain⟨r,h1,h2⟩:=j7 (S:=S2) V z0 z1 k0 k1;refine aa h1 (aa (t2 _) (aa ix (aa (show ixS (ay [x0,x1,x2,x3,x4,x5,x6]) (.int 0) S2=some (.int x0,S2) from rfl) (aa h2 ?_))));k_is;exact rest _
 have fin:∀ (nx:Nxt) (S1:Sto),Sm S S1->S1[Zb S]?=some (.lst (([]:List (Int × Int)).map ac))->(∀i S',Sm S S'->nx i S'=some ((os[i]?).map D.int))->True:=λ_ _ _ _ _=>trivial;have s1:Sm S (S++[Ob.lst []]):=Sm.app _ _;have a1:(S++[Ob.lst []])[Zb S]?=some (.lst (([]:List (Int × Int)).map ac)):=al;rcases hv with rfl |⟨m,rfl,hm⟩
 ·k_is;refine(loop _ _ s1 a1 bU).mono λfl ρ S' z=>?_;cases fl with
  |nx=>
   obtain⟨L,a,u,v,rfl,s2,hL,eL⟩:=z;k_is;exact q L _ S' s2 hL (Ze _) eL
  |_=>cases z
 ·k_is;refine⟨by rw[ak (s1 _ _ hm)];rfl,?_⟩;refine(loop _ _ s1 a1 (ce hm)).mono λfl ρ S' z=>?_;cases fl with
  |nx=>
   obtain⟨L,a,u,v,rfl,s2,hL,eL⟩:=z;k_is;exact q L _ S' s2 hL (Ze _) eL
  |_=>cases z
theorem Db{i:Int}(h0:0<=i):gP ds (some i) none=ds.drop i.toNat:=by
 unfold gP;rw[Dw.Jr _ _ h0,HT.zF];by_cases h:i.toNat<=ds.length
 ·rw[Xa h,ZT (by rw[ZW];lia)]
 ·rw[XV (by lia),List.drop_length,Xu,List.drop_eq_nil_of_le (by lia)]
theorem tH{n:Nat}{i:Int}(hn:S[n]?=some (.lst ds))(h0:0<=i):slS (some i) none (.ref n) S=some (.ref (Zb S),S++[.lst (ds.drop i.toNat)]):=by
 simp only[slS,ak hn,Db h0]
def NB(L:List (Int × Int)):Prop:=∀z ∈ L,z.1.natAbs<=10 ^ 20
theorem Dc(g6:K.G.length<=6)(h:InR K (L.map (·.1))):NB L:=λz hz=>by
 have:=h z.1 (ZH.mpr ⟨z,hz,rfl⟩)
 lia
def Lnd(p:Nat)(S:Sto)(m:Nat)(K:Sky)(d:D):Prop:=∃ (N:Nat) (L:List (Int × Int)),d = .ref N/\N ≠ p/\S[N]?=some (.lst (L.map ac))/\L.length<=m/\NB L
theorem Rg(V:Vd K):∀S',Sm S S'->∀g:Int,0<=g->g < K.G.length->∃a b c d e f h:Int,0<=a/\a < K.M.length/\ixS (.tup (K.G.map ay)) (.int g) S'=some (ay [a,b,c,d,e,f,h],S'):=λS' _ g g0 g1=>by
 obtain⟨a,b,c,d,e,f,h,eg,e0,e1,e2,e3,e6,k0,k1,c0⟩:=gl7 V g0 g1;exact⟨a,b,c,d,e,f,h,k0,k1,dh g0 eg⟩
theorem xu(V:Vd K){os:List Int}(ho:InR K os)(lo:os.length<=20)
  (q:∀ (L:List (Int × Int)) N S',Sm S S'->S'[N]?=some (.lst (L.map ac))->S.length<=N->L.map (·.1)=os->Q (.ref N) S'):Ok (evC ae (k+2) 51 [skE K,.tup (os.map D.int)] S) Q:=
 run_ok (fx:=.tup (K.F.map D.int)) V (.inl rfl) ho lo (Rg V) q
theorem tI(h:Pot p S)(sk:SkOk K)(g6:K.G.length<=6){N:Nat}{L:List (Int × Int)}{u3 u4:Option D}(nN:N ≠ p)(hN:S[N]?=some (.lst (L.map ac)))(lL:L.length<=12)(iL:InR K (L.map (·.1)))
  (q:∀d S',Dr p S S'->Lnd p S' 12 K d->Q d S') :
  rW (wSs (evC ae (k+4)) (cF ae) 57 (dM.drop 3)) [some (.ref p),some (skE K),some (.ref N),u3,u4,none,none,none,none,none] S (out Q):=by
 dsimp only[dM,Z8];have V:=sk.vd;k_is;refine⟨by rw[ak hN];rfl,?_⟩;refine a9 L ac (λz=>[.int z.1]) (by lia) (λ_ _=>Ze _) (ce hN) (λi y S' hy sm=>⟨_,rfl,?_⟩) λS2 s2=>?_
 ·k_is;exact aa (show ixS (ac y) (.int 0) S'=some (.int y.1,S') from rfl) ⟨rfl,Sm.refl _⟩
 rw[aU,jl];k_is;have lt2:=(Dr.sm h s2).pot.lt;have d3:Dr p S (S2++[Ob.lst ((L.map (·.1)).map D.int)]):=Dr.sm h (s2.trans (Sm.app _ _));have a3:(S2++[Ob.lst ((L.map (·.1)).map D.int)])[Zb S2]?=some (.lst ((L.map (·.1)).map D.int)):=al;have n3:Zb S2 ≠ p:=by lia
 generalize S2++[Ob.lst ((L.map (·.1)).map D.int)]=S3 at *;generalize Zb S2=N3 at *;refine aa (dE a3) ?_;k_is;rw[Za,Za];refine⟨rfl,ax d3.pot (by lia) (by lia) λx S4 x1 x2 d4=>?_⟩;refine⟨rfl,ax d4.pot (by decide) (by decide) λy S5 y1 y2 d5=>?_⟩;k_is;have d35:=d4.trans d5;have a5:=d35.kp _ _ n3 a3;have d5':=d3.trans d35;refine aa sk2 ?_;k_is;refine dY K.G.length (λi=>.tup [.int i,((K.G.map ay)[i]?).getD .non]) (λi acc S'=>Sm S5 S'/\∃R:List (List Int),acc=R.map ay/\R.length=i/\∀ (j:Nat) r,R[j]?=some r->∃a b c d e f h:Int,r=[a,b,c,d,e,f,h]/\0<=a/\a < K.M.length) (λi acc S' hi _=>?_) (by lia) (λi acc S6 hi ⟨s6,R,ea,lR,bR⟩=>?_) (λes S6 ⟨s6,R,ea,lR,bR⟩=>⟨by rw[ea,Za];lia,?_⟩) ⟨Sm.refl _,[],rfl,rfl,λj r e=>by cases e⟩
 ·show enm (K.G.map ay) i=_;unfold enm;rw[if_pos (by rw[Za];exact hi)];split
  ·rename_i hlt;rw[gEG (by rw[Za];exact hlt)];rfl
  ·rw[ZC (by rw[Za];lia)];rfl
 ·obtain⟨a,b,c,d,e,f,h',eg,e0,e1,e2,e3,e6,k0,k1,c0⟩:=gl7 V (g:=(i:Int)) (by lia) (by lia);rw[Zn] at eg;have ez:((K.G.map ay)[i]?).getD .non = .tup [.int a,.int b,.int c,.int d,.int e,.int f,.int h']:=by rw[Zm,eg];rfl
  rw[ez];refine⟨_,bT (by simp) (by simp),?_⟩;k_is;rw[show gP [D.int a,.int b,.int c,.int d,.int e,.int f,.int h'] none (some 2)=[.int a,.int b] from rfl];k_is;refine aa (show ixS (.tup [D.int a,.int b,.int c,.int d,.int e,.int f,.int h']) (.int 2) S6=some (.int c,S6) from rfl) ?_;k_is;refine aa (tH (s6 _ _ a5) x1) ?_;have s7:Sm S6 (S6++[Ob.lst (((L.map (·.1)).map D.int).drop x.toNat)]):=Sm.app _ _;have a7:(S6++[Ob.lst (((L.map (·.1)).map D.int).drop x.toNat)])[Zb S6]?=some (.lst (((L.map (·.1)).drop x.toNat).map D.int)):=by rw[al,Xw]
  generalize S6++[Ob.lst (((L.map (·.1)).map D.int).drop x.toNat)]=S7 at *;k_is;refine aa (show az .isin (.int (i:Int)) (.ref (Zb S6)) S7=some (.bl (false != decide ((i:Int) ∈ (L.map (·.1)).drop x.toNat)),S7) from nK false a7 (i:Int)) ?_;k_is;refine aa (show Ax (.bl (false != decide ((i:Int) ∈ (L.map (·.1)).drop x.toNat))) S7=some (.int (if (false != decide ((i:Int) ∈ (L.map (·.1)).drop x.toNat)) then 1 else 0),S7) from rfl) ?_;k_is;refine⟨gJ (by lia) (by lia),?_⟩;refine⟨by show 3<=1000;decide,?_⟩;rw[show gP [D.int a,.int b,.int c,.int d,.int e,.int f,.int h'] (some 3) none=[.int d,.int e,.int f,.int h'] from rfl];k_is;refine⟨by show 7<=1000;decide,?_⟩;refine⟨s6.trans s7,R++[[a,b,c+y * (if (false != decide ((i:Int) ∈ (L.map (·.1)).drop x.toNat)) then 1 else 0),d,e,f,h']],by rw[ea,ZA];rfl,by rw[Zr,ZR];lia,λj r hj=>?_⟩;by_cases hjl:j < R.length
  ·rw[Zw hjl] at hj;exact bR j r hj
  ·have hll:=(Zc.mp hj).1;rw[Zr,ZR] at hll;obtain rfl:j=R.length:=by lia
   rw[Zs (Ze _),Yx] at hj;cases hj;exact⟨_,_,_,_,_,_,_,rfl,k0,k1⟩
 ·subst ea;k_is;have s7:Sm S6 (S6++[Ob.lst (R.map ay)]):=Sm.app _ _;have a7:(S6++[Ob.lst (R.map ay)])[Zb S6]?=some (.lst (R.map ay)):=al;have s57:=s6.trans s7;generalize S6++[Ob.lst (R.map ay)]=S7 at *;generalize Zb S6=N7 at *;have d7:=d5'.thenSm s57;refine aa sk0 (aa sk1 (aa sk3 ?_));k_is;refine⟨rfl,run_ok (k:=k+2) (gv:=.ref N7) (fx:=.tup (K.F.map D.int)) V (.inr ⟨N3,rfl,s57 _ _ a5⟩) iL (by rw[Za];lia) (λS' sm g g0 g1=>?_) λL' N8 S8 s8 hN8 l8 eL'=>?_⟩
  ·have hg:g.toNat < R.length:=by lia
   obtain⟨a,b,c,d,e,f,h',er,k0,k1⟩:=bR g.toNat R[g.toNat] (gEG hg);exact⟨a,b,c,d,e,f,h',k0,k1,cg (sm _ _ a7) g0 (by rw[Zm,gEG hg,er];rfl)⟩
  ·have lL':L'.length<=12:=by have:=congrArg Zb eL';rw[Za,Za] at this;lia
   k_is;refine⟨rfl,kc (k:=k+1) sk hN8 (by lia) λS9 s9=>?_⟩;k_is;refine aa j9 ?_;k_is;have lt7:=d7.pot.lt;have d9:=(d7.thenSm s8).thenSm s9;cases bu (amF K L') with
   |true=>k_is;exact q _ S9 d9 ⟨N8,L',rfl,by lia,s9 _ _ hN8,lL',Dc g6 (by rw[eL'];exact iL)⟩
   |false=>k_is;exact q _ S9 d9 ⟨N,L,rfl,nN,d9.kp _ _ nN hN,lL,Dc g6 iL⟩
theorem vJ(h:Pot p S)(sk:SkOk K)(g6:K.G.length<=6)(q:∀d S',Dr p S S'->(d = .non\/Lnd p S' 12 K d)->Q d S'):Ok (evC ae (k+5) 57 [.ref p,skE K] S) Q:=by
 refine aC (d:=dX) (ρ:=[some (.ref p),some (skE K),none,none,none,none,none,none,none,none]) rfl rfl ?_;have tail:=@tI p;dsimp only[dX];dsimp only[dM,Z8] at tail ⊢;have V:=sk.vd;k_is;refine⟨by decide,?_⟩;refine gw (by decide) (λi ρ S'=>Dr p S S'/\∃ (d:D) (u v:Option D),ρ=[some (.ref p),some (skE K),some d,u,v,none,none,none,none,none]/\(d = .non\/∃ (N:Nat) (L:List (Int × Int)),d = .ref N/\N ≠ p/\S'[N]?=some (.lst (L.map ac))/\L.length<=12/\InR K (L.map (·.1)))) (λi ρ S1 hi hq1=>?_) (λρ S1 hq2=>?_) ⟨Dr.refl h,.non,none,none,rfl,.inl rfl⟩
 ·obtain⟨d1,d,u,v,er,hd⟩:=hq1;subst er;refine⟨_,rfl,?_⟩;k_is;refine⟨rfl,pO (k:=k+1) d1.pot sk g6 λos S2 d2 ho lo=>?_⟩;refine⟨rfl,xu (k:=k+2) V ho (by lia) λL N S3 s3 hN lN eL=>?_⟩;k_is;have lL:L.length<=12:=by have:=congrArg Zb eL;rw[Za] at this;lia
  have d3:=(d1.trans d2).thenSm s3;have lt2:=d2.pot.lt;have nN:N ≠ p:=by lia
  refine aa j9 ?_;k_is;rcases hd with rfl |⟨N0,L0,rfl,n0,h0,l0,i0⟩
  ·rw[show bu .non=true from rfl];k_is;refine⟨rfl,kc (k:=k+1) sk hN (by lia) λS4 s4=>?_⟩;k_is;refine aa j9 ?_;k_is;cases bu (amF K L) with
   |true=>k_is;exact⟨d3.thenSm s4,_,_,_,rfl,.inr ⟨N,L,rfl,nN,s4 _ _ hN,lL,by rw[eL];exact ho⟩⟩
   |false=>k_is;exact⟨d3.thenSm s4,_,_,_,rfl,.inl rfl⟩
  ·rw[show bu (.ref N0)=false from rfl];k_is;exact⟨d3,_,_,_,rfl,.inr ⟨N0,L0,rfl,n0,(d2.thenSm s3).kp _ _ n0 h0,l0,i0⟩⟩
 ·obtain⟨d1,d,u,v,er,hd⟩:=hq2;subst er;k_is;refine aa j9 ?_;k_is;rcases hd with rfl |⟨N0,L0,rfl,n0,h0,l0,i0⟩
  ·rw[show bu .non=true from rfl];k_is;exact q _ S1 d1 (.inl rfl)
  ·rw[show bu (.ref N0)=false from rfl];k_is;exact tail (k:=k) d1.pot sk g6 n0 h0 l0 i0 λd S' d' hd=>q d S' (d1.trans d') (.inr hd)
theorem G3{n:Nat}{i:Int}(hn:S[n]?=some (.lst ds))(h0:0<=i)(h1:i.toNat < ds.length):eB (.ref n) (.int i) v S=some (S.set n (.lst (ds.set i.toNat v))):=by
 have hix:ixN ds.length i=some i.toNat:=by
  unfold ixN;rw[if_pos (by lia),if_pos (by lia)]
 simp only[eB,hn,hix,Zq]
theorem zi{n:Nat}{L:List (Int × Int)}{j:Nat}(hn:S[n]?=some (.lst (L.map ac)))(hj:j < L.length):eT (.ref n) [.int (j:Int)] S=some (ac L[j],S.set n (.lst ((L.eraseIdx j).map ac))):=by
 have hix:ixN (L.map ac).length (j:Int)=some j:=by
  unfold ixN;rw[if_pos (by lia),if_pos (by rw[Za];lia),Zn]
 have hg:(L.map ac)[j]?=some (ac L[j]):=by rw[Zm,gEG hj];rfl
 simp only[eT,chg,hn,hix,hg,Zq,qR]
theorem zj{n:Nat}{i:Int}(hn:S[n]?=some (.lst (L.map ac)))(h0:0<=i)(h1:i<=1000)(hl:L.length<=1000):uE (.ref n) [.int i,ac z] S=some (.non,S.set n (.lst ((dr L (min i.toNat L.length) z).map ac))):=by
 have e:dr (L.map ac) (min i.toNat (L.map ac).length) (ac z)=(dr L (min i.toNat L.length) z).map ac:=by
  unfold dr;rw[Za,ZA,Zv,Yp,Xw]
 simp only[uE,chg,hn];rw[if_pos ⟨h0,by lia⟩,if_pos (by rw[Za];lia),e];rfl
theorem gy{n:Nat}{L:List (Int × Int)}{i:Int}{z:Int × Int}(hn:S[n]?=some (.lst (L.map ac)))(h0:0<=i)(h1:i.toNat < L.length):eB (.ref n) (.int i) (ac z) S=some (S.set n (.lst ((L.set i.toNat z).map ac))):=by
 rw[G3 hn h0 (by rw[Za];exact h1),Wg]
theorem nQ{i:Nat}(h:NB L)(hz:z.1.natAbs<=10 ^ 20):NB (L.set i z):=λy hy=>by
 rcases YW hy with h' |rfl
 ·exact h y h'
 ·exact hz
theorem M7{i:Nat}(h:NB L)(hz:z.1.natAbs<=10 ^ 20):NB (dr L i z):=λy hy=>by
 unfold dr at hy;rcases ZG.mp hy with hy |hy
 ·exact h y (Z5 hy)
 ·rcases Zk.mp hy with rfl |hy
  ·exact hz
  ·exact h y (Xl hy)
theorem zk(h:Pot p S)(sk:SkOk K){N:Nat}{L:List (Int × Int)}(hN:S[N]?=some (.lst (L.map ac)))(lL:L.length<=100)(bL:NB L)(q:∀d S',Dr p S S'->Lnd p S' (L.length+1) K d->Q d S'):Ok (evC ae (k+2) 58 [.ref p,.ref N,skE K] S) Q:=by
 refine aC (d:=fb) (ρ:=[some (.ref p),some (.ref N),some (skE K),none,none,none,none,none,none]) rfl rfl ?_;dsimp only[fb,je];have g7:=sk.g7;k_is;have it:ao (.ref N) S=some (false,L.map ac):=by simp only[ao,ak hN,Zq]
 rw[it];show Ok (some (L.map ac,S)) _;rw[aF];k_is;have lt:=h.lt;have d0:Dr p S (S++[Ob.lst (L.map ac)]):=Dr.sm h (Sm.app _ _);have a0:(S++[Ob.lst (L.map ac)])[Zb S]?=some (.lst (L.map ac)):=al;have nA:Zb S ≠ p:=by lia
 have lA:S.length<=Zb S:=Ze _;generalize S++[Ob.lst (L.map ac)]=S0 at *;generalize hAA:Zb S=A at *;refine⟨rfl,ax d0.pot (by decide) (by decide) λw S1 w1 w2 d1=>?_⟩;k_is;have d01:=d0.trans d1;have a1:=d1.kp _ _ nA a0
 have finS:∀ (L':List (Int × Int)) (S2:Sto) (o:Ob),Dr p S S2->S2[A]?=some o->L'.length<=L.length+1->NB L'->Q (.ref A) (S2.set A (.lst (L'.map ac))):=λL' S2 o d2 h2 l2 b2=>by
  have lt2:A < S2.length:=(Zc.mp h2).1;exact q _ _ ⟨d2.kp.setNew (by lia),d2.pot.setNe nA⟩ ⟨A,L',rfl,nA,iI lt2,l2,b2⟩
 have insB:∀ (Qf:Fl->Rho->Sto->Prop),(∀d ρ S',Q d S'->Qf (.rt d) ρ S')->∀ (S2:Sto),Dr p S S2->S2[A]?=some (.lst (L.map ac))->rW (wSs (evC ae (k+1)) (cF ae) 56 [.ex (.ins (.var 3) (.call 42 [(.var 0),(.bin .add (.len (.var 3)) (.int 1))]) (.tup [(.bin .sub (.call 42 [(.var 0),(.bin .add (.len (.ix (.var 2) (.int 2))) (.int 2))]) (.int 1)),(.call 42 [(.var 0),(.int 120)])])),.ret (.var 3)]) [some (.ref p),some (.ref N),some (skE K),some (.ref A),some (.int w),none,none,none,none] S2 Qf:=λQf hq S2 d2 h2=>by
  k_is;refine⟨gx h2,?_⟩;refine aa (dE h2) ?_;k_is;rw[Za];refine⟨rfl,ax d2.pot (by lia) (by lia) λx S3 x1 x2 d3=>?_⟩;refine aa sk2 (aa bp ?_);k_is;refine⟨rfl,ax d3.pot (by lia) (by lia) λy S4 y1 y2 d4=>?_⟩;k_is;refine⟨rfl,ax d4.pot (by decide) (by decide) λm S5 m1 m2 d5=>?_⟩;k_is;have d25:=(d3.trans d4).trans d5;have h5:=d25.kp _ _ nA h2;refine aa (zj (z:=(y - 1,m)) h5 x1 (by lia) (by lia)) ?_;k_is;refine hq _ _ _ (finS _ S5 _ (d2.trans d25) h5 ?_ (M7 bL (by show(y - 1).natAbs<=_;lia)));unfold dr;rw[Zr,ZE,Zt,ZW]
  lia
 have s2:Sm S1 (S1++[Ob.lst []]):=Sm.app _ _;have lt1:A < S1.length:=(Zc.mp a1).1;refine aa (KO (Sm.app _ _ _ _ a1) al (by lia)) ?_;have d2:=d01.thenSm s2;have a2:=s2 _ _ a1;generalize S1++[Ob.lst []]=S2 at *;k_is;cases hE:L with
 |nil=>
  rw[show(([]:List (Int × Int)).map ac).isEmpty=true from rfl];k_is;exact insB _ (λd ρ S' z=>z) S2 d2 a2
 |cons z0 L0=>
  rw[show((z0::L0).map ac).isEmpty=false from rfl];k_is;have l1:1<=L.length:=by rw[hE,ZE];lia
  clear hE z0 L0;cases c0:decide (w=0) with
  |true=>
   k_is;exact insB _ (λd ρ S' z=>z) S2 d2 a2
  |false=>
  k_is;refine aa (dE a2) ?_;rw[Za];refine⟨rfl,ax d2.pot (by lia) (by lia) λx0 S3 x1 x2 d3=>?_⟩;have a3:=d3.kp _ _ nA a2;refine aa (dE a3) ?_;rw[Za];refine⟨rfl,ax d3.pot (by lia) (by lia) λy0 S4 y1 y2 d4=>?_⟩;k_is;obtain⟨x,rfl⟩:∃n:Nat,x0=(n:Int):=⟨x0.toNat,by lia⟩;obtain⟨y,rfl⟩:∃n:Nat,y0=(n:Int):=⟨y0.toNat,by lia⟩;have hx:x < L.length:=by lia
  have hy:y < L.length:=by lia
  have a4:=d4.kp _ _ nA a3;have d04:=(d2.trans d3).trans d4;have ix:∀ {S':Sto},S'[A]?=some (.lst (L.map ac))->ixS (.ref A) (.int (x:Int)) S'=some (ac L[x],S'):=λhh=>cg hh (by lia) (nP (gEG hx));have iy:∀ {S':Sto},S'[A]?=some (.lst (L.map ac))->ixS (.ref A) (.int (y:Int)) S'=some (ac L[y],S'):=λhh=>cg hh (by lia) (nP (gEG hy));refine aa (ix a4) ?_;rw[show ac L[x] = .tup [.int L[x].1,.int L[x].2] from rfl];k_is;have setL:∀z:Int × Int,(L.set ((x:Nat):Int).toNat z).length<=L.length+1:=λz=>by rw[Yh];lia
  have hxt:((x:Nat):Int).toNat < L.length:=by rw[Zn];exact hx
  cases c1:decide (w=1) with
  |true=>
   k_is;refine⟨gx a4,?_⟩;refine aa (zi a4 hx) ?_;k_is;exact finS _ S4 _ d04 a4 (by rw[YT hx];lia) λz hz=>bL z (List.mem_of_mem_eraseIdx hz)
  |false=>
  k_is;cases c2:decide (w=2) with
  |true=>
   k_is;refine aa (iy a4) (aa (ix a4) ?_);k_is;refine⟨_,_,rfl,?_⟩;refine⟨_,gy a4 (by lia) hxt,?_⟩;have lt4:A < S4.length:=(Zc.mp a4).1;have a5:(S4.set A (.lst ((L.set ((x:Nat):Int).toNat L[y]).map ac)))[A]?=some (.lst ((L.set ((x:Nat):Int).toNat L[y]).map ac)):=iI lt4;have d5:Dr p S (S4.set A (.lst ((L.set ((x:Nat):Int).toNat L[y]).map ac))):=⟨d04.kp.setNew (by lia),d04.pot.setNe nA⟩;refine⟨_,gy a5 (by lia) (by rw[Yh,Zn];exact hy),?_⟩;k_is;exact finS _ _ _ d5 a5 (by rw[Yh,Yh];lia) (nQ (nQ bL (bL _ (Zy hy))) (bL _ (Zy hx)))
  |false=>
  k_is;cases c3:decide (w=3) with
  |true=>
   k_is;refine aa (iy a4) (aa (show ixS (ac L[y]) (.int 0) S4=some (.int L[y].1,S4) from rfl) ?_);k_is;refine⟨_,gy (z:=(L[y].1,L[x].2)) a4 (by lia) hxt,?_⟩;k_is;exact finS _ S4 _ d04 a4 (setL _) (nQ bL (bL L[y] (Zy hy)))
  |false=>
  k_is;cases c4:decide (w=4) with
  |true=>
   k_is;refine aa sk2 (aa bp ?_);k_is;refine⟨⟨by decide,by decide,by decide⟩,?_⟩;refine⟨rfl,ax d4.pot (by decide) (by decide) λi S5 i1 i2 d5=>?_⟩;k_is
   obtain⟨e,ate,be⟩:∃e:Int,atI [D.int (-1),D.int (K.G.length:Int),D.int (10 ^ Int.toNat 20)] i=some (D.int e)/\e.natAbs<=10 ^ 20:=by
    have:i=0\/i=1\/i=2:=by lia
    rcases this with rfl |rfl |rfl
    ·exact⟨_,rfl,by decide⟩
    ·exact⟨_,rfl,by lia⟩
    ·exact⟨_,rfl,by decide⟩
   refine⟨_,ate,?_⟩;k_is;have a5:=d5.kp _ _ nA a4;refine⟨_,gy (z:=(e,L[x].2)) a5 (by lia) hxt,?_⟩;k_is;exact finS _ S5 _ (d04.trans d5) a5 (setL _) (nQ bL be)
  |false=>
  k_is;cases c5:decide (w=5) with
  |true=>
   k_is;refine⟨⟨by decide,by decide,by decide⟩,?_⟩;refine⟨⟨by decide,by decide,by decide⟩,?_⟩;refine⟨rfl,ax d4.pot (by decide) (by decide) λi S5 i1 i2 d5=>?_⟩;k_is
   obtain⟨e,ate⟩:∃e:Int,atI [D.int (-1),D.int 1,D.int (10 ^ Int.toNat 20),D.int (-(10 ^ Int.toNat 20))] i=some (D.int e):=by
    have:i=0\/i=1\/i=2\/i=3:=by lia
    rcases this with rfl |rfl |rfl |rfl
    ·exact⟨_,rfl⟩
    ·exact⟨_,rfl⟩
    ·exact⟨_,rfl⟩
    ·exact⟨_,rfl⟩
   refine⟨_,ate,?_⟩;k_is;have a5:=d5.kp _ _ nA a4;refine⟨_,gy (z:=(L[x].1,L[x].2+e)) a5 (by lia) hxt,?_⟩;k_is;exact finS _ S5 _ (d04.trans d5) a5 (setL _) (nQ bL (bL L[x] (Zy hx)))
  |false=>
  k_is;refine aa (fe a4) ?_;have s5:Sm S4 (S4++[Ob.lst ((L.map ac).take x)]):=Sm.app _ _;have a5:(S4++[Ob.lst ((L.map ac).take x)])[Zb S4]?=some (.lst ((L.take x).map ac)):=by rw[al,Yp]
  generalize S4++[Ob.lst ((L.map ac).take x)]=S5 at *;generalize hN4:Zb S4=N4 at *;refine aa (tH (s5 _ _ a4) (by lia)) ?_;have s6:Sm S5 (S5++[Ob.lst ((L.map ac).drop ((x:Nat):Int).toNat)]):=Sm.app _ _;have a6:(S5++[Ob.lst ((L.map ac).drop ((x:Nat):Int).toNat)])[Zb S5]?=some (.lst ((L.drop x).map ac)):=by rw[al,Xw,Zn]
  generalize S5++[Ob.lst ((L.map ac).drop ((x:Nat):Int).toNat)]=S6 at *;generalize Zb S5=N5 at *;k_is;refine⟨by rw[ak a6];rfl,?_⟩;refine a9 (L.drop x) ac (λz=>[ac (z.1,z.2+1)]) (by rw[ZW];lia) (λ_ _=>Ze _) (ce a6) (λi z S' hz sm=>⟨_,show aA (.tup [.name 9,.name 10]) (.tup [.int z.1,.int z.2]) _=_ from bT (by simp) (by simp),?_⟩) λS7 s7=>?_
  ·k_is;show 6
  rw[aU];have em:((L.drop x).map λz=>ac (z.1,z.2+1))=((L.drop x).map λz=>(z.1,z.2+1)).map ac:=by rw[ZX];rfl
  rw[em];have s8:Sm S7 (S7++[Ob.lst (((L.drop x).map λz=>(z.1,z.2+1)).map ac)]):=Sm.app _ _;refine aa (jh (s8 _ _ (s7 _ _ (s6 _ _ a5))) al (by rw[Za,Za,Za,Zt,ZW];lia)) ?_;k_is;rw[<-ZA];have d8:=d04.thenSm (((s5.trans s6).trans s7).trans s8);have lt8:=d8.pot.lt;refine q _ _ (d8.thenSm (Sm.app _ _)) ⟨_,L.take x++(L.drop x).map λz=>(z.1,z.2+1),rfl,by lia,al,?_,λz hz=>?_⟩
  ·rw[Zr,Za,Zt,ZW]
   lia
  ·rcases ZG.mp hz with hz |hz
   ·exact bL z (Z5 hz)
   ·obtain⟨y,hy,rfl⟩:=ZH.mp hz;exact bL y (Xl hy)
end Lw
namespace Lw
open PySem Ev L2
variable {p:Nat} {S:Sto} {k:Nat} {Q:D->Sto->Prop}
structure Shw(t:Dw.D):Prop where
 sh:Dw.Shn t
 de:Dw.dep t<=50
 wi:Dw.wid t<=1000
theorem Dd{n m B s:Nat}(f:Dw.Fit n m t)(b:Dw.Bd B s t)(hn:n<=50)(hm:m<=1000)(hB:B<=10 ^ 50)(hs:s<=16000000):Shw t:=
 ⟨b.shn hB (by rw[Ua];lia) (ZF f.de (by lia)),ZF f.de hn,ZF f.wi hm⟩
mutual
theorem xv:∀ (n:Nat) {t:Dw.D} {d:D},Dw.dep t < n->TD p S t d->cH n S d=some t
 |n+1,.non,_,_,h=>by rw[h.non];simp only[cH]
 |n+1,.bl _,_,_,h=>by rw[h.bl];simp only[cH]
 |n+1,.int _,_,_,h=>by rw[h.int];simp only[cH]
 |n+1,.str _,_,_,h=>by rw[h.str];simp only[cH]
 |n+1,.tup ts,_,hd,h=>by
  obtain⟨ds,rfl,q⟩:=h.tup;rw[Dw.dep] at hd;simp only[cH,jp n (by lia) q,Zq]
 |n+1,.lst ts,_,hd,h=>by
  rw[TD] at h;obtain⟨m,ds,rfl,_,e,q⟩:=h;rw[Dw.dep] at hd;simp only[cH,e,jp n (by lia) q,Zq]
 |n+1,.dic ks ts,_,hd,h=>by
  rw[TD] at h;obtain⟨m,ds,rfl,_,e,q⟩:=h;rw[Dw.dep] at hd;simp only[cH,e,jp n (by lia) q,Zq]
theorem jp:∀ (n:Nat) {ts:List Dw.D} {ds:List D},Dw.lU ts < n->TDs p S ts ds->cm (cH n S) ds=some ts
 |n,[],_,_,h=>by rw[h.nil];simp only[cm]
 |n,t::ts,_,hd,h=>by
  obtain⟨d,r,rfl,a,q⟩:=h.cons;rw[Dw.lU] at hd;simp only[cm,xv n (by lia) a,jp n (by lia) q]
end
theorem xy(h:TD p S t d)(s:Shw t):kj d S=some (.str (Dw.aW t).shown,S):=by
 unfold kj;rw[xv 100 (by have:=s.de;lia) h];dsimp only;rw[if_pos s.sh]
theorem G4(x y:Str)(S:Sto):az .ne (.str x) (.str y) S=some (.bl (!(x == y)),S):=ma (x:=.str x) (y:=.str y) (b:=x == y) rfl
end Lw
namespace Lw
open PySem Ev Sn L2
variable {p:Nat} {S S':Sto} {k:Nat} {Q:D->Sto->Prop} {K:Sky}
abbrev tJ:List Dw.D:=[.non,.bl true,.bl false,.int (-1),.int (10 ^ 30),.str "", .str "a", .str "1", .tup [],.lst [],.dic [] [],.lst [.tup []],.tup [.tup []],.tup [.int 0],.lst [.int 0],.dic [og 0] [.int 1],.tup [.bl true,.bl true]]
theorem xz(h:Pot p S)(q:∀t d S',Dr p S S'->TD p S' t d->t ∈ tJ->Q d S'):Ok (evC ae (k+2) 59 [.ref p] S) Q:=by
 refine aC (d:=j4) (ρ:=[some (.ref p),none]) rfl rfl ?_;dsimp only[j4,pA];k_is;refine⟨⟨by decide,by decide,by decide⟩,?_⟩;have lt:=h.lt;have g0:=@al S (Ob.lst []);have g1:=@al (S++[Ob.lst []]) (Ob.dic [] []);have g2:=@al (S++[Ob.lst []]++[Ob.dic [] []]) (Ob.lst [D.tup []]);have g3:=@al (S++[Ob.lst []]++[Ob.dic [] []]++[Ob.lst [D.tup []]]) (Ob.lst [D.int 0]);have g4:=@al (S++[Ob.lst []]++[Ob.dic [] []]++[Ob.lst [D.tup []]]++[Ob.lst [D.int 0]]) (Ob.dic [og 0] [D.int 1]);have n0:Zb S ≠ p:=by lia
 have n1:Zb (S++[Ob.lst []]) ≠ p:=by simp;lia
 have n2:Zb (S++[Ob.lst []]++[Ob.dic [] []]) ≠ p:=by simp;lia
 have n3:Zb (S++[Ob.lst []]++[Ob.dic [] []]++[Ob.lst [D.tup []]]) ≠ p:=by simp;lia
 have n4:Zb (S++[Ob.lst []]++[Ob.dic [] []]++[Ob.lst [D.tup []]]++[Ob.lst [D.int 0]]) ≠ p:=by simp;lia
 have n5:Zb (S++[Ob.lst []]++[Ob.dic [] []]++[Ob.lst [D.tup []]]++[Ob.lst [D.int 0]]++[Ob.dic [og 0] [D.int 1]]) ≠ p:=by simp;lia
 have s1:=Sm.app S [Ob.lst []];have s2:=Sm.app (S++[Ob.lst []]) [Ob.dic [] []];have s3:=Sm.app (S++[Ob.lst []]++[Ob.dic [] []]) [Ob.lst [D.tup []]];have s4:=Sm.app (S++[Ob.lst []]++[Ob.dic [] []]++[Ob.lst [D.tup []]]) [Ob.lst [D.int 0]];have s5:=Sm.app (S++[Ob.lst []]++[Ob.dic [] []]++[Ob.lst [D.tup []]]++[Ob.lst [D.int 0]]) [Ob.dic [og 0] [D.int 1]];generalize hE:(S++[Ob.lst []]++[Ob.dic [] []]++[Ob.lst [D.tup []]]++[Ob.lst [D.int 0]]++[Ob.dic [og 0] [D.int 1]])=E at *;have s6:=λo=>Sm.app E [o];have g5:=λo=>@al E o;generalize Zb (S++[Ob.lst []]++[Ob.dic [] []]++[Ob.lst [D.tup []]]++[Ob.lst [D.int 0]])=i4 at *;generalize Zb (S++[Ob.lst []]++[Ob.dic [] []]++[Ob.lst [D.tup []]])=i3 at *;generalize Zb (S++[Ob.lst []]++[Ob.dic [] []])=i2 at *;generalize Zb (S++[Ob.lst []])=i1 at *
 have td:∀o,TDs p (E++[o]) tJ [D.non,D.bl true,D.bl false,D.int (-1),D.int (10 ^ Int.toNat 30),D.str (Str.ofString ""),D.str (Str.ofString "a"),D.str (Str.ofString "1"),D.tup [],D.ref (Zb S),D.ref i1,D.ref i2,D.tup [D.tup []],D.tup [D.int 0],D.ref i3,D.ref i4,D.tup [D.bl true,D.bl true]]:=λo=>by
  refine ag vf (ag wX (ag wX (ag bc (ag bc (ag nv (ag nv (ag nv (ag (bA aM) (ag (iJ n0 (s6 o _ _ (s5 _ _ (s4 _ _ (s3 _ _ (s2 _ _ g0))))) aM) (ag (B0 n1 (s6 o _ _ (s5 _ _ (s4 _ _ (s3 _ _ g1)))) aM) (ag (iJ n2 (s6 o _ _ (s5 _ _ (s4 _ _ g2))) (ag (bA aM) aM)) (ag (bA (ag (bA aM) aM)) (ag (bA (ag bc aM)) (ag (iJ n3 (s6 o _ _ (s5 _ _ g3)) (ag bc aM)) (ag (B0 n4 (s6 o _ _ g4) (ag bc aM)) (ag (bA (ag wX (ag wX aM))) aM))))))))))))))))
 have d0:∀o,Dr p S (E++[o]):=λo=>Dr.sm h ((((s1.trans s2).trans s3).trans s4).trans (s5.trans (s6 o)));generalize [D.non,D.bl true,D.bl false,D.int (-1),D.int (10 ^ Int.toNat 30),D.str (Str.ofString ""),D.str (Str.ofString "a"),D.str (Str.ofString "1"),D.tup [],D.ref (Zb S),D.ref i1,D.ref i2,D.tup [D.tup []],D.tup [D.int 0],D.ref i3,D.ref i4,D.tup [D.bl true,D.bl true]]=L at *;have ll:L.length=17:=(td (Ob.lst [])).len;have lq:av cq (D.ref (Zb E)) (E++[Ob.lst L])=some (.int 17,E++[Ob.lst L]):=by simp only[av,ao,ak (g5 _),Zq,cq,ll];rfl
 k_is;refine aa lq ?_;k_is;refine⟨rfl,ax (d0 _).pot (by decide) (by decide) λr S1 r1 r2 d1=>?_⟩;obtain⟨n,rfl⟩:∃n:Nat,r=(n:Int):=⟨r.toNat,by lia⟩;have a1:=d1.kp _ _ n5 (g5 (Ob.lst L));have hn:n < tJ.length:=by show n < 17;lia
 obtain⟨d,e1,tdn⟩:=((td (Ob.lst L)).keep d1.kp).get (gEG hn);have ix:ixS (.ref (Zb E)) (.int (n:Int)) S1=some (d,S1):=by simp only[ixS,ao,ak a1,Zq,Ev.pV e1]
 refine aa ix ?_;k_is;exact q _ _ _ ((d0 _).trans d1) tdn (Zy hn)
abbrev jq(L:List (Int × Int)):Int:=cZ (0::L.map (·.2))
abbrev dF(K:Sky)(z:Int × Int):Int:=gi K.G z.1 5 * (if z.2 - gi K.G z.1 4 > 0 then z.2 - gi K.G z.1 4 else 0)
abbrev cQ(K:Sky)(L:List (Int × Int)):Int:=(L.map (dF K)).sum
theorem tK(h:amF K L = .non):∀z ∈ L,0<=z.1/\z.1 < K.G.length/\gi K.G z.1 2<=z.2/\z.2<=gi K.G z.1 3:=by
 have h1:(Zj L.length).findSome? (jj K L)=none:=by
  cases c:(Zj L.length).findSome? (jj K L) with
  |none=>rfl
  |some d=>
   unfold amF at h;rw[c] at h;dsimp only at h;subst h;obtain⟨j,_,hj⟩:=YI c;unfold jj at hj;cases hz:L[j]? with
   |none=>rw[hz] at hj;cases hj
   |some z=>
    rw[hz,Yt] at hj;cases hw:bX K (L.take j) j z with
    |none=>rw[hw] at hj;cases hj
    |some w=>rw[hw] at hj;cases hj
 intro z hz;obtain⟨j,hj⟩:=Z4 hz;have h2:=YV.mp h1 j (Z6.mpr (Zc.mp hj).1);unfold jj at h2;rw[hj,Yt] at h2
 have h3:bX K (L.take j) j z=none:=by
  cases hw:bX K (L.take j) j z with
  |none=>rfl
  |some w=>rw[hw] at h2;cases h2
 have bif_none:∀ {c:Bool} {a:Str} {o:Option Str},(bif c then some a else o)=none->c=false/\o=none:=λ{c} {a} {o} e=>by
  cases c with
  |true=>cases e
  |false=>exact⟨rfl,e⟩
 unfold bX at h3;cases c:decide (0<=z.1) && decide (z.1 < (K.G.length:Int)) with
 |false=>rw[c] at h3;cases h3
 |true=>
  rw[c] at h3;rw[bAE] at c;have h4:=(bif_none (bif_none h3).2).2;unfold vI at h4;obtain⟨a1,h5⟩:=bif_none h4;obtain⟨a2,h6⟩:=bif_none h5;have a1:=of_decide_eq_false a1;have a2:=of_decide_eq_false a2;exact⟨of_decide_eq_true c.1,of_decide_eq_true c.2,by lia,by lia⟩
theorem tL{L:List (Int × Int)}:psT (.lst (L.map Dw.bG))=decide (L.length<=20):=by
 show(decide ((L.map Dw.bG).length<=20) && (L.map Dw.bG).all prT)=_;have:(L.map Dw.bG).all prT=true:=by rw[Yy,ZJ];intro x _;rfl
 rw[this,Wa,Za]
theorem nR:∀ {L L':List (Int × Int)},L.map Dw.bG=L'.map Dw.bG->L=L'
 |[],[],_=>rfl
 |[],_::_,e=>by cases e
 |_::_,[],e=>by cases e
 |z::L,z'::L',e=>by
  rw[Zv,Zv] at e;injection e with e1 e2;rw[nR e2];cases z;cases z';cases e1;rfl
theorem gl9(sk:SkOk K){g:Int}(h0:0<=g)(h1:g < K.G.length):∃a b c d e f h,K.G[g.toNat]?=some [a,b,c,d,e,f,h]/\gi K.G g 4=e/\gi K.G g 5=f/\0<=f/\f<=99/\0<=e:=by
 have hi:g.toNat < K.G.length:=by lia
 obtain⟨kd,jo,fi,la,du,we,ri,eg,hb⟩:=sk.gb K.G[g.toNat] (Zy hi);have e:K.G[g.toNat]?=some [kd,jo,fi,la,du,we,ri]:=by rw[gEG hi,eg]
 exact⟨kd,jo,fi,la,du,we,ri,e,by unfold gi;rw[e];rfl,by unfold gi;rw[e];rfl,by lia,by lia,by lia⟩
theorem De(e4:gi K.G z.1 4=e)(e5:gi K.G z.1 5=f)(f0:0<=f)(f1:f<=99)(eg:K.G[z.1.toNat]?=some [a,b,c,d,e,f,h])(q:Q (.int (dF K z)) S):Ok (evC ae (k+1) 22 [ay [a,b,c,d,e,f,h],.int z.2] S) Q:=by
 refine aC (d:=dP) (ρ:=[some (ay [a,b,c,d,e,f,h]),some (.int z.2),none,none,none,none,none,none,none]) rfl rfl ?_;dsimp only[dP,hF];unfold dF at q;rw[e4,e5] at q;rw[show ay [a,b,c,d,e,f,h] = .tup [.int a,.int b,.int c,.int d,.int e,.int f,.int h] from rfl];k_is;exact⟨gJ (by lia) (by lia),q⟩
theorem tM(sk:SkOk K){n:Nat}(hn:S[n]?=some (.lst (L.map ac)))(hl:L.length<=20)(hL:InG K L)(q:∀S',Sm S S'->Q (.int (cQ K L)) S'):Ok (evC ae (k+2) 21 [skE K,.ref n] S) Q:=by
 refine aC (d:=cI) (ρ:=[some (skE K),some (.ref n)]) rfl rfl ?_;dsimp only[cI,fm];k_is;refine⟨by rw[ak hn];rfl,?_⟩;refine a9 L ac (λz=>[.int (dF K z)]) (by lia) (λ_ _=>Ze _) (ce hn) (λi y S' hy sm=>⟨_,show aA (.tup [.name 2,.name 3]) (.tup [.int y.1,.int y.2]) _=_ from bT (by simp) (by simp),?_⟩) λS2 s2=>?_
 ·have hy:=hL y (Zh hy);obtain⟨a,b,c,d,e,f,h,eg,e4,e5,f0,f1,_⟩:=gl9 sk hy.1 hy.2;k_is;refine aa sk2 (aa (dh hy.1 eg) ⟨rfl,De e4 e5 f0 f1 eg ?_⟩);show 6
 ·rw[aU]
  have e:n9 false (L.map λz=>D.int (dF K z)) S2=some (.int (cQ K L),S2):=by
   have:(L.map λz=>D.int (dF K z))=(L.map (dF K)).map D.int:=by rw[ZX];rfl
   rw[this];simp only[n9,gL];rfl
  refine aa e ?_;exact q S2 s2
theorem Df(sk:SkOk K){n:Nat}(hn:S[n]?=some (.lst (L.map ac)))(hl:L.length<=20)(hL:InG K L)(q:Q (.int (cQ K L)) S):Ok (evC ae (k+1) 56 [skE K,.ref n] S) Q:=by
 refine aC (d:=iH) (ρ:=[some (skE K),some (.ref n),none,none,none]) rfl rfl ?_;dsimp only[iH,nj];k_is;refine⟨by rw[ak hn];rfl,?_⟩;refine xo (ds:=L.map ac) (by rw[Za];lia) (λi ρ S'=>S'=S/\∃u v,ρ=[some (skE K),some (.ref n),some (.int (cQ K (L.take i))),u,v]) (λi ρ S' iv=>iv.1 ▸ hn) (λi d ρ S1 hdi hq=>?_) (λρ S1 hq=>?_) ⟨rfl,_,_,rfl⟩
 ·obtain⟨rfl,u,v,rfl⟩:=hq;rw[Zm] at hdi;cases hz:L[i]? with
  |none=>rw[hz] at hdi;cases hdi
  |some z=>
  rw[hz] at hdi;cases hdi;have hy:=hL z (Zh hz);obtain⟨a,b,c,d,e,f,h,eg,e4,e5,f0,f1,_⟩:=gl9 sk hy.1 hy.2
  have ec:cQ K (L.take (i+1))=cQ K (L.take i)+dF K z:=by
   unfold cQ;rw[List.take_add_one,hz,ZA,List.sum_append];simp
  have e1:dF K z=if z.2 > e then f * (z.2 - e) else 0:=by
   unfold dF;rw[e4,e5];split <;> split <;> first |rfl |lia
  rw[ec,e1];refine⟨_,show aA (.tup [.name 3,.name 4]) (.tup [.int z.1,.int z.2]) _=_ from bT (by simp) (by simp),?_⟩;have g4:ixS (ay [a,b,c,d,e,f,h]) (.int 4) S1=some (.int e,S1):=rfl;have g5:ixS (ay [a,b,c,d,e,f,h]) (.int 5) S1=some (.int f,S1):=rfl;k_is;refine aa sk2 (aa (dh hy.1 eg) (aa g4 ?_));k_is;cases cc:decide (e < z.2) with
  |true=>
   rw[if_pos (of_decide_eq_true cc)];k_is;refine aa sk2 (aa (dh hy.1 eg) (aa g5 (aa sk2 (aa (dh hy.1 eg) (aa g4 ?_)))));k_is;exact⟨gJ (by lia) (by lia),rfl,_,_,rfl⟩
  |false=>
   rw[if_neg (of_decide_eq_false cc),Int.add_zero];k_is;exact⟨rfl,_,_,rfl⟩
 ·obtain⟨rfl,u,v,rfl⟩:=hq;rw[Za,Ys];k_is;exact q
theorem jr(h:bu d=true):d = .non:=by cases d <;> first |rfl |cases h
theorem xD{Q:RR->Sto->Prop}(sk:SkOk K)(h:TD p S t d)(hl:∀ts,t = .lst ts->ts.length<=1000)(q1:(∀L:List (Int × Int),t = .lst (L.map Dw.bG)->L.length<=20->amF K L ≠ .non)->∀S',Sm S S'->Q (.exc 2) S')
  (q2:∀ (L:List (Int × Int)) (n:Nat),t = .lst (L.map Dw.bG)->L.length<=20->amF K L = .non->d = .ref n->S[n]?=some (.lst (L.map ac))->∀S',Sm S S'->Q (.val .non) S'):OkX (evX ae (k+10) 23 [skE K,d] S) Q:=by
 refine CC (d:=hZ) (rs:=dJ) (ρ:=[some (skE K),some d]) rfl rfl rfl ?_;unfold dJ;refine CF (ds:=[skE K]) (S1:=S) rfl rfl (CN (k:=k+1) sk λS1 s1=>?_);refine Ig ?_;have h1:=h.keep s1.kp;k_is;refine⟨rfl,?_⟩;refine aC (k:=k+8) (d:=gf) (ρ:=[some (skE K),some d]) rfl rfl ?_;dsimp only[gf,ky];k_is;refine⟨rfl,C6 (k:=k+5) h1 hl λS2 s2=>?_⟩;k_is;cases c:psT t with
 |false=>
  k_is;refine⟨by decide,q1 (λL e l20 ha=>?_) S2 (s1.trans s2)⟩;subst e;rw[tL,decide_eq_true l20] at c;cases c
 |true=>
  cases t with
  |lst ts=>
   have hc:(decide (ts.length<=20) && ts.all prT)=true:=c;rw[bAE] at hc;obtain⟨L,rfl⟩:=xr hc.2;obtain⟨n,ds,rfl,nn,hn,hs⟩:=TD.lst h;rw[pM hs] at hn;have l20:=of_decide_eq_true hc.1;rw[Za] at l20;k_is;refine⟨rfl,C5 (k:=k+2) sk.vd (s2 _ _ (s1 _ _ hn)) l20 λS3 s3=>?_⟩;k_is;have s13:=(s1.trans s2).trans s3;refine aa j9 ?_;k_is;cases cn:bu (amF K L) with
   |true=>
    k_is;exact CD (q2 L n rfl l20 (jr cn) rfl hn S3 s13)
   |false=>
    k_is;refine⟨by decide,q1 (λL' e _ ha=>?_) S3 s13⟩;have e':L.map Dw.bG=L'.map Dw.bG:=by injection e
    rw[nR e',ha] at cn;cases cn
  |_=>cases c
theorem G5(sk:SkOk K)(ha:amF K L = .non):gX 0 false ((L.map (·.2)).map D.int) S=some (.int (jq L),S):=by
 cases L with
 |nil=>rfl
 |cons z L=>
  have hz:=tK ha z Zg;have:=(C9 sk hz.1 hz.2.1).2.2.2
  have e:cZ (0::z.2::L.map (·.2))=cZ (z.2::L.map (·.2)):=by
   show(L.map (·.2)).foldl _ (if z.2 > 0 then z.2 else 0)=(L.map (·.2)).foldl _ z.2
   congr 1
   split <;> lia
  unfold jq gX;rw[Zv,e,gL];rfl
theorem Dg(sk:SkOk K)(h:TD p S t d)(hl:∀ts,t = .lst ts->ts.length<=1000)(c:Bool)(q1:(∀L:List (Int × Int),t = .lst (L.map Dw.bG)->L.length<=20->amF K L ≠ .non)->∀S',Sm S S'->Q (.str "landings") S')
  (q2:∀L:List (Int × Int),t = .lst (L.map Dw.bG)->L.length<=20->amF K L = .non->∀S',Sm S S'->Q (.int (if c then cQ K L else jq L)) S'):Ok (evC ae (k+12) 61 [.int (if c then 1 else 0),skE K,d] S) Q:=by
 refine M0 (CC (d:=nt) (rs:=ip) (ρ:=[some (.int (if c then 1 else 0)),some (skE K),some d,none]) rfl rfl rfl ?_);unfold ip;cases c with
 |false=>
  refine Ih (c:=false) (ds:=[skE K,d]) (S1:=S) rfl rfl rfl ?_;refine CC (d:=pB) (rs:=jR) (ρ:=[some (skE K),some d]) rfl rfl rfl ?_;unfold jR;refine CF (ds:=[skE K,d]) (S1:=S) rfl rfl (xD (k:=k) sk h hl (λhn S1 s1=>⟨by decide,_,rfl,q1 hn S1 s1⟩) λL n e l20 ha ed hn S1 s1=>?_);subst ed;have hn1:=s1 _ _ hn;refine Ie ?_;k_is;refine⟨by rw[ak hn1];rfl,?_⟩;refine a9 L ac (λz=>[.int z.2]) (by lia) (λ_ _=>Ze _) (ce hn1) (λi y S' hy sm=>⟨_,show aA (.tup [.name 2,.name 3]) (.tup [.int y.1,.int y.2]) _=_ from bT (by simp) (by simp),?_⟩) λS2 s2=>?_
  ·k_is;show 6
  ·rw[aU];have q:=q2 L e l20 ha S2 (s1.trans s2);have e2:(L.map λz:Int × Int=>D.int z.2)=(L.map (·.2)).map D.int:=by rw[ZX];rfl
   rw[e2,G5 sk ha];exact⟨_,_,rfl,q⟩
 |true=>
  refine Ih (c:=true) (ds:=[skE K,d]) (S1:=S) rfl rfl rfl ?_;refine CC (d:=pC) (rs:=jS) (ρ:=[some (skE K),some d]) rfl rfl rfl ?_;unfold jS;refine CF (ds:=[skE K,d]) (S1:=S) rfl rfl (xD (k:=k) sk h hl (λhn S1 s1=>⟨by decide,_,rfl,q1 hn S1 s1⟩) λL n e l20 ha ed hn S1 s1=>?_);subst ed;refine Ie ?_;k_is;exact⟨rfl,tM (k:=k+8) sk (s1 _ _ hn) l20 (λz hz=>let x:=tK ha z hz;⟨x.1,x.2.1⟩) λS2 s2=>q2 L e l20 ha S2 (s1.trans s2)⟩
theorem M8(h:TD p S t d):∃c,az .ne d (.ref (Zb S)) (S++[Ob.lst []])=some (.bl c,S++[Ob.lst []])/\(t = .lst []->c=false):=by
 have a:(S++[Ob.lst []])[Zb S]?=some (.lst []):=al;have no:∀ {x:D},eqD 60 (S++[Ob.lst []]) x (.ref (Zb S))=some false->t ≠ .lst []->d=x->∃c,az .ne d (.ref (Zb S)) (S++[Ob.lst []])=some (.bl c,S++[Ob.lst []])/\(t = .lst []->c=false):=λe n hd=>⟨true,by rw[hd];exact ma e,λz=>absurd z n⟩;cases t with
 |non=>exact no (by simp only[eqD,ak a]) (λz=>by cases z) h.non
 |bl b=>exact no (by simp only[eqD,ak a]) (λz=>by cases z) h.bl
 |int i=>exact no (by simp only[eqD,ak a]) (λz=>by cases z) h.int
 |str x=>exact no (by simp only[eqD,ak a]) (λz=>by cases z) h.str
 |tup ts=>
  obtain⟨ds,rfl,_⟩:=h.tup;exact no (by simp only[eqD,ak a]) (λz=>by cases z) rfl
 |lst ts=>
  obtain⟨n,ds,rfl,_,hn,hs⟩:=TD.lst h;have lt:n < S.length:=(Zc.mp hn).1;refine⟨_,ne_nil (Sm.app _ _ _ _ hn) a (by lia),λz=>?_⟩;cases z;rw[hs.nil];rfl
 |dic ks ts=>
  rw[TD] at h;obtain⟨n,ds,rfl,_,hn,hs⟩:=h;refine⟨true,?_,λz=>by cases z⟩;have hn':(S++[Ob.lst []])[n]?=some (.dic ks ds):=Sm.app _ _ _ _ hn
  have e:eqD 60 (S++[Ob.lst []]) (.ref n) (.ref (Zb S))=none:=by
   show(match aq (S++[Ob.lst []]) n,aq (S++[Ob.lst []]) (Zb S) with |some xs,some ys=>if n=Zb S then some true else if xs.length=ys.length then eqL (eqD 59 (S++[Ob.lst []])) xs ys else some false |_,_=>none)=none;rw[show aq (S++[Ob.lst []]) n=none by unfold aq;rw[hn']]
  show neS _ _ _=_;unfold neS neD;rw[e];dsimp only;unfold dlD;dsimp only;rw[hn',a];rfl
theorem M9:∀t ∈ tJ,t = .lst []\/psT t=false:=by
 intro t ht;simp only[tJ,Zk,Yj,or_false] at ht;rcases ht with rfl |rfl |rfl |rfl |rfl |rfl |rfl |rfl |rfl |rfl |rfl |rfl |rfl |rfl |rfl |rfl |rfl <;> first |exact .inr rfl |exact .inl rfl
theorem Na:∀t ∈ tJ,∀us,t = .lst us->us.length<=1000:=by
 intro t ht us e;subst e;simp only[tJ,Zk,Yj,or_false,reduceCtorEq,false_or] at ht;rcases ht with e |e |e <;> cases e <;> decide
theorem G6:∀t ∈ tJ,psT (.lst [t])=false:=by
 intro t ht;simp only[tJ,Zk,Yj,or_false] at ht;rcases ht with rfl |rfl |rfl |rfl |rfl |rfl |rfl |rfl |rfl |rfl |rfl |rfl |rfl |rfl |rfl |rfl |rfl <;> rfl
abbrev iM(K:Sky)(L:List (Int × Int))(c:Bool):D:=if bu (amF K L)=true then .int (if c then cQ K L else jq L) else .str "landings"
theorem G7(sk:SkOk K){n:Nat}(nn:n ≠ p)(hn:S[n]?=some (.lst (L.map ac)))(lL:L.length<=20)(c:Bool)(q:∀S',Sm S S'->Q (iM K L c) S'):Ok (evC ae (k+12) 61 [.int (if c then 1 else 0),skE K,.ref n] S) Q:=by
 unfold iM at q;refine Dg (p:=p) sk (iJ nn hn (eJ L)) (λts e=>by cases e;rw[Za];lia) c (λha S' s'=>?_) λL' e _ ha S' s'=>?_
 ·have q:=q S' s';rw[if_neg λz=>ha L rfl lL (jr z)] at q;exact q
 ·have e':L.map Dw.bG=L'.map Dw.bG:=by injection e
  rw[<-nR e'] at ha ⊢;have q:=q S' s';rw[if_pos (by rw[ha];rfl)] at q;exact q
theorem xE(sk:SkOk K):∀ {L:List (Int × Int)},(∀z ∈ L,0<=z.1/\z.1 < K.G.length/\gi K.G z.1 2<=z.2/\z.2<=gi K.G z.1 3)->0<=cQ K L/\cQ K L<=1000000 * L.length
 |[],_=>⟨ZS 0,ZS 0⟩
 |z::L,h=>by
  obtain⟨i1,i2⟩:=xE sk λy hy=>h y (Zf _ hy);obtain⟨h0,h1,h2,h3⟩:=h z Zg;have hi:z.1.toNat < K.G.length:=by lia
  obtain⟨kd,jo,fi,la,du,we,ri,eg,hb⟩:=sk.gb K.G[z.1.toNat] (Zy hi);have e3:gi K.G z.1 3=la:=by unfold gi;rw[gEG hi,eg];rfl
  have e4:gi K.G z.1 4=du:=by unfold gi;rw[gEG hi,eg];rfl
  have e5:gi K.G z.1 5=we:=by unfold gi;rw[gEG hi,eg];rfl
  have s0:=sk.me.s0
  have c:0<=dF K z/\dF K z<=1000000:=by
   unfold dF;rw[e4,e5];rw[e3] at h3;split
   ·have a1:0<=we/\we<=99:=by lia
    have a2:0<=z.2 - du/\z.2 - du<=9999:=by lia
    exact⟨Int.mul_nonneg a1.1 a2.1,Wf (Int.mul_le_mul a1.2 a2.2 a2.1 (by decide)) (by decide)⟩
   ·rw[Int.mul_zero];decide
  have e:cQ K (z::L)=dF K z+cQ K L:=by unfold cQ;rw[Zv,List.sum_cons]
  rw[e,ZE];constructor
  ·lia
  ·push_cast;lia
theorem G8(sk:SkOk K)(ha:amF K L = .non):0<=jq L/\jq L<=9999:=by
 obtain⟨a,b⟩:=fP (L.map (·.2)) 0;unfold jq;refine⟨b 0 Zg,?_⟩;rcases Zk.mp a with e |e
 ·show(L.map (·.2)).foldl _ 0<=9999;rw[e];decide
 ·obtain⟨z,hz,e⟩:=ZH.mp e;have hz:=tK ha z hz;have:=(C9 sk hz.1 hz.2.1).2.2.1;show(L.map (·.2)).foldl _ 0<=9999;rw[<-e];lia
theorem G9(sk:SkOk K)(lL:L.length<=20):∃x,∀ (S:Sto) (n:Nat),n ≠ p->S[n]?=some (.lst [iM K L false,iM K L true])->kj (.ref n) S=some (.str x,S):=by
 unfold iM;cases c:bu (amF K L) with
 |false=>exact⟨_,λS n nn h=>xy (p:=p) (t:=.lst [.str "landings", .str "landings"]) (iJ nn h (ag nv (ag nv aM))) (Dd (n:=1) (m:=2) (B:=1) (s:=100) ⟨by simp[Dw.dep,Dw.lU],by simp[Dw.wid,Dw.x9]⟩ ⟨by simp only[Dw.bnd,Dw.jD,true_and],by simp only[Dw.sz,Dw.szL];decide +kernel⟩ (by decide) (by decide) (by decide) (by decide))⟩
 |true=>
  have ha:=jr c;have b1:=xE sk (tK ha);have b2:=G8 sk ha;refine⟨_,λS n nn h=>xy (p:=p) (t:=.lst [.int (jq L),.int (cQ K L)]) (iJ nn h (ag bc (ag bc aM))) (Dd (n:=1) (m:=2) (B:=10 ^ 31) (s:=1000) ⟨by simp[Dw.dep,Dw.lU],by simp[Dw.wid,Dw.x9]⟩ ⟨?_,?_⟩ (by decide) (by decide) (by decide) (by decide))⟩
  ·simp only[Dw.bnd,Dw.jD,and_true];omega
  ·simp only[Dw.sz,Dw.szL];lia
theorem Im:∀ (L R:List (Int × Int)),∃b,eqL (eqD 59 S) (L.map ac) (R.map ac)=some b/\(L=R->b=true)
 |[],[]=>⟨true,rfl,λ_=>rfl⟩
 |[],q::R=>⟨false,rfl,λz=>by cases z⟩
 |p::L,[]=>⟨false,rfl,λz=>by cases z⟩
 |p::L,q::R=>by
  obtain⟨b,e,h⟩:=Im L R;have e1:eqD 59 S (ac p) (ac q)=some ((p.1 == q.1) && ((p.2 == q.2) && true)):=rfl;refine⟨((p.1 == q.1) && ((p.2 == q.2) && true)) && b,by rw[Zv,Zv,eqL,e1,e],λz=>?_⟩;cases z;rw[h rfl,beq_self_eq_true,beq_self_eq_true];rfl
theorem Dh{a b:Nat}{L:List (Int × Int)}(ha:S[a]?=some (.lst (L.map ac)))(hb:S[b]?=some (.lst (L.map ac))):az .ne (.ref a) (.ref b) S=some (.bl false,S):=by
 have:eqD 60 S (.ref a) (.ref b)=some true:=by
  show(match aq S a,aq S b with
   |some xs,some ys=>if a=b then some true else if xs.length=ys.length then eqL (eqD 59 S) xs ys else some false
   | _,_=>none)=some true
  rw[ak ha,ak hb];dsimp only;split
  ·rfl
  ·rw[if_pos rfl];obtain⟨c,e,h⟩:=Im (S:=S) L L;rw[e,h rfl]
 exact ma this
theorem Lnd.keep{m:Nat}(h:Lnd p S m K d)(k:Ev.Kp p S S'):Lnd p S' m K d:=by
 obtain⟨N,L,e,n,a,l⟩:=h;exact⟨N,L,e,n,k _ _ n a,l⟩
theorem Lnd.up{m m':Nat}(h:Lnd p S m K d)(k:m<=m'):Lnd p S m' K d:=by
 obtain⟨N,L,e,n,a,l,b⟩:=h;exact⟨N,L,e,n,a,ZF l k,b⟩
theorem Ha{n:Nat}(hn:S[n]?=some (.lst xs))(hl:xs.length<=10):bI .mul (.ref n) (.int 2) S=some (.ref (Zb S),S++[.lst (Zp 2 xs).flatten]):=by
 simp only[bI,qi,hn];rw[if_pos ⟨by decide,by show xs.length * 2<=1000;lia,by decide⟩];rfl
theorem Di{a b:Nat}(ha:S[a]?=some (.lst [.str w,.str w]))(hb:S[b]?=some (.lst [.str w,.str w])):az .ne (.ref a) (.ref b) S=some (.bl false,S):=by
 have:eqD 60 S (.ref a) (.ref b)=some true:=by
  show(match aq S a,aq S b with
   |some xs,some ys=>if a=b then some true else if xs.length=ys.length then eqL (eqD 59 S) xs ys else some false
   | _,_=>none)=some true
  rw[ak ha,ak hb];dsimp only;split
  ·rfl
  ·rw[if_pos rfl]
   have e:eqD 59 S (.str w) (.str w)=some true:=by
    show some (w == w)=_;rw[beq_self_eq_true]
   simp only[eqL,e];rfl
 exact ma this
abbrev jt:List CS:=match kF with
 |.for_ _ _ b::_=>b
 |_=>[]
abbrev qU:List CS:=match jt.drop 5 with
 |.for_ _ _ b::_=>b
 |_=>[]
abbrev kf:List CS:=match jt.drop 6 with
 |.for_ _ _ b::_=>b
 |_=>[]
theorem Nb{b:Nat}(h:Ok (az .ne x (.ref b) S) Q):wCx .ne x (.ref b) S Q:=by cases x <;> exact h
theorem zl(sk:SkOk K)(td:TD p S t d)(hp:t = .lst []\/psT t=false)(hl:∀us,t = .lst us->us.length<=1000)
  (q:∀S',Sm S S'->Qf .nx [a,b,c,some (skE K),e,f,g,h,i,some d] S'):rW (wSs (evC ae 39) (cF ae) 50 kf) [a,b,c,some (skE K),e,f,g,h,i,some d] S Qf:=by
 dsimp only[kf,jt,kF,Z8];k_is;obtain⟨cc,e1,e2⟩:=M8 td;refine Nb (aa e1 ?_);have s1:Sm S (S++[Ob.lst []]):=Sm.app _ _;generalize S++[Ob.lst []]=S1 at *;cases cc with
 |false=>k_is;exact q S1 s1
 |true=>
  k_is;have hp:psT t=false:=hp.elim (λz=>by cases e2 z) id;refine a9 [true,false] (λc=>.int (if c then 1 else 0)) (λc=>[.str "landings"]) (by decide) (λ_ _=>Ze _) (bU (l:=[true,false]) (E:=λc=>.int (if c then 1 else 0))) (λi c S' hc sm=>⟨_,rfl,?_⟩) λS2 s2=>?_
  ·k_is;refine⟨rfl,Dg (k:=27) sk ((td.keep s1.kp).keep sm.kp) hl c (λ_ S3 s3=>?_) λL e l20=>?_⟩
   ·exact⟨rfl,s3⟩
   ·subst e;rw[tL,decide_eq_true l20] at hp;cases hp
  ·have e:([true,false].flatMap λ_=>[D.str (Str.ofString "landings")])=[.str "landings", .str "landings"]:=rfl;rw[e];k_is;have s3:Sm S2 (S2++[Ob.lst [D.str (Str.ofString "landings"),.str (Str.ofString "landings")]]):=Sm.app _ _;have a3:(S2++[Ob.lst [D.str (Str.ofString "landings"),.str (Str.ofString "landings")]])[Zb S2]?=some (.lst [.str (Str.ofString "landings"),.str (Str.ofString "landings")]):=al;generalize S2++[Ob.lst [D.str (Str.ofString "landings"),.str (Str.ofString "landings")]]=S3 at *;generalize Zb S2=N3 at *;refine aa (Ha (n:=Zb S3) al (by show 1<=10;decide)) ?_;have s4:Sm S3 (S3++[Ob.lst [D.str (Str.ofString "landings")]]):=Sm.app _ _;generalize S3++[Ob.lst [D.str (Str.ofString "landings")]]=S4 at *;have s5:Sm S4 (S4++[Ob.lst (Zp 2 [D.str (Str.ofString "landings")]).flatten]):=Sm.app _ _;refine aa (Di (s5 _ _ (s4 _ _ a3)) al) ?_;k_is;exact q _ ((((s1.trans s2).trans s3).trans s4).trans s5)
theorem Dj{Q:List D->Sto->Prop}{N:Nat}(hN:S[N]?=some (.lst xs))(h:Q xs S):Ok (X5 (λr=>(r.snd,S)) (ao (.ref N) S)) Q:=by
 simp only[ao,ak hN,Zq];exact⟨_,_,rfl,h⟩
theorem Dk(h:Pot p S)(sk:SkOk K){N Nd:Nat}(nd:Nd ≠ p)(hN:S[N]?=some (.lst (L.map ac)))(lL:L.length<=20)(hd:S[Nd]?=some (.lst [iM K L false,iM K L true]))
  (q:∀u8 S',Dr p S S'->Qf .nx [a,b,c,some (skE K),e,f,some (.ref N),some (.ref Nd),u8,i] S'):rW (wSs (evC ae 39) (cF ae) 48 (qU.drop 3)) [a,b,c,some (skE K),e,f,some (.ref N),some (.ref Nd),some (.ref (Zb S)),i] (S++[Ob.lst (L.map ac)]) Qf:=by
 dsimp only[qU,jt,kF,Z8];have lt4:=h.lt;have s5:Sm S (S++[Ob.lst (L.map ac)]):=Sm.app _ _;have a5:(S++[Ob.lst (L.map ac)])[Zb S]?=some (.lst (L.map ac)):=al;have nh:Zb S ≠ p:=by lia
 have d5:=Dr.sm h s5;generalize S++[Ob.lst (L.map ac)]=S5 at *;generalize Zb S=Nh at *;k_is;obtain⟨x,hx⟩:=G9 (p:=p) sk lL;refine a9 [false,true] (λc=>.int (if c then 1 else 0)) (λc=>[iM K L c]) (by decide) (λ_ _=>Ze _) (bU (l:=[false,true]) (E:=λc=>.int (if c then 1 else 0))) (λi c S' hc sm=>⟨_,rfl,?_⟩) λS6 s6=>?_
 ·k_is;exact⟨rfl,G7 (k:=27) sk nh (sm _ _ a5) lL c λS7 s7=>⟨rfl,s7⟩⟩
 ·rw[show([false,true].flatMap λc=>[iM K L c])=[iM K L false,iM K L true] from rfl];k_is;have d6:=d5.thenSm s6;have lt6:=d6.pot.lt;have s7:Sm S6 (S6++[Ob.lst [iM K L false,iM K L true]]):=Sm.app _ _;have s57:=s6.trans s7;refine aa (hx _ _ (by lia) al) (aa (hx _ _ nd (s57 _ _ (s5 _ _ hd))) ?_);k_is;refine aa (G4 _ _ _) ?_;rw[beq_self_eq_true];k_is;refine aa (Dh (s57 _ _ a5) (s57 _ _ (s5 _ _ hN))) ?_;k_is;exact q _ _ (d6.thenSm s7)
theorem Hb(h:Pot p S)(sk:SkOk K)(ld:Lnd p S 20 K d)
  (q:∀u7 u8 S',Dr p S S'->Qf .nx [a,b,c,some (skE K),e,f,some d,u7,u8,i] S'):rW (wSs (evC ae 39) (cF ae) 51 qU) [a,b,c,some (skE K),e,f,some d,g,j,i] S Qf:=by
 have tail:=@Dk p;obtain⟨N,L,rfl,nN,hN,lL,bL⟩:=ld;dsimp only[qU,jt,kF,Z8] at tail ⊢;k_is;have lt:=h.lt;have s1:Sm S (S++[Ob.lst [D.str (Str.ofString "landings"),.str (Str.ofString "landings")]]):=Sm.app _ _;have a1:(S++[Ob.lst [D.str (Str.ofString "landings"),.str (Str.ofString "landings")]])[Zb S]?=some (.lst [.str (Str.ofString "landings"),.str (Str.ofString "landings")]):=al;have n1:Zb S ≠ p:=by lia
 generalize S++[Ob.lst [D.str (Str.ofString "landings"),.str (Str.ofString "landings")]]=S1 at *;generalize Zb S=N1 at *;refine⟨rfl,kc (k:=36) sk (s1 _ _ hN) lL λS2 s2=>?_⟩;k_is;refine aa j9 ?_;k_is;have d2:=Dr.sm h (s1.trans s2);cases cn:bu (amF K L) with
 |false=>
  k_is;refine Dj (s2 _ _ (s1 _ _ hN)) (tail d2.pot sk n1 (s2 _ _ (s1 _ _ hN)) lL ?_ λu8 S3 d3=>q _ _ S3 (d2.trans d3));unfold iM;rw[cn];exact s2 _ _ a1
 |true=>
  have ha:=jr cn;k_is;have s3:Sm S2 (S2++[Ob.lst [D.int 0]]):=Sm.app _ _;have a3:(S2++[Ob.lst [D.int 0]])[Zb S2]?=some (.lst [D.int 0]):=al;generalize S2++[Ob.lst [D.int 0]]=S3 at *;generalize Zb S2=N3 at *;have hN3:=s3 _ _ (s2 _ _ (s1 _ _ hN));refine⟨by rw[ak hN3];rfl,?_⟩;refine a9 L ac (λz=>[.int z.2]) (by lia) (λ_ _=>Ze _) (ce hN3) (λi y S' hy sm=>⟨_,rfl,?_⟩) λS4 s4=>?_
  ·k_is;exact⟨_,_,rfl,rfl,Sm.refl _⟩
  rw[aU,show(L.map λz:Int × Int=>D.int z.2)=(L.map (·.2)).map D.int by rw[ZX];rfl];have s5:Sm S4 (S4++[Ob.lst ((L.map (·.2)).map D.int)]):=Sm.app _ _;refine aa (jh (s5 _ _ (s4 _ _ a3)) al (by rw[Za,Za];show 1+L.length<=_;lia)) ?_;generalize S4++[Ob.lst ((L.map (·.2)).map D.int)]=S5 at *;rw[show[D.int 0]++(L.map (·.2)).map D.int=(0::L.map (·.2)).map D.int from rfl];have s6:Sm S5 (S5++[Ob.lst ((0::L.map (·.2)).map D.int)]):=Sm.app _ _;refine aa (xt (n:=Zb S5) al (by simp)) ?_;generalize S5++[Ob.lst ((0::L.map (·.2)).map D.int)]=S6 at *;have s26:=((s3.trans s4).trans s5).trans s6;have hN6:=s26 _ _ (s2 _ _ (s1 _ _ hN));refine⟨rfl,Df (k:=38) sk hN6 lL (λz hz=>let x:=tK ha z hz;⟨x.1,x.2.1⟩) ?_⟩;k_is;have d6:=d2.thenSm s26;have lt6:=d6.pot.lt;have s7:Sm S6 (S6++[Ob.lst [D.int (jq L),.int (cQ K L)]]):=Sm.app _ _;have d7:=d6.thenSm s7;refine Dj (s7 _ _ hN6) (tail d7.pot sk (by lia) (s7 _ _ hN6) lL ?_ λu8 S3 d3=>q _ _ S3 (d7.trans d3));unfold iM;rw[cn];exact al
theorem Dm(h:Pot p S)(sk:SkOk K){Nr:Nat}(hr:S[Nr]?=some (.lst ds))(nr:Nr ≠ p)(h1:1<=ds.length)(hl:ds.length<=100)(hd:∀d ∈ ds,Lnd p S 20 K d)
  (q:∀u6 u7 u8 u9 S',Dr p S S'->Qf .nx [some (.ref 0),some ik,some (.ref p),some (skE K),some (.ref Nr),rt,u6,u7,u8,u9] S') :
  rW (wSs (evC ae 39) (cF ae) 53 (jt.drop 5)) [some (.ref 0),some ik,some (.ref p),some (skE K),some (.ref Nr),rt,u6,u7,u8,u9] S Qf:=by
 have things:=@zl p;have row:=@Hb p;dsimp only[qU,kf,jt,kF,Z8] at things row ⊢;k_is;refine⟨by rw[ak hr];rfl,?_⟩;refine xo (ds:=ds) (by lia) (λi ρ S'=>Dr p S S'/\∃u6 u7 u8,ρ=[some (.ref 0),some ik,some (.ref p),some (skE K),some (.ref Nr),rt,u6,u7,u8,u9]) (λi ρ S' iv=>iv.1.kp _ _ nr hr) (λi d ρ S1 hdi hq1=>?_) (λρ S1 hq2=>?_) ⟨Dr.refl h,_,_,_,rfl⟩
 ·obtain⟨d1,u6,u7,u8,er⟩:=hq1;subst er;have ld:=(hd d (Zh hdi)).keep d1.kp;refine⟨_,rfl,?_⟩;exact qM (row d1.pot sk ld λu7 u8 S2 d2=>⟨d1.trans d2,_,_,_,rfl⟩)
 ·obtain⟨d1,u6,u7,u8,er⟩:=hq2;subst er;k_is;refine⟨rfl,xz (k:=37) d1.pot λt0 e0 S2 d2 td0 o0=>?_⟩;have hr2:=(d1.trans d2).kp _ _ nr hr;obtain⟨d0,hd0⟩:∃d0,ds[0]?=some d0:=⟨ds[0],gEG (by lia)⟩;refine aa (cg (i:=0) hr2 (by decide) hd0) ?_;obtain⟨N,L,rfl,nN,hN,lL,bL⟩:=(hd d0 (Zh hd0)).keep (d1.trans d2).kp;refine aa (gM hN) ?_;refine⟨rfl,xz (k:=37) d2.pot λt1 e1 S3 d3 td1 o1=>?_⟩;k_is;have lt3:=d3.pot.lt;have s4:Sm S3 (S3++[Ob.lst [e1]]):=Sm.app _ _;have a4:(S3++[Ob.lst [e1]])[Zb S3]?=some (.lst [e1]):=al;have n4:Zb S3 ≠ p:=by lia
  have d34:=d3.thenSm s4;generalize S3++[Ob.lst [e1]]=S4 at *;generalize Zb S3=N4 at *
  have td:TDs p S4 [t0,.tup (L.map Dw.bG),.lst [t1],.non] [e0,.tup (L.map ac),.ref N4,.non]:=
   ag (td0.keep d34.kp) (ag (bA (eJ L)) (ag (iJ n4 a4 (ag (td1.keep s4.kp) aM)) (ag vf aM)))
  have ps:∀t ∈ [t0,.tup (L.map Dw.bG),.lst [t1],.non],(t = .lst []\/psT t=false)/\∀us,t = .lst us->us.length<=1000:=λt ht=>by
   rcases Zk.mp ht with rfl |ht
   ·exact⟨M9 _ o0,Na _ o0⟩
   ·simp only[Zk,Yj,or_false] at ht;rcases ht with rfl |rfl |rfl
    ·exact⟨.inr rfl,λus e=>by cases e⟩
    ·exact⟨.inr (G6 _ o1),λus e=>by cases e;show 1<=1000;decide⟩
    ·exact⟨.inr rfl,λus e=>by cases e⟩
  generalize [t0,.tup (L.map Dw.bG),.lst [t1],.non]=ts at *;have le:=td.len;refine Ic (ds:=[e0,.tup (L.map ac),.ref N4,.non]) (by show 4<=100000;decide) (λi ρ S'=>Sm S4 S'/\∃u9,ρ=[some (.ref 0),some ik,some (.ref p),some (skE K),some (.ref Nr),rt,u6,u7,u8,u9]) (λi x ρ S7 hx hq7=>?_) (λρ S7 hq8=>?_) ⟨Sm.refl _,_,rfl⟩
  ·obtain⟨s7,u13,er⟩:=hq7;subst er;have hi:i < ts.length:=by rw[<-le];exact(Zc.mp hx).1
   obtain⟨x',hx',tx⟩:=td.get (gEG hi);rw[hx] at hx';cases hx';obtain⟨p1,p2⟩:=ps ts[i] (Zy hi);refine⟨_,rfl,?_⟩;exact qM (things sk (tx.keep s7.kp) p1 p2 λS8 s8=>⟨s7.trans s8,_,rfl⟩)
  ·obtain⟨s7,u13,er⟩:=hq8;subst er;k_is;exact q _ _ _ _ S7 ((d1.trans d2).trans (d34.thenSm s7))
theorem main(ns:List Int)(hn:ns.length<=63):∃S',evC ae 40 62 [.ref 0] [.frz (ns.map D.int)]=some (.bl true,S'):=by
 have key:Ok (evC ae (39+1) 62 [.ref 0] [.frz (ns.map D.int)]) λd _=>d = .bl true:=by
  refine aC (d:=wW) (ρ:=[some (.ref 0),none,none,none,none,none,none,none,none,none]) rfl rfl ?_;dsimp only[wW,kF];k_is;have lq:av cq (.ref 0) [Ob.frz (ns.map D.int)]=some (.int ns.length,[Ob.frz (ns.map D.int)]):=by simp only[av,ao,aq,List.getElem?_cons_zero,Zq,cq,Za]
  refine aa lq ?_;k_is
  obtain⟨c,hc,c8⟩:∃c:Nat,(if (if (10:Int) < ns.length then (10:Int) else ns.length) > 1 then (if (10:Int) < ns.length then (10:Int) else ns.length) else 1)=(c:Int)/\c<=10:=by
   refine⟨(if (if (10:Int) < ns.length then (10:Int) else ns.length) > 1 then (if (10:Int) < ns.length then (10:Int) else ns.length) else 1).toNat,?_,?_⟩
   ·split <;> split <;> lia
   ·split <;> split <;> lia
  rw[hc];refine⟨fg (by lia) (by lia),?_⟩;rw[Zn];refine gw (by lia) (λi ρ S'=>S'[0]?=some (Ob.frz (ns.map D.int))/\∃a b c d e f g h j,ρ=[some (.ref 0),a,b,c,d,e,f,g,h,j]) (λi ρ S1 hi hq=>?_) (λρ S1 hq=>?_) ⟨rfl,none,none,none,none,none,none,none,none,none,rfl⟩
  ·obtain⟨h0,a,b,c',d,e,f,g,h,j,er⟩:=hq;subst er;refine⟨_,rfl,?_⟩;k_is;rw[YE];refine⟨rfl,GI (k:=38) h0 λx=>?_⟩;refine⟨rfl,MZ (k:=38) λnn=>?_⟩;k_is;have pt:Pot (Zb S1) (S1++[Ob.lst [D.int nn]]):=⟨nn,al⟩;have n0:0 ≠ Zb S1:=λz=>by rw[Ye.mp z.symm] at h0;simp at h0
   have h1:(S1++[Ob.lst [D.int nn]])[0]?=some (Ob.frz (ns.map D.int)):=Sm.app _ _ _ _ h0;generalize S1++[Ob.lst [D.int nn]]=S2 at *;generalize Zb S1=p at *;refine⟨rfl,GV (k:=35) pt λK S3 d3 sk g6=>?_⟩;k_is;have V:=sk.vd;refine⟨rfl,pO (k:=36) d3.pot sk g6 λos S4 d4 ho lo=>?_⟩;refine⟨rfl,xu (k:=37) V ho (by lia) λL N S5 s5 hN lN eL=>?_⟩;k_is;have d5:=d3.trans (d4.thenSm s5);have lt4:=d4.pot.lt;have lt5:=d5.pot.lt;have s6:Sm S5 (S5++[Ob.lst []]):=Sm.app _ _;have a6:(S5++[Ob.lst []])[Zb S5]?=some (.lst []):=al;have n6:Zb S5 ≠ p:=by lia
   have d6:=d5.thenSm s6;have lN6:Lnd p (S5++[Ob.lst []]) 12 K (.ref N):=⟨N,L,rfl,by lia,s6 _ _ hN,by have:=congrArg Zb eL;rw[Za] at this;lia,Dc g6 (by rw[eL];exact ho)⟩;generalize S5++[Ob.lst []]=S6 at *;generalize Zb S5=N6 at *;have l06:Lnd p S6 12 K (.ref N6):=⟨N6,[],rfl,n6,a6,by show 0<=12;decide,λz hz=>by cases hz⟩;have lt6:=d6.pot.lt;have s7:Sm S6 (S6++[Ob.lst [D.ref N,.ref N6]]):=Sm.app _ _;have a7:(S6++[Ob.lst [D.ref N,.ref N6]])[Zb S6]?=some (.lst [.ref N,.ref N6]):=al;have n7:Zb S6 ≠ p:=by lia
   have d7:=d6.thenSm s7
   have ha7:∀d ∈ [D.ref N,.ref N6],Lnd p (S6++[Ob.lst [D.ref N,.ref N6]]) 12 K d:=λd hd=>by
    simp only[Zk,Yj,or_false] at hd;rcases hd with rfl |rfl
    ·exact lN6.keep s7.kp
    ·exact l06.keep s7.kp
   generalize S6++[Ob.lst [D.ref N,.ref N6]]=S7 at *;generalize Zb S6=Nr at *;generalize hes:[D.ref N,.ref N6]=es at *;have la:es.length=2:=by rw[<-hes];rfl
   refine⟨rfl,vJ (k:=34) d7.pot sk g6 λrt S8 d8 hrt=>?_⟩;k_is;refine aa bx ?_;k_is;have a8:=d8.kp _ _ n7 a7;have ha8:∀d ∈ es,Lnd p S8 12 K d:=λd hd=>(ha7 d hd).keep d8.kp;have d08:=d7.trans d8;have fin:=@Dm p;dsimp only[jt,kF,Z8] at fin;rcases hrt with rfl |lrt
   ·rw[show bu .non=true from rfl];k_is;exact fin d08.pot sk a8 n7 (by lia) (by lia) (λd hd=>(ha8 d hd).up (by decide)) λu6 u7 u8 u9 S' d'=>⟨(d08.trans d').kp _ _ n0 h1,_,_,_,_,_,_,_,_,_,rfl⟩
   ·obtain⟨M,R,rfl,nM,hM,lM,bM⟩:=lrt;rw[show bu (.ref M)=false from rfl];k_is;refine⟨rfl,zk (k:=37) d08.pot sk hM (by lia) bM λd' S9 d9 ln=>?_⟩;k_is;have d09:=d08.trans d9;have lt9:=d09.pot.lt;have sA:Sm S9 (S9++[Ob.lst [D.ref M,d',.ref M]]):=Sm.app _ _;refine aa (jh (sA _ _ (d9.kp _ _ n7 a8)) al (by rw[la];show 2+3<=100000;decide)) ?_;k_is;have lA:(S9++[Ob.lst [D.ref M,d',.ref M]]).length=Zb S9+1:=by rw[Zr];rfl
    generalize S9++[Ob.lst [D.ref M,d',.ref M]]=SA at *;have sB:Sm SA (SA++[Ob.lst (es++[D.ref M,d',.ref M])]):=Sm.app _ _;have s9B:=sA.trans sB;have dB:=d09.thenSm s9B;refine fin dB.pot sk al (by lia) (by rw[Zr];lia) (by rw[Zr,la];show 2+3<=100;decide) (λd hd=>?_) λu6 u7 u8 u9 S' d'=>⟨(dB.trans d').kp _ _ n0 h1,_,_,_,_,_,_,_,_,_,rfl⟩;rcases ZG.mp hd with hd |hd
    ·exact((ha8 d hd).keep (d9.thenSm s9B).kp).up (by decide)
    ·have lr:Lnd p S9 20 K (.ref M):=⟨M,R,rfl,nM,d9.kp _ _ nM hM,by lia,bM⟩;simp only[Zk,Yj,or_false] at hd;rcases hd with rfl |rfl |rfl
     ·exact lr.keep s9B.kp
     ·exact(ln.up (by lia)).keep s9B.kp
     ·exact lr.keep s9B.kp
  ·obtain⟨h0,a,b,c',d,e,f,g,h,j,er⟩:=hq;subst er;k_is
 obtain⟨d,S',e,rfl⟩:=key;exact⟨S',e⟩
end Lw
theorem PySem.Challenge.cw_downrings_k13_last_and_cost_holds : PySem.Challenge.rw_downrings_k13_last_and_cost.Holds :=
 Lw.head Lw.main
