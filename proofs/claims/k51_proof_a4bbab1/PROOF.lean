import PyProof.Rows.All
import KE.KIsAll
import KE.KMinBuiltin
import KE.KRevSl
import KE.KStateDown
import PySem.Challenge.RW_downrings_k51_lots_narrowed_and_landed
set_option Elab.async false
set_option linter.all false
set_option maxRecDepth 100000
set_option maxHeartbeats 4000000
local macro_rules|`(abbrev $n:declId $s:optDeclSig $v:declVal)=>`(noncomputable def $n $s:optDeclSig $v:declVal)
local macro_rules|`(def $n:declId $s:optDeclSig $v:declVal)=>do let d:=⟨Lean.mkNode `Lean.Parser.Command.declSig #[s.raw[0],s.raw[1][0]]⟩;`(theorem $n $d $v:declVal)
open Option renaming some → aw,none → aD,some.inj → θ
open Bool renaming true → aN,false → aS
def ω[Decidable p](h:decide p=true):p:=of_decide_eq_true h
namespace Xobt
variable{P:Prop}
def ex1{p:A→Prop}(h:∃a,p a)(k:∀a,p a→P):P:=let⟨a,h⟩:=h;k a h
def ex2{p:A→B→Prop}(h:∃a b,p a b)(k:∀a b,p a b→P):P:=let⟨a,b,h⟩:=h;k a b h
def ex3{p:A→B→C→Prop}(h:∃a b c,p a b c)(k:∀a b c,p a b c→P):P:=let⟨a,b,c,h⟩:=h;k a b c h
def ex4{p:A→B→C→D→Prop}(h:∃a b c d,p a b c d)(k:∀a b c d,p a b c d→P):P:=let⟨a,b,c,d,h⟩:=h;k a b c d h
def ex5{p:A→B→C→D→E→Prop}(h:∃a b c d e,p a b c d e)(k:∀a b c d e,p a b c d e→P):P:=let⟨a,b,c,d,e,h⟩:=h;k a b c d e h
def ex6{p:A→B→C→D→E→F→Prop}(h:∃a b c d e f,p a b c d e f)(k:∀a b c d e f,p a b c d e f→P):P:=let⟨a,b,c,d,e,f,h⟩:=h;k a b c d e f h
def ex7{p:A→B→C→D→E→F→G→Prop}(h:∃a b c d e f g,p a b c d e f g)(k:∀a b c d e f g,p a b c d e f g→P):P:=let⟨a,b,c,d,e,f,g,h⟩:=h;k a b c d e f g h
def ex8{p:A→B→C→D→E→F→G→I→Prop}(h:∃a b c d e f g i,p a b c d e f g i)(k:∀a b c d e f g i,p a b c d e f g i→P):P:=let⟨a,b,c,d,e,f,g,i,h⟩:=h;k a b c d e f g i h
def ex9{p:A→B→C→D→E→F→G→I→J→Prop}(h:∃a b c d e f g i j,p a b c d e f g i j)(k:∀a b c d e f g i j,p a b c d e f g i j→P):P:=let⟨a,b,c,d,e,f,g,i,j,h⟩:=h;k a b c d e f g i j h
def ex10{p:A→B→C→D→E→F→G→I→J→L→Prop}(h:∃a b c d e f g i j l,p a b c d e f g i j l)(k:∀a b c d e f g i j l,p a b c d e f g i j l→P):P:=let⟨a,b,c,d,e,f,g,i,j,l,h⟩:=h;k a b c d e f g i j l h
def ex16{p:A→B→C→D→E→F→G→I→J→L→M→N→O→Q→R→T→Prop}(h:∃a b c d e f g i j l m n o q r s,p a b c d e f g i j l m n o q r s)(k:∀a b c d e f g i j l m n o q r s,p a b c d e f g i j l m n o q r s→P):P:=let⟨a,b,c,d,e,f,g,i,j,l,m,n,o,q,r,s,h⟩:=h;k a b c d e f g i j l m n o q r s h
def an2(h:a∧b)(k:a→b→P):P:=k h.1 h.2
def an3(h:a∧b∧c)(k:a→b→c→P):P:=k h.1 h.2.1 h.2.2
def an4(h:a∧b∧c∧d)(k:a→b→c→d→P):P:=k h.1 h.2.1 h.2.2.1 h.2.2.2
def an5(h:a∧b∧c∧d∧e)(k:a→b→c→d→e→P):P:=k h.1 h.2.1 h.2.2.1 h.2.2.2.1 h.2.2.2.2
def an6(h:a∧b∧c∧d∧e∧f)(k:a→b→c→d→e→f→P):P:=let⟨a,b,c,d,e,f⟩:=h;k a b c d e f
def an7(h:a∧b∧c∧d∧e∧f∧g)(k:a→b→c→d→e→f→g→P):P:=let⟨a,b,c,d,e,f,g⟩:=h;k a b c d e f g
def an8(h:a∧b∧c∧d∧e∧f∧g∧i)(k:a→b→c→d→e→f→g→i→P):P:=let⟨a,b,c,d,e,f,g,i⟩:=h;k a b c d e f g i
def an9(h:a∧b∧c∧d∧e∧f∧g∧i∧j)(k:a→b→c→d→e→f→g→i→j→P):P:=let⟨a,b,c,d,e,f,g,i,j⟩:=h;k a b c d e f g i j
def an10(h:a∧b∧c∧d∧e∧f∧g∧i∧j∧l)(k:a→b→c→d→e→f→g→i→j→l→P):P:=let⟨a,b,c,d,e,f,g,i,j,l⟩:=h;k a b c d e f g i j l
def an13(h:a∧b∧c∧d∧e∧f∧g∧i∧j∧l∧m∧n∧o)(k:a→b→c→d→e→f→g→i→j→l→m→n→o→P):P:=let⟨a,b,c,d,e,f,g,i,j,l,m,n,o⟩:=h;k a b c d e f g i j l m n o
def in2{p:A→B→Prop}(a:A)(b:B)(h:p a b):∃a b,p a b:=⟨a,b,h⟩
def in3{p:A→B→C→Prop}(a:A)(b:B)(c:C)(h:p a b c):∃a b c,p a b c:=⟨a,b,c,h⟩
def in4{p:A→B→C→D→Prop}(a:A)(b:B)(c:C)(d:D)(h:p a b c d):∃a b c d,p a b c d:=⟨a,b,c,d,h⟩
def in5{p:A→B→C→D→E→Prop}(a:A)(b:B)(c:C)(d:D)(e:E)(h:p a b c d e):∃a b c d e,p a b c d e:=⟨a,b,c,d,e,h⟩
def in6{p:A→B→C→D→E→F→Prop}(a:A)(b:B)(c:C)(d:D)(e:E)(f:F)(h:p a b c d e f):∃a b c d e f,p a b c d e f:=⟨a,b,c,d,e,f,h⟩
def in7{p:A→B→C→D→E→F→G→Prop}(a:A)(b:B)(c:C)(d:D)(e:E)(f:F)(g:G)(h:p a b c d e f g):∃a b c d e f g,p a b c d e f g:=⟨a,b,c,d,e,f,g,h⟩
def in8{p:A→B→C→D→E→F→G→I→Prop}(a:A)(b:B)(c:C)(d:D)(e:E)(f:F)(g:G)(i:I)(h:p a b c d e f g i):∃a b c d e f g i,p a b c d e f g i:=⟨a,b,c,d,e,f,g,i,h⟩
def in9{p:A→B→C→D→E→F→G→I→J→Prop}(a:A)(b:B)(c:C)(d:D)(e:E)(f:F)(g:G)(i:I)(j:J)(h:p a b c d e f g i j):∃a b c d e f g i j,p a b c d e f g i j:=⟨a,b,c,d,e,f,g,i,j,h⟩
def in10{p:A→B→C→D→E→F→G→I→J→L→Prop}(a:A)(b:B)(c:C)(d:D)(e:E)(f:F)(g:G)(i:I)(j:J)(l:L)(h:p a b c d e f g i j l):∃a b c d e f g i j l,p a b c d e f g i j l:=⟨a,b,c,d,e,f,g,i,j,l,h⟩
def in12{p:A→B→C→D→E→F→G→I→J→L→M→N→Prop}(a:A)(b:B)(c:C)(d:D)(e:E)(f:F)(g:G)(i:I)(j:J)(l:L)(m:M)(n:N)(h:p a b c d e f g i j l m n):∃a b c d e f g i j l m n,p a b c d e f g i j l m n:=⟨a,b,c,d,e,f,g,i,j,l,m,n,h⟩
end Xobt
local macro_rules
|`(tactic|obtain⟨$ps,*⟩:=$e:term)=>do
 let ps:=ps.getElems
 let n:=ps.size
 if n<2 then Lean.Macro.throwUnsupported
 let I (s:String):Lean.MacroM (Lean.TSyntax `ident):=return Lean.mkIdent (Lean.Name.mkSimple s)
 let mut vs:Array (Lean.TSyntax `ident):=#[]
 let mut sb:Array (Lean.TSyntax `tactic):=#[]
 for p in ps do
  let y ← I s!"ξ{vs.size}"
  match p with
  |`(Lean.Parser.Tactic.rcasesPatLo|$x:ident)=>
   if x.getId==`rfl then
    vs:=vs.push y
    sb:=sb.push (← `(tactic|subst $y))
   else vs:=vs.push x
  |`(Lean.Parser.Tactic.rcasesPatLo|_)=>vs:=vs.push y
  |_=>Lean.Macro.throwUnsupported
 let z ← I "ξ"
 let w ← I "ζ"
 let N (s:String):=Lean.mkIdent (`Xobt++Lean.Name.mkSimple s)
 let mk (e:Lean.TSyntax `term)(c:Array (Lean.TSyntax `tactic)):Lean.MacroM (Lean.TSyntax `tactic):=do
  let mut al:=#[]
  for i in [0:n] do
   let k:=n-1-i
   let m:=n-k
   if k>16||m>18 then continue
   let a:=vs.extract 0 k
   let b:=vs.extract k n
   let E:=N s!"ex{k}"
   let A:=N s!"an{m}"
   al:=al.push (← if k==0 then `(tacticSeq|(refine $A $e λ$b*=>?_;$[$c]*)) else if m==1 then `(tacticSeq|(refine $E $e λ$vs*=>?_;$[$c]*)) else `(tacticSeq|(refine $E $e λ$a* $z=>$A $z λ$b*=>?_;clear $z;$[$c]*)))
  al:=al.push (← `(tacticSeq|fail))
  `(tactic|first $[| $al]*)
 let t ← mk e sb
 if e.raw.isIdent then
  let i:Lean.TSyntax `ident:=⟨e.raw⟩
  let s ← mk w (#[← `(tactic|clear $w)]++sb)
  `(tactic|first|(revert $i;intro $w:ident;$s:tactic)|$t:tactic)
 else return t
|`(tactic|exact⟨$ps,*⟩)=>do
 let ps:=ps.getElems
 let n:=ps.size
 if n<3 then Lean.Macro.throwUnsupported
 let mut al:=#[]
 for i in [1:n-1] do
  let k:=n-i
  if k>12 then continue
  let a:=ps.extract 0 k
  let b:=ps.extract k n
  let E:=Lean.mkIdent (`Xobt++Lean.Name.mkSimple s!"in{k}")
  let r ← if b.size==1 then pure b[0]! else `(⟨$b,*⟩)
  al:=al.push (← `(tacticSeq|exact $E $a* $r))
 `(tactic|first $[| $al]*)
|`(tactic|refine⟨$ps,*⟩)=>do
 let ps:=ps.getElems
 let n:=ps.size
 if n<3 then Lean.Macro.throwUnsupported
 let mut al:=#[]
 for i in [1:n-1] do
  let k:=n-i
  if k>12 then continue
  let a:=ps.extract 0 k
  let b:=ps.extract k n
  let E:=Lean.mkIdent (`Xobt++Lean.Name.mkSimple s!"in{k}")
  let r ← if b.size==1 then pure b[0]! else `(⟨$b,*⟩)
  al:=al.push (← `(tacticSeq|refine $E $a* $r))
 `(tactic|first $[| $al]*)
local macro_rules
|`(tactic|let $d:letDecl)=>do
 let q:=d.raw[0]
 let p:=q[0]
 let p:=if p.isOfKind Lean.choiceKind then p.getArgs.back! else p
 let rec go(x:Lean.Syntax):Nat->Lean.MacroM (Lean.TSyntax `rcasesPat)
  |0=>Lean.Macro.throwUnsupported
  |n+1=>do
   if x.isIdent then `(rcasesPat|$(⟨x⟩):ident) else
   if x.isOfKind `Lean.Parser.Term.hole then `(rcasesPat|_) else
   let s:=if x.isOfKind `Lean.Parser.Term.structInst then x[2][0].getSepArgs.map (·[0][0]) else x[1].getSepArgs
   if s.size==0 then Lean.Macro.throwUnsupported
   let a ← s.mapM λy=>do `(Lean.Parser.Tactic.rcasesPatLo|$(← go y n):rcasesPat)
   `(rcasesPat|⟨$a,*⟩)
 if p[0].isToken "{" then
  let r ← go p 9
  `(tactic|obtain $r:rcasesPat:=$(⟨q[4]⟩))
 else `(tactic|have $d:letDecl)
local macro_rules(kind:=«term{_}»)|x=>do let p:Array (Lean.TSyntax `term):=x[1].getSepArgs.map (⟨·⟩);`(⟨$p,*⟩)
local macro_rules|`(tactic|exact $t)=>do
 let x:=t.raw
 if x.isOfKind `«term{_}» then let p:Array (Lean.TSyntax `term):=x[1].getSepArgs.map (⟨·⟩);`(tactic|exact⟨$p,*⟩) else Lean.Macro.throwUnsupported
local macro_rules|`(tactic|refine $t)=>do
 let x:=t.raw
 if x.isOfKind `«term{_}» then let p:Array (Lean.TSyntax `term):=x[1].getSepArgs.map (⟨·⟩);`(tactic|refine⟨$p,*⟩) else Lean.Macro.throwUnsupported
local macro_rules(kind:=Lean.calcTactic)|x=>do let t:Lean.TSyntax `term:=⟨x[1][0][0]⟩;`(tactic|refine $t)
local macro_rules|`(~~~$s)=>`(($s).G.length)
local macro_rules|`($s⁻¹)=>`(($s).heap.objs.size)
local macro_rules|`(tactic|delta $[$x]*$[$l]?)=>`(tactic|unfold $[$x]*$[$l]?)
local macro_rules|`(tactic|simp!$[[$a,*]]?$[$l]?)=>`(tactic|simp only$[[$a,*]]?$[$l]?)
local macro_rules|`(tactic|dsimp!$[[$a,*]]?$[$l]?)=>`(tactic|dsimp only$[[$a,*]]?$[$l]?)
open List renaming length_map->Za,getElem?_eq_some_iff->Zb,length_append->Ze,mem_cons_of_mem->Zf,mem_cons_self->Zh,length->Zi,mem_of_getElem?->Zj,size_toArray->Zk,length_singleton->Zl,range->Zm,mem_cons->Zn,getElem?_map->Zo,replicate->Zp,getElem?_set_ne->Zq,length_cons->Zr,getElem?_append_right->Zv,map_cons->Zw,getElem?_eq_none->Zx,mem_singleton->Zy,getElem?_append_left->ZB,map_append->ZD,length_range->ZI,mem_map->ZJ,mem_append_right->ZK,getElem?_set_self->ZL,all_eq_true->ZM,mem_append->ZQ,getElem?_eq_none_iff->ZR,getElem_mem->ZS,length_take->ZT,append_nil->ZU,nodup_cons->ZV,lookup_cons->ZW,not_mem_nil->ZX,mem_range->ZZ,map_map->Z1,mem_filter->Z2,length_nil->Z3,take_succ_eq_append_getElem->Z6,mem_append_left->Z7,getD_eq_getElem?_getD->Z8,contains_cons->Z9,length_set->Yb,all_cons->Yc,mem_flatMap->Ye,length_reverse->Yg,map_nil->Yh,zip_cons_cons->Yi,pairwise_cons->Yj,length_eq_zero_iff->Yk,reverse_cons->Yl,take_of_length_le->Ym,replicate_succ->Yn,mem_filterMap->Yq,prefix_refl->Yr,drop->Ys,all_map->Yu,append_assoc->Yv,filterMap_cons->Yw,any_cons->Yx,length_drop->Yy,prefix_append->Yz,flatten_cons->YA,getElem?_set->YB,map_congr_left->YD,getElem?_range->YE,getElem?_replicate->YF,eraseIdx_cons_succ->YG,getElem?_cons_succ->YH,find?_cons->YJ,getElem_inj->YO,filter_cons->YR,drop_length->YS,drop_eq_getElem_cons->YT,idxOf_lt_length_iff->YV,ext_getElem?->YW,forIn_nil->YY,nodup_nil->YZ,nodup_append->Y0,flatMap_cons->Y1,drop_eq_nil_of_le->Y2,eraseIdxIfInBounds_toArray->Y3,length_replicate->Y5,length_filter_le->Y6,countP_cons->Y7,take_length->Y8,forall_mem_cons->Xb,of_mem_zip->Xc,length_pos_iff->Xe,cons->Xh,map_inj_left->Xl,pairwise_map->Xm,getElem?_take_of_lt->Xn,map_take->Xp,nodup_range->Xq,forIn_cons->Xs,range_succ->Xu,contains_iff_mem->Xw,eq_nil_or_concat->Xx,concat_eq_append->Xy,lookup->Xz,getElem?_of_mem->XB,getLast?_append->XD,mem_of_mem_take->XF,toList_toArray->XG,flatMap_append->XH,replicate_zero->XJ,filter_eq_self->XM,take_nil->XN,filterMap_map->XV,getElem_idxOf->XY,flatten_nil->X6,any_eq_true->X7,cons_append->X9,map_reverse->Wb,mem_reverse->Wc,map_id->Wd,foldl_cons->We,nil_append->Wf,length_zip->Wh,countP_map->Wi,any_append->Wm,foldl->Wn,count->Wp,take_add->Wu,drop_nil->Wv,map_drop->Wx
open PySem.Heap renaming get?_push_of_some->Zc,lt_size->Zt,get?_push_size->Zu,get?_update_other->ZN,size_push->Z0,get?_update_self->Yp
open Bool renaming false_ne_true->Zd,false_eq_true->ZY,eq_iff_iff->Yo,false_and->YM,or_false->YU,beq_eq_decide_eq->Y4,and_comm->Y9,not_true->Xa,or_eq_true->Xd,true_and->Xo,and_eq_true_iff->XC,and_self->XQ,eq_false_iff->X1,and_false->Wo,false_bne->Wr,false_or->Ws,and_true->Wt,or_assoc->Ww
open Nat renaming le_refl->Zg,le_trans->Zz,lt_of_lt_of_le->ZC,ne_of_lt->ZH,lt_irrefl->ZO,sub_self->Z5,zero_le->YC,le_succ->YI,add_assoc->YK,mul_le_mul_right->YN,lt_succ_self->YQ,le_of_lt->YX,ne_of_gt->Xf,succ_mul->Xg,le_of_succ_le->Xk,zero_add->Xr,lt_of_le_of_lt->XW,lt_succ_of_lt->X0,succ_le_succ->X4,le_max_right->X5,min_eq_right->X8,le_add_right->Wa,le_max_left->Wg,min_eq_left->Wj,not_lt_zero->Wl,mul_le_mul->Wq,le_of_eq->Wz,lt_trans->WA,min_self->WB,zero_mul->WC,log2_lt->WF
open Option renaming map_some->ZE,map_eq_some_iff->ZP,getD_some->Yd,isSome_iff_exists->Yt,isSome_map->YL,map->XR,isSome_some->XX,getD_none->X3,bind->WE
open Int renaming toNat_natCast->ZF,le_refl->Z4,emod_lt_of_pos->XZ,zero_add->X2,emod_nonneg->Wk,ediv_one->Wy,ne_of_lt->WD
open Array renaming length_toList->ZG,forIn_toList->Xi,getElem?_eq_none_iff->Xj,getElem?_toList->Xv,append_assoc->XU
open PyProof.Rows renaming boot_isinstance->WG,boot_list->WH,boot_max->WJ,boot_min->WK,boot_range->WL,boot_sorted->WM,boot_tuple->WN,callWith_type1->WO,slot_tuple_getitem->WQ
open PySem.Calls renaming Name_function_global->WR,callWith_builtin->WT,evalArgs_plain->WU
open PySem renaming Comprehension->WV,DictEntry->WW,FuncData->VL,GenState->VM,IsRangeIter->VN,NameKind->VO,Operator->VP,Spec->V4,assignEach->Zab,assignInOrder->Zac,attributeBase->Zad,backToKw->Zae,behindInMarks->Zaf,binaryOp->Zag,bindName->Zah,bootBuiltins->Zai,builtinsNs->Zaj,callSpecialIfBoundUnlessNone?->Zak,call_meets->Zal,call_repr_slot->Zam,cellsFrom->Zan,codeAny_builtin->Zao,codeAny_call_builtin->Zap,codeAny_call_function->Zaq,codeAny_mono->Zar,compareOp->Zas,concat_meets->Zat,dictText_mem_le->Zau,eqIsQuiet->Zav,eqIsQuiet_byValue->Zaw,evalPart_none->Zax,excClassObj->Zay,foldedSetIterable->Zaz,importedModules->ZaA,intItems->ZaB,intItems_at->ZaC,isSubtype_tuple_tuple->ZaD,keywordEach->ZaE,letOwnedTupleGo->ZaF,lookupAlong->ZaG,mainGlobals->ZaH,mem_of_lookup->ZaI,newFunctionEnv->ZaJ,noFill_tuple_add->ZaK,not_mem_of_deeper->ZaL,noteFrame->ZaM,numAt_eq->ZaN,nums_intItems->ZaO,old_kept->ZaP,plainId_quiet->ZaQ,pushCells->ZaR,pushCells_keeps->ZaS,rangeSize_one->ZaT,richCompare->ZaU,richCompare_meets_room->ZaV,seqIndex_neg->ZaW,seqIndex_of->ZaX,seqItems?->ZaY,seq_tuple_add->ZaZ,sizeLine_eq->Za0,sliceBounds->Za1,starEach->Za2,strLen_append->Za3,swappedStores->Za4,swapsWith->Za5,swapsWithSole->Za6,sysModules->Za7,textFrom->Za8,treeTable->Za9,typeLookup->Zba,unsupported->Zbb,updateSeq->Zbc,wpAny_Call_Name_kw->Zbd,wpAny_Return_some->Zbe,wpAny_bind->Zbf,wpAny_call_entry->Zbg,wpAny_comprehension_free->Zbh,wpAny_execs_cons->Zbi,wpAny_execs_nil->Zbj,wpAny_field->Zbk,wpAny_forIn_list->Zbl,wpAny_getItem_list_slice->Zbm,wpAny_holding->Zbn,wpAny_isInstance->Zbo,wpAny_isSubtype_exc->Zbp,wpAny_letGo->Zbq,wpAny_loadPart'->Zbr,wpAny_loadPart_at->Zbs,wpAny_mono->Zbt,wpAny_newFunctionEnv_cells->Zbu,wpAny_newObj_type->Zbv,wpAny_of_eq->Zbw,wpAny_passesOwn->Zbx,wpAny_pure->Zby,wpAny_pyIter_list->Zbz,wpAny_pyIter_rangeiter->ZbA,wpAny_pyIter_tuple->ZbB,wpAny_pyNext_range_end->ZbC,wpAny_rule->ZbD,wpAny_seqItems->ZbE,wpAny_sequenceKey->ZbF,wpAny_setField_rec->ZbG,wpAny_specialOf->ZbH,wpAny_standAt->ZbI,wpAny_truthy_bool->ZbJ,wpAny_tryCatch->ZbK,wpAny_typeOf->ZbL,wpAny_updateSeq->ZbM,wpAny_updateSeq_pair->ZbN
open PySem.F renaming args_object_init_2->WX,args_tuple_add_2->WY,args_tuple_iterator_next_1->WZ,args_tuple_lt_2->W0,entry_max_loop->W1,entry_min_loop->W2,entry_tuple_add->W3,entry_tuple_iterator_next->W4,entry_tuple_lt->W5,plainAttrs_list->W6,plainAttrs_tuple->W7,plain_max_loop->W8,plain_min_loop->W9,slot_NoneType_hash->Vw,slot_list_append->Vx,slot_list_count->Vy,slot_list_index->Vz,slot_list_pop->VA,slot_tuple_add->VB,slot_tuple_count->VC,slot_tuple_index->VE,slot_tuple_iterator_next->VF,slot_tuple_lt->VG,slot_zip_next->VH,typeOf_object_class->VI,type_list_pop->VJ
open PySem.PyData renaming depth->VQ,depthAll->VR,depthAll_keys_le->VS,depthAll_vals_le->VT,depthKv->VU,shown->VW,shownAll->VX,shownKv->VY,shownKv_eq->VZ,shownKv_key_le->V0,shownKv_val_le->V1
open PySem.SeqAt renaming EqAt->V2,RcNeAt->V3
open PySem.W renaming Frag->V5,callWith_K->V6,cellsFrom_some->V7,clsIn->V8,codeIn->V9,codeRec_of->Up,findIn->UP,fnOf->Tm,hideAll_get->ST,instObj->Rw,keepIn->RW,kia_one->Pi,kitCls->Of,kitOne->On,kitx_dict->Os,kitx_list->OF,lookIn->ON,methodObj->OR,mroIn->OS,of_hideAll->No,plainGet->NE,rangeSize_down->NO,subIn->Zaa
namespace Cut
open PySem PySem.W
abbrev sO(T:String->Option Builtin)(p:Program)(w:World)(c:Nat)(d:Option Value):Nat->Shared->Thread->Option (Shared×Thread)
 |0,s,t=>aw (s,t)
 |n+1,s,t=>match through t with
  |true=>aD
  |false=>match stepOk c d t with
   |false=>aD
   |true=>match step (denote T) p w s t with
    |.go s' t'=>sO T p w c d n s' t'
    |.halt _ _=>aD
def Bm{T:String->Option Builtin}{p:Program}{w:World}{c:Nat}{d:Option Value}{m:Nat}:∀ {n:Nat} {s f:Shared} {t t':Thread},sO T p w c d n s t=aw (f,t')->topRun T p w c d (m+n) s t=topRun T p w c d m f t'
 |0,s,f,t,t',h=>by cases h;rfl
 |n+1,s,f,t,t',h=>by
  rw[<-YK];delta sO at h
  conv=>lhs;unfold topRun
  cases g:through t with
  |true=>rw[g]at h;cases h
  |false=>
   rw[g]at h;dsimp! at h ⊢;cases E:stepOk c d t with
   |false=>rw[E]at h;cases h
   |true=>
    rw[E]at h;dsimp! at h ⊢;cases j:step (denote T) p w s t with
    |halt o k=>rw[j]at h;cases h
    |go k l=>
     rw[j]at h;exact Bm h
section
variable (p:Program) (w:World)
abbrev s0:Shared:=(fencedOpening Za9 p w 20000).getD {}
abbrev n0:Nat:=(s0 p w).heap.objs.size
abbrev an:Option Value:=(s0 p w).heap.nsMap ZaH "__annotations__"
abbrev st(n:Nat):Shared×Thread:=(sO Za9 p w (n0 p w) (an p w) n (s0 p w) (topStub p)).getD (s0 p w,topStub p)
abbrev ent(n:String)(t:Nat)(v:Value):WW:={reduceHash (w.params.strHash (Str.ofString n).cps),.str (Str.ofString n) t,v}
abbrev nm:List String:=["NoMeadow","NoSky","NoLandings","NoOrder","NoLot","NoText","NoName","NoGlider","NoMinute","NoAim","TooMany","Bound","NoDeed","NoRow"]
abbrev cls(x:String×Nat):List Obj:=
 let n:=Str.ofString x.1;let b:=28+12 * x.2;let t:=207+16 * x.2;let l:Int:=4+2 * x.2
 let m:=Value.str (Str.ofString "downrings.errors") 187
 let f:=λt=>Value.str p.main.file t
 [{.type "tuple",aD,.seq #[.ref 24] 0,#[]},
   {.type "builtin_function_or_method",aD,.fields #[.builtin "type.__prepare__",.type "type"],#[]},
   {.type "dict",aD,.dict #[ent w "__module__" (t+7) m,ent w "__qualname__" (t+9) (.str n (t+8)),ent w "__firstlineno__" (t+11) (.int l (t+10)),ent w "__static_attributes__" (t+12) (.ref (b+7))] 4,#[]},
   {.type "tuple",aD,.seq #[] 0,#[]},
   {.none,aD,.fields #[],#[]},
   {.type "code",aD,.fields #[.str n (t+2),.str n (t+3),f (t+4),.int l 0,.int 0 0,.int 0 0,.int 0 0,.int 0 0,.ref (b+3),.bool aS,.int 181 0,.ref (b+4),.none,.none,.none,.none,.int (t+5:Nat) 0,.int l 0,f (t+6)],#[]},
   {.type "frame",aD,.plain,#[aw (.ref (b+5)),aw (.ref 3),aw (.ref (b+2)),aD,aw m,aD,aw (.ref 0)]},
   {.type "tuple",aD,.seq #[] 0,#[]},
   {.type "dict",aD,.dict #[ent w "__module__" (t+7) m,ent w "__firstlineno__" (t+11) (.int l (t+10)),ent w "__static_attributes__" (t+12) (.ref (b+7)),ent w "__doc__" (t+13) .none] 2,#[]},
   {.type "type",aD,.cls {name:=n,bases:=[.ref 24],mro:=[.ref (b+9),.ref 24,.type "ValueError",.type "Exception",.type "BaseException",.type "object"],ns:=b+8,qualname:=n},#[aw (.ref b),aD,aw (.str n t),aw (.str n (t+8)),aw (.builtin "ValueError.__new__"),aw (.bool aN)]},
   {.type "super",aD,.fields #[.ref (b+9),.ref (b+9),.ref (b+9)],#[]},
   {.type "builtin_function_or_method",aD,.fields #[.builtin "object.__init_subclass__",.ref (b+9)],#[]}]
abbrev UJ(o:Obj):Obj:=match o with
 |{c,d,.dict es n,s}=>{c,d,.dict (es++(nm.zipIdx.map λx=>ent w x.1 (222+16 * x.2) (.ref (37+12 * x.2))).toArray) (n+14),s}
 |o=>o
abbrev Q7(o:Obj):Obj:=match o with
 |{c,d,.fields vs,s}=>{c,d,.fields (vs++(nm.zipIdx.flatMap λx=>[Value.int (4+2 * x.2:Nat) 0,.int 0 0,.ref (33+12 * x.2)]).toArray),s}
 |o=>o
abbrev Q8(o:Obj):Obj:=match o with
 |{c,d,.cls k,s}=>{c,d,.cls {k with subclasses:=nm.zipIdx.map λx=>.ref (37+12 * x.2)},s}
 |o=>o
abbrev mid:Shared:=match (st p w 208).1 with
 |⟨⟨os,l⟩,g,d,_,o⟩=>⟨{((((os.toList.modify 3 (UJ w)).modify 12 Q7).modify 24 Q8)++(nm.zipIdx.flatMap (cls p w))).toArray,l},g,d,431,o⟩
abbrev Q9:Thread:=match (st p w 208).2 with
 |{_,.body ss env,_,k}=>{do return .done (<-(execs (ss.drop 16) env).onRaise (leaving env)),.body ss env,⟨30,0,31,8⟩,k}
 |t=>t
abbrev L1(s:Shared)(o:Option Shared):Option Shared:=bif s.gens.size == 0 && s.heap.isNs ZaH then (o.bind λu=>bif laidKept s.heap u.heap && (gensDone u && (namesBound p u.heap && staticsOk (ZaA p.main.body) s.heap u.heap)) then aw u else aD) else aD
end
def Ra{T:String->Option Builtin}{p:Program}{w:World}{N:Nat}{s:Shared}:topFrom T p w N s=L1 p s (topRun T p w s⁻¹ (s.heap.nsMap ZaH "__annotations__") N s (topStub p)):=by
 delta topFrom L1;rw[Y9];cases s.gens.size == 0 && s.heap.isNs ZaH with
 |false=>rfl
 |true=>
  show WE _ _=WE _ _
  congr 1
  funext u
  rw[Y9,Y9 (_ && _) (gensDone u),Y9 _ (namesBound p u.heap)];cases laidKept s.heap u.heap && (gensDone u && (namesBound p u.heap && staticsOk (ZaA p.main.body) s.heap u.heap)) <;> rfl
@[inline]abbrev PartA(p:Program):Prop:=∀w,sO Za9 p w (n0 p w) (an p w) 3189 (s0 p w) (topStub p)=aw (mid p w,Q9 p w)
abbrev fin(p:Program)(w:World):Option Shared:=L1 p (s0 p w) (topRun Za9 p w (n0 p w) (an p w) 16811 (mid p w) (Q9 p w))
@[inline]abbrev PartB(p q:Program)(loose:List Str)(X:Shared->Bool):Prop:=∀w,(fin p w).map (openSeen q loose (ZaA p.main.body) X aN)=aw (openGood q loose)
@[inline]abbrev PartC(p:Program){c:Type}(Y:Shared->c)(y:World->c):Prop:=∀w,(fin p w).map Y=aw (y w)
def two{p:Program}{d c n:Type}{f:Shared->d}{g:Shared->c}{a:World->d}{b:World->c}(k:d->c->n)(h:PartC p f a)(i:PartC p g b):PartC p (λs=>k (f s) (g s)) (λw=>k (a w) (b w)):=λw=>by
 let{u,l,j}:=ZP.mp (h w);let E:=i w;rw[l]at E ⊢;let E:=θ E;show aw (k (f u) (g u))=_;rw[j,E]
def left_cut{p q:Program}{loose:List Str}{X:Shared->Bool}{c:Type}{Y:Shared->c}{y:World->c}(g:∀w,(fencedOpening Za9 p w 20000).isSome=aN)(d:PartA p)(f:PartB p q loose X)(hC:PartC p Y y):LeftO p q loose X Y y 20000:=λw=>by
 let{s,hs}:=Yt.mp (g w);let k:s0 p w=s:=by delta s0;rw[hs];rfl
 let{u,h,j}:=ZP.mp (f w);let E:=hC w;rw[h]at E;let E:Y u=y w:=θ E;let a:=Bm (m:=16811) (d w);delta fin at h;delta n0 an at a h;rw[<-a,k]at h;delta openEnds;rw[hs];show XR _ (topFrom Za9 p w 20000 s)=_;rw[Ra];calc(congrArg _ h).trans ?_;show aw (openSeen q loose (ZaA p.main.body) X aN u,Y u)=_;rw[j,E]
end Cut
def gEG{c:Type _}{l:List c}{i:Nat}(h:i < l.length):l[i]?=aw l[i]:=List.getElem?_eq_getElem h
def bAE(a b:Bool):((a && b)=aN)=(a=aN/\b=aN):=Bool.and_eq_true a b
namespace L2
open PySem PySem.Spec PyProof.Rows
abbrev eJ(s:Stmt):Arguments:=match s with
 |.FunctionDef _ a _ _ _ _ _ _ _ _=>a
 |_=>{posonlyargs:=[],args:=[],vararg:=aD,kwonlyargs:=[],kw_defaults:=[],kwarg:=aD,defaults:=[]}
abbrev bu(s:Stmt):List Stmt:=match s with
 |.FunctionDef _ _ b _ _ _ _ _ _ _=>b
 |_=>[]
abbrev ao(s:Stmt):Scope:=match s with
 |.FunctionDef _ _ _ _ _ _ sc _ _ _=>sc
 |_=>{kind:=.function,names:=[],isGenerator:=false,isCoroutine:=false}
end L2
namespace Ev
open PySem PySem.Spec PyProof.Rows L2
abbrev gA:List Str:=["len","isinstance","all","any","tuple","list","max","min","repr","range","enumerate","int","bool","str","sorted","zip"]
abbrev bmV:List Value:=[.type "ValueError",.type "Exception",.type "BaseException",.type "object"]
abbrev quN:List Str:=["__init__","__getattribute__","__getattr__","__class__"]
abbrev fk:List Str:=["NoMeadow","NoSky","NoLandings","NoOrder","NoLot","NoText","NoName","NoGlider","NoMinute","NoAim","TooMany","Bound","NoDeed","NoRow","NoWay"]
@[inline]abbrev sP:=(Str×Str)×(Arguments×List Stmt)×(Scope×Addr)×(List (Str×Addr)×Value)×(Addr×Option Str)
abbrev KJ(h:Heap):Value->Option Str
 | .ref c=>(match h.get? c with
  |some {_,_,.fields vs,_}=>(match vs.toList with |_ :: .str n _::_=>aw n |_=>aD)
  | _=>aD)
 |_=>aD
abbrev Rb(h:Heap):Option Obj->Option sP
 |some {_,_,.func ⟨nm,qn,ps,.stmts b,sc,gl,cl,dv,_,_,_,_,cd,_,bi⟩,_}=>aw ((nm,qn),(ps,b),(sc,gl),(cl,dv),(bi,KJ h cd))
 |_=>aD
abbrev vt(h:Heap)(x:Str):Option sP:=match h.nsMap ZaH x with
 |some (.ref f)=>Rb h (h.get? f)
 |_=>aD
abbrev Gc(h:Heap)(x:Str):Option Int:=match h.nsMap ZaH x with
 |some (.int v _)=>aw v
 |_=>aD
abbrev adX(h:Heap)(x:Str):Addr:=match h.nsMap ZaH x with
 |some (.ref C)=>C
 |_=>0
abbrev Gf(h:Heap)(B:List Value)(x:Str):Bool:=match h.nsMap ZaH x with
 | some (.ref C)=>(match h.get? C with
  | some {.type "type",_,.cls cd,sl}=>(match cd.mro,sl.toList with
   |.ref C'::bm',[_,_,_,_,aw (.builtin n),_]=>C' == C && bm' == B && n == "ValueError.__new__" && !cd.hasDel && h.isNs cd.ns && quN.all λq=>(h.nsMap cd.ns q).isNone
   | _,_=>aS)
  | _=>aS)
 |_=>aS
abbrev L3(h:Heap)(x:Str):Bool:=match h.nsMap ZaH x with
 | some (.ref C)=>(match h.get? C with
  |some {.type "type",_,.cls _,_}=>aN
  | _=>aS)
 |_=>aS
abbrev L4:List Nat->Bool
 |[]=>aN
 |a::l=>!(l.contains a) && L4 l
abbrev Bn(h:Heap):Bool:=Gf h bmV "RingError" && (fk.take 14).all (Gf h (.ref (adX h "RingError")::bmV)) && fk.all (L3 h) && L4 (adX h "RingError" :: fk.map (adX h)) && (h.nsMap ZaH "ValueError").isNone
end Ev
namespace Lw
open PySem
abbrev con:List (Str×Int):=[("LAST_MINUTE",9999),("MOST_RINGS",8),("MOST_SINK",60),("MOST_KINDS",4),("MOST_GAP",99),("MOST_SHUTS",4),("MOST_GLIDERS",7),("MOST_WEIGHT",99)]
abbrev nx:List (String×Nat):=[("is_whole",19),("is_within",20),("is_minute",21),("is_tuple",22),("are_unlike",23),("are_rising",24),("without",25),("is_meadow",32),("are_gaps",33),("is_gap_row",34),("no_glider_between_helps",35),("are_shuts",36),("is_stretch",37),("is_kind",38),("first_not_shut",39),("is_sky",43),("is_ahead",44),("are_gliders",45),("is_glider",46),("are_fixed",47),("free_ones",48),("check_sky",49),("glider_cost",51),("landing_ahead",52),("gap_end",53),("waits_at",54),("how_many_wait",55),("joining_minutes",56),("is_too_high",57),("ring_needed",58),("soonest_landings",60),("fixed_landings",61),("soonest_minute",62),("leaves_too_late",63),("best_order",65),("joined",66),("best_behind",67),("best_with",68),("narrowed",70),("can_land",71),("check_lot",72),("narrowed_to",73),("lands",74),("_law_cell_at",76),("_law_pot",77),("_law_take",78),("_law_whole",79),("_law_gaps",80),("_law_meadow",81),("_law_sky",82),("_law_open",83),("_law_waits",84),("_law_need",85),("_law_step",86),("_law_soonest",87),("_law_worth",88),("_law_best",89),("_law_narrowed",90),("_law_lands",91),("_law_word",92),("_law_told",93),("_law_is_lot",94),("_law_bent",95),("law",96)]
abbrev top(i:Nat):Stmt:=PySem.Challenge.pw_downrings_k51_lots_narrowed_and_landed.main.body.getD i (.Pass ⟨0,0,0,0⟩)
end Lw
section
open PySem PySem.W PyProof.Rows
noncomputable abbrev Lw.view:Program:={PySem.Challenge.pw_downrings_k51_lots_narrowed_and_landed with main:={PySem.Challenge.pw_downrings_k51_lots_narrowed_and_landed.main with body:=[Lw.top 96]}}
noncomputable abbrev Lw.loose:List PySem.Str:=(Lw.nx.take 63).map (λx=>.ofString x.1)++Lw.con.map (·.1)++("RingError" : PySem.Str)::Ev.fk
set_option maxHeartbeats 0 in
def Lw.said:PySem.Challenge.rw_downrings_k51_lots_narrowed_and_landed.wellSaid=aN:=by kernel_rfl
set_option maxHeartbeats 0 in
def Lw.opn:∀w,(fencedOpening Za9 PySem.Challenge.rw_downrings_k51_lots_narrowed_and_landed.row.toRowW.prog w 20000).isSome=aN:=λw=>by kernel_rfl
set_option maxHeartbeats 0 in
def Lw.partA:Cut.PartA PySem.Challenge.rw_downrings_k51_lots_narrowed_and_landed.row.toRowW.prog:=λw=>by kernel_rfl
set_option maxHeartbeats 0 in
def Lw.partB:Cut.PartB PySem.Challenge.rw_downrings_k51_lots_narrowed_and_landed.row.toRowW.prog Lw.view Lw.loose (λs=>xlAt Lw.view [] s && recOk (RowW.records PySem.Challenge.rw_downrings_k51_lots_narrowed_and_landed.row.toRowW) s):=λw=>by kernel_rfl
end
namespace Lw
open PySem
abbrev ob(l:List (String×Nat))(s:Shared):=l.map λx=>Ev.vt s.heap (.ofString x.1)
abbrev vb(l:List (String×Nat)):List (Option Ev.sP):=l.map λx=>let n:=Str.ofString x.1;aw ((n,n),(L2.eJ (top x.2),L2.bu (top x.2)),(L2.ao (top x.2),ZaH),([],.none),(Zaj,aw n))
set_option maxHeartbeats 0 in
def L5:Cut.PartC PySem.Challenge.rw_downrings_k51_lots_narrowed_and_landed.row.toRowW.prog (ob (nx.take 42)) (λ_=>vb (nx.take 42)):=λw=>by kernel_rfl
set_option maxHeartbeats 0 in
def L6:Cut.PartC PySem.Challenge.rw_downrings_k51_lots_narrowed_and_landed.row.toRowW.prog (λs=>(s.heap.isNs ZaH,ob (nx.drop 42) s,con.map (λc=>Ev.Gc s.heap c.1),(Ev.gA.map λx=>(s.heap.nsMap ZaH x).isNone),Ev.Bn s.heap)) (λ_=>(aN,vb (nx.drop 42),con.map (λc=>aw c.2),(Ev.gA.map λ_=>aN),aN)):=λw=>by kernel_rfl
end Lw
namespace L2
open PySem PySem.Spec PyProof.Rows
@[inline]abbrev Key:=Sum Int Str
abbrev gk:Key->Value->Bool
 |.inl k,v=>Value.isInt k v
 |.inr x,v=>Value.isStrOf x v
abbrev Rc(w:World):Key->Int
 |.inl k=>hashInt k
 |.inr x=>hashStr w x
def av:∀ {k:Key} {v:Value},gk k v=aN->(∃i t,k=Sum.inl i/\v=Value.int i t)\/(∃x t,k=Sum.inr x/\v=Value.str x t)
 |.inl i,v,h=>by
  let{t,e}:=Value.isInt_shape (k:=i) (v:=v) h;exact .inl ⟨i,t,rfl,e⟩
 |.inr x,v,h=>by
  let{t,e}:=Value.isStrOf_shape (x:=x) (v:=v) h;exact .inr ⟨x,t,rfl,e⟩
def zz(i:Int)(t:Tok):gk (.inl i) (.int i t)=aN:=by simp[gk,Value.isInt]
def zA(x:Str)(t:Tok):gk (.inr x) (.str x t)=aN:=by simp[gk,Value.isStrOf]
def L7(a b:Int):decide ((Sum.inl a:Key)=Sum.inl b)=(a == b):=by
 by_cases e:a=b
 .subst e;simp
 .let h:¬ (Sum.inl a:Key)=Sum.inl b:=λq=>e (Sum.inl.inj q);rw[decide_eq_false h];exact(beq_eq_false_iff_ne.mpr e).symm
def L8(a b:Str):decide ((Sum.inr a:Key)=Sum.inr b)=decide (a=b):=by
 by_cases e:a=b
 .subst e;simp
 .let h:¬ (Sum.inr a:Key)=Sum.inr b:=λq=>e (Sum.inr.inj q);rw[decide_eq_false h,decide_eq_false e]
def Bo(a:Int)(b:Str):decide ((Sum.inl a:Key)=Sum.inr b)=aS:=decide_eq_false (λq=>nomatch q)
def Bp(a:Str)(b:Int):decide ((Sum.inr a:Key)=Sum.inl b)=aS:=decide_eq_false (λq=>nomatch q)
abbrev aV(prog:Program)(w:World):PySem.KeyKind prog w Key where
 is:=gk
 hash:=Rc w
 inj:=λv a b d hb=>by
  rcases av d with ⟨i,t,rfl,rfl⟩ |⟨x,t,rfl,rfl⟩
  .rcases av hb with ⟨j,u,rfl,e⟩ |⟨y,u,rfl,e⟩
   .injection e with e1 _;rw[e1]
   .exact nomatch e
  .rcases av hb with ⟨j,u,rfl,e⟩ |⟨y,u,rfl,e⟩
   .exact nomatch e
   .injection e with e1 _;rw[e1]
 byValue:=λk v h=>by
  rcases av h with ⟨i,t,rfl,rfl⟩ |⟨x,t,rfl,rfl⟩ <;> rfl
 pyHash:=λc h=>by
  rcases av c with ⟨i,t,rfl,rfl⟩ |⟨x,t,rfl,rfl⟩
  .exact wpAny_pyHash_int h
  .exact wpAny_pyHash_str h
 eqBool:=λf c h=>by
  rcases av f with ⟨i,t,rfl,rfl⟩ |⟨x,t,rfl,rfl⟩
  .rcases av c with ⟨j,u,rfl,rfl⟩ |⟨y,u,rfl,rfl⟩
   .rw[L7]at h;exact wpAny_eqBool_int h
   .rw[Bo]at h;exact SeqAt.EqAt.int_str i t y u _ _ _ _ h
  .rcases av c with ⟨j,u,rfl,rfl⟩ |⟨y,u,rfl,rfl⟩
   .rw[Bp]at h;exact SeqAt.EqAt.str_int x t j u _ _ _ _ h
   .rw[L8]at h;exact wpAny_eqBool_str h
 «strs»:=λk x t v h=>by
  rcases av h with ⟨i,u,rfl,e⟩ |⟨y,u,rfl,e⟩
  .exact nomatch e
  .injection e with e1 _;subst e1;cases v <;> rfl
def sQ(prog:Program)(w:World)(i:Int)(t:Tok):(aV prog w).is (.inl i) (.int i t)=aN:=zz i t
def sR(prog:Program)(w:World)(x:Str)(t:Tok):(aV prog w).is (.inr x) (.str x t)=aN:=zA x t
inductive NK where
 |non |one (k:Key) |tup (ks:List Key)
 deriving DecidableEq
def L9{d c:Type}{F G:d->c->Prop}(f:∀a b,F a b->G a b):∀ {l:List d} {m:List c},Paired F l m->Paired G l m
 |_,_,.nil=>.nil
 |_,_,.cons h t=>.cons (f _ _ h) (L9 f t)
section
variable {P:Program} {w:World}
abbrev NIs(P:Program)(w:World)(h:Heap):NK->Value->Prop
 |.non,v=>v = .none
 |.one k,v=>gk k v=aN
 |.tup ks,v=>∃b,v = .ref b/\IsTupleKey (aV P w) h ks b
abbrev eU(P:Program)(w:World)(h:Heap)(k:List NK)(a:Addr):Prop:=∃o I n,h.get? a=aw o/\o.cls = .type "tuple"/\o.data = .seq I n/\Paired (NIs P w h) k I.toList
def NIs.inj{h:Heap}{x y:NK}{v:Value}(d:NIs P w h x v)(c:NIs P w h y v):x=y:=by
 cases x with
 |non=>
  cases d;cases y with
  |non=>rfl
  |one k=>rcases av c with ⟨i,t,_,e⟩ |⟨i,t,_,e⟩ <;> cases e
  |tup f=>let{b,e,_}:=c;cases e
 |one k=>
  rcases av d with ⟨i,t,rfl,rfl⟩ |⟨i,t,rfl,rfl⟩
  .cases y with
   |non=>cases c
   |one j=>rw[(aV P w).inj (Value.int i t) (Sum.inl i) j (by exact d) (by exact c)]
   |tup f=>let{b,e,_}:=c;cases e
  .cases y with
   |non=>cases c
   |one j=>rw[(aV P w).inj (Value.str i t) (Sum.inr i) j (by exact d) (by exact c)]
   |tup f=>let{b,e,_}:=c;cases e
 |tup f=>
  let{b,rfl,hb}:=d;cases y with
  |non=>cases c
  |one k=>rcases av c with ⟨i,t,_,e⟩ |⟨i,t,_,e⟩ <;> cases e
  |tup l=>let{B,e,g}:=c;cases e;rw[hb.inj g]
def pK{h:Heap}:∀ {x y:List NK} {v:List Value},Paired (NIs P w h) x v->Paired (NIs P w h) y v->x=y
 |[],y,_,.nil,hy=>by cases hy;rfl
 |a::x,y,_,.cons h1 t1,hy=>by
  cases hy with
  |cons h2 T=>rw[h1.inj h2,pK t1 T]
def eU.inj{h:Heap}{a:Addr}{x y:List NK}(k:eU P w h x a)(l:eU P w h y a):x=y:=by
 let{o,d,n,j,_,hd,p}:=k;let{o',I,q,f,_,c,g}:=l;obtain rfl:o=o':=θ (j.symm.trans f);rw[hd]at c;injection c with h1 _;subst h1;exact pK p g
def NIs.keeps{h h':Heap}{k:NK}{v:Value}{d:Addr}{o:Obj}{f E}(x:NIs P w h k v)(c:h.get? d=aw o)(hd:o.data = .dict f E)(hs:Heap.SameBut d h h'):NIs P w h' k v:=by
 cases k with
 |non=>exact x
 |one k=>exact x
 |tup g=>let{b,e,hb}:=x;exact{b,e,hb.keeps c hd hs}
def eU.keeps{h h':Heap}{k:List NK}{a d:Addr}{o:Obj}{l E}(x:eU P w h k a)(j:h.get? d=aw o)(hd:o.data = .dict l E)(hs:Heap.SameBut d h h'):eU P w h' k a:=by
 let{O,I,n,f,q,c,p}:=x
 let g:a≠d:=by
  rintro rfl;obtain rfl:O=o:=θ (f.symm.trans j);rw[hd]at c;exact nomatch c
 exact{O,I,n,(hs.2 a g).trans f,q,c,L9 (λ_ _ z=>z.keeps j hd hs) p}
def eU.typeIs{s:Shared}{k:List NK}{a:Addr}(x:eU P w s.heap k a):s.TypeIs (.ref a) "tuple" := let ⟨o,_,_,ho,hc,_⟩:=x;⟨o,ho,hc⟩
abbrev nkH(P:Program)(w:World):NK->Int
 |.non=>0xFCA86420
 |.one k=>Rc w k
 |.tup ks=>tupleKeyHash (aV P w) ks
abbrev nkN:NK->Nat
 |.tup ks=>ks.length+1
 |_=>1
def zB{A:Around}{E:Value->Shared->Prop}{s:Shared}{Q:Int->Shared->Prop}(h:Q 0xFCA86420 {s with toks:=s.toks+1}):wpAny (model P w) A (pyHash .none) Q E s:=by
 let hT:s.TypeIs .none "NoneType" := typeIs_none s;delta pyHash;let c:[Value.none].any Value.onHeap=aS:=rfl;calc Zbf ?_;rw[cRoomFor,if_neg (by rw[c];exact Zd)];calc Zby ?_;calc Zbf (ZbH hT F.slot_NoneType_hash.lookup ?_);show wpAny _ _ (if (aw (Value.builtin "NoneType.__hash__") == aw Value.none)=aN then _ else _) Q E s;rw[if_neg (by rw[beq_builtin_none];exact Zd)];calc Zbf (ZbH hT F.slot_NoneType_hash.lookup ?_);show wpAny _ _ (Zak .none "__hash__" _ >>= _) Q E s;calc Zbf (wpAny_callSpecialIfBoundUnlessNone?_slot hT Vw (Zbg Vw hT F.entry_NoneType_hash ?_ (F.args_NoneType_hash_1 _)));show wpAny _ _ (slotArgs "__hash__" 0 _ >>= λ_=>retInt 0xFCA86420) _ _ s;calc Zbf (m:=slotArgs "__hash__" 0 _) (Zby ?_);calc wpAny_ret_mkInt ?_;show wpAny _ _ (pure (0xFCA86420:Int)) Q E _;exact Zby h
def Bq{A:Around}{E:Value->Shared->Prop}{s:Shared}{k:NK}{v:Value}{Q:Int->Shared->Prop}(d:A.units < cLine)(c:NIs P w s.heap k v)(h:Q (nkH P w k) {s with toks:=s.toks+nkN k}):wpAny (model P w) A (pyHash v) Q E s:=by
 cases k with
 |non=>cases c;exact zB h
 |one k=>exact(aV P w).pyHash c h
 |tup f=>let{b,rfl,hb}:=c;exact wpAny_pyHash_tuple d hb h
abbrev Bs(P:Program)(w:World)(k:List NK):Int:=reduceHash (Builtin.Tuple.tupleHashOf (k.map (nkH P w)))
abbrev sS(k:List NK):Nat:=(k.map nkN).sum
def zC{A:Around}{E:Value->Shared->Prop}{s:Shared}{d:List NK}{a:Addr}{Q:Int->Shared->Prop}(q:A.units+1 < cLine)(j:eU P w s.heap d a)(h:Q (Bs P w d) {s with toks:=s.toks+(sS d+1)}):wpAny (model P w) A (pyHash (.ref a)) Q E s:=by
 let hT:=j.typeIs;let{o,I,n,l,_,hd,p}:=j;delta pyHash
 first |delta pyHashByItsType |skip
 first |refine Zbf (wpAny_cRoomFor_or (.inr (by omega)) ?_) |skip
 calc Zbf (ZbH hT F.slot_tuple_hash.lookup ?_);show wpAny _ _ (if (aw (Value.builtin "tuple.__hash__") == aw Value.none)=aN then _ else _) Q E s;rw[if_neg (by rw[beq_builtin_none];exact Zd)];calc Zbf (ZbH hT F.slot_tuple_hash.lookup ?_);show wpAny _ _ (Zak (.ref a) "__hash__" _ >>= _) Q E s;calc Zbf (wpAny_callSpecialIfBoundUnlessNone?_slot hT F.slot_tuple_hash (Zbg F.slot_tuple_hash hT F.entry_tuple_hash ?_ (F.args_tuple_hash_1 _)));show wpAny _ _ (Builtin.Tuple.tupleItemsOf (.ref a) >>= _) _ _ s;calc Zbf (wpAny_tupleItemsOf l hd ?_);calc Zbf ?_;rw[<-Xi]
 refine Zbl _
  (λc (b:Array Int) g=>∃done left,d=done++left/\Paired (NIs P w s.heap) left c/\b.toList=done.map (nkH P w)/\g={s with toks:=s.toks+sS done})
  _ ?_ ?_ _ _ ⟨[],d,rfl,p,rfl,rfl⟩
 .rintro x c b g ⟨done,left,rfl,hl,hb,rfl⟩;cases hl with
  |@cons k _ ks' _ h1 hl'=>
   refine Zbf (Bq q h1 ?_)
   first
    |exact Zby {done++[k],ks',by simp,hl',by simp[hb],by simp[sS,YK]}
    |exact Zbf (Zby (Zby {done++[k],ks',by simp,hl',by simp[hb],by simp[sS,YK]}))
 .rintro b g ⟨done,left,rfl,hl,hb,rfl⟩;cases hl;rw[ZU]at h;show wpAny _ _ (retInt (Builtin.Tuple.tupleHashOf b.toList)) _ _ _;rw[hb];calc wpAny_ret_mkInt ?_;show wpAny _ _ (if (decide (-(2:Int) ^ 63<=Builtin.Tuple.tupleHashOf (done.map (nkH P w))) && decide (Builtin.Tuple.tupleHashOf (done.map (nkH P w)) < 2 ^ 63))=aN then _ else _) Q E _;delta Bs reduceHash at h;by_cases f:(decide (-(2:Int) ^ 63<=Builtin.Tuple.tupleHashOf (done.map (nkH P w))) && decide (Builtin.Tuple.tupleHashOf (done.map (nkH P w)) < 2 ^ 63))=aN
  .rw[if_pos f];rw[if_pos f]at h;exact Zby (by simpa[YK] using h)
  .rw[if_neg f];rw[if_neg f]at h;exact Zbf (ZbD (Zby (by simpa[YK] using h)))
def vA{c:Type}[DecidableEq c](x y:List c):((Zm (min x.length y.length)).all (λj=>decide (x[j]?=y[j]?)) && x.length == y.length)=decide (x=y):=by
 rw[Yo,bAE,ZM,decide_eq_true_eq,beq_iff_eq];constructor
 .rintro⟨h1,h2⟩;calc YW λj=>?_;by_cases h:j < x.length
  .exact ω (h1 j (ZZ.mpr (by omega)))
  .rw[Zx (by omega),Zx (by omega)]
 .rintro rfl;exact⟨λj _=>decide_eq_true rfl,rfl⟩
def sU{A:Around}{s:Shared}{x y:Key}{u v:Value}(c:gk x u=aN)(h:gk y v=aN):V2 A s u v (decide (x=y)):=by
 rcases av c with ⟨i,t,rfl,rfl⟩ |⟨a,t,rfl,rfl⟩
 .rcases av h with ⟨j,r,rfl,rfl⟩ |⟨b,r,rfl,rfl⟩
  .rw[show decide ((Sum.inl i:Key)=Sum.inl j)=(i == j) by simp[Y4]];exact .int_int i t j r
  .rw[Bo];exact .int_str i t b r
 .rcases av h with ⟨j,r,rfl,rfl⟩ |⟨b,r,rfl,rfl⟩
  .rw[Bp];exact .str_int a t j r
  .rw[show decide ((Sum.inr a:Key)=Sum.inr b)=(a == b) by simp[Y4]];exact .str_str a t b r
def mJ{h:Heap}:∀ {c:List Key} {d:List Value},ItemsAre (aV P w) c d->∀ (j:Nat) v,d[j]?=aw v->∃k,c[j]?=aw k/\gk k v=aN
 |_,_,.nil,j,v,e=>by simp at e
 |_,_,.cons h1 t,0,v,e=>by cases e;exact⟨_,rfl,h1⟩
 |_,_,.cons h1 t,j+1,v,e=>mJ (h:=h) t j v (by simpa using e)
def Bt{A:Around}{s:Shared}{x y:NK}{u v:Value}(p:A.units < cLine)(B:NIs P w s.heap x u)(d:NIs P w s.heap y v):V2 A s u v (decide (x=y)):=by
 let tup:∀ {g:List Key} {b:Addr},IsTupleKey (aV P w) s.heap g b->∃I:Array Value,s.heap.IsTuple b I/\ItemsAre (aV P w) g I.toList:=λ⟨o,I,n,X,C,hd,Q⟩=>⟨I,⟨o,X,C,n,hd⟩,Q⟩;cases x with
 |non=>
  cases B;cases y with
  |non=>cases d;exact .same _
  |one k=>
   rw[decide_eq_false (λz=>nomatch z)];rcases av d with ⟨i,t,rfl,rfl⟩ |⟨i,t,rfl,rfl⟩
   .exact .none_int i t
   .exact .none_str i t
  |tup g=>
   let{b,rfl,hb}:=d;let{I,h1,_}:=tup hb;rw[decide_eq_false (λz=>nomatch z)];exact .none_tuple h1 p
 |one k=>
  cases y with
  |non=>
   cases d;rw[decide_eq_false (λz=>nomatch z)];rcases av B with ⟨i,t,rfl,rfl⟩ |⟨i,t,rfl,rfl⟩
   .exact .int_none i t
   .exact .str_none i t
  |one q=>
   rw[show decide (NK.one k=NK.one q)=decide (k=q) by simp];exact sU B d
  |tup g=>
   let{b,rfl,hb}:=d;let{I,h1,_}:=tup hb;rw[decide_eq_false (λz=>nomatch z)];rcases av B with ⟨i,t,rfl,rfl⟩ |⟨i,t,rfl,rfl⟩
   .exact .int_tuple i t h1 p
   .exact .str_tuple i t h1 p
 |tup g=>
  let{b,rfl,hb}:=B;let{I,h1,E}:=tup hb;cases y with
  |non=>cases d;rw[decide_eq_false (λz=>nomatch z)];exact .tuple_none h1 p
  |one k=>
   rw[decide_eq_false (λz=>nomatch z)];rcases av d with ⟨i,t,rfl,rfl⟩ |⟨i,t,rfl,rfl⟩
   .exact .tuple_int i t h1 p
   .exact .tuple_str i t h1 p
  |tup f=>
   let{c,rfl,C}:=d;let{l,h2,J}:=tup C;by_cases e:b=c
   .subst e;rw[hb.inj C,decide_eq_true rfl];exact .same _
   .refine .of_refs e ?_
    let z:=SeqAt.RcAt.tuples (e:=λj=>decide (g[j]?=f[j]?)) h1 h2 p λj U Y=>by
     let{k,O,m1}:=mJ (h:=s.heap) E j I[j] (by simp[U]);let{q,L,T}:=mJ (h:=s.heap) J j l[j] (by simp[Y]);rw[O,L,show decide (aw k=aw q)=decide (k=q) by simp];exact sU m1 T
    let l1:g.length=I.size:=E.length.trans ZG;let l2:f.length=l.size:=J.length.trans ZG;rw[<-l1,<-l2,vA]at z;rw[show decide (NK.tup g=NK.tup f)=decide (g=f) by simp];exact z
def mL{h:Heap}:∀ {c:List NK} {d:List Value},Paired (NIs P w h) c d->∀ (j:Nat) v,d[j]?=aw v->∃k,c[j]?=aw k/\NIs P w h k v
 |_,_,.nil,j,v,e=>by simp at e
 |_,_,.cons h1 t,0,v,e=>by cases e;exact⟨_,rfl,h1⟩
 |_,_,.cons h1 t,j+1,v,e=>mL t j v (by simpa using e)
def Gg{A:Around}{E:Value->Shared->Prop}{s:Shared}{x y:List NK}{a b:Addr}{Q:Bool->Shared->Prop}(L:A.units+1 < cLine)(v:eU P w s.heap x a)(l:eU P w s.heap y b)(h:Q (decide (x=y)) s):wpAny (model P w) A (eqBool (.ref a) (.ref b)) Q E s:=by
 by_cases e:a=b
 .subst e;rw[v.inj l,decide_eq_true rfl]at h;exact SeqAt.EqAt.same _ _ _ _ _ h
 .let{o,c,n,U,Z,hd,q}:=v;let{O,I,X,d,f,g,u}:=l
  let z:=SeqAt.RcAt.tuples (A:=A) (e:=λj=>decide (x[j]?=y[j]?)) (show s.heap.IsTuple a c from ⟨o,U,Z,n,hd⟩) (show s.heap.IsTuple b I from ⟨O,d,f,X,g⟩) (by omega) λj T Y=>by
   let{k,C,m1}:=mL q j c[j] (by simp[T]);let{p,B,J}:=mL u j I[j] (by simp[Y]);rw[C,B,show decide (aw k=aw p)=decide (k=p) by simp];exact Bt L m1 J
  let l1:x.length=c.size:=q.length.trans ZG;let l2:y.length=I.size:=u.length.trans ZG;rw[<-l1,<-l2,vA]at z;exact SeqAt.EqAt.of_refs e z _ _ _ _ h
def zD{A:Around}{E:Value->Shared->Prop}{s:Shared}{x:NK}{v:Value}{Q:Bool->Shared->Prop}(f:NIs P w s.heap x v)(h:Q aN s):wpAny (model P w) A (Zav 7 v) Q E s:=by
 cases x with
 |non=>cases f;rw[Zaw _ rfl];exact Zby h
 |one k=>rw[Zaw _ ((aV P w).byValue k v (by exact f))];exact Zby h
 |tup B=>
  let{b,rfl,p}:=f;let hT:=p.typeIs;let{o,I,n,q,_,hd,y}:=p;delta Zav;calc Zbf (ZbH hT F.slot_tuple_eq.lookup ?_);show wpAny _ _ (isInstance (.ref b) (.type "tuple") >>= _) _ _ s;calc Zbf (Zbo hT ZaD ?_);simp![Xa,ZY,if_false];calc Zbf (ZbE q hd ?_);calc Zbf ?_;show wpAny _ _ (forIn I _ _) _ _ s;rw[<-Xi];refine Zbl _ (λc r l=>r.1=aD/\l=s/\∀v∈c,carriedByValue v=aN) _ ?_ ?_ _ _ ⟨rfl,rfl,y.byValue⟩
  .rintro v c r l ⟨g,rfl,d⟩;rw[Zaw _ (d v Zh)];calc Zbf (Zby ?_);simp![Xa,ZY,if_false];exact Zby ⟨rfl,rfl,λu j=>d u (Zf _ j)⟩
  .rintro⟨r1,r2⟩ l ⟨g,rfl,_⟩;simp! at g;subst g;exact Zby h
def vB{A:Around}{E:Value->Shared->Prop}{s:Shared}{k:List NK}{a:Addr}{Q:Bool->Shared->Prop}(g:eU P w s.heap k a)(h:Q aN s):wpAny (model P w) A (Zav 8 (.ref a)) Q E s:=by
 let hT:=g.typeIs;let{o,I,n,j,_,hd,l}:=g;delta Zav;calc Zbf (ZbH hT F.slot_tuple_eq.lookup ?_);show wpAny _ _ (isInstance (.ref a) (.type "tuple") >>= _) _ _ s;calc Zbf (Zbo hT ZaD ?_);simp![Xa,ZY,if_false];calc Zbf (ZbE j hd ?_);calc Zbf ?_;show wpAny _ _ (forIn I _ _) _ _ s;rw[<-Xi];refine Zbl _ (λc r f=>r.1=aD/\f=s/\∃left,Paired (NIs P w s.heap) left c) _ ?_ ?_ _ _ ⟨rfl,rfl,k,l⟩
 .rintro v c r f ⟨d,rfl,left,hl⟩;cases hl with
  |cons h1 h2=>
   calc Zbf (zD h1 ?_);simp![Xa,ZY,if_false];exact Zby ⟨rfl,rfl,_,h2⟩
 .rintro⟨r1,r2⟩ f ⟨d,rfl,_⟩;simp! at d;subst d;exact Zby h
end
abbrev gB(P:Program)(w:World):HeapKind P w (List NK) where
 is:=eU P w
 hash:=Bs P w
 draws:=λk=>sS k+1
 room:=λA=>A.units+1 < cLine
 inj:=λd f=>d.inj f
 keeps:=λx j hd hs=>x.keeps j hd hs
 pyHash:=λg c h=>zC g c h
 eqBool:=λg d f h=>Gg g d f h
 quiet:=λc h=>vB c h
inductive V where
 |non |bl (b:Bool) |int (i:Int) |str (x:Str) |byt (b:Array UInt8) |flt (b:UInt64) |ref (a:Addr) |ty (n:String)
 deriving DecidableEq
abbrev aI:V->Value->Prop
 |.non,u=>u=Value.none
 |.bl b,u=>u=Value.bool b
 |.int i,u=>∃t,u=Value.int i t
 |.str x,u=>∃t,u=Value.str x t
 |.byt b,u=>∃t,u=Value.bytes b t
 |.flt b,u=>∃t,u=Value.float b t
 |.ref a,u=>u=Value.ref a
 |.ty n,u=>u=Value.type n
@[inline]abbrev aP:List V->List Value->Prop:=Paired aI
def aP.length{xs:List V}{u:List Value}(r:aP xs u):xs.length=u.length:=Paired.length r
def aP.get:∀ {xs:List V} {U:List Value} {i:Nat} {x:V},aP xs U->xs[i]?=aw x->∃u,U[i]?=aw u/\aI x u
 |_,_,_,_,.nil,e=>by simp at e
 |_,_,0,_,.cons r _,e=>by simp at e;subst e;exact⟨_,rfl,r⟩
 |_,_,i+1,x,.cons _ t,e=>by
  let{u,h1,h2}:=aP.get (i:=i) (x:=x) t (by simpa using e);exact{u,by simpa using h1,h2}
def aP.set{x:V}{u:Value}(r:aI x u):∀ {xs:List V} {U:List Value} (i:Nat),aP xs U->aP (xs.set i x) (U.set i u)
 |_,_,_,.nil=>.nil
 |_,_,0,.cons _ t=>.cons r t
 |_,_,i+1,.cons q t=>.cons q (aP.set r i t)
def aP.append:∀ {xs y:List V} {u c:List Value},aP xs u->aP y c->aP (xs++y) (u++c)
 |_,_,_,_,.nil,s=>s
 |_,_,_,_,.cons r t,s=>.cons r (aP.append t s)
def aP.take:∀ {xs:List V} {u:List Value} (n:Nat),aP xs u->aP (xs.take n) (u.take n)
 |_,_,0,_=>.nil
 |_,_,_+1,.nil=>.nil
 |_,_,n+1,.cons r t=>.cons r (aP.take n t)
def aP.drop:∀ {xs:List V} {u:List Value} (n:Nat),aP xs u->aP (xs.drop n) (u.drop n)
 |_,_,0,r=>r
 |_,_,_+1,.nil=>.nil
 |_,_,n+1,.cons _ t=>aP.drop n t
abbrev vC:Option V->Option Value->Prop
 |some v,aw u=>aI v u
 |none,aD=>True
 |_,_=>False
abbrev KV{c:Type}:List (c×V)->List (c×Value)->Prop:=Paired λ(p:c×V) (q:c×Value)=>p.1=q.1/\aI p.2 q.2
abbrev kV:Key->V
 |.inl i=>.int i
 |.inr x=>.str x
abbrev qO(h:Heap)(a:Addr)(I:Array Value):Prop:=∃o,h.get? a=aw o/\o.cls = .type "tuple"/\∃n,o.data = .seq I n/\o.dict=aD
def qO.isTup(x:qO h a items):IsTup h a items:=let ⟨o,e,c,n,d,_⟩:=x;⟨o,e,c,n,d⟩
def qO.lt(x:qO h a I):a < h.objs.size:=x.isTup.lt
def qO.new(h:Heap)(items:Array Value):qO (h.push {cls:=.type "tuple",data:=.seq items}) h.objs.size items:={_,Zu _ rfl,rfl,_,rfl,rfl}
inductive HO where
  |lst (xs:List V)
  |tup (xs:List V)
  |dK (kvs:List (Key×V)) |dT (kvs:List (List NK×V))
  |set (S:Int->Bool) (n:Nat)
  |ins (C dx:Addr) (fs:List (Str×V))
  |own (x:Addr)
  |xd (fs:List (Str×V))
  |met (f x:Addr)
  |rng (lo hi:Int)
  |frz (o:Obj) (u:HO)
  |tbl (ps:Array Value)
  |ext (φ:Heap->Prop)
@[inline]abbrev Hp:=Addr->Option HO
abbrev upd(H:Hp)(a:Addr)(o:HO):Hp:=λb=>if b=a then aw o else H b
def aG{H:Hp}{a:Addr}{o:HO}:upd H a o a=aw o:=by delta upd;rw[if_pos rfl]
def ax{H:Hp}{a b:Addr}{o:HO}(h:b≠a):upd H a o b=H b:=by delta upd;rw[if_neg h]
def xQ:upd (upd H a o) a u=upd H a u:=by
 funext b;delta upd;split <;> rfl
def mM{H:Hp}{a b:Addr}{o u:HO}(h:H a=aw o)(h':H b=aw u)(d:o≠u):a≠b:=by
 intro e;subst e;rw[h]at h';exact d (θ h')
def aR{H:Hp}{a b:Addr}{o:HO}(h:H a=aw o)(h':H b=aD):a≠b:=by
 intro e;subst e;rw[h]at h';cases h'
abbrev zE(H:Hp):NK->V->Prop
 |.non,x=>x = .non
 |.one k,x=>x=kV k
 |.tup ks,x=>∃b,x = .ref b/\H b=aw (.tup (ks.map kV))
abbrev qP(H:Hp)(k:List NK)(a:Addr):Prop:=∃xs,H a=aw (.tup xs)/\Paired (zE H) k xs
def zE.mono{H c:Hp}(d:∀b xs,H b=aw (.tup xs)->c b=aw (.tup xs)){k:NK}{x:V}(h:zE H k x):zE c k x:=by
 cases k with
 |non=>exact h
 |one k=>exact h
 |tup f=>let{b,e,q}:=h;exact{b,e,d _ _ q}
def qP.mono{H d:Hp}{k:List NK}{a:Addr}(h:qP H k a)(c:∀b xs,H b=aw (.tup xs)->d b=aw (.tup xs)):qP d k a:=
 let ⟨xs,e,r⟩:=h;{xs,c _ _ e,L9 (λ_ _ z=>z.mono c) r}
section
variable (P:Program) (w:World)
abbrev bp(H:Hp)(h:Heap)(a:Addr):HO->Prop
 |.lst xs=>xs.length<=sizeLine/\∃ (I:List Value) (n:Nat),aP xs I/\h.get? a=aw {cls:=.type "list",data:=.seq I.toArray n}
 |.tup xs=>xs.length<=sizeLine/\∃I:List Value,aP xs I/\qO h a I.toArray
 |.dK kvs=>kvs.length<=sizeLine/\(a == Za7)=aS/\∃d,KV kvs d/\h.DictOf (aV P w) a d
 |.dT kvs=>kvs.length<=sizeLine/\(a == Za7)=aS/\∃xs:List (List NK×Addr×Value),
   Paired (λ(p:List NK×V) (q:List NK×Addr×Value)=>p.1=q.1/\qP H p.1 q.2.1/\aI p.2 q.2.2) kvs xs ∧
   ∃o E g,h.get? a=aw o/\o.ExactDict/\o.data = .dict E g/\E.toList=xs.map (entryOfKey (gB P w))/\(xs.map (·.1)).Nodup
 |.set S n=>h.SetOf (intKind P w) a S n
 |.ins C dx fs=>H dx=aw (.own a)/\fs.length<=1000/\dx≠a/\h.get? a=aw (Rw C dx) ∧
   ∃c,h.Ns1 dx c/\(∀f,vC (fs.lookup f) (c f))/\PySem.Within c (fs.map (·.1))
 |.own _=>∃o,h.get? a=aw o
 |.xd fs=>∃c,h.Ns1 a c/\∀f,vC (fs.lookup f) (c f)
 |.rng lo hi=>∃t u v,h.get? a=aw {cls:=.type "range",data:=.fields #[.int lo t,.int hi u,.int 1 v]}
 |.frz o u=>h.get? a=aw o/\bp H h a u
 |.tbl ps=>h.get? a=aw {cls:=.none,data:=.fields ps}
 |.met f x=>h.get? a=aw (OR (.ref f) (.ref x))
 |.ext φ=>φ h/\(∃o,h.get? a=aw o)/\∀h1 h2:Heap,φ h1->(∀o,h1.get? a=aw o->h2.get? a=aw o)->φ h2
abbrev HOk(H:Hp)(h:Heap):Prop:=∀a o,H a=aw o->bp P w H h a o
end
section
variable {P:Program} {w:World} {H g:Hp} {h h':Heap} {a:Addr} {o:HO}
def bp.lt(x:bp P w H h a o):a < h.objs.size:=by
 cases o with
 |lst xs=>let{_,_,_,_,e}:=x;exact Zt e
 |tup xs=>let{_,_,_,p}:=x;exact p.lt
 |dK k=>let{_,_,_,_,o,_,_,e,_}:=x;exact Zt e
 |dT k=>let{_,_,_,_,o,_,_,e,_}:=x;exact Zt e
 |set S n=>let{o,_,_,_,e,_}:=x;exact Zt e
 |ins C j fs=>let{_,_,_,e,_}:=x;exact Zt e
 |own y=>let{_,e}:=x;exact Zt e
 |xd fs=>let{_,⟨_,_,_,e,_⟩,_}:=x;exact Zt e
 |rng lo d=>let{_,_,_,e}:=x;exact Zt e
 |frz ob u=>let{e,_}:=x;exact Zt e
 |tbl ps=>exact Zt (show h.get? a=aw _ from x)
 |met f y=>exact Zt (show h.get? a=aw _ from x)
 |ext c=>let{_,⟨_,e⟩,_}:=x;exact Zt e
def Paired.mapP{d c:Type}{F G:d->c->Prop}:∀ {l₁:List d} {l₂:List c},Paired F l₁ l₂->(∀a b,F a b->G a b)->Paired G l₁ l₂
 |_,_,.nil,_=>.nil
 |_,_,.cons r t,f=>.cons (f _ _ r) (Paired.mapP t f)
def bp.stay(x:bp P w H h a o)(k:∀b u,(b=a\/H b=aw (.own a))->h.get? b=aw u->h'.get? b=aw u)
  (T:∀b,H b=aw (.own a)->g b=aw (.own a)) (U:∀b xs,H b=aw (.tup xs)->g b=aw (.tup xs)):bp P w g h' a o:=by
 induction o with
 |lst xs=>let{z,I,n,r,e}:=x;exact{z,I,n,r,k _ _ (.inl rfl) e}
 |tup xs=>let{z,I,r,ob,e,c}:=x;exact{z,I,r,ob,k _ _ (.inl rfl) e,c}
 |dK l=>let{z,y,L,r,ob,j,E,e,c}:=x;exact{z,y,L,r,ob,j,E,k _ _ (.inl rfl) e,c}
 |dT l=>
  let{z,y,xs,r,ob,j,E,e,c}:=x;exact{z,y,xs,Paired.mapP r λp q z=>{z.1,z.2.1.mono U,z.2.2},ob,j,E,k _ _ (.inl rfl) e,c}
 |set S n=>let{ob,j,E,t,e,c}:=x;exact{ob,j,E,t,k _ _ (.inl rfl) e,c}
 |ins C X fs=>
  let{d,z,ne,e,B,⟨O,j,E,J,c⟩,r}:=x;exact{T _ d,z,ne,k _ _ (.inl rfl) e,B,{O,j,E,k _ _ (.inr d) J,c},r}
 |own y=>let{ob,e}:=x;exact{ob,k _ _ (.inl rfl) e}
 |xd fs=>let{B,⟨O,j,E,e,c⟩,r}:=x;exact⟨B,{O,j,E,k _ _ (.inl rfl) e,c},r⟩
 |rng lo Y=>let{t,u,v,e}:=x;exact{t,u,v,k _ _ (.inl rfl) e}
 |frz ob u Q=>let{e,q}:=x;exact{k _ _ (.inl rfl) e,Q q}
 |tbl ps=>
  let e:h.get? a=aw {cls:=.none,data:=.fields ps}:=x;show h'.get? a=aw {cls:=.none,data:=.fields ps};exact k a _ (.inl rfl) e
 |met f y=>
  let e:h.get? a=aw (OR (.ref f) (.ref y)):=x;show h'.get? a=aw (OR (.ref f) (.ref y));exact k a _ (.inl rfl) e
 |ext Z=>let{p,⟨o,e⟩,st}:=x;exact{st _ _ p λo q=>k _ _ (.inl rfl) q,{o,k _ _ (.inl rfl) e},st}
def HOk.lt(x:HOk P w H h)(e:H a=aw o):a < h.objs.size:=(x a o e).lt
def HOk.fresh(x:HOk P w H h)(e:h.objs.size<=a):H a=aD:=by
 cases q:H a with
 |none=>rfl
 |some u=>exact absurd (ZC (x.lt q) e) (ZO _)
def HOk.kept(x:HOk P w H h)(k:∀b u,h.get? b=aw u->h'.get? b=aw u):HOk P w H h':=λa o e=>
 (x a o e).stay (λb u _ q=>k b u q) (λ_ q=>q) λ_ _ q=>q
def HOk.laid(x:HOk P w H h)(k:∀b u,h.get? b=aw u->h'.get? b=aw u)(f:h.objs.size<=a)(new:bp P w (upd H a o) h' a o):HOk P w (upd H a o) h':=λb u e=>by
 let d:=x.fresh f;by_cases hb:b=a
 .subst hb;rw[aG]at e;cases e;exact new
 .rw[ax hb]at e;exact(x b u e).stay (λc v _ q=>k c v q) (λc q=>by rw[ax (aR q d)];exact q) λc xs q=>by rw[ax (aR q d)];exact q
end
abbrev Rd(H:Hp)(a:Addr)(u:HO):Prop:=H a=aw u\/∃o,H a=aw (.frz o u)
def Rd.ok{P:Program}{w:World}{H:Hp}{h:Heap}{a:Addr}{u:HO}(r:Rd H a u)(x:HOk P w H h):bp P w H h a u:=by
 rcases r with r |⟨o,r⟩
 .exact x a u r
 .let{_,q}:=x a _ r;exact q
abbrev Mut:Option HO->Prop
 |some (.lst _)=>True
 |some (.dK _)=>True
 |some (.dT _)=>True
 |some (.set _ _)=>True
 |some (.ins _ _ _)=>True
 |some (.ext _)=>True
 |_=>False
section
variable {P:Program} {w:World} {H:Hp} {h h':Heap} {x e:Addr} {o:HO}
def HOk.write(ok:HOk P w H h)(mu:Mut (H x))(j:e=x\/H e=aw (.own x))(k:∀b u,b≠e->h.get? b=aw u->h'.get? b=aw u)(g:∃u,h'.get? e=aw u)
  (new:bp P w (upd H x o) h' x o):HOk P w (upd H x o) h':=λb u q=>by
 let n:∀c y,H c=aw (.own y)->c≠x:=λc y r z=>by subst z;rw[r]at mu;exact mu
 let f:∀c xs,H c=aw (.tup xs)->c≠x:=λc xs r z=>by subst z;rw[r]at mu;exact mu
 by_cases hb:b=x
 .subst hb;rw[aG]at q;cases q;exact new
 .rw[ax hb]at q;by_cases d:b=e
  .let Q:H b=aw (.own x):=by
    rcases j with z |z
    .exact absurd (d.trans z) hb
    .rw[d];exact z
   rw[q]at Q;cases Q;let{v,l}:=g;exact{v,by rw[d];exact l}
  .refine(ok b u q).stay (λc v hc r=>k c v ?_ r) (λc r=>by rw[ax (n c b r)];exact r) λc xs r=>by rw[ax (f c xs r)];exact r
   rcases hc with rfl |hc
   .exact d
   .rintro rfl;rcases j with z |z
    .exact n c b hc z
    .rw[hc]at z;cases z;exact hb rfl
end
structure Un(fs ex:List Addr)(H H':Hp)(h h':Heap):Prop where
 keep:∀b o,h.get? b=aw o->H b=aD->b∉fs->b∉ex->h'.get? b=aw o
 slot:∀b o,h.get? b=aw o->H b=aD->b∈fs->b∉ex->∃sl,h'.get? b=aw {o with slots:=sl}
 free:∀b o,h.get? b=aw o->H b=aD->b∉ex->H' b=aD
 there:∀b o,h.get? b=aw o->b∉ex->∃o',h'.get? b=aw o'
 tups:∀b xs,H b=aw (.tup xs)->H' b=aw (.tup xs)
 frzs:∀b o u,H b=aw (.frz o u)->H' b=aw (.frz o u)
 tbls:∀b ps,H b=aw (.tbl ps)->∃more,H' b=aw (.tbl (ps++more))
section
variable {fs f ex E:List Addr} {H c d:Hp} {h g i h':Heap} {a x e:Addr} {o:HO}
def Un.any(u:Un fs ex H c h g){b:Addr}{ob:Obj}(q:h.get? b=aw ob)(n:H b=aD)(j:b∉ex):∃sl,g.get? b=aw {ob with slots:=sl}:=by
 by_cases hb:b∈fs
 .exact u.slot b ob q n hb j
 .exact{ob.slots,u.keep b ob q n hb j}
def Un.kept(k:∀b u,h.get? b=aw u->h'.get? b=aw u):Un fs ex H H h h':=
 {λb ob q _ _ _=>k b ob q,λb ob q _ _ _=>{ob.slots,k b ob q},λ_ _ _ n _=>n,λb ob q _=>{ob,k b ob q},λ_ _ q=>q,λ_ _ _ q=>q,λ_ ps q=>{#[],by rw[q];simp}}
def Un.refl:Un fs ex H H h h:=Un.kept λ_ _ q=>q
def Un.laid(k:∀b u,h.get? b=aw u->h'.get? b=aw u)(l:h.objs.size<=a)(j:H a=aD):Un fs ex H (upd H a o) h h' where
 keep:=λb u q _ _ _=>k b u q
 slot:=λb u q _ _ _=>{u.slots,k b u q}
 free:=λb u q n _=>by rw[ax (ZH (ZC (Zt q) l))];exact n
 there:=λb u q _=>{u,k b u q}
 tups:=λb xs q=>by rw[ax (aR q j)];exact q
 frzs:=λb u xs q=>by rw[ax (aR q j)];exact q
 tbls:=λb ps q=>{#[],by rw[ax (aR q j),q];simp}
def Un.write(mu:Mut (H x))(y:e=x\/H e=aw (.own x))(k:∀b u,b≠e->h.get? b=aw u->h'.get? b=aw u)(l:∃u,h'.get? e=aw u):Un fs ex H (upd H x o) h h':=by
 let v:∀b,H b=aD->b≠x:=λb n z=>by subst z;rw[n]at mu;exact mu
 let hb:∀b,H b=aD->b≠e:=λb n z=>by
  subst z;rcases y with r |r
  .exact v b n r
  .rw[n]at r;cases r
 let p:∀b u,H b=aw u->¬ Mut (aw u)->b≠x:=λb u q nm z=>by subst z;rw[q]at mu;exact nm mu
 refine⟨λb u q n _ _=>k b u (hb b n) q,λb u q n _ _=>{u.slots,k b u (hb b n) q},λb u q n _=>by rw[ax (v b n)];exact n,λb u q _=>?_,
  λb xs q=>by rw[ax (p b _ q λz=>z)];exact q,λb u xs q=>by rw[ax (p b _ q λz=>z)];exact q,λb ps q=>{#[],by rw[ax (p b _ q λz=>z),q];simp}⟩
 by_cases j:b=e
 .subst j;exact l
 .exact{u,k b u j q}
end
abbrev trk(h:Heap)(H:Hp):List Addr:=(Zm h.objs.size).filter λa=>(H a).isSome
abbrev qQ(h:Heap)(H:Hp):Heap:=PySem.W.hideAll h (trk h H)
def zF(h:Heap)(H:Hp):(qQ h H).objs.size=h.objs.size:=PySem.W.hideAll_size _ _
def Bu(e:h.get? b=aw o)(n:H b=aD):(qQ h H).get? b=aw o:=
 ST _ e λc=>by
  let q:(H b).isSome=aN:=(Z2.mp c).2;rw[n]at q;simp at q
def Gh(e:(qQ h H).get? b=aw o):h.get? b=aw o/\H b=aD:=by
 let E:h.get? b=aw o:=No (trk h H) e;calc{E,?_};cases q:H b with
 |none=>rfl
 |some x=>
  let c:b∈trk h H:=Z2.mpr {ZZ.mpr (Zt E),by simp[q]};let z:(qQ h H).get? b=aD:=PySem.W.hideAll_none (trk h H) c;rw[z]at e;cases e
structure Mod(K:V5)(mg:Str->Option Value)(base:Heap):Prop where
 kin:K.In base
 glob:base.Ns ZaH mg
 blt:∃mb,base.Ns Zaj mb/\∀x:Str,x≠"__name__"->mb x=Zai x
 nolimit:base.NoLimit
structure Cx where
 prog:Program
 w:World
 K:V5
 mg:Str->Option Value
 base:Heap
 A:Around
 N:List Str
 s₀:Shared
 H₀:Hp
 env:Env
 outer:List Env
 stack:List Env
 ex:List Addr
 fn:Str->Bool
 calm:Bool
 pn:List (Addr×Obj)
 xe:Value->Shared->Prop
abbrev frs(l:List Env):List Addr:=l.filterMap (·.frame)
noncomputable abbrev Cx.fs(X:Cx):List Addr:=frs X.outer
abbrev Vis(sc:Scope)(x:Str):Prop:=sc.names.lookup x=aw .local\/sc.names.lookup x=aw .cell\/sc.names.lookup x=aw .free
abbrev Loc(sc:Scope)(x:Str):Prop:=sc.names.lookup x=aw .local\/sc.names.lookup x=aw .cell
abbrev UK(env:Env)(h:Heap)(m:Str->Option Value)(x:Str)(u:Value):Prop:=
 (env.kindOf x=aw .local/\m x=aw u)\/((env.kindOf x=aw .cell\/env.kindOf x=aw .free)/\∃c,env.cells.lookup x=aw c/\h.IsCell c (aw u))
structure Cx.Ok(X:Cx):Prop where
 mod:Mod X.K X.mg X.base
 kind:X.env.scope.kind = .function
 glob:X.env.globals=ZaH
 blt:X.env.builtins=Zaj
 above:X.s₀.heap.objs.size<=X.env.locals
 inj:∀x y c,X.env.cells.lookup x=aw c->X.env.cells.lookup y=aw c->x=y
 has:∀x,(X.env.kindOf x=aw .cell\/X.env.kindOf x=aw .free)->∃c,X.env.cells.lookup x=aw c
 cab:∀x c,X.fn x=aN->X.env.cells.lookup x=aw c->X.s₀.heap.objs.size<=c
 hd:X.calm=aN->X.A.handled=aD
 frames:X.A.frames=aw X.stack
 stk:X.stack=X.outer\/(X.stack=X.env::X.outer/\X.env.frame=aw X.env.locals)
 exf:∀b∈X.ex,b≠X.env.locals/\∀x c,X.env.cells.lookup x=aw c->c≠b
 bs:∀b o,X.base.get? b=aw o->X.s₀.heap.get? b=aw o/\X.H₀ b=aD
 bsz:X.base.objs.size<=X.s₀.heap.objs.size
 noex:∀b o,X.base.get? b=aw o->b∉X.ex
 exfs:∀b∈X.ex,b∉X.fs
 funs:X.s₀.heap.FunFrames X.base X.outer
 frf:∀b∈X.fs,X.H₀ b=aD
structure Inv(X:Cx)(pins:List (Addr×Obj))(σ:List (Option V))(H:Hp)(s:Shared):Prop where
 ok:X.Ok
 os:s.os=X.s₀.os
 bare:AllBare s.gens
 base:Un X.fs X.ex X.H₀ H X.s₀.heap s.heap
 loc:∃m,s.heap.Ns X.env.locals m/\∀ (i:Nat) (x:Str) (v:V),X.N[i]?=aw x->σ[i]?=aw (aw v)->Vis X.env.scope x->∃u,aI v u/\UK X.env s.heap m x u
 cell:∀x c,X.env.cells.lookup x=aw c->∃v,s.heap.IsCell c v
 free:H X.env.locals=aD
 freeC:∀x c,X.env.cells.lookup x=aw c->H c=aD
 pin:∀p∈X.pn++pins,s.heap.get? p.1=aw p.2/\H p.1=aD/\p.1≠X.env.locals/\p.1∉X.fs/\∀v,p.2.data≠.cell v
 hok:HOk X.prog X.w H s.heap
 len:σ.length=X.N.length
section
variable {X:Cx} {f:List (Addr×Obj)} {g:List (Option V)} {H w:Hp} {s:Shared} {h':Heap}
def Cx.Ok.nofr(ok:X.Ok)(e:X.base.get? b=aw o):b∉X.fs:=λhb=>by
 let:=(ok.funs.mem hb).1;rw[e]at this;cases this
def Inv.bs(I:Inv X f g H s):∀b o,X.base.get? b=aw o->s.heap.get? b=aw o/\H b=aD:=λb o e=>
 {I.base.keep b o (I.ok.bs b o e).1 (I.ok.bs b o e).2 (I.ok.nofr e) (I.ok.noex b o e),I.base.free b o (I.ok.bs b o e).1 (I.ok.bs b o e).2 (I.ok.noex b o e)}
def Inv.bk(I:Inv X f g H s):∀b o,X.base.get? b=aw o->s.heap.get? b=aw o:=λb o e=>(I.bs b o e).1
def Inv.mod(I:Inv X f g H s):Mod X.K X.mg X.base:=I.ok.mod
def Inv.kIn(I:Inv X f g H s):X.K.In s.heap:=I.ok.mod.kin.keeps I.bk
def Inv.lt(I:Inv X f g H s):X.env.locals < s⁻¹:=let ⟨_,hn,_⟩:=I.loc;hn.lt
def Inv.sz(I:Inv X f g H s):X.s₀.heap.objs.size<=s⁻¹:=Zz I.ok.above (YX I.lt)
def Inv.nofs(I:Inv X f g H s)(h:s⁻¹<=a):a∉X.fs:=λhb=>by
 let{_,o,c,_}:=I.ok.funs.mem hb;exact absurd (ZC (Zt c) (Zz I.sz h)) (ZO _)
def Inv.cne(I:Inv X f g H s):∀x c,X.env.cells.lookup x=aw c->c≠X.env.locals:=λx c e z=>by
 let{v,o,j,hd}:=I.cell x c e;let{m,⟨O,k,E,h,d,_⟩,_}:=I.loc;rw[z,h]at j;cases j;rw[d]at hd;cases hd
def Inv.funs(I:Inv X f g H s):s.heap.FunFrames X.base X.outer:=by
 let all:∀ (l:List Env),(∀b∈frs l,b∈X.fs)->X.s₀.heap.FunFrames X.base l->s.heap.FunFrames X.base l:=by
  intro l
  induction l with
  |nil=>intro _ _;trivial
  |cons env r j=>
   intro hs q;let{d,⟨L,o,h,n,k,hd⟩,p}:=q;let c:L∈X.fs:=hs L (by delta frs;rw[Yw,h];exact Zh);let{sl,e}:=I.base.slot L o k (I.ok.frf L c) c λz=>I.ok.exfs L z c;exact{d,⟨L,_,h,n,e,hd⟩,j (λb hb=>hs b (by delta frs;rw[Yw,h];exact Zf _ hb)) p}
 exact all X.outer (λ_ hb=>hb) I.ok.funs
def Inv.stack(I:Inv X f g H s):s.heap.FunFrames X.base X.stack:=by
 rcases I.ok.stk with e |⟨e,hf⟩
 .rw[e];exact I.funs
 .rw[e];let{m,h,_}:=I.loc;calc .cons (by rw[I.ok.kind];decide) hf h ?_ I.funs;exact Heap.get?_none_of_le (Zz I.ok.bsz I.ok.above)
def Inv.stkSub(I:Inv X f g H s):∀b∈frs X.stack,b∈X.env.locals::X.fs:=λb hb=>by
 rcases I.ok.stk with e |⟨e,hf⟩
 .rw[e]at hb;exact Zf _ hb
 .rw[e]at hb;delta frs at hb;rw[Yw,hf]at hb;exact hb
def Inv.stkFree(I:Inv X f g H s):∀b∈frs X.stack,H b=aD:=λb hb=>by
 rcases Zn.mp (I.stkSub b hb) with e |hb
 .rw[e];exact I.free
 .let{_,o,h,_}:=I.ok.funs.mem hb;exact I.base.free b o h (I.ok.frf b hb) λz=>I.ok.exfs b z hb
def Inv.step{g':Array VM}{t':Nat}{d':Drawn}{ch:List Addr}(I:Inv X f g H s)
  (j:∀b∈ch,(b∈X.ex\/X.s₀.heap.objs.size<=b)/\b≠X.env.locals/\(∀x c,X.env.cells.lookup x=aw c->c≠b)/\∀p∈X.pn++f,p.1≠b)
  (keep:∀b o,b≠X.env.locals->b∉X.fs->b∉ch->s.heap.get? b=aw o->H b=aD->h'.get? b=aw o)
  (slot:∀b o,b≠X.env.locals->b∈X.fs->b∉ch->s.heap.get? b=aw o->H b=aD->∃sl,h'.get? b=aw {o with slots:=sl}) (free:∀b o,b∉ch->s.heap.get? b=aw o->H b=aD->w b=aD)
  (there:∀b o,b∉ch->s.heap.get? b=aw o->∃O,h'.get? b=aw O)
  (tups:∀b xs,H b=aw (.tup xs)->w b=aw (.tup xs)) (frzs:∀b o u,H b=aw (.frz o u)->w b=aw (.frz o u)) (tbls:∀b ps,H b=aw (.tbl ps)->∃more,w b=aw (.tbl (ps++more)))
  (ns:∀m,s.heap.Ns X.env.locals m->h'.Ns X.env.locals m) (hok:HOk X.prog X.w w h') (hg:AllBare g') :
  Inv X f g w {s with heap:=h',gens:=g',drawn:=d',toks:=t'}:=by
 let Q:∀b o,X.s₀.heap.get? b=aw o->b≠X.env.locals:=λb o e=>ZH (ZC (Zt e) I.ok.above)
 let B:∀b o,X.s₀.heap.get? b=aw o->b∉X.ex->b∉ch:=λb o e h hb=>by
  rcases (j b hb).1 with z |z
  .exact h z
  .exact absurd (ZC (Zt e) z) (ZO _)
 let C:∀x c,X.env.cells.lookup x=aw c->∀v,s.heap.IsCell c v->h'.IsCell c v:=λx c e v ⟨o,J,hd⟩=>by
  let y:c∉ch:=λz=>(j c z).2.2.1 x c e rfl;by_cases Z:c∈X.fs
  .let{sl,q}:=slot c o (I.cne x c e) Z y J (I.freeC x c e);exact⟨_,q,hd⟩
  .exact{o,keep c o (I.cne x c e) Z y J (I.freeC x c e),hd}
 refine{I.ok,I.os,hg,{λb o e n hb h=>?_,λb o e n hb h=>?_,λb o e n h=>?_,λb o e h=>?_,λb xs e=>tups b xs (I.base.tups b xs e),λb o xs e=>frzs b o xs (I.base.frzs b o xs e),λb ps e=>?_},?_,λx c e=>?_,?_,λx c e=>?_,λp Y=>?_,hok,I.len}
 .exact keep b o (Q b o e) hb (B b o e h) (I.base.keep b o e n hb h) (I.base.free b o e n h)
 .let{sl,E}:=I.base.slot b o e n hb h;let{T,L}:=slot b _ (Q b o e) hb (B b o e h) E (I.base.free b o e n h);exact⟨T,L⟩
 .let{O,E}:=I.base.there b o e h;exact free b O (B b o e h) E (I.base.free b o e n h)
 .let{O,E}:=I.base.there b o e h;exact there b O (B b o e h) E
 .let{m1,E}:=I.base.tbls b ps e;let{m2,L}:=tbls b _ E;exact{m1++m2,by rw[L,XU]}
 .let{m,hn,hl}:=I.loc;calc{m,ns m hn,λi x v E L e3=>?_};let{u,r,l}:=hl i x v E L e3;calc{u,r,?_};rcases l with l |⟨k,c,e,z⟩
  .exact .inl l
  .exact .inr {k,c,e,C x c e _ z}
 .let{v,z}:=I.cell x c e;exact{v,C x c e v z}
 .let{m,⟨o,_,_,J,_⟩,_}:=I.loc;exact free _ o (λz=>(j _ z).2.1 rfl) J I.free
 .let{v,o,J,hd}:=I.cell x c e;exact free c o (λz=>(j c z).2.2.1 x c e rfl) J (I.freeC x c e)
 .let{e,n,ne,U,d}:=I.pin p Y;let y:p.1∉ch:=λz=>(j p.1 z).2.2.2 p Y rfl;exact{keep p.1 p.2 ne U y e n,free p.1 p.2 y e n,ne,U,d}
def Inv.un{t':Nat}(I:Inv X f g H s)(u:Un X.fs [] H w s.heap h')(hok:HOk X.prog X.w w h'):Inv X f g w {s with heap:=h',toks:=t'}:=by
 let{m,⟨o,v,p,d,r⟩,_}:=id I.loc;let{sl,k}:=u.any d I.free (by simp)
 exact I.step (g':=s.gens) (d':=s.drawn) (ch:=[]) (λ_ z=>nomatch z) (λb o _ hb _ e n=>u.keep b o e n hb (by simp)) (λb o _ hb _ e n=>u.slot b o e n hb (by simp)) (λb o _ e n=>u.free b o e n (by simp)) (λb o _ e=>u.there b o e (by simp)) u.tups u.frzs u.tbls (λq l=>by
  let{O,c,E,h,j}:=l;rw[d]at h;cases h;exact⟨_,c,E,k,j⟩) hok I.bare
def Inv.call{g':Array VM}{t':Nat}{d':Drawn}{ch:List Addr}(I:Inv X f g H s)(u:Un (frs X.stack) ch H w s.heap h')(hok:HOk X.prog X.w w h')(B:AllBare g')
  (j:∀b∈ch,(b∈X.ex\/X.s₀.heap.objs.size<=b)/\b≠X.env.locals/\(∀x c,X.env.cells.lookup x=aw c->c≠b)/\∀p∈X.pn++f,p.1≠b) :
  Inv X f g w {s with heap:=h',gens:=g',drawn:=d',toks:=t'}:=by
 let{m,⟨o,J,C,q,r⟩,_}:=id I.loc;let{sl,l}:=u.any q I.free λz=>(j _ z).2.1 rfl
 exact I.step (ch:=ch) j (λb o l hb h e n=>u.keep b o e n (λz=>(Zn.mp (I.stkSub b z)).elim l hb) h) (λb o _ _ h e n=>u.any e n h) (λb o h e n=>u.free b o e n h) (λb o h e=>u.there b o e h) u.tups u.frzs u.tbls (λL y=>by
  let{O,k,E,d,v}:=y;rw[q]at d;cases d;exact⟨_,k,E,l,v⟩) hok B
def Inv.turned{t':Nat}{it:Addr}(I:Inv X f g H s)(k:∀b o,b≠it->s.heap.get? b=aw o->h'.get? b=aw o)(y:H it=aD)(j:it≠X.env.locals)
  (h1:it∈X.ex\/X.s₀.heap.objs.size<=it) (h2:∀x c,X.env.cells.lookup x=aw c->c≠it) (J:∀p∈X.pn++f,p.1≠it):Inv X f g H {s with heap:=h',toks:=t'}:=by
 let d:∀b u,H b=aw u->b≠it:=λb u e z=>by rw[z,y]at e;cases e
 refine I.step (g':=s.gens) (d':=s.drawn) (ch:=[it]) (λb hb=>?_) (λb o _ _ h e _=>k b o (λz=>h (by simp[z])) e) (λb o _ _ h e _=>{o.slots,k b o (λz=>h (by simp[z])) e}) (λ_ _ _ _ n=>n)
  (λb o h e=>{o,k b o (λz=>h (by simp[z])) e}) (λ_ _ e=>e) (λ_ _ _ e=>e) (λb ps e=>{#[],by rw[e];simp}) (λm C=>?_) (λb u e=>?_) I.bare
 .let e:b=it:=by simpa using hb
  subst e;exact⟨h1,j,h2,J⟩
 .let{o,B,E,l,r}:=C;exact{o,B,E,k _ o (Ne.symm j) l,r}
 .calc(I.hok b u e).stay (λc v h q=>k c v ?_ q) (λ_ q=>q) λ_ _ q=>q;rcases h with z |z
  .rw[z];exact d b u e
  .exact d c _ z
def Inv.tok(I:Inv X f g H s)(t:Nat):Inv X f g H {s with toks:=t}:=I.un (h':=s.heap) (t':=t) Un.refl I.hok
def Inv.kept{t':Nat}(I:Inv X f g H s)(k:∀b u,s.heap.get? b=aw u->h'.get? b=aw u):Inv X f g H {s with heap:=h',toks:=t'}:=I.un (Un.kept k) (I.hok.kept k)
def Inv.laid{a:Addr}{o:HO}{t':Nat}(I:Inv X f g H s)(k:∀b u,s.heap.get? b=aw u->h'.get? b=aw u)(h:s⁻¹<=a)(new:bp X.prog X.w (upd H a o) h' a o) :
  Inv X f g (upd H a o) {s with heap:=h',toks:=t'}:=I.un (Un.laid k h (I.hok.fresh h)) (I.hok.laid k h new)
def Inv.write{t':Nat}(I:Inv X f g H s)(mu:Mut (H x))(c:e=x\/H e=aw (.own x))(k:∀b u,b≠e->s.heap.get? b=aw u->h'.get? b=aw u)(h:∃u,h'.get? e=aw u)
  (new:bp X.prog X.w (upd H x o) h' x o):Inv X f g (upd H x o) {s with heap:=h',toks:=t'}:=I.un (Un.write mu c k h) (I.hok.write mu c k h new)
def Inv.pins_of(I:Inv X f g H s)(h:∀p∈c,s.heap.get? p.1=aw p.2/\H p.1=aD/\p.1≠X.env.locals/\p.1∉X.fs/\∀v,p.2.data≠.cell v):Inv X c g H s:=
 {I.ok,I.os,I.bare,I.base,I.loc,I.cell,I.free,I.freeC,λp d=>(ZQ.mp d).elim (λz=>I.pin p (Z7 _ z)) (h p),I.hok,I.len}
def mO{N:List Str}(hN:N.Nodup){i j:Nat}{x:Str}(a:N[i]?=aw x)(b:N[j]?=aw x):i=j:=by
 let{h1,c}:=Zb.mp a;let{h2,E}:=Zb.mp b;exact(YO hN).mp (c.trans E.symm)
def pL{M:Model}{A:Around}{E:Value->Shared->Prop}{i:Nat}{x:Str}{v:V}{u:Value}{Q:Unit->Shared->Prop}(I:Inv X f g H s)(hN:X.N.Nodup)(hi:X.N[i]?=aw x)(B:Loc X.env.scope x)(r:aI v u)
  (h:∀s',Inv X f (g.set i (aw v)) H s'->(∃a,Heap.SameBut a s.heap s'.heap/\(a=X.env.locals\/X.env.cells.lookup x=aw a))->Q () s') (hf:X.fn x=aN\/X.env.scope.names.lookup x=aw .local:=by first |exact .inl rfl |exact .inr rfl |assumption):wpAny M A (storeName X.env x u) Q E s:=by
 let{m,hn,hl}:=id I.loc;let Y:(X.env.scope.kind == .class || (X.env.scope.kind == .module && X.env.locals != X.env.globals))=aS:=by rw[I.ok.kind];rfl
 let L:i < g.length:=by rw[I.len];exact(Zb.mp hi).1
 let cne:=I.cne
 let T:∀ {a:Addr} {h':Heap},(∃o,s.heap.get? a=aw o/\H a=aD)->Heap.SameBut a s.heap h'->HOk X.prog X.w H h':=λ{a h'} ha hs b ob e=>by
  let{_,_,C}:=ha;calc(I.hok b ob e).stay (λc w' hc q=>(hs.2 c ?_).trans q) (λ_ q=>q) λ_ _ q=>q;rintro rfl;rcases hc with rfl |hc
  .rw[C]at e;cases e
  .rw[C]at hc;cases hc
 rcases B with hk |hk
 .calc wpAny_storeName_local hk hn (λh' hn' hs=>?_) Y;let{oL,_,_,hoL,_}:=id hn;refine h _ {I.ok,I.os,I.bare,{λb o e n hb B=>?_,λb o e n hb B=>?_,I.base.free,λb o e B=>?_,I.base.tups,I.base.frzs,I.base.tbls},{_,hn',λj y v' l J e3=>?_},λy c e=>?_,I.free,I.freeC,λp hp=>?_,T ⟨oL,hoL,I.free⟩ hs,by simpa using I.len} {_,hs,.inl rfl}
  .exact(hs.2 b (ZH (ZC (Zt e) I.ok.above))).trans (I.base.keep b o e n hb B)
  .let{sl,l}:=I.base.slot b o e n hb B;exact{sl,(hs.2 b (ZH (ZC (Zt e) I.ok.above))).trans l}
  .let{o',l}:=I.base.there b o e B;exact{o',(hs.2 b (ZH (ZC (Zt e) I.ok.above))).trans l}
  .by_cases O:j=i
   .subst O;rw[hi]at l;cases l;rw[ZL L]at J;cases J;exact{u,r,.inl {hk,by simp}}
   .rw[Zq (Ne.symm O)]at J;let{u',r',q}:=hl j y v' l J e3;calc{u',r',?_};rcases q with ⟨k,e⟩ |⟨k,c,e,z⟩
    .calc .inl {k,?_};let:y≠x:=λe=>O (mO hN l (e▸hi));simp[this,e]
    .exact .inr {k,c,e,z.sameBut hs (cne y c e)}
  .let{w',z}:=I.cell y c e;exact{w',z.sameBut hs (cne y c e)}
  .let{e,n,ne,nf,d}:=I.pin p hp;exact{(hs.2 p.1 ne).trans e,n,ne,nf,d}
 .let U:X.fn x=aN:=by
   rcases hf with z |z
   .exact z
   .rw[z]at hk;cases hk
  let{c,hc}:=I.ok.has x (.inl hk);let{w',z}:=I.cell x c hc;calc wpAny_storeName_cell I.ok.kind hk hc z (λh' Z hs=>?_);let{oc,hoc,hocd}:=id z;refine h {s with heap:=h'} {I.ok,I.os,I.bare,{λb o e n hb B=>?_,λb o e n hb B=>?_,I.base.free,λb o e B=>?_,I.base.tups,I.base.frzs,I.base.tbls},{m,hn.sameBut hs (Ne.symm (cne x c hc)),λj y v' l J e3=>?_},λy c' e=>?_,I.free,I.freeC,λp hp=>?_,T {oc,hoc,I.freeC x c hc} hs,by simpa using I.len} {c,hs,.inr hc}
  .exact(hs.2 b (ZH (ZC (Zt e) (I.ok.cab x c U hc)))).trans (I.base.keep b o e n hb B)
  .let{sl,l}:=I.base.slot b o e n hb B;exact{sl,(hs.2 b (ZH (ZC (Zt e) (I.ok.cab x c U hc)))).trans l}
  .let{o',l}:=I.base.there b o e B;exact{o',(hs.2 b (ZH (ZC (Zt e) (I.ok.cab x c U hc)))).trans l}
  .by_cases O:j=i
   .subst O;rw[hi]at l;cases l;rw[ZL L]at J;cases J;exact{u,r,.inr {.inl hk,c,hc,Z}}
   .rw[Zq (Ne.symm O)]at J;let{u',r',q}:=hl j y v' l J e3;calc{u',r',?_};rcases q with q |⟨k,c',e,z'⟩
    .exact .inl q
    .calc .inr {k,c',e,z'.sameBut hs ?_};rintro rfl;exact O (mO hN l (I.ok.inj _ _ _ e hc▸hi))
  .by_cases hcc:c'=c
   .subst hcc;exact⟨_,Z⟩
   .let{w2,z2}:=I.cell y c' e;exact{w2,z2.sameBut hs hcc}
  .let{e,n,ne,nf,d}:=I.pin p hp;calc{(hs.2 p.1 ?_).trans e,n,ne,nf,d};intro q;rw[q,hoc]at e;let q':oc=p.2:=θ e;exact d w' (by rw[<-q'];exact hocd)
def gC{i:Nat}(I:Inv X f g H s)(hN:X.N.Nodup)(hi:X.N[i]?=aw x)(j:Loc X.env.scope x)(r:aI v u)
  (h:∀c,Inv X f (g.set i (aw v)) H c->Q () c) (d:X.fn x=aN\/X.env.scope.names.lookup x=aw .local:=by first |exact .inl rfl |exact .inr rfl |assumption):wpAny M A (storeName X.env x u) Q E s:=
 pL I hN hi j r (λc k _=>h c k) d
def Inv.call'(I:Inv X f g H s)(d:s'.os=s.os)(u:Un (frs X.stack) ch H w s.heap s'.heap)(hok:HOk X.prog X.w w s'.heap)(j:AllBare s'.gens)
  (h:∀b∈ch,(b∈X.ex\/X.s₀.heap.objs.size<=b)/\b≠X.env.locals/\(∀x c,X.env.cells.lookup x=aw c->c≠b)/\∀p∈X.pn++f,p.1≠b):Inv X f g w s':=by
 let{h',l,k,T,o}:=s';let e:o=s.os:=d;subst e;exact I.call (g':=l) (t':=T) (d':=k) u hok j h
end
@[inline]abbrev XK:=Value->Option Addr->Hp->Prop
@[inline]abbrev St:=List (Option V)
@[inline]abbrev VK:=V->Hp->Prop
@[inline]abbrev TE:=St->Hp->VK->Prop
@[inline]abbrev TT:=St->Hp->(Bool->Hp->Prop)->Prop
@[inline]abbrev TA:=St->Hp->(List V->Hp->Prop)->Prop
structure Ends where
 nx:St->Hp->Prop
 rt:VK
 bk:St->Hp->Prop:=λ_ _=>False
 ct:St->Hp->Prop:=λ_ _=>False
@[inline]abbrev TS:=Ends->St->Hp->Prop
abbrev EP(X:Cx)(p:List (Addr×Obj))(c:St)(Q:VK)(u:Value)(d:Shared):Prop:=∃v h,Inv X p c h d/\aI v u/\Q v h
abbrev TP(X:Cx)(p:List (Addr×Obj))(c:St)(Q:Bool->Hp->Prop)(b:Bool)(d:Shared):Prop:=∃h,Inv X p c h d/\Q b h
abbrev AP(X:Cx)(p:List (Addr×Obj))(c:St)(Q:List V->Hp->Prop)(u:List Value)(d:Shared):Prop:=∃v h,Inv X p c h d/\aP v u/\Q v h
abbrev SP(X:Cx)(p:List (Addr×Obj))(D:Ends)(f:Flow)(d:Shared):Prop:=
 match f with
 |.next=>∃c h,Inv X p c h d/\D.nx c h
 |.brk=>∃c h,Inv X p c h d/\D.bk c h
 |.cont=>∃c h,Inv X p c h d/\D.ct c h
 |.ret u=>∃v c h,Inv X p c h d/\aI v u/\D.rt v h
abbrev PE(X:Cx)(e:Expr)(t:TE):Prop:=
 ∀ (p:List (Addr×Obj)) (s:Shared) (c:St) (H:Hp) (Q:VK),Inv X p c H s->t c H Q->wpAny (model X.prog X.w) X.A (eval e X.env) (EP X p c Q) X.xe s
abbrev PT(X:Cx)(e:Expr)(t:TT):Prop:=
 ∀ (p:List (Addr×Obj)) (s:Shared) (c:St) (H:Hp) (Q:Bool->Hp->Prop),Inv X p c H s->t c H Q->wpAny (model X.prog X.w) X.A (isTrue e X.env (eval e X.env)) (TP X p c Q) X.xe s
abbrev PW(X:Cx)(e:Expr)(t:TT):Prop:=
 ∀ (c:Sem Value) (p:List (Addr×Obj)) (s:Shared) (d:St) (H:Hp) (Q:Bool->Hp->Prop),Inv X p d H s->t d H Q->wpAny (model X.prog X.w) X.A (isTrue e X.env c) (TP X p d Q) X.xe s
def PW.pt(h:PW X e t):PT X e t:=h _
abbrev PA(X:Cx)(E:List Expr)(t:TA):Prop:=
 ∀ (c:Pos) (p:List (Addr×Obj)) (s:Shared) (d:St) (H:Hp) (Q:List V->Hp->Prop),Inv X p d H s->t d H Q->wpAny (model X.prog X.w) X.A (spliced (backTo c (Za2 E X.env))) (AP X p d Q) X.xe s
abbrev PS(X:Cx)(st:Stmt)(t:TS):Prop:=
 ∀ (p:List (Addr×Obj)) (s:Shared) (c:St) (H:Hp) (D:Ends),Inv X p c H s->t D c H->wpAny (model X.prog X.w) X.A (exec st X.env) (SP X p D) X.xe s
abbrev PSs(X:Cx)(st:List Stmt)(t:TS):Prop:=
 ∀ (p:List (Addr×Obj)) (s:Shared) (c:St) (H:Hp) (D:Ends),Inv X p c H s->t D c H->wpAny (model X.prog X.w) X.A (execs st X.env) (SP X p D) X.xe s
def thn{c:Type}{t:Sem c}{Q q:c->Shared->Prop}{M:Model}{A:Around}{E:Value->Shared->Prop}{s:Shared}(h:wpAny M A t Q E s)(d:∀a s,Q a s->q a s):wpAny M A t q E s:=Zbt h d λ_ _ x=>x
section
variable {X:Cx}
abbrev Bv(i:Nat):TE:=λc H Q=>∃v,c[i]?=aw (aw v)/\Q v H
abbrev tC(v:V):TE:=λ_ H Q=>Q v H
def qR{i:Nat}(hN:X.N[i]?=aw x)(j:Vis X.env.scope x)(hd:(x == ("__debug__" : Str))=aS:=by decide)(f:(x == ("__classdict__" : Str))=aS:=by decide):PE X (.Name x o) (Bv i):=by
 intro p s q H Q I h;let{v,e,h}:=h;let{m,k,y}:=I.loc;let{u,r,l}:=y i x v hN e j;let fin:EP X p q Q u s:=⟨v,H,I,r,h⟩;rcases l with ⟨hk,n⟩ |⟨hk,c,g,d⟩
 .exact wpAny_Name (wpAny_loadName_local I.ok.kind hk k n fin) hd
 .rcases hk with hk |hk
  .exact wpAny_Name (wpAny_loadName_cell I.ok.kind hk g d fin) hd
  .exact wpAny_Name (wpAny_loadName_free I.ok.kind hk g d fin f) hd
def i8{i j pos}:PE X (.Constant (.int i) j pos) (tC (.int i)):=λ_ _ _ H _ I h=>wpAny_Constant_int {.int i,H,I.tok _,⟨_,rfl⟩,h}
def Bw{b j p}:PE X (.Constant (.bool b) j p) (tC (.bl b)):=λ_ _ _ H _ I h=>Constant_bool {.bl b,H,I,rfl,h}
def Bx{j pos}:PE X (.Constant .none j pos) (tC .non):=λ_ _ _ H _ I h=>Constant_none ⟨.non,H,I,rfl,h⟩
def qS{x j p}:PE X (.Constant (.str x) j p) (tC (.str x)):=λ_ _ _ H _ I h=>Calls.Constant_str {.str x,H,I.tok _,⟨_,rfl⟩,h}
abbrev Gl(X:Cx)(x:Str):Prop:=X.env.kindOf x=aw .globalImplicit
def jC(I:Inv X p g H s)(d:Gl X x)(c:X.mg x=aw u)(h:Q u s)
  (hd:(x == ("__debug__" : Str))=aS:=by decide):wpAny (model X.prog X.w) X.A (eval (.Name x f) X.env) Q E s:=
 WR I.ok.kind d (Calls.loadGlobal_global (by rw[I.ok.glob];exact I.mod.glob.keeps I.bk) c h) hd
def eV(I:Inv X p l H s)(g:Gl X x)(f:X.mg x=aD)(c:Zai x=aw u)(h:Q u s)
  (d:x≠"__name__" := by decide) (hd:(x == ("__debug__" : Str))=aS:=by decide):wpAny (model X.prog X.w) X.A (eval (.Name x j) X.env) Q E s:=by
 let{k,h1,h2}:=I.mod.blt;exact WR I.ok.kind g (Calls.loadGlobal_builtin (by rw[I.ok.glob];exact I.mod.glob.keeps I.bk) f (by rw[I.ok.blt];exact h1.keeps I.bk) ((h2 x d).trans c) h) hd
def lY(d:Gl X x)(c:X.mg x=aw u)(r:aI v u)(hd:(x == ("__debug__" : Str))=aS:=by decide):PE X (.Name x p) (tC v):=
 λ_ _ _ H _ I h=>jC I d c ⟨v,H,I,r,h⟩ hd
def ip(g:Gl X x)(f:X.mg x=aD)(c:Zai x=aw u)(r:aI v u)(d:x≠"__name__" := by decide)(hd:(x == ("__debug__" : Str))=aS:=by decide):PE X (.Name x p) (tC v):=
 λ_ _ _ H _ I h=>eV I g f c ⟨v,H,I,r,h⟩ d hd
variable {a b:Expr} {T f:TE} {pos:Pos}
abbrev tB(t:TE):TT:=λd H Q=>t d H λx h=>∃c,x = .bl c/\Q c h
def Ma{e:Expr}{t:TE}(h:PE X e t)(l:∀c,isTrue e X.env c=(do let v <-c;standAt e.pos;holding [v] (truthy v)):=by intro _;rfl):PT X e (tB t):=by
 intro p s j H Q I g;calc isTrue_plain (thn (h p s j H _ I g) λv u ⟨x,n,o,r1,k⟩=>?_) (l _);let{d,rfl,q}:=k;cases r1;exact ZbJ ⟨n,o,q⟩
variable {g i:TT} {r:List Expr}
abbrev Re(t u:TT):TT:=λd H Q=>t d H λc h=>if c=aN then u d h Q else Q aS h
abbrev tOr(t u:TT):TT:=λd H Q=>t d H λc h=>if c=aN then Q aN h else u d h Q
abbrev Rf(t:TT):TT:=λd H Q=>t d H λc h=>Q (!c) h
def Gi(d:PT X a g):PW X (.BoolOp .And [a] pos) g:=by
 intro k p s j H Q I h;calc isTrue_and (thn (d p s j H Q I h) λc l e=>?_);cases c with
 |true=>exact isTrue_and_nil e
 |false=>exact e
def Bz(d:PT X a g):PW X (.BoolOp .Or [a] pos) g:=by
 intro k p s j H Q I h;calc isTrue_or (thn (d p s j H Q I h) λc l e=>?_);cases c with
 |false=>exact isTrue_or_nil e
 |true=>exact e
def BA(l:PT X a g)(hb:PW X (.BoolOp .And (b::r) pos) i):PW X (.BoolOp .And (a::b::r) pos) (Re g i):=by
 intro n p s d H Q I h;calc isTrue_and (thn (l p s d H _ I h) λc o ⟨j,k,q⟩=>?_);cases c with
 |true=>exact hb n p o d j Q k q
 |false=>exact⟨j,k,q⟩
def xR(l:PT X a g)(hb:PW X (.BoolOp .Or (b::r) pos) i):PW X (.BoolOp .Or (a::b::r) pos) (tOr g i):=by
 intro n p s d H Q I h;calc isTrue_or (thn (l p s d H _ I h) λc o ⟨j,k,q⟩=>?_);cases c with
 |true=>exact⟨j,k,q⟩
 |false=>exact hb n p o d j Q k q
def BC(d:PT X a g):PT X (.UnaryOp .Not a pos) (Rf g):=by
 intro p s j H Q I h;exact isTrue_not (d p s j H (λc k=>Q (!c) k) I h)
abbrev KL(T f:TE):TE:=λd H Q=>T d H λx h=>∃c,x = .bl c/\if c=aN then f d h Q else Q (.bl aS) h
abbrev Rg(T f:TE):TE:=λd H Q=>T d H λx h=>∃c,x = .bl c/\if c=aN then Q (.bl aN) h else f d h Q
abbrev KM(T:TE):TE:=λd H Q=>T d H λx h=>∃c,x = .bl c/\Q (.bl (!c)) h
def BD{op}(h:PE X a t):PE X (.BoolOp op [a] pos) t:=λp s d H Q I c=>BoolOp_one (h p s d H Q I c)
def BE(l:PE X a T)(hb:PE X (.BoolOp .And (b::r) pos) f):PE X (.BoolOp .And (a::b::r) pos) (KL T f):=by
 intro p s d H Q I h;calc BoolOp_and (thn (l p s d H _ I h) λv n ⟨x,j,k,r1,q⟩=>?_);let{c,rfl,q}:=q;cases r1;calc ZbJ ?_;cases c with
 |true=>exact hb p n d j Q k q
 |false=>exact{.bl aS,j,k,rfl,q}
def KN(l:PE X a T)(hb:PE X (.BoolOp .Or (b::r) pos) f):PE X (.BoolOp .Or (a::b::r) pos) (Rg T f):=by
 intro p s d H Q I h;calc BoolOp_or (thn (l p s d H _ I h) λv n ⟨x,j,k,r1,q⟩=>?_);let{c,rfl,q}:=q;cases r1;calc ZbJ ?_;cases c with
 |false=>exact hb p n d j Q k q
 |true=>exact{.bl aN,j,k,rfl,q}
def Mb(d:PE X a T):PE X (.UnaryOp .Not a pos) (KM T):=by
 intro p s j H Q I h;calc UnaryOp_ (thn (d p s j H _ I h) λv n ⟨x,k,l,r1,q⟩=>?_);let{c,rfl,q}:=q;cases r1;exact not_of (ZbJ {.bl (!c),k,l,rfl,q})
abbrev tIf(t:TT)(T f:TE):TE:=λd H Q=>t d H λc h=>if c=aN then T d h Q else f d h Q
def BF{c:Expr}(hc:PT X c g)(o:PE X a T)(hb:PE X b f):PE X (.IfExp c a b pos) (tIf g T f):=by
 intro p s j H Q I h;calc wpAny_IfExp (thn (hc p s j H _ I h) λd k ⟨l,n,q⟩=>?_);cases d with
 |true=>exact o p k j l Q n q
 |false=>exact hb p k j l Q n q
end
abbrev SqL(K:V5)(H:Hp)(a:Addr)(xs:List V):Prop:=
 Rd H a (.lst xs) ∨
  ∃ (o:Obj) (I:Array Value) (n:Nat),K.lookup a=aw o/\o.cls = .type "list"/\o.dict=aD/\o.data = .seq I n/\I.size<=sizeLine/\aP xs I.toList
abbrev SqT(K:V5)(H:Hp)(a:Addr)(xs:List V):Prop:=
 Rd H a (.tup xs) ∨
  ∃ (o:Obj) (I:Array Value) (n:Nat),K.lookup a=aw o/\o.cls = .type "tuple"/\o.data = .seq I n/\I.size<=sizeLine/\aP xs I.toList
abbrev UL:Value->Option V
 |.none=>aw .non
 |.bool b=>aw (.bl b)
 |.int i _=>aw (.int i)
 |.str x _=>aw (.str x)
 |.bytes b _=>aw (.byt b)
 |.float b _=>aw (.flt b)
 |.ref a=>aw (.ref a)
 |.type n=>aw (.ty n)
 |_=>aD
def aI.abs(r:aI x u):UL u=aw x:=by
 cases x with
 |non=>cases r;rfl
 |bl _=>cases r;rfl
 |int _=>let{t,rfl}:=r;rfl
 |str _=>let{t,rfl}:=r;rfl
 |byt _=>let{t,rfl}:=r;rfl
 |flt _=>let{t,rfl}:=r;rfl
 |ref _=>cases r;rfl
 |ty _=>cases r;rfl
def aI.inj{x y:V}{u:Value}(r:aI x u)(q:aI y u):x=y:=θ (r.abs.symm.trans q.abs)
def aP.inj:∀ {xs y:List V} {u:List Value},aP xs u->aP y u->xs=y
 |_,_,_,.nil,.nil=>rfl
 |_,_,_,.cons r t,.cons r' t'=>by rw[r.inj r',aP.inj t t']
section
variable {X:Cx} {b:List (Addr×Obj)} {c:St} {H:Hp} {s:Shared} {a:Addr} {xs ys:List V}
def SqL.of{K:V5}(h:H a=aw (.lst xs)):SqL K H a xs:=.inl (.inl h)
def SqT.of{K:V5}(h:H a=aw (.tup xs)):SqT K H a xs:=.inl (.inl h)
def Inv.list(I:Inv X b c H s)(h:SqL X.K H a xs):∃its:List Value,aP xs its/\PlainL s.heap a its.toArray/\xs.length<=sizeLine:=by
 rcases h with h |⟨o,its,n,hk,hc,hd,hs,hz,r⟩
 .let{z,its,n,r,e}:=h.ok I.hok;exact⟨its,r,⟨_,n,e,rfl,rfl,rfl⟩,z⟩
 .calc{its.toList,r,{o,n,I.kIn a o hk,hc,hd,by simpa using hs},?_};let e:=r.length;simp![ZG]at e
  lia
def Inv.tuple(I:Inv X b c H s)(h:SqT X.K H a xs):∃its:List Value,aP xs its/\IsTup s.heap a its.toArray/\xs.length<=sizeLine:=by
 rcases h with h |⟨o,its,n,hk,hc,hs,hz,r⟩
 .let{z,its,r,p}:=h.ok I.hok;exact⟨its,r,p.isTup,z⟩
 .calc{its.toList,r,{o,I.kIn a o hk,hc,n,by simpa using hs},?_};let e:=r.length;simp![ZG]at e
  lia
def Inv.list_inj(I:Inv X b c H s)(h:SqL X.K H a xs)(h':SqL X.K H a ys):xs=ys:=by
 let{f,r,⟨o,n,e,_,_,d⟩,_}:=I.list h;let{its',j,⟨O,k,E,_,_,g⟩,_}:=I.list h';rw[e]at E;cases E;rw[d]at g;injection g with d1 _;let:f=its':=by simpa using congrArg Array.toList d1
 subst this;exact r.inj j
def Inv.tuple_inj(I:Inv X b c H s)(h:SqT X.K H a xs)(h':SqT X.K H a ys):xs=ys:=by
 let{f,r,⟨o,e,_,n,d⟩,_}:=I.tuple h;let{its',j,⟨O,E,_,k,g⟩,_}:=I.tuple h';rw[e]at E;cases E;rw[d]at g;injection g with d1 _;let:f=its':=by simpa using congrArg Array.toList d1
 subst this;exact r.inj j
end
noncomputable abbrev Cx.wish(X:Cx)(E:Value->Shared->Prop):Cx:={X with xe:=E}
noncomputable abbrev Cx.nox(X:Cx):Cx:=X.wish λ_ _=>False
def Cx.Ok.wish{X:Cx}(ok:X.Ok)(E:Value->Shared->Prop):(X.wish E).Ok:=
 ⟨ok.mod,ok.kind,ok.glob,ok.blt,ok.above,ok.inj,ok.has,ok.cab,ok.hd,ok.frames,ok.stk,ok.exf,ok.bs,ok.bsz,ok.noex,ok.exfs,ok.funs,ok.frf⟩
def Cx.Ok.unwish{X:Cx}{E:Value->Shared->Prop}(ok:(X.wish E).Ok):X.Ok:=
 ⟨ok.mod,ok.kind,ok.glob,ok.blt,ok.above,ok.inj,ok.has,ok.cab,ok.hd,ok.frames,ok.stk,ok.exf,ok.bs,ok.bsz,ok.noex,ok.exfs,ok.funs,ok.frf⟩
section
variable {X:Cx} {p:List (Addr×Obj)} {a:St} {H:Hp} {s:Shared} {E:Value->Shared->Prop}
def Inv.wish(I:Inv X p a H s)(E:Value->Shared->Prop):Inv (X.wish E) p a H s:={I.ok.wish E,I.os,I.bare,I.base,I.loc,I.cell,I.free,I.freeC,I.pin,I.hok,I.len}
def Inv.unwish(I:Inv (X.wish E) p a H s):Inv X p a H s:=⟨I.ok.unwish,I.os,I.bare,I.base,I.loc,I.cell,I.free,I.freeC,I.pin,I.hok,I.len⟩
def SP.unwish{D:Ends}{f:Flow}{s':Shared}(h:SP (X.wish E) p D f s'):SP X p D f s':=by
 cases f with
 |next=>let{c,d,I,q}:=h;exact⟨c,d,I.unwish,q⟩
 |brk=>let{c,d,I,q}:=h;exact⟨c,d,I.unwish,q⟩
 |cont=>let{c,d,I,q}:=h;exact⟨c,d,I.unwish,q⟩
 |ret u=>let{v,c,d,I,r,q}:=h;exact⟨v,c,d,I.unwish,r,q⟩
def PT.nox(h:PT X.nox e t):PT X e t:=λp s a H Q I d=>
 Zbt (h p s a H Q (I.wish _) d) (λ_ _ ⟨c,f,q⟩=>⟨c,f.unwish,q⟩) λ_ _ z=>False.elim z
def PSs.nox{st:List Stmt}{t:TS}(h:PSs X.nox st t):PSs X st t:=λp s a H D I c=>
 Zbt (h p s a H D (I.wish _) c) (λ_ _ q=>q.unwish) λ_ _ z=>False.elim z
end
section
variable {X:Cx} {st:Stmt} {r:List Stmt} {t u:TS} {e:Expr} {T:TE} {pos:Pos}
abbrev KO:TS:=λD c H=>D.nx c H
abbrev Rh(t u:TS):TS:=λD c H=>t {D with nx:=u D} c H
def jD:PSs X [] KO:=λ_ _ c H _ I h=>Zbj ⟨c,H,I,h⟩
def b5(h1:PS X st t)(h2:PSs X r u):PSs X (st::r) (Rh t u):=by
 intro p s j H D I h;calc Zbi (thn (h1 p s j H {D with nx:=u D} I h) λf g q=>?_);cases f with
 |next=>
  let{c,d,k,q}:=q;exact h2 p g c d D k q
 |ret v=>exact q
 |brk=>exact q
 |cont=>exact q
def jE(h1:PS X st t):PSs X [st] t:=by
 intro p s c H D I h;calc Zbi (thn (h1 p s c H D I h) λf d q=>?_);cases f with
 |next=>exact Zbj q
 |ret v=>exact q
 |brk=>exact q
 |cont=>exact q
abbrev KP:TS:=λD c H=>D.ct c H
def sV:PS X (.Continue pos) KP:=λ_ _ c H _ I h=>wpAny_Continue ⟨c,H,I,h⟩
def Inv.quiet{p:List (Addr×Obj)}{c:St}{H:Hp}{s:Shared}(I:Inv X p c H s):interactive X.env=aS:=by simp[interactive,I.ok.kind]
abbrev KQ(T:TE):TS:=λD c H=>T c H λ_ h=>D.nx c h
def xS(d:PE X e T)(hs:Za5 e aD pos.line X.env=pure aS:=by rfl):PS X (.Expr e pos) (KQ T):=by
 intro p s c H D I h;exact wpAny_Expr_any (thn (d p s c H _ I h) λv j ⟨x,f,g,r1,q⟩=>⟨c,f,g,q⟩) I.quiet hs
abbrev Ri(T:TE):TS:=λD c H=>T c H D.rt
def vD(d:PE X e T):PS X (.Return (aw e) pos) (Ri T):=by
 intro p s c H D I h;exact Zbe (thn (d p s c H _ I h) λv j ⟨x,f,g,r1,q⟩=>⟨x,c,f,g,r1,q⟩)
abbrev Rj(c:TT)(t u:TS):TS:=λD d H=>c d H λb h=>if b=aN then t D d h else u D d h
def xT{c:Expr}{a b:List Stmt}{j:TT}(hc:PT X c j)(n:PSs X a t)(hb:PSs X b u):PS X (.If c a b pos) (Rj j t u):=by
 intro p s f H D I h;calc wpAny_If (thn (hc p s f H _ I h) λd g ⟨k,l,q⟩=>?_);cases d with
 |true=>exact n p g f k D l q
 |false=>exact hb p g f k D l q
abbrev Mc:TS:=λ_ _ _=>False
def sW:PS X st Mc:=λ_ _ _ _ _ _ h=>h.elim
end
@[inline]abbrev TG:=V->St->Hp->(St->Hp->Prop)->Prop
@[inline]abbrev TGs:=List V->St->Hp->(St->Hp->Prop)->Prop
abbrev PG(X:Cx)(T:Expr)(t:TG):Prop:=
 ∀ (p:List (Addr×Obj)) (s:Shared) (d:St) (H:Hp) (v:V) (u:Value) (Q:St->Hp->Prop),Inv X p d H s->aI v u->t v d H Q ->
  wpAny (model X.prog X.w) X.A (assign T X.env u) (λ_ f=>∃c h,Inv X p c h f/\Q c h) X.xe s
abbrev PGs(X:Cx)(T:List Expr)(t:TGs):Prop:=
 ∀ (p:List (Addr×Obj)) (s:Shared) (d:St) (H:Hp) (v:List V) (u:List Value) (Q:St->Hp->Prop),Inv X p d H s->aP v u->t v d H Q ->
  wpAny (model X.prog X.w) X.A (Zac ((Zab T X.env).map (·.2)) u) (λ_ f=>∃c h,Inv X p c h f/\Q c h) X.xe s
@[inline]abbrev Gj:=V->V->V->Hp->(Hp->Prop)->Prop
abbrev Md(X:Cx)(t:Gj):Prop:=
 ∀ (p:List (Addr×Obj)) (s:Shared) (c:St) (H:Hp) (o i v:V) (O I u:Value) (Q:Hp->Prop),Inv X p c H s->aI o O->aI i I->aI v u->t o i v H Q ->
  wpAny (model X.prog X.w) X.A (setItem O I u) (λ_ d=>∃h,Inv X p c h d/\Q h) X.xe s
section
variable {X:Cx} {pos:Pos}
abbrev pM(i:Nat):TG:=λv c H Q=>Q (c.set i (aw v)) H
def xU{i:Nat}(hN:X.N.Nodup)(hi:X.N[i]?=aw x)(d:Loc X.env.scope x)(c:X.fn x=aN\/X.env.scope.names.lookup x=aw .local:=by first |exact .inl rfl |exact .inr rfl |assumption):PG X (.Name x pos) (pM i):=by
 intro p s g H v u Q I r h;exact wpAny_assign_Name (gC I hN hi d r (λj f=>⟨_,H,f,h⟩) c)
abbrev Rk:TGs:=λv c H Q=>v=[]/\Q c H
abbrev KR(t:TG)(u:TGs):TGs:=λf d H Q=>∃v r,f=v::r/\t v d H λc h=>u r c h Q
def Gk:PGs X [] Rk:=by
 intro p s c H v u Q I r h;let{e,h}:=h;subst e;cases r;exact assignInOrder_nil ⟨c,H,I,h⟩
def BG{e:Expr}{E:List Expr}{t:TG}{u:TGs}(h1:PG X e t)(h2:PGs X E u)
  (hs:(Zab (e::E) X.env).map (·.2)=assign e X.env::(Zab E X.env).map (·.2):=by rfl):PGs X (e::E) (KR t u):=by
 intro p s l H o U Q I r h;let{v,n,d,h}:=h;subst d;cases r with
 |cons r f=>
  rw[hs];calc assignInOrder_cons (thn (h1 p s l H _ _ _ I r h) λ_ k ⟨c,j,g,q⟩=>?_);exact h2 p k c j _ _ Q g f q
abbrev Rm(K:V5)(n:Nat)(t:TGs):TG:=λv c H Q=>∃a xs,v = .ref a/\SqT K H a xs/\xs.length=n/\t xs c H Q
def Me{k:Nat}{n:Nat}(hc:X.calm=aN)(h:PGs X E t)
  (y:(Zab E X.env).length=n:=by rfl) (d:(Zab E X.env).findIdx? (·.1)=aD:=by rfl):PG X (.Tuple E k pos) (Rm X.K n t):=by
 intro p s g H v u Q I r c;let{a,xs,q,j,B,c}:=c;subst q;cases r;let{J,f,L,T}:=I.tuple j;calc assign_Tuple_tuple (I.ok.hd hc) L (by simp[y,<-B,f.length]) d λl O=>?_;let C:Inv X p g H {s with heap:=l}:=I.kept (t':=s.toks) λb o e=>O b o (ZH (Zt e)) e;exact h p _ g H xs _ Q C (by simpa using f) c
abbrev Rn(to ti:TE)(t:Gj):TG:=λv c H Q=>to c H λo f=>ti c f λi d=>t o i v d λh=>Q c h
def Mf{o i:Expr}{to ti:TE}{t:Gj}(J:PE X o to)(hi:PE X i ti)(hs:Md X t)
  (g:∀v,assign (.Subscript o i pos) X.env v=(do
   let O <-holding [v] (eval o X.env)
   let c <-holding [v,O] (eval i X.env)
   standAt pos
   holding [v,O,c] (setItem O c v)
   release [v,O,c] []):=by intro _;rfl):PG X (.Subscript o i pos) (Rn to ti t):=by
 intro p s d H v u Q I r h;rw[g];calc Zbf (Zbn (thn (J p s d H _ I h) λO L ⟨x,E,k,r1,q⟩=>?_));calc Zbf (Zbn (thn (hi p L d E _ k q) λc B ⟨y,n,l,r2,T⟩=>?_));calc Zbf (ZbI (Zbf (Zbn (thn (hs p B d n x y v O c u _ l r1 r2 r T) λ_ U ⟨j,C,f⟩=>?_))));exact wpAny_release ⟨d,j,C,f⟩
abbrev BH(T:TE)(g:TG):TS:=λD c H=>T c H λx h=>g x c h D.nx
def qT{T e:Expr}{d:TE}{g:TG}(k:PE X e d)(j:PG X T g)(hs:Za6 [T] e pos.line X.env=pure aS:=by rfl)(hw:Za4 [T] e X.env=pure aD:=by rfl)
  (h1:(Zab [T] X.env).map (·.2)=[assign T X.env]:=by rfl):PS X (.Assign [T] e pos) (BH d g):=by
 intro p s c H D I h;calc wpAny_Assign_stores (thn (k p s c H _ I h) λv f ⟨x,l,n,r1,Q⟩=>?_) hs hw;rw[h1];exact thn (j p f c l x v _ n r1 Q) λ_ o q=>q
def Mg{i:Nat}{x:Str}{e:Expr}{T:TE}{p:Pos}(hN:X.N.Nodup)(hi:X.N[i]?=aw x)(g:Loc X.env.scope x)(j:PE X e T)(hs:Za5 e (aw (.Name x p)) pos.line X.env=pure aS:=by rfl)(d:X.fn x=aN\/X.env.scope.names.lookup x=aw .local:=by first |exact .inl rfl |exact .inr rfl |assumption) :
  PS X (.Assign [.Name x p] e pos) (BH T (pM i)):=by
 intro c s k H D I h;calc wpAny_Assign_Name (thn (j c s k H _ I h) λv o ⟨y,l,n,r1,q⟩=>?_) hs;exact gC n hN hi g r1 (λu f=>⟨_,l,f,q⟩) d
abbrev Ro(i j:Nat)(T:TA):TS:=λD c H=>T c H λd h=>∃v w,d=[v,w]/\D.nx ((c.set i (aw v)).set j (aw w)) h
def Mh{i j:Nat}{x y:Str}{a b:Expr}{T:TA}{J B pt:Pos}{k E d}(hc:X.calm=aN)(hN:X.N.Nodup)(hi:X.N[i]?=aw x)(hj:X.N[j]?=aw y)(n:i≠j)
  (Y:X.env.scope.names.lookup x=aw .local) (L:X.env.scope.names.lookup y=aw .local) (ha:PA X [a,b] T)
  (hw:Za4 [.Tuple [.Name x J,.Name y B] k pt] (.Tuple [a,b] E d) X.env=pure (aw [x,y]))
  (hs:Za6 [.Tuple [.Name x J,.Name y B] k pt] (.Tuple [a,b] E d) pos.line X.env=pure aS:=by rfl) :
  PS X (.Assign [.Tuple [.Name x J,.Name y B] k pt] (.Tuple [a,b] E d) pos) (Ro i j T):=by
 intro c s Z H D I h;rw[exec_Assign_arm];calc Zbf (ZbI ?_);rw[hs];calc Zbf (Zby ?_);rw[if_neg (by decide)];calc Zbf (Tuple_ (thn (ha _ c s Z H _ I h) λus g ⟨vs,U,I1,r1,Q⟩=>?_));let{v,w,e1,Q}:=Q;subst e1
 obtain⟨u,u2,rfl,rv,l⟩:∃u u2,us=[u,u2]/\aI v u/\aI w u2:=by
  cases r1 with
  |cons p q=>
   cases q with
   |cons p' q'=>
    cases q';exact⟨_,_,rfl,p,p'⟩
 calc Zbv ?_ (by show 2<=sizeLine;decide);let I2:Inv X c Z U {g with heap:=g.heap.push {cls:=.type "tuple",data:=.seq [u,u2].toArray}}:=I1.kept (t':=g.toks) λb o e=>Zc _ e;rw[hw];calc Zbf (Zby ?_);show wpAny (model X.prog X.w) X.A (do rule "assign.swapped-stores"; let f <-unpackItems (.ref g.heap.objs.size) 2 aD;Zac [λv=>Zah X.env y v,λv=>Zah X.env x v] f.reverse;pure Flow.next) _ _ _;calc Zbf (ZbD (Zbf (unpackItems_tuple (items:=#[u,u2]) (I.ok.hd hc) (IsTup.new g.heap _) λh' C=>?_)));let I3:=I2.kept (h':=h') (t':=g.toks) λb o e=>C b o (ZH (Zt e)) e;show wpAny _ _ (Zac [λv=>Zah X.env y v,λv=>Zah X.env x v] [u2,u] >>= λ_=>pure Flow.next) _ _ _;calc Zbf (assignInOrder_cons (wpAny_bindName (gC I3 hN hj (.inl L) l (λs2 I4=>?_) (.inr L))));calc assignInOrder_cons (wpAny_bindName (gC I4 hN hi (.inl Y) rv (λs3 O=>assignInOrder_nil (Zby ?_)) (.inr Y)));rw[List.set_comm _ _ (Ne.symm n)]at O;exact⟨_,U,O,Q⟩
end
section
variable {X:Cx} {pos:Pos}
abbrev BI(c:TT)(T:TS):TS:=λD d H=>∃W:Nat->St->Hp->Prop,(∃m,W m d H)/\∀m d H,W m d H ->
 c d H λb j=>if b=aN then ∃N:St->Hp->Prop,(∀f h,N f h->∃g,g < m/\W g f h)/\T {D with nx:=N,ct:=N,bk:=D.nx} d j else D.nx d j
def BJ(J:PassesOwn (model X.prog X.w) X.A X.env X.xe)(hc:PT X c tc)(hb:PSs X body U):PS X (.While c body [] pos) (BI tc U):=by
 intro p s σ H D I h;let{W,⟨m0,w0⟩,T}:=h;calc wpAny_While (codeAny_whileLoop (λn s'=>∃k E,Inv X p k E s'/\W n k E) ?_ m0 ⟨σ,H,I,w0⟩);rintro n s1 ⟨g,O,Z,Y⟩;calc Zbx J (thn (hc p s1 g O _ Z (T n g O Y)) λb s2 ⟨L,C,Q⟩=>?_);cases b with
 |true=>
  let{N,hN,Q}:=Q;rw[if_pos rfl];calc Zbx J (thn (hb p s2 g L _ C Q) λf s3 q=>?_);cases f with
  |next=>
   let{d,j,B,l}:=q;let{o,u,y}:=hN d j l;exact⟨o,u,d,j,B,y⟩
  |cont=>
   let{d,j,B,l}:=q;let{o,u,y}:=hN d j l;exact⟨o,u,d,j,B,y⟩
  |brk=>exact q
  |ret v=>exact q
 |false=>
  rw[if_neg Zd];exact Zbj ⟨g,L,C,Q⟩
end
structure It where
 go:Nat->Hp->Prop
 yld:Nat->Hp->V->Hp->Prop
 stop:Nat->Hp->Prop
abbrev iQ(X:Cx)(d:List (Addr×Obj))(H:Hp)(b:Addr):Prop:=
 H b=aD/\b≠X.env.locals/\b∉X.fs/\(b∈X.ex\/X.s₀.heap.objs.size<=b)/\(∀x c,X.env.cells.lookup x=aw c->c≠b)/\∀p∈X.pn++d,p.1≠b
def Inv.fpOk(I:Inv X d j H s)(hb:s⁻¹<=b)(h:f b=aD):iQ X d f b:=by
 refine{h,Xf (ZC I.lt hb),I.nofs hb,.inr (Zz I.sz hb),λx c e z=>?_,λp g z=>?_}
 .let{v,q}:=I.cell x c e;exact absurd (ZC q.lt (by rw[z];exact hb)) (ZO _)
 .exact absurd (ZC (Zt (I.pin p g).1) (by rw[z];exact hb)) (ZO _)
structure Turn(P:Program)(w:World)(K:V5)(tg:Expr)(J:It)(fp:List Addr)(it:Addr)(tn:Nat->Heap->Prop):Prop where
 mem:it∈fp
 obj:∀i h,tn i h->∀b∈fp,∃o,h.get? b=aw o/\∀v,o.data≠.cell v
 keep:∀i h h',tn i h->(∀b∈fp,∀o,h.get? b=aw o->h'.get? b=aw o)->tn i h'
 item:∀ (X:Cx),X.prog=P->X.w=w->X.K=K->X.calm=aN->∀ (i:Nat) (pins:List (Addr×Obj)) (s:Shared) (σ:St) (H:Hp) (E:Value->Shared->Prop),Inv X pins σ H s->(∀b∈fp,iQ X pins H b)->tn i s.heap->J.go i H ->
  wpAny (model P w) X.A (pyNext (.ref it)) (λr s1=>∃u,r=aw u ∧
   wpAny (model P w) X.A (ZaF tg (.ref it) u) (λ_ s2=>∃x H',Inv X pins σ H' s2/\aI x u/\J.yld i H x H'/\tn (i+1) s2.heap/\∀b∈fp,H' b=aD) E s1) E s
 done:∀ (X:Cx),X.prog=P->X.w=w->X.K=K->X.calm=aN->∀ (i:Nat) (pins:List (Addr×Obj)) (s:Shared) (σ:St) (H:Hp) (E:Value->Shared->Prop),Inv X pins σ H s->(∀b∈fp,iQ X pins H b)->tn i s.heap->J.stop i H ->
  wpAny (model P w) X.A (pyNext (.ref it)) (λr s1=>r=aD/\Inv X pins σ H s1) E s
 self:∀ (A:Around) (i:Nat) (s:Shared) (Q:Value->Shared->Prop) (E:Value->Shared->Prop),tn i s.heap->Q (.ref it) s->wpAny (model P w) A (pyIter (.ref it)) Q E s
@[inline]abbrev TI:=St->Hp->(It->Hp->Prop)->Prop
abbrev PIE(X:Cx)(p:List (Addr×Obj))(j:St)(g:Expr)(R:It->Hp->Prop)(I:Value)(d:Shared):Prop:=
 ∃ (c:Addr) (f:List Addr) (T:Nat->Heap->Prop) (J:It) (h:Hp),I = .ref c/\Inv X p j h d/\Turn X.prog X.w X.K g J f c T/\T 0 d.heap/\(∀b∈f,iQ X p h b)/\R J h
abbrev PI(X:Cx)(T I:Expr)(wi:TI):Prop:=
 ∀ (p:List (Addr×Obj)) (s:Shared) (c:St) (H:Hp) (R:It->Hp->Prop),Inv X p c H s->wi c H R ->
  wpAny (model X.prog X.w) X.A (eval I X.env) (λv d=>wpAny (model X.prog X.w) X.A (pyIter v) (PIE X p c T R) X.xe d) X.xe s
def xV(d:s.heap.get? I=aw o)(hc:o.cls = .type n)(hd:o.data = .fields v)
  (f:["enumerate","zip","dict_itemiterator","dict_reverseitemiterator","odict_iterator","itertools.zip_longest","itertools.pairwise"].contains n=aS) (c:Q () s):wpAny M A (ZaF T (.ref I) u) Q E s:=by
 delta ZaF
 cases T <;> first
  |exact Zby c
  | (cases u <;> first
    |exact Zby c
    | (refine Zbf (wpAny_load d ?_)
       rw[hc,hd];show wpAny M A (if (["enumerate","zip","dict_itemiterator","dict_reverseitemiterator","odict_iterator","itertools.zip_longest","itertools.pairwise"].contains n && v[0]? == aw (rawInt _))=aN then _ else _) Q E s;rw[if_neg (by intro h;rw[f,YM]at h;cases h)];exact Zby c))
abbrev Itl(K:V5)(a:Addr):It:=
 {λi H=>∃xs x,SqL K H a xs/\xs[i]?=aw x,λi H x h=>h=H/\∀xs,SqL K H a xs->xs[i]?=aw x,λi H=>∃xs,SqL K H a xs/\xs.length<=i}
abbrev Itt(K:V5)(a:Addr):It:=
 {λi H=>∃xs x,SqT K H a xs/\xs[i]?=aw x,λi H x h=>h=H/\∀xs,SqT K H a xs->xs[i]?=aw x,λi H=>∃xs,SqT K H a xs/\xs.length<=i}
abbrev Itr(lo:Int)(n:Nat):It:={λi _=>i < n,λi H x h=>h=H/\x = .int (lo+i),λi _=>n<=i}
def zG{P:Program}{w:World}{K:V5}{tg:Expr}(a it:Addr):Turn P w K tg (Itl K a) [it] it (λi h=>h.IsListIter it a i) where
 mem:=by simp
 obj:=λi h st b hb=>by
  let e:b=it:=by simpa using hb
  subst e;let{o,e,c,d}:=st;exact{o,e,λv z=>by rw[d]at z;cases z}
 keep:=λi h l st k=>st.at λo e=>k it (by simp) o e
 item:=by
  intro X y B L hc i f s σ H E I n st Q;subst y B L;let{xs,x,j,Z}:=Q;let{J,O,p,hz}:=I.list j;let{u,hu,ru}:=O.get Z;let{q,Y,f2,U,C,T}:=n it (by simp);calc wpAny_pyNext_list_item st p.isList (x:=u) (by simpa using hu) λl g sb=>?_;let I1:Inv X f σ H {s with heap:=l}:=I.turned (t':=s.toks) (λb o hb e=>(sb.2 b hb).trans e) q Y U C T;let{o,e,c,d}:=id g;exact{u,rfl,xV (s:={s with heap:=l}) e c d (by decide) {x,H,I1,ru,{rfl,λys hy=>by rw[I.list_inj hy j];exact Z},g,λb hb=>(n b hb).1}}
 done:=by
  intro X y B L hc i f s σ H E I n st Q;subst y B L;let{xs,j,Z}:=Q;let{J,O,p,hz}:=I.list j;let{q,Y,f2,U,C,T}:=n it (by simp);let hl:=O.length;exact wpAny_pyNext_list_end (I.ok.hd hc) st p.isList (by simp;lia) λl eb=>{rfl,I.turned (t':=s.toks) (λb o hb e=>eb b o hb e) q Y U C T}
 self:=λ_ _ _ _ _ st h=>wpAny_pyIter_listiter st h
def vE{P:Program}{w:World}{K:V5}{tg:Expr}(a it:Addr):Turn P w K tg (Itt K a) [it] it (λi h=>h.IsTupleIter it a i) where
 mem:=by simp
 obj:=λi h st b hb=>by
  let e:b=it:=by simpa using hb
  subst e;let{o,e,c,d}:=st;exact{o,e,λv z=>by rw[d]at z;cases z}
 keep:=λi h n st k=>st.at λo e=>k it (by simp) o e
 item:=by
  intro X B C L hc i f s σ H E I q st Q;subst B C L;let{xs,x,l,Z}:=Q;let{g,O,p,hz}:=I.tuple l;let{u,hu,ru}:=O.get Z;let{y,Y,f2,U,J,T}:=q it (by simp);calc wpAny_pyNext_tuple_item st (show s.heap.IsTuple a g.toArray from p) (x:=u) (by simpa using hu) λn j sb=>?_;let I1:Inv X f σ H {s with heap:=n}:=I.turned (t':=s.toks) (λb o hb e=>(sb.2 b hb).trans e) y Y U J T;let{o,e,c,d}:=id j;exact{u,rfl,xV (s:={s with heap:=n}) e c d (by decide) {x,H,I1,ru,{rfl,λys hy=>by rw[I.tuple_inj hy l];exact Z},j,λb hb=>(q b hb).1}}
 done:=by
  intro X B C L hc i f s σ H E I q st Q;subst B C L;let{xs,l,Z}:=Q;let{g,O,p,hz}:=I.tuple l;let{y,Y,f2,U,J,T}:=q it (by simp);let hl:=O.length;exact wpAny_pyNext_tuple_end (I.ok.hd hc) st (show s.heap.IsTuple a g.toArray from p) (by simp;lia) λn eb=>{rfl,I.turned (t':=s.toks) (λb o hb e=>eb b o hb e) y Y U J T}
 self:=λ_ _ _ _ _ st h=>wpAny_pyIter_tupleiter st h
def vF{P:Program}{w:World}{K:V5}{tg:Expr}(it:Addr)(lo:Int)(n:Nat):Turn P w K tg (Itr lo n) [it] it (λi h=>VN h it (lo+(i:Nat) * 1) ((n:Int) - (i:Nat)) 1) where
 mem:=by simp
 obj:=λi h st b hb=>by
  let e:b=it:=by simpa using hb
  subst e
  exact⟨_,st,λv z=>by
   let Z:Data.fields _=Data.cell v:=z;cases Z⟩
 keep:=λi h d st k=>k it (by simp) _ st
 item:=by
  intro X j l u L i p s O H E I f st y;subst j l u;let{g,J,Y,C,q,B}:=f it (by simp);let W:=Walks.range (prog:=X.prog) (w:=X.w) (I.ok.hd L) it lo 1 n;calc W.item i s _ _ y st λv d T U c kk=>?_;let{t,rfl}:=U;let Q:Inv X p O H {s with heap:=d,toks:=T}:=I.turned (λb o hb e=>kk b o (by simpa using hb) e) g J C q B;calc{_,rfl,xV (s:={s with heap:=d,toks:=T}) (n := "range_iterator") c rfl rfl (by decide) {.int (lo+i),H,Q,{t,?_},⟨rfl,rfl⟩,c,λb hb=>(f b hb).1}};rw[Int.mul_one]
 done:=by
  intro X j l u L i p s O H E I f st y;subst j l u;let{g,J,Y,C,q,B}:=f it (by simp);exact ZbC (I.ok.hd L) st (by let:n<=i:=y;lia) λd eb=>{rfl,I.turned (t':=s.toks) (λb o hb e=>eb b o hb e) g J C q B}
 self:=λ_ _ _ _ _ st h=>ZbA st h
section
variable {X:Cx} {c:Expr}
abbrev BK(K:V5)(T:TE):TI:=λd H R=>T d H λx h=>∃a,x = .ref a/\(∃xs,SqL K h a xs)/\R (Itl K a) h
abbrev Rp(K:V5)(T:TE):TI:=λd H R=>T d H λx h=>∃a,x = .ref a/\(∃xs,SqT K h a xs)/\R (Itt K a) h
def xW{l:Expr}{T:TE}(hl:PE X l T):PI X c l (BK X.K T):=by
 intro d s u H R I h;calc thn (hl d s u H _ I h) λv f ⟨x,n,g,r1,Q⟩=>?_;let{a,e,⟨xs,k⟩,q}:=Q;subst e;cases r1;let{j,y,p,B}:=g.list k;calc Zbz p.isList ?_;calc{f.heap.objs.size,[f.heap.objs.size],_,_,n,rfl,g.kept (t':=f.toks) λb o e=>Zc _ e,zG a _,{_,Zu _ rfl,rfl,rfl},λb hb=>?_,q};let e:b=f.heap.objs.size:=by simpa using hb
 subst e;exact g.fpOk (Zg _) (g.hok.fresh (Zg _))
def Mi{l:Expr}{T:TE}(hl:PE X l T):PI X c l (Rp X.K T):=by
 intro d s u H R I h;calc thn (hl d s u H _ I h) λv f ⟨x,n,g,r1,Q⟩=>?_;let{a,e,⟨xs,k⟩,q}:=Q;subst e;cases r1;let{j,y,p,B}:=g.tuple k;calc ZbB (show f.heap.IsTuple a j.toArray from p) ?_;calc{f.heap.objs.size,[f.heap.objs.size],_,_,n,rfl,g.kept (t':=f.toks) λb o e=>Zc _ e,vE a _,{_,Zu _ rfl,rfl,rfl},λb hb=>?_,q};let e:b=f.heap.objs.size:=by simpa using hb
 subst e;exact g.fpOk (Zg _) (g.hok.fresh (Zg _))
def sX{lo hi:Int}{T:Nat}(I:Inv X p f H s)(h1:-(2 ^ 62)<=lo)(h2:lo < 2 ^ 62)(j:-(2 ^ 62)<=hi)(h4:hi < 2 ^ 62)
  (q:R (Itr lo (hi - lo).toNat) H):wpAny (model X.prog X.w) X.A (pyIter (.ref s⁻¹)) (PIE X p f c R) E {s with heap:=s.heap.push {cls:=.type "range",data:=.fields #[.int lo t,.int hi u,.int 1 v]},toks:=T}:=by
 calc wpAny_pyIter_range (IsRange.new ..) (small_one h1 h2 j h4) ?_;let d:Inv X p f H {s with heap:=s.heap.push {cls:=.type "range",data:=.fields #[.int lo t,.int hi u,.int 1 v]},toks:=T}:=I.kept λb o e=>Zc _ e
 refine⟨(s.heap.push {cls:=.type "range",data:=.fields #[.int lo t,.int hi u,.int 1 v]}).objs.size,[(s.heap.push {cls:=.type "range",data:=.fields #[.int lo t,.int hi u,.int 1 v]}).objs.size],_,_,H,rfl,
  d.kept (t':=T) λb o e=>Zc _ e,vF _ lo (hi - lo).toNat,?_,λb hb=>?_,q⟩
 .let h:lo+((0:Nat):Int) * 1=lo:=by simp
  let g:(((hi - lo).toNat:Nat):Int) - ((0:Nat):Int)=Builtin.Range.rangeSize lo hi 1:=by rw[ZaT];split <;> lia
  show VN _ _ (lo+((0:Nat):Int) * 1) ((((hi - lo).toNat:Nat):Int) - ((0:Nat):Int)) 1;rw[h,g];exact Zu _ rfl
 .let e:b=(s.heap.push {cls:=.type "range",data:=.fields #[.int lo t,.int hi u,.int 1 v]}).objs.size:=by simpa using hb
  subst e;exact d.fpOk (Zg _) (d.hok.fresh (Zg _))
abbrev KS(T:TA):TI:=λd H R=>T d H λv h=>∃j:Int,v=[.int j]/\-(2 ^ 62)<=j/\j < 2 ^ 62/\R (Itr 0 j.toNat) h
abbrev KU(T:TA):TI:=λd H R=>T d H λv h=>∃i j:Int,v=[.int i,.int j]/\(-(2 ^ 62)<=i/\i < 2 ^ 62/\-(2 ^ 62)<=j/\j < 2 ^ 62)/\R (Itr i (j - i).toNat) h
def zH(o:Gl X "range")(n:X.mg "range" = aD)(k:PA X [a] T)(hs:Za2 [a] X.env=[(aS,eval a X.env)]:=by rfl):PI X c (.Call (.Name "range" p) [a] [] f) (KS T):=by
 intro d s v H R I h;calc Call_ (eV I o n boot_range (WO (thn (k f d s v H _ I h) λU C ⟨y,B,l,r1,Q⟩=>?_) hs rfl));let{j,e,Q,u,q}:=Q;subst e;cases r1 with
 |cons r g=>
  cases g;let{t,rfl}:=r;exact call_range_1 (sX l (by lia) (by lia) Q u (by simpa using q))
def zI(y:Gl X "range")(v:X.mg "range" = aD)(o:PA X [a,b] T)(hs:Za2 [a,b] X.env=[(aS,eval a X.env),(aS,eval b X.env)]:=by rfl)(d:Za2 [b] X.env=[(aS,eval b X.env)]:=by rfl) :
  PI X c (.Call (.Name "range" p) [a,b] [] k) (KU T):=by
 intro f s E H R I h;calc Call_ (eV I y v boot_range (WO (thn (o k f s E H _ I h) λU Y ⟨J,O,u,r1,Q⟩=>?_) (by rw[hs,d]) (by rw[d];rfl)));let{i,j,e,⟨Q,C,n,B⟩,q}:=Q;subst e;cases r1 with
 |cons r g=>
  cases g with
  |cons l g=>
   cases g;let{t,rfl}:=r;let{L,rfl}:=l;exact call_range_2 (sX u Q C n B q)
abbrev Rq(wi:TI)(g:TG)(T:TS):TS:=λD d H=>wi d H λJ n=>∃W:Nat->Nat->St->Hp->Prop,(∃m,W 0 m d n)/\∀i m d H,W i m d H ->
 (J.stop i H/\D.nx d H)\/(J.go i H/\∃N:St->Hp->Prop,(∀f h,N f h->∃k,k < m/\W (i+1) k f h)/\∀x h,J.yld i H x h->g x d h λj l=>T {D with nx:=N,ct:=N,bk:=D.nx} j l)
abbrev mP(f:List Addr)(h:Heap):List (Addr×Obj):=f.filterMap λb=>(h.get? b).map λo=>(b,o)
def fK(hb:b∈f)(e:h.get? b=aw o):(b,o)∈mP f h:=Yq.mpr {b,hb,by rw[e];rfl}
def zJ(d:p∈mP f h):p.1∈f/\h.get? p.1=aw p.2:=by
 let{b,hb,e}:=Yq.mp d;cases q:h.get? b with
 |none=>rw[q]at e;cases e
 |some o=>
  rw[q]at e;let E:(b,o)=p:=θ e;subst E;exact⟨hb,q⟩
def Inv.pinned(I:Inv X f u H s)(h:∀b∈g,iQ X f H b)(j:∀b∈g,∃o,s.heap.get? b=aw o/\∀v,o.data≠.cell v):Inv X (f++mP g s.heap) u H s:=
 I.pins_of λp q=>(ZQ.mp q).elim (λz=>I.pin p (ZK _ z)) λz=>by
  let{hb,e}:=zJ z;let{k,n,l,_}:=h p.1 hb;let{o,E,d}:=j p.1 hb;rw[e]at E;cases E;exact⟨e,k,n,l,d⟩
def Inv.unpinned(I:Inv X (d++pl) f H s):Inv X d f H s:=I.pins_of λp h=>I.pin p (ZK _ (Z7 _ h))
def Mj(Z:PassesOwn (model X.prog X.w) X.A X.env X.xe)(hc:X.calm=aN)(hi:PI X c C wi)(hg:PG X c g)(hb:PSs X body tb)
  (hs:∀x,Zaz C X.env x=pure x:=by intro _;rfl):PS X (.For c C body [] pos) (Rq wi g tb):=by
 intro p s σ H D I h;calc wpAny_For (thn (hi p s σ H _ I h) λv s1 h1=>thn h1 λitv s2 h2=>?_) hs;let{it,O,tn,J,H2,e,I2,T,st2,f2,W,⟨m0,w0⟩,turn}:=h2;subst e;let l:∀ {H':Hp},(∀b∈O,H' b=aD)->∀b∈O,iQ X p H' b:=λhn b hb=>{hn b hb,(f2 b hb).2};calc codeAny_forLoop_any (λn s'=>∃i y H',Inv X p y H' s'/\tn i s'.heap/\(∀b∈O,H' b=aD)/\W i n y H') ?_ m0 {0,σ,H2,I2,st2,λb hb=>(f2 b hb).1,w0};rintro n s3 ⟨i,q,H3,I3,L,Y,w3⟩;rcases turn i n q H3 w3 with ⟨stop,qn⟩ |⟨go,N,hN,step⟩
 .calc Zbx Z (thn (T.done X rfl rfl rfl hc i p s3 q H3 X.xe I3 (l Y) L stop) λr s4 ⟨hr,I4⟩=>?_);subst hr;exact Zbj ⟨q,H3,I4,qn⟩
 .calc Zbx Z (thn (T.item X rfl rfl rfl hc i p s3 q H3 X.xe I3 (l Y) L go) λr s4 ⟨u,hr,h4⟩=>?_);subst hr;calc Zbx Z (thn h4 λ_ s5 ⟨x,H5,I5,r5,y5,E,fr5⟩=>?_);let I5':=I5.pinned (l fr5) (T.obj _ _ E);calc Zbx Z (thn (hg _ s5 q H5 x u _ I5' r5 (step x H5 y5)) λ_ s6 ⟨σ6,H6,I6,q6⟩=>?_);refine Zbx Z (thn (hb _ s6 σ6 H6 _ I6 q6) λf s7 Q=>?_)
  let again:∀ {j:St} {B:Hp},Inv X (p++mP O s5.heap) j B s7->N j B->∃m,m < n/\∃i y H',Inv X p y H' s7/\tn i s7.heap/\(∀b∈O,H' b=aD)/\W i m y H':=λ{j B} k U=>by
   let{m',hm,w7}:=hN j B U;calc{m',hm,i+1,j,B,k.unpinned,T.keep _ _ _ E λb hb o e=>(k.pin (b,o) (ZK _ (ZK _ (fK hb e)))).1,λb hb=>?_,w7};let{o,e,d}:=T.obj _ _ E b hb;exact(k.pin (b,o) (ZK _ (ZK _ (fK hb e)))).2.1
  cases f with
  |next=>let{j,B,k,U}:=Q;exact again k U
  |cont=>let{j,B,k,U}:=Q;exact again k U
  |brk=>let{j,B,k,Q}:=Q;exact⟨j,B,k.unpinned,Q⟩
  |ret v=>let{x7,j,B,k,r7,Q}:=Q;exact⟨x7,j,B,k.unpinned,r7,Q⟩
end
@[inline]abbrev R2:=V->V->Hp->VK->Prop
abbrev OpR(X:Cx)(f:Value->Value->Sem Value)(r:R2):Prop:=
 ∀ (p:List (Addr×Obj)) (s:Shared) (c:St) (H:Hp) (x y:V) (v u:Value) (Q:VK),Inv X p c H s->aI x v->aI y u->r x y H Q ->
  wpAny (model X.prog X.w) X.A (f v u) (EP X p c Q) X.xe s
abbrev UnR(X:Cx)(f:Value->Sem Value)(r:V->Hp->VK->Prop):Prop:=
 ∀ (p:List (Addr×Obj)) (s:Shared) (c:St) (H:Hp) (x:V) (v:Value) (Q:VK),Inv X p c H s->aI x v->r x H Q ->
  wpAny (model X.prog X.w) X.A (f v) (EP X p c Q) X.xe s
abbrev aZ(X:Cx)(f:Value)(r:List V->Hp->VK->Prop):Prop:=
 ∀ (p:List (Addr×Obj)) (s:Shared) (c:St) (H:Hp) (xs:List V) (u:List Value) (Q:VK),Inv X p c H s->aP xs u->r xs H Q ->
  wpAny (model X.prog X.w) X.A (call f u) (EP X p c Q) X.xe s
abbrev UM(X:Cx)(r:V->Hp->(Bool->Hp->Prop)->Prop):Prop:=
 ∀ (p:List (Addr×Obj)) (s:Shared) (c:St) (H:Hp) (x:V) (v:Value) (Q:Bool->Hp->Prop),Inv X p c H s->aI x v->r x H Q ->
  wpAny (model X.prog X.w) X.A (truthy v) (TP X p c Q) X.xe s
abbrev tOp(r:R2)(T d:TE):TE:=λc H Q=>T c H λx f=>d c f λy h=>r x y h Q
abbrev tUn(r:V->Hp->VK->Prop)(T:TE):TE:=λc H Q=>T c H λx h=>r x h Q
abbrev rI(C:Int->Int->Prop)(g:Int->Int->V):R2:=λx y H Q=>∃i j,x = .int i/\y = .int j/\C i j/\Q (g i j) H
abbrev rI0(g:Int->Int->V):R2:=λx y H Q=>∃i j,x = .int i/\y = .int j/\Q (g i j) H
abbrev rU(g:Int->V):V->Hp->VK->Prop:=λx H Q=>∃i,x = .int i/\Q (g i) H
section
variable {X:Cx} {a b c:Expr} {T d e:TE} {pos:Pos}
def Ml(B:PE X a T)(hb:PE X b d){p:List (Addr×Obj)}{s:Shared}{j:St}{H:Hp}{R:V->V->Hp->Prop}(I:Inv X p j H s)
  (h:T j H λx o=>d j o λy g=>R x y g) {Q:Value->Shared->Prop} {f:Value->Value->Sem Value}
  (J:∀v u n x y g,Inv X p j g n->aI x v->aI y u->R x y g->wpAny (model X.prog X.w) X.A (f v u) Q X.xe n) :
  wpAny (model X.prog X.w) X.A (eval a X.env) (λv l=>wpAny (model X.prog X.w) X.A (eval b X.env) (λu k=>wpAny (model X.prog X.w) X.A (f v u) Q X.xe k) X.xe l) X.xe s:=by
 calc thn (B p s j H _ I h) λv L ⟨x,o,C,r1,q⟩=>?_;calc thn (hb p L j o _ C q) λu n ⟨y,g,E,r2,O⟩=>?_;exact J v u n x y g E r1 r2 O
def KW{op:VP}{r:R2}(f:OpR X (Zag op) r)(j:PE X a T)(hb:PE X b d):PE X (.BinOp a op b pos) (tOp r T d):=by
 intro p s n H Q I h;exact wpAny_BinOp (Ml j hb I h λv u o x y l g k B q=>f p o n l x y v u Q g k B q)
def BL(g:UnR X (unaryOp op) r)(j:PE X a T):PE X (.UnaryOp op a pos) (tUn r T):=by
 intro p s f H Q I h;exact UnaryOp_ (thn (j p s f H _ I h) λv k ⟨x,l,n,r1,q⟩=>g p k f l x v Q n r1 q)
def opI{f:Value->Value->Sem Value}{C:Int->Int->Prop}{g:Int->Int->Int}
  (rule:∀ (i j:Int) (t u:Tok) (s:Shared) (Q:Value->Shared->Prop) (E:Value->Shared->Prop),C i j->Q (.int (g i j) s.toks) {s with toks:=s.toks+1}->wpAny (model X.prog X.w) X.A (f (.int i t) (.int j u)) Q E s) :
  OpR X f (rI C λi j=>.int (g i j)):=by
 intro p s B H x y v u Q I k o h;let{i,j,rfl,rfl,l,q}:=h;let{t,rfl}:=k;let{n,rfl}:=o;exact rule i j t n s _ _ l {.int (g i j),H,I.tok _,⟨_,rfl⟩,q}
def Rr{f:Value->Value->Sem Value}{g:Int->Int->Int}
  (rule:∀ (i j:Int) (t u:Tok) (s:Shared) (Q:Value->Shared->Prop) (E:Value->Shared->Prop),Q (.int (g i j) s.toks) {s with toks:=s.toks+1}->wpAny (model X.prog X.w) X.A (f (.int i t) (.int j u)) Q E s) :
  OpR X f (rI0 λi j=>.int (g i j)):=by
 intro p s o H x y v u Q I k n h;let{i,j,rfl,rfl,q}:=h;let{t,rfl}:=k;let{l,rfl}:=n;exact rule i j t l s _ _ {.int (g i j),H,I.tok _,⟨_,rfl⟩,q}
def Gm{f:Value->Value->Sem Value}{g:Int->Int->Bool}
  (rule:∀ (i j:Int) (t u:Tok) (s:Shared) (Q:Value->Shared->Prop) (E:Value->Shared->Prop),Q (.bool (g i j)) s->wpAny (model X.prog X.w) X.A (f (.int i t) (.int j u)) Q E s) :
  OpR X f (rI0 λi j=>.bl (g i j)):=by
 intro p s o H x y v u Q I k n h;let{i,j,rfl,rfl,q}:=h;let{t,rfl}:=k;let{l,rfl}:=n;exact rule i j t l s _ _ {.bl (g i j),H,I,rfl,q}
abbrev UN(i j:Int):Prop:=0<=j/\j<=1000000/\i.natAbs < 2 ^ 64
abbrev Rs(i j:Int):Prop:=(-(2 ^ 64) < i/\i < 2 ^ 64)\/(-(2 ^ 64) < j/\j < 2 ^ 64)
def Rs.ok{i j:Int}(h:Rs i j):IntMulOk i j:=by
 rcases h with ⟨h1,h2⟩ |⟨h1,h2⟩
 .exact .of_left (intBits_le_64 h1 h2)
 .exact .of_right (intBits_le_64 h1 h2)
def Mm:OpR X (Zag .Add) (rI0 λi j=>.int (i+j)):=Rr λ_ _ _ _ _ _ _ q=>add_int q
def Mn:OpR X (Zag .Sub) (rI0 λi j=>.int (i - j)):=Rr λ_ _ _ _ _ _ _ q=>sub_int q
def Mo:OpR X (Zag .Mult) (rI Rs λi j=>.int (i * j)):=opI λ_ _ _ _ _ _ _ h q=>mul_int q h.ok
def Mp:OpR X (Zag .Mod) (rI (λ_ j=>0 < j) λi j=>.int (i % j)):=opI λi j _ _ _ _ _ h q=>by
 let h1:(0:Int) < j:=h;exact mod_int' (by lia) (by rw[Int.fmod_eq_emod_of_nonneg i (by lia)];exact q)
def Mq:OpR X (Zag .Pow) (rI UN λi j=>.int (i ^ j.toNat)):=opI λ_ _ _ _ _ _ _ h q=>pow_int_small h.1 h.2.1 h.2.2 q
def unI{f:Value->Sem Value}{g:Int->Int}
  (rule:∀ (i:Int) (t:Tok) (s:Shared) (Q:Value->Shared->Prop) (E:Value->Shared->Prop),Q (.int (g i) s.toks) {s with toks:=s.toks+1}->wpAny (model X.prog X.w) X.A (f (.int i t)) Q E s) :
  UnR X f (rU λi=>.int (g i)):=by
 intro p s k H x v Q I j h;let{i,rfl,q}:=h;let{t,rfl}:=j;exact rule i t s _ _ {.int (g i),H,I.tok _,⟨_,rfl⟩,q}
def vG:UnR X (unaryOp .USub) (rU λi=>.int (-i)):=unI λ_ _ _ _ _ q=>neg_int q
end
abbrev UO:V->V->Bool
 |.non,.non=>aN |.non,.int _=>aN |.int _,.non=>aN |.non,.bl _=>aN |.bl _,.non=>aN |.non,.str _=>aN |.str _,.non=>aN
 |.int _,.int _=>aN |.bl _,.bl _=>aN |.str _,.str _=>aN |.byt _,.byt _=>aN
 |.int _,.str _=>aN |.str _,.int _=>aN |.bl _,.str _=>aN |.str _,.bl _=>aN
 |_,_=>aS
abbrev rNe:R2:=λx y H Q=>UO x y=aN/\Q (.bl (!decide (x=y))) H
def Gn{i j:Int}:decide (V.int i=V.int j)=(i == j):=by
 rw[Yo];simp
def Mr:decide (V.bl i=V.bl j)=(i == j):=by
 rw[Yo];simp
def Go:decide (V.str i=V.str j)=(i == j):=by
 rw[Yo];simp
def Gp:decide (V.byt i=V.byt j)=(i.toList == j.toList):=by
 rw[Yo];cases i;cases j;simp
section
variable {X:Cx} {a b c:Expr} {T f g:TE} {pos:Pos}
def bO(I:Inv X p d H s)(q:Q (.bl k) H)(e:k=h):EP X p d Q (.bool h) s:=by
 subst e;exact{.bl k,H,I,rfl,q}
def Rt:OpR X (Zas .NotEq) rNe:=by
 intro p s n H x y v u Q I l d h;let{hs,q}:=h;cases x with
 |non=>
  cases l;cases y with
  |non=>cases d;exact PySem.EqNone.ne_none_none (bO I q (by simp))
  |bl j=>cases d;exact PySem.EqNone.ne_none_bool (bO I q (by simp))
  |int j=>let{k,rfl}:=d;exact PySem.EqNone.ne_none_int (bO I q (by simp))
  |str j=>let{k,rfl}:=d;exact PySem.EqNone.ne_none_str (bO I q (by simp))
  |_=>exact absurd (show aS=aN from hs) Zd
 |bl i=>
  cases l;cases y with
  |non=>cases d;exact PySem.EqNone.ne_bool_none (bO I q (by simp))
  |bl j=>cases d;exact ne_bool (bO I q (congrArg not Mr))
  |str j=>let{k,rfl}:=d;exact PySem.EqMixed.ne_bool_str (bO I q (by simp))
  |_=>exact absurd (show aS=aN from hs) Zd
 |int i=>
  let{t,rfl}:=l;cases y with
  |non=>cases d;exact PySem.EqNone.ne_int_none (bO I q (by simp))
  |int j=>let{k,rfl}:=d;exact ne_int (bO I q (congrArg not Gn))
  |str j=>let{k,rfl}:=d;exact PySem.EqMixed.ne_int_str (bO I q (by simp))
  |_=>exact absurd (show aS=aN from hs) Zd
 |str i=>
  let{t,rfl}:=l;cases y with
  |non=>cases d;exact PySem.EqNone.ne_str_none (bO I q (by simp))
  |bl j=>cases d;exact PySem.EqMixed.ne_str_bool (bO I q (by simp))
  |int j=>let{k,rfl}:=d;exact PySem.EqMixed.ne_str_int (bO I q (by simp))
  |str j=>let{k,rfl}:=d;exact ne_str (bO I q (congrArg not Go))
  |_=>exact absurd (show aS=aN from hs) Zd
 |byt i=>
  let{t,rfl}:=l;cases y with
  |byt j=>let{k,rfl}:=d;exact PySem.W.ne_bytes (bO I q (congrArg not Gp))
  |_=>exact absurd (show aS=aN from hs) Zd
 |_=>cases y <;> exact absurd (show aS=aN from hs) Zd
def Ru:OpR X (Zas .Lt) (rI0 λi j=>.bl (decide (i < j))):=Gm λ_ _ _ _ _ _ _ q=>lt_int q
def Rv:OpR X (Zas .LtE) (rI0 λi j=>.bl (decide (i<=j))):=Gm λ_ _ _ _ _ _ _ q=>le_int q
def KY:OpR X (Zas .Gt) (rI0 λi j=>.bl (decide (j < i))):=Gm λ_ _ _ _ _ _ _ q=>gt_int q
def Rx:OpR X (Zas .GtE) (rI0 λi j=>.bl (decide (j<=i))):=Gm λ_ _ _ _ _ _ _ q=>ge_int q
def Ms:OpR X (Zas .Is) (λx y H Q=>y = .non/\Q (.bl (decide (x = .non))) H):=by
 intro p s k H x y v u Q I d j h;let{rfl,q}:=h;cases j;refine is_none_gen (bO I q ?_)
 cases x <;> first
  |(cases d;rfl)
  |(let{t,rfl}:=d;rfl)
def Gq:OpR X (Zas .IsNot) (λx y H Q=>y = .non/\Q (.bl (!decide (x = .non))) H):=by
 intro p s k H x y v u Q I d j h;let{rfl,q}:=h;cases j;refine isnot_none_gen (bO I q ?_)
 cases x <;> first
  |(cases d;rfl)
  |(let{t,rfl}:=d;rfl)
def Gr{op:CmpOp}{r:R2}(d:OpR X (Zas op) r)(k:PE X a T)(hb:PE X b f)(n:Zaf op b=aS):PE X (.Compare a [op] [b] pos) (tOp r T f):=by
 intro p s B H Q I h;exact wpAny_Compare1 (Ml k hb I h λv u C x y o j l E q=>d p C B o x y v u Q j l E q) n
abbrev KZ(t:TE):TT:=λd H Q=>t d H λx h=>∃k,x = .bl k/\Q k h
def qU(Y:OpR X (Zas op) r)(n:PE X a T)(hb:PE X b f)(E:Zaf op b=aS):PT X (.Compare a [op] [b] pos) (KZ (tOp r T f)):=by
 intro p s d H Q I h
 refine wpAny_isTrue_Compare1 (thn (n p s d H _ I h) λv Z ⟨x,U,B,r1,q⟩=>thn (hb p Z d U _ B q) λu L ⟨y,J,C,r2,q2⟩=>
  thn (Y p L d J x y v u _ C r1 r2 q2) λc s3 ⟨z,o,O,j,k,e,l⟩=>?_) E
 subst e;cases j;exact ZbJ ⟨o,O,l⟩
abbrev vH(r j:R2)(T f g:TE):TE:=λd H Q=>T d H λx p=>f d p λy o=>r x y o λz h=>∃k,z = .bl k ∧
 (if k=aN then g d h λl n=>j y l n Q else Q (.bl aS) h)
def BM(ho:OpR X (Zas op) r)(l:OpR X (Zas o) E)(U:PE X a T)(hb:PE X b f)(hc:PE X c g)
  (hm:lastMarks [op,o] [b,c]=aS:=by with_unfolding_all rfl):PE X (.Compare a [op,o] [b,c] pos) (vH r E T f g):=by
 intro p s j H Q I h
 refine Compare_chain (thn (U p s j H _ I h) λv s1 ⟨x,H1,I1,r1,O⟩=>chain_link (thn (hb p s1 j H1 _ I1 O) λu s2 ⟨y,H2,I2,r2,q2⟩=>
  thn (ho p s2 j H2 x y v u _ I2 r1 r2 q2) λd Y ⟨z,n,B,C,k,e,q⟩=>?_)) hm
 subst e;cases C;calc ZbJ ?_;cases k with
 |false=>exact ite_ff {.bl aS,n,B,rfl,q}
 |true=>exact ite_tt (chain_last (thn (hc p Y j n _ B q) λw' L ⟨Z,H4,J,r4,q4⟩=>l p L j H4 y Z u w' Q J r2 r4 q4))
def BN(ho:OpR X (Zas op) r)(l:OpR X (Zas o) E)(Z:PE X a T)(hb:PE X b f)(hc:PE X c g)
  (hm:lastMarks [op,o] [b,c]=aS:=by with_unfolding_all rfl):PT X (.Compare a [op,o] [b,c] pos) (KZ (vH r E T f g)):=by
 intro p s j H Q I h
 refine isTrue_chain (thn (Z p s j H _ I h) λv s1 ⟨x,H1,I1,r1,Y⟩=>test_link (thn (hb p s1 j H1 _ I1 Y) λu s2 ⟨y,H2,I2,r2,q2⟩=>
  thn (ho p s2 j H2 x y v u _ I2 r1 r2 q2) λd s3 ⟨z,n,B,C,k,e,q⟩=>?_)) hm
 subst e;cases C;calc ZbJ ?_;cases k with
 |false=>
  let{k',e',q'}:=q;cases e';exact ite_ff ⟨n,B,q'⟩
 |true=>
  calc ite_tt (test_last (thn (hc p s3 j n _ B q) λw' L ⟨z',H4,J,r4,q4⟩=>thn (l p L j H4 y z' u w' _ J r2 r4 q4) λd' s5 ⟨z2,H5,I5,U,k2,O,q5⟩=>?_));subst O;cases U;exact ZbJ ⟨H5,I5,q5⟩
abbrev Gu(K:V5)(x:V)(H:Hp)(k:Bool):Prop:=
 match x with
 |.non=>k=aS
 |.bl b=>k=b
 |.int i=>k=(i != 0)
 |.str y=>y.length<=sizeLine/\k=((y.length:Int) != 0)
 |.byt y=>y.size<=sizeLine/\k=((y.size:Int) != 0)
 |.ref p=>(∃xs,SqL K H p xs/\k = !xs.isEmpty)\/(∃xs,SqT K H p xs/\k = !xs.isEmpty)\/∃d,H p=aw (.dK d)/\k = !d.isEmpty
 |_=>False
def vI{d:Type}{kvs:List (d×V)}{v:List (d×Value)}(r:KV kvs v):(!v.isEmpty) = !kvs.isEmpty:=by
 cases r <;> rfl
def mQ{xs:List V}{its:List Value}(r:aP xs its):(!its.toArray.isEmpty) = !xs.isEmpty:=by
 cases r <;> simp
def ku:(sizeLine:Nat) < 2 ^ 63:=by rw[Za0];decide
def Mu:UM X (λx H Q=>∃k,Gu X.K x H k/\Q k H):=by
 intro B s O H x v Q I l h;let{k,e,q}:=h;let L:=ku;let hs:sizeLine=16777216:=Za0;cases x with
 |non=>
  cases l;let E:k=aS:=e;subst E;exact truthy_none ⟨H,I,q⟩
 |bl b=>
  cases l;let E:k=b:=e;subst E;exact ZbJ ⟨H,I,q⟩
 |int i=>
  let{t,rfl}:=l;let E:k=(i != 0):=e;subst E;exact PySem.P.truthy_int ⟨H,I,q⟩
 |str y=>
  let{t,rfl}:=l;obtain⟨C,E⟩:y.length<=sizeLine/\k=((y.length:Int) != 0):=e;subst E;exact PySem.P.truthy_str (by lia) {H,I.tok _,q}
 |byt y=>
  let{t,rfl}:=l;obtain⟨C,E⟩:y.size<=sizeLine/\k=((y.size:Int) != 0):=e;subst E;exact PySem.W.truthy_bytes (by lia) {H,I.tok _,q}
 |ref p=>
  cases l;let E:(∃xs,SqL X.K H p xs/\k = !xs.isEmpty)\/(∃xs,SqT X.K H p xs/\k = !xs.isEmpty)\/∃d,H p=aw (.dK d)/\k = !d.isEmpty:=e;rcases E with ⟨xs,n,E⟩ |⟨xs,n,E⟩ |⟨d,n,E⟩
  .subst E;let{o,r,pl,u}:=I.list n;let j:=r.length;exact wpAny_truthy_list pl.isList (by simp![Zk];lia) {H,I.tok _,by rw[mQ r];exact q}
  .subst E;let{o,r,pl,u}:=I.tuple n;let j:=r.length;exact truthy_tuple pl (by simp![Zk];lia) {H,I.tok _,by rw[mQ r];exact q}
  .subst E;obtain⟨u,J,vs,r,m⟩:d.length<=sizeLine/\(p == Za7)=aS/\∃vs,KV d vs/\s.heap.DictOf (aV X.prog X.w) p vs:=I.hok p _ n;let j:d.length=vs.length:=Paired.length r;exact wpAny_truthy_dict J m (by lia) {H,I.tok _,by rw[vI r];exact q}
 |_=>exact(show False from e).elim
def BO(n:PE X a T)(u:∀d,isTrue a X.env d=(do let v <-d;standAt a.pos;holding [v] (truthy v))) :
  PT X a (λj H Q=>T j H λx l=>∃k,Gu X.K x l k/\Q k l):=by
 intro p s j H Q I h;exact isTrue_plain (thn (n p s j H _ I h) λv o ⟨x,y,B,r1,q⟩=>Mu p o j y x v Q B r1 q) (u _)
def vJ:OpR X (Zag .Add) (λx y H Q=>∃i j,x = .str i/\y = .str j/\i.length+j.length<=sizeLine/\Q (.str (i++j)) H):=by
 intro p s B H x y v u Q I d l h;let{i,j,rfl,rfl,n,q}:=h;let{t,rfl}:=d;let{k,rfl}:=l;exact add_str (λk o=>{.str (i++j),H,I.tok _,⟨_,rfl⟩,q}) n
def cF(r:aP [x] U):∃u,U=[u]/\aI x u:=by
 cases r with
 |cons r1 r2=>cases r2;exact⟨_,rfl,r1⟩
def xX(r:aP [x,y] U):∃u w',U=[u,w']/\aI x u/\aI y w':=by
 cases r with
 |cons r1 r2=>
  cases r2 with
  |cons d h=>cases h;exact⟨_,_,rfl,r1,d⟩
def zK(hc:X.calm=aN):aZ X (.builtin "max") (λxs H Q=>∃i j,xs=[.int i,.int j]/\Q (.int (if j > i then j else i)) H):=by
 intro p s v H xs U Q I r h;let{i,j,rfl,q}:=h;let{u,o,rfl,⟨t,rfl⟩,⟨y,rfl⟩}:=xX r;calc max_two_ints (I.ok.hd hc) λn l k=>{_,H,I.kept k,?_,q};by_cases d:j > i
 .rw[if_pos d,if_pos d];exact⟨_,rfl⟩
 .rw[if_neg d,if_neg d];exact⟨_,rfl⟩
def zL(hc:X.calm=aN):aZ X (.builtin "min") (λxs H Q=>∃i j,xs=[.int i,.int j]/\Q (.int (if j < i then j else i)) H):=by
 intro p s v H xs U Q I r h;let{i,j,rfl,q}:=h;let{u,o,rfl,⟨t,rfl⟩,⟨y,rfl⟩}:=xX r;calc min_two_ints (I.ok.hd hc) λn l k=>{_,H,I.kept k,?_,q};by_cases d:j < i
 .rw[if_pos d,if_pos d];exact⟨_,rfl⟩
 .rw[if_neg d,if_neg d];exact⟨_,rfl⟩
end
structure ObjM(h:Heap)(x dx C:Addr)(mA:Str->Option Value):Prop where
 obj:h.get? x=aw (Rw C dx)
 ns:h.Ns1 dx mA
 ne:dx≠x
def zM{h:Heap}{f:Addr}{d:Str->Option Value}(n:h.Ns1 f d):∃O,h.get? f=aw O/\∀name,ON name O=aw (d name):=by
 let{o,E,u,j,hd,g,_,k}:=n;calc{o,j,λname=>?_};let e:=k name;delta nsFind findBy at e;rw[<-Array.find?_toList]at e;delta ON;rw[hd];dsimp!;split
 .rename_i y q;rw[q]at e;exact congrArg aw e
 .rename_i q;rw[q]at e
  let a:E.toList.any (·.refKey)=aS:=by
   rw[List.any_eq_false];intro y l;let{z,t,c}:=g y (Array.mem_toList_iff.mp l);simp[DictEntry.refKey,c]
  let p:¬ E.toList.any (·.refKey)=aN:=by rw[a];exact Zd
  rw[if_neg p];exact congrArg aw e
def ObjM.look(I:ObjM h x d C c):∃o,PySem.W.InstAt h x (Rw C d) C (aw o)/\∀name,ON name o=aw (c name):=
 let ⟨o,ho,hl⟩:=zM I.ns
 ⟨o,⟨I.obj,rfl,rfl,ho⟩,hl⟩
def vC.some_of(r:vC (aw v) o):∃u,o=aw u/\aI v u:=by
 cases o with
 |none=>exact(show False from r).elim
 |some u=>exact⟨u,rfl,r⟩
section
variable {P:Program} {w:World} {H b:Hp} {h h':Heap} {a C c:Addr} {fs g:List (Str×V)}
def Gv(hok:HOk P w H h)(e:H a=aw (.ins C c fs)):∃j,ObjM h a c C j/\(∀f,vC (fs.lookup f) (j f))/\PySem.Within j (fs.map (·.1))/\fs.length<=1000/\H c=aw (.own a):=by
 let{d,z,ne,ob,j,n,r,q}:=(show bp P w H h a (.ins C c fs) from hok a _ e);exact⟨j,⟨ob,n,ne⟩,r,q,z,d⟩
end
structure Cls(K:V5)(C:Addr):Prop where
 pg:NE K C Str.empty=aN
 hd:PySem.W.hasDictIn K C=aN
 po:PySem.W.plainOver K C=aN
 sa:UP K (.ref C) "__setattr__" = aw (aw (.builtin "object.__setattr__"))
def Cls.get{K:V5}{C:Addr}(c:Cls K C)(f:Str):NE K C f=aN:=c.pg
section
variable {X:Cx} {d:List (Addr×Obj)} {f:St} {H:Hp} {s:Shared} {A:Around} {E:Value->Shared->Prop} {Q:Value->Shared->Prop} {c:Value} {b:Bool}
inductive TyOf(K:V5)(H:Hp):V->Value->Prop where
 |non:TyOf K H .non (.type "NoneType")
 |bl (x:Bool):TyOf K H (.bl x) (.type "bool")
 |int (i:Int):TyOf K H (.int i) (.type "int")
 |str (x:Str):TyOf K H (.str x) (.type "str")
 |flt (x:UInt64):TyOf K H (.flt x) (.type "float")
 |lst {a:Addr} {xs:List V} (e:H a=aw (.lst xs)):TyOf K H (.ref a) (.type "list")
 |frz {a:Addr} {o:Obj} {xs:List V} (e:H a=aw (.frz o (.lst xs))):TyOf K H (.ref a) (.type "list")
 |tup {a:Addr} {xs:List V} (e:H a=aw (.tup xs)):TyOf K H (.ref a) (.type "tuple")
 |dK {a:Addr} {kvs:List (Key×V)} (e:H a=aw (.dK kvs)):TyOf K H (.ref a) (.type "dict")
 |dT {a:Addr} {kvs:List (List NK×V)} (e:H a=aw (.dT kvs)):TyOf K H (.ref a) (.type "dict")
 |ins {a C dx:Addr} {fs:List (Str×V)} (e:H a=aw (.ins C dx fs)) (cl:Cls K C) (ha:UP K (.ref C) "__class__" = aw (aw (.builtin "object.__class__")))
   (hn:PySem.W.specialIn K (.builtin "object.__class__") "__get__" = aw (aw (.builtin "getset_descriptor.__get__"))) (htk:PySem.W.takesIn K (.builtin "object.__class__")=aw aN)
   (hm:OS K C (.type "object")=aw aN):TyOf K H (.ref a) (.ref C)
def zN(I:Inv X d f H s)(g:aI x u)(ty:TyOf X.K H x t)(e:On X.K t c=aw b)(h:∀T,Q (.bool b) {s with toks:=T}) :
  wpAny (model X.prog X.w) A (call (.builtin "isinstance") [u,c]) Q E s:=by
 cases ty with
 |non=>cases (show u=Value.none from g);exact Pi PySem.W.kitx_none I.kIn True.intro e (λz=>nomatch z) h
 |bl y=>cases (show u=Value.bool y from g);exact Pi PySem.W.kitx_bool I.kIn True.intro e (λz=>nomatch z) h
 |int i=>let{t,q}:=(show ∃t,u=Value.int i t from g);cases q;exact Pi PySem.W.kitx_int I.kIn True.intro e (λz=>nomatch z) h
 |str y=>let{t,q}:=(show ∃t,u=Value.str y t from g);cases q;exact Pi PySem.W.kitx_str I.kIn True.intro e (λz=>nomatch z) h
 |flt y=>let{t,q}:=(show ∃t,u=Value.float y t from g);cases q;exact Pi PySem.W.kitx_float I.kIn True.intro e (λz=>nomatch z) h
 |@lst a xs ea=>
  cases (show u=Value.ref a from g);let{_,_,n,_,h1}:=(show bp X.prog X.w H s.heap a (.lst xs) from I.hok a _ ea);exact Pi OF I.kIn ⟨_,h1,rfl⟩ e (λz=>nomatch z) h
 |@frz a ob xs ea=>
  cases (show u=Value.ref a from g);let{_,_,_,n,_,h1}:=(show bp X.prog X.w H s.heap a (.frz ob (.lst xs)) from I.hok a _ ea);exact Pi OF I.kIn ⟨_,h1,rfl⟩ e (λz=>nomatch z) h
 |@tup a xs ea=>
  cases (show u=Value.ref a from g);let{_,_,_,p}:=(show bp X.prog X.w H s.heap a (.tup xs) from I.hok a _ ea);let{o,h1,h2,_}:=p;exact Pi PySem.W.kitx_tuple I.kIn ⟨o,h1,h2⟩ e (λz=>nomatch z) h
 |@dK a kvs ea=>
  cases (show u=Value.ref a from g);let{_,_,B,_,p}:=(show bp X.prog X.w H s.heap a (.dK kvs) from I.hok a _ ea);let{o,k,j,h1,h2,_}:=p;exact Pi Os I.kIn ⟨o,h1,h2.1⟩ e (λz=>nomatch z) h
 |@dT a kvs ea=>
  cases (show u=Value.ref a from g);let{_,_,xs,_,o,k,j,h1,h2,_}:=(show bp X.prog X.w H s.heap a (.dT kvs) from I.hok a _ ea);exact Pi Os I.kIn ⟨o,h1,h2.1⟩ e (λz=>nomatch z) h
 |@ins a C dx fs ea cl ha hn htk hm=>
  cases (show u=Value.ref a from g);let{v,O,_}:=Gv I.hok ea;let{l,J,_}:=O.look;exact Pi (PySem.W.kitx_own (cl.get _) cl.hd ha hn htk hm) I.kIn J e (λz=>nomatch z) h
end
structure Room(k:Nat)(A:Around):Prop where
 hd:A.handled=aD
 dp:A.depth+3 * k+5 < recursionLimit
 un:A.units+16 * k+200 < cLine
 gd:A.guards=aw []
def Room.deeper{k:Nat}(r:Room (k+1) A)(env:Env):Room k (A.deeper env):=
 {r.hd,by let:=r.dp;show A.depth+1+3 * k+5 < _;lia,by let:=r.un;show A.units+3+16 * k+200 < _;lia,r.gd}
def Room.depth{k:Nat}(r:Room k A):A.depth < recursionLimit:=by let:=r.dp;lia
def Room.units{k:Nat}(r:Room k A):A.units+64 < cLine:=by let:=r.un;lia
abbrev jF:TA:=λ_ H Q=>Q [] H
abbrev ci(T:TE)(tr:TA):TA:=λc H Q=>T c H λx d=>tr c d λxs h=>Q (x::xs) h
section
variable {X:Cx} {e:Expr} {es:List Expr} {T:TE} {t:TA} {pos:Pos}
def qV:PA X [] jF:=λ_ _ _ _ H Q I h=>Calls.spliced_nil ⟨[],H,I,.nil,h⟩
def Gw(f:PE X e T)(j:PA X es t)(hs:Za2 (e::es) X.env=(aS,eval e X.env)::Za2 es X.env:=by rfl):PA X (e::es) (ci T t):=by
 intro pos p s c H Q I h;rw[hs];show wpAny _ _ (spliced ((aS,eval e X.env)::backTo pos (Za2 es X.env))) _ _ s;calc Calls.spliced_cons (thn (f p s c H _ I h) λu g ⟨x,n,o,r1,l⟩=>?_);exact thn (j pos p g c n _ o l) λU v ⟨xs,k,d,r2,q⟩=>{x::xs,k,d,.cons r1 r2,q}
abbrev Ry(t:TA):TE:=λc H Q=>t c H λxs h=>xs.length<=sizeLine/\∀p,h p=aD->Q (.ref p) (upd h p (.tup xs))
abbrev Rz(t:TA):TE:=λc H Q=>t c H λxs h=>xs.length<=sizeLine/\∀p,h p=aD->Q (.ref p) (upd h p (.lst xs))
def Mv{k}(h:PA X es t):PE X (.Tuple es k pos) (Ry t):=by
 intro p s l H Q I j;calc wpAny_Tuple_spliced (thn (h pos p s l H _ I j) λU c ⟨xs,d,f,r,z,q⟩=>{by rw[<-r.length];exact z,?_});let g:d c.heap.objs.size=aD:=f.hok.fresh (Zg _);calc{.ref c.heap.objs.size,upd d c.heap.objs.size (.tup xs),f.laid (t':=c.toks) (λb u e=>Zc _ e) (Zg _) ?_,rfl,q _ g};exact{z,U,r,qO.new _ _}
def mR(h:PA X es t):PE X (.List es pos) (Rz t):=by
 intro p s k H Q I j;calc wpAny_List_spliced (thn (h pos p s k H _ I j) λU c ⟨xs,d,f,r,z,q⟩=>{by rw[<-r.length];exact z,?_});let g:d c.heap.objs.size=aD:=f.hok.fresh (Zg _);calc{.ref c.heap.objs.size,upd d c.heap.objs.size (.lst xs),f.laid (t':=c.toks) (λb u e=>Zc _ e) (Zg _) ?_,rfl,q _ g};exact{z,U,0,r,Zu _ rfl}
end
@[inline]abbrev Sp:=List V->Hp->VK->XK->Prop
@[inline]abbrev CXT:=List Env->Hp->Shared->XK->Value->Shared->Prop
structure Env0(P:Program)(w:World)(K:V5)(mg:Str->Option Value)(base:Heap)(A:Around)(outer:List Env)(s:Shared)(H:Hp):Prop where
 frames:A.frames=aw outer
 mod:Mod K mg base
 bs:∀b o,base.get? b=aw o->s.heap.get? b=aw o/\H b=aD
 bsz:base.objs.size<=s⁻¹
 funs:s.heap.FunFrames base outer
 frf:∀b∈frs outer,H b=aD
 hok:HOk P w H s.heap
 bare:AllBare s.gens
abbrev CE(outer:List Env)(P:Program)(w:World)(H:Hp)(s:Shared)(Q:VK)(u:Value)(c:Shared):Prop:=
 ∃v h,c.os=s.os/\AllBare c.gens/\Un (frs outer) [] H h s.heap c.heap/\HOk P w h c.heap/\aI v u/\Q v h
abbrev CR(C:CXT)(outer:List Env)(P:Program)(w:World)(H:Hp)(s:Shared)(Q:VK)(E:XK)(r:Result)(c:Shared):Prop:=
 match r with
 |.ok (.ret u)=>CE outer P w H s Q u c
 |.ok _=>False
 |.error e=>C outer H s E e c
structure FnOk(P:Program)(w:World)(K:V5)(mg:Str->Option Value)(base:Heap)(CX:CXT)(k:Nat)(f:Addr)(fd:VL)(ps:List Str)(sp:Sp):Prop where
 len:∀vs H Q E,sp vs H Q E->vs.length=ps.length
 run:∀ (A:Around) (outer:List Env) (s:Shared) (H:Hp) (args:Args) (us:List Value) (vs:List V) (Q:VK) (E:XK),Room k A->Env0 P w K mg base A outer s H->BindsTo s fd args (ps.zip us)->aP vs us->sp vs H Q E ->
  codeAny (model P w) A (.call (.ref f) args) (CR CX outer P w H s Q E) s
def FnOk.imp{P:Program}{w:World}{K:V5}{mg:Str->Option Value}{base:Heap}{C:CXT}{k:Nat}{f:Addr}{g:VL}{ps:List Str}{d sp':Sp}(F:FnOk P w K mg base C k f g ps d)
  (h:∀v H Q E,sp' v H Q E->d v H Q E):FnOk P w K mg base C k f g ps sp':=
 {λv H Q E q=>F.len v H Q E (h _ _ _ _ q),λA outer s H c u v Q E l n hb j hs=>F.run A outer s H c u v Q E l n hb j (h _ _ _ _ hs)}
section
variable {X:Cx} {p:List (Addr×Obj)} {a:St} {H:Hp} {s c:Shared}
def Inv.env0(I:Inv X p a H s):Env0 X.prog X.w X.K X.mg X.base X.A X.stack s H:=
 {I.ok.frames,I.ok.mod,I.bs,Zz I.ok.bsz I.sz,I.stack,I.stkFree,I.hok,I.bare}
def Inv.after(I:Inv X p a H s)(h:CE X.stack X.prog X.w H s Q u c):EP X p a Q u c:=by
 let{v,f,os,bare,un,hok,r,q}:=h;let{j,g,d,t,o}:=c;obtain rfl:o=s.os:=os;exact{v,f,I.call (h':=j) (g':=g) (d':=d) (t':=t) (ch:=[]) un hok bare (λb z=>absurd z (by simp)),r,q}
end
abbrev K0(c:Sp)(d:List V)(E:XK)(t:TA):TE:=λf H Q=>t f H λv h=>c (v++d) h Q E
abbrev dI(K:V5)(f:VL)(ps:List Str)(d:List Value):Prop:=
 ∀ (s:Shared) (u:List Value),K.In s.heap->(u++d).length=ps.length->BindsTo s f ⟨u,[]⟩ (ps.zip (u++d))
def dI.all{K:V5}{f:VL}{ps:List Str}(h:∀u:List Value,u.length=ps.length->bindArgs f ⟨u,[]⟩=pure (ps.zip u)):dI K f ps []:=λs u _ c=>by
 rw[ZU]at c ⊢;exact .of_eq (h u c)
abbrev mS(C:CXT)(X:Cx)(E:XK):Prop:=∀ (p:List (Addr×Obj)) (d:St) (H:Hp) (s:Shared) (e:Value) (c:Shared),Inv X p d H s->C X.stack H s E e c->X.xe e c
section
variable {X:Cx} {CX:CXT} {k:Nat} {f C:Addr} {a:VL} {ps:List Str} {sp:Sp} {d:List V} {ds:List Value} {E:XK} {x m:Str} {p pos A:Pos} {e o:Expr} {es:List Expr} {T:TE} {t:TA}
def Mw(F:FnOk X.prog X.w X.K X.mg X.base CX k f a ps sp)(n:Room k X.A)(hb:dI X.K a ps ds)(hd:aP d ds)(l:mS CX X E)
  (I:Inv X c j H s) (r:aP v U) (h:sp (v++d) H Q E):wpAny (model X.prog X.w) X.A (call (.ref f) U) (EP X c j Q) X.xe s:=by
 let r2:aP (v++d) (U++ds):=r.append hd;let y:(U++ds).length=ps.length:=by rw[<-r2.length];exact F.len _ _ _ _ h
 calc wpAny_call (Zar (F.run X.A X.stack s H ⟨U,[]⟩ (U++ds) (v++d) Q E n I.env0 (hb s U I.kIn y) r2 h) λr B g=>?_);cases r with
 |error e=>exact l c j H s e B I g
 |ok q=>
  cases q with
  |ret u=>exact I.after g
  |next=>exact False.elim g
  |brk=>exact False.elim g
  |cont=>exact False.elim g
def xY(F:FnOk X.prog X.w X.K X.mg X.base CX k f a ps sp)(B:Room k X.A)(y:Gl X x)(v:X.mg x=aw (.ref f))(n:RW X.K (.ref f)=aN)(hb:dI X.K a ps ds)(hd:aP d ds)(J:mS CX X E)
  (u:PA X (e::es) t) (j:(x == ("__debug__" : Str))=aS:=by decide) (O:Za2 (e::es) X.env=(aS,eval e X.env)::Za2 es X.env:=by rfl) (g:(backTo pos (Za2 es X.env)).any (·.1)=aS:=by rfl) :
  PE X (.Call (.Name x p) (e::es) [] pos) (K0 sp d E t):=by
 intro c s L H Q I h;calc Zbd (jC I y v ?_ j);calc V6 (h₀:=X.base) I.ok.mod.kin n (thn (u pos c s L H _ I h) λU s1 ⟨Y,Z,l,r,q⟩=>{l.kIn,?_}) O g;exact Mw F B hb hd J l r q
end
abbrev PK(X:Cx)(k:List Keyword)(t:TA):Prop:=
 ∀ (c:Pos) (p:List (Addr×Obj)) (s:Shared) (d:St) (H:Hp) (Q:List V->Hp->Prop),Inv X p d H s->t d H Q->wpAny (model X.prog X.w) X.A (evalAll ((Zae c (ZaE k X.env)).map (·.2))) (AP X p d Q) X.xe s
section
variable {X:Cx} {CX:CXT} {k:Nat} {f C:Addr} {a:VL} {ps ks:List Str} {sp:Sp} {E:XK} {x m:Str} {p pos A kpos:Pos} {e o:Expr} {es:List Expr} {b:List Keyword} {T c:TE} {t d:TA} {nm:Option Str}
def BP:PK X [] jF:=λ_ _ _ _ H Q I h=>wpAny_evalAll_nil ⟨[],H,I,.nil,h⟩
def xZ(n:PE X e T)(B:PK X b t):PK X (⟨nm,e,kpos⟩::b) (ci T t):=by
 intro pos g s j H Q I h;show wpAny _ _ (evalAll ((do let v <-eval e X.env;standAt pos;pure v)::(Zae pos (ZaE b X.env)).map (·.2))) _ _ s;calc wpAny_evalAll_cons (Zbf (thn (n g s j H _ I h) λu q ⟨x,O,U,r1,L⟩=>Zbf (ZbI (Zby ?_))));exact thn (B pos g q j O _ U L) λY Z ⟨xs,J,l,r2,y⟩=>{x::xs,J,l,.cons r1 r2,y}
variable {g:List Value->List Value->List Value} {G:List V->List V->List V}
end
structure FnScope(N P:List Str)(sc:Scope):Prop where
 kind:sc.kind = .function
 co:sc.isCoroutine=aS
 gen:sc.isGenerator=aS
 nd:N.Nodup
 pre:N.take P.length=P
 par:∀x∈P,sc.names.lookup x=aw .local\/sc.names.lookup x=aw .cell
 nofree:∀y∈sc.names,y.2≠.free
def pP{kindOf:Str->Option VO}{x:Str}:∀ {binds:List (Str×Value)} {m:Str->Option Value},(∀v,(x,v)∉binds)->bindL kindOf binds m x=m x
 |[],_,_=>rfl
 |(n,v)::r,m,h=>by
  delta bindL;rw[pP λw c=>h w (Zf _ c)];split
  .let:x≠n:=by rintro rfl;exact h v Zh
   simp[this]
  .rfl
def pQ{kindOf:Str->Option VO}{x:Str}:∀ {binds:List (Str×Value)} {m:Str->Option Value},(∀v,(x,v)∉binds)->bindC kindOf binds m x=m x
 |[],_,_=>rfl
 |(n,v)::r,m,h=>by
  delta bindC;rw[pQ λw c=>h w (Zf _ c)];split
  .rfl
  .let:x≠n:=by rintro rfl;exact h v Zh
   simp[this]
def pR{kindOf:Str->Option VO}{x:Str}{v:Value}:∀ {P:List Str} {c:List Value} {i:Nat} {m:Str->Option Value},P.Nodup->P[i]?=aw x->c[i]?=aw v->kindOf x=aw .local ->
  bindL kindOf (P.zip c) m x=aw v
 |[],_,_,_,_,h,_,_=>by simp at h
 |_::_,[],_,_,_,_,h,_=>by simp at h
 |p::P,w::c,0,m,nd,h1,h2,hk=>by
  simp at h1 h2;subst h1;subst h2;show bindL kindOf ((p,w)::P.zip c) m p=_;delta bindL;rw[pP λv d=>(ZV.mp nd).1 (Xc d).1,if_pos hk];simp
 |p::P,w::c,i+1,m,nd,h1,h2,hk=>by
  show bindL kindOf ((p,w)::P.zip c) m x=_;delta bindL;exact pR (i:=i) (ZV.mp nd).2 (by simpa using h1) (by simpa using h2) hk
def pS{kindOf:Str->Option VO}{x:Str}{v:Value}:∀ {P:List Str} {c:List Value} {i:Nat} {m:Str->Option Value},P.Nodup->P[i]?=aw x->c[i]?=aw v->kindOf x≠aw .local ->
  bindC kindOf (P.zip c) m x=aw v
 |[],_,_,_,_,h,_,_=>by simp at h
 |_::_,[],_,_,_,_,h,_=>by simp at h
 |p::P,w::c,0,m,nd,h1,h2,hk=>by
  simp at h1 h2;subst h1;subst h2;show bindC kindOf ((p,w)::P.zip c) m p=_;delta bindC;rw[pQ λv d=>(ZV.mp nd).1 (Xc d).1,if_neg hk];simp
 |p::P,w::c,i+1,m,nd,h1,h2,hk=>by
  show bindC kindOf ((p,w)::P.zip c) m x=_;delta bindC;exact pS (i:=i) (ZV.mp nd).2 (by simpa using h1) (by simpa using h2) hk
abbrev eK(N:List Str)(v:List V):St:=v.map aw++Zp (N.length - v.length) aD
abbrev o8(g:CXT)(P:Program)(w:World)(K:V5)(mg:Str->Option Value)(base:Heap)(N:List Str)(q:Str)(c:Scope)(f:Addr)(C:Value)(A:Around)(outer:List Env)(s:Shared)(H:Hp)(E:XK):Cx where
 prog:=P
 w:=w
 K:=K
 mg:=mg
 base:=base
 A:=A.deeper (envOfC q c s⁻¹ f C)
 N:=N
 s₀:=s
 H₀:=H
 env:=envOfC q c s⁻¹ f C
 outer:=outer
 stack:=envOfC q c s⁻¹ f C::outer
 ex:=[]
 calm:=true
 fn:=λ_=>aN
 pn:=[]
 xe:=λe j=>wpAny (model P w) (A.deeper (envOfC q c s⁻¹ f C)) (leaving (envOfC q c s⁻¹ f C) e) (λ_ d=>g outer H s E e d) (λh d=>g outer H s E h d) j
def sY{sc:Scope}{n:Nat}{x:Str}(h:sc.names.lookup x=aw .cell):∃c,(Zan n sc.names []).lookup x=aw c:=by
 let q:=V7 sc.names n [] (.inl h);exact Yt.mp q
def pT{L:CXT}{P:Program}{w:World}{K:V5}{mg:Str->Option Value}{base:Heap}{N ps:List Str}{Q:Str}{d:Scope}{f:Addr}{C:Value}{A:Around}{outer:List Env}{s s1:Shared}{H:Hp}{E:XK}{U:List Value}{j:List V}
  (S:FnScope N ps d) (hd:A.handled=aD) (g:Env0 P w K mg base A outer s H) (hl:j.length=ps.length) (r:aP j U)
  (x:InCallC s s⁻¹ (bindL (envOfC Q d s⁻¹ f C).kindOf (ps.zip U) λ_=>aD) (Zan (s⁻¹+1) d.names []) (bindC (envOfC Q d s⁻¹ f C).kindOf (ps.zip U) λ_=>aD) s1) :
  Inv (o8 L P w K mg base N Q d f C A outer s H E) [] (eK N j) H s1:=by
 let T:ps.length<=N.length:=by let:=congrArg Zi S.pre;rw[ZT]at this;lia
 let{h1,Z,rfl,J}:=x.done;let l:∀b:Addr,b∉(o8 L P w K mg base N Q d f C A outer s H E).ex:=λb z=>absurd (show b∈([]:List Addr) from z) (by simp)
 refine⟨{g.mod,S.kind,rfl,rfl,Zg _,λy z c h1 h2=>?_,λy hy=>?_,λy c _ h=>?_,λ_=>hd,Around.frames_deeper g.frames,.inr ⟨rfl,rfl⟩,λb z=>absurd z (l b),g.bs,g.bsz,λb _ _=>l b,λb z=>absurd z (l b),g.funs,g.frf},
  rfl,g.bare,Un.kept J,{_,x.toInCall.ns,λi y v h1 h2 h3=>?_},λy c h=>{_,x.cell y c h},g.hok.fresh (Zg _),λy c h=>?_,λp B=>absurd (show p∈([]:List (Addr×Obj)) from B) (by simp),g.hok.kept J,?_⟩
 .exact name_of_addr x.apart (ZaI h1) (ZaI h2)
 .let hy:d.names.lookup y=aw .cell\/d.names.lookup y=aw .free:=hy;rcases hy with hy |hy
  .exact sY hy
  .exact absurd rfl (S.nofree _ (ZaI hy))
 .exact YX (x.above y c (ZaI h))
 .let I:i < j.length:=by
   delta eK at h2;by_cases I:i < j.length
   .exact I
   .rw[Zv (by simpa using I)]at h2;rw[YF]at h2;split at h2 <;> cases h2
  let X:j[i]?=aw v:=by
   delta eK at h2;rw[ZB (by simpa using I),Zo]at h2;cases e:j[i]? with
   |none=>rw[e]at h2;cases h2
   |some a=>rw[e]at h2;cases h2;rfl
  let{u,O,Y}:=r.get X
  let B:ps[i]?=aw y:=by
   rw[<-S.pre,Xn (by lia)];exact h1
  let o:ps.Nodup:=by rw[<-S.pre];exact S.nd.sublist (List.take_sublist _ _)
  calc{u,Y,?_};rcases S.par y (Zj B) with k |k
  .exact .inl {k,pR o B O k}
  .let{c,e}:=sY (n:=s⁻¹+1) k;calc .inr {.inl k,c,e,?_};let q:=x.cell y c e;rw[pS o B O (by show d.names.lookup y≠_;rw[k];decide)]at q;exact q
 .exact g.hok.fresh (YX (x.above y c (ZaI h)))
 .delta eK;show _=N.length;rw[Ze,Za,Y5]
  lia
def RA{U:CXT}{P:Program}{w:World}{K:V5}{mg:Str->Option Value}{base:Heap}{k:Nat}{f:Addr}{name d:Str}{p:Arguments}{body:List Stmt}{c:Scope}{dV kV T pm C ct oc:Value}{an od:Option Addr}
  {Y:Array (Option Value)} {N ps:List Str} {sp:Sp} (lk:K.lookup f=aw {oc,od,.func (Tm name d p body c dV kV T pm an C ct),Y}) (hcd:V9 K C d=aN) (S:FnScope N ps c)
  (len:∀g H Q E,sp g H Q E->g.length=ps.length)
  (B:∀ (A:Around) (outer:List Env) (s:Shared) (H:Hp) (g:List V) (Q:VK) (E:XK),Room k (A.deeper (envOfC d c s⁻¹ f C))->sp g H Q E ->
   ∃t,PSs (o8 U P w K mg base N d c f C A outer s H E) body t/\t {nx:=λ_ j=>Q .non j,rt:=Q} (eK N g) H) :
  FnOk P w K mg base U (k+1) f (Tm name d p body c dV kV T pm an C ct) ps sp:=by
 calc{len,λA outer s H args us g Q E Z L hb r O=>?_};let hl:=len _ _ _ _ O;let KX:K.In s.heap:=L.mod.kin.keeps λb o e=>(L.bs b o e).1;let lim:s.heap.NoLimit:=L.mod.nolimit.keeps λb o e=>(L.bs b o e).1
 let l:∀y∈ps.zip us,c.names.lookup y.1=aw .local\/(c.names.lookup y.1=aw .cell/\((Zan (s⁻¹+1) c.names []).lookup y.1).isSome=aN):=λ⟨n,v⟩ hy=>by
  rcases S.par n (Xc hy).1 with q |q
  .exact .inl q
  .exact .inr {q,V7 _ _ _ (.inl q)}
 calc Zaq Z.depth (KX _ _ lk) rfl S.co S.gen rfl (Up KX hcd) (hb _ _ _ _ ?_);calc Zbu S.kind l λenv he s1 x=>?_;subst he;calc{lim.keeps x.toInCall.keep,codeAny_func ?_};let{t,ht,hq}:=B A outer s H g Q E (Z.deeper _) O;let I:Inv (o8 U P w K mg base N d c f C A outer s H E) [] (eK N g) H s1:=pT S Z.hd L hl r x;refine Zbt (ht [] s1 (eK N g) H _ I hq) (λfl s' hs=>?_) λe s' hs=>hs
 let fin:∀ {h:St} {j:Hp} {v:V} {u:Value},Inv (o8 U P w K mg base N d c f C A outer s H E) [] h j s'->aI v u->Q v j->CE outer P w H s Q u s':=
  λ{h j v u} J X q=>⟨v,j,J.os,J.bare,J.base,J.hok,X,q⟩
 cases fl with
 |ret u=>
  let{v,h,j,J,X,q}:=hs;exact fin J X q
 |next=>
  let{h,j,J,q}:=hs;exact fin (v:=V.non) (u:=Value.none) J rfl q
 |brk=>
  let{_,_,_,q}:=hs;exact False.elim q
 |cont=>
  let{_,_,_,q}:=hs;exact False.elim q
section
variable {X:Cx} {x:Str} {p pos:Pos} {e:Expr} {es:List Expr} {t:TA} {i T:String} {r:List V->Hp->VK->Prop}
abbrev tCB(r:List V->Hp->VK->Prop)(t:TA):TE:=λc H Q=>t c H λv h=>r v h Q
def fm(hc:aZ X (.builtin i) r)(y:Gl X x)(o:X.mg x=aD)(n:Zai x=aw (.builtin i))(j:PA X (e::es) t)(k:x≠"__name__" := by decide)(f:(x == ("__debug__" : Str))=aS:=by decide)
  (E:Za2 (e::es) X.env=(aS,eval e X.env)::Za2 es X.env:=by rfl) (d:(backTo pos (Za2 es X.env)).any (·.1)=aS:=by rfl):PE X (.Call (.Name x p) (e::es) [] pos) (tCB r t):=by
 intro c s g H Q I h;calc Zbd (eV I y o n ?_ k f);exact PyProof.Rows.callWith_builtin1 (thn (j pos c s g H _ I h) λu C ⟨v,B,l,r1,q⟩=>hc c C g B v u Q l r1 q) E d
def fo(hc:aZ X (.type T) r)(y:Gl X x)(o:X.mg x=aD)(n:Zai x=aw (.type T))(j:PA X (e::es) t)(k:x≠"__name__" := by decide)(f:(x == ("__debug__" : Str))=aS:=by decide)
  (E:Za2 (e::es) X.env=(aS,eval e X.env)::Za2 es X.env:=by rfl) (d:(backTo pos (Za2 es X.env)).any (·.1)=aS:=by rfl):PE X (.Call (.Name x p) (e::es) [] pos) (tCB r t):=by
 intro c s g H Q I h;calc Zbd (eV I y o n ?_ k f);exact WO (thn (j pos c s g H _ I h) λu C ⟨v,B,l,r1,q⟩=>hc c C g B v u Q l r1 q) E d
end
end L2
namespace HT
open PySem PyProof.Rows
abbrev dJ:List Int->List Int->Bool
 |[],[]=>aS
 |[],_::_=>aN
 |_::_,[]=>aS
 |x::xs,y::ys=>if x=y then dJ xs ys else decide (x < y)
def mU(x y:Int)(xs Y:List Int):dJ (x::xs) (y::Y)=if x=y then dJ xs Y else decide (x < y):=rfl
def o9:dJ [] []=aS:=rfl
def mV(y:Int)(Y:List Int):dJ [] (y::Y)=aN:=rfl
def mW(x:Int)(xs:List Int):dJ (x::xs) []=aS:=rfl
def sZ(A:Around)(s:Shared)(a:Int)(t:Tok)(c:Int)(u:Tok):∃e,V2 A s (.int a t) (.int c u) e/\(e=aN ↔ a=c):=
 {(a == c),SeqAt.EqAt.int_int a t c u,by simp}
def tf(A:Around)(s:Shared)(a:Int)(t:Tok)(c:Int)(u:Tok)(prog:Program)(w:World)(E:Value->Shared->Prop)(Q:Value->Shared->Prop)(h:Q (.bool (decide (a < c))) s) :
  wpAny (model prog w) A (ZaU .Lt (.int a t) (.int c u)) Q E s:=
 (PyProof.Rows.lt_int h:wpAny (model prog w) A (Zas .Lt (.int a t) (.int c u)) Q E s)
section
open PySem.SeqAt
open PySem.AutoSeq1 (wpAny_loadPart')
open PySem.MeetsSeq PySem.MeetsSeq2 PySem.MeetsSeq3
def pc(l b:Addr)(f I:Array Value)(n n2:Nat)(dd dd2:Option Addr)(sl Z:Array (Option Value))(ns U:List Int)(hi:IntsAre f.toList ns)(hj:IntsAre I.toList U) :
  Meets (Builtin.«tuple.__lt__» ⟨[.ref l,.ref b],[]⟩)
   (λ_ R s=>s.heap.get? l=aw {cls:=.type "tuple",dict:=dd,data:=.seq f n,slots:=sl}/\s.heap.get? b=aw {cls:=.type "tuple",dict:=dd2,data:=.seq I n2,slots:=Z} ∧
    R (.ok (.ret (.bool (dJ ns U)))) s):=
 .of_wp λprog w A R s h=>by
  let{X,g,d,T,os}:=s;let{hl,hb,h}:=h;let f2:=AutoSeq1.sub_tuple_tuple;let z1:f.size=ns.length:=by rw[<-hi.length];simp
  let z2:I.size=U.length:=by rw[<-hj.length];simp
  wp_walk using Zbr hl,Zbr hb,Zbl _ (λB b s'=>b.1=aD/\s'=⟨X,g,d,T,os⟩/\∃ (Q Y:List Value) (k o:List Int),B=Q.zip Y ∧
   IntsAre Q k/\IntsAre Y o/\k.length+I.size=o.length+f.size/\R (.ok (.ret (.bool (dJ k o)))) ⟨X,g,d,T,os⟩) _
  case turn=>
   rintro⟨y,x⟩ B b s' ⟨E,rfl,Q,Y,k,o,v,J,p,j,hR⟩;cases J with
   |nil=>rw[List.zip_nil_left]at v;cases v
   |cons a t L=>
    cases p with
    |nil=>rw[List.zip_nil_right]at v;cases v
    |cons c u O=>
     rw[Yi]at v;injection v with hyx hrest;injection hyx with hy hx;subst hy hx;rw[mU]at hR;simp![Zr]at j;let{e,he,C}:=sZ A.in1 ⟨X,g,d,T,os⟩ a t c u;calc Zbf (he prog w _ _ ?_);cases e with
     |true=>
      rw[if_pos (C.mp rfl)]at hR
      wp_walk
      exact{rfl,rfl,_,_,_,_,hrest,L,O,by lia,hR}
     |false=>
      rw[if_neg (λq=>absurd (C.mpr q) Zd)]at hR;let hri:=tf A.in1 ⟨X,g,d,T,os⟩ a t c u prog w
      wp_walk using hri
      exact{_,rfl,by simpa using hR}
  case fin=>
   rintro⟨b1,b2⟩ s' ⟨E,rfl,Q,Y,k,o,v,J,p,j,hR⟩;simp! at E;subst E
   let hv:dJ k o=decide (f.size < I.size):=by
    cases J with
    |nil=>
     cases p with
     |nil=>
      simp![Z3]at j;rw[o9];exact(decide_eq_false (by lia)).symm
     |cons c u hw=>
      simp![Z3,Zr]at j;rw[mV];exact(decide_eq_true (by lia)).symm
    |cons a t hv=>
     cases p with
     |nil=>
      simp![Z3,Zr]at j;rw[mW];exact(decide_eq_false (by lia)).symm
     |cons c u hw=>
      rw[Yi]at v;cases v
   rw[hv]at hR
   wp_walk
   exact{_,rfl,by simpa[Builtin.Tuple.tupleCompareSizes] using hR}
  case h=>
   exact{rfl,rfl,f.toList,I.toList,ns,U,rfl,hi,hj,by lia,h}
end
section
variable {prog:Program} {w:World} {A:Around} {E:Value->Shared->Prop} {s:Shared}
def vK(hl:IsTup s.heap l c)(hb:IsTup s.heap b I)(hi:IntsAre c.toList ns)(v:IntsAre I.toList j)
  (B:A.units < cLine) (h:Q (.bool (dJ ns j)) s):wpAny (model prog w) A (Zas .Lt (.ref l) (.ref b)) Q E s:=by
 let{⟨cls,y,p,sl⟩,q,u,n,hd}:=id hl;let{⟨C,o,data2,k⟩,d,f,J,g}:=id hb;simp! at u hd f g;subst u hd f g
 exact ZaV (op:=.Lt) ⟨_,q,rfl⟩ ⟨_,d,rfl⟩ VG W5 (W0 _ _) (pc l b c I n J y o sl k ns j hi v)
  {q,d,show Value.bool (dJ ns j)≠Value.notImplemented/\Q (.bool (dJ ns j)) s from {(λx=>nomatch x),h}} B
def Gx(B:IsTup s.heap t v.toArray)(hb:IsTup s.heap b c.toArray)(p:v≠[])
  (h1:c=[]->Q (.ref t) s) (h2:c≠[]->Q (.ref s⁻¹) {s with heap:=s.heap.push {cls:=.type "tuple",data:=.seq (v++c).toArray}})
  (o:v.length+c.length<=sizeLine):wpAny (model prog w) A (Zag .Add (.ref t) (.ref b)) Q E s:=by
 let{⟨cls,u,data,sl⟩,k,y,n,hd}:=id B;let{⟨C,g,data2,f⟩,h,d,q,j}:=id hb;simp! at y hd d j;subst y hd d j;let e:v.toArray++c.toArray=(v++c).toArray:=by simp
 by_cases l:c=[]
 .exact Zat ⟨_,k,rfl⟩ ⟨_,h,rfl⟩ ZaK ZaZ VB W3 (WY _ _)
   (tuple_addW1 t b v.toArray c.toArray n q u g sl f (by simpa using p) (by simp[l])) {k,h,h1 l}
 .refine Zat ⟨_,k,rfl⟩ ⟨_,h,rfl⟩ ZaK ZaZ VB W3 (WY _ _)
   (tuple_addW2 t b v.toArray c.toArray n q u g sl f (by simpa using p) (by simpa using l) (by rw[Zk,Zk];exact o)) {k,h,?_}
  rw[e];exact h2 l
abbrev sIx(n d:Nat):Option Int->Nat
 |none=>d
 |some v=>if v < 0 then (v+(n:Int)).toNat else min v.toNat n
def BQ(n d:Nat):sIx n d aD=d:=rfl
def Mx(n d:Nat)(hd:d<=n)(o:Option Int):sIx n d o<=n:=by
 cases o with
 |none=>exact hd
 |some v=>
  show(if v < 0 then (v+(n:Int)).toNat else min v.toNat n)<=n;by_cases h:v < 0
  .rw[if_pos h];lia
  .rw[if_neg h];exact Nat.min_le_right _ _
def x6(v:Int)(n d:Nat):(if v < 0 then max (v+(n:Int)) 0 else min v (n:Int))=((sIx n d (aw v):Nat):Int):=by
 show(if v < 0 then max (v+(n:Int)) 0 else min v (n:Int))=(((if v < 0 then (v+(n:Int)).toNat else min v.toNat n):Nat):Int);by_cases h:v < 0
 .simp![if_pos h];lia
 .simp![if_neg h];lia
def vL(lo hi:Option Int)(n:Nat):Builtin.Slice.sliceAdjust lo hi 1 (n:Int)=(((sIx n 0 lo:Nat):Int),((sIx n n hi:Nat):Int)):=by
 let h1:¬ ((1:Int) < 0):=by lia
 delta Builtin.Slice.sliceAdjust;simp![h1,if_false];refine Prod.ext ?_ ?_
 .cases lo with
  |none=>rfl
  |some v=>exact x6 v n 0
 .cases hi with
  |none=>rfl
  |some v=>exact x6 v n n
def vM(i j:Nat):Builtin.Slice.slicePlaces (i:Int) (j:Int) 1=j - i:=by
 delta Builtin.Slice.slicePlaces;let h1:(1:Int) > 0:=by lia
 simp![h1,if_true,Wy];split <;> lia
def mX(p:IsPart v o)(h:Q o s):wpAny (model prog w) A (Builtin.Slice.slicePartIndex v) Q E s:=by
 cases p with
 |none=>exact slicePart_none h
 |int i t=>exact slicePart_int h
def fq{sl:Addr}{v f:Value}{lo hi:Option Int}{n:Nat}{Q:Int×Int×Nat->Shared->Prop}(hs:s.heap.IsSliceOf sl v f .none)(pl:IsPart v lo)(p:IsPart f hi)
  (h:Q (((sIx n 0 lo:Nat):Int),1,sIx n n hi - sIx n 0 lo) s):wpAny (model prog w) A (Builtin.Slice.sliceApplied (.ref sl) (pure (n:Int))) Q E s:=by
 let{os,c,g,d}:=id hs;delta Builtin.Slice.sliceApplied Builtin.Slice.sliceFields;calc Zbf (Zbf (Zbk c d (x:=v) rfl (Zbf (Zbk c d (x:=f) rfl (Zbf (Zbk c d (x:=.none) rfl (Zby ?_)))))));calc Zbf (slicePart_none ?_);show wpAny _ _ (if ((1:Int) == 0)=aN then _ else _) _ _ s;rw[if_neg (by decide)];calc Zbf (mX pl (Zbf (mX p (Zbf (Zby ?_)))));show wpAny _ _ (match Builtin.Slice.sliceAdjust lo hi 1 (n:Int) with |(lo,hi)=>pure (lo,(1:Int),Builtin.Slice.slicePlaces lo hi 1)) _ _ s;rw[vL lo hi n];show wpAny _ _ (pure (((sIx n 0 lo:Nat):Int),(1:Int),Builtin.Slice.slicePlaces ((sIx n 0 lo:Nat):Int) ((sIx n n hi:Nat):Int) 1)) _ _ s;rw[vM];exact Zby h
def BR(xs:Array Value)(i k:Nat):((Zm k).filterMap λ(m:Nat)=>xs[((i:Int)+(m:Int) * 1).toNat]?).toArray=((xs.toList.drop i).take k).toArray:=by
 let e:(λ(m:Nat)=>xs[((i:Int)+(m:Int) * 1).toNat]?)=λm=>xs[i+m]?:=by
  funext m
  let:((i:Int)+(m:Int) * 1).toNat=i+m:=by lia
  rw[this]
 rw[e];let:=pick_run xs i k;rw[XV]at this;let c:((λx=>xs[x]?) ∘ λx=>i+x)=λm=>xs[i+m]?:=rfl;rw[c]at this;rw[this]
def jG{t sl:Addr}{I:Array Value}{v l:Value}{lo hi:Option Int}{Q:Value->Shared->Prop}(d:IsTup s.heap t I)(hs:s.heap.IsSliceOf sl v l .none)(pl:IsPart v lo)(p:IsPart l hi)
  (hw:¬ (sIx I.size 0 lo=0/\sIx I.size I.size hi=I.size))
  (h:Q (.ref s⁻¹) {s with heap:=s.heap.push {cls:=.type "tuple",data:=.seq ((I.toList.drop (sIx I.size 0 lo)).take (sIx I.size I.size hi - sIx I.size 0 lo)).toArray}})
  (n:I.size<=sizeLine):wpAny (model prog w) A (getItem (.ref t) (.ref sl)) Q E s:=by
 let c:sizeOk (.seq ((I.toList.drop (sIx I.size 0 lo)).take (sIx I.size I.size hi - sIx I.size 0 lo)).toArray):=by
  show((I.toList.drop (sIx I.size 0 lo)).take (sIx I.size I.size hi - sIx I.size 0 lo)).toArray.size<=sizeLine;rw[Zk,ZT,Yy,ZG]
  lia
 let u:sIx I.size I.size hi<=I.size:=Mx _ _ (Zg _) hi;let{os,f,g,o}:=id hs;let j:s.TypeIs (.ref sl) "slice" := ⟨os,f,g⟩;delta getItem
 try with_reducible refine Zbn ?_
 first |refine Zbf (Zby ?_) |skip
 refine Zbf (ZbF d.typeIs (by decide) ?_)
 refine Zbf (wpAny_callSpecial?_slot (name:=Str.ofString "__getitem__") d.typeIs WQ
  (Zbg WQ d.typeIs entry_tuple_getitem ?_ (args_tuple_getitem _ _)))
 show wpAny _ _ (Builtin.Tuple.tupleItemsOf (.ref t) >>= _) _ _ s;calc Zbf (tupleItemsOf_ d ?_);calc Zbf (ZbL j ?_);rw[if_pos (by decide)];refine Zbf (fq hs pl p ?_)
 let k:¬ ((((sIx I.size 0 lo:Nat):Int) == 0 && (1:Int) == 1 && (sIx I.size I.size hi - sIx I.size 0 lo) == I.size)=aN):=by
  intro q;rw[bAE,bAE]at q;let B:((sIx I.size 0 lo:Nat):Int)=0:=eq_of_beq q.1.1;let y:sIx I.size I.size hi - sIx I.size 0 lo=I.size:=eq_of_beq q.2;exact hw {by lia,by lia}
 show wpAny _ _ (if (((sIx I.size 0 lo:Nat):Int) == 0 && (1:Int) == 1 && (sIx I.size I.size hi - sIx I.size 0 lo) == I.size)=aN then _ else _) _ _ s;rw[if_neg k,BR]
 first
  |exact Zbf (m:=Builtin.Tuple.tupleExact _) (Zbv (Zby {_,rfl,Zby h}) c)
  |exact Zbf (m:=Builtin.Tuple.tupleExact _) (Zbv (Zbf (Zby (Zby {_,rfl,Zby h}))) c)
  |exact Zbf (Zbf (m:=Builtin.Tuple.tupleExact _) (Zbv (Zby (Zby {_,rfl,Zby h})) c))
  |exact Zbf (Zbf (m:=Builtin.Tuple.tupleExact _) (Zbv (Zby {_,rfl,Zby h}) c))
end
end HT
namespace L2
open PySem PySem.Spec PyProof.Rows
@[inline]abbrev TO:=St->Hp->(Option Int->Hp->Prop)->Prop
abbrev PO(X:Cx)(e:Option Expr)(t:TO):Prop:=
 ∀ (p:List (Addr×Obj)) (s:Shared) (c:St) (H:Hp) (Q:Option Int->Hp->Prop),Inv X p c H s->t c H Q ->
  wpAny (model X.prog X.w) X.A (evalPart e X.env) (λu d=>∃o h,Inv X p c h d/\IsPart u o/\Q o h) X.xe s
abbrev x8:TO:=λ_ H Q=>Q aD H
abbrev K1(t:TE):TO:=λc H Q=>t c H λx h=>∃i,x = .int i/\Q (aw i) h
section
variable {X:Cx} {e:Expr} {c:TE} {L hi:Option Expr} {d f:TO} {pos p2:Pos}
def Gy:PO X aD x8:=by
 intro p s g H Q I h;rw[Zax];exact Zby ⟨aD,H,I,.none,h⟩
def x9(h:PE X e c):PO X (aw e) (K1 c):=by
 intro p s j H Q I g;rw[evalPart_some];calc thn (h p s j H _ I g) λu o ⟨x,l,n,r1,k⟩=>?_;let{i,rfl,q}:=k;let{t,rfl}:=r1;exact{aw i,l,n,.int i t,q}
abbrev SlR(X:Cx)(r:V->Option Int->Option Int->Hp->VK->Prop):Prop:=
 ∀ (p:List (Addr×Obj)) (s:Shared) (j:St) (H:Hp) (x:V) (v g h:Value) (L hi:Option Int) (sl:Addr) (Q:VK),Inv X p j H s->aI x v->s.heap.IsSliceOf sl g h .none->IsPart g L->IsPart h hi->r x L hi H Q ->
  ∃T id,Zba (.type T) "__getitem__" = pure (aw (.builtin id))/\s.TypeIs v T/\wpAny (model X.prog X.w) X.A (getItem v (.ref sl)) (EP X p j Q) X.xe s
def SlR.or{r j:V->Option Int->Option Int->Hp->VK->Prop}(h:SlR X r)(h':SlR X j):SlR X (λx L hi H Q=>r x L hi H Q\/j x L hi H Q):=by
 intro p s n H x v g l L hi sl Q I k hs pl o q;rcases q with q |q
 .exact h p s n H x v g l L hi sl Q I k hs pl o q
 .exact h' p s n H x v g l L hi sl Q I k hs pl o q
abbrev tSl(r:V->Option Int->Option Int->Hp->VK->Prop)(c:TE)(d f:TO):TE:=λg H Q=>c g H λx k=>d g k λl j=>f g j λu h=>r x l u h Q
def BS(Y:SlR X r)(he:PE X e c)(hl:PO X L d)(hu:PO X hi f):PE X (.Subscript e (.Slice L hi aD p2) pos) (tSl r c d f):=by
 intro p s j H Q I h;calc Subscript_ (thn (he p s j H _ I h) λv s1 ⟨x,H1,J,r1,B⟩=>?_);calc wpAny_Slice (thn (hl p s1 j H1 _ J B) λn s2 ⟨l,Z,O,pl,q2⟩=>thn (hu p s2 j Z _ O q2) λk g ⟨u,o,I3,E,C⟩=>?_);rw[Zax];calc Zby ?_;let y:Inv X p j o {g with heap:=g.heap.push {cls:=.type "slice",data:=.fields #[n,k,.none]}}:=I3.kept (t':=g.toks) λb ob q=>Zc _ q;let{T,id,hT,ht,U}:=Y p {g with heap:=g.heap.push {cls:=.type "slice",data:=.fields #[n,k,.none]}} j o x v n k l u g.heap.objs.size Q y r1 (Heap.IsSliceOf.new ..) pl E C;show wpAny (model X.prog X.w) X.A (subscriptTail e (.Slice L hi aD p2) v (.ref g.heap.objs.size)) (EP X p j Q) X.xe {g with heap:=g.heap.push {cls:=.type "slice",data:=.fields #[n,k,.none]}};exact tail_any (ops:=[.ref g.heap.objs.size,v]) ht hT U (by with_unfolding_all rfl)
abbrev mY(xs:List V)(L hi:Option Int):List V:=(xs.drop (HT.sIx xs.length 0 L)).take (HT.sIx xs.length xs.length hi - HT.sIx xs.length 0 L)
def kY(xs:List V)(L hi:Option Int):(mY xs L hi).length<=xs.length:=by
 delta mY;rw[ZT,Yy]
 lia
abbrev UQ(K:V5):V->Option Int->Option Int->Hp->VK->Prop:=λx L hi H Q=>∃a xs,x = .ref a/\SqT K H a xs ∧
 ¬ (HT.sIx xs.length 0 L=0/\HT.sIx xs.length xs.length hi=xs.length)/\∀p,H p=aD->Q (.ref p) (upd H p (.tup (mY xs L hi)))
def My:SlR X (UQ X.K):=by
 intro p s J H x v C E L hi sl Q I n hs pl B h;let{a,xs,rfl,u,y,q}:=h;cases n;let{j,r,k,l}:=I.tuple u;let g:j.toArray.size=xs.length:=by rw[Zk];exact r.length.symm
 calc{"tuple",_,PyProof.Rows.slot_tuple_getitem.lookup,k.typeIs,?_};calc HT.jG k hs pl B (by rw[g];exact y) ?_ (by rw[g];exact l);rw[g];calc{.ref s⁻¹,_,I.laid (t':=s.toks) (o:=.tup (mY xs L hi)) (λb ob q=>Zc _ q) (Zg _) ?_,rfl,q _ (I.hok.fresh (Zg _))};exact{Zz (kY xs L hi) l,_,(r.drop (HT.sIx xs.length 0 L)).take (HT.sIx xs.length xs.length hi - HT.sIx xs.length 0 L),qO.new _ _}
abbrev RB(K:V5):R2:=λx y H Q=>∃a b xs Y,x = .ref a/\y = .ref b/\SqT K H a xs/\SqT K H b Y/\xs≠[]/\xs.length+Y.length<=sizeLine ∧
 (Y=[]->Q (.ref a) H)/\(Y≠[]->∀p,H p=aD->Q (.ref p) (upd H p (.tup (xs++Y))))
def aP.nil_iff(r:aP xs u):u=[] ↔ xs=[]:=by
 cases r with
 |nil=>simp
 |cons _ _=>simp
def Gz:OpR X (Zag .Add) (RB X.K):=by
 intro p s T H x y v u Q I l B h;let{a,b,xs,Y,rfl,rfl,n,hb,J,j,k,O}:=h;cases l;cases B;let{C,r1,E,_}:=I.tuple n;let{g,r2,p2,_}:=I.tuple hb;calc HT.Gx E p2 (λz=>J (r1.nil_iff.mp z)) (λz=>{.ref a,H,I,rfl,k (r2.nil_iff.mp z)}) (λz=>?_) (by rw[<-r1.length,<-r2.length];exact j);calc{.ref s⁻¹,_,I.laid (t':=s.toks) (o:=.tup (xs++Y)) (λb ob q=>Zc _ q) (Zg _) ?_,rfl,O (λw=>z (r2.nil_iff.mpr w)) _ (I.hok.fresh (Zg _))};exact{by rw[Ze];exact j,_,r1.append r2,qO.new _ _}
end
abbrev ixN(n:Nat)(i:Int):Option Nat:=if 0<=i then (if i < n then aw i.toNat else aD) else if -(n:Int)<=i then aw (i+n).toNat else aD
abbrev atI{α:Type}(xs:List α)(i:Int):Option α:=(ixN xs.length i).bind λj=>xs[j]?
def qW{n:Nat}{i:Int}{j:Nat}(h:ixN n i=aw j):seqIndex? i n=aw j/\j < n/\-(n:Int)<=i/\i < n:=by
 delta ixN at h;by_cases c:0<=i
 .rw[if_pos c]at h;by_cases h1:i < n
  .rw[if_pos h1]at h;let e:i.toNat=j:=θ h;exact{by rw[ZaX c h1,e],by lia,by lia,h1}
  .rw[if_neg h1]at h;cases h
 .rw[if_neg c]at h;by_cases h1:-(n:Int)<=i
  .rw[if_pos h1]at h;let e:(i+n).toNat=j:=θ h;exact{by rw[ZaW (by lia) h1,e],by lia,h1,by lia}
  .rw[if_neg h1]at h;cases h
def qX{c:Type}{xs:List c}{i:Int}{v:c}(h:atI xs i=aw v):∃j,seqIndex? i xs.length=aw j/\xs[j]?=aw v/\j < xs.length/\-(xs.length:Int)<=i/\i < xs.length:=by
 delta atI at h;cases e:ixN xs.length i with
 |none=>rw[e]at h;cases h
 |some j=>
  rw[e]at h;let{h1,h2,d,h4}:=qW e;exact⟨j,h1,h,h2,d,h4⟩
def ya{c:Type}{xs:List c}{j:Nat}{v:c}(h:xs[j]?=aw v):atI xs (j:Int)=aw v:=by
 let d:j < xs.length:=(Zb.mp h).1
 let e:ixN xs.length (j:Int)=aw j:=by
  delta ixN;rw[if_pos (by lia),if_pos (by lia)];simp
 delta atI;rw[e];exact h
abbrev yb(b:Expr):Prop:=∀o i,subscripted b aS o i=operate [o,i] (getItem o i)
abbrev IxR(X:Cx)(r:R2):Prop:=
 ∀ (d c:Expr) (p:List (Addr×Obj)) (s:Shared) (f:St) (H:Hp) (x y:V) (v u:Value) (Q:VK),Inv X p f H s->aI x v->aI y u->r x y H Q ->
  subscripted c aS v u=operate [v,u] (getItem v u)->wpAny (model X.prog X.w) X.A (subscriptTail d c v u) (EP X p f Q) X.xe s
abbrev MtR(X:Cx)(id:String)(r:V->List V->Hp->VK->Prop):Prop:=
 ∀ (p:List (Addr×Obj)) (s:Shared) (c:St) (H:Hp) (x:V) (xs:List V) (v:Value) (u:List Value) (Q:VK),Inv X p c H s->aI x v->aP xs u->r x xs H Q ->
  wpAny (model X.prog X.w) X.A (call (.builtin id) (v::u)) (EP X p c Q) X.xe s
section
variable {X:Cx} {a b:Expr} {d g:TE} {pos:Pos}
def IxR.or{r j:R2}(h:IxR X r)(h':IxR X j):IxR X (λx y H Q=>r x y H Q\/j x y H Q):=by
 intro c f p s l H x y v u Q I k n q hs;rcases q with q |q
 .exact h c f p s l H x y v u Q I k n q hs
 .exact h' c f p s l H x y v u Q I k n q hs
def yc(k:IxR X r)(j:PE X a d)(hb:PE X b g)(hs:yb b):PE X (.Subscript a b pos) (tOp r d g):=by
 intro p s n H Q I h;exact Subscript_ (Ml j hb I h λv u o x y l f c B q=>k a b p o n l x y v u Q f c B q (hs _ _))
abbrev RC(K:V5):R2:=λx y H Q=>∃p xs i v,x = .ref p/\y = .int i/\SqL K H p xs/\atI xs i=aw v/\Q v H
abbrev RD(K:V5):R2:=λx y H Q=>∃p xs i v,x = .ref p/\y = .int i/\SqT K H p xs/\atI xs i=aw v/\Q v H
abbrev RE:R2:=λx y H Q=>∃z i c,x = .str z/\y = .int i/\z.length<=sizeLine/\atI z.cps.toList i=aw c/\Q (.str ⟨#[c]⟩) H
def yd:IxR X (RC X.K):=by
 intro l f c s C H x y v u Q I O U h hs;let{p,xs,i,z,rfl,rfl,L,Y,q}:=h;cases O;let{t,rfl}:=U;let{n,r,pl,hz}:=I.list L;let{j,h1,h2,h3,h4,J}:=qX Y;let{w,E,o}:=r.get h2;let T:=r.length;let hn:=ku;let fin:EP X c C Q w s:=⟨z,H,I,o,q⟩;by_cases B:0<=i
 .let k:i.toNat=j:=by
   rw[ZaX B J]at h1;exact θ h1
  exact item_listR pl.isList B (by lia) (by rw[k];simpa using E) fin hs
 .let k:(i+(n.toArray.size:Int)).toNat=j:=by
   rw[ZaW (by lia) h4]at h1;rw[Zk,<-T];exact θ h1
  exact subscriptTail_builtinR (x:=w) pl.isList.typeIs slot_list_getitem.lookup
   (wpAny_getItem_list_neg (Q:=λr Z=>r=w/\EP X c C Q r Z) pl.isList (by lia) (by rw[Zk] <;> lia) (by lia) (by rw[k];simpa using E) ⟨rfl,fin⟩) hs
def BU:IxR X (RD X.K):=by
 intro k f c s n H x y v u Q I B E h hs;let{p,xs,i,z,rfl,rfl,o,O,q}:=h;cases B;let{t,rfl}:=E;let{J,r,pl,hz}:=I.tuple o;let{j,h1,h2,Z,h4,U}:=qX O;let{w,L,l}:=r.get h2;let C:=r.length;let Y:=ku;let fin:EP X c n Q w s:=⟨z,H,I,l,q⟩
 exact subscriptTail_builtinR (x:=w) pl.typeIs slot_tuple_getitem.lookup
  (getItem_tuple (j:=j) (Q:=λr T=>r=w/\EP X c n Q r T) pl (by lia) (by lia) (by rw[Zk,<-C];exact h1) (by simpa using L) ⟨rfl,fin⟩) hs
def Mz:IxR X RE:=by
 intro k f p s Y H x y v u Q I o C h hs;let{z,i,c,rfl,rfl,U,J,q}:=h;let{t,rfl}:=o;let{T,rfl}:=C;let{j,h1,h2,O,h4,l}:=qX J;let B:z.cps.toList.length=z.length:=by simp[Str.length]
 rw[B]at h1 h4 l;let L:=ku
 exact tail_any (typeIs_str s z t) slot_str_getitem.lookup (getItem_str (c:=c) (by
  let n:decide (i < -(2 ^ 63:Int))=aS:=decide_eq_false (by lia);let E:decide (i ≥ 2 ^ 63)=aS:=decide_eq_false (by lia);rw[n,E,YU]) (by rw[h1];simpa using h2) {.str ⟨#[c]⟩,H,I.tok _,⟨_,rfl⟩,q}) hs
abbrev rIx(K:V5):R2:=λx y H Q=>RC K x y H Q\/RD K x y H Q\/RE x y H Q
def BV:IxR X (rIx X.K):=yd.or (BU.or Mz)
def vN(its:List Value)(n j:Nat)(u:Value):Obj.mapSeq (·.setIfInBounds j u) {cls:=.type "list",data:=.seq its.toArray n}={cls:=.type "list",data:=.seq (its.set j u).toArray n}:=by
 simp[Obj.mapSeq]
def Inv.lst{c:List (Addr×Obj)}{f:St}{H:Hp}{s:Shared}{p:Addr}{xs:List V}(I:Inv X c f H s)(h:H p=aw (.lst xs)) :
  ∃ (its:List Value) (n:Nat),aP xs its/\s.heap.get? p=aw {cls:=.type "list",data:=.seq its.toArray n}/\xs.length<=sizeLine:=by
 let{z,its,n,r,e}:=I.hok p _ h;exact⟨its,n,r,e,z⟩
def Inv.lstUpd{c:List (Addr×Obj)}{l:St}{H:Hp}{s:Shared}{p:Addr}{xs y:List V}{its its':List Value}{n j:Nat}{f:Obj->Obj}(I:Inv X c l H s)(h:H p=aw (.lst xs))
  (o:s.heap.get? p=aw {cls:=.type "list",data:=.seq its.toArray n}) (k:f {cls:=.type "list",data:=.seq its.toArray n}={cls:=.type "list",data:=.seq its'.toArray j}) (r:aP y its') (v:y.length<=sizeLine) (t:Nat) :
  Inv X c l (upd H p (.lst y)) {s with heap:=s.heap.update p f,toks:=t}:=by
 let e:(s.heap.update p f).get? p=aw {cls:=.type "list",data:=.seq its'.toArray j}:=by
  rw[Yp f o (by rw[k] <;> rfl),k]
 calc I.write (x:=p) (e:=p) (by rw[h];trivial) (.inl rfl) (λb u hb q=>(ZN _ _ (Ne.symm hb)).trans q) ⟨_,e⟩ ?_;exact⟨v,its',j,r,e⟩
abbrev RF:V->V->V->Hp->(Hp->Prop)->Prop:=λo i v H Q=>∃p xs k j,o = .ref p/\i = .int k/\H p=aw (.lst xs)/\ixN xs.length k=aw j/\Q (upd H p (.lst (xs.set j v)))
def BW:Md X RF:=by
 intro f s σ H o i v ov iv u Q I O Z Y h;let{p,xs,k,j,rfl,rfl,J,T,q}:=h;cases O;let{t,rfl}:=Z;let{c,n,r,B,U}:=I.lst J;let{h1,h2,E,h4}:=qW T;let y:=r.length;let hn:=ku
 let L:Inv X f σ (upd H p (.lst (xs.set j v))) {s with heap:=s.heap.update p (Obj.mapSeq (·.setIfInBounds j u))}:=
  I.lstUpd J B (vN c n j u) (r.set Y j) (by rw[Yb];exact U) s.toks
 by_cases C:0<=k
 .let l:k.toNat=j:=by
   rw[ZaX C h4]at h1;exact θ h1
  exact PySem.W.ki_setAt B C (by lia) (by rw[Zk,<-y];exact h4) (by rw[l];exact⟨_,L,q⟩)
 .let l:(k+(c.toArray.size:Int)).toNat=j:=by
   rw[ZaW (by lia) E]at h1;rw[Zk,<-y];exact θ h1
  exact PySem.W.ki_setBack B (by lia) (by rw[Zk,<-y];exact E) (by lia) (by rw[l];exact⟨_,L,q⟩)
def qY(lo hi:Option Int)(n:Nat):(Za1 lo hi aD n).1=((HT.sIx n 0 lo:Nat):Int)/\(Za1 lo hi aD n).2.1=((HT.sIx n n hi:Nat):Int)/\(Za1 lo hi aD n).2.2=1:=by
 refine{?_,?_,rfl}
 .cases lo with
  |none=>simp[Za1,HT.sIx]
  |some i=>
   simp![Za1,HT.sIx,X3,show(1:Int) > 0 by decide,if_true];by_cases h:i < 0
   .simp![h,if_true] <;> lia
   .simp![h,if_false] <;> lia
 .cases hi with
  |none=>simp[Za1,HT.sIx]
  |some i=>
   simp![Za1,HT.sIx,X3,show(1:Int) > 0 by decide,if_true];by_cases h:i < 0
   .simp![h,if_true] <;> lia
   .simp![h,if_false] <;> lia
def pd(its:List Value)(lo hi:Option Int):slicePick its.toArray lo hi aD=((its.drop (HT.sIx its.length 0 lo)).take (HT.sIx its.length its.length hi - HT.sIx its.length 0 lo)).toArray:=by
 let{h1,h2,h}:=qY lo hi its.toArray.size;delta slicePick;rw[h1,h2,h];simp![sliceRange_one,pick_run,Zk] <;> rfl
abbrev UR(K:V5):V->Option Int->Option Int->Hp->VK->Prop:=λx lo h H Q=>∃a xs,x = .ref a/\SqL K H a xs/\∀p,H p=aD->Q (.ref p) (upd H p (.lst (mY xs lo h)))
def GA:SlR X (UR X.K):=by
 intro p s E H x v B C lo f sl Q I l hs pl u h;let{a,xs,rfl,n,q}:=h;cases l;let{k,r,j,y}:=I.list n;let c:=r.length;calc{"list",_,slot_list_getitem.lookup,j.isList.typeIs,?_};refine Zbm j.isList hs pl u .none (by simp) ?_ (by rw[Zk] <;> lia);rw[pd,<-c];calc{.ref s⁻¹,_,I.laid (t':=s.toks) (o:=.lst (mY xs lo f)) (λb ob q=>Zc _ q) (Zg _) ?_,rfl,q _ (I.hok.fresh (Zg _))};exact{Zz (kY xs lo f) y,_,0,(r.drop (HT.sIx xs.length 0 lo)).take (HT.sIx xs.length xs.length f - HT.sIx xs.length 0 lo),Zu _ rfl}
abbrev b6:V->Bool
 |.non=>aN
 |.bl _=>aN
 |.int _=>aN
 |.str _=>aN
 |_=>aS
abbrev eqV:V->V->Bool
 |.non,.non=>aN
 |.bl a,.bl b=>a == b
 |.bl a,.int b=>(if a then 1 else 0) == b
 |.int a,.bl b=>a == (if b then 1 else 0)
 |.int a,.int b=>a == b
 |.str a,.str b=>a == b
 |_,_=>aS
def MA(h:aI y u)(c:aI x v)(j:b6 y=aN)(f:b6 x=aN):V2 A s u v (eqV y x):=by
 cases y with
 |non=>
  cases h;cases x with
  |non=>cases c;exact SeqAt.EqAt.same _
  |bl b=>cases c;exact SeqAt.EqAt.none_bool b
  |int b=>let{t,rfl}:=c;exact SeqAt.EqAt.none_int b t
  |str b=>let{t,rfl}:=c;exact SeqAt.EqAt.none_str b t
  |_=>exact absurd (show aS=aN from f) Zd
 |bl a=>
  cases h;cases x with
  |non=>cases c;exact SeqAt.EqAt.bool_none a
  |bl b=>cases c;exact SeqAt.EqAt.bool_bool a b
  |int b=>let{t,rfl}:=c;exact SeqAt.EqAt.bool_int a b t
  |str b=>let{t,rfl}:=c;exact SeqAt.EqAt.bool_str a b t
  |_=>exact absurd (show aS=aN from f) Zd
 |int a=>
  let{T,rfl}:=h;cases x with
  |non=>cases c;exact SeqAt.EqAt.int_none a T
  |bl b=>cases c;exact SeqAt.EqAt.int_bool a T b
  |int b=>let{t,rfl}:=c;exact SeqAt.EqAt.int_int a T b t
  |str b=>let{t,rfl}:=c;exact SeqAt.EqAt.int_str a T b t
  |_=>exact absurd (show aS=aN from f) Zd
 |str a=>
  let{T,rfl}:=h;cases x with
  |non=>cases c;exact SeqAt.EqAt.str_none a T
  |bl b=>cases c;exact SeqAt.EqAt.str_bool a T b
  |int b=>let{t,rfl}:=c;exact SeqAt.EqAt.str_int a T b t
  |str b=>let{t,rfl}:=c;exact SeqAt.EqAt.str_str a T b t
  |_=>exact absurd (show aS=aN from f) Zd
 |_=>exact absurd (show aS=aN from j) Zd
abbrev eqU(x:V)(u:Value):Bool:=match u with
 |.none=>eqV .non x
 |.bool b=>eqV (.bl b) x
 |.int i _=>eqV (.int i) x
 |.str z _=>eqV (.str z) x
 |_=>aS
def qZ(r:aI y u)(f:b6 y=aN):eqU x u=eqV y x:=by
 cases y with
 |non=>cases r;rfl
 |bl b=>cases r;rfl
 |int i=>let{t,rfl}:=r;rfl
 |str z=>let{t,rfl}:=r;rfl
 |_=>exact absurd (show aS=aN from f) Zd
def jH:∀ {xs:List V} {U:List Value},aP xs U->xs.all b6=aN->U.any (eqU x)=xs.any λy=>eqV y x
 |_,_,.nil,_=>rfl
 |y::xs,u::U,.cons r t,f=>by
  rw[Yc,bAE]at f;rw[Yx,Yx,qZ r f.1,jH t f.2]
def cj(c:aI x v)(h:b6 x=aN):∀ {xs:List V} {U:List Value},aP xs U->xs.all b6=aN->∀u∈U,V2 A s u v (eqU x u)
 |_,_,.nil,_=>λu hu=>by cases hu
 |y::xs,u::U,.cons r t,f=>λj hu=>by
  rw[Yc,bAE]at f;rcases Zn.mp hu with rfl |hu
  .rw[qZ r f.1];exact MA r c f.1 h
  .exact cj c h t f.2 j hu
abbrev inV(x:V)(xs:List V):Bool:=xs.any λy=>eqV y x
abbrev rIn(K:V5)(neg:Bool):R2:=λx y H Q=>∃p xs,y = .ref p/\(SqL K H p xs\/SqT K H p xs)/\b6 x=aN/\xs.all b6=aN/\Q (.bl (if neg then !inV x xs else inV x xs)) H
def zO:OpR X (Zas .In) (rIn X.K aS):=by
 intro j s B H x y v u Q I k n h;let{p,xs,rfl,hq,l,fs,q}:=h;cases n;rcases hq with hq |hq
 .let{c,r,pl,o}:=I.list hq;calc SeqAt.in_listAt (eqU x) pl.isList (λw f=>cj k l r fs w (by simpa using f)) {.bl _,H,I,rfl,?_};rw[show c.toArray.any (eqU x)=c.any (eqU x) by simp,jH r fs];exact q
 .let{c,r,pl,o}:=I.tuple hq;calc SeqAt.in_tupleAt (eqU x) pl (λw f=>cj k l r fs w (by simpa using f)) {.bl _,H,I,rfl,?_};rw[show c.toArray.any (eqU x)=c.any (eqU x) by simp,jH r fs];exact q
def ra:OpR X (Zas .NotIn) (rIn X.K aN):=by
 intro j s B H x y v u Q I k n h;let{p,xs,rfl,hq,l,fs,q}:=h;cases n;rcases hq with hq |hq
 .let{c,r,pl,o}:=I.list hq;calc SeqAt.notIn_listAt (eqU x) pl.isList (λw f=>cj k l r fs w (by simpa using f)) {.bl _,H,I,rfl,?_};rw[show c.toArray.any (eqU x)=c.any (eqU x) by simp,jH r fs];exact q
 .let{c,r,pl,o}:=I.tuple hq;calc SeqAt.notIn_tupleAt (eqU x) pl (λw f=>cj k l r fs w (by simpa using f)) {.bl _,H,I,rfl,?_};rw[show c.toArray.any (eqU x)=c.any (eqU x) by simp,jH r fs];exact q
def rd:aZ X (.builtin "len") (λxs H Q=>∃p y,xs=[.ref p]/\(SqL X.K H p y\/SqT X.K H p y)/\Q (.int y.length) H):=by
 intro k s v H xs U Q I r h;let{p,y,rfl,hq,q}:=h;let{u,rfl,l}:=cF r;cases l;let o:=ku;rcases hq with hq |hq
 .let{f,j,pl,n}:=I.list hq;let c:=j.length;exact Calls.call_len_list pl.isList (by simp![Zk] <;> lia) {.int y.length,H,I.tok _,{s.toks+1,by rw[Zk,c]},q}
 .let{f,j,pl,n}:=I.tuple hq;let c:=j.length;exact len_tuple pl (by simp![Zk] <;> lia) {.int y.length,H,I.tok _,{s.toks+1,by rw[Zk,c]},q}
def re:aZ X (.type "list") (λxs H Q=>∃p y,xs=[.ref p]/\(SqL X.K H p y\/SqT X.K H p y)/\∀l,H l=aD->Q (.ref l) (upd H l (.lst y))):=by
 intro B s T H xs U Q I r h;let{p,y,rfl,hq,q}:=h;let{u,rfl,L}:=cF r;cases L
 let fin:∀ (c:List Value),aP y c->y.length<=sizeLine->∀ (f:Heap) (C:Nat),(∀b O,s.heap.get? b=aw O->f.get? b=aw O) ->
   f.get? s⁻¹=aw {cls:=.type "list",dict:=aD,data:=.seq c.toArray C,slots:=#[]}->EP X B T Q (.ref s⁻¹) {s with heap:=f}:=λc j v f C kp e=>
  {.ref s⁻¹,_,I.laid (t':=s.toks) kp (Zg _) (show bp X.prog X.w _ f _ (.lst y) from ⟨v,c,C,j,e⟩),rfl,q _ (I.hok.fresh (Zg _))}
 rcases hq with hq |hq
 .let{c,j,pl,v}:=I.list hq;let k:=j.length;let{o,E,J,n,hd}:=pl.isList;exact call_list_seq p (.inl rfl) E J hd (λf C kp e=>fin c j v f C kp e) (by simp![Zk] <;> lia)
 .let{c,j,pl,v}:=I.tuple hq;let k:=j.length;let{o,E,J,n,hd}:=pl;exact call_list_seq p (.inr rfl) E J hd (λf C kp e=>fin c j v f C kp e) (by simp![Zk] <;> lia)
def pf:aZ X (.type "tuple") (λxs H Q=>∃p y,xs=[.ref p]/\((SqL X.K H p y/\∀l,H l=aD->Q (.ref l) (upd H l (.tup y)))\/(SqT X.K H p y/\Q (.ref p) H))):=by
 intro c s E H xs U Q I r h;let{p,y,rfl,h}:=h;let{u,rfl,J}:=cF r;cases J;rcases h with ⟨k,q⟩ |⟨k,q⟩
 .let{f,n,pl,B}:=I.list k;let v:=n.length;refine call_tuple_list pl.isList (λj kp=>?_) (by simp![Zk] <;> lia);let C:Inv X c E H {s with heap:=j}:=I.kept (t':=s.toks) kp
  let L:Inv X c E (upd H j.objs.size (.tup y)) {s with heap:=j.push {cls:=.type "tuple",data:=.seq f.toArray}}:=
   C.laid (t':=s.toks) (λb o e=>Zc _ e) (Zg _) (show bp X.prog X.w _ _ _ (.tup y) from {B,f,n,qO.new _ _})
  exact{.ref j.objs.size,_,L,rfl,q _ (C.hok.fresh (Zg _))}
 .let{f,n,pl,B}:=I.tuple k;exact call_tuple_same pl {.ref p,H,I,rfl,q}
abbrev tyV(K:V5)(T:String)(x:V)(H:Hp):Prop:=match x with
 |.str _=>T = "str"
 |.int _=>T = "int"
 |.ref p=>(T = "list"/\∃xs,SqL K H p xs)\/(T = "tuple"/\((∃o,K.lookup p=aw o/\o.cls = .type "tuple"/\o.dict=aD)\/∃xs,H p=aw (.tup xs))) ∨
   (T = "dict"/\((∃k,H p=aw (.dK k))\/∃k,H p=aw (.dT k)))\/(T = "set"/\∃S n,H p=aw (.set S n))
 |_=>False
def BX(I:Inv X l u H s)(r:aI x v)(ty:tyV X.K T x H) :
  s.TypeIs v T/\∀a,v = .ref a->∃ob,s.heap.get? a=aw ob/\ob.dict=aD:=by
 cases x with
 |str z=>
  let{t,rfl}:=r;cases (show T = "str" from ty);exact{typeIs_str s z t,λ_ e=>nomatch e}
 |int i=>
  let{t,rfl}:=r;cases (show T = "int" from ty);exact{typeIs_int s i t,λ_ e=>nomatch e}
 |ref p=>
  cases r;rcases ty with ⟨rfl,xs,q⟩ |⟨rfl,⟨o,h,j,hd⟩ |⟨xs,h⟩⟩ |⟨rfl,h⟩ |⟨rfl,S,n,h⟩
  .let{f,_,pl,_}:=I.list q;calc{pl.isList.typeIs,λa e=>?_};cases e;let{o,n,e,c,hd,_}:=pl;exact⟨o,e,hd⟩
  .calc{{o,I.kIn p o h,j},λa e=>?_};cases e;exact{o,I.kIn _ o h,hd}
  .let{_,f,_,o,e,j,_,_,hd}:=I.hok p _ h;calc{⟨o,e,j⟩,λa E=>?_};cases E;exact⟨o,e,hd⟩
  .let z:∃o,s.heap.get? p=aw o/\o.ExactDict:=by
    rcases h with ⟨k,h⟩ |⟨k,h⟩
    .let{_,_,_,_,o,_,_,e,ex,_}:=I.hok p _ h;exact⟨o,e,ex⟩
    .let{_,_,_,_,o,_,_,e,ex,_}:=I.hok p _ h;exact⟨o,e,ex⟩
   let{o,e,ex}:=z;calc{⟨o,e,ex.1⟩,λa E=>?_};cases E;exact⟨o,e,ex.2.1⟩
  .let{o,_,_,_,e,ex,_}:=I.hok p _ h;calc{⟨o,e,ex.1⟩,λa E=>?_};cases E;exact⟨o,e,ex.2.1⟩
 |_=>exact False.elim ty
abbrev RG(K:V5)(T:String)(r:V->List V->Hp->VK->Prop)(to:TE):TE:=λc H Q=>to c H λx h=>tyV K T x h/\r x [] h Q
abbrev tBM(K:V5)(T:String)(r:V->List V->Hp->VK->Prop)(to:TE)(t:TA):TE:=λc H Q=>to c H λx h=>tyV K T x h/\t c h λxs f=>r x xs f Q
variable {o e:Expr} {es:List Expr} {a:TE} {t:TA} {name:Str} {A c:Pos} {T i:String} {r:V->List V->Hp->VK->Prop}
def MB(C:PlainAttrs T)(slot:Slot T name i)(k:typeOf (.builtin i)=pure (.type "method_descriptor"))(u:MtR X i r)(q:PE X o a)
  (f:Zad o name X.env (eval o X.env)=eval o X.env:=by rfl) (j:(A.endLine == c.line)=aN:=by rfl):PE X (.Call (.Attribute o name A) [] [] c) (RG X.K T r a):=by
 intro p s l H Q I h;calc wpAny_Call_method0_late f j (thn (q p s l H _ I h) λv y ⟨x,E,n,r1,ty,B⟩=>?_);let{h1,h2}:=BX n r1 ty;exact{T,i,C,slot,k,h1,h2,WT rfl (PySem.evalArgs_none (u p y l E x [] v [] Q n r1 .nil B))}
def pU(Z:PlainAttrs T)(slot:Slot T name i)(n:typeOf (.builtin i)=pure (.type "method_descriptor"))(L:MtR X i r)(ho:PE X o a)(E:PA X (e::es) t)
  (k:Zad o name X.env (eval o X.env)=eval o X.env:=by rfl)
  (l:((backTo c (Za2 (e::es) X.env)).all (λx=>!x.1) && (Zae c (ZaE [] X.env)).all (λx=>x.1.isSome)
   && decide ((e::es).length+([]:List Keyword).length+(if ([]:List Keyword).isEmpty then 0 else 1) < 30))=aN:=by rfl)
  (j:(A.endLine == c.line)=aN:=by rfl) (hs:Za2 (e::es) X.env=(aS,eval e X.env)::Za2 es X.env:=by rfl) (f:(backTo c (Za2 es X.env)).any (·.1)=aS:=by rfl) :
  PE X (.Call (.Attribute o name A) (e::es) [] c) (tBM X.K T r a t):=by
 intro p s q H Q I h;calc wpAny_Call_method_late k l j rfl (thn (ho p s q H _ I h) λv s1 ⟨x,H1,u,r1,ty,B⟩=>?_);let{h1,h2}:=BX u r1 ty;calc{T,i,Z,slot,n,h1,h2,?_};let y:=E c p s1 q H1 _ u B;rw[hs]at y ⊢;refine WT (by show(aS || (backTo c (Za2 es X.env)).any (·.1))=aS;rw[f] <;> rfl) (WU ?_);exact thn y λU Y ⟨C,O,J,r2,q2⟩=>L p Y q O x C v U Q J r1 r2 q2
end
abbrev MtM(X:Cx)(id:String)(r:V->List V->Hp->VK->Prop):Prop:=
 ∀ (p:List (Addr×Obj)) (s:Shared) (c:St) (H:Hp) (x:V) (xs:List V) (v:Value) (u:List Value) (Q:VK),Inv X p c H s->aI x v->aP xs u->r x xs H Q ->
  wpAny (model X.prog X.w) X.A (call (.builtin id) (v::u)) (EP X p c Q) X.xe s
def aP.one:∀ {x:V} {U:List Value},aP [x] U->∃u,U=[u]/\aI x u
 |_,_,.cons r .nil=>⟨_,rfl,r⟩
def aP.zero:∀ {u:List Value},aP [] u->u=[]
 |_,.nil=>rfl
def aP.dropLast{xs:List V}{u:List Value}(h:aP xs u):aP xs.dropLast u.dropLast:=by
 induction h with
 |nil=>exact .nil
 |cons r t I=>
  cases t with
  |nil=>exact .nil
  |cons q T=>exact .cons r I
def aP.eraseIdx:∀ {xs:List V} {u:List Value} (i:Nat),aP xs u->aP (xs.eraseIdx i) (u.eraseIdx i)
 |_,_,_,.nil=>.nil
 |_,_,0,.cons _ t=>t
 |_,_,i+1,.cons r t=>.cons r (aP.eraseIdx i t)
def aP.rep(h:aP xs u):∀k:Nat,aP (Zp k xs).flatten (Zp k u).flatten
 |0=>.nil
 |k+1=>by
  rw[Yn,Yn,YA,YA];exact aP.append h (aP.rep h k)
def i9{c:Type}(l:List c):l.eraseIdx (l.length - 1)=l.dropLast:=by
 induction l with
 |nil=>rfl
 |cons a r I=>
  cases r with
  |nil=>rfl
  |cons b r=>
   let e:(a::b::r).length - 1=((b::r).length - 1)+1:=by
    let h1:(a::b::r).length=r.length+2:=rfl;let h2:(b::r).length=r.length+1:=rfl
    lia
   rw[e,YG,I]
   all_goals rfl
def pV{c:Type}:∀ (l:List c) (i:Nat),(l.eraseIdx i).length<=l.length
 |[],_=>Zg _
 |_::_,0=>YI _
 |_::r,i+1=>X4 (pV r i)
def pW(its:List Value):∀ (k:Nat) (c:List Value),
  Wn (λX d=>X++d) c.toArray (Zp k its.toArray)=(c++(Zp k its).flatten).toArray
 |0,c=>by simp
 |k+1,c=>by
  let e:c.toArray++its.toArray=(c++its).toArray:=by simp
  let E:(c++its)++(Zp k its).flatten=c++(Zp (k+1) its).flatten:=by
   rw[Yn,YA,Yv]
  rw[<-E,<-pW its k (c++its),<-e,Yn,We]
section
variable {X:Cx} {p:List (Addr×Obj)} {a:St} {H:Hp} {s:Shared} {l b:Addr} {xs ys zs:List V}
def Inv.lset{its its':List Value}{n:Nat}{f:Array Value->Array Value}{t':Nat}(I:Inv X p a H s)(d:H l=aw (.lst xs))
  (e:s.heap.get? l=aw {cls:=.type "list",data:=.seq its.toArray n}) (h:f its.toArray=its'.toArray) (c:aP ys its') (j:ys.length<=sizeLine) :
  Inv X p a (upd H l (.lst ys)) {s with heap:=s.heap.update l (Obj.mapSeq f),toks:=t'}:=by
 let q:=PySem.IsL.update e f;rw[h]at q;calc I.write (x:=l) (e:=l) (by rw[d];exact trivial) (.inl rfl) (λB u hb g=>(ZN s.heap (Obj.mapSeq f) (Ne.symm hb)).trans g) ⟨_,q⟩ ?_;exact⟨j,its',_,c,q⟩
def Inv.lnew{t':Nat}(I:Inv X p a H s)(h:aP ys its)(c:ys.length<=sizeLine) :
  Inv X p a (upd H s⁻¹ (.lst ys)) {s with heap:=s.heap.push {cls:=.type "list",data:=.seq its.toArray},toks:=t'}:=
 I.laid (λ_ _ q=>Zc _ q) (Zg _) {c,its,0,h,Zu _ rfl}
def Inv.fresh(I:Inv X p a H s):H s⁻¹=aD:=I.hok.fresh (Zg _)
def Inv.lstM(I:Inv X p a H s)(h:H l=aw (.lst xs)):xs.length<=sizeLine/\∃ (its:List Value) (n:Nat),aP xs its/\xs.length=its.length/\s.heap.get? l=aw {cls:=.type "list",data:=.seq its.toArray n}:=by
 let{z,its,n,r,e}:=I.hok l _ h;exact⟨z,its,n,r,r.length,e⟩
def BZ{n:Nat}(h:n<=sizeLine):Builtin.List.listTooLong n=aS:=by
 delta Builtin.List.listTooLong;exact decide_eq_false (by lia)
end
section
variable {X:Cx}
abbrev GC:V->List V->Hp->VK->Prop:=λx v H Q=>∃l xs y,x = .ref l/\v=[y]/\H l=aw (.lst xs)/\xs.length < sizeLine/\Q .non (upd H l (.lst (xs++[y])))
def pX:MtM X "list.append" GC:=by
 intro p s C H x k v U Q I f j h;let{l,xs,y,rfl,rfl,d,B,q}:=h;cases f;let{u,rfl,g}:=j.one;let{z,c,n,r,o,e}:=I.lstM d;calc Zal Vx ⟨_,e,rfl⟩ F.entry_list_append (F.args_list_append_2 _ _) (PySem.list_append l c.toArray n u (by rw[Zk];lia)) {e,?_};calc{.non,_,I.lset (its':=c++[u]) d e (by simp) (r.append (.cons g .nil)) ?_,rfl,q};rw[Ze,Zl]
 lia
abbrev US:V->List V->Hp->VK->Prop:=λx v H Q=>∃l xs y,x = .ref l/\v=[]/\H l=aw (.lst xs)/\xs[xs.length - 1]?=aw y/\Q y (upd H l (.lst xs.dropLast))
def MC:MtM X "list.pop" US:=by
 intro p s L H x J v U Q I k C h;let{l,xs,y,rfl,rfl,g,j,q}:=h;cases k;let f:=C.zero;subst f;let{z,c,n,r,o,e}:=I.lstM g;let{u,E,B}:=r.get j
 let d:c.toArray[c.toArray.size - 1]?=aw u:=by
  show c.toArray[c.length - 1]?=aw u;rw[<-Xv,<-o];exact E
 calc Zal VA ⟨_,e,rfl⟩ F.entry_list_pop (F.args_list_pop_1 _) (MeetsSeq.list_pop_last l c.toArray n u d (by rw[Zk];lia)) {e,?_};refine{y,_,I.lset (its':=c.dropLast) g e ?_ r.dropLast ?_,B,q}
 .show c.toArray.eraseIdxIfInBounds (c.toArray.size - 1)=c.dropLast.toArray;rw[Zk,Y3,i9]
 .rw[List.length_dropLast]
  lia
abbrev MD:V->List V->Hp->VK->Prop:=λx v H Q=>∃l xs i k y,x = .ref l/\v=[.int i]/\H l=aw (.lst xs)/\-(2 ^ 63)<=i/\i < 2 ^ 63/\seqIndex? i xs.length=aw k/\xs[k]?=aw y/\Q y (upd H l (.lst (xs.eraseIdx k)))
def B0:MtM X "list.pop" MD:=by
 intro p s O H x L v U Q I B J h;let{l,xs,i,k,y,rfl,rfl,f,h1,h2,g,o,q}:=h;cases B;let{u,rfl,E}:=J.one;let{t,rfl}:=E;let{z,c,n,r,C,e}:=I.lstM f;let{w,j,d}:=r.get o
 refine Zal VA ⟨_,e,rfl⟩ F.entry_list_pop (F.args_list_pop_2 _ _)
  (MeetsSeq.list_pop_at l c.toArray n i t k w (fitsIndex_both h1 h2) (by rw[Zk,<-C];exact g) (by rw[<-Xv];exact j) (by rw[Zk];lia)) {e,?_}
 refine{y,_,I.lset (its':=c.eraseIdx k) f e ?_ (r.eraseIdx k) ?_,d,q}
 .show c.toArray.eraseIdxIfInBounds k=(c.eraseIdx k).toArray;rw[Y3]
 .let:=pV xs k
  lia
abbrev UT:R2:=λx y H Q=>∃l b xs Z,x = .ref l/\y = .ref b/\H l=aw (.lst xs)/\H b=aw (.lst Z)/\xs.length+Z.length<=sizeLine/\∀p,H p=aD->Q (.ref p) (upd H p (.lst (xs++Z)))
def B1:OpR X (Zag .Add) UT:=by
 intro p s T H x y v u Q I j k h;let{l,b,xs,Z,rfl,rfl,B,f,J,q}:=h;cases j;cases k;let{z,d,n,r,C,e}:=I.lstM B;let{O,c,L,r2,g,E}:=I.lstM f;calc PySem.P.add_list e E ?_ (by rw[Zk,Zk];lia);let o:d.toArray++c.toArray=(d++c).toArray:=by simp
 rw[o];exact{.ref _,_,I.lnew (t':=s.toks) (r.append r2) (by rw[Ze];lia),rfl,q _ I.fresh}
abbrev UU:R2:=λx y H Q=>∃l k xs,x = .ref l/\y = .int k/\H l=aw (.lst xs)/\-(2 ^ 63)<=k/\k < 2 ^ 63/\xs.length * k.toNat<=sizeLine ∧
 ∀p,H p=aD->Q (.ref p) (upd H p (.lst (Zp k.toNat xs).flatten))
def GD{c:Type}(xs:List c)(k:Nat):(Zp k xs).flatten.length=k * xs.length:=by
 induction k with
 |zero=>simp
 |succ k I=>rw[Yn,YA,Ze,I,Xg,Nat.add_comm]
def ME:OpR X (Zag .Mult) UU:=by
 intro E s σ H x y v u Q I L Y h;let{l,k,xs,rfl,rfl,Z,h1,h2,C,q}:=h;cases L;let{t,rfl}:=Y;let{z,c,n,r,O,e}:=I.lstM Z;let g:c.toArray.size * k.toNat<=sizeLine:=by rw[Zk,<-O];exact C
 let o:¬ c.toArray.size * k.toNat > (2 ^ 63 - 1) / 8:=by
  let:(sizeLine:Nat)<=(2 ^ 63 - 1) / 8:=by decide
  lia
 let j:¬ (!Builtin.List.listFitsIndex k)=aN:=by
  rw[fitsIndex_both h1 h2];exact Zd
 let d:¬ Builtin.List.listTooLong (c.toArray.size * k.toNat)=aN:=by
  rw[BZ g];exact Zd
 let f:Wn (λB p=>B++p) #[] (Zp (if c.toArray.isEmpty=aN then 0 else k.toNat) c.toArray)=(Zp k.toNat c).flatten.toArray:=by
  let J:∀m:Nat,Wn (λB p=>B++p) #[] (Zp m c.toArray)=(Zp m c).flatten.toArray:=λm=>by
   let:=pW c m [];rw[Wf]at this;exact this
  rw[J];cases c with
  |nil=>simp
  |cons a r'=>rw[if_neg (by simp)]
 refine wpAny_binaryOp_repeat_ref (T := "list") (U := "int") (by decide) ⟨_,e,rfl⟩ (λs'=>typeIs_int s' k t) noFill_list_mul F.fills_int_mul F.slot_int_rmul repeat_list F.slot_int_index.lookup
  (Zal F.slot_int_rmul (typeIs_int s k t) F.entry_int_rmul (F.args_int_rmul_2 _ _) (int___rmul___int_list k t l c.toArray n)
   {e,rfl,⟨_,e,rfl⟩,Zal F.slot_list_mul ⟨_,e,rfl⟩ F.entry_list_mul (F.args_list_mul_2 _ _) (AutoListH.list___mul___list_int_3 l c.toArray n k t j o d) {e,?_}})
 rw[f];exact{.ref _,_,I.lnew (t':=s.toks) (r.rep k.toNat) (by rw[GD,Nat.mul_comm];exact C),rfl,q _ I.fresh}
end
end L2
namespace Att
open PySem PySem.W PySem.Calls PyProof.Rows
def lQ:∀ (ns:List Int) (v:List Value),WellAll P h v (ns.map WData.int)->IntsAre v ns:=by
 intro ns
 induction ns with
 |nil=>
  intro v w;rw[Yh]at w;cases w;exact .nil
 |cons n ns I=>
  intro v w;rw[Zw]at w;cases w with
  |cons a b=>
   cases a;exact .cons _ _ (I _ b)
def zP{l:OpenLaw}{n:Nat}(B:l.most=aw n){P:Params}{h:Heap}{args:List WData}{v:List Value}
  (c:l.row.toRowW.claim.pre args=aN) (k:WellAll P h v args) :
  ∃a p ns,v=[Value.ref a]/\args=[WData.list (ns.map WData.int)]/\h.get? a=aw {cls:=.type "list",data:=.seq p.toArray}/\IntsAre p ns/\ns.length<=n:=by
 let o:WShape.hasAll [] args [.list .int]=aN:=(pre_splitW c).1;let u:l.pre.holds [] {args:=args}=aN:=(pre_splitW c).2;let{d,r,rfl,h1,h2}:=hasAllW_cons o;obtain rfl:=hasAllW_nil h2;let{xs,rfl,E}:=hasW_list h1;let{ns,rfl}:=items_int E
 let f:ns.length<=n:=by
  delta OpenLaw.pre at u
  let h4:(WTm.not (.lt (.lit (.int (n:Int))) (.len (.arg 0)))).holds [] {args:=[.list (ns.map .int)]}=aN:=by
   let h4:=(holds_andW u).1;rw[B]at h4;exact h4
  let j:=condW_of h4 (w_not (w_lt w_lit (w_len_list (w_arg rfl))));rw[Za]at j;calc Nat.le_of_not_lt λq=>?_;let Q:(n:Int) < ((ns.length:Nat):Int):=by lia
  first
   |(rw[decide_eq_true Q]at j;exact absurd j (by decide))
   |(simp at j;lia)
 cases k with
 |cons C w2=>
  cases w2;cases C with
  |list y g=>exact{_,_,ns,rfl,rfl,y,lQ ns _ g,f}
def zQ(l:OpenLaw)(args:List WData):l.row.toRowW.claim.post args (.bool aN) args=aN:=
 postW_of (r:=l.row.toRowW) (X:=(aN == aN))
  (show WShape.has [] (.bool aN) .bool=aN by first |rfl |decide |simp[WShape.has,WShape.arms,WShape.armsAll])
  (show(WTm.eq .res (.lit (.bool aN))).value [] {args:=args,res:=aw (.bool aN),after:=args}=aw (.bool (aN == aN)) from w_eq_bool (w_res rfl) w_lit) rfl
def attach_call{l:OpenLaw}{n:Nat}{q:Program}{loose:List Str}{X:(Str->Option Value)->Heap->Prop}{O:World->Heap->Prop}{d:DefRec}
  (hn:l.most=aw n) (I:d.params.defaults=[])
  (call:∀ (w:World) (s₀ c:Shared) (mg J:Str->Option Value) (u:Addr) (o:Obj) (pm C g:Value) (a:Addr) (v:List Value) (ns:List Int),
   Ground q loose [] X w s₀ mg J c.heap->O w c.heap ->
   c.heap.get? u=aw o->o.data = .func (docDef d.name d.params d.body d.scope pm C g)->c.heap.CodeRec C d.name->mg d.name=aw (.ref u) ->
   c.heap.get? a=aw {cls:=.type "list",data:=.seq v.toArray}->IntsAre v ns->ns.length<=n->c.gens=#[] ->
   codeAny (model l.prog w) callerA (.call (.ref u) ⟨[.ref a],[]⟩) (λr y=>r = .ok (.ret (.bool aN))/\OldK c.heap y.heap/\y.os=c.os/\AllBare y.gens) c) :
  WalkO q loose X O l.row.toRowW d [] (λf v=>PySem.call f v):=by
 intro w s₀ c mg J G Y u o pm C g dV kV ho hd L Q E hg Z T as k U hrd B hlo;obtain rfl:dV = .none:=Dflts.none Q I;obtain rfl:kV = .none:=Dflts.noKw Q;let{a,v,ns,rfl,rfl,p,h,j}:=zP hn k B;calc enter_call (Zar (call w s₀ c mg J u o pm C g a v ns G Y ho (fd_plain hd) L E p h j hg) λr y hq=>?_);let{rfl,h2,h3,h4}:=hq;exact{.inl {.bool aN,.bool aN,[],rfl,λ_=>rfl,.bool aN,zQ l _,λ_=>{List.Pairwise.nil,λ_ hm=>(nomatch hm)}},h2,h3,h4}
end Att
namespace L2
open PySem PySem.Spec PyProof.Rows
def iq:∀ {v:List Value} {ns:List Int},IntsAre v ns->aP (ns.map V.int) v
 |_,_,.nil=>.nil
 |_,_,.cons n t h=>.cons ⟨t,rfl⟩ (iq h)
abbrev RH(H:Hp):Prop:=∀b,H b=aD\/∃o xs,H b=aw (.frz o (.lst xs))
def B2{P:Program}{w:World}{K:V5}{mg mb:Str->Option Value}{CX:CXT}{k:Nat}{fa a:Addr}{fd:VL}{x:Str}{sp:Sp}{s₁:Shared}{g:List Value}{ns:List Int}
  (KX:K.In s₁.heap) (J:s₁.heap.Ns ZaH mg) (hb:s₁.heap.Ns Zaj mb) (Y:∀x:Str,x≠"__name__"->mb x=Zai x) (p:s₁.heap.NoLimit) (hg:s₁.gens=#[])
  (L:s₁.heap.get? a=aw {cls:=.type "list",data:=.seq g.toArray}) (hi:IntsAre g ns) (hl:ns.length<=sizeLine) (hr:Room k callerA)
  (F:∀base:Heap,K.In base->base.Ns ZaH mg->FnOk P w K mg base CX k fa fd [x] sp) (j:∀ (s:Shared) (u:Value),BindsTo s fd ⟨[u],[]⟩ [(x,u)])
  (X:∀H:Hp,RH H->SqL K H a (ns.map V.int)->sp [.ref a] H (λv _=>v = .bl aN) λ_ _ _=>False)
  (T:∀H e c,CX [] H s₁ (λ_ _ _=>False) e c->False) :
  codeAny (model P w) callerA (.call (.ref fa) ⟨[.ref a],[]⟩) (λr c=>r = .ok (.ret (.bool aN))/\OldK s₁.heap c.heap/\c.os=s₁.os/\AllBare c.gens) s₁:=by
 let rv:=iq hi;let l:=hi.length
 let C:∀H:Hp,RH H->SqL K H a (ns.map V.int)->HOk P w H s₁.heap->(∀b,H b≠aD->b=a)->(H a≠aD->K.lookup a=aD) ->
   codeAny (model P w) callerA (.call (.ref fa) ⟨[.ref a],[]⟩) (λr c=>r = .ok (.ret (.bool aN))/\OldK s₁.heap c.heap/\c.os=s₁.os/\AllBare c.gens) s₁:=by
  intro H hO hS hok hA hK;let B:∀ {b:Addr} {o:Obj},s₁.heap.get? b=aw o->H b=aD->(qQ s₁.heap H).get? b=aw o:=λe n=>Bu e n
  let Q:∀ {b:Addr} {o:Obj} {E:Array WW} {ep:Nat},s₁.heap.get? b=aw o->o.data = .dict E ep->H b=aD:=λ{b o E ep} e d=>by
   cases q:H b with
   |none=>rfl
   |some u=>
    let U:b=a:=hA b (by rw[q];simp);subst U;rw[L]at e;cases e;let d':Data.seq g.toArray _=Data.dict E ep:=d;cases d'
  let f:∀ {b:Addr} {m:Str->Option Value},s₁.heap.Ns b m->(qQ s₁.heap H).Ns b m:=λ{b m} ⟨o,E,ep,e,d,r⟩=>{o,E,ep,B e (Q e d),d,r}
  let I:K.In (qQ s₁.heap H):=λb o e=>B (KX b o e) (by
   cases q:H b with
   |none=>rfl
   |some u=>
    let U:b=a:=hA b (by rw[q];simp);subst U;rw[hK (by rw[q];simp)]at e;cases e)
  let hM:Mod K mg (qQ s₁.heap H):={I,f J,{mb,f hb,Y},let ⟨mc,h1,h2⟩:=p;{mc,f h1,h2}};let e0:Env0 P w K mg (qQ s₁.heap H) callerA [] s₁ H:={rfl,hM,λb o e=>Gh e,Wz (zF _ _),trivial,λb hb=>absurd (show b∈([]:List Addr) from hb) (by simp),hok,.of_eq hg};calc Zar ((F _ I (f J)).run callerA [] s₁ H ⟨[.ref a],[]⟩ [.ref a] [.ref a] _ _ hr e0 (j s₁ (.ref a)) (.cons rfl .nil) (X H hO hS)) λr c h=>?_;cases r with
  |error e=>exact(T H e c h).elim
  |ok fl=>
   cases fl with
   |next=>exact False.elim h
   |brk=>exact False.elim h
   |cont=>exact False.elim h
   |ret u=>
    let{v,H',os,bare,un,y,r',q}:=h;let q':v = .bl aN:=q;subst q';obtain rfl:u=Value.bool aN:=r';calc{rfl,OldK.of_keep λb o e=>?_,os,bare};cases q:H b with
    |none=>exact un.keep b o e q (by intro z;exact absurd (show b∈([]:List Addr) from z) (by simp)) (by simp)
    |some u=>
     rcases hO b with z |⟨ob,xs,z⟩
     .rw[q]at z;cases z
     .let z2:=un.frzs b ob _ z;let{e1,_}:=hok b _ z;let{e2,_}:=y b _ z2;rw[e]at e1;cases e1;exact e2
 cases O:K.lookup a with
 |some o=>
  let e:=KX a o O;rw[L]at e;cases e;refine C (λ_=>aD) (λ_=>.inl rfl) (.inr {_,g.toArray,_,O,rfl,rfl,rfl,by rw[Zk,l];exact hl,by simpa using rv}) (λb u z=>by let Z:(aD:Option HO)=aw u:=z;cases Z) (λb z=>absurd rfl z) λz=>absurd rfl z
 |none=>
  refine C (λb=>if b=a then aw (.frz {cls:=.type "list",data:=.seq g.toArray} (.lst (ns.map V.int))) else aD) (λb=>?_) (.inl (.inr {{cls:=.type "list",data:=.seq g.toArray},if_pos rfl})) (λb u z=>?_) (λb z=>?_) λ_=>O
  .by_cases hb:b=a
   .exact .inr {_,_,if_pos hb}
   .exact .inl (if_neg hb)
  .by_cases hb:b=a
   .let Z:=(if_pos hb).symm.trans z;cases Z;subst hb;exact{L,by rw[Za];exact hl,g,_,rv,L}
   .let Z:=(if_neg hb).symm.trans z;cases Z
  .by_cases hb:b=a
   .exact hb
   .exact absurd (if_neg hb) z
@[inline]abbrev CX0:CXT:=λ_ _ _ _ _ _=>False
@[inline]abbrev E0:XK:=λ_ _ _=>False
structure Fun(K:V5)(x qual:Str)(st:Stmt)(f:Addr)(fd:VL):Prop where
 ex:∃ (oc:Value) (od:Option Addr) (kV doc pm:Value) (an:Option Addr) (cdv ct:Value) (osl:Array (Option Value)),
  fd=Tm x qual (eJ st) (bu st) (ao st) .none kV doc pm an cdv ct/\K.lookup f=aw {oc,od,.func fd,osl}/\V9 K cdv qual=aN
 kp:RW K (.ref f)=aN
section
variable {P:Program} {w:World} {K:V5} {m:Str->Option Value} {base:Heap}
def Fun.binds{x q:Str}{st:Stmt}{f:Addr}{g:VL}{ps:List Str}(F:Fun K x q st f g)
  (h:∀ (kV d pm:Value) (an:Option Addr) (c ct:Value) (u:List Value),u.length=ps.length->bindArgs (Tm x q (eJ st) (bu st) (ao st) .none kV d pm an c ct) ⟨u,[]⟩=pure (ps.zip u)):dI K g ps []:=by
 let{O,k,kV,d,pm,an,c,ct,o,rfl,lk,j}:=F.ex;exact .all (h kV d pm an c ct)
def MF{x qual:Str}{st:Stmt}{f:Addr}{O:Value}{g an:Option Addr}{o:Array (Option Value)}{kV d pm C ct:Value}(l:K.lookup f=aw {O,g,.func (Tm x qual (eJ st) (bu st) (ao st) .none kV d pm an C ct),o})
  (c:V9 K C qual=aN) (k:RW K (.ref f)=aN):Fun K x qual st f (Tm x qual (eJ st) (bu st) (ao st) .none kV d pm an C ct):=⟨⟨O,g,kV,d,pm,an,C,ct,o,rfl,l,c⟩,k⟩
end
def zR{n:Nat}(h:n<=1000):n < sizeLine:=XW h (by decide)
abbrev rf(ifs:List Expr)(env:Env):Sem Bool:=
 forIn ifs aN λc r=>if r=aN then do let ok <-isTrue c env (eval c env);pure (ForInStep.yield ok) else pure (ForInStep.yield r)
def GF{d:Nat}
  (hg:g[d]?=aw ⟨T,B,ifs,0⟩)
  (h:wpAny M A (pyNext I) (λr y=>match r with
   |none=>Q (.done .next) y
   | some v=>wpAny M A (ZaF T I v) (λ_ O=>wpAny M A (assign T env v) (λ_ L=>wpAny M A (rf ifs env) (λok o=>if ok=aN then (match g[d+1]? with
     |none=>wpAny M A (eval f env) (λx k=>wpAny M A (call (.builtin "list.append") [j,x]) (λ_ l=>Q (.again (.compLoop (.ListComp f g c p) d I j env)) l) E k) E o
     | some g'=>g'.is_async=0/\wpAny M A (eval g'.iter env) (λx k=>wpAny M A (Zaz g'.iter env x) (λX l=>wpAny M A (pyIter X) (λn U=>
       wpAny M A (runOwn (.compStart (.ListComp f g c p) (d+1) n j env) env) (λ_ C=>Q (.again (.compLoop (.ListComp f g c p) d I j env)) C) E U) E l) E k) E o)
    else Q (.again (.compLoop (.ListComp f g c p) d I j env)) o) E L) E O) E y) E s) :
  wpAny M A (compTurn (.ListComp f g c p) d I j env) Q E s:=by
 delta compTurn;simp![hg];calc Zbf (ZbI ?_);show wpAny M A (pyNext I >>= _) Q E s;calc Zbf (Zbt h (λr y h1=>?_) λ_ _ x=>x);cases r with
 |none=>exact Zby h1
 |some v=>
  calc Zbf (Zbt h1 (λ_ O h2=>?_) λ_ _ x=>x);calc Zbf (Zbt h2 (λ_ L h3=>?_) λ_ _ x=>x);calc Zbf (Zbt h3 (λok o h4=>?_) λ_ _ x=>x);cases ok with
  |false=>exact Zby h4
  |true=>
   simp![if_true]at h4 ⊢;cases J:g[d+1]? with
   |none=>
    rw[J]at h4;calc Zbf (Zbf (Zbt h4 (λx k q=>?_) λ_ _ x=>x));exact Zbf (Zbt q (λ_ l u=>Zby (Zby u)) λ_ _ x=>x)
   |some g'=>
    rw[J]at h4;let{Z,h4}:=h4;calc Zbf (Zbt h4 (λx k q=>Zbf (ZbI ?_)) λ_ _ x=>x);rw[Z];show wpAny M A (Zaz g'.iter env x >>= _) Q E k;calc Zbf (Zbt q (λX l u=>?_) λ_ _ x=>x);calc Zbf (Zbn (Zbt u (λn U h7=>?_) λ_ _ x=>x));exact Zbf (Zbt h7 (λ_ C Y=>Zby Y) λ_ _ x=>x)
abbrev cm(c:List (Str×Addr)):List (Str×VO)->List (Str×Addr)->List (Str×Addr)
 |[],acc=>acc
 |(n,k)::r,acc=>if k == .free then cm c r ((n,(c.lookup n).getD 0)::acc) else cm c r acc
def ja:∀ (d:List (Str×VO)) (f:List (Str×Addr)),(∀y∈d,y.2 = .free->∃c,env.cells.lookup y.1=aw c) ->
  (forIn d f λ(x:Str×VO) (C:List (Str×Addr))=>(match x with |(name,kind)=>if kind == .free then (do let a <-cellOf env name;pure (ForInStep.yield ((name,a)::C))) else pure (ForInStep.yield C):Sem (ForInStep (List (Str×Addr)))))
   = (pure (cm env.cells d f):Sem (List (Str×Addr)))
 |[],f,_=>by rw[YY];rfl
 |(n,k)::r,f,h=>by
  rw[Xs];let j:∀y∈r,y.2 = .free->∃c,env.cells.lookup y.1=aw c:=λy o=>h y (Zf _ o);cases g:(k == NameKind.free) with
  |true=>
   let{c,l}:=h (n,k) Zh (by simpa using g);let e:cellOf env n=pure c:=by delta cellOf;rw[show env.cells.lookup n=aw c from l]
   simp![g,if_true,e,pure_bind];rw[ja r _ j]
   conv=>rhs;rw[cm]
   simp![g,if_true];rw[show env.cells.lookup n=aw c from l];rfl
  |false=>
   simp![g,ZY,if_false,pure_bind];rw[ja r _ j]
   conv=>rhs;rw[cm]
   simp![g,ZY,if_false]
def ye(h:∀y∈d.names,y.2 = .free->∃c,env.cells.lookup y.1=aw c):closureFor d env=pure (cm env.cells d.names []):=by
 let e:=ja (env:=env) d.names [] h;delta closureFor;refine Eq.trans ?_ e
 first
  |rfl
  |(rw[bind_pure])
  |(simp![bind_pure])
def kx:∀ {d:List (Str×VO)} {f:List (Str×Addr)} {x:Str} {c:Addr},(x,c)∈cm C d f->(x,c)∈f\/((x,NameKind.free)∈d/\c=(C.lookup x).getD 0)
 |[],_,_,_,h=>.inl h
 |(n,k)::r,f,x,c,h=>by
  delta cm at h;split at h
  .rename_i j;let g:k = .free:=by simpa using j
   rcases kx h with e |⟨e,q⟩
   .rcases Zn.mp e with e |e
    .cases e;exact .inr {by rw[g];exact Zh,rfl}
    .exact .inl e
   .exact .inr {Zf _ e,q}
  .rcases kx h with e |⟨e,q⟩
   .exact .inl e
   .exact .inr {Zf _ e,q}
def gD:∀ {l:List (Str×Addr)},(∃c,(x,c)∈l)->∃c,l.lookup x=aw c
 |[],⟨_,h⟩=>nomatch h
 |(n,c)::r,⟨c',h⟩=>by
  rw[ZW];cases hb:x == n with
  |true=>exact⟨c,rfl⟩
  |false=>
   rcases Zn.mp h with e |e
   .cases e;simp at hb
   .exact gD ⟨c',e⟩
def ir:∀ {d:List (Str×VO)} {acc:List (Str×Addr)},(x,NameKind.free)∈d\/(∃c,(x,c)∈acc)->∃c,(x,c)∈cm cells d acc
 |[],_,h=>h.elim (λe=>nomatch e) id
 |(n,k)::r,acc,h=>by
  delta cm;split
  .rename_i f;calc ir ?_;rcases h with h |⟨c,h⟩
   .rcases Zn.mp h with e |e
    .cases e;exact .inr ⟨_,Zh⟩
    .exact .inl e
   .exact .inr {c,Zf _ h}
  .rename_i f;calc ir ?_;rcases h with h |⟨c,h⟩
   .rcases Zn.mp h with e |e
    .cases e;exact absurd rfl f
    .exact .inl e
   .exact .inr ⟨c,h⟩
def cQ:∀ (d:List (Str×VO)) (n:Nat) (c:List (Str×Addr)),Zan n d c=Zan n d []++c
 |[],_,_=>rfl
 |(y,k)::r,n,c=>by
  delta Zan;split
  .rw[cQ r (n+1) ((y,n)::c),cQ r (n+1) [(y,n)],Yv];rfl
  .exact cQ r n c
def eW:∀ (d:List (Str×VO)) (n:Nat) (f:List (Str×Addr)) (x:Str) (c:Addr),(x,c)∈Zan n d f->(x,c)∈f\/(x,NameKind.cell)∈d
 |[],_,_,_,_,h=>.inl h
 |(y,k)::r,n,f,x,c,h=>by
  delta Zan at h;split at h
  .rename_i j;let g:k = .cell:=by simpa using j
   rcases eW r _ _ x c h with e |e
   .rcases Zn.mp e with e |e
    .cases e;exact .inr (by rw[g];exact Zh)
    .exact .inl e
   .exact .inr (Zf _ e)
  .rcases eW r _ _ x c h with e |e
   .exact .inl e
   .exact .inr (Zf _ e)
abbrev ph(sc:Scope)(n:Str)(k:VO):VO:=if (k == .free && sc.kind == .function && sc.names.lookup n == aw .cell) then .cell else k
abbrev gF(c sc:Scope):Scope:={c with names:=c.names.map λy=>(y.1,ph sc y.1 y.2)}
def GG(c:Scope)(env:Env):relabel c env=gF c env.scope:=by
 delta relabel gF
 congr 1
 calc YD λy _=>?_;let{n,k}:=y;delta ph;dsimp!;show(if (k == NameKind.free && env.scope.kind == ScopeKind.function && Xz n env.scope.names == aw NameKind.cell)=aN then (n,NameKind.cell) else (n,k))=_;split <;> rfl
def gG(sc:Scope)(x:Str):∀c:List (Str×VO),(c.map λy=>(y.1,ph sc y.1 y.2)).lookup x=(c.lookup x).map (ph sc x)
 |[]=>rfl
 |(n,k)::r=>by
  rw[Zw,ZW,ZW];dsimp!;cases hb:x == n with
  |true=>
   let q:x=n:=by simpa using hb
   subst q;rfl
  |false=>exact gG sc x r
abbrev vO(scope:Scope)(C:Addr)(env:Env):Env:=
 {scope:=gF scope env.scope,locals:=C,globals:=env.globals,cells:=Zan (C+1) scope.names (cm env.cells scope.names []),qual:=env.qual,func:=aD,code:=env.code,frame:=env.frame,builtins:=env.builtins}
def zS
  (h:Q {scope:=scope,locals:=s⁻¹,globals:=env.globals,cells:=Zan (s⁻¹+1) scope.names cl,qual:=env.qual,func:=aD,code:=env.code,frame:=env.frame,builtins:=env.builtins}
   {s with heap:=ZaR (s.heap.push {cls:=.type "dict",data:=.dict #[]}) scope.names}) :
  wpAny M A (ZaJ scope env.globals cl [] env.qual aD .none (aw env)) Q E s:=by
 simp![ZaJ,XX,if_true];calc Zbf (wpAny_alloc ?_);refine Zbf (wpAny_layCells _ (λname kind cells=>by cases c:kind == NameKind.cell <;> simp[c]) _ _ _ _ ?_);rw[show({s with heap:=s.heap.push {cls:=.type "dict",data:=.dict #[]}}:Shared).heap.objs.size=s⁻¹+1 from Z0 ..];simp![YY]
 first
  |exact Zbf (Zby (Zby h))
  |exact Zby h
abbrev B3(i:Nat):Str:=⟨#[i]⟩
abbrev dM:List Nat->List Str->List Str
 |[],N=>N
 |i::hs,N=>dM hs (N.set i (B3 i))
def ky:∀ (hs:List Nat) (N:List Str),(dM hs N).length=N.length
 |[],_=>rfl
 |i::hs,N=>by rw[dM,ky hs,Yb]
def pY:∀ (hs:List Nat) (N:List Str) {i:Nat} {x:Str},(dM hs N)[i]?=aw x->N[i]?=aw x\/∃j∈hs,x=B3 j
 |[],_,_,_,h=>.inl h
 |k::hs,N,i,x,h=>by
  rw[dM]at h;rcases pY hs (N.set k (B3 k)) h with e |⟨j,hj,e⟩
  .rw[YB]at e;split at e
   .split at e
    .exact .inr {k,Zh,(θ e).symm}
    .cases e
   .exact .inl e
  .exact .inr {j,Zf _ hj,e}
structure CmScope(own:List Str)(hs:List Nat)(N:List Str)(scope sc:Scope):Prop where
 kind:scope.kind = .function
 nd:(dM hs N++own).Nodup
 uniq:(scope.names.map (·.1)).Nodup
 dis:∀x∈dM hs N,scope.names.lookup x≠aw .local/\scope.names.lookup x≠aw .cell
 fr:∀y∈scope.names,y.2 = .free->sc.names.lookup y.1=aw .cell\/sc.names.lookup y.1=aw .free
 hd:∀i∈hs,scope.names.lookup (B3 i)=aD
def dF:∀ {l:List (Str×VO)} {x:Str} {k:VO},(l.map (·.1)).Nodup->(x,k)∈l->l.lookup x=aw k
 |(n,k')::r,x,k,nd,h=>by
  rw[Zw,ZV]at nd;rw[ZW];rcases Zn.mp h with e |e
  .cases e;simp
  .let ne:(x == n)=aS:=by
    cases hb:x == n with
    |false=>rfl
    |true=>
     let q:x=n:=by simpa using hb
     subst q;exact absurd (ZJ.mpr {(x,k),e,rfl}) nd.1
   rw[ne];exact dF nd.2 e
abbrev cxC(X:Cx)(own:List Str)(hs:List Nat)(c:Scope)(C:Addr)(ex:List Addr)(s:Shared)(H:Hp):Cx where
 prog:=X.prog
 w:=X.w
 K:=X.K
 mg:=X.mg
 base:=X.base
 A:=X.A
 N:=dM hs X.N++own
 s₀:=s
 H₀:=H
 env:=vO c C X.env
 outer:=X.stack
 stack:=X.stack
 ex:=ex
 fn:=λx=>c.names.lookup x == aw .cell
 calm:=X.calm
 pn:=[]
 xe:=λ_ _=>False
section
variable {X:Cx} {d:List (Addr×Obj)} {f:St} {H:Hp} {s:Shared} {own:List Str} {g:List Nat} {scope:Scope} {n:List Addr}
def Inv.compStart(I:Inv X d f H s)(S:CmScope own g X.N scope X.env.scope)(hf:∀b∈n,iQ X d H b)(hfo:∀b∈n,b < s⁻¹) :
  Inv (cxC X own g scope s⁻¹ n s H) [] (f++Zp own.length aD) H {s with heap:=ZaR (s.heap.push {cls:=.type "dict",data:=.dict #[]}) scope.names}:=by
 let keep:∀b o,s.heap.get? b=aw o->(ZaR (s.heap.push {cls:=.type "dict",data:=.dict #[]}) scope.names).get? b=aw o:=λb o e=>ZaS _ _ b o (Zc _ e);let ok:=cellsFrom_ok scope.names (s.heap.push {cls:=.type "dict",data:=.dict #[]}) (s⁻¹+1) [] {λ_ _ hm=>(nomatch hm),List.Pairwise.nil} (by rw[Z0];exact Zg _);rw[Z0]at ok;let E:(vO scope s⁻¹ X.env).cells=Zan (s⁻¹+1) scope.names []++cm X.env.cells scope.names []:=cQ _ _ _;let hasX:∀x,(x,NameKind.free)∈scope.names->∃c,X.env.cells.lookup x=aw c:=λx h=>I.ok.has x (S.fr (x,.free) h rfl)
 let old:∀x c,(x,c)∈cm X.env.cells scope.names []->X.env.cells.lookup x=aw c/\(x,NameKind.free)∈scope.names:=λx c h=>by
  rcases kx h with e |⟨e,q⟩
  .exact nomatch e
  .let{c',U}:=hasX x e;rw[U]at q;exact{by rw[U,q];rfl,e}
 let O:∀x c,X.env.cells.lookup x=aw c->c < s⁻¹:=λx c h=>let ⟨_,z⟩:=I.cell x c h;z.lt
 let B:∀x c,(vO scope s⁻¹ X.env).cells.lookup x=aw c->((x,c)∈Zan (s⁻¹+1) scope.names [])\/(X.env.cells.lookup x=aw c/\(x,NameKind.free)∈scope.names):=λx c h=>by
  let m:=ZaI h;rw[E]at m;rcases ZQ.mp m with e |e
  .exact .inl e
  .exact .inr (old x c e)
 let J:∀x c,(x,c)∈Zan (s⁻¹+1) scope.names []->s⁻¹+1<=c:=λx c h=>(ok.empty x c h).2
 let noFs:∀b∈n,b∉frs X.stack:=λb hb z=>by
  rcases Zn.mp (I.stkSub b z) with e |e
  .exact(hf b hb).2.1 e
  .exact(hf b hb).2.2.1 e
 let xok:(cxC X own g scope s⁻¹ n s H).Ok:=by
  refine{I.ok.mod,S.kind,I.ok.glob,I.ok.blt,Zg _,?_,?_,?_,I.ok.hd,I.ok.frames,.inl rfl,?_,I.bs,Zz I.ok.bsz I.sz,?_,noFs,I.stack,I.stkFree}
  .intro x y c h1 h2;rcases B x c h1 with a |⟨a,_⟩ <;> rcases B y c h2 with b |⟨b,_⟩
   .exact name_of_addr ok.apart a b
   .exact absurd (ZC (O y c b) (Xk (J x c a))) (ZO _)
   .exact absurd (ZC (O x c a) (Xk (J y c b))) (ZO _)
   .exact I.ok.inj x y c a b
  .intro x hx;let hx':(gF scope X.env.scope).names.lookup x=aw .cell\/(gF scope X.env.scope).names.lookup x=aw .free:=hx;let e:=gG X.env.scope x scope.names
   let key:(x,NameKind.cell)∈scope.names\/(x,NameKind.free)∈scope.names:=by
    cases Q:scope.names.lookup x with
    |none=>rw[Q]at e;rcases hx' with z |z <;> (rw[show(gF scope X.env.scope).names.lookup x=aD from e]at z;cases z)
    |some k=>
     let m:=ZaI Q;rw[Q]at e;cases k with
     |cell=>exact .inl m
     |free=>exact .inr m
     |_=>rcases hx' with z |z <;> (rw[show(gF scope X.env.scope).names.lookup x=_ from e]at z;simp[ph]at z)
   rcases key with h |h
   .let q:=V7 scope.names (s⁻¹+1) (cm X.env.cells scope.names []) (x:=x) (.inl (dF S.uniq h));exact Yt.mp q
   .let{c,U}:=ir (cells:=X.env.cells) (acc:=[]) (.inl h);let q:∃c,(x,c)∈(vO scope s⁻¹ X.env).cells:={c,by rw[E];exact ZK _ U};exact gD q
  .intro x c hfn Q
   let T:scope.names.lookup x=aw .cell:=by
    let z:(scope.names.lookup x == aw NameKind.cell)=aN:=hfn
    simpa using z
   rcases B x c Q with a |⟨_,b⟩
   .exact Zz (YI _) (J x c a)
   .rw[dF S.uniq b]at T;cases T
  .intro b hb;calc⟨ZH (hfo b hb),λx c h z=>?_⟩;rcases B x c h with a |⟨a,_⟩
   .exact absurd (ZC (z▸hfo b hb) (Xk (J x c a))) (ZO _)
   .exact(hf b hb).2.2.2.2.1 x c a z
  .intro b o e hb;rcases (hf b hb).2.2.2.1 with z |z
   .exact I.ok.noex b o e z
   .let h1:=Zt e;exact absurd (ZC h1 (Zz I.ok.bsz z)) (ZO _)
 let m0:(ZaR (s.heap.push {cls:=.type "dict",data:=.dict #[]}) scope.names).Ns s⁻¹ (λ_=>aD):=(Heap.Ns.new s.heap (.type "dict")).keeps (ZaS _ _);refine{xok,rfl,I.bare,Un.kept keep,{_,m0,?_},?_,I.hok.fresh (Zg _),?_,λp hp=>absurd (show p∈([]:List (Addr×Obj)) from hp) (by simp),I.hok.kept keep,?_}
 .intro i x v h1 h2 h3
  let hi:i < f.length:=by
   by_cases hi:i < f.length
   .exact hi
   .rw[Zv (by lia),YF]at h2;split at h2 <;> cases h2
  rw[ZB hi]at h2;let hN:i < X.N.length:=by rw[<-I.len];exact hi
  let h1h:(dM g X.N)[i]?=aw x:=by
   let h1:(dM g X.N++own)[i]?=aw x:=h1
   rwa[ZB (by rw[ky];exact hN)]at h1
  let dx:=S.dis x (Zj h1h);let e:=gG X.env.scope x scope.names;let h3':(gF scope X.env.scope).names.lookup x=aw .local\/(gF scope X.env.scope).names.lookup x=aw .cell\/(gF scope X.env.scope).names.lookup x=aw .free:=h3
  let C:scope.names.lookup x=aw .free:=by
   cases Q:scope.names.lookup x with
   |none=>rw[Q]at e;rcases h3' with z |z |z <;> (rw[show(gF scope X.env.scope).names.lookup x=aD from e]at z;cases z)
   |some k=>
    rw[Q]at e dx;cases k with
    |free=>rfl
    |«local»=>exact absurd rfl dx.1
    |cell=>exact absurd rfl dx.2
    |_=>rcases h3' with z |z |z <;> (rw[show(gF scope X.env.scope).names.lookup x=_ from e]at z;simp[ph]at z)
  let h1':X.N[i]?=aw x:=by
   rcases pY g X.N h1h with z |⟨j,hj,z⟩
   .exact z
   .rw[z,S.hd j hj]at C;cases C
  let L:=ZaI C;let kX:=S.fr (x,.free) L rfl;let{m,hn,Q}:=I.loc;let{u,r,l}:=Q i x v h1' h2 (kX.elim (λz=>.inr (.inl z)) λz=>.inr (.inr z));refine{u,r,.inr {?_,?_}}
  .let k3:(gF scope X.env.scope).names.lookup x=aw (ph X.env.scope x .free):=by rw[C]at e;exact e
   let k4:ph X.env.scope x .free = .cell\/ph X.env.scope x .free = .free:=by delta ph;split <;> simp
   rcases k4 with z |z
   .exact .inl (by show(gF scope X.env.scope).names.lookup x=_;rw[k3,z])
   .exact .inr (by show(gF scope X.env.scope).names.lookup x=_;rw[k3,z])
  .rcases l with ⟨lk,_⟩ |⟨_,c,U,z⟩
   .let Z:X.env.scope.names.lookup x=aw .local:=lk;rcases kX with q |q <;> (rw[q]at Z;cases Z)
   .calc{c,?_,z.keeps keep};let{c',hc'}:=ir (cells:=X.env.cells) (acc:=[]) (.inl L);let{c2,Y}:=gD (l:=(vO scope s⁻¹ X.env).cells) {c',by rw[E];exact ZK _ hc'};rcases B x c2 Y with a |⟨a,_⟩
    .rcases eW _ _ _ _ _ a with q |q
     .exact nomatch q
     .rw[dF S.uniq q]at C;cases C
    .rw[U]at a;cases a;exact Y
 .intro x c h;rcases B x c h with a |⟨a,_⟩
  .exact{_,(ok.empty x c a).1}
  .let{v,z}:=I.cell x c a;exact{v,z.keeps keep}
 .intro x c h;rcases B x c h with a |⟨a,_⟩
  .exact I.hok.fresh (Zz (YI _) (J x c a))
  .exact I.freeC x c a
 .show(f++Zp own.length aD).length=(dM g X.N++own).length;rw[Ze,Ze,Y5,ky,I.len]
end
abbrev tj(J:It)(g:TG)(T:TS)(D:Ends)(c:St)(H:Hp):Prop:=∃W:Nat->Nat->St->Hp->Prop,(∃m,W 0 m c H)/\∀i m c H,W i m c H ->
 (J.stop i H/\D.nx c H)\/(J.go i H/\∃N:St->Hp->Prop,(∀d h,N d h->∃j,j < m/\W (i+1) j d h)/\∀x h,J.yld i H x h->g x c h λf k=>T {D with nx:=N,ct:=N,bk:=D.nx} f k)
abbrev PTs(Y:Cx)(ifs:List Expr)(t:TT):Prop:=
 ∀ (p:List (Addr×Obj)) (s:Shared) (c:St) (H:Hp) (Q:Bool->Hp->Prop),Inv Y p c H s->t c H Q->wpAny (model Y.prog Y.w) Y.A (rf ifs Y.env) (TP Y p c Q) Y.xe s
abbrev GH:TT:=λ_ H Q=>Q aN H
def GI:PTs Y [] GH:=λ_ _ _ H _ I h=>by
 delta rf;rw[YY];exact Zby ⟨H,I,h⟩
def GJ(hc:PT Y c t):PTs Y [c] t:=λp s d H Q I h=>by
 delta rf;rw[Xs];simp![if_true,YY];calc Zbf (Zbf (thn (hc p s d H Q I h) λb f q=>Zby ?_));exact Zby q
abbrev PTl(Y:Cx)(E:Expr)(g:List WV)(f:Scope)(k:Pos)(j:Addr)(d:Nat)(t:TS):Prop:=
 ∀ (p:List (Addr×Obj)) (s:Shared) (q:St) (H:Hp) (D:Ends),Inv Y p q H s->t D q H ->
  match g[d+1]? with
  |none=>wpAny (model Y.prog Y.w) Y.A (eval E Y.env) (λx n=>wpAny (model Y.prog Y.w) Y.A (call (.builtin "list.append") [.ref j,x]) (λ_ o=>∃c h,Inv Y p c h o/\D.nx c h) (λ_ _=>False) n) (λ_ _=>False) s
  | some l=>l.is_async=0/\wpAny (model Y.prog Y.w) Y.A (eval l.iter Y.env) (λx n=>wpAny (model Y.prog Y.w) Y.A (Zaz l.iter Y.env x) (λX o=>wpAny (model Y.prog Y.w) Y.A (pyIter X) (λI u=>
    wpAny (model Y.prog Y.w) Y.A (runOwn (.compStart (.ListComp E g f k) (d+1) I (.ref j) Y.env) Y.env) (λ_ v=>∃c h,Inv Y p c h v/\D.nx c h) (λ_ _=>False) u) (λ_ _=>False) o) (λ_ _=>False) n) (λ_ _=>False) s
abbrev gm(ti:TT)(t:TS):TS:=λD d H=>ti d H λc h=>if c=aN then t D d h else D.nx d h
abbrev K2(c:Addr)(T:TE):TS:=λD d H=>T d H λx h=>∃xs,h c=aw (.lst xs)/\xs.length < sizeLine/\D.nx d (upd h c (.lst (xs++[x])))
section
variable {Y:Cx} {elt:Expr} {gens:List WV} {scope:Scope} {pos:Pos} {acc:Addr} {d:Nat}
def B4(g:Y.xe=λ_ _=>False)(n:gens[d+1]?=aD)(C:PE Y elt T):PTl Y elt gens scope pos acc d (K2 acc T):=by
 intro p s c H D I h;rw[n];let f:=C p s c H _ I h;rw[g]at f;calc thn f λx E ⟨v,u,o,j,xs,h1,h2,q⟩=>?_;let z:=pX p E c u (.ref acc) [v] (.ref acc) [x] (λy B=>y = .non/\D.nx c B) o rfl (.cons j .nil) ⟨acc,xs,v,rfl,rfl,h1,h2,rfl,q⟩;rw[g]at z;exact thn z λy O ⟨U,l,k,J,L,Q⟩=>⟨c,l,k,Q⟩
def mZ{A:Around}{R:Result->Shared->Prop}{prog:Program}{w:World}{s:Shared}{T I:Expr}{ifs:List Expr}{g acc:Value}{env:Env}(n:gens[d]?=aw ⟨T,I,ifs,0⟩)
  (l:codeAny (model prog w) A (.compLoop (.ListComp elt gens scope pos) d g acc env) R s)
  (h:wpAny (model prog w) A (pyIter g) (λc f=>codeAny (model prog w) A (.compLoop (.ListComp elt gens scope pos) d c acc env) R f) (notedBy (model prog w) A env λx f=>R (.error x) f) s) :
  codeAny (model prog w) A (.compStart (.ListComp elt gens scope pos) d g acc env) R s:=by
 calc codeAny_of_tree ?_;show wpAny _ _ ((compStart (.ListComp elt gens scope pos) d g acc env).onRaise (λx=>do ZaM x env;standAt theWindowsPlace)) _ _ s;calc wpAny_notedAt ?_;delta compStart;let k:(clausesOf (.ListComp elt gens scope pos))[d]?=aw ⟨T,I,ifs,0⟩:=n;simp![k,Option.elim];show wpAny _ _ (ask >>= _) _ _ s;calc Zbf (wpAny_askSetting (wpAny_ite ?_));split
 .first
   |exact Zbf (Zby (Zby (And.intro rfl l)))
   |exact Zby (And.intro rfl l)
 .first
   |exact Zbf (ZbD (Zbf (ZbI (Zbf (Zbt h (λc f j=>Zby (And.intro rfl j)) λ_ _ x=>x)))))
   |(calc Zbf (ZbD ?_);show wpAny _ _ (standAt I.pos >>= _) _ _ s;exact Zbf (ZbI (Zbf (Zbt h (λc f j=>Zby (And.intro rfl j)) λ_ _ x=>x))))
def pZ
  (hx:Y.xe=λ_ _=>False) (hc:Y.calm=aN) (hg:gens[d]?=aw ⟨tg,iter,ifs,0⟩) (T:Turn Y.prog Y.w Y.K tg J y it tn) (I2:Inv Y p σ H s) (st2:tn 0 s.heap) (f2:∀b∈y,iQ Y p H b)
  (hgt:PG Y tg g) (hts:PTs Y ifs ti) (htl:PTl Y elt gens scope pos acc d t) (hW:tj J g (gm ti t) D σ H) :
  codeAny (model Y.prog Y.w) Y.A (.compLoop (.ListComp elt gens scope pos) d (.ref it) (.ref acc) Y.env) (λr s'=>r = .ok .next/\∃c H',Inv Y p c H' s'/\D.nx c H') s:=by
 let{W,⟨m0,w0⟩,Q}:=hW;let j:∀ {H':Hp},(∀b∈y,H' b=aD)->∀b∈y,iQ Y p H' b:=λX b hb=>{X b hb,(f2 b hb).2};calc codeAny_loop rfl (λn s'=>∃i c H',Inv Y p c H' s'/\tn i s'.heap/\(∀b∈y,H' b=aD)/\W i n c H') (λn s3 hI=>?_) m0 {0,σ,H,I2,st2,λb hb=>(f2 b hb).1,w0};let{i,h,U,I3,O,C,w3}:=hI;show wpAny _ _ ((compTurn (.ListComp elt gens scope pos) d (.ref it) (.ref acc) Y.env).onRaise (λx=>do ZaM x Y.env;theTreesLotGoes x)) _ _ s3;calc wpAny_noted (Zbt (E:=λ_ _=>False) ?_ (λ_ _ q=>q) λ_ _ z=>z.elim);calc GF hg ?_;rcases Q i n h U w3 with ⟨stop,qn⟩ |⟨go,N,hN,step⟩
 .calc thn (T.done Y rfl rfl rfl hc i p s3 h U _ I3 (j C) O stop) λr s4 ⟨hr,I4⟩=>?_;subst hr;exact⟨rfl,h,U,I4,qn⟩
 .calc thn (T.item Y rfl rfl rfl hc i p s3 h U _ I3 (j C) O go) λr s4 ⟨u,hr,h4⟩=>?_;subst hr;calc thn h4 λ_ s5 ⟨x,H5,I5,r5,y5,l,fr5⟩=>?_;let I5':=I5.pinned (j fr5) (T.obj _ _ l)
  let again:∀ {f:St} {k:Hp} {B:Shared},Inv Y (p++mP y s5.heap) f k B->N f k->∃m,m < n/\∃i c H',Inv Y p c H' B/\tn i B.heap/\(∀b∈y,H' b=aD)/\W i m c H':=λ{f k B} I n7=>by
   let{m',hm,w7}:=hN f k n7;calc{m',hm,i+1,f,k,I.unpinned,T.keep _ _ _ l λb hb o e=>(I.pin (b,o) (ZK _ (ZK _ (fK hb e)))).1,λb hb=>?_,w7};let{o,e,dd}:=T.obj _ _ l b hb;exact(I.pin (b,o) (ZK _ (ZK _ (fK hb e)))).2.1
  let hG:=hgt _ s5 h H5 x u _ I5' r5 (step x H5 y5);rw[hx]at hG;calc thn hG λ_ s6 ⟨L,H6,I6,q6⟩=>?_;let hT:=hts _ s6 L H6 _ I6 q6;rw[hx]at hT;calc thn hT λok B ⟨k,I,Z⟩=>?_;cases ok with
  |false=>
   simp![ZY,if_false]at Z ⊢;exact{by trivial,again I Z}
  |true=>
   simp![if_true]at Z ⊢;let v:=htl _ B L k _ I Z;cases X:gens[d+1]? with
   |none=>
    rw[X]at v;exact thn v λx s8 h8=>thn h8 λ_ s9 ⟨σ9,H9,I9,q9⟩=>{by trivial,again I9 q9}
   |some g'=>
    rw[X]at v;let{ha,v}:=v;exact{ha,thn v λx s8 h8=>thn h8 λx' s9 h9=>thn h9 λit' s10 h10=>thn h10 λ_ s11 ⟨σ9,H9,I9,q9⟩=>{by trivial,again I9 q9}}
abbrev B5(wi:TI)(g:TG)(ti:TT)(t:TS):TS:=λD c H=>wi c H λJ h=>tj J g (gm ti t) D c h
def GK(j:gens[d+1]?=aw ⟨y,c,ifs,0⟩)
  (hi:PI Y y c wi) (l:PG Y y g) (n:PTs Y ifs ti) (k:PTl Y elt gens scope pos acc (d+1) t) (u:Y.xe=λ_ _=>False:=by rfl) (hc:Y.calm=aN:=by rfl) (hs:∀x,Zaz c Y.env x=pure x:=by intro _;rfl) :
  PTl Y elt gens scope pos acc d (B5 wi g ti t):=by
 intro p s Z H D I h;rw[j];calc⟨rfl,?_⟩;let o:=hi p s Z H _ I h;rw[u]at o;calc thn o λv s5 B=>Zbw (hs v) (thn B λE O Q=>?_);let{it,fp,tn,J,H6,e,C,T,f,X,W}:=Q;subst e;let L:=pZ (elt:=elt) (gens:=gens) (scope:=scope) (pos:=pos) (acc:=acc) u hc j T C f X l n k W;calc wpAny_runOwn (Zar (mZ j L (T.self _ 0 O _ _ f L)) λr s8 U=>?_);let{rfl,q}:=U;exact q
end
abbrev B6(own:Nat)(wi:TI)(g:TG)(T:Addr->TS):TE:=λd H Q=>wi d H λJ h=>∀c,h c=aD ->
 tj J g (T c) {nx:=λ_ f=>Q (.ref c) f,rt:=λ_ _=>False} (d++Zp own aD) (upd h c (.lst []))
section
variable {X:Cx} {elt f j:Expr} {k:List Expr} {l:List WV} {scope:Scope} {pos:Pos} {own:List Str} {n:List Nat} {w:TI} {g:TG} {ti:TT} {t:Addr->TS}
def m7{v:List (Addr×Obj)}{σ:St}{Q:VK}{itv:Value}{s2:Shared}{E:Value->Shared->Prop}(hc:X.calm=aN)(S:CmScope own n X.N scope X.env.scope)
  (hgt:∀C ex s H,PG (cxC X own n scope C ex s H) f g) (hts:∀C ex s H,PTs (cxC X own n scope C ex s H) k ti)
  (htl:∀C ex s H h,PTl (cxC X own n scope C ex s H) elt (⟨f,j,k,0⟩::l) scope pos h 0 (t h))
  (h2:PIE X v σ f (λJ H1=>∀h,H1 h=aD->tj J g (gm ti (t h)) {nx:=λ_ y=>Q (.ref h) y,rt:=λ_ _=>False} (σ++Zp own.length aD) (upd H1 h (.lst []))) itv s2)
  {RR:Value->Addr->Result->Shared->Prop} (hRR:∀h C y s',Inv X v σ y s'->iQ X v y C->(∃m,s'.heap.Ns C m)->Q (.ref h) y->RR (.ref h) C (.ok .next) s') :
  wpAny (model X.prog X.w) X.A (newList []) (λh u=>wpAny (model X.prog X.w) X.A (ZaJ scope X.env.globals (cm X.env.cells scope.names []) [] X.env.qual aD .none (aw X.env)) (λB U=>
   codeAny (model X.prog X.w) X.A (.compStart (.ListComp elt (⟨f,j,k,0⟩::l) scope pos) 0 itv h {B with scope:=relabel scope X.env}) (RR h B.locals) U) E u) E s2:=by
 let{it,I,tn,J,H2,e,I2,T,st2,f2,R}:=h2;subst e;calc Zbv ?_;let I3:Inv X v σ (upd H2 s2⁻¹ (.lst [])) {s2 with heap:=s2.heap.push {cls:=.type "list",dict:=aD,data:=.seq ([]:List Value).toArray}}:=I2.lnew (its:=[]) (t':=s2.toks) .nil (YC _);let W:=R s2⁻¹ (I2.hok.fresh (Zg _));generalize hs3:({s2 with heap:=s2.heap.push {cls:=.type "list",dict:=aD,data:=.seq ([]:List Value).toArray}}:Shared)=u at I3 ⊢;let e3:u.heap=s2.heap.push {cls:=.type "list",dict:=aD,data:=.seq ([]:List Value).toArray}:=by rw[<-hs3]
 let k3:∀b o,s2.heap.get? b=aw o->u.heap.get? b=aw o:=λb o e=>by rw[e3];exact Zc _ e
 let st3:tn 0 u.heap:=T.keep _ _ _ st2 λb _ o e=>k3 b o e;let fne:∀b∈I,b < s2⁻¹:=λb hb=>let ⟨o,e,_⟩:=T.obj _ _ st2 b hb;Zt e;let O:∀b∈I,iQ X v (upd H2 s2⁻¹ (.lst [])) b:=λb hb=>{by rw[ax (ZH (fne b hb))];exact(f2 b hb).1,(f2 b hb).2};let fo3:∀b∈I,b < u.heap.objs.size:=λb hb=>let ⟨o,e,_⟩:=T.obj _ _ st3 b hb;Zt e;calc zS ?_;let I4:=I3.compStart S O fo3;generalize hH3:upd H2 s2⁻¹ (.lst [])=H3 at I3 I4 O W
 let eE:({scope:=relabel scope X.env,locals:=u.heap.objs.size,globals:=X.env.globals,cells:=Zan (u.heap.objs.size+1) scope.names (cm X.env.cells scope.names []),qual:=X.env.qual,func:=aD,code:=X.env.code,frame:=X.env.frame,builtins:=X.env.builtins}:Env)=vO scope u.heap.objs.size X.env:=by
  delta vO;rw[GG]
 generalize hs4:({u with heap:=ZaR (u.heap.push {cls:=.type "dict",data:=.dict #[]}) scope.names}:Shared)=U at I4 ⊢;let k4:∀b o,u.heap.get? b=aw o->U.heap.get? b=aw o:=λb o e=>by rw[<-hs4];exact ZaS _ _ b o (Zc _ e)
 let st4:tn 0 U.heap:=T.keep _ _ _ st3 λb _ o e=>k4 b o e
 let f4:∀b∈I,iQ (cxC X own n scope u.heap.objs.size I u H3) [] H3 b:=λb hb=>by
  refine{(O b hb).1,ZH (fo3 b hb),I4.ok.exfs b hb,.inl hb,λx c hl=>(I4.ok.exf b hb).2 x c hl,λp hp=>absurd (show p∈([]:List (Addr×Obj)) from hp) (by simp)}
 let L:=pZ (Y:=cxC X own n scope u.heap.objs.size I u H3) (elt:=elt) (gens:=⟨f,j,k,0⟩::l) (d:=0) (scope:=scope) (pos:=pos) (acc:=s2⁻¹) rfl hc rfl T I4 st4 f4 (hgt _ _ _ _) (hts _ _ _ _) (htl _ _ _ _ _) W;let C:=mZ (elt:=elt) (gens:=⟨f,j,k,0⟩::l) (d:=0) (scope:=scope) (pos:=pos) rfl L (T.self _ 0 U _ _ st4 L);show codeAny (model X.prog X.w) X.A (.compStart (.ListComp elt (⟨f,j,k,0⟩::l) scope pos) 0 (.ref it) (.ref s2⁻¹) {scope:=relabel scope X.env,locals:=u.heap.objs.size,globals:=X.env.globals,cells:=Zan (u.heap.objs.size+1) scope.names (cm X.env.cells scope.names []),qual:=X.env.qual,func:=aD,code:=X.env.code,frame:=X.env.frame,builtins:=X.env.builtins}) (RR (.ref s2⁻¹) u.heap.objs.size) U;rw[eE];calc Zar C λr s' hr=>?_;let{rfl,σ',y,Z,q}:=hr;let{mC,nC,_}:=id Z.loc;let freeC:y u.heap.objs.size=aD:=Z.free;calc hRR _ _ y s' ?_ (I3.fpOk (Zg _) freeC) ⟨mC,nC⟩ q;exact I3.call' (ch:=I) Z.os Z.base Z.hok Z.bare λb hb=>{(O b hb).2.2.2.1,(O b hb).2.1,(O b hb).2.2.2.2.1,(O b hb).2.2.2.2.2}
def GL(hc:X.calm=aN)(S:CmScope own n X.N scope X.env.scope)(hi:PI X f j w)
  (J:∀C ex s H,PG (cxC X own n scope C ex s H) f g) (L:∀C ex s H,PTs (cxC X own n scope C ex s H) k ti)
  (E:∀C ex s H c,PTl (cxC X own n scope C ex s H) elt (⟨f,j,k,0⟩::l) scope pos c 0 (t c))
  (n:∀x,Zaz j X.env x=pure x:=by intro _;rfl) :
  PE X (.ListComp elt (⟨f,j,k,0⟩::l) scope pos) (B6 own.length w g λc=>gm ti (t c)):=by
 intro p s O H Q I h;rw[eval_ListComp];calc Zbh (use:=aD) (cl:=cm X.env.cells scope.names []) rfl n (ye λy B u=>I.ok.has y.1 (S.fr y B u)) S.kind (λy B u=>dF S.uniq (by rw[<-u];exact B)) ?_;calc thn (hi p s O H _ I h) λv s1 h1=>thn h1 λT s2 h2=>?_;calc m7 hc S J L E h2 (RR:=λc C=>compPost (model X.prog X.w) X.A X.xe aD (EP X p O Q) c C) λc C Z s' I' d Y q=>?_;let{m,nm}:=Y;calc{m,nm,λh' U=>{.ref c,Z,?_,rfl,q}};exact I'.turned (t':=s'.toks) (λb o hb e=>(U.2 b hb).trans e) d.1 d.2.1 d.2.2.2.1 d.2.2.2.2.1 d.2.2.2.2.2
def GM{i:Nat}(hc:X.calm=aN)(S:CmScope own n X.N scope X.env.scope)(hN:X.N.Nodup)(hix:X.N[i]?=aw x)(hx:X.env.scope.names.lookup x=aw .local)(hi:PI X f j w)
  (Z:∀C ex s H,PG (cxC X own n scope C ex s H) f g) (hts:∀C ex s H,PTs (cxC X own n scope C ex s H) k ti)
  (Y:∀C ex s H c,PTl (cxC X own n scope C ex s H) elt (⟨f,j,k,0⟩::l) scope pos c 0 (t c))
  (O:Za5 (.ListComp elt (⟨f,j,k,0⟩::l) scope pos) (aw (.Name x p)) B.line X.env=pure aN:=by rfl)
  (n:∀x,Zaz j X.env x=pure x:=by intro _;rfl) :
  PS X (.Assign [.Name x p] (.ListComp elt (⟨f,j,k,0⟩::l) scope pos) B) (BH (B6 own.length w g λc=>gm ti (t c)) (pM i)):=by
 intro d s σ H D I h;rw[exec_Assign_Name_used _ _ _ _ O];calc Zbf (ZbI (Zbf ?_));show wpAny _ X.A (do let _ <-comprehension (.ListComp elt (⟨f,j,k,0⟩::l) scope pos) scope X.env _ (newList []) aS (eval j X.env) (aw (assign (.Name x p) X.env))) _ _ s
 refine Zbf (Zbt (Zbh (use:=aw (assign (.Name x p) X.env)) (Q:=λ_ E=>SP X d D .next E) (cl:=cm X.env.cells scope.names []) rfl n (ye λy T J=>I.ok.has y.1 (S.fr y T J)) S.kind (λy T J=>dF S.uniq (by rw[<-J];exact T))
  ?_) (λ_ E hq=>Zby (Zby hq)) λ_ _ e=>e)
 calc thn (hi d s σ H _ I h) λv s1 h1=>thn h1 λitv s2 h2=>?_;calc m7 (Q:=λy H'=>pM i y σ H' D.nx) hc S Z hts Y h2 (RR:=λc C=>compPost (model X.prog X.w) X.A X.xe (aw (assign (.Name x p) X.env)) (λ_ E=>SP X d D .next E) c C) λc C H' E I' u m' q=>?_;let{m,nm}:=m';show wpAny _ X.A (assign (.Name x p) X.env (.ref c)) _ _ _;calc wpAny_assign_Name (pL (v:=.ref c) I' hN hix (.inl hx) rfl (λU I'' hch=>?_) (.inr hx));let{a,L,ha}:=hch
 let ne:C≠a:=by
  rcases ha with e |e
  .rw[e];exact u.2.1
  .exactλz=>u.2.2.2.2.1 x a e z.symm
 calc{m,nm.sameBut L ne,λh' sb=>{_,H',?_,q}};exact I''.turned (t':=U.toks) (λb o hb e=>(sb.2 b hb).trans e) u.1 u.2.1 u.2.2.2.1 u.2.2.2.2.1 u.2.2.2.2.2
end
end L2
namespace HT
open PySem PyProof.Rows
section
variable {prog:Program} {w:World} {A:Around} {E:Value->Shared->Prop} {s:Shared}
def B7{t b:Addr}{l:List Value}{Q:Value->Shared->Prop}(u:IsTup s.heap t ([]:List Value).toArray)(hb:IsTup s.heap b l.toArray)(h:Q (.ref b) s):wpAny (model prog w) A (Zag .Add (.ref t) (.ref b)) Q E s:=by
 let{⟨cls,v,p,sl⟩,k,o,n,hd}:=id u;let{⟨C,j,data2,g⟩,d,c,q,f}:=id hb;simp! at o hd c f;subst o hd c f
 exact Zat ⟨_,k,rfl⟩ ⟨_,d,rfl⟩ ZaK ZaZ VB W3 (WY _ _)
   (tuple_addW0 t b _ l.toArray n q v j sl g (by simp)) ⟨k,d,h⟩
def iR{t sl:Addr}{I:Array Value}{v k:Value}{lo hi:Option Int}{Q:Value->Shared->Prop}(c:IsTup s.heap t I)(hs:s.heap.IsSliceOf sl v k .none)(pl:IsPart v lo)(p:IsPart k hi)
  (hw:sIx I.size 0 lo=0/\sIx I.size I.size hi=I.size) (h:Q (.ref t) s):wpAny (model prog w) A (getItem (.ref t) (.ref sl)) Q E s:=by
 let{os,f,g,l}:=id hs;let j:s.TypeIs (.ref sl) "slice" := ⟨os,f,g⟩;let{o,q,u,n,hd}:=id c;delta getItem
 try with_reducible refine Zbn ?_
 first |refine Zbf (Zby ?_) |skip
 refine Zbf (ZbF c.typeIs (by decide) ?_)
 refine Zbf (wpAny_callSpecial?_slot (name:=Str.ofString "__getitem__") c.typeIs WQ
  (Zbg WQ c.typeIs entry_tuple_getitem ?_ (args_tuple_getitem _ _)))
 show wpAny _ _ (Builtin.Tuple.tupleItemsOf (.ref t) >>= _) _ _ s;calc Zbf (tupleItemsOf_ c ?_);calc Zbf (ZbL j ?_);rw[if_pos (by decide)];refine Zbf (fq hs pl p ?_)
 let d:((((sIx I.size 0 lo:Nat):Int) == 0 && (1:Int) == 1 && (sIx I.size I.size hi - sIx I.size 0 lo) == I.size)=aN):=by
  rw[hw.1,hw.2];simp
 show wpAny _ _ (if (((sIx I.size 0 lo:Nat):Int) == 0 && (1:Int) == 1 && (sIx I.size I.size hi - sIx I.size 0 lo) == I.size)=aN then _ else _) _ _ s;rw[if_pos d];let hT:s.TypeIs (.ref t) "tuple" := c.typeIs
 first
  | (refine Zbf (m:=Builtin.Tuple.tupleIsExact _) ?_
     delta Builtin.Tuple.tupleIsExact;calc Zbf (ZbL hT (Zby ?_));rw[if_pos (by decide)];exact Zbf (ZbD (Zby {_,rfl,Zby h})))
end
end HT
namespace L2
open PySem PySem.Spec PyProof.Rows
def B8{s:Shared}{h':Heap}{o:Obj}(h:∀b x,b∉[s⁻¹]->(s.heap.push o).get? b=aw x->h'.get? b=aw x):∀b x,s.heap.get? b=aw x->h'.get? b=aw x:=
 λb x e=>h b x (λc=>by rw[Zy.mp c]at e;exact ZO _ (Zt e)) (Zc _ e)
section
variable {X:Cx}
abbrev RI(K:V5):R2:=λx y H Q=>∃a b xs Y,x = .ref a/\y = .ref b/\SqT K H a xs/\SqT K H b Y/\xs.length+Y.length<=sizeLine ∧
 (xs=[]->Q (.ref b) H)/\(xs≠[]->Y=[]->Q (.ref a) H)/\(xs≠[]->Y≠[]->∀p,H p=aD->Q (.ref p) (upd H p (.tup (xs++Y))))
def GN:OpR X (Zag .Add) (RI X.K):=by
 intro p s E H x y v u Q I f j h;let{a,b,xs,Y,rfl,rfl,g,hb,n,q,k,C}:=h;by_cases c:xs=[]
 .subst c;cases f;cases j;let{o,r1,B,_}:=I.tuple g;let{d,r2,l,_}:=I.tuple hb;cases r1;exact HT.B7 B l {.ref b,H,I,rfl,q rfl}
 .exact Gz p s E H _ _ v u Q I f j {a,b,xs,Y,rfl,rfl,g,hb,c,n,k c,C c}
abbrev UV(K:V5):V->Option Int->Option Int->Hp->VK->Prop:=λx lo h H Q=>∃a xs,x = .ref a/\SqT K H a xs ∧
 ((HT.sIx xs.length 0 lo=0/\HT.sIx xs.length xs.length h=xs.length)->Q (.ref a) H) ∧
 (¬ (HT.sIx xs.length 0 lo=0/\HT.sIx xs.length xs.length h=xs.length)->∀p,H p=aD->Q (.ref p) (upd H p (.tup (mY xs lo h))))
def GO:SlR X (UV X.K):=by
 intro p s B H x v u o lo j sl Q I g hs pl k h;let{a,xs,rfl,n,q,y}:=h;by_cases d:(HT.sIx xs.length 0 lo=0/\HT.sIx xs.length xs.length j=xs.length)
 .cases g;let{f,r,l,C}:=I.tuple n;let c:f.toArray.size=xs.length:=by rw[Zk];exact r.length.symm
  calc{"tuple",_,PyProof.Rows.slot_tuple_getitem.lookup,l.typeIs,?_};exact HT.iR l hs pl k (by rw[c];exact d) {.ref a,H,I,rfl,q d}
 .exact My p s B H _ v u o lo j sl Q I g hs pl k {a,xs,rfl,n,d,y d}
def tw:aZ X (.builtin "isinstance") (λxs H Q=>∃x n t b,xs=[x,.ty n]/\TyOf X.K H x t/\On X.K t (.type n)=aw b/\Q (.bl b) H):=by
 intro p s g H xs U Q I r h;let{x,n,t,b,rfl,ty,e,q}:=h;let{u,f,rfl,c,d}:=xX r;cases d;exact zN I c ty e λT=>{.bl b,H,I.tok T,rfl,q}
def m9:∀ {bs:List Bool} {u:List Value},aP (bs.map V.bl) u->u=bs.map Value.bool
 |[],_,.nil=>rfl
 |_::_,_,.cons r t=>by rw[Zw,m9 t];cases r;rfl
def zT(hc:X.calm=aN):aZ X (.builtin "all") (λxs H Q=>∃ (l:Addr) (bs:List Bool),xs=[.ref l]/\SqL X.K H l (bs.map V.bl)/\Q (.bl (bs.all id)) H):=by
 intro k s Z H xs U Q I r h;let{l,bs,rfl,y,q}:=h;let{u,rfl,C}:=cF r;cases C;let{B,E,p,O}:=I.list y;let e:=m9 E;subst e;let g:=p.isList;let f:l < s⁻¹:=by let{_,e,_}:=g;exact Zt e
 refine call_all_walk (Zbz g ?_)
 refine⟨s⁻¹,[s⁻¹,l],[s⁻¹],_,_,_,λi=>(bs[i]?).getD aN,rfl,Walks.list (A:=X.A.in1) (I.ok.hd hc) _ l (ZH f) _,
  {{_,Zu _ rfl,rfl,rfl},g.push _},λi v s' Y E' o j=>?_,λL T n=>?_⟩
 .let c:(bs.map Value.bool)[i]?=aw v:=by simpa using o
  rw[Zo]at c;cases hb:bs[i]? with
  |none=>rw[hb]at c;cases c
  |some b=>
   rw[hb]at c;let J:Value.bool b=v:=θ c;subst J;simp![hb,Yd]at j;exact ZbJ j
 .let e:((Zm (bs.map Value.bool).toArray.size).all λi=>(bs[i]?).getD aN)=bs.all id:=by
   rw[Zk,Za,Yo];simp![ZM,ZZ,id];constructor
   .intro h b hb;let{i,d,rfl}:=List.mem_iff_getElem.mp hb;let:=h i d
    rwa[gEG d,Yd]at this
   .intro h i d;rw[gEG d,Yd];exact h _ (ZS d)
  rw[e];exact{.bl (bs.all id),H,I.kept (t':=T) (B8 n),rfl,q}
def MG:OpR X (Zas .Is) (λx y H Q=>∃b c,x = .bl b/\y = .bl c/\Q (.bl (b == c)) H):=by
 intro p s g H x y v u Q I d f h;let{b,c,rfl,rfl,q}:=h;cases d;cases f;exact is_bool {.bl _,H,I,rfl,q}
def zU:OpR X (Zas .IsNot) (λx y H Q=>∃b c,x = .bl b/\y = .bl c/\Q (.bl (b != c)) H):=by
 intro p s g H x y v u Q I d f h;let{b,c,rfl,rfl,q}:=h;cases d;cases f;exact isnot_bool {.bl _,H,I,rfl,q}
def nc(hc:X.calm=aN):∀ {p:List (Addr×Obj)} {s:Shared} {J:St} {H:Hp} {Q:VK} {r:Addr} {n:Nat} {t u v:Tok},Inv X p J H s->IsRange s.heap r 0 n 1 t u v->n<=1000->(∀l,H l=aD->Q (.ref l) (upd H l (.lst ((Zm n).map λ(i:Nat)=>V.int i)))) ->
  wpAny (model X.prog X.w) X.A (call (.type "list") [.ref r]) (EP X p J Q) X.xe s:=by
 intro p s J H Q r n t u v I hr Z q;let C:Builtin.Range.small 0 n 1=aN:=small_one (by lia) (by lia) (by lia) (by lia);refine call_list_range (n:=n) (I.ok.hd hc) hr C (by rw[ZaT];split <;> lia) (by lia) λh' T c Y L B h=>?_;calc{.ref s⁻¹,_,I.laid (t':=T) (o:=.lst ((Zm n).map λ(i:Nat)=>V.int i)) L (Zg _) ?_,rfl,q _ (I.hok.fresh (Zg _))};let E:c.size=n:=h.1;refine{by rw[Za,ZI];exact YX (zR Z),c.toList,Y,?_,by simpa using B}
 let go:∀ (m:Nat) (k:Nat) (l:List Value),l.length=m->(∀j x,l[j]?=aw x->∃T,x=Value.int (((k+j:Nat):Nat):Int) T)->aP ((List.range' k m).map λ(i:Nat)=>V.int i) l:=by
  intro m
  induction m with
  |zero=>intro k l d _;cases l with |nil=>exact .nil |cons _ _=>cases d
  |succ m U=>
   intro k l d f;cases l with
   |nil=>cases d
   |cons x l=>
    rw[List.range'_succ,Zw];let{t,e}:=f 0 x rfl;calc .cons {t,by simpa using e} (U (k+1) l (by simpa using d) λj y O=>?_);let{t',e'}:=f (j+1) y (by simpa using O);exact{t',by rw[e',show((k+(j+1):Nat):Int)=((k+1+j:Nat):Int) from by lia]}
 rw[List.range_eq_range'];calc go n 0 c.toList (by simpa using E) λj x f=>?_;let{g,e}:=h.2 j x (by simpa using f);exact{g,by rw[e,show(0:Int)+(j:Nat) * 1=((0+j:Nat):Int) from by lia]}
end
section
variable {a:Type} [DecidableEq a]
abbrev kz(kvs:List (a×V))(k:a):Option V:=(kvs.find? λc=>decide (c.1=k)).map (·.2)
abbrev jb(kvs:List (a×V))(k:a)(v:V):List (a×V):=
 if (kvs.any λc=>decide (c.1=k))=aN then kvs.map (λc=>if c.1=k then (c.1,v) else c) else kvs++[(k,v)]
def jI{p:a×V}{r:List (a×V)}{k:a}(e:p.1=k):kz (p::r) k=aw p.2:=by simp[kz,YJ,e]
def gH{p:a×V}{r:List (a×V)}{k:a}(e:¬ p.1=k):kz (p::r) k=kz r k:=by simp[kz,YJ,e]
def ng(k:a):∀kvs:List (a×V),(kvs.any λc=>decide (c.1=k))=(kz kvs k).isSome
 |[]=>rfl
 |p::r=>by
  rw[Yx];by_cases e:p.1=k
  .simp![jI e,decide_eq_true e,Bool.true_or,XX]
  .rw[gH e,decide_eq_false e,Ws];exact ng k r
def gI(kvs:List (a×V))(k:a)(v:V):(jb kvs k v).length<=kvs.length+1:=by
 delta jb;split
 .rw[Za];omega
 .rw[Ze,Zr,Z3];omega
def vC.isSome_eq(r:vC o u):o.isSome=u.isSome:=by
 cases o with
 |none=>cases u with
  |none=>rfl
  |some _=>exact(show False from r).elim
 |some _=>cases u with
  |none=>exact(show False from r).elim
  |some _=>rfl
def KV.val{kvs:List (a×V)}{v:List (a×Value)}(r:KV kvs v)(k:a):vC (kz kvs k) (valueAt v k):=by
 delta KV at r
 induction r with
 |nil=>exact True.intro
 |@cons p q ps qs h t ih=>
  let{h1,h2}:=h;by_cases e:p.1=k
  .let E:q.1=k:=h1.symm.trans e;let b:valueAt (q::qs) k=aw q.2:=by simp[valueAt,YJ,E]
   rw[jI e,b];exact h2
  .let E:¬ q.1=k:=λz=>e (h1.trans z);let b:valueAt (q::qs) k=valueAt qs k:=by simp[valueAt,YJ,E]
   rw[gH e,b];exact ih
def KV.any{kvs:List (a×V)}{v:List (a×Value)}(r:KV kvs v)(k:a):(kvs.any λc=>decide (c.1=k))=v.any λc=>decide (c.1=k):=by
 delta KV at r
 induction r with
 |nil=>rfl
 |cons h t I=>rw[Yx,Yx,I,h.1]
def KV.repl(r:KV kvs v)(k:a)(d:aI y u) :
  KV (kvs.map λc=>if c.1=k then (c.1,y) else c) (v.map λc=>if c.1=k then (c.1,u) else c):=by
 delta KV at r ⊢
 induction r with
 |nil=>exact .nil
 |@cons p q ps qs h t ih=>
  rw[Zw,Zw];calc .cons ?_ ih;let{h1,h2}:=h;by_cases e:p.1=k
  .rw[if_pos e,if_pos (h1.symm.trans e)];exact⟨h1,d⟩
  .rw[if_neg e,if_neg (λz=>e (h1.trans z))];exact⟨h1,h2⟩
def KV.put(r:KV kvs v)(k:a)(c:aI y u):KV (jb kvs k y) (stored v k u):=by
 delta jb stored;rw[r.any k];by_cases e:(v.any λd=>decide (d.1=k))=aN
 .rw[if_pos e,if_pos e];exact r.repl k c
 .rw[if_neg e,if_neg e];exact Paired.snoc r ⟨rfl,c⟩
def KV.length(r:KV kvs v):kvs.length=v.length:=Paired.length r
end
def nh(r:aI (kV k) u):(aV P w).is k u=aN:=by
 cases k with
 |inl i=>let{t,e}:=(show ∃t,u=Value.int i t from r);subst e;exact sQ P w i t
 |inr x=>let{t,e}:=(show ∃t,u=Value.str x t from r);subst e;exact sR P w x t
def p0:∀ {c:List Key} {u:List Value},aP (c.map kV) u->ItemsAre (aV P w) c u
 |[],_,r=>by rw[Yh]at r;cases r;exact .nil
 |k::c,_,r=>by
  rw[Zw]at r;cases r with
  |cons h t=>exact .cons (nh h) (p0 t)
@[inline]abbrev KT(H:Hp):List (List NK×V)->List (List NK×Addr×Value)->Prop:=Paired λp q=>p.1=q.1/\qP H p.1 q.2.1/\aI p.2 q.2.2
def KT.val{H:Hp}{kvs:List (List NK×V)}{xs:List (List NK×Addr×Value)}(r:KT H kvs xs)(k:List NK):vC (kz kvs k) ((atKey xs k).map (·.2)):=by
 induction r with
 |nil=>exact True.intro
 |@cons p q ps qs h t ih=>
  let{h1,_,h2}:=h;by_cases e:p.1=k
  .let E:q.1=k:=h1.symm.trans e;let b:atKey (q::qs) k=aw q.2:=by simp[atKey,YJ,E]
   rw[jI e,b];exact h2
  .let E:¬ q.1=k:=λz=>e (h1.trans z);let b:atKey (q::qs) k=atKey qs k:=by simp[atKey,YJ,E]
   rw[gH e,b];exact ih
def KT.repl(r:KT H kvs xs)(k:List NK)(f:aI y u) :
  KT H (kvs.map λc=>if c.1=k then (c.1,y) else c) (xs.map (putAt k u)):=by
 induction r with
 |nil=>exact .nil
 |@cons p q ps qs h t ih=>
  rw[Zw,Zw];calc .cons ?_ ih;let{h1,h2,d}:=h;delta putAt;by_cases e:p.1=k
  .rw[if_pos e,if_pos (h1.symm.trans e)];exact⟨h1,h2,f⟩
  .rw[if_neg e,if_neg (λz=>e (h1.trans z))];exact⟨h1,h2,d⟩
def KT.put(r:KT H kvs xs)(k:List NK)(hb:qP H k b)(c:aI y u) :
  KT H (jb kvs k y) (storedH xs k b u):=by
 let e:(kvs.any λd=>decide (d.1=k))=(atKey xs k).isSome:=by
  rw[ng,(r.val k).isSome_eq,YL]
 delta jb storedH;rw[e];by_cases q:(atKey xs k).isSome=aN
 .rw[if_pos q,if_pos q];exact r.repl k c
 .rw[if_neg q,if_neg q];exact Paired.snoc r ⟨rfl,hb,c⟩
def KT.keeps(r:KT H kvs xs)(h:∀b y,H b=aw (.tup y)->c b=aw (.tup y)):KT c kvs xs:=
 Paired.mapP r λ_ _ z=>{z.1,z.2.1.mono h,z.2.2}
section
variable {P:Program} {w:World} {H:Hp} {h:Heap} {a:Addr}
def K3(ok:HOk P w H h)(e:Rd H a u):bp P w H h a u:=e.ok ok
def tz(ok:HOk P w H h)(e:Rd H a (.dK kvs)):kvs.length<=sizeLine/\(a == Za7)=aS/\∃vs,KV kvs vs/\h.DictOf (aV P w) a vs:=
 show bp P w H h a (.dK kvs) from K3 ok e
def K4(ok:HOk P w H h)(e:H a=aw (.dK kvs)):kvs.length<=sizeLine/\(a == Za7)=aS/\∃vs,KV kvs vs/\h.DictOf (aV P w) a vs:=tz ok (.inl e)
def B9(ok:HOk P w H h)(e:H a=aw (.tup (k.map kV))):IsTupleKey (aV P w) h k a:=by
 let{_,I,r,o,h1,h2,n,c,_}:=(show bp P w H h a (.tup (k.map kV)) from ok a _ e);exact{o,I.toArray,n,h1,h2,c,by simpa using p0 r}
def fL{c:List NK}(ok:HOk P w H h)(e:qP H c a):(gB P w).is h c a:=by
 let{xs,E,j}:=e;let{_,I,r,o,h1,h2,n,g,_}:=(show bp P w H h a (.tup xs) from ok a _ E);refine{o,I.toArray,n,h1,h2,g,?_}
 let all:∀ {c:List NK} {xs:List V} {us:List Value},Paired (zE H) c xs->aP xs us->Paired (NIs P w h) c us:=by
  intro c xs us p
  induction p generalizing us with
  |nil=>intro q;cases q;exact .nil
  |@cons k x c xs hk _ ih=>
   intro q;cases q with
   |cons Q d=>
    calc .cons ?_ (ih d);cases k with
    |non=>cases hk;exact Q
    |one k=>cases hk;exact nh (P:=P) (w:=w) Q
    |tup f=>let{b,rfl,hb}:=hk;cases Q;exact{b,rfl,B9 ok hb}
 simpa using all j r
def tD(ok:HOk P w H h)(e:Rd H a (.dT kvs)):kvs.length<=sizeLine/\(a == Za7)=aS ∧
  ∃xs,KT H kvs xs/\h.DictOfH (gB P w) a xs:=by
 let{z,y,xs,r,o,d,E,h1,h2,f,h4,c}:=(show bp P w H h a (.dT kvs) from K3 ok e);refine{z,y,xs,r,o,d,E,h1,h2,f,h4,λx hx=>?_,c}
 let all:∀ {l:List (List NK×V)} {m:List (List NK×Addr×Value)},KT H l m->∀x∈m,(gB P w).is h x.1 x.2.1:=by
  intro l m q
  induction q with
  |nil=>intro x hx;exact nomatch hx
  |@cons p q ps qs hq t ih=>
   intro x hx;rcases Zn.mp hx with e |hx
   .subst e;exact fL ok (by rw[<-hq.1];exact hq.2.1)
   .exact ih x hx
 exact all r x hx
def RJ(ok:HOk P w H h)(e:H a=aw (.dT kvs)):kvs.length<=sizeLine/\(a == Za7)=aS ∧
  ∃xs,KT H kvs xs/\h.DictOfH (gB P w) a xs:=tD ok (.inl e)
end
abbrev Ca(H:Hp)(a:Addr)(y:V)(r:Option V):Prop:=
 (∃c k,Rd H a (.dK c)/\y=kV k/\r=kz c k)\/∃c k b,Rd H a (.dT c)/\y = .ref b/\qP H k b/\r=kz c k
abbrev RK(H:Hp)(a:Addr)(y v:V)(h:Hp):Prop:=
 (∃c k,H a=aw (.dK c)/\y=kV k/\c.length < sizeLine/\h=upd H a (.dK (jb c k v))) ∨
 ∃c k b,H a=aw (.dT c)/\y = .ref b/\qP H k b/\c.length < sizeLine/\h=upd H a (.dT (jb c k v))
section
variable {X:Cx} {d:List (Addr×Obj)} {f:St} {H:Hp} {s:Shared} {a:Addr} {y v:V} {u r:Value} {o:Option V} {A:Around} {E:Value->Shared->Prop}
def Inv.big(I:Inv X d f H s):Za7 < s⁻¹:=by
 let h:ZaH < s⁻¹:=(I.mod.glob.keeps I.bk).lt;exact WA (by decide) h
def zV(Y:A.units+2 < cLine)(I:Inv X d f H s)(g:Ca H a y (aw v))(L:aI y u)(h:∀j O,Inv X d f H O->aI v j->Q j O) :
  wpAny (model X.prog X.w) A (getItem (.ref a) u) Q E s:=by
 rcases g with ⟨J,k,e,C,l⟩ |⟨J,k,b,e,C,T,l⟩
 .subst C;let{z,hd,Z,rel,B}:=tz I.hok e;let{j,q,c}:=vC.some_of (v:=v) (o:=valueAt Z k) (by rw[l];exact rel.val k);exact wpAny_getItem_of (nh L) B.mapOf q (h j _ (I.tok _) c)
 .subst C;cases (show u=Value.ref b from L);let{z,hd,xs,rel,B}:=tD I.hok e;let{j,q,c}:=vC.some_of (v:=v) (o:=(atKey xs k).map (·.2)) (by rw[l];exact rel.val k);let{p,U,n}:=ZP.mp q;calc wpAny_getItem_heap (show _+1 < _ from Y) (fL I.hok T) B U ?_;rw[n];exact h j _ (I.tok _) c
def UW(J:A.units+2 < cLine)(I:Inv X d f H s)(g:Ca H a y o)(p:aI y u)(h:∀B,Inv X d f H B->Q (.bool o.isSome) B) :
  wpAny (model X.prog X.w) A (Zas .In u (.ref a)) Q E s:=by
 rcases g with ⟨c,k,e,j,l⟩ |⟨c,k,b,e,j,C,l⟩
 .subst j;let{z,hd,L,rel,n}:=tz I.hok e;calc wpAny_in_of (nh p) hd n.mapOf ?_;rw[<-(rel.val k).isSome_eq,<-l];exact h _ (I.tok _)
 .subst j;cases (show u=Value.ref b from p);let{z,hd,xs,rel,n}:=tD I.hok e;calc wpAny_in_heap (show _+1 < _ from J) (fL I.hok C) hd n ?_;let q:=(rel.val k).isSome_eq;rw[YL]at q;rw[<-q,<-l];exact h _ (I.tok _)
def GP(J:A.units+2 < cLine)(I:Inv X d f H s)(g:Ca H a y o)(p:aI y u)(h:∀B,Inv X d f H B->Q (.bool (!o.isSome)) B) :
  wpAny (model X.prog X.w) A (Zas .NotIn u (.ref a)) Q E s:=by
 rcases g with ⟨c,k,e,j,l⟩ |⟨c,k,b,e,j,C,l⟩
 .subst j;let{z,hd,L,rel,n}:=tz I.hok e;calc wpAny_notIn_of (nh p) hd n.mapOf ?_;rw[<-(rel.val k).isSome_eq,<-l];exact h _ (I.tok _)
 .subst j;cases (show u=Value.ref b from p);let{z,hd,xs,rel,n}:=tD I.hok e;calc wpAny_notIn_heap (show _+1 < _ from J) (fL I.hok C) hd n ?_;let q:=(rel.val k).isSome_eq;rw[YL]at q;rw[<-q,<-l];exact h _ (I.tok _)
def rh{t':Nat}(I:Inv X d f H s)(mu:Mut (H a))(hs:Heap.SameBut a s.heap h')(h:∃q,h'.get? a=aw q)(new:bp X.prog X.w (upd H a ob) h' a ob) :
  Inv X d f (upd H a ob) {s with heap:=h',toks:=t'}:=
 I.write (x:=a) (e:=a) mu (.inl rfl) (λb q hb z=>(hs.2 b hb).trans z) h new
def Cb(z:kvs.length<=sizeLine)(hd:(a == Za7)=aS)(rel:KV kvs c)(g:h'.DictOf (aV P w) a c) :
  bp P w h h' a (.dK kvs):=⟨z,hd,c,rel,g⟩
def zW(hu:A.units+2 < cLine)(I:Inv X d f H s)(g:RK H a y v H')(Y:aI y u)(Z:aI v r)(h:∀s',Inv X d f H' s'->Q () s') :
  wpAny (model X.prog X.w) A (setItem (.ref a) u r) Q E s:=by
 rcases g with ⟨j,k,e,O,l,J⟩ |⟨j,k,b,e,O,eb,l,J⟩
 .subst O J;let{z,hd,vs,rel,L}:=K4 I.hok e;let C:vs.length<=sizeLine:=by rw[<-rel.length];exact z
  let B:(jb j k v).length<=sizeLine:=by let:=gI j k v;omega
  calc wpAny_setItem_pairs (hsz:=C) (nh Y) L λT n hs=>h _ ?_;let he:∃q,T.get? a=aw q:=let ⟨q,_,_,p,_⟩:=n;⟨q,p⟩;exact rh I (by rw[e];exact True.intro) hs he (Cb B hd (rel.put k Z) n)
 .subst O J;cases (show u=Value.ref b from Y);let{z,hd,xs,rel,L}:=RJ I.hok e;let C:xs.length<=sizeLine:=by rw[<-Paired.length rel];exact z
  let B:(jb j k v).length<=sizeLine:=by let:=gI j k v;omega
  calc wpAny_setItem_heap (hsz:=C) (show _+1 < _ from hu) (fL I.hok eb) L λT n hs=>h _ ?_;let{q,es,ep,p,h2,h3,h4,_,h5}:=n;calc rh I (by rw[e];exact True.intro) hs ⟨q,p⟩ {B,hd,_,(rel.put k eb Z).keeps λc ys U=>?_,q,es,ep,p,h2,h3,h4,h5};rw[ax (mM U e (λz=>nomatch z))];exact U
end
def tF(I:Inv X p f H s)(g:Ca H a y o):s.TypeIs (.ref a) "dict" := by
 rcases g with ⟨c,k,e,_,_⟩ |⟨c,k,b,e,_,_,_⟩
 .let{_,_,v,_,d}:=tz I.hok e;exact d.typeIs
 .let{_,_,xs,_,d}:=tD I.hok e;exact d.typeIs
def tG(h:Heap)(hb:Za7 < h.objs.size):bp P w H (h.push {cls:=.type "dict",data:=.dict #[]}) h.objs.size (.dK []):=
 {YC _,beq_eq_false_iff_ne.mpr (Ne.symm (ZH hb)),[],.nil,Heap.DictOf.new h}
def Cc(h:Heap)(hb:Za7 < h.objs.size):bp P w H (h.push {cls:=.type "dict",data:=.dict #[]}) h.objs.size (.dT []):=
 {YC _,beq_eq_false_iff_ne.mpr (Ne.symm (ZH hb)),[],.nil,_,#[],0,Zu _ rfl,⟨rfl,rfl,rfl⟩,rfl,rfl,YZ}
abbrev Cd:TE:=λ_ H Q=>∀p,H p=aD->Q (.ref p) (upd H p (.dK []))
abbrev Ce:TE:=λ_ H Q=>∀p,H p=aD->Q (.ref p) (upd H p (.dT []))
section
variable {X:Cx} {pos:Pos}
def Cf:PE X (.Dict [] [] pos) Cd:=λp s c H Q I h=>
 wpAny_Dict_empty {.ref s⁻¹,_,I.laid (a:=s⁻¹) (o:=.dK []) (t':=s.toks) (λ_ _ q=>Zc _ q) (Zg _) (tG s.heap I.big),rfl,h _ (I.hok.fresh (Zg _))}
def Cg:PE X (.Dict [] [] pos) Ce:=λp s c H Q I h=>
 wpAny_Dict_empty {.ref s⁻¹,_,I.laid (a:=s⁻¹) (o:=.dT []) (t':=s.toks) (λ_ _ q=>Zc _ q) (Zg _) (Cc s.heap I.big),rfl,h _ (I.hok.fresh (Zg _))}
end
abbrev vP:List (TE×TE)->St->Hp->(List (V×V)->Hp->Prop)->Prop
 |[],_,H,Q=>Q [] H
 |(tk,tv)::r,σ,H,Q=>tk σ H λx d=>tv σ d λy c=>vP r σ c λps h=>Q ((x,y)::ps) h
@[inline]abbrev VV:List (V×V)->List (Value×Value)->Prop:=Paired λp q=>aI p.1 q.1/\aI p.2 q.2
abbrev PPs(X:Cx)(c:Pos)(k:List (Option Expr))(v:List Expr)(T:List (TE×TE)):Prop:=
 ∀ (p:List (Addr×Obj)) (s:Shared) (d:St) (H:Hp) (Q:List (V×V)->Hp->Prop),Inv X p d H s->vP T d H Q ->
  wpAny (model X.prog X.w) X.A (evalPairs (pairTrees k v X.env c)) (λf g=>∃ps h,Inv X p d h g/\VV ps f/\Q ps h) X.xe s
def GQ:PPs X c [] [] []:=λp s d H Q I h=>pairTrees_nil_walk ⟨[],H,I,.nil,h⟩
def Ch(f:PE X k o)(J:PE X v B)(U:PPs X c O g T) :
  PPs X c (aw k::O) (v::g) ((o,B)::T):=λp s d H Q I h=>
 pairTrees_cons_walk (thn (f p s d H _ I h) λu s1 ⟨x,H1,E,l,q⟩=>thn (J p s1 d H1 _ E q) λw2 Z ⟨y,Y,L,C,q2⟩=>
  thn (U p Z d Y _ L q2) λws s3 ⟨ps,n,I3,rel,j⟩=>{(x,y)::ps,n,I3,.cons ⟨l,C⟩ rel,j})
abbrev ni(kvs more:List (Key×V)):List (Key×V):=more.foldl (λc k=>jb c k.1 k.2) kvs
def KV.merge:∀ {more:List (Key×V)} {c:List (Key×Value)} {kvs:List (Key×V)} {v:List (Key×Value)},KV more c->KV kvs v->KV (ni kvs more) (merged v c):=by
 intro more c kvs v r;delta KV at r
 induction r generalizing kvs v with
 |nil=>intro q;exact q
 |@cons p q ps qs h t ih=>
  intro r0
  let e:KV (jb kvs p.1 p.2) (stored v q.1 q.2):=by
   let:=r0.put p.1 h.2;rw[<-h.1];exact this
  exact ih e
def iU:∀ (more kvs:List (Key×V)),(ni kvs more).length<=kvs.length+more.length
 |[],kvs=>by show kvs.length<=kvs.length+0;omega
 |p::r,kvs=>by
  let h1:=iU r (jb kvs p.1 p.2);let h2:=gI kvs p.1 p.2;show(ni (jb kvs p.1 p.2) r).length<=_;rw[Zr];omega
def nj:∀ {kvs:List (Key×V)} {f:List (Value×Value)},VV (kvs.map λk=>(kV k.1,k.2)) f->∃d,Carries (aV P w) f d/\KV kvs d
 |[],_,r=>by rw[Yh]at r;cases r;exact⟨[],True.intro,.nil⟩
 |p::kvs,_,r=>by
  rw[Zw]at r;cases r with
  |@cons a b as bs h t=>
   let{d,c,q}:=nj (P:=P) (w:=w) t;let{g,B}:=b;exact{(p.1,B)::d,{nh h.1,rfl,c},.cons ⟨rfl,h.2⟩ q}
abbrev Ci(T:List (TE×TE)):TE:=λd H Q=>∀p,H p=aD->vP T d (upd H p (.dK [])) λps h=>h p=aw (.dK [])/\∃k:List (Key×V),ps=k.map (λc=>(kV c.1,c.2))/\k.length<=15/\Q (.ref p) (upd h p (.dK (ni [] k)))
def GR(h:PPs X j k v T)(d:k.all (·.isSome)=aN)(hl:k.length=v.length)(u:k≠[])
  (l:k.length<=15):PE X (.Dict k v j) (Ci T):=by
 intro p s σ H Q I q;let B:=I.hok.fresh (Zg s⁻¹);let L:=I.laid (a:=s⁻¹) (o:=.dK []) (h':=s.heap.push {cls:=.type "dict",data:=.dict #[]}) (t':=s.toks) (λ_ _ q=>Zc _ q) (Zg _) (tG s.heap I.big);calc wpAny_Dict_walk (knd:=aV X.prog X.w) d hl u l (thn (h p _ σ _ _ L (q _ B)) λws s2 ⟨ps,H2,n,rel,e,f,E,lk,Z⟩=>?_);subst E;let{Y,c,O}:=nj (P:=X.prog) (w:=X.w) rel;let{z,hd,C,r0,U}:=K4 n.hok e;cases r0;refine{Y,c,U,λy g hs=>{.ref s⁻¹,_,?_,rfl,Z}}
 let J:(ni [] f).length<=sizeLine:=by
  let h1:=iU f [];rw[Z3]at h1;rw[Za0];omega
 let he:∃q,y.get? s⁻¹=aw q:=let ⟨q,_,_,hq,_⟩:=g;⟨q,hq⟩;exact rh n (by rw[e];exact True.intro) hs he (Cb J hd (O.merge .nil) g)
end L2
namespace HT
open PySem PyProof.Rows
open AutoSeq1 (wpAny_loadPart')
section
variable {prog:Program} {w:World} {A:Around} {E:Value->Shared->Prop} {s:Shared}
def c9{i:Nat}(h:s.heap.IsTupleIter c t i)(j:s.heap.IsTuple t I)(k:I[i]?=aw x)
  (l:∀h',h'.IsTupleIter c t (i+1)->Heap.SameBut c s.heap h'->Q x {s with heap:=h'}):wpAny (model prog w) A (Builtin.SmallTypes.nextOf (.ref c)) Q E s:=by
 let{o,d,n,hd}:=id h;let{O,f,_,p,g}:=j;delta Builtin.SmallTypes.nextOf
 refine Zbf (wpAny_callSpecial?_slot (name:=Str.ofString "__next__") h.typeIs VF
  (Zbg VF h.typeIs W4 ?_ (WZ _)))
 show wpAny _ _ (field (.ref c) 0 >>= _) _ _ s;calc Zbf (Zbk d hd (x:=.ref t) rfl ?_);show wpAny _ _ (if (Value.ref t == Value.none)=aN then _ else _) _ _ s;rw[if_neg (show ¬ ((Value.ref t == Value.none)=aN) from Zd)];show wpAny _ _ (field (.ref c) 1 >>= _) _ _ s;calc Zbf (Zbk d hd (x:=.int i 0) rfl ?_);show wpAny _ _ (ZaY (.ref t) >>= _) _ _ s;calc Zbf (ZbE f g ?_);simp![ZF,k];refine Zbf (wpAny_setField d hd (by simp) (Zby {x,rfl,Zby (l _ ?_ (Heap.SameBut.update ..))}))
 exact⟨_,Yp _ d (Obj.isFreed_of_fields (Obj.data_mapFields hd _)),(Obj.cls_mapFields ..).trans n,by
  rw[Obj.data_mapFields hd];simp[rawInt]⟩
def dN{i:Nat}(j:A.handled=aD)(h:s.heap.IsTupleIter c t i)(l:s.heap.IsTuple t I)(n:I[i]?=aD)
  (k:∀h' e,Heap.ExtBut c s.heap h'->(∃o,h'.get? e=aw o/\o.cls = .type "StopIteration")->E (.ref e) {s with heap:=h'}):wpAny (model prog w) A (Builtin.SmallTypes.nextOf (.ref c)) Q E s:=by
 let{o,d,p,hd}:=id h;let{O,f,_,q,g}:=l;delta Builtin.SmallTypes.nextOf
 refine Zbf (wpAny_callSpecial?_slot (name:=Str.ofString "__next__") h.typeIs VF
  (Zbg VF h.typeIs W4 ?_ (WZ _)))
 show wpAny _ _ (field (.ref c) 0 >>= _) _ _ s;calc Zbf (Zbk d hd (x:=.ref t) rfl ?_);show wpAny _ _ (if (Value.ref t == Value.none)=aN then _ else _) _ _ s;rw[if_neg (show ¬ ((Value.ref t == Value.none)=aN) from Zd)];show wpAny _ _ (field (.ref c) 1 >>= _) _ _ s;calc Zbf (Zbk d hd (x:=.int i 0) rfl ?_);show wpAny _ _ (ZaY (.ref t) >>= _) _ _ s;calc Zbf (ZbE f g ?_);simp![ZF,n];calc Zbf (ZbD (Zbf (wpAny_setField d hd (by simp) ?_)));show wpAny _ _ (newExc (.type "StopIteration") [] >>= _) _ _ _;calc Zbf ?_;simp![newExc,newTuple];calc Zbf (Zbv ?_ (by size_fits));calc Zbf (m:=firstArgMember _ _) (Zbw (a:=Value.none) (by first |rfl |(simp![firstArgMember];rfl)) ?_);calc Zbv ?_ (by size_fits);simp![raiseNew];refine Zbf (wpAny_handled ?_)
 first |rw[show A.in1.handled=aD from j] |rw[j]
 calc Zbf (Zby (wpAny_throw ?_));exact k _ _ (((Heap.SameBut.update ..).extBut.push _).push _) {_,Zu _ rfl,rfl}
end
def Cj(q:A.handled=aD)(c l:Addr)(g:l≠c)(I:Array Value) :
  Draws prog w A c [c,l] I.size (λi v=>I[i]?=aw v) (λi h=>h.IsTupleIter c l i/\h.IsTuple l I) where
 live:=λ_ _ st=>let ⟨o,ho,_⟩:=st.1;⟨o,ho⟩
 frame:=λ_ _ _ st j=>{st.1.at λo e=>j c (by simp) o e,let ⟨o,e,r⟩:=st.2;{o,j l (by simp) o e,r}}
 item:=λi s Q E k st u=>by
  calc c9 st.1 st.2 (x:=I[i]) (by simp[k]) λp f d=>?_;exact u _ p s.toks (by simp[k]) {f,let ⟨o,e,r⟩:=st.2;{o,d.extBut l o g e,r}} d
 done:=λs Q E st n=>dN q st.1 st.2 (by simp) n
def tH(l:Addr)(items:Array Value)(n:Nat)(dct:Option Addr)(sl:Array (Option Value)) :
  Meets (Builtin.«enumerate.__new__» ⟨[.type "enumerate",.ref l],[]⟩) (λ_ R s=>s.heap.get? l=aw {cls:=.type "tuple",dict:=dct,data:=.seq items n,slots:=sl} ∧
   R (.ok (.ret (.ref (s.heap.push {cls:=.type "tuple_iterator",data:=.fields #[.ref l,.int 0 0]}).objs.size)))
    {s with heap:=(s.heap.push {cls:=.type "tuple_iterator",data:=.fields #[.ref l,.int 0 0]}).push {cls:=.type "enumerate",data:=.fields #[.none,.bool aS,.ref s⁻¹,rawInt 0,.none,.none]}}):=
 .of_wp λprog w A R s h=>by
  let{o,g,d,T,os}:=s;let{f,h}:=h;let k:=sub_enumerate;let j:Heap.IsTuple (Shared.heap ⟨o,g,d,T,os⟩) l items:=⟨_,f,rfl,n,rfl⟩
  wp_walk using Zbr f
  calc wpAny_stack_any λst=>Zby ?_;split
  .rename_i c _ _ _ _ _;cases (c == Value.type "enumerate")
   .wp_walk using Zbr f,ZbB j
    exact⟨_,rfl,h⟩
   .wp_walk using Zbr f,ZbB j
    exact⟨_,rfl,h⟩
  .wp_walk using Zbr f,ZbB j
   exact⟨_,rfl,h⟩
def vQ(j:IsTup s.heap l I)
  (h:∀h',IsEnum h' (s⁻¹+1) s⁻¹ 0 .none->h'.IsTupleIter s⁻¹ l 0->h'.objs.size=s⁻¹+2 ->
   (∀b o,s.heap.get? b=aw o->h'.get? b=aw o)->Q (.ref (s⁻¹+1)) {s with heap:=h'}) :
  wpAny (model prog w) A (call (.type "enumerate") [.ref l]) Q E s:=by
 let{⟨c,dct,k,sl⟩,p,d,n,hd}:=j;replace d:c = .type "tuple" := d;replace hd:k = .seq I n:=hd;subst d hd
 refine callType_new PySem.F.called_enumerate (by decide) (PySem.F.typeCall_enumerate_1 _) (PySem.F.newCall_enumerate_1 _) (λobj=>WX obj _) PySem.F.entry_enumerate_new
  (tH l I n dct sl) {p,?_}
 let f:(s.heap.push {cls:=.type "tuple_iterator",data:=.fields #[.ref l,.int 0 0]}).objs.size=s⁻¹+1:=Z0 ..;show _/\_;rw[f]
 let g:IsEnum ((s.heap.push {cls:=.type "tuple_iterator",data:=.fields #[.ref l,.int 0 0]}).push
   {cls:=.type "enumerate",data:=.fields #[.none,.bool aS,.ref s⁻¹,rawInt 0,.none,.none]}) (s⁻¹+1) s⁻¹ 0 .none:=by
  let:=Zu (s.heap.push {cls:=.type "tuple_iterator",data:=.fields #[.ref l,.int 0 0]})
   (o:={cls:=.type "enumerate",data:=.fields #[.none,.bool aS,.ref s⁻¹,rawInt 0,.none,.none]}) rfl
  rw[f]at this;exact this
 exact{⟨_,g,rfl⟩,h _ g {_,Zc _ (Zu _ rfl),rfl,rfl} (by rw[Z0,f]) λb o x=>Zc _ (Zc _ x)}
end HT
namespace L2
open PySem PySem.Spec PyProof.Rows
abbrev Ite(K:V5)(a:Addr)(c:V5->Hp->Addr->List V->Prop):It:=
 {λi H=>∃xs x,c K H a xs/\xs[i]?=aw x,λi H x h=>∃T,H T=aD/\x = .ref T/\∀xs v,c K H a xs->xs[i]?=aw v->h=upd H T (.tup [.int i,v]),λi H=>∃xs,c K H a xs/\xs.length=i}
def Inv.turnedLaid{X:Cx}{p:List (Addr×Obj)}{j:St}{H:Hp}{s:Shared}{h':Heap}{T:Addr}{o:HO}{t':Nat}{ch:List Addr}(I:Inv X p j H s)(d:∀b∈ch,iQ X p H b)
  (k:∀b ob,b∉ch->s.heap.get? b=aw ob->h'.get? b=aw ob) (g:s⁻¹<=T) (new:bp X.prog X.w (upd H T o) h' T o):Inv X p j (upd H T o) {s with heap:=h',toks:=t'}:=by
 let fr:=I.hok.fresh g;let neT:∀b ob,s.heap.get? b=aw ob->b≠T:=λb ob e=>ZH (ZC (Zt e) g)
 refine I.step (g':=s.gens) (d':=s.drawn) (ch:=ch) (λb hb=>{(d b hb).2.2.2.1,(d b hb).2.1,(d b hb).2.2.2.2.1,(d b hb).2.2.2.2.2}) (λb ob _ _ h e _=>k b ob h e) (λb ob _ _ h e _=>{ob.slots,k b ob h e})
  (λb ob _ e n=>by rw[ax (neT b ob e)];exact n) (λb ob h e=>{ob,k b ob h e}) (λb xs q=>by rw[ax (aR q fr)];exact q) (λb u xs q=>by rw[ax (aR q fr)];exact q)
  (λb ps q=>{#[],by rw[ax (aR q fr),q];simp}) (λm B=>?_) (λb u q=>?_) I.bare
 .let{ob,y,E,f,l}:=B;exact{ob,y,E,k _ ob (λz=>(d _ z).2.1 rfl) f,l}
 .by_cases hb:b=T
  .subst hb;rw[aG]at q;cases q;exact new
  .rw[ax hb]at q;refine(I.hok b u q).stay (λc v h Q=>k c v (λz=>?_) Q) (λc q=>by rw[ax (aR q fr)];exact q) λc xs q=>by rw[ax (aR q fr)];exact q
   let n:=(d c z).1;rcases h with w |w
   .rw[w,q]at n;cases n
   .rw[w]at n;cases n
def Inv.turnedAll{X:Cx}{p:List (Addr×Obj)}{g:St}{H:Hp}{s:Shared}{h':Heap}{t':Nat}{ch:List Addr}(I:Inv X p g H s)(d:∀b∈ch,iQ X p H b)
  (k:∀b ob,b∉ch->s.heap.get? b=aw ob->h'.get? b=aw ob):Inv X p g H {s with heap:=h',toks:=t'}:=by
 refine I.step (g':=s.gens) (d':=s.drawn) (ch:=ch) (λb hb=>{(d b hb).2.2.2.1,(d b hb).2.1,(d b hb).2.2.2.2.1,(d b hb).2.2.2.2.2}) (λb ob _ _ h e _=>k b ob h e) (λb ob _ _ h e _=>{ob.slots,k b ob h e})
  (λb ob _ e n=>n) (λb ob h e=>{ob,k b ob h e}) (λb xs q=>q) (λb u xs q=>q)
  (λb ps q=>{#[],by rw[q];simp}) (λm o=>?_) (λb u q=>?_) I.bare
 .let{ob,l,E,f,j}:=o;exact{ob,l,E,k _ ob (λz=>(d _ z).2.1 rfl) f,j}
 .calc(I.hok b u q).stay (λc v h Q=>k c v (λz=>?_) Q) (λc q=>q) λc xs q=>q;let n:=(d c z).1;rcases h with w |w
  .rw[w,q]at n;cases n
  .rw[w]at n;cases n
def vR{P:Program}{w:World}{K:V5}{elts:List Expr}{x1:Nat}{tp:Pos}(a e it:Addr)(J:e≠it) :
  Turn P w K (.Tuple elts x1 tp) (Ite K a SqT) [e,it] e (λi h=>(∃O,IsEnum h e it i O)/\h.IsTupleIter it a i) where
 mem:=by simp
 obj:=λi h st b hb=>by
  let{⟨O,l⟩,o,U,c,d}:=st;rcases Zn.mp hb with z |z
  .subst z;exact{_,l,λv z=>by let z':Data.fields _=Data.cell v:=z;cases z'}
  .let z':=Zy.mp z;subst z';exact{o,U,λv z=>by rw[d]at z;cases z}
 keep:=λi h h' st k=>{let ⟨O,l⟩:=st.1;{O,k e (by simp) _ l},st.2.at λo U=>k it (by simp) o U}
 item:=by
  intro X Y hw hK hc i pins s σ H E I hf st hg;subst Y hw hK;let{xs,x,hq,hx}:=hg;let{f,rv,p,hz}:=I.tuple hq;let{u,hu,ru}:=rv.get hx;let{⟨O,l⟩,j}:=st;let Z:s.heap.IsTuple a f.toArray:=p
  let hae:e≠a:=λz=>by
   subst z;let{o,B,hc',n,g}:=id Z;rw[l]at B;cases B;let z':Data.fields _=Data.seq f.toArray n:=g;cases z'
  let Q:a≠it:=λz=>by
   subst z;let{o,B,hc',n,g}:=id Z;let{o',T,c',d'}:=id j;rw[T]at B;cases B;rw[d']at g;cases g
  let hi:i < f.toArray.size:=by
   let:=(Zb.mp hu).1
   simpa using this
  refine wpAny_pyNext_enum_itemD (HT.Cj (A:=X.A.in1) (I.ok.hd hc) it a Q f.toArray) l ⟨j,Z⟩ hi J (by simp[J,hae]) λy h' tk Y B hs' hT hsz hk=>?_
  let ey:y=u:=by
   let z:f.toArray[i]?=aw u:=by simpa using hu
   rw[z]at Y;exact(θ Y).symm
  subst ey;calc{_,rfl,?_};calc wpAny_letOwnedTupleGo_enum B λh2 he2 L=>?_;let C:e < s⁻¹:=Zt l;let hilt:it < s⁻¹:=by let{o,U,_}:=j;exact Zt U
  let hT2:h2.get? s⁻¹=aw {cls:=.type "tuple",data:=.seq #[.int i tk,y]}:=(L.2 _ (Xf C)).trans hT;let fresh:=I.hok.fresh (Zg s⁻¹);refine{.ref s⁻¹,upd H s⁻¹ (.tup [.int i,x]),?_,rfl,{_,fresh,rfl,λys v hy hv=>?_},{{y,by simpa using he2},hs'.1.at λo U=>(L.2 it (Ne.symm J)).trans U},λb hb=>?_}
  .exact I.turnedLaid (t':=tk+1) hf (λb ob hb eb=>(L.2 b λz=>hb (by simp[z])).trans (hk b ob (λz=>hb (by simp[z])) (λz=>hb (by simp[z])) eb)) (Zg _)
    {by show 2<=sizeLine;decide,[.int i tk,y],.cons ⟨tk,rfl⟩ (.cons ru .nil),⟨_,hT2,rfl,_,rfl,rfl⟩}
  .rw[I.tuple_inj hy hq,hx]at hv;cases hv;rfl
  .rcases Zn.mp hb with z |z
   .rw[z,ax (ZH C)];exact(hf e (by simp)).1
   .rw[Zy.mp z,ax (ZH hilt)];exact(hf it (by simp)).1
 done:=by
  intro X Y hw hK hc i pins s σ H E I hf st hg;subst Y hw hK;let{xs,hq,hx}:=hg;let{f,rv,p,hz}:=I.tuple hq;let{⟨O,l⟩,j}:=st;let Z:s.heap.IsTuple a f.toArray:=p
  let Q:a≠it:=λz=>by
   subst z;let{o,B,hc',n,g}:=id Z;let{o',T,c',d'}:=id j;rw[T]at B;cases B;rw[d']at g;cases g
  let hn:f.toArray.size=i:=by rw[Zk,<-rv.length,hx]
  subst hn;calc wpAny_pyNext_enum_endD (HT.Cj (A:=X.A.in1) (I.ok.hd hc) it a Q f.toArray) l ⟨j,Z⟩ λh' eb=>{rfl,?_};exact I.turnedAll (t':=s.toks) hf λb ob hb q=>eb b ob (λz=>hb (by simp[z])) q
 self:=λ_ _ _ _ _ st h=>let ⟨⟨O,l⟩,_⟩:=st;wpAny_pyIter_enum l h
abbrev RL(K:V5)(T:TA):TI:=λc H R=>T c H λv h=>∃a xs,v=[.ref a]/\SqT K h a xs/\R (Ite K a SqT) h
section
variable {X:Cx} {E:List Expr} {x:Nat} {t:Pos}
def MH{a:Expr}{T:TA}{p d:Pos}(Y:Gl X "enumerate")(U:X.mg "enumerate" = aD)(B:PA X [a] T)(hs:Za2 [a] X.env=[(aS,eval a X.env)]:=by rfl):PI X (.Tuple E x t) (.Call (.Name "enumerate" p) [a] [] d) (RL X.K T):=by
 intro c s n H R I h;calc Call_ (eV I Y U PyProof.Rows.boot_enumerate (WO (thn (B d c s n H _ I h) λus f ⟨vs,k,g,r1,Q⟩=>?_) hs rfl));let{l,xs,e,C,q}:=Q;subst e;let{u,rfl,L}:=cF r1;cases L;let{J,rv,pl,hz}:=g.tuple C;calc HT.vQ pl λy o j Z v=>wpAny_pyIter_enum o ?_;let O:Inv X c n k {f with heap:=y}:=g.kept (t':=f.toks) v;let fr:∀b,f.heap.objs.size<=b->iQ X c k b:=λb hb=>g.fpOk hb (g.hok.fresh hb);calc{_,[f.heap.objs.size+1,f.heap.objs.size],_,_,k,rfl,O,vR l _ _ (Nat.succ_ne_self _),⟨⟨_,o⟩,j⟩,λb hb=>?_,q};rcases Zn.mp hb with z |z
 .rw[z];exact fr _ (YI _)
 .rw[Zy.mp z];exact fr _ (Zg _)
end
section
variable {X:Cx}
def kZ:aZ X (.type "range") (λxs H Q=>∃j:Int,xs=[.int j]/\∀p,H p=aD->Q (.ref p) (upd H p (.rng 0 j))):=by
 intro c s f H xs U Q I r h;let{j,rfl,q}:=h;let{u,rfl,d}:=cF r;let{t,rfl}:=d;exact call_range_1 {.ref s⁻¹,_,I.laid (t':=s.toks+1+1) (o:=.rng 0 j) (λb o e=>Zc _ e) (Zg _) {_,_,_,Zu _ rfl},rfl,q _ (I.hok.fresh (Zg _))}
def rj(hc:X.calm=aN):aZ X (.type "list") (λxs H Q=>∃ (p:Addr) (n:Nat),xs=[.ref p]/\H p=aw (.rng 0 n)/\n<=1000/\∀l,H l=aD->Q (.ref l) (upd H l (.lst ((Zm n).map λ(i:Nat)=>V.int i)))):=by
 intro c s j H xs U Q I r h;let{p,n,rfl,g,f,q}:=h;let{u,rfl,d}:=cF r;cases d;let{t,u,v,e}:=(show bp X.prog X.w H s.heap p (.rng 0 n) from I.hok p _ g);exact nc hc I e f q
end
abbrev jc:List Str->Bool
 |[]=>aN
 |x::r=>!r.contains x && jc r
def gJ:∀ {l:List Str},jc l=aN->l.Nodup
 |[],_=>YZ
 |x::r,h=>by
  delta jc at h;rw[bAE]at h;calc ZV.mpr {λm=>?_,gJ h.2};let:=h.1;simp[m]at this
abbrev cmB(own:List Str)(hs:List Nat)(N:List Str)(c sc:Scope):Bool:=
 (c.kind == .function) && jc (dM hs N++own) && jc (c.names.map (·.1)) && ((dM hs N).all λx=>c.names.lookup x != aw .local && c.names.lookup x != aw .cell) &&
 (c.names.all λy=>y.2 != .free || (sc.names.lookup y.1 == aw .cell || sc.names.lookup y.1 == aw .free)) && hs.all λi=>(c.names.lookup (B3 i)).isNone
def Ck(hs:List Nat)(h:cmB own hs N c sc=aN):CmScope own hs N c sc:=by
 delta cmB at h;simp![bAE,ZM]at h;let{⟨⟨⟨⟨h1,h2⟩,n⟩,h4⟩,f⟩,g}:=h;refine{by simpa using h1,gJ h2,gJ n,λx j=>?_,λy k d=>?_,λi l=>by simpa using g i l}
 .let:=h4 x j
  simpa using this
 .let:=f y k;rw[d]at this
  simpa using this
section
variable {X:Cx} {T l a:Expr} {c:TE} {d:TA} {es:List Expr} {t:TGs} {p pos:Pos} {n k:Nat} {E:List Expr} {f:Nat} {g:Pos} {o e:Expr} {h:TE} {i:TA} {name:Str} {A C:Pos}
abbrev K5(K:V5):List V->Hp->VK->Prop:=λxs H Q=>∃x n t b,xs=[x,.ty n]/\TyOf K H x t/\On K t (.type n)=aw b/\Q (.bl b) H
def rl(K:V5)(j:X.K=K:=by rfl):aZ X (.builtin "isinstance") (K5 K):=j▸tw
end
def Cm(h:PE X k T)(c:PE X v d):PE X (.Dict [aw k] [v] p) (Ci [(T,d)]):=GR (Ch h c GQ) rfl rfl (by simp) (by simp)
def jd:∀ {xs:List V} {U:List Value},aP xs U->xs.all b6=aN->U.countP (eqU x)=xs.countP λy=>eqV y x
 |_,_,.nil,_=>rfl
 |y::xs,u::U,.cons r t,f=>by
  rw[Yc,bAE]at f;rw[Y7,Y7,qZ r f.1,jd t f.2]
section
variable {X:Cx}
abbrev GS(K:V5):V->List V->Hp->VK->Prop:=λx v H Q=>∃p xs y,x = .ref p/\v=[y]/\SqT K H p xs/\b6 y=aN/\xs.all b6=aN/\Q (.int ((xs.countP λz=>eqV z y:Nat):Int)) H
def zX(K:V5)(C:X.K=K:=by rfl):MtR X "tuple.count" (GS K):=by
 subst C;intro f s T H x L v U Q I l E h;let{p,xs,y,rfl,rfl,j,o,fs,q}:=h;cases l;let{u,rfl,B}:=E.one;let{c,r,⟨⟨cls,J,d,sl⟩,e,g,n,hd⟩,O}:=I.tuple j;simp! at g hd;subst g hd;calc Zal VC ⟨_,e,rfl⟩ F.entry_tuple_count (F.args_tuple_count_2 _ _) (SeqAt.tuple_countAt p c.toArray n J sl u (eqU y)) {e,λw k=>cj B o r fs w (by simpa using k),?_};refine{.int _,H,I.tok _,⟨_,rfl⟩,?_}
 let z:(c.toArray.toList.countP (eqU y))=xs.countP λz=>eqV z y:=by
  rw[XG];exact jd r fs
 rw[z];exact q
end
end L2
namespace Dw
open PySem PySem.Spec PyProof.Rows L2
inductive D where
 |non |bl (b:Bool) |int (i:Int) |str (x:Str) |tup (ds:List D) |lst (ds:List D) |dic (ks:List Key) (ds:List D)
mutual
noncomputable def Br(N:List Addr)(H:Hp):D->V->Prop
 |.non,v=>v = .non
 |.bl b,v=>v = .bl b
 |.int i,v=>v = .int i
 |.str x,v=>v = .str x
 |.tup ds,v=>∃a xs,v = .ref a/\H a=aw (.tup xs)/\BrL N H ds xs
 |.lst ds,v=>∃a xs,v = .ref a/\a∉N/\H a=aw (.lst xs)/\BrL N H ds xs
 |.dic ks ds,v=>∃a xs,v = .ref a/\a∉N/\H a=aw (.dK (ks.zip xs))/\ks.length=ds.length/\BrL N H ds xs
noncomputable def BrL(N:List Addr)(H:Hp):List D->List V->Prop
 |[],xs=>xs=[]
 |d::ds,xs=>∃x r,xs=x::r/\Br N H d x/\BrL N H ds r
end
mutual
noncomputable def dep:D->Nat
 |.tup ds=>jJ ds+1
 |.lst ds=>jJ ds+1
 |.dic _ ds=>jJ ds+1
 |_=>0
noncomputable def jJ:List D->Nat
 |[]=>0
 |d::ds=>max (dep d) (jJ ds)
end
mutual
noncomputable def wid:D->Nat
 |.tup ds=>max ds.length (rm ds)
 |.lst ds=>max ds.length (rm ds)
 |.dic _ ds=>max ds.length (rm ds)
 |_=>0
noncomputable def rm:List D->Nat
 |[]=>0
 |d::ds=>max (wid d) (rm ds)
end
def BrL.len:∀ {c:List D} {xs:List V},BrL N H c xs->xs.length=c.length
 |[],_,h=>by simp![BrL]at h;rw[h];rfl
 |d::c,_,h=>by
  simp![BrL]at h;let{x,r,rfl,_,h2}:=h;rw[Zr,Zr,BrL.len h2]
abbrev isB:D->Bool |.bl _=>aN |_=>aS
abbrev isW(d:D):Bool:=match d with |.int _=>aN |_=>aS
abbrev bX(d:D)(a b:Int):Bool:=match d with |.int i=>decide (a<=i) && decide (i<=b) |_=>aS
abbrev isT(d:D)(a b:Int):Bool:=match d with |.tup ds=>decide (a<=(ds.length:Int)) && decide ((ds.length:Int)<=b) |_=>aS
def dP{a b:Int}(h:bX d a b=aN):∃i,d = .int i/\a<=i/\i<=b:=by
 cases d with
 |int i=>simp[bX]at h;exact⟨i,rfl,h.1,h.2⟩
 |_=>simp[bX]at h
def p9{c:Type}(n:Nat)(f:Nat->List c):(Zm (n+1)).flatMap f=(Zm n).flatMap f++f n:=by
 rw[Xu,XH];simp
def yf{c:Type}{n m:Nat}{f:Nat->List c}(h:∀i,i < n->(f i).length<=m):((Zm n).flatMap f).length<=n * m:=by
 induction n with
 |zero=>simp
 |succ n I=>
  rw[p9,Ze];let:=I λi d=>h i (by omega);let:=h n (by omega);rw[Xg];omega
abbrev gw(d:List D)(lo hi:Option Int):List D:=(d.drop (HT.sIx d.length 0 lo)).take (HT.sIx d.length d.length hi - HT.sIx d.length 0 lo)
def yg{n:Nat}:∀ {ds:List D},(∀d∈ds,dep d<=n)->jJ ds<=n
 |[],_=>by rw[jJ];omega
 |e::ds,h=>by
  rw[jJ];let:=h e Zh;let:=yg (ds:=ds) λd hd=>h d (Zf _ hd);omega
def yh{n:Nat}:∀ {ds:List D},(∀d∈ds,wid d<=n)->rm ds<=n
 |[],_=>by rw[rm];omega
 |e::ds,h=>by
  rw[rm];let:=h e Zh;let:=yh (ds:=ds) λd hd=>h d (Zf _ hd);omega
structure Fit(n m:Nat)(d:D):Prop where
 de:dep d<=n
 wi:wid d<=m
def Fit.up{n m c f:Nat}(h:Fit n m d)(g:n<=c)(j:m<=f):Fit c f d:={Zz h.de g,Zz h.wi j}
def Fit.tup{n m:Nat}(hl:c.length<=m)(h:∀d∈c,Fit n m d):Fit (n+1) m (.tup c):=by
 refine{?_,?_}
 .rw[dep];let:=yg (n:=n) λd hd=>(h d hd).de;omega
 .rw[wid];let:=yh (n:=m) λd hd=>(h d hd).wi;omega
def MI(n:Nat)(a:Int)(h:0<=a):HT.sIx n 0 (aw a)=min a.toNat n:=by
 show(if a < 0 then (a+(n:Int)).toNat else min a.toNat n)=_;rw[if_neg (by omega)]
def Cn(n:Nat)(a:Int)(h:0<=a):HT.sIx n n (aw a)=min a.toNat n:=by
 show(if a < 0 then (a+(n:Int)).toNat else min a.toNat n)=_;rw[if_neg (by omega)]
def Fit.lst{n m:Nat}(h:Fit n m (.tup d)):Fit n m (.lst d):={by let:=h.de;simp![dep]at this ⊢;exact this,by let:=h.wi;simp![wid]at this ⊢;exact this}
abbrev qa(q:Int×Int):D:=.tup [.int q.1,.int q.2]
abbrev mg2(M:List (List Int))(i j:Nat):Int:=(((M[i]?).getD [])[j]?).getD 0
structure Mat(n:Nat)(M:List (List Int)):Prop where
 len:M.length=n
 row:∀r∈M,r.length=n
 ent:∀r∈M,∀x∈r,1<=x/\x<=99
def Mat.at{n:Nat}(h:Mat n M){i j:Nat}(hi:i < n)(k:j < n):∃r,M[i]?=aw r/\r.length=n/\r[j]?=aw (mg2 M i j)/\1<=mg2 M i j/\mg2 M i j<=99:=by
 let d:i < M.length:=by rw[h.len];exact hi
 let E:M[i]?=aw M[i]:=gEG d;let g:=h.row _ (ZS d);let c:j < M[i].length:=by omega
 let f:mg2 M i j=M[i][j]:=by delta mg2;rw[E,Yd,gEG c,Yd]
 let:=h.ent _ (ZS d) _ (ZS c);exact{M[i],E,g,by rw[f,gEG c],by omega,by omega}
abbrev tI(n k:Nat)(M:List (List Int)):Prop:=∀a b q,a < n->b < n->q < k->mg2 M a b<=mg2 M a q+mg2 M q b
def Co{n k:Nat}(h:Mat n M)(d:k < n)(o:tI n k M)(l:∀i j,i < n->j < n->mg2 M' i j=min (mg2 M i j) (mg2 M i k+mg2 M k j)):tI n (k+1) M':=by
 intro a b q f hb p;let c:q < n:=by omega
 let{_,_,_,_,I,_}:=h.at f hb;let{_,_,_,_,v,_}:=h.at f d;let{_,_,_,_,u,_}:=h.at d hb;let{_,_,_,_,O,_}:=h.at d d;let{_,_,_,_,y,_}:=h.at f c;let{_,_,_,_,L,_}:=h.at c hb;let{_,_,_,_,E,_}:=h.at d c;let{_,_,_,_,B,_}:=h.at c d;rw[l a b f hb,l a q f c,l q b c hb];by_cases e:q=k
 .subst e;omega
 .let g:q < k:=by omega
  let J:=o a b q f hb g;let T:=o k b q d hb g;let C:=o a k q f d g;omega
abbrev lU(M:List (List Int)):List D:=M.map λr=>.tup (r.map .int)
abbrev be(M:List (List Int))(n c i:Nat):List Int:=(Zm n).map λj=>if mg2 M i c+mg2 M c j < mg2 M i j then mg2 M i c+mg2 M c j else mg2 M i j
def tJ(M:List (List Int))(n c i:Nat):(be M n c i).length=n:=by delta be;rw[Za,ZI]
def tK(M:List (List Int)){n c i j:Nat}(h:j < n):(be M n c i)[j]?=aw (if mg2 M i c+mg2 M c j < mg2 M i j then mg2 M i c+mg2 M c j else mg2 M i j):=by
 delta be;rw[Zo,YE h];rfl
def GU{n c:Nat}(h:Mat n M)(hc:c < n):∀i j,i < n->j < n->mg2 ((Zm n).map (be M n c)) i j=min (mg2 M i j) (mg2 M i c+mg2 M c j):=λi j d f=>by
 let e:mg2 ((Zm n).map (be M n c)) i j=if mg2 M i c+mg2 M c j < mg2 M i j then mg2 M i c+mg2 M c j else mg2 M i j:=by
  show((((Zm n).map (be M n c))[i]?.getD [])[j]?).getD 0=_;rw[Zo,YE d];show((be M n c i)[j]?).getD 0=_;rw[tK M f];rfl
 rw[e];split <;> omega
def Cp{n c:Nat}(h:Mat n M)(hc:c < n):Mat n ((Zm n).map (be M n c)):=by
 refine{by rw[Za,ZI],λr f=>?_,λr f x k=>?_}
 .let{u,_,rfl}:=ZJ.mp f;exact tJ M n c u
 .let{u,g,rfl}:=ZJ.mp f;rw[ZZ]at g;delta be at k;let{j,d,rfl}:=ZJ.mp k;rw[ZZ]at d;let{_,_,_,_,o,v}:=h.at g d;let{_,_,_,_,l,Q}:=h.at g hc;let{_,_,_,_,p,q}:=h.at hc d;split <;> omega
abbrev Cq(d:D):Int:=match d with |.int i=>i |_=>0
abbrev b9(fs:List D):List Int:=fs.map Cq
def vS(fs:List D):(b9 fs).length=fs.length:=by delta b9;rw[Za]
def bG:∀ (n:Nat) (l:List Int),l.Nodup->(∀x∈l,0<=x/\x < (n:Int))->l.length<=n
 |0,l,_,h=>by
  cases l with
  |nil=>exact Zg _
  |cons x l=>have:=h x Zh;lia
 |n+1,l,nd,h=>by
  by_cases d:(n:Int)∈l
  .let I:=bG n (l.erase n) (nd.erase _) λx c=>by
    let h1:=h x (List.mem_of_mem_erase c);let h2:x≠(n:Int):=λe=>(List.Nodup.not_mem_erase nd) (e▸c)
    lia
   rw[List.length_erase_of_mem d]at I;let:=List.length_pos_of_mem d
   lia
  .let I:=bG n l nd λx c=>by
    let h1:=h x c;let h2:x≠(n:Int):=λe=>d (e▸c)
    lia
   lia
abbrev jK(is:List Int):Bool:=decide is.Nodup
def tL(is:List Int):(is.map λi=>decide (((is.count i:Nat):Int)=1)).all id=jK is:=by
 rw[Yo,Yu];delta jK;rw[ZM,decide_eq_true_eq,List.nodup_iff_count];constructor
 .intro h a;by_cases c:a∈is
  .let:=ω (h a c)
   lia
  .rw[List.count_eq_zero_of_not_mem c];lia
 .intro h a d;let h1:=h a;let h2:=List.count_pos_iff.mpr d;exact decide_eq_true (by lia)
abbrev eX(n:Nat)(d:D):Bool:=match d with
 |.tup fs=>decide (fs.length<=n) && (fs.all (λe=>bX e 0 ((n:Int) - 1)) && jK (b9 fs))
 |_=>aS
def MJ(d:List D)(n:Nat):isT (.tup d) 0 n=decide (d.length<=n):=by
 delta isT;rw[Yo];simp
def zY{n:Nat}:bX d 0 ((n:Int) - 1)=aN->∃i,d = .int i/\0<=i/\i < n:=λh=>by
 let{i,e,c,h1}:=dP h;exact{i,e,c,by omega}
def tM{n:Nat}(h:fs.all (λe=>bX e 0 ((n:Int) - 1))=aN)(nd:(b9 fs).Nodup):eX n (.tup fs)=aN:=by
 let c:fs.length<=n:=by
  let:=bG n (b9 fs) nd λx g=>by
   let{d,hd,rfl}:=ZJ.mp g;let{i,rfl,f,h1}:=zY (ZM.mp h d hd);exact⟨f,h1⟩
  rwa[vS]at this
 let:jK (b9 fs)=aN:=decide_eq_true nd;simp![eX,this,h,decide_eq_true c,Wt]
abbrev bf:Key->PyData
 |.inl i=>.int i
 |.inr x=>.str x
mutual
noncomputable def aX:D->PyData
 |.non=>.none
 |.bl b=>.bool b
 |.int i=>.int i
 |.str x=>.str x
 |.tup ds=>.tuple (aK ds)
 |.lst ds=>.list (aK ds)
 |.dic ks ds=>.dict ((ks.map bf).zip (aK ds))
noncomputable def aK:List D->List PyData
 |[]=>[]
 |d::ds=>aX d::aK ds
end
def cK:∀c:List D,(aK c).length=c.length
 |[]=>by simp[aK]
 |d::c=>by simp[aK,cK c]
def iu{j g:Type}:∀ (c:List j) (f:List g),c.length=f.length->(c.zip f).map (·.1)=c
 |[],[],_=>rfl
 |k::c,d::f,h=>by simp[iu c f (by simpa using h)]
 |[],_::_,h=>by simp at h
 |_::_,[],h=>by simp at h
def iy{j g:Type}:∀ (f:List j) (c:List g),f.length=c.length->(f.zip c).map (·.2)=c
 |[],[],_=>rfl
 |k::f,d::c,h=>by simp[iy f c (by simpa using h)]
 |[],_::_,h=>by simp at h
 |_::_,[],h=>by simp at h
mutual
noncomputable def shw:D->Prop
 |.int i=>i.natAbs.log2 < 1920
 |.tup ds=>rq ds
 |.lst ds=>rq ds
 |.dic ks ds=>(∀k∈ks,∀i,k=Sum.inl i->i.natAbs.log2 < 1920)/\rq ds
 |_=>True
noncomputable def rq:List D->Prop
 |[]=>True
 |d::ds=>shw d/\rq ds
end
section
variable {P:Program} {w:World} {N:List Addr} {H:Hp} {h:Heap}
def qb:∀ {ks:List Key} {kvs:List (Key×Value)} {E:List WW},Pairs (aV P w) E kvs->kvs.map (·.1)=ks->ReadsAll h (E.map (·.key)) (ks.map bf) []
 |[],[],_,.nil,_=>.nil
 |k::ks,_::_,_,.cons (e:=e) hk hv r,eq=>by
  simp![Zw,Xh.injEq]at eq;let{f,d}:=eq;let z:=qb (ks:=ks) r d;let c:gk k e.key=aN:=by rw[<-f];exact hk
  let one:Reads h e.key (bf k) []:=by
   rcases av c with ⟨i,t,rfl,q⟩ |⟨x,t,rfl,q⟩
   .rw[q];exact .int _ _
   .rw[q];exact .str _ _
  exact ReadsAll.cons one z
def cR:∀ {kvs:List (Key×Value)} {E:List WW},Pairs (aV P w) E kvs->E.map (·.val)=kvs.map (·.2)
 |[],_,.nil=>rfl
 |_::_,_,.cons _ hv r=>by rw[Zw,Zw,hv,cR r]
def lZ:∀ {ks:List Key} {xs:List V} {kvs:List (Key×Value)},ks.length=xs.length->KV (ks.zip xs) kvs->aP xs (kvs.map (·.2))/\kvs.map (·.1)=ks
 |[],[],_,_,.nil=>⟨.nil,rfl⟩
 |k::ks,x::xs,_,hl,.cons r t=>by
  let{h1,h2}:=lZ (ks:=ks) (xs:=xs) (by simpa using hl) t;exact{.cons r.2 h1,by rw[Zw,h2,<-r.1]}
 |[],_::_,_,hl,_=>by simp at hl
 |_::_,[],_,hl,_=>by simp at hl
mutual
theorem dQ(ok:HOk P w H h):∀ (d:D) {v:V} {u:Value},Br N H d v->aI v u->∃as,Reads h u (aX d) as
 |.non,v,u,b,r=>by simp![Br]at b;subst b;cases r;exact{_,by simp![aX];exact .none}
 |.bl x,v,u,b,r=>by simp![Br]at b;subst b;cases r;exact{_,by simp![aX];exact .bool _}
 |.int i,v,u,b,r=>by simp![Br]at b;subst b;let{t,rfl}:=r;exact{_,by simp![aX];exact .int _ _}
 |.str x,v,u,b,r=>by simp![Br]at b;subst b;let{t,rfl}:=r;exact{_,by simp![aX];exact .str _ _}
 |.tup ds,v,u,b,r=>by
  simp![Br]at b;let{a,xs,rfl,g,f}:=b;cases r;let{_,I,j,o,e,c,n,q,_}:=ok a _ g;let{as,z}:=iz ok ds f j;simp![aX];exact{_,.tuple e c q (by simpa using z)}
 |.lst ds,v,u,b,r=>by
  simp![Br]at b;let{a,xs,rfl,_,g,f}:=b;cases r;let{_,I,n,j,e}:=ok a _ g;let{as,z}:=iz ok ds f j;simp![aX];exact{_,.list e rfl rfl (by simpa using z)}
 |.dic ks ds,v,u,b,r=>by
  simp![Br]at b;let{a,xs,rfl,_,g,k,f}:=b;cases r;let{_,_,B,y,o,C,E,e,ex,q,_,p,_}:=ok a _ g;let{j,l}:=lZ (by rw[k,f.len]) y;let{as,z}:=iz ok ds f j;simp![aX];refine{_,.dict e ex.1 q (kvs:=(ks.map bf).zip (aK ds)) (as:=[]) (bs:=as) ?_ ?_}
  .rw[iu _ _ (by rw[Za,cK,k])];exact qb p l
  .rw[iy _ _ (by rw[Za,cK,k]),cR p];exact z
theorem iz(ok:HOk P w H h):∀ (c:List D) {xs:List V} {u:List Value},BrL N H c xs->aP xs u->∃as,ReadsAll h u (aK c) as
 |[],xs,u,b,r=>by simp![BrL]at b;subst b;cases r;exact{_,by simp![aK];exact .nil}
 |d::c,xs,u,b,r=>by
  simp![BrL]at b;let{x,l,rfl,h1,h2}:=b;cases r with
  |cons r1 r2=>
   let{as,f}:=dQ ok d h1 r1;let{bs,Z}:=iz ok c h2 r2;simp![aK];exact{_,.cons f Z}
end
def nk{es:List WW}:∀ {c:List Key} {kvs:List (Key×Value)} {es:List WW} {d:Nat} {bs:List Addr},Pairs (aV P w) es kvs->kvs.map (·.1)=c->(∀k∈c,∀i,k=Sum.inl i->i.natAbs.log2 < 1920)->(∀t∈VX (c.map bf),t.length<=sizeLine)->ReprAllK P w bs h d (es.map (·.key)) (VX (c.map bf))
 |[],[],_,_,_,.nil,_,_,_=>by simp![Yh,VX];exact .nil
 |k::c,_::_,_,d,bs,.cons (e:=e) hk hv r,eq,hi,hz=>by
  simp![Zw,Xh.injEq]at eq;let{g,E}:=eq;let f:gk k e.key=aN:=by rw[<-g];exact hk
  simp![Zw,VX]at hz ⊢;calc .cons ?_ (nk (es:=[]) r E (λj m=>hi j (Zf _ m)) λt m=>hz t (Zf _ m));rcases av f with ⟨i,t,rfl,q⟩ |⟨x,t,rfl,q⟩
  .rw[q];simp![bf,VW];exact .of_is (ReprIs.int t (hi _ Zh i rfl)) _ _ _
  .rw[q];let hs:=hz _ Zh;simp![bf,VW]at hs ⊢;exact .of_is (ReprIs.str x t hs) _ _ _
mutual
theorem GV(ok:HOk P w H h):∀ (d:D) {v:V} {u:Value},Br N H d v->aI v u->shw d->(aX d).shown.length<=sizeLine->∃bs,ReadAtMost h (aX d).depth bs/\ReprK P w bs h (aX d).depth u (aX d).shown
 |.non,v,u,b,r,_,_=>by simp![Br]at b;subst b;cases r;exact{[],(λ_ m=>nomatch m),by simp![aX,VW];exact .of_is ReprIs.none _ _ _}
 |.bl x,v,u,b,r,_,_=>by simp![Br]at b;subst b;cases r;exact{[],(λ_ m=>nomatch m),by simp![aX,VW];exact .of_is (ReprIs.bool _) _ _ _}
 |.int i,v,u,b,r,hs,_=>by simp![Br]at b;subst b;let{t,rfl}:=r;exact{[],(λ_ m=>nomatch m),by simp![aX,VW];exact .of_is (ReprIs.int t (by simpa only[shw] using hs)) _ _ _}
 |.str x,v,u,b,r,_,hz=>by simp![Br]at b;subst b;let{t,rfl}:=r;exact{[],(λ_ m=>nomatch m),by simp![aX,VW]at hz ⊢;exact .of_is (ReprIs.str x t hz) _ _ _}
 |.tup ds,v,u,b,r,hs,hz=>by
  let{Z,f}:=dQ ok (.tup ds) b r;simp![Br]at b;let{a,xs,rfl,E,C}:=b;cases r;let{_,I,J,o,e,c,n,q,_}:=ok a _ E;simp![aX,VW,VQ]at hz f ⊢;let{bs,m,k}:=dR ok ds C J (by simpa only[shw] using hs) λt B=>Zz (tupleText_mem_le B) hz;let out:a∉bs:=ZaL f (by simp![VQ];lia) m;let j:=ReadAtMost.cons f (by simp![VQ];lia) m;simp![VQ]at j;exact{a::bs,j,ReprK.tuple e c q out (by simpa using k)}
 |.lst ds,v,u,b,r,hs,hz=>by
  let{Z,f}:=dQ ok (.lst ds) b r;simp![Br]at b;let{a,xs,rfl,_,E,C}:=b;cases r;let{_,I,n,J,e}:=ok a _ E;simp![aX,VW,VQ]at hz f ⊢;let{bs,m,k}:=dR ok ds C J (by simpa only[shw] using hs) λt B=>Zz (listText_mem_le B) hz;let out:a∉bs:=ZaL f (by simp![VQ];lia) m;let j:=ReadAtMost.cons f (by simp![VQ];lia) m;simp![VQ]at j;calc{a::bs,j,?_};cases I with
  |nil=>
   cases k':VX (aK ds) with
   |nil=>simp![listText_nil];exact ReprK.listEmpty e rfl rfl
   |cons _ _=>rw[k']at k;cases k
  |cons y l=>exact ReprK.list e rfl rfl out (by simpa using k.length_eq) (λi y' q'=>k.item i y' (by simpa using q'))
 |.dic ks ds,v,u,b,r,hs,hz=>by
  let{Z,f}:=dQ ok (.dic ks ds) b r;simp![Br]at b;let{a,xs,rfl,_,E,hl,C}:=b;cases r;let{_,L,kvs,rk,o,es,ep,e,ex,q,_,X,_}:=ok a _ E;let{J,k1}:=lZ (by rw[hl,C.len]) rk;simp![shw]at hs;let Y:(ks.map bf).length=(aK ds).length:=by rw[Za,cK,hl]
  simp![aX,VW,VQ]at hz f ⊢;let U:=iu (ks.map bf) (aK ds) Y;let O:=iy (ks.map bf) (aK ds) Y;let dk:=VS ((ks.map bf).zip (aK ds));let T:=VT ((ks.map bf).zip (aK ds));rw[U]at dk;rw[O]at T
  let{bs,m,k}:=dR ok ds C J hs.2 λt B=>by
   let{p,Q,g}:=V1 ((ks.map bf).zip (aK ds)) t (by rw[O];exact B);exact Zz g (Zz (Zau Q) hz)
  let kk:=nk (h:=h) (es:=[]) (d:=VR (ks.map bf)) (bs:=bs) X k1 hs.1 λt B=>by
   let{p,Q,g}:=V0 ((ks.map bf).zip (aK ds)) t (by rw[U];exact B);exact Zz g (Zz (Zau Q) hz)
  let m':=m.mono T;let out:a∉bs:=ZaL f (by simp![VQ];lia) m';let j:=ReadAtMost.cons f (by simp![VQ];lia) m';simp![VQ]at j;calc{a::bs,j,?_};rw[VZ,U,O];calc ReprK.dict e ex.1 q L out (ReprEntriesK.of_two es.toList _ _ (kk.more_le (λ_ z=>z) dk) ?_);rw[cR X];exact k.more_le (λ_ z=>z) T
theorem dR(ok:HOk P w H h):∀ (c:List D) {xs:List V} {u:List Value},BrL N H c xs->aP xs u->rq c->(∀t∈VX (aK c),t.length<=sizeLine)->∃bs,ReadAtMost h (VR (aK c)) bs/\ReprAllK P w bs h (VR (aK c)) u (VX (aK c))
 |[],xs,u,b,r,_,_=>by simp![BrL]at b;subst b;cases r;exact{[],(λ_ m=>nomatch m),by simp![aK,VX];exact .nil}
 |d::c,xs,u,b,r,hs,hz=>by
  simp![BrL]at b;let{x,l,rfl,h1,h2}:=b;cases r with
  |cons r1 r2=>
   simp![aK,VX,VR,rq]at hz hs ⊢;let{B,m1,k}:=GV ok d h1 r1 hs.1 (hz _ Zh);let{n,j,f}:=dR ok c h2 r2 hs.2 λt g=>hz t (Zf _ g);calc{B++n,(m1.mono (Wg _ _)).append (j.mono (X5 _ _)),?_};exact .cons ((k.more λb z=>Z7 _ z).level_le (Wg _ _)) (f.more_le (λb z=>ZK _ z) (X5 _ _))
end
end
section
variable {X:Cx}
structure Shn(d:D):Prop where
 sh:shw d
 sz:(aX d).shown.length<=sizeLine
 dp:(aX d).depth<=100
abbrev ML:List V->Hp->VK->Prop:=λxs H Q=>∃x N d,xs=[x]/\Br N H d x/\Shn d/\Q (.str (aX d).shown) H
def vT{k:Nat}(hr:Room k X.A):aZ X (.builtin "repr") ML:=by
 intro pins s σ H xs us Q I r h;let{x,N,d,rfl,b,⟨hs,v,hd⟩,q}:=h;let{u,rfl,C}:=cF r;let hun:=hr.un;let O:X.A.units+1 < cLine:=by lia
 let U:X.A.in1.guards=aw []:=hr.gd;let fin:∀E t T,(∀b o,s.heap.get? b=aw o->E.get? b=aw o)->∃x' t',Value.str (aX d).shown t=Value.str x' t'/\EP X pins σ Q (Value.str (aX d).shown t) {s with heap:=E,toks:=T}:=λE t T L=>{_,_,rfl,.str _,H,I.kept (t':=T) L,⟨t,rfl⟩,q};cases d with
 |non=>
  simp![Br]at b;subst b;cases C;exact P.repr_of_none {.str _,H,I.tok _,⟨_,rfl⟩,by simpa only[aX,VW] using q}
 |bl y=>
  simp![Br]at b;subst b;cases C;exact P.repr_of_bool {.str _,H,I.tok _,⟨_,rfl⟩,by simpa only[aX,VW] using q}
 |int i=>
  simp![Br]at b;subst b;let{t,rfl}:=C;exact P.repr_of_int (by simpa only[shw] using hs) {.str _,H,I.tok _,⟨_,rfl⟩,by simpa only[aX,VW] using q}
 |str y=>
  simp![Br]at b;subst b;let{t,rfl}:=C;exact P.repr_of_str {.str _,H,I.tok _,⟨_,rfl⟩,by simpa only[aX,VW] using q} (by simpa only[aX,VW] using v)
 |tup g=>
  let{as,f}:=dQ I.hok (.tup g) b C;simp![Br]at b;let{a,ys,rfl,ha,Z}:=b;cases C;let{_,its,rv,o,e,c,n,q',_}:=I.hok a _ ha;simp![aX,VW,VQ]at v f hd fin;let{bs,m,J}:=dR I.hok g Z rv (by simpa only[shw] using hs) λt Y=>Zz (tupleText_mem_le Y) v;let out:a∉bs:=ZaL f (by simp![VQ];lia) m;calc Zam O ⟨o,e,c⟩ F.slot_tuple_repr ?_;exact call_tuple_reprK e c q' out (by simpa using J) U (λb _=>Clear.nil b) (by show X.A.units+1+(_+1) < cLine;lia) (λ_ _ z=>z) (λE t T L=>fin E t T L) v
 |lst g=>
  let{as,f}:=dQ I.hok (.lst g) b C;simp![Br]at b;let{a,ys,rfl,_,ha,Z}:=b;cases C;let{_,its,n,rv,e}:=I.hok a _ ha;simp![aX,VW,VQ]at v f hd fin;let{bs,m,J}:=dR I.hok g Z rv (by simpa only[shw] using hs) λt Y=>Zz (listText_mem_le Y) v;let out:a∉bs:=ZaL f (by simp![VQ];lia) m;calc Zam O ⟨_,e,rfl⟩ F.slot_list_repr.toG ?_;cases its with
  |nil=>
   cases k2:VX (aK g) with
   |nil=>
    rw[k2]at fin;simp![listText_nil]at fin;exact call_list_repr_empty ⟨_,e,rfl⟩ e rfl (fin s.heap _ _ λ_ _ z=>z)
   |cons _ _=>rw[k2]at J;cases J
  |cons y l=>
   exact call_list_reprK e rfl rfl out (by simpa using J.length_eq) (λi y' q2=>J.item i y' (by simpa using q2)) U (λb _=>Clear.nil b) (by show X.A.units+1+(_+1) < cLine;lia) (λ_ _ z=>z) (λE t T L=>fin E t T L) v
 |dic B g=>
  let bb:=b;let{as,f}:=dQ I.hok (.dic B g) b C;simp![Br]at b;let{a,ys,rfl,_,ha,hl,Z}:=b;cases C;let{_,sys,kvs,rk,o,es,ep,e,ex,q',_,pr,_}:=I.hok a _ ha;let{rv,k1}:=lZ (by rw[hl,Z.len]) rk;simp![shw]at hs;let lz:(B.map bf).length=(aK g).length:=by rw[Za,cK,hl]
  simp![aX,VW,VQ]at v f hd fin;let f1:=iu (B.map bf) (aK g) lz;let f2:=iy (B.map bf) (aK g) lz;let dk:=VS ((B.map bf).zip (aK g));let dv:=VT ((B.map bf).zip (aK g));rw[f1]at dk;rw[f2]at dv
  let{bs,m,J}:=dR I.hok g Z rv hs.2 λt Y=>by
   let{p,hp,j}:=V1 ((B.map bf).zip (aK g)) t (by rw[f2];exact Y);exact Zz j (Zz (Zau hp) v)
  let kk:=nk (h:=s.heap) (es:=[]) (d:=VR (B.map bf)) (bs:=bs) pr k1 hs.1 λt Y=>by
   let{p,hp,j}:=V0 ((B.map bf).zip (aK g)) t (by rw[f1];exact Y);exact Zz j (Zz (Zau hp) v)
  let m':=m.mono dv;let out:a∉bs:=ZaL f (by simp![VQ];lia) m';refine Zam O ⟨o,e,ex.1⟩ F.slot_dict_repr ?_
  let hE:ReprEntriesK X.prog X.w bs s.heap (VU ((B.map bf).zip (aK g))) es.toList (VY ((B.map bf).zip (aK g))):=by
   rw[VZ,f1,f2];calc ReprEntriesK.of_two es.toList _ _ (kk.more_le (λ_ z=>z) dk) ?_;rw[cR pr];exact J.more_le (λ_ z=>z) dv
  exact call_dict_reprK e ex.1 q' sys out hE U (λb _=>Clear.nil b) (by show X.A.units+1+(_+1) < cLine;lia) (λ_ _ z=>z) (λE t T L=>fin E t T L) v
end
mutual
noncomputable def sz:D->Nat
 |.non=>10
 |.bl _=>10
 |.int _=>60
 |.str x=>(reprText x).length
 |.tup ds=>szL ds+4
 |.lst ds=>szL ds+4
 |.dic ks ds=>szL ds+62 * ks.length+4
noncomputable def szL:List D->Nat
 |[]=>0
 |d::ds=>sz d+2+szL ds
end
mutual
noncomputable def bnd(B:Nat):D->Prop
 |.int i=>i.natAbs < B
 |.tup ds=>gK B ds
 |.lst ds=>gK B ds
 |.dic ks ds=>(∀k∈ks,∃i,k=Sum.inl i/\i.natAbs < B)/\ks.length=ds.length/\gK B ds
 |_=>True
noncomputable def gK(B:Nat):List D->Prop
 |[]=>True
 |d::ds=>bnd B d/\gK B ds
end
def Cr{i:Int}(h:i.natAbs < 10 ^ 50):i.natAbs.log2 < 1920:=by
 by_cases z:i.natAbs=0
 .rw[z];decide
 .let:i.natAbs.log2 < 167:=(WF z).mpr (ZC h (by decide))
  lia
mutual
theorem yi:∀ (d:D),bnd (10 ^ 50) d->shw d
 |.non,_=>by simp![shw]
 |.bl _,_=>by simp![shw]
 |.str _,_=>by simp![shw]
 |.int i,h=>by simp![shw,bnd]at h ⊢;exact Cr h
 |.tup ds,h=>by simp![shw,bnd]at h ⊢;exact jL ds h
 |.lst ds,h=>by simp![shw,bnd]at h ⊢;exact jL ds h
 |.dic ks ds,h=>by
  simp![shw,bnd]at h ⊢;calc{λk c i e=>?_,jL ds h.2.2};let{j,E,f}:=h.1 k c;rw[e]at E;cases E;exact Cr f
theorem jL:∀ (c:List D),gK (10 ^ 50) c->rq c
 |[],_=>by simp![rq]
 |d::c,h=>by simp![rq,gK]at h ⊢;exact{yi d h.1,jL c h.2}
end
def yj:∀ (T:List Str) (k:Nat) (c:Str),(Za8 k c T).length<=c.length+piled T
 |[],k,c=>by show c.length<=_;lia
 |t::r,k,c=>by
  let I:=yj r (k+1) (c++(if k > 0 then ", " else "" : String)++t);show(Za8 (k+1) (c++(if k > 0 then ", " else "" : String)++t) r).length<=_;rw[piled_cons]
  let e:(c++(if k > 0 then ", " else "" : String)++t).length<=c.length+2+t.length:=by
   rw[Za3,Za3];let:(Str.ofString (if k > 0 then ", " else "" : String)).length<=2:=by split <;> decide
   lia
  lia
def yk(ts:List Str):(Str.join ", " ts).length<=piled ts:=by
 cases ts with
 |nil=>decide
 |cons t r=>have:=join_length_add (t::r) (by simp);lia
def GW(ts:List Str):(listText ts).length<=piled ts+4:=by
 delta listText;rw[Za3];let h1:=yj ts 0 "[";let h2:(Str.ofString "[").length=1:=by decide
 let c:(Str.ofString "]").length=1:=by decide
 let h:(Za8 0 (Str.ofString "[") ts).length<=(Str.ofString "[").length+piled ts:=h1;show(Za8 0 (Str.ofString "[") ts).length+(Str.ofString "]").length<=_
 lia
def Cs(T:List Str):(tupleText T).length<=piled T+4:=by
 delta tupleText;rw[Za3,Za3];let h1:=yk T;let h2:(Str.ofString "(").length=1:=by decide
 let h:(Str.ofString (if T.length == 1 then ",)" else ")" : String)).length<=2:=by split <;> decide
 show(Str.ofString "(").length+_+(Str.ofString (if T.length == 1 then ",)" else ")" : String)).length<=_
 lia
def GY(T:List Str):(dictText T).length<=piled T+4:=by
 delta dictText;rw[Za3,Za3];let h1:=yk T;let h2:(Str.ofString "{").length=1:=by decide
 let h:(Str.ofString "}").length=1:=by decide
 show(Str.ofString "{").length+_+(Str.ofString "}").length<=_
 lia
def Ct{i:Int}(h:i.natAbs < 10 ^ 50):(Str.ofString (toString i)).length<=51:=by
 rw[ofString_len];exact int_text_length_le10 (by decide) h
def K6:∀ (c:List Key) (T:List Str) (h:∀k∈c,∃i,k=Sum.inl i/\i.natAbs < 10 ^ 50),c.length=T.length->piled (List.zipWith (λk v:Str=>k ++ ": " ++ v) (VX (c.map bf)) T)<=piled T+53 * c.length
 |[],[],_,_=>by simp[VX,piled]
 |k::c,t::T,h,hl=>by
  let I:=K6 c T (λf m=>h f (Zf _ m)) (by simpa using hl);let{i,rfl,d}:=h _ Zh;simp![Zw,VX,List.zipWith_cons_cons,piled_cons,Zr,bf,VW];let h1:=Ct d;rw[Za3,Za3];let h2:(Str.ofString ": ").length=2:=by decide
  show(Str.ofString (toString i)).length+(Str.ofString ": ").length+t.length+2+_<=_
  lia
 |[],_::_,_,hl=>by simp at hl
 |_::_,[],_,hl=>by simp at hl
def jM:∀c:List PyData,(VX c).length=c.length
 |[]=>by simp[VX]
 |d::c=>by simp[VX,jM c]
mutual
theorem tN:∀ (d:D),bnd (10 ^ 50) d->(aX d).shown.length<=sz d
 |.non,_=>by simp![aX,VW,sz];decide
 |.bl b,_=>by simp![aX,VW,sz];cases b <;> decide
 |.int i,h=>by
  simp![aX,VW,sz,bnd]at h ⊢;let:=Ct h;show(Str.ofString (toString i)).length<=60
  lia
 |.str x,_=>by simp![aX,VW,sz];exact Zg _
 |.tup ds,h=>by
  simp![aX,VW,sz,bnd]at h ⊢;let:=iA ds h;let:=Cs (VX (aK ds))
  lia
 |.lst ds,h=>by
  simp![aX,VW,sz,bnd]at h ⊢;let:=iA ds h;let:=GW (VX (aK ds))
  lia
 |.dic ks ds,h=>by
  simp![aX,VW,sz,bnd]at h ⊢;let h1:=iA ds h.2.2;let l:(ks.map bf).length=(aK ds).length:=by rw[Za,cK,h.2.1]
  let h2:=GY (VY ((ks.map bf).zip (aK ds)));rw[VZ,iu _ _ l,iy _ _ l]at h2;let c:=K6 ks (VX (aK ds)) h.1 (by rw[jM,cK,h.2.1]);rw[VZ,iu _ _ l,iy _ _ l]
  lia
theorem iA:∀ (c:List D),gK (10 ^ 50) c->piled (VX (aK c))<=szL c
 |[],_=>by simp[aK,VX,piled,szL]
 |d::c,h=>by
  simp![aK,VX,szL,gK,piled_cons]at h ⊢;let h1:=tN d h.1;let h2:=iA c h.2
  lia
end
def tP:∀ (f:List Key) (c:List PyData),VU ((f.map bf).zip c)<=VR c
 |[],c=>by simp[VU]
 |k::f,[]=>by simp[VU]
 |k::f,d::c=>by
  let I:=tP f c;simp![Zw,Yi,VU,VR];let:(bf k).depth=0:=by cases k <;> simp[bf,VQ]
  rw[this]
  lia
mutual
theorem tQ:∀ (d:D),(aX d).depth<=dep d
 |.non=>by simp[aX,VQ]
 |.bl _=>by simp[aX,VQ]
 |.int _=>by simp[aX,VQ]
 |.str _=>by simp[aX,VQ]
 |.tup ds=>by simp![aX,VQ,dep];let:=iB ds;lia
 |.lst ds=>by simp![aX,VQ,dep];let:=iB ds;lia
 |.dic ks ds=>by
  simp![aX,VQ,dep];let:=iB ds;let:=tP ks (aK ds)
  lia
theorem iB:∀ (c:List D),VR (aK c)<=jJ c
 |[]=>by simp[aK,VR,jJ]
 |d::c=>by
  simp![aK,VR,jJ];let:=tQ d;let:=iB c
  lia
end
structure Bd(B s:Nat)(d:D):Prop where
 bn:bnd B d
 sz:sz d<=s
mutual
theorem Cu{B c:Nat}(h:B<=c):∀ (d:D),bnd B d->bnd c d
 |.non,_=>by simp![bnd]
 |.bl _,_=>by simp![bnd]
 |.str _,_=>by simp![bnd]
 |.int i,z=>by simp![bnd]at z ⊢;lia
 |.tup ds,z=>by simp![bnd]at z ⊢;exact ma h ds z
 |.lst ds,z=>by simp![bnd]at z ⊢;exact ma h ds z
 |.dic ks ds,z=>by
  simp![bnd]at z ⊢;exact{λk f=>let ⟨i,e,q⟩:=z.1 k f;{i,e,by lia},z.2.1,ma h ds z.2.2}
theorem ma{B f:Nat}(h:B<=f):∀ (c:List D),gK B c->gK f c
 |[],_=>by simp![gK]
 |d::c,z=>by simp![gK]at z ⊢;exact{Cu h d z.1,ma h c z.2}
end
def Bd.shn{B s:Nat}(h:Bd B s d)(c:B<=10 ^ 50)(hs:s<=sizeLine)(hd:dep d<=100):Shn d:=
 have b:=Cu c d h.bn
 {yi d b,Zz (tN d b) (Zz h.sz hs),Zz (tQ d) hd}
def ym{B:Nat}:∀ {c:List D},(∀d∈c,bnd B d)->gK B c
 |[],_=>by simp![gK]
 |d::c,h=>by simp![gK];exact{h d Zh,ym λe m=>h e (Zf _ m)}
def Cv{B s:Nat}(h:∀d∈c,bnd B d)(hs:szL c+4<=s):Bd B s (.tup c):={by simp![bnd];exact ym h,by simp![sz];exact hs}
def MM{B s:Nat}(h:Bd B s (.tup d)):Bd B s (.lst d):=by
 let h1:=h.bn;let h2:=h.sz;exact{by simp![bnd]at h1 ⊢;exact h1,by simp![sz]at h2 ⊢;exact h2}
end Dw
namespace Ev
open PySem PySem.Spec PyProof.Rows L2
inductive D where
 |non |bl (b:Bool) |int (i:Int) |str (x:Str) |tup (ds:List D) |ref (n:Nat)
inductive Ob where
 |lst (ds:List D) |frz (ds:List D) |dic (ks:List Key) (ds:List D) |dct (ks:List (List NK)) (ds:List D)
@[inline]abbrev Sto:=List Ob
@[inline]abbrev Rho:=List (Option D)
mutual
noncomputable def VD(K:V5)(m:List Addr)(H:Hp):D->V->Prop
 |.non,v=>v = .non
 |.bl b,v=>v = .bl b
 |.int i,v=>v = .int i
 |.str x,v=>v = .str x
 |.tup ds,v=>∃a xs,v = .ref a/\H a=aw (.tup xs)/\VDs K m H ds xs
 |.ref n,v=>∃a,m[n]?=aw a/\v = .ref a
noncomputable def VDs(K:V5)(m:List Addr)(H:Hp):List D->List V->Prop
 |[],xs=>xs=[]
 |d::ds,xs=>∃x r,xs=x::r/\VD K m H d x/\VDs K m H ds r
end
structure Ext(m:List Addr)(H:Hp)(m':List Addr)(H':Hp):Prop where
 pre:m <+: m'
 keep:∀a o,H a=aw o->a∉m->H' a=aw o
 new:∀a,a∈m'->a∉m->H a=aD
abbrev ObR(K:V5)(m:List Addr)(H:Hp)(a:Addr):Ob->Prop
 |.lst ds=>∃v,H a=aw (.lst v)/\VDs K m H ds v
 |.frz ds=>∃o v,H a=aw (.frz o (.lst v))/\VDs K m H ds v
 |.dic ks ds=>∃v,H a=aw (.dK (ks.zip v))/\ks.length=ds.length/\VDs K m H ds v
 |.dct ks ds=>∃v,H a=aw (.dT (ks.zip v))/\ks.length=ds.length/\VDs K m H ds v
structure Rel(K:V5)(m:List Addr)(S:Sto)(H:Hp):Prop where
 len:m.length=S.length
 nd:m.Nodup
 ob:∀ (i:Nat) (o:Ob),S[i]?=aw o->∃a,m[i]?=aw a/\ObR K m H a o
structure EnvR(K:V5)(m:List Addr)(H:Hp)(ρ:Rho)(σ:L2.St):Prop where
 len:ρ.length=σ.length
 at_:∀ (i:Nat) (d:D),ρ[i]?=aw (aw d)->∃v,σ[i]?=aw (aw v)/\VD K m H d v
def Ext.refl(m:List Addr)(H:Hp):Ext m H m H:={Yr m,λ_ _ h _=>h,λ_ h n=>absurd h n}
def Ext.trans(x:Ext m H m1 f)(y:Ext m1 f d H2):Ext m H d H2:=by
 refine{x.pre.trans y.pre,λa o h n=>?_,λa h n=>?_}
 .let c:a∉m1:=λz=>by let:=x.new a z n;rw[this]at h;cases h
  exact y.keep a o (x.keep a o h n) c
 .by_cases h1:a∈m1
  .exact x.new a h1 n
  .cases e:H a with
   |none=>rfl
   |some o=>
    let:=x.keep a o e n;rw[y.new a h h1]at this;cases this
section
variable {K:V5} {m M:List Addr} {S s:Sto} {H c:Hp} {a:Addr}
def Rel.ex(R:Rel K m S H)(l:a∈m):∃o ob,H a=aw o/\ObR K m H a ob:=by
 let{i,j,e}:=List.getElem_of_mem l;let g:i < S.length:=by rw[<-R.len];exact j
 let{b,hb,r}:=R.ob i S[i] (gEG g);let:b=a:=by rw[gEG j]at hb;rw[<-e];exact(θ hb).symm
 subst this;cases f:S[i] with
 |lst d=>rw[f]at r;let{v,h,q}:=r;exact{_,.lst d,h,v,h,q}
 |frz d=>rw[f]at r;let{o,v,h,q}:=r;exact{_,.frz d,h,o,v,h,q}
 |dic k d=>rw[f]at r;let{v,h,q}:=r;exact{_,.dic k d,h,v,h,q}
 |dct k d=>rw[f]at r;let{v,h,q}:=r;exact{_,.dct k d,h,v,h,q}
def Rel.no(R:Rel K m S H)(h:H a=aD):a∉m:=λz=>by
 let{o,_,e,_}:=R.ex z;rw[h]at e;cases e
def Rel.notTup(R:Rel K m S H)(h:H a=aw (.tup xs)):a∉m:=λz=>by
 let{o,ob,e,r}:=R.ex z;cases ob with
 |lst d=>let{v,q,_}:=r;rw[q]at h;cases h
 |frz d=>let{o,v,q,_}:=r;rw[q]at h;cases h
 |dic k d=>let{v,q,_}:=r;rw[q]at h;cases h
 |dct k d=>let{v,q,_}:=r;rw[q]at h;cases h
def Tup.ext(R:Rel K m S H)(x:Ext m H M c)(h:H a=aw (.tup xs)):c a=aw (.tup xs):=x.keep _ _ h (R.notTup h)
def rA{i:Nat}(h:m <+: M)(e:m[i]?=aw a):M[i]?=aw a:=by
 let{t,rfl}:=h;let d:i < m.length:=(Zb.mp e).1;rw[ZB d];exact e
mutual
theorem VD.mono0(pre:m <+: M)(T:∀a xs,H a=aw (.tup xs)->c a=aw (.tup xs)):∀ {d:D} {v:V},VD K m H d v->VD K M c d v
 |.non,v,h=>by rw[VD]at h ⊢;exact h
 |.bl _,v,h=>by rw[VD]at h ⊢;exact h
 |.int _,v,h=>by rw[VD]at h ⊢;exact h
 |.str _,v,h=>by rw[VD]at h ⊢;exact h
 |.tup ds,v,h=>by
  rw[VD]at h ⊢;let{a,xs,e,q,r}:=h;exact{a,xs,e,T a xs q,VDs.mono0 pre T r}
 |.ref n,v,h=>by
  rw[VD]at h ⊢;let{a,q,e}:=h;exact{a,rA pre q,e}
theorem VDs.mono0(pre:m <+: M)(T:∀a xs,H a=aw (.tup xs)->c a=aw (.tup xs)):∀ {f:List D} {v:List V},VDs K m H f v->VDs K M c f v
 |[],v,h=>by rw[VDs]at h ⊢;exact h
 |d::f,v,h=>by
  rw[VDs]at h ⊢;let{y,r,e,p,q}:=h;exact{y,r,e,VD.mono0 pre T p,VDs.mono0 pre T q}
end
def VD.mono(R:Rel K m S H)(x:Ext m H M c)(h:VD K m H d v):VD K M c d v:=VD.mono0 x.pre (λ_ _=>Tup.ext R x) h
def VDs.mono(R:Rel K m S H)(x:Ext m H M c)(h:VDs K m H d vs):VDs K M c d vs:=VDs.mono0 x.pre (λ_ _=>Tup.ext R x) h
def EnvR.mono(R:Rel K m S H)(x:Ext m H M c)(h:EnvR K m H f σ):EnvR K M c f σ:=
 {h.len,λi d e=>let ⟨v,p,q⟩:=h.at_ i d e;{v,p,VD.mono R x q}}
def VDs.length:∀ {f:List D} {v:List V},VDs K m H f v->f.length=v.length
 |[],v,h=>by rw[VDs]at h;rw[h];rfl
 |d::f,v,h=>by
  rw[VDs]at h;let{y,r,e,_,q}:=h;rw[e,Zr,Zr,VDs.length q]
def VDs.nil:VDs K m H [] []:=by rw[VDs]
def VDs.cons(h:VD K m H d v)(t:VDs K m H g f):VDs K m H (d::g) (v::f):=by rw[VDs];exact⟨v,f,rfl,h,t⟩
def VDs.get:∀ {f:List D} {g:List V} {i:Nat} {d:D},VDs K m H f g->f[i]?=aw d->∃v,g[i]?=aw v/\VD K m H d v
 |[],_,_,_,_,e=>by simp at e
 |d::f,g,0,d',h,e=>by
  rw[VDs]at h;let{y,r,rfl,p,q}:=h;simp at e;subst e;exact⟨y,rfl,p⟩
 |d::f,g,i+1,d',h,e=>by
  rw[VDs]at h;let{y,r,rfl,p,q}:=h;let{v,k,j}:=VDs.get (i:=i) q (by simpa using e);exact{v,by simpa using k,j}
def VDs.append:∀ {g E:List D} {v f:List V},VDs K m H g v->VDs K m H E f->VDs K m H (g++E) (v++f)
 |[],_,v,_,h,t=>by rw[VDs]at h;subst h;exact t
 |d::g,E,v,f,h,t=>by
  rw[VDs]at h;let{y,r,rfl,p,q}:=h;exact .cons p (VDs.append q t)
def VDs.drop:∀ {f:List D} {v:List V} (n:Nat),VDs K m H f v->VDs K m H (f.drop n) (v.drop n)
 |f,v,0,h=>h
 |[],v,n+1,h=>by rw[VDs]at h;subst h;exact .nil
 |d::f,v,n+1,h=>by
  rw[VDs]at h;let{y,r,rfl,p,q}:=h;exact VDs.drop n q
def VDs.take:∀ {f:List D} {v:List V} (n:Nat),VDs K m H f v->VDs K m H (f.take n) (v.take n)
 |f,v,0,h=>by simp![List.take_zero];exact .nil
 |[],v,n+1,h=>by rw[VDs]at h;subst h;exact .nil
 |d::f,v,n+1,h=>by
  rw[VDs]at h;let{y,r,rfl,p,q}:=h;exact .cons p (VDs.take n q)
def VDs.set:∀ {g:List D} {f:List V} {i:Nat} {d:D} {v:V},VDs K m H g f->VD K m H d v->VDs K m H (g.set i d) (f.set i v)
 |[],f,_,_,_,h,_=>by rw[VDs]at h;subst h;exact .nil
 |_::g,f,0,d,v,h,p=>by
  rw[VDs]at h;let{y,r,rfl,_,q}:=h;exact .cons p q
 |_::g,f,i+1,d,v,h,p=>by
  rw[VDs]at h;let{y,r,rfl,j,q}:=h;exact .cons j (VDs.set q p)
def Ext.beside(R:Rel K m S H)(h:H a=aD)(o:HO):Ext m H m (upd H a o):=
 {Yr m,λb u e _=>by rw[ax (aR e h)];exact e,λb z n=>absurd z n}
def Rel.ext_keep(R:Rel K m S H)(x:Ext m H m c)(k:∀b∈m,c b=H b):Rel K m S c:=by
 calc{R.len,R.nd,λi o e=>?_};let{b,hb,r}:=R.ob i o e;let h:b∈m:=Zj hb;calc{b,hb,?_};cases o with
 |lst d=>let{v,p,q}:=r;exact{v,(k b h).trans p,VDs.mono R x q}
 |frz d=>let{o,v,p,q}:=r;exact{o,v,(k b h).trans p,VDs.mono R x q}
 |dic f d=>let{v,p,l,q}:=r;exact{v,(k b h).trans p,l,VDs.mono R x q}
 |dct f d=>let{v,p,l,q}:=r;exact{v,(k b h).trans p,l,VDs.mono R x q}
def Rel.beside(R:Rel K m S H)(h:H a=aD)(o:HO):Rel K m S (upd H a o):=
 R.ext_keep (Ext.beside R h o) λb hb=>ax λz=>R.no h (z▸hb)
def Rel.adoptP{a:Addr}{ob:Ob}(R:Rel K m S H)(n:a∉m)(h:ObR K (m++[a]) H a ob):Rel K (m++[a]) (S++[ob]) H:=by
 let p:=Yz m [a];let g:∀ {E:List D} {ws:List V},VDs K m H E ws->VDs K (m++[a]) H E ws:=λz=>VDs.mono0 p (λ_ _ t=>t) z;calc{by simp[R.len],Y0.mpr {R.nd,by simp,λx u y f=>by simp at f;subst f;exactλz=>n (z▸u)},λi o e=>?_};by_cases B:i < S.length
 .rw[ZB B]at e;let{b,hb,r}:=R.ob i o e;calc{b,rA p hb,?_};cases o with
  |lst d=>let{v,p,q}:=r;exact{v,p,g q}
  |frz d=>let{o,v,p,q}:=r;exact{o,v,p,g q}
  |dic k d=>let{v,p,l,q}:=r;exact{v,p,l,g q}
  |dct k d=>let{v,p,l,q}:=r;exact{v,p,l,g q}
 .rw[Zv (by lia)]at e
  let j:i - S.length=0:=by
   let:=(Zb.mp e).1;simp at this;lia
  rw[j]at e;let C:ob=o:=by simpa using e
  subst C;calc{a,?_,h};rw[Zv (by rw[R.len];lia),R.len,j];rfl
def Rel.adopt(R:Rel K m S H)(n:a∉m)(h:H a=aw (.lst v))(q:VDs K m H d v):Rel K (m++[a]) (S++[.lst d]) H:=R.adoptP n {v,h,VDs.mono0 (Yz m [a]) (λ_ _ t=>t) q}
def Ext.adopt(x:Ext m H m c)(h:H a=aD):Ext m H (m++[a]) c:=
 ⟨Yz m [a],x.keep,λb hb nb=>by
  rcases ZQ.mp hb with z |z
  .exact absurd z nb
  .simp at z;subst z;exact h⟩
def Rel.write(R:Rel K m S H){i:Nat}(hi:m[i]?=aw a)(q:VDs K m H g v):Ext m H m (upd H a (.lst v))/\Rel K m (S.set i (.lst g)) (upd H a (.lst v)):=by
 let f:a∈m:=Zj hi;let x:Ext m H m (upd H a (.lst v)):={Yr m,λb u e n=>by rw[ax (show b≠a fromλz=>n (by rw[z];exact f))];exact e,λb z n=>absurd z n};calc{x,by simp[R.len],R.nd,λj o e=>?_};rw[YB]at e;by_cases h:i=j
 .subst h;rw[if_pos rfl]at e;split at e
  .let y:=θ e;subst y;exact{a,hi,v,aG,VDs.mono R x q}
  .cases e
 .rw[if_neg h]at e;let{b,hb,r}:=R.ob j o e
  let ne:b≠a:=λz=>by
   subst z;let h1:=Zb.mp hi;let h2:=Zb.mp hb;exact h ((YO R.nd).mp (h1.2.trans h2.2.symm))
  calc{b,hb,?_};cases o with
  |lst E=>let{d,p,q}:=r;exact{d,by rw[ax ne];exact p,VDs.mono R x q}
  |frz E=>let{o,d,p,q}:=r;exact{o,d,by rw[ax ne];exact p,VDs.mono R x q}
  |dic k E=>let{d,p,l,q}:=r;exact{d,by rw[ax ne];exact p,l,VDs.mono R x q}
  |dct k E=>let{d,p,l,q}:=r;exact{d,by rw[ax ne];exact p,l,VDs.mono R x q}
def Rel.lst(R:Rel K m S H){i:Nat}(e:S[i]?=aw (.lst d)):∃a vs,m[i]?=aw a/\H a=aw (.lst vs)/\VDs K m H d vs:=by
 let{a,h,vs,p,q}:=R.ob i _ e;exact⟨a,vs,h,p,q⟩
end
abbrev aU(S:Sto)(n:Nat):Option (List D):=match S[n]? with
 |some (.lst ds)=>aw ds
 |some (.frz ds)=>aw ds
 |_=>aD
def Rel.seq{K:V5}{m:List Addr}{S:Sto}{H:Hp}(R:Rel K m S H){i:Nat}{d:List D}(e:aU S i=aw d):∃a vs,m[i]?=aw a/\SqL K H a vs/\VDs K m H d vs:=by
 delta aU at e;cases h:S[i]? with
 |none=>rw[h]at e;cases e
 |some o=>
  rw[h]at e;cases o with
  |lst E=>cases e;let{a,c,vs,p,q}:=R.ob i _ h;exact{a,vs,c,.inl (.inl p),q}
  |frz E=>cases e;let{a,c,o,vs,p,q}:=R.ob i _ h;exact{a,vs,c,.inl (.inr ⟨o,p⟩),q}
  |dic k E=>cases e
  |dct k E=>cases e
@[inline]abbrev XE:=Rho->Sto->Option (D×Sto)
@[inline]abbrev XT:=Rho->Sto->Option (Bool×Sto)
@[inline]abbrev XA:=Rho->Sto->Option (List D×Sto)
abbrev bnd{d c:Type}(x:Option (d×Sto))(f:d->Sto->Option (c×Sto)):Option (c×Sto):=match x with
 |none=>aD
 |some (a,S)=>f a S
def ac{d c:Type}{x:Option (d×Sto)}{f:d->Sto->Option (c×Sto)}{r:c×Sto}(h:bnd x f=aw r):∃a S,x=aw (a,S)/\f a S=aw r:=by
 delta bnd at h;cases x with
 |none=>cases h
 |some p=>exact⟨p.1,p.2,rfl,h⟩
structure Aft(K:V5)(m:List Addr)(H:Hp)(S':Sto)(m':List Addr)(H':Hp):Prop where
 ext:Ext m H m' H'
 rel:Rel K m' S' H'
abbrev tE(K:V5)(x:XE):TE:=λj H Q=>∃m c S d g,EnvR K m H c j/\Rel K m S H/\x c S=aw (d,g)/\∀f h v,Aft K m H g f h->VD K f h d v->Q v h
abbrev tT(K:V5)(x:XT):TT:=λg H Q=>∃m c S b d,EnvR K m H c g/\Rel K m S H/\x c S=aw (b,d)/\∀f h,Aft K m H d f h->Q b h
abbrev tAr(K:V5)(x:XA):TA:=λj H Q=>∃m c S g f,EnvR K m H c j/\Rel K m S H/\x c S=aw (g,f)/\∀d h v,Aft K m H f d h->VDs K d h g v->Q v h
abbrev SqB(K:V5)(T:Bool)(H:Hp)(a:Addr)(v:List V):Prop:=if T=aN then H a=aw (.tup v) else SqL K H a v
abbrev gx(K:V5)(x:XA):TE:=λj H Q=>∃m d S g f,EnvR K m H d j/\Rel K m S H/\x d S=aw (g,f)/\∀c h a v,Aft K m H f c h->h a=aw (.lst v)->a∉c->(∀b,b∈m->b≠a)->H a=aD->VDs K c h g v->Q (.ref a) h
section
variable {X:Cx} {e:Expr} {K:V5} {m M c:List Addr} {H j k:Hp} {S S1 l:Sto}
def PE.imp(h:PE X e t)(f:∀d H Q,t' d H Q->t d H Q):PE X e t':=λp s d H Q I q=>h p s d H Q I (f d H Q q)
def PT.imp(h:PT X e t)(f:∀d H Q,t' d H Q->t d H Q):PT X e t':=λp s d H Q I q=>h p s d H Q I (f d H Q q)
def PA.imp(h:PA X E t)(f:∀g H Q,t' g H Q->t g H Q):PA X E t':=λp d s g H Q I q=>h p d s g H Q I (f g H Q q)
def PS.imp{st:Stmt}{t t':TS}(h:PS X st t)(f:∀D d H,t' D d H->t D d H):PS X st t':=λp s d H D I q=>h p s d H D I (f D d H q)
def PSs.imp{st:List Stmt}{t t':TS}(h:PSs X st t)(f:∀D d H,t' D d H->t D d H):PSs X st t':=λp s d H D I q=>h p s d H D I (f D d H q)
def PI.imp(h:PI X T g t)(f:∀d H Q,t' d H Q->t d H Q):PI X T g t':=λp s d H Q I q=>h p s d H Q I (f d H Q q)
def PI.or(h:PI X T f t)(h':PI X T f t'):PI X T f (λd H Q=>t d H Q\/t' d H Q):=λp s d H Q I q=>q.elim (h p s d H Q I) (h' p s d H Q I)
def OpR.imp(h:OpR X f r)(g:∀x y H Q,r' x y H Q->r x y H Q):OpR X f r':=λp s n H x y v u Q I d o q=>h p s n H x y v u Q I d o (g _ _ _ _ q)
def OpR.or(h:OpR X f r)(h':OpR X f o):OpR X f (λx y H Q=>r x y H Q\/o x y H Q):=λp s g H x y v u Q I d n q=>
 q.elim (h p s g H x y v u Q I d n) (h' p s g H x y v u Q I d n)
def aZ.imp(h:aZ X f r)(g:∀x H Q,r' x H Q->r x H Q):aZ X f r':=λp s n H xs u Q I d q=>h p s n H xs u Q I d (g _ _ _ q)
def aZ.or(h:aZ X f r)(h':aZ X f n):aZ X f (λx H Q=>r x H Q\/n x H Q):=λp s g H xs u Q I d q=>
 q.elim (h p s g H xs u Q I d) (h' p s g H xs u Q I d)
def Aft.refl(R:Rel K m S H):Aft K m H S m H:={Ext.refl m H,R}
def Aft.trans(x:Aft K m H S1 M j)(y:Aft K M j l c k):Aft K m H l c k:={x.ext.trans y.ext,y.rel}
abbrev rS(K:V5)(f:D->D->Sto->Option (D×Sto)):R2:=λv w H Q=>∃m S a b d n,Rel K m S H/\VD K m H a v/\VD K m H b w/\f a b S=aw (d,n)/\∀g h u,Aft K m H n g h->VD K g h d u->Q u h
abbrev rS1(K:V5)(f:D->Sto->Option (D×Sto)):V->Hp->VK->Prop:=λv H Q=>∃m S a d n,Rel K m S H/\VD K m H a v/\f a S=aw (d,n)/\∀g h u,Aft K m H n g h->VD K g h d u->Q u h
abbrev rSA(K:V5)(f:List D->Sto->Option (D×Sto)):List V->Hp->VK->Prop:=λv H Q=>∃m S n d o,Rel K m S H/\VDs K m H n v/\f n S=aw (d,o)/\∀g h u,Aft K m H o g h->VD K g h d u->Q u h
abbrev rSq(K:V5)(f:Bool->List D->Sto->Option (D×Sto)):V->Hp->VK->Prop:=λv H Q=>∃m S T o a p d n,Rel K m S H/\v = .ref a/\SqB K T H a p/\VDs K m H o p/\f T o S=aw (d,n)/\∀g h u,Aft K m H n g h->VD K g h d u->Q u h
abbrev tR(f:D->D->Sto->Option (D×Sto))(x y:XE):XE:=λd S=>bnd (x d S) λa S1=>bnd (y d S1) λb l=>f a b l
abbrev xUn(f:D->Sto->Option (D×Sto))(x:XE):XE:=λd S=>bnd (x d S) λa S1=>f a S1
abbrev nq(f:List D->Sto->Option (D×Sto))(x:XA):XE:=λd S=>bnd (x d S) λa S1=>f a S1
abbrev rB(f:Bool->List D->Sto->Option (D×Sto))(x:XA):XE:=λg S=>bnd (x g S) λd S1=>f aS d S1
abbrev aq(d:D)(S:Sto):Option (Bool×List D):=match d with
 |.tup f=>aw (aN,f)
 |.ref n=>(aU S n).map λf=>(aS,f)
 |_=>aD
abbrev au(f:Bool->List D->Sto->Option (D×Sto))(d:D)(S:Sto):Option (D×Sto):=match aq d S with
 |some r=>f r.1 r.2 S
 |none=>aD
abbrev rC(f:Bool->List D->Sto->Option (D×Sto))(x:XE):XE:=λg S=>bnd (x g S) λd S1=>au f d S1
def rD{f:D->D->Sto->Option (D×Sto)}{x y:XE}{p:L2.St}{H:Hp}{Q:VK}(h:tE K (tR f x y) p H Q):tOp (rS K f) (tE K x) (tE K y) p H Q:=by
 let{m,o,S,d,T,E,R,e,q}:=h;let{a,S1,O,e}:=ac e;let{b,l,I,e}:=ac e;calc{m,o,S,a,S1,E,R,O,λM j v g J=>{M,o,S1,b,l,E.mono R g.ext,g.rel,I,λc k w n vb=>?_}};exact{c,l,a,b,d,T,n.rel,J.mono g.rel n.ext,vb,e,λL C u B vd=>q L C u ((g.trans n).trans B) vd}
def Cw{f:D->Sto->Option (D×Sto)}{x:XE}{n:L2.St}{H:Hp}{Q:VK}(h:tE K (xUn f x) n H Q):tUn (rS1 K f) (tE K x) n H Q:=by
 let{m,y,S,d,I,E,R,e,q}:=h;let{a,S1,C,e}:=ac e;exact{m,y,S,a,S1,E,R,C,λM j v g p=>{M,S1,a,d,I,g.rel,p,e,λJ B u o vd=>q J B u (g.trans o) vd}}
def Cy{f:List D->Sto->Option (D×Sto)}{x:XA}{n:L2.St}{H:Hp}{Q:VK}(h:tE K (nq f x) n H Q):tCB (rSA K f) (tAr K x) n H Q:=by
 let{m,y,S,d,I,E,R,e,q}:=h;let{a,S1,C,e}:=ac e;exact{m,y,S,a,S1,E,R,C,λM j v g p=>{M,S1,a,d,I,g.rel,p,e,λJ B u o vd=>q J B u (g.trans o) vd}}
def MN{f:Bool->List D->Sto->Option (D×Sto)}{x:XA}{o:L2.St}{H:Hp}{Q:VK}(h:tE K (rB f x) o H Q):tUn (rSq K f) (gx K x) o H Q:=by
 let{m,y,S,d,J,E,R,e,q}:=h;let{n,S1,I,e}:=ac e;exact{m,y,S,n,S1,E,R,I,λM j a v g C _ _ _ vd=>{M,S1,aS,n,a,v,d,J,g.rel,rfl,show SqL K j a v from SqL.of C,vd,e,λL B u p vd=>q L B u (g.trans p) vd}}
abbrev zZ(i:Nat):XE:=λf S=>match f[i]? with
 |some (aw d)=>aw (d,S)
 |_=>aD
abbrev xC(d:D):XE:=λ_ S=>aw (d,S)
def MO{i:Nat}(h:tE K (zZ i) p H Q):Bv i p H Q:=by
 let{m,g,S,d,y,E,R,e,q}:=h;delta zZ at e;cases f:g[i]? with
 |none=>rw[f]at e;cases e
 |some o=>
  rw[f]at e;cases o with
  |none=>cases e
  |some u=>
   cases e;let{v,n,vd}:=E.at_ i d f;exact{v,n,q m H v (Aft.refl R) vd}
def Cz(f:∀m H,VD K m H d v)(h:tE K (xC d) g H Q):tC v g H Q:=by
 let{m,n,S,o,p,E,R,e,q}:=h;cases e;exact q m H v (Aft.refl R) (f m H)
def nt:VD K m H .non .non:=by rw[VD]
def cG:VD K m H (.bl b) (.bl b):=by rw[VD]
def bv{i:Int}:VD K m H (.int i) (.int i):=by rw[VD]
def nu:VD K m H (.str x) (.str x):=by rw[VD]
def kC(h:H a=aw (.tup v))(q:VDs K m H d v):VD K m H (.tup d) (.ref a):=by rw[VD];exact⟨a,v,rfl,h,q⟩
def VD.ints{i:Int}(h:VD K m H (.int i) v):v = .int i:=by rw[VD]at h;exact h
def VD.bls(h:VD K m H (.bl i) v):v = .bl i:=by rw[VD]at h;exact h
def VD.strs(h:VD K m H (.str i) v):v = .str i:=by rw[VD]at h;exact h
def VD.nons(h:VD K m H .non v):v = .non:=by rw[VD]at h;exact h
def VD.tups(h:VD K m H (.tup d) v):∃a vs,v = .ref a/\H a=aw (.tup vs)/\VDs K m H d vs:=by rw[VD]at h;exact h
def VD.refs{n:Nat}(h:VD K m H (.ref n) v):∃a,m[n]?=aw a/\v = .ref a:=by rw[VD]at h;exact h
abbrev z9:XA:=λ_ S=>aw ([],S)
abbrev yn(x:XE)(y:XA):XA:=λd S=>bnd (x d S) λa S1=>bnd (y d S1) λf l=>aw (a::f,l)
def MP(h:tAr K z9 d H Q):jF d H Q:=by
 let{m,f,S,g,n,E,R,e,q}:=h;cases e;exact q m H [] (Aft.refl R) .nil
def GZ{x:XE}{y:XA}{g:L2.St}{H:Hp}{Q:List V->Hp->Prop}(h:tAr K (yn x y) g H Q):ci (tE K x) (tAr K y) g H Q:=by
 let{m,f,S,B,C,E,R,e,q}:=h;let{a,S1,u,e}:=ac e;let{b,l,p,e}:=ac e;cases e;calc{m,f,S,a,S1,E,R,u,λM j v d o=>{M,f,S1,b,_,E.mono R d.ext,d.rel,p,λc k w n vb=>?_}};exact q c k _ (d.trans n) (.cons (o.mono d.rel n.ext) vb)
abbrev nv(d:List D)(S:Sto):Option (D×Sto):=if d.length<=1000 then aw (.tup d,S) else aD
def ny{n:Nat}(h:n<=1000):n<=sizeLine:=by rw[Za0];lia
def jN{g:List D}{v:List V}{Q:VK}(R:Rel K m S H)(vd:VDs K m H g v)(q:∀f h u,Aft K m H S f h->VD K f h (.tup g) u->Q u h):∀p,H p=aD->Q (.ref p) (upd H p (.tup v)):=λp d=>
 q m _ _ {Ext.beside R d _,R.beside d _} (kC aG (vd.mono R (Ext.beside R d _)))
def md{g:List D}{v:List V}{Q:VK}(R:Rel K m S H)(vd:VDs K m H g v)(q:∀f d u,Aft K m H (S++[.lst g]) f d->VD K f d (.ref S.length) u->Q u d):∀p,H p=aD->Q (.ref p) (upd H p (.lst v)):=λp h=>by
 let x:=Ext.beside R h (.lst v);calc q (m++[p]) _ _ {x.adopt h,(R.beside h _).adopt (R.no h) aG (vd.mono R x)} ?_;rw[VD];exact{p,by rw[Zv (by rw[R.len];exact Zg _),R.len,Z5];rfl,rfl}
def mf{g:List D}{v:List V}{Q:VK}(R:Rel K m S H)(vd:VDs K m H g v)(q:∀f d a v,Aft K m H S f d->d a=aw (.lst v)->a∉f->(∀b,b∈m->b≠a)->H a=aD->VDs K f d g v->Q (.ref a) d):∀p,H p=aD->Q (.ref p) (upd H p (.lst v)):=λp h=>
 q m _ _ _ {Ext.beside R h _,R.beside h _} aG (R.no h) (λb hb z=>R.no h (z▸hb)) h (vd.mono R (Ext.beside R h _))
def MQ{x:XA}{f:L2.St}{H:Hp}{Q:VK}(h:tE K (nq nv x) f H Q):Ry (tAr K x) f H Q:=by
 let{m,g,S,I,L,E,R,e,q}:=h;let{a,S1,B,e}:=ac e;delta nv at e;split at e
 .rename_i y;cases e;exact{m,g,S,a,_,E,R,B,λM j J d v=>{ny (by rw[<-v.length];exact y),jN d.rel v λn o u C p=>q n o u (d.trans C) p}}
 .cases e
abbrev qc(x:XA):XA:=λf S=>bnd (x f S) λd S1=>if d.length<=1000 then aw (d,S1) else aD
def G0{x:XA}{p:L2.St}{H:Hp}{Q:VK}(h:gx K (qc x) p H Q):Rz (tAr K x) p H Q:=by
 let{m,B,S,ds,S',E,R,e,q}:=h;let{a,S1,y,e}:=ac e;split at e
 .rename_i J;cases e;refine{m,B,S,_,_,E,R,y,λM j vs d v=>{ny (by rw[<-v.length];exact J),mf d.rel v λL O u U Z I Y g n T=>?_}}
  let C:H u=aD:=by
   cases e:H u with
   |none=>rfl
   |some o=>
    by_cases f:u∈m
    .exact absurd rfl (g u (d.ext.pre.subset f))
    .let:=d.ext.keep u o e f;rw[this]at n;cases n
  exact q L O u U (d.trans Z) I Y (λb hb=>g b (d.ext.pre.subset hb)) C T
 .cases e
def fu{d:D}{v:V}{tu:Bool}{ds:List D}(R:Rel K m S H)(vd:VD K m H d v)(e:aq d S=aw (tu,ds)):∃a vs,v = .ref a/\SqB K tu H a vs/\VDs K m H ds vs:=by
 delta aq at e;cases d with
 |tup f=>
  cases e;let{a,vs,e,q,r}:=vd.tups;exact⟨a,vs,e,q,r⟩
 |ref n=>
  let{a,h,E}:=vd.refs;cases hs:aU S n with
  |none=>simp[hs]at e
  |some f=>
   simp[hs]at e;let{rfl,rfl}:=e;let{b,vs,hb,q,r}:=R.seq hs;rw[h]at hb;cases hb;exact⟨a,vs,E,q,r⟩
 |_=>cases e
def MR{f:Bool->List D->Sto->Option (D×Sto)}{x:XE}{o:L2.St}{H:Hp}{Q:VK}(h:tE K (rC f x) o H Q):tUn (rSq K f) (tE K x) o H Q:=by
 let{m,I,S,d,B,E,R,e,q}:=h;let{a,S1,p,e}:=ac e;calc{m,I,S,a,S1,E,R,p,λM j v g T=>?_};delta au at e;split at e
 .rename_i r O;let{b,y,U,L,n}:=fu (tu:=r.1) (ds:=r.2) g.rel T O;exact{M,S1,r.1,r.2,b,y,d,B,g.rel,U,L,n,e,λY J u C vd=>q Y J u (g.trans C) vd}
 .cases e
abbrev eY(x:XA):XE:=λf S=>bnd (x f S) λd S1=>aw (.ref S1.length,S1++[.lst d])
def tS{x:XA}{g:L2.St}{H:Hp}{Q:VK}(h:tE K (eY x) g H Q):gx K x g H Q:=by
 let{m,o,S,d,I,E,R,e,q}:=h;let{u,S1,y,e}:=ac e;cases e;calc{m,o,S,u,S1,E,R,y,λM j a C f v n B p vd=>?_};refine q (M++[a]) j _ {{f.ext.pre.trans (Yz _ _),f.ext.keep,λb hb nb=>?_},f.rel.adopt n v vd} ?_
 .rcases ZQ.mp hb with z |z
  .exact f.ext.new b z nb
  .simp at z;subst z;exact p
 .rw[VD];exact{a,by rw[Zv (by rw[f.rel.len];exact Zg _),f.rel.len,Z5];rfl,rfl}
end
abbrev eqL(f:D->D->Option Bool):List D->List D->Option Bool
 |[],[]=>aw aN
 |x::xs,y::ys=>match f x y,eqL f xs ys with
  |some a,aw b=>aw (a && b)
  |_,_=>aD
 |_,_=>aw aS
abbrev eqB:D->D->Option Bool
 |.non,.non=>aw aN
 |.bl a,.bl b=>aw (a == b)
 |.int a,.int b=>aw (a == b)
 |.str a,.str b=>aw (a == b)
 |.bl a,.int b=>aw ((if a then 1 else 0) == b)
 |.int a,.bl b=>aw (a == (if b then 1 else 0))
 |_,_=>aD
abbrev eqD(_:Nat)(S:Sto)(x y:D):Option Bool:=match x,y with
 |.tup xs,.tup ys=>eqL eqB xs ys
 |.ref a,.ref b=>match aU S a,aU S b with
  |some xs,aw ys=>if a=b then aw aN else if xs.length=ys.length then eqL eqB xs ys else aw aS
  |_,_=>aD
 |x,y=>eqB x y
section
variable {X:Cx} {K:V5} {m:List Addr} {H:Hp} {S:Sto}
def tU{f:D->D->Option Bool}:∀ {xs Y:List D} {b:Bool},eqL f xs Y=aw b->∃g:Nat->Bool,(∀j x y,xs[j]?=aw x->Y[j]?=aw y->f x y=aw (g j))/\b=((Zm (min xs.length Y.length)).all g && (xs.length == Y.length))
 |[],[],b,h=>by simp[eqL]at h;exact{λ_=>aN,λj x y e=>by simp at e,by simp[<-h]}
 |[],_::_,b,h=>by simp[eqL]at h;exact{λ_=>aN,λj x y e=>by simp at e,by simp[<-h]}
 |_::_,[],b,h=>by simp[eqL]at h;exact{λ_=>aN,λj x y _ e=>by simp at e,by simp[<-h]}
 |x::xs,y::Y,b,h=>by
  rw[eqL]at h;split at h
  .rename_i a c h1 h2;cases h;let{g,l,o}:=tU h2;refine⟨λj=>match j with |0=>a |j+1=>g j,λj k n d E=>?_,?_⟩
   .cases j with
    |zero=>cases d;cases E;exact h1
    |succ j=>exact l j k n d E
   .rw[o];simp![Zr,Nat.succ_min_succ,List.range_succ_eq_map,Yc,Yu];rw[Bool.and_assoc,show(xs.length+1 == Y.length+1)=(xs.length == Y.length) by simp];rfl
  .cases h
def yo{f:List V}{its:List Value}{xs:List D}(p:VDs K m H xs f)(r:aP f its){j:Nat}(g:j < its.toArray.size):∃x v,xs[j]?=aw x/\VD K m H x v/\aI v its.toArray[j]:=by
 let h:j < its.length:=by simpa using g
 let l1:=p.length;let l2:=r.length;let{v,k,vd}:=p.get (i:=j) (d:=xs[j]'(by lia)) (gEG _);let{u,c,l}:=r.get k;rw[gEG h]at c;cases c;exact{_,v,gEG (by lia),vd,l}
def CA{A:Around}{s:Shared}{x y:D}{v w:V}{u U:Value}{b:Bool}(h1:VD K m H x v)(h2:VD K m H y w)(r1:aI v u)(r2:aI w U)(h:eqB x y=aw b):V2 A s u U b/\SeqAt.RcAt A s u U b/\V3 A s u U (!b):=by
 delta eqB at h;split at h
 .cases h;cases h1.nons;cases h2.nons;cases r1;cases r2;exact{.same _,.none_none,.none_none}
 .cases h;cases h1.bls;cases h2.bls;cases r1;cases r2;exact{.bool_bool _ _,.bool_bool _ _,.bool_bool _ _}
 .cases h;cases h1.ints;cases h2.ints;let{t,rfl}:=r1;let{T,rfl}:=r2;exact{.int_int _ _ _ _,.int_int _ _ _ _,.int_int _ _ _ _}
 .cases h;cases h1.strs;cases h2.strs;let{t,rfl}:=r1;let{T,rfl}:=r2;exact{.str_str _ _ _ _,.str_str _ _ _ _,.str_str _ _ _ _}
 .cases h;cases h1.bls;cases h2.ints;cases r1;let{T,rfl}:=r2;exact{.bool_int _ _ _,.bool_int _ _ _,.bool_int _ _ _}
 .cases h;cases h1.ints;cases h2.bls;let{t,rfl}:=r1;cases r2;exact{.int_bool _ _ _,.int_bool _ _ _,.int_bool _ _ _}
 .cases h
def tV{s:Shared}{A:Around}{xs Y:List D}{l k:List V}{I c:List Value}{b:Bool}(p:VDs K m H xs l)(q:VDs K m H Y k)(r1:aP l I)(r2:aP k c)(h:eqL eqB xs Y=aw b):∃g:Nat->Bool,(∀j (h1:j < I.toArray.size) (h2:j < c.toArray.size),V2 A.in1 s I.toArray[j] c.toArray[j] (g j))/\b=((Zm (min I.toArray.size c.toArray.size)).all g && (I.toArray.size == c.toArray.size)):=by
 let{g,o,hb}:=tU h;calc{g,λj h1 h2=>?_,by rw[hb,Zk,Zk,<-r1.length,<-p.length,<-r2.length,<-q.length]};let{x,v,B,u,f}:=yo p r1 h1;let{y,w,E,n,d}:=yo q r2 h2;exact(CA u n f d (o j x y B E)).1
def RM{A:Around}{J:List (Addr×Obj)}{σ:L2.St}{s:Shared}{x y:D}{v w:V}{u u':Value}{b:Bool}(I:Inv X J σ H s)(R:Rel X.K m S H)(n:Nat)(h1:VD X.K m H x v)(h2:VD X.K m H y w)(r1:aI v u)(r2:aI w u')(h:eqD n S x y=aw b)(f:A.units < cLine) :
  SeqAt.RcAt A s u u' b/\V3 A s u u' (!b):=by
 delta eqD at h;split at h
 .let{a,vs,rfl,Z,p}:=h1.tups;let{a',ws,rfl,B,q}:=h2.tups;cases r1;cases r2;let{L,O,T,_}:=I.tuple (.of Z);let{U,Q,o,_}:=I.tuple (.of B);let{g,E,rfl}:=tV (s:=s) (A:=A) p q O Q h;exact{SeqAt.RcAt.tuples T o f E,PySem.SeqAt.RcNeAt.tuples T o f E}
 .rename_i k k';let{c,hc,rfl}:=h1.refs;let{c',C,rfl}:=h2.refs;cases r1;cases r2;split at h
  .rename_i es es' hs Y;let{b1,vs,hb,Z,p}:=R.seq hs;rw[hb]at hc;cases hc;let{b2,ws,l,B,q}:=R.seq Y;rw[l]at C;cases C;let{L,O,T,_}:=I.list Z;let{U,Q,o,_}:=I.list B;split at h
   .rename_i hk;subst hk;rw[hb]at l;cases l;cases h;let z:=SeqAt.RcAt.lists (A:=A) (e:=λ_=>aN) T.isList T.isList rfl f λj h1 h2=>SeqAt.EqAt.same _;let z':=PySem.SeqAt.RcNeAt.lists (A:=A) (e:=λ_=>aN) T.isList T.isList rfl f λj h1 h2=>SeqAt.EqAt.same _;rw[show(Zm L.toArray.size).all (λ_=>aN)=aN by simp]at z z';exact⟨z,z'⟩
   .let l1:L.toArray.size=es.length:=by rw[Zk,<-O.length,<-p.length]
    let l2:U.toArray.size=es'.length:=by rw[Zk,<-Q.length,<-q.length]
    split at h
    .rename_i hl;let{g,E,rfl}:=tV (s:=s) (A:=A) p q O Q h;let d:L.toArray.size=U.toArray.size:=by rw[l1,l2,hl]
     rw[<-d,WB,beq_self_eq_true,Wt];exact{SeqAt.RcAt.lists T.isList o.isList d f E,PySem.SeqAt.RcNeAt.lists T.isList o.isList d f E}
    .rename_i hl;cases h;let d:(L.toArray.size != U.toArray.size)=aN:=by rw[l1,l2];simpa using hl
     exact{SeqAt.RcAt.lists_lengths T.isList o.isList d f,PySem.SeqAt.RcNeAt.lists_lengths T.isList o.isList d f}
  .cases h
 .exact(CA h1 h2 r1 r2 h).2
abbrev eqS(x y:D)(S:Sto):Option (D×Sto):=(eqD 60 S x y).map λb=>(.bl b,S)
abbrev neS(x y:D)(S:Sto):Option (D×Sto):=(eqD 60 S x y).map λb=>(.bl (!b),S)
def mM{x y:D}{b:Bool}(h:eqD 60 S x y=aw b):neS x y S=aw (.bl (!b),S):=by delta neS;rw[h];rfl
def MS(o:X.A.units+64 < cLine):OpR X (Zas .Eq) (rS X.K eqS):=by
 intro p s n H x y v u Q I f k h;let{m,S,a,b,d,l,R,g,vb,e,q}:=h;let{c,j,e}:=ZP.mp e;cases e;exact(RM I R 60 g vb f k j (by lia)).1 _ _ _ _ {.bl c,H,I,rfl,q m H _ (Aft.refl R) cG}
def MU(o:X.A.units+64 < cLine):OpR X (Zas .NotEq) (rS X.K neS):=by
 intro p s n H x y v u Q I f k h;let{m,S,a,b,d,l,R,g,vb,e,q}:=h;let{c,j,e}:=ZP.mp e;cases e;exact(RM I R 60 g vb f k j (by lia)).2 _ _ _ _ {.bl (!c),H,I,rfl,q m H _ (Aft.refl R) cG}
end
abbrev fA:List D->Option (List Key)
 |[]=>aw []
 |.int i::ds=>(fA ds).map (.inl i::·)
 |.str x::ds=>(fA ds).map (.inr x::·)
 |_=>aD
abbrev CB:D->Option NK
 |.non=>aw .non
 |.int i=>aw (.one (.inl i))
 |.str x=>aw (.one (.inr x))
 |.tup ds=>(fA ds).map .tup
 |_=>aD
abbrev qd:List D->Option (List NK)
 |[]=>aw []
 |d::ds=>match CB d,qd ds with
  |some k,aw ks=>aw (k::ks)
  |_,_=>aD
abbrev pq:D->Option (List NK)
 |.tup ds=>qd ds
 |_=>aD
abbrev atD:List (List NK)->List D->List NK->Option D
 |a::kss,d::ds,k=>if a=k then aw d else atD kss ds k
 |_,_,_=>aD
abbrev gL(k:List NK)(v:D):List (List NK)->List D->List D
 |a::kss,d::ds=>(if a=k then v else d)::gL k v kss ds
 |_,_=>[]
section
variable {K:V5} {m:List Addr} {H:Hp} {S:Sto}
def nB:∀ {d:List D} {k:List Key} {c:List V},fA d=aw k->VDs K m H d c->c=k.map kV
 |[],_,_,e,h=>by cases e;rw[VDs]at h;exact h
 |.int i::d,k,c,e,h=>by
  simp![fA]at e;let{f,E,rfl}:=ZP.mp e;rw[VDs]at h;let{v,r,rfl,h1,h2}:=h;rw[h1.ints,nB E h2];rfl
 |.str x::d,k,c,e,h=>by
  simp![fA]at e;let{f,E,rfl}:=ZP.mp e;rw[VDs]at h;let{v,r,rfl,h1,h2}:=h;rw[h1.strs,nB E h2];rfl
 |.non::_,_,_,e,_=>by simp[fA]at e
 |.bl _::_,_,_,e,_=>by simp[fA]at e
 |.tup _::_,_,_,e,_=>by simp[fA]at e
 |.ref _::_,_,_,e,_=>by simp[fA]at e
def G1{d:D}{k:NK}{v:V}(e:CB d=aw k)(h:VD K m H d v):zE H k v:=by
 cases d with
 |non=>cases e;exact h.nons
 |int i=>cases e;exact h.ints
 |str x=>cases e;exact h.strs
 |tup g=>
  simp![CB]at e;let{f,E,rfl}:=ZP.mp e;let{a,j,rfl,c,q}:=h.tups;exact{a,rfl,by rw[<-nB E q];exact c}
 |_=>cases e
def tW:∀ {f:List D} {c:List NK} {g:List V},qd f=aw c->VDs K m H f g->Paired (zE H) c g
 |[],_,_,e,h=>by cases e;rw[VDs]at h;subst h;exact .nil
 |d::f,c,g,e,h=>by
  rw[VDs]at h;let{v,r,rfl,h1,h2}:=h;simp![qd]at e;split at e
  .rename_i k l j E;cases e;exact .cons (G1 j h1) (tW E h2)
  .cases e
def yp{d:D}{k:List NK}{v:V}(e:pq d=aw k)(h:VD K m H d v):∃a,v = .ref a/\qP H k a:=by
 cases d with
 |tup g=>
  let{a,f,rfl,c,q}:=h.tups;exact{a,rfl,f,c,tW e q}
 |_=>cases e
def Rel.dct(R:Rel K m S H){n:Nat}{k:List (List NK)}{d:List D}{x:V}(f:S[n]?=aw (.dct k d))(v:VD K m H (.ref n) x):∃a vs,x = .ref a/\m[n]?=aw a/\H a=aw (.dT (k.zip vs))/\k.length=d.length/\VDs K m H d vs:=by
 let{a,c,vs,h1,h2,g}:=R.ob n _ f;let{j,h,rfl}:=v.refs;rw[c]at h;cases h;exact⟨a,vs,rfl,c,h1,h2,g⟩
def rE:∀ {c:List (List NK)} {f:List D} {g:List V} {k:List NK},c.length=f.length->VDs K m H f g->atD c f k=aD->kz (c.zip g) k=aD/\k∉c
 |[],_,_,_,_,_,_=>{rfl,by simp}
 |a::c,d::f,g,k,hl,h,e=>by
  rw[VDs]at h;let{v,r,rfl,h1,h2}:=h;simp![atD]at e;split at e
  .cases e
  .rename_i ne;let{I,j}:=rE (by simpa using hl) h2 e;calc{?_,λz=>(Zn.mp z).elim (λz=>ne z.symm) j};rw[Yi,gH ne];exact I
 |_::_,[],_,_,hl,_,_=>by simp at hl
def mh:∀ {c:List (List NK)} {f:List D} {g:List V} {k:List NK} {d:D},VDs K m H f g->atD c f k=aw d->∃v,kz (c.zip g) k=aw v/\VD K m H d v
 |[],_,_,_,_,_,e=>by simp[atD]at e
 |a::c,d::f,g,k,d',h,e=>by
  rw[VDs]at h;let{v,r,rfl,h1,h2}:=h;simp![atD]at e;rw[Yi];split at e
  .rename_i eq;cases e;exact{v,jI eq,h1}
  .rename_i ne;rw[gH ne];exact mh h2 e
 |_::_,[],_,_,_,_,e=>by simp[atD]at e
abbrev inK(neg:Bool)(x y:D)(S:Sto):Option (D×Sto):=match pq x,y with
 | some k,.ref n=>(match S[n]? with
  |some (.dct kss ds)=>aw (.bl (neg != (atD kss ds k).isSome),S)
  | _=>aD)
 |_,_=>aD
def tX{neg:Bool}{x y d:D}{g:Sto}(e:inK neg x y S=aw (d,g)):∃k n c f,pq x=aw k/\y = .ref n/\S[n]?=aw (.dct c f)/\d = .bl (neg != (atD c f k).isSome)/\g=S:=by
 delta inK at e;split at e
 .rename_i k n h;split at e
  .rename_i c f j;cases e;exact⟨k,n,c,f,h,rfl,j,rfl,rfl⟩
  .cases e
 .cases e
def rF(R:Rel K m S H){n:Nat}{c:List (List NK)}{g:List D}{x y:D}{k:List NK}{u v:V}(h:pq x=aw k)(l:S[n]?=aw (.dct c g))(B:VD K m H x u)(q:VD K m H (.ref n) v):∃a b,v = .ref a/\u = .ref b/\∃o,Ca H a (.ref b) o/\o.isSome=(atD c g k).isSome/\∀d,atD c g k=aw d->∃w,o=aw w/\VD K m H d w:=by
 let{b,rfl,p}:=yp h B;let{a,I,rfl,_,j,J,f}:=R.dct l q;refine{a,b,rfl,rfl,kz (c.zip I) k,.inr {_,k,b,.inl j,rfl,p,rfl},?_,λd e=>?_}
 .cases e:atD c g k with
  |none=>rw[(rE J f e).1];rfl
  |some d=>let{w,E,_}:=mh f e;rw[E];rfl
 .let{w,E,C}:=mh f e;exact⟨w,E,C⟩
abbrev ixK(d y:D)(S:Sto):Option (D×Sto):=match pq y,d with
 | some k,.ref n=>(match S[n]? with
  |some (.dct kss ds)=>(atD kss ds k).map λv=>(v,S)
  | _=>aD)
 |_,_=>aD
def CC{x y d:D}{g:Sto}(e:ixK x y S=aw (d,g)):∃k n c f,pq y=aw k/\x = .ref n/\S[n]?=aw (.dct c f)/\atD c f k=aw d/\g=S:=by
 delta ixK at e;split at e
 .rename_i k n h;split at e
  .rename_i c f j;let{v,l,E}:=ZP.mp e;cases E;exact⟨k,n,c,f,h,rfl,j,l,rfl⟩
  .cases e
 .cases e
abbrev CD(o y v:D)(S:Sto):Option Sto:=match pq y,o with
 | some k,.ref n=>(match S[n]? with
  |some (.dct kss ds)=>if kss.length < 100000 then aw (if (atD kss ds k).isSome=aN then S.set n (.dct kss (gL k v kss ds)) else S.set n (.dct (kss++[k]) (ds++[v]))) else aD
  | _=>aD)
 |_,_=>aD
def Aa{o y v:D}{f:Sto}(e:CD o y v S=aw f):∃k n c d,pq y=aw k/\o = .ref n/\S[n]?=aw (.dct c d)/\c.length < 100000/\f=if (atD c d k).isSome=aN then S.set n (.dct c (gL k v c d)) else S.set n (.dct (c++[k]) (d++[v])):=by
 delta CD at e;split at e
 .rename_i k n h;split at e
  .rename_i c d g;split at e
   .rename_i j;exact{k,n,c,d,h,rfl,g,j,(θ e).symm}
   .cases e
  .cases e
 .cases e
def CF{k:List NK}{v:D}{w:V}(n:VD K m H v w):∀ {c:List (List NK)} {g:List D} {j:List V},c.length=g.length->VDs K m H g j->∃f,(c.zip j).map (λl=>if l.1=k then (l.1,w) else l)=c.zip f/\VDs K m H (gL k v c g) f
 |[],[],j,_,h=>{[],by simp,by simp![gL];rw[VDs]}
 |[],_::_,_,hl,_=>by simp at hl
 |_::_,[],_,hl,_=>by simp at hl
 |a::c,d::g,j,hl,h=>by
  rw[VDs]at h;let{u,r,rfl,h1,h2}:=h;let{f,o,E}:=CF n (by simpa using hl) h2;rw[Yi,Zw,o];simp![gL];by_cases e:a=k
  .rw[if_pos e,if_pos e];exact{w::f,by rw[Yi],.cons n E}
  .rw[if_neg e,if_neg e];exact{u::f,by rw[Yi],.cons h1 E}
def rG{k:List NK}{v:D}:∀ {c:List (List NK)} {f:List D},c.length=f.length->c.length=(gL k v c f).length
 |[],[],_=>rfl
 |[],_::_,hl=>by simp at hl
 |_::_,[],hl=>by simp at hl
 |a::c,d::f,hl=>by simp![gL,Zr];rw[rG (by simpa using hl)]
def Rel.writeD(R:Rel K m S H){i:Nat}{a:Addr}{k:List (List NK)}{d:List D}{v:List V}(hi:m[i]?=aw a)(hl:k.length=d.length)(q:VDs K m H d v):Aft K m H (S.set i (.dct k d)) m (upd H a (.dT (k.zip v))):=by
 let g:a∈m:=Zj hi;let x:Ext m H m (upd H a (.dT (k.zip v))):={Yr m,λb u e n=>by rw[ax (show b≠a fromλz=>n (by rw[z];exact g))];exact e,λb z n=>absurd z n};calc{x,by simp[R.len],R.nd,λj o e=>?_};rw[YB]at e;by_cases h:i=j
 .subst h;rw[if_pos rfl]at e;split at e
  .let y:=θ e;subst y;exact{a,hi,v,aG,hl,VDs.mono R x q}
  .cases e
 .rw[if_neg h]at e;let{b,hb,r}:=R.ob j o e
  let ne:b≠a:=λz=>by
   subst z;let h1:=Zb.mp hi;let h2:=Zb.mp hb;exact h ((YO R.nd).mp (h1.2.trans h2.2.symm))
  calc{b,hb,?_};cases o with
  |lst E=>let{c,p,q}:=r;exact{c,by rw[ax ne];exact p,VDs.mono R x q}
  |frz E=>let{o,c,p,q}:=r;exact{o,c,by rw[ax ne];exact p,VDs.mono R x q}
  |dic f E=>let{c,p,l,q}:=r;exact{c,by rw[ax ne];exact p,l,VDs.mono R x q}
  |dct f E=>let{c,p,l,q}:=r;exact{c,by rw[ax ne];exact p,l,VDs.mono R x q}
def G2(R:Rel K m S H){n:Nat}{f:List (List NK)}{h:List D}{y v:D}{k:List NK}{u o w:V}(C:pq y=aw k)(J:S[n]?=aw (.dct f h))(Z:f.length < 100000)(X:VD K m H y u)(O:VD K m H (.ref n) o)(B:VD K m H v w) :
  ∃a b H',o = .ref a/\u = .ref b/\RK H a (.ref b) w H'/\Aft K m H (if (atD f h k).isSome=aN then S.set n (.dct f (gL k v f h)) else S.set n (.dct (f++[k]) (h++[v]))) m H':=by
 let{b,rfl,L}:=yp C X;let{a,j,rfl,q,Y,l,g}:=R.dct J O;let p:f.length=j.length:=by rw[l,g.length]
 let U:(f.zip j).length < sizeLine:=by rw[Wh,Za0];lia
 refine{a,b,_,rfl,rfl,.inr ⟨_,k,b,Y,rfl,L,U,rfl⟩,?_}
 let any:((f.zip j).any λQ=>decide (Q.1=k))=(atD f h k).isSome:=by
  rw[ng];cases e:atD f h k with
  |none=>rw[(rE l g e).1];rfl
  |some d=>let{w,T,_}:=mh g e;rw[T];rfl
 delta jb;rw[any];by_cases c:(atD f h k).isSome=aN
 .rw[if_pos c,if_pos c];let{ws,I,E}:=CF B l g;rw[I];exact R.writeD q (rG l) E
 .rw[if_neg c,if_neg c];let e:f.zip j++[(k,w)]=(f++[k]).zip (j++[w]):=by rw[List.zip_append p];rfl
  rw[e];exact R.writeD q (by rw[Ze,Ze,l];rfl) (g.append (.cons B .nil))
end
abbrev MV(a b:Nat)(S:Sto):Option (D×Sto):=match S[a]? with
 | some (.lst xs)=>(match S[b]? with
  |some (.lst ys)=>if xs.length+ys.length<=100000 then aw (.ref S.length,S++[.lst (xs++ys)]) else aD
  | _=>aD)
 |_=>aD
abbrev lV:D->D->Sto->Option (D×Sto)
 |.int i,.int j,S=>aw (.int (i+j),S)
 |.tup xs,.tup ys,S=>if xs.length+ys.length<=1000 then aw (.tup (xs++ys),S) else aD
 |.ref a,.ref b,S=>MV a b S
 |.str x,.str y,S=>if x.length+y.length<=100000 then aw (.str (x++y),S) else aD
 |_,_,_=>aD
abbrev RN:D->D->Sto->Option (D×Sto)
 |.int i,.int j,S=>aw (.int (i - j),S)
 |_,_,_=>aD
abbrev jO(i j:Int):Bool:=(decide (-(2 ^ 64) < i) && decide (i < 2 ^ 64)) || (decide (-(2 ^ 64) < j) && decide (j < 2 ^ 64))
abbrev rH:D->D->Sto->Option (D×Sto)
 |.int i,.int j,S=>if jO i j=aN then aw (.int (i * j),S) else aD
 | .ref n,.int k,S=>(match S[n]? with
  |some (.lst xs)=>if 0<=k/\xs.length * k.toNat<=1000/\k<=1000 then aw (.ref S.length,S++[.lst (Zp k.toNat xs).flatten]) else aD
  | _=>aD)
 |_,_,_=>aD
abbrev MW:D->D->Sto->Option (D×Sto)
 |.int i,.int j,S=>if 0 < j then aw (.int (i % j),S) else aD
 |_,_,_=>aD
abbrev CG:D->D->Sto->Option (D×Sto)
 |.int i,.int j,S=>if 0 < j/\j < 1298074214633706907132624082305024 then aw (.int (i / j),S) else aD
 |_,_,_=>aD
abbrev MX:D->D->Sto->Option (D×Sto)
 |.int i,.int j,S=>if 0<=j/\j<=1000000/\i.natAbs < 2 ^ 64 then aw (.int (i ^ j.toNat),S) else aD
 |_,_,_=>aD
inductive BOp where |add |sub |mul |mod |fdiv |pow
abbrev bU:BOp->D->D->Sto->Option (D×Sto)
 |.add=>lV |.sub=>RN |.mul=>rH |.mod=>MW |.fdiv=>CG |.pow=>MX
abbrev BOp.op:BOp->VP
 |.add=>.Add |.sub=>.Sub |.mul=>.Mult |.mod=>.Mod |.fdiv=>.FloorDiv |.pow=>.Pow
section
variable {X:Cx} {K:V5} {m:List Addr} {H:Hp} {S:Sto}
def iC{op:VP}{f:D->D->Sto->Option (D×Sto)}{C:Int->Int->Prop}{g:Int->Int->Int}(n:OpR X (Zag op) (rI C λi j=>.int (g i j)))
  (l:∀a b S d k,f a b S=aw (d,k)->∃i j,a = .int i/\b = .int j/\C i j/\d = .int (g i j)/\k=S):OpR X (Zag op) (rS X.K f):=by
 calc OpR.imp n λx y H Q h=>?_;let{m,S,a,b,d,k,R,v,vb,e,q}:=h;let{i,j,rfl,rfl,c,rfl,rfl}:=l _ _ _ _ _ e;exact{i,j,v.ints,vb.ints,c,q m H _ (Aft.refl R) bv}
def vU:OpR X (Zag .Add) (λx y H Q=>∃m S xs Y,Rel X.K m S H/\VD X.K m H (.tup xs) x/\VD X.K m H (.tup Y) y/\xs.length+Y.length<=1000/\∀d c u,Aft X.K m H S d c->VD X.K d c (.tup (xs++Y)) u->Q u c):=by
 calc OpR.imp GN λx y H Q h=>?_;let{m,S,xs,Y,R,v,vb,n,q}:=h;let{a,k,rfl,sa,g}:=v.tups;let{b,j,rfl,l,f}:=vb.tups;let l1:=g.length;let l2:=f.length;refine{a,b,k,j,rfl,rfl,.of sa,.of l,ny (by lia),λe=>?_,λ_ e=>?_,λ_ _=>jN R (g.append f) q}
 .subst e;let e:xs=[]:=Yk.mp (by simpa using l1);subst e;exact q m H _ (Aft.refl R) vb
 .subst e;let e:Y=[]:=Yk.mp (by simpa using l2);subst e;rw[ZU]at q;exact q m H _ (Aft.refl R) v
def G3:OpR X (Zag .Add) (rS X.K lV):=by
 calc OpR.imp (OpR.or Mm (OpR.or vU (OpR.or vJ B1))) λx y H Q h=>?_;let{m,S,a,b,d,T,R,v,vb,e,q}:=h;cases a with
 |int i=>
  cases b with
  |int j=>cases e;exact .inl {i,j,v.ints,vb.ints,q m H _ (Aft.refl R) bv}
  |_=>simp[lV]at e
 |tup xs=>
  cases b with
  |tup Y=>
   simp![lV]at e;split at e
   .rename_i k;cases e;exact .inr (.inl ⟨m,S,xs,Y,R,v,vb,k,q⟩)
   .cases e
  |_=>simp[lV]at e
 |str i=>
  cases b with
  |str j=>
   simp![lV]at e;split at e
   .rename_i k;cases e;exact .inr (.inr (.inl {i,j,v.strs,vb.strs,by rw[Za0];lia,q m H _ (Aft.refl R) nu}))
   .cases e
  |_=>simp[lV]at e
 |ref i=>
  cases b with
  |ref j=>
   simp![lV,MV]at e;split at e
   .rename_i xs L;split at e
    .rename_i Y o;split at e
     .rename_i k;cases e;let{a,u,B,I,l}:=R.lst L;let{c,J,O,C,n}:=R.lst o;let{Z,g,p}:=v.refs;let{U,f,E}:=vb.refs;rw[B]at g;cases g;rw[O]at f;cases f;exact .inr (.inr (.inr {a,c,u,J,p,E,I,C,by rw[Za0,<-l.length,<-n.length];lia,md R (l.append n) q}))
     .cases e
    .cases e
   .cases e
  |_=>simp[lV]at e
 |_=>cases b <;> simp[lV]at e
def yq(h:VDs K m H d v):∀n:Nat,VDs K m H (Zp n d).flatten (Zp n v).flatten
 |0=>by rw[XJ,XJ,X6,X6,VDs]
 |n+1=>by rw[Yn,Yn,YA,YA];exact h.append (yq h n)
def G4:OpR X (Zag .Mult) (rS X.K rH):=by
 calc OpR.imp (OpR.or ME Mo) λx y H Q h=>?_;let{m,S,a,b,d,B,R,v,vb,e,q}:=h;cases a with
 |int i=>
  cases b with
  |int j=>
   simp![rH]at e;split at e
   .rename_i f;cases e;simp![jO,Xd,bAE,decide_eq_true_eq]at f;exact .inr {i,j,v.ints,vb.ints,f,q m H _ (Aft.refl R) bv}
   .cases e
  |_=>simp[rH]at e
 |ref n=>
  cases b with
  |int k=>
   simp![rH]at e;split at e
   .rename_i xs u;split at e
    .rename_i f;cases e;let{l,g,o,p,vd}:=R.lst u;let{L,c,E}:=v.refs;rw[o]at c;cases c;exact .inl {l,k,g,E,vb.ints,p,by lia,by lia,by rw[Za0,<-vd.length];lia,md R (yq vd k.toNat) q}
    .cases e
   .cases e
  |_=>simp[rH]at e
 |_=>cases b <;> simp[rH]at e
def CH:OpR X (Zag .FloorDiv) (rI (λ_ j=>0 < j/\j < 1298074214633706907132624082305024) λi j=>.int (i / j)):=opI λi j _ _ _ _ _ h q=>by
 let h1:(0:Int) < j:=h.1;let h2:j < 1298074214633706907132624082305024:=h.2
 exact floordiv_int (by lia) (by rw[Int.fdiv_eq_ediv_of_nonneg i (by lia)];exact q) (.inl (PyProof.noPylong_of_log2 (by
  let c:j.natAbs≠0:=by lia
  let:j.natAbs.log2 < 110:=(WF c).mpr (by lia)
  lia)))
def G5(o:BOp):OpR X (Zag o.op) (rS X.K (bU o)):=by
 cases o with
 |add=>exact G3
 |sub=>
  calc iC (C:=λ_ _=>True) (g:=λi j=>i - j) (OpR.imp Mn λx y H Q ⟨i,j,a,b,_,q⟩=>⟨i,j,a,b,q⟩) λa b S d c e=>?_;cases a <;> cases b <;> simp[bU,RN]at e;exact⟨_,_,rfl,rfl,trivial,e.1.symm,e.2.symm⟩
 |mul=>exact G4
 |mod=>
  calc iC Mp λa b S d c e=>?_;cases a <;> cases b <;> simp[bU,MW]at e;rename_i i j;exact⟨i,j,rfl,rfl,e.1,e.2.1.symm,e.2.2.symm⟩
 |fdiv=>
  calc iC CH λa b S d c e=>?_;cases a <;> cases b <;> simp[bU,CG]at e;rename_i i j;exact⟨i,j,rfl,rfl,e.1,e.2.1.symm,e.2.2.symm⟩
 |pow=>
  calc iC Mq λa b S d c e=>?_;cases a <;> cases b <;> simp[bU,MX]at e;rename_i i j;exact⟨i,j,rfl,rfl,e.1,e.2.1.symm,e.2.2.symm⟩
abbrev Ab(p:Int->Int->Bool):D->D->Sto->Option (D×Sto)
 |.int i,.int j,S=>aw (.bl (p i j),S)
 |_,_,_=>aD
abbrev K7:D->Bool
 |.non=>aN
 |_=>aS
abbrev isB(neg:Bool):D->D->Sto->Option (D×Sto)
 |d,.non,S=>aw (.bl (neg != K7 d),S)
 |.bl a,.bl b,S=>aw (.bl (neg != (a == b)),S)
 |_,_,_=>aD
abbrev cT:D->Bool
 |.non=>aN |.bl _=>aN |.int _=>aN |.str _=>aN |_=>aS
abbrev eqF:D->D->Bool
 |.non,.non=>aN
 |.bl a,.bl b=>a == b
 |.bl a,.int b=>(if a then 1 else 0) == b
 |.int a,.bl b=>a == (if b then 1 else 0)
 |.int a,.int b=>a == b
 |.str a,.str b=>a == b
 |_,_=>aS
abbrev inF(x:D)(d:List D):Bool:=d.any λy=>eqF y x
abbrev inS(neg:Bool)(x y:D)(S:Sto):Option (D×Sto):=match aq y S with
 |some (_,ds)=>if cT x=aN/\ds.all cT=aN then aw (.bl (neg != inF x ds),S) else aD
 |none=>inK neg x y S
inductive COp where |eq |ne |lt |le |gt |ge |is |t |s |o
abbrev am:COp->D->D->Sto->Option (D×Sto)
 |.eq=>eqS |.ne=>neS
 |.lt=>Ab λi j=>decide (i < j) |.le=>Ab λi j=>decide (i<=j) |.gt=>Ab λi j=>decide (j < i) |.ge=>Ab λi j=>decide (j<=i)
 |.is=>isB aS |.t=>isB aN |.s=>inS aS |.o=>inS aN
abbrev COp.op:COp->CmpOp
 |.eq=>.Eq |.ne=>.NotEq |.lt=>.Lt |.le=>.LtE |.gt=>.Gt |.ge=>.GtE |.is=>.Is |.t=>.IsNot |.s=>.In |.o=>.NotIn
def fM(c:OpR X (Zas op) (rI0 λi j=>.bl (p i j))):OpR X (Zas op) (rS X.K (Ab p)):=by
 calc OpR.imp c λx y H Q h=>?_;let{m,S,a,b,d,f,R,v,vb,e,q}:=h;cases a <;> cases b <;> simp[Ab]at e;let{rfl,rfl}:=e;exact{_,_,v.ints,vb.ints,q m H _ (Aft.refl R) cG}
def mi(h:VD K m H x v)(f:cT x=aN):b6 v=aN:=by
 cases x <;> simp[cT]at f
 .cases h.nons;rfl
 .cases h.bls;rfl
 .cases h.ints;rfl
 .cases h.strs;rfl
def CJ(h:VD K m H x v)(f:cT x=aN)(h':VD K m H y w)(c:cT y=aN):eqV v w=eqF x y:=by
 cases x <;> simp[cT]at f <;> cases y <;> simp[cT]at c <;> simp[VD]at h h' <;> subst h <;> subst h' <;> rfl
def jP:∀ {c:List D} {v:List V},VDs K m H c v->c.all cT=aN->v.all b6=aN
 |[],v,h,_=>by rw[VDs]at h;rw[h];rfl
 |d::c,v,h,f=>by
  rw[VDs]at h;let{x,r,rfl,p,q}:=h;rw[Yc,bAE]at f;rw[Yc,mi p f.1,jP q f.2];rfl
def vV(h:VD K m H x v)(f:cT x=aN):∀ {c:List D} {g:List V},VDs K m H c g->c.all cT=aN->inV v g=inF x c
 |[],g,h,_=>by rw[VDs]at h;rw[h];rfl
 |d::c,g,h',f'=>by
  rw[VDs]at h';let{y,r,rfl,p,q}:=h';rw[Yc,bAE]at f';let I:=vV h f q f'.2;delta inV inF at I ⊢;rw[Yx,Yx,CJ p f'.1 h f,I]
def qe(h:VD K m H x v)(f:cT x=aN):∀ {c:List D} {g:List V},VDs K m H c g->c.all cT=aN->(g.countP λz=>eqV z v)=c.countP λz=>eqF z x
 |[],g,h,_=>by rw[VDs]at h;rw[h];rfl
 |d::c,g,h',f'=>by
  rw[VDs]at h';let{y,r,rfl,p,q}:=h';rw[Yc,bAE]at f';rw[Y7,Y7,CJ p f'.1 h f,qe h f q f'.2]
def nD(h:SqB K T H a vs):SqL K H a vs\/SqT K H a vs:=by
 cases T with
 |false=>exact .inl h
 |true=>exact .inr (.of h)
def MY(hu:X.A.units+64 < cLine):OpR X (Zas .In) (rS X.K (inS aS)):=by
 intro f s σ H x y v u Q I B C h;let{m,S,a,b,d,S',R,l,vb,e,q}:=h;delta inS at e;split at e
 .rename_i tu ds U;let{p,L,rfl,T,c}:=fu R vb U;split at e
  .rename_i j;cases e;calc zO f s σ H x _ v u Q I B C {p,L,rfl,nD T,mi l j.1,jP c j.2,q m H _ (Aft.refl R) ?_};rw[if_neg (by decide),vV l j.1 c j.2]
   simpa using cG
  .cases e
 .let{k,n,J,ds,E,rfl,O,rfl,rfl}:=tX e;let{a,b,rfl,rfl,o,g,Z,_}:=rF (y:=.ref n) R E O l vb;cases C;calc UW (show X.A.units+2 < cLine by lia) I g B λs' Y=>{.bl _,H,Y,rfl,?_};rw[Z];exact q m H _ (Aft.refl R) (by simpa using cG)
def Ac(hu:X.A.units+64 < cLine):OpR X (Zas .NotIn) (rS X.K (inS aN)):=by
 intro f s σ H x y v u Q I B C h;let{m,S,a,b,d,S',R,l,vb,e,q}:=h;delta inS at e;split at e
 .rename_i tu ds U;let{p,L,rfl,T,c}:=fu R vb U;split at e
  .rename_i j;cases e;calc ra f s σ H x _ v u Q I B C {p,L,rfl,nD T,mi l j.1,jP c j.2,q m H _ (Aft.refl R) ?_};rw[if_pos rfl,vV l j.1 c j.2]
   simpa using cG
  .cases e
 .let{k,n,J,ds,E,rfl,O,rfl,rfl}:=tX e;let{a,b,rfl,rfl,o,g,Z,_}:=rF (y:=.ref n) R E O l vb;cases C;calc GP (show X.A.units+2 < cLine by lia) I g B λs' Y=>{.bl _,H,Y,rfl,?_};rw[Z];exact q m H _ (Aft.refl R) (by simpa using cG)
def CK(h:VD K m H d v):decide (v=V.non)=K7 d:=by
 cases d with
 |non=>cases h.nons;rfl
 |bl _=>cases h.bls;rfl
 |int _=>cases h.ints;rfl
 |str _=>cases h.strs;rfl
 |tup _=>let{_,_,e,_}:=h.tups;subst e;rfl
 |ref _=>let{_,_,e}:=h.refs;subst e;rfl
def MZ:OpR X (Zas .Is) (rS X.K (isB aS)):=by
 calc OpR.imp (OpR.or Ms MG) λx y H Q h=>?_;let{m,S,a,b,d,c,R,v,vb,e,q}:=h;cases b with
 |non=>
  simp[isB]at e;let{rfl,rfl}:=e;exact .inl {vb.nons,q m H _ (Aft.refl R) (by rw[CK v];exact cG)}
 |bl j=>
  cases a with
  |bl i=>
   simp[isB]at e;let{rfl,rfl}:=e;exact .inr {i,j,v.bls,vb.bls,q m H _ (Aft.refl R) cG}
  |_=>simp[isB]at e
 |_=>cases a <;> simp[isB]at e
def Ae:OpR X (Zas .IsNot) (rS X.K (isB aN)):=by
 calc OpR.imp (OpR.or Gq zU) λx y H Q h=>?_;let{m,S,a,b,d,c,R,v,vb,e,q}:=h;cases b with
 |non=>
  simp[isB]at e;let{rfl,rfl}:=e;exact .inl {vb.nons,q m H _ (Aft.refl R) (by rw[CK v];exact cG)}
 |bl j=>
  cases a with
  |bl i=>
   simp[isB]at e;let{rfl,rfl}:=e;exact .inr {i,j,v.bls,vb.bls,q m H _ (Aft.refl R) (by simpa[bne] using cG)}
  |_=>simp[isB]at e
 |_=>cases a <;> simp[isB]at e
def iE(h:X.A.units+64 < cLine)(o:COp):OpR X (Zas o.op) (rS X.K (am o)):=by
 cases o with
 |eq=>exact MS h
 |ne=>exact MU h
 |lt=>exact fM Ru
 |le=>exact fM Rv
 |gt=>exact fM KY
 |ge=>exact fM Rx
 |is=>exact MZ
 |t=>exact Ae
 |s=>exact MY h
 |o=>exact Ac h
end
section
variable {X:Cx} {K:V5} {m:List Addr} {H:Hp} {S:Sto}
abbrev ixS(d i:D)(S:Sto):Option (D×Sto):=match i with
 | .int k=>(match d with
  |.str z=>if z.length<=100000 then (atI z.cps.toList k).map λc=>(.str ⟨#[c]⟩,S) else aD
  | d=>(match aq d S with
   |some (_,ds)=>(atI ds k).map λx=>(x,S)
   | none=>aD))
 |i=>ixK d i S
def M0{k:Int}(h:VDs K m H c g)(e:atI c k=aw d):∃v,atI g k=aw v/\VD K m H d v:=by
 delta atI at e ⊢;rw[<-h.length];cases f:ixN c.length k with
 |none=>rw[f]at e;cases e
 |some j=>
  rw[f]at e;exact h.get e
def CL{k:Int}(g:SqB K tu H a c)(vd:VDs K m H h c)(e:atI h k=aw d)(q:∀v,VD K m H d v->Q v H):rIx K (.ref a) (.int k) H Q:=by
 let{v,E,f}:=M0 vd e;cases tu with
 |false=>exact .inl {a,c,k,v,rfl,rfl,g,E,q v f}
 |true=>exact .inr (.inl {a,c,k,v,rfl,rfl,.of g,E,q v f})
def UX(hu:X.A.units+64 < cLine):IxR X (rS X.K ixS):=by
 intro j f l s σ H x y v u Q I Y Z h hs;let{m,S,a,b,d,U,R,O,vb,e,q}:=h
 let B:ixK a b S=aw (d,U)->wpAny (model X.prog X.w) X.A (subscriptTail j f v u) (EP X l σ Q) X.xe s:=λe=>by
  let{k,n,kss,ds,hk,rfl,hn,hd,rfl}:=CC e;let{a',b',rfl,rfl,o,g,ho,hv}:=rF (y:=.ref n) R hk hn vb O;let{w,rfl,vw}:=hv d hd;cases Y;cases Z;exact tail_any (tF I g) PySem.F.slot_dict_getitem.lookup (zV (show X.A.units+2 < cLine by lia) I g rfl λw' s' I' L=>{w,H,I',L,q m H _ (Aft.refl R) vw}) hs
 cases b with
 |int k=>
  calc BV j f l s σ H x y v u Q I Y Z ?_ hs;cases vb.ints
  let main:∀r,aq a S=aw r->(atI r.2 k).map (λx=>(x,S))=aw (d,U)->rIx X.K x (.int k) H Q:=by
   intro r C e;cases E:atI r.2 k with
   |none=>rw[E]at e;cases e
   |some z=>
    rw[E]at e;cases e;let{p,vs,rfl,sq,J}:=fu (tu:=r.1) (ds:=r.2) R O C;exact CL sq J E λv vv=>q m H v (Aft.refl R) vv
  cases a with
  |str z=>
   simp![ixS]at e;split at e
   .rename_i hl;cases T:atI z.cps.toList k with
    |none=>rw[T]at e;cases e
    |some c=>
     rw[T]at e;cases e;exact .inr (.inr {z,k,c,O.strs,rfl,by rw[Za0];lia,T,q m H _ (Aft.refl R) nu})
   .cases e
  |tup ds=>exact main (aN,ds) rfl e
  |ref n=>
   simp![ixS]at e;cases C:aq (.ref n) S with
   |none=>rw[C]at e;cases e
   |some r=>rw[C]at e;exact main r C e
  |_=>simp[ixS,aq]at e
 |_=>exact B e
abbrev vW(x:XA)(y:XE):XE:=λc S=>bnd (x c S) λh f=>bnd (y c f) λi g=>match i with
 |.int k=>(atI h k).map λd=>(d,g)
 |_=>aD
def M1(h:tE K (vW x y) T H Q):tOp (rIx K) (gx K x) (tE K y) T H Q:=by
 let{m,j,S,d,U,E,R,e,q}:=h;let{o,l,u,e}:=ac e;let{i,J,p,e}:=ac e;calc{m,j,S,o,l,E,R,u,λm1 Z a B c I O n2 Y vd=>{m1,j,l,i,J,E.mono R c.ext,c.rel,p,λL n w g vb=>?_}};cases i with
 |int k=>
  cases vb.ints;dsimp! at e;cases f:atI o k with
  |none=>rw[f]at e;cases e
  |some z=>
   rw[f]at e;cases e;exact CL (tu:=false) (show SqL K n a B from SqL.of (g.ext.keep _ _ I O)) (vd.mono c.rel g.ext) f λv C=>q L n v (c.trans g) C
 |_=>cases e
abbrev gw(d:List D)(lo hi:Option Int):List D:=(d.drop (HT.sIx d.length 0 lo)).take (HT.sIx d.length d.length hi - HT.sIx d.length 0 lo)
def vX(h:VDs K m H d v)(lo hi:Option Int):VDs K m H (gw d lo hi) (mY v lo hi):=by
 delta gw mY;rw[<-h.length];exact(h.drop _).take _
abbrev slS(lo hi:Option Int)(d:D)(S:Sto):Option (D×Sto):=match d with
 |.tup c=>aw (.tup (gw c lo hi),S)
 | .ref n=>(match aU S n with
  |some c=>aw (.ref S.length,S++[.lst (gw c lo hi)])
  | none=>aD)
 |_=>aD
abbrev rSl(K:V5):V->Option Int->Option Int->Hp->VK->Prop:=λv lo g H Q=>∃m S a d f,Rel K m S H/\VD K m H a v/\slS lo g a S=aw (d,f)/\∀c h u,Aft K m H f c h->VD K c h d u->Q u h
def vY{vs:List V}{lo hi:Option Int}(h:HT.sIx vs.length 0 lo=0/\HT.sIx vs.length vs.length hi=vs.length):mY vs lo hi=vs:=by
 delta mY;rw[h.1,h.2];simp
def UY:SlR X (rSl X.K):=by
 intro g s T H x v L E lo k sl Q I B hs pl C h;calc(SlR.or GO GA) g s T H x v L E lo k sl Q I B hs pl C ?_;let{m,S,a,d,Y,R,u,e,q}:=h;cases a with
 |tup O=>
  cases e;let{p,l,rfl,j,c}:=u.tups;calc .inl {p,l,rfl,.of j,λy=>?_,λ_=>jN R (vX c lo k) q};let:=vX c lo k;rw[vY y]at this;exact q m H _ (Aft.refl R) (kC j this)
 |ref n=>
  simp![slS]at e;cases o:aU S n with
  |none=>rw[o]at e;cases e
  |some O=>
   rw[o]at e;cases e;let{p,l,J,j,c}:=R.seq o;let{U,f,rfl}:=u.refs;rw[J]at f;cases f;exact .inr {p,l,rfl,j,md R (vX c lo k) q}
 |_=>cases e
@[inline]abbrev XO:=Rho->Sto->Option (Option Int×Sto)
abbrev tOI(K:V5)(x:XO):TO:=λg H Q=>∃m c S o d,EnvR K m H c g/\Rel K m S H/\x c S=aw (o,d)/\∀f h,Aft K m H d f h->Q o h
abbrev vZ:XO:=λ_ S=>aw (aD,S)
abbrev v0(x:XE):XO:=λf S=>bnd (x f S) λd c=>match d with
 |.int i=>aw (aw i,c)
 |_=>aD
def G6(h:tOI K vZ c H Q):x8 c H Q:=by
 let{m,d,S,o,f,E,R,e,q}:=h;cases e;exact q m H (Aft.refl R)
def G7(h:tOI K (v0 x) j H Q):K1 (tE K x) j H Q:=by
 let{m,g,S,o,n,E,R,e,q}:=h;let{d,c,k,e}:=ac e;calc{m,g,S,d,c,E,R,k,λm1 l v f vd=>?_};cases d with
 |int i=>cases e;exact{i,vd.ints,q m1 l f}
 |_=>cases e
def PO.imp(h:PO X e t)(f:∀c H Q,t' c H Q->t c H Q):PO X e t':=λp s c H Q I q=>h p s c H Q I (f c H Q q)
abbrev xSl(x:XE)(lo hi:XO):XE:=λc S=>bnd (x c S) λd f=>bnd (lo c f) λl g=>bnd (hi c g) λh j=>slS l h d j
def RO{x:XE}{lo hi:XO}{p:L2.St}{H:Hp}{Q:VK}(h:tE K (xSl x lo hi) p H Q):tSl (rSl K) (tE K x) (tOI K lo) (tOI K hi) p H Q:=by
 let{m,j,S,d,C,E,R,e,q}:=h;let{a,n,B,e}:=ac e;let{l,o,y,e}:=ac e;let{u,k,J,e}:=ac e;calc{m,j,S,a,n,E,R,B,λm1 H1 v c vd=>{m1,j,n,l,o,E.mono R c.ext,c.rel,y,λL Z f=>{L,j,o,u,k,E.mono R (c.trans f).ext,f.rel,J,λT Y g=>?_}}};exact{T,k,a,d,C,g.rel,vd.mono c.rel (f.trans g).ext,e,λm4 I w U O=>q m4 I w (((c.trans f).trans g).trans U) O}
abbrev nF(d:D)(S:Sto):Option (Bool×Sto):=match d with
 |.non=>aw (aS,S)
 |.bl b=>aw (b,S)
 |.int i=>aw (i != 0,S)
 |.str y=>if y.length<=100000 then aw ((y.length:Int) != 0,S) else aD
 |.tup c=>aw (!c.isEmpty,S)
 | .ref n=>(match aU S n with
  |some c=>aw (!c.isEmpty,S)
  | none=>aD)
def nG(h:VDs K m H d v):d.isEmpty=v.isEmpty:=by
 let:=h.length;cases d <;> cases v <;> simp at this ⊢
def M2(R:Rel K m S H)(vd:VD K m H d v)(e:nF d S=aw (b,k)):k=S/\Gu K v H b:=by
 cases d with
 |non=>cases e;cases vd.nons;exact⟨rfl,rfl⟩
 |bl _=>cases e;cases vd.bls;exact⟨rfl,rfl⟩
 |int _=>cases e;cases vd.ints;exact⟨rfl,rfl⟩
 |str y=>
  simp![nF]at e;split at e
  .rename_i u;cases e;cases vd.strs;exact{rfl,by rw[Za0];lia,rfl}
  .cases e
 |tup o=>
  cases e;let{a,j,rfl,g,c}:=vd.tups;exact{rfl,.inr (.inl {j,.of g,by rw[nG c]})}
 |ref n=>
  simp![nF]at e;cases f:aU S n with
  |none=>rw[f]at e;cases e
  |some o=>
   rw[f]at e;cases e;let{p,j,l,g,c}:=R.seq f;let{q,h,rfl}:=vd.refs;rw[l]at h;cases h;exact{rfl,.inl {j,g,by rw[nG c]}}
abbrev G8(x:XE):XT:=λf S=>bnd (x f S) λd c=>nF d c
def M3(h:tT K (G8 x) j H Q):(tE K x) j H λv H'=>∃k,Gu K v H' k/\Q k H':=by
 let{m,g,S,b,o,E,R,e,q}:=h;let{d,f,l,e}:=ac e;calc{m,g,S,d,f,E,R,l,λm1 n v c vd=>?_};let{rfl,t}:=M2 c.rel vd e;exact{b,t,q m1 n c}
abbrev xB(x:XE):XT:=λf S=>bnd (x f S) λd c=>match d with
 |.bl b=>aw (b,c)
 |_=>aD
def RP(h:tT K (xB x) j H Q):(tE K x) j H λv H'=>∃k,v = .bl k/\Q k H':=by
 let{m,g,S,b,o,E,R,e,q}:=h;let{d,c,l,e}:=ac e;calc{m,g,S,d,c,E,R,l,λm1 n v f vd=>?_};cases d with
 |bl k=>cases e;exact{b,vd.bls,q m1 n f}
 |_=>cases e
abbrev dS(_:Bool)(d:List D)(S:Sto):Option (D×Sto):=aw (.int d.length,S)
abbrev df(_:Bool)(d:List D)(S:Sto):Option (D×Sto):=aw (.tup d,S)
abbrev CM:D->Bool
 |.bl _=>aN
 |_=>aS
abbrev Af:D->Bool
 |.bl b=>b
 |_=>aS
abbrev lW(T:Bool)(d:List D)(S:Sto):Option (D×Sto):=if T=aS/\d.all CM=aN then aw (.bl (d.all Af),S) else aD
abbrev r1(r:V->Hp->VK->Prop):List V->Hp->VK->Prop
 |[x],H,Q=>r x H Q
 |_,_,_=>False
def dq(h:r1 r xs H Q):∃x,xs=[x]/\r x H Q:=by
 match xs,h with
 |[x],h=>exact⟨x,rfl,h⟩
def Ag:aZ X (.builtin "len") (r1 (rSq X.K dS)):=by
 calc aZ.imp rd λxs H Q h=>?_;let{_,rfl,m,S,T,g,a,v,d,f,R,rfl,c,vd,e,q}:=dq h;cases e;exact{a,v,rfl,nD c,q m H _ (Aft.refl R) (by rw[vd.length];exact bv)}
def Ah:aZ X (.type "tuple") (r1 (rSq X.K df)):=by
 calc aZ.imp pf λxs H Q h=>?_;let{_,rfl,m,S,T,g,a,v,d,f,R,rfl,c,vd,e,q}:=dq h;cases e;cases T with
 |false=>exact{a,v,rfl,.inl {c,jN R vd q}}
 |true=>exact{a,v,rfl,.inr {.of c,q m H _ (Aft.refl R) (kC c vd)}}
def CN:∀ {c:List D} {v:List V},VDs K m H c v->c.all CM=aN->v=(c.map Af).map V.bl
 |[],v,h,_=>by rw[VDs]at h;rw[h];rfl
 |d::c,v,h,f=>by
  rw[VDs]at h;let{x,r,rfl,p,q}:=h;rw[Yc,bAE]at f;cases d with
  |bl b=>rw[p.bls,CN q f.2];rfl
  |_=>simp[CM]at f
def M4(d:List D):(d.map Af).all id=d.all Af:=by rw[Yu];rfl
def Ai(hc:X.calm=aN):aZ X (.builtin "all") (r1 (rSq X.K lW)):=by
 calc aZ.imp (zT hc) λxs H Q h=>?_;let{_,rfl,m,S,T,f,a,v,d,j,R,rfl,g,vd,e,q}:=dq h;delta lW at e;split at e
 .rename_i c;cases e;let{rfl,c}:=c;calc{a,f.map Af,rfl,?_,q m H _ (Aft.refl R) (by rw[M4];exact cG)};rw[<-CN vd c];exact g
 .cases e
abbrev rTm(K:V5)(f:Bool->List D->Option (List D)):V->Hp->VK->Prop:=λv H Q=>∃m S T g a j E,Rel K m S H/\v = .ref a/\SqB K T H a j/\VDs K m H g j/\f T g=aw E ∧
 ∀c h p d,Aft K m H S c h->h p=aw (.lst d)->p∉c->(∀b,b∈m->b≠p)->H p=aD->VDs K c h E d->Q (.ref p) h
def nI:aZ X (.type "list") (r1 (rTm X.K λ_ d=>aw d)):=by
 calc aZ.imp re λxs H Q h=>?_;let{_,rfl,m,S,T,d,a,v,E,R,rfl,c,vd,e,q}:=dq h;cases e;exact{a,v,rfl,nD c,mf R vd q}
abbrev CO:D->D->Sto->Option (D×Sto)
 |.int i,.int j,S=>aw (.int (if j > i then j else i),S)
 |_,_,_=>aD
abbrev CP:D->D->Sto->Option (D×Sto)
 |.int i,.int j,S=>aw (.int (if j < i then j else i),S)
 |_,_,_=>aD
abbrev two(f:D->D->Sto->Option (D×Sto)):List D->Sto->Option (D×Sto)
 |[a,b],S=>f a b S
 |_,_=>aD
def G9(h:VDs K m H [a,b] d):∃v w,d=[v,w]/\VD K m H a v/\VD K m H b w:=by
 rw[VDs]at h;let{v,r,rfl,p,q}:=h;rw[VDs]at q;let{w,f,rfl,c,Q}:=q;rw[VDs]at Q;subst Q;exact⟨v,w,rfl,p,c⟩
def Ha(h:VDs K m H [a] c):∃v,c=[v]/\VD K m H a v:=by
 rw[VDs]at h;let{v,r,rfl,p,q}:=h;rw[VDs]at q;subst q;exact⟨v,rfl,p⟩
def tY(h:two f as S=aw r):∃a b,as=[a,b]/\f a b S=aw r:=by
 match as,h with
 |[a,b],h=>exact⟨a,b,rfl,h⟩
def v5(hc:X.calm=aN):aZ X (.builtin "max") (rSA X.K (two CO)):=by
 calc aZ.imp (zK hc) λxs H Q h=>?_;let{m,S,f,d,g,R,vd,e,q}:=h;let{a,b,rfl,E}:=tY e;let{v,w,rfl,p,c}:=G9 vd;cases a <;> cases b <;> simp[CO]at E;let{rfl,rfl}:=E;exact{_,_,by rw[p.ints,c.ints],q m H _ (Aft.refl R) bv}
def v7(hc:X.calm=aN):aZ X (.builtin "min") (rSA X.K (two CP)):=by
 calc aZ.imp (zL hc) λxs H Q h=>?_;let{m,S,f,d,g,R,vd,e,q}:=h;let{a,b,rfl,E}:=tY e;let{v,w,rfl,p,c}:=G9 vd;cases a <;> cases b <;> simp[CP]at E;let{rfl,rfl}:=E;exact{_,_,by rw[p.ints,c.ints],q m H _ (Aft.refl R) bv}
inductive Ty where |int |bool |tuple |list |str
abbrev Ty.nm:Ty->String
 |.int => "int" |.bool => "bool" |.tuple => "tuple" |.list => "list" |.str => "str"
abbrev tyN(d:D)(S:Sto):Option String:=match d with
 |.non=>aw "NoneType" |.bl _=>aw "bool" |.int _=>aw "int" |.str _=>aw "str" |.tup _=>aw "tuple"
 | .ref n=>(match S[n]? with
  |some (.lst _)=>aw "list"
  |some (.frz _)=>aw "list"
  |some (.dic _ _)=>aw "dict"
  |some (.dct _ _)=>aw "dict"
  | none=>aD)
abbrev gM(t:Ty)(n:String):Bool:=n == t.nm || (match t with |.int=>n == "bool" |_=>aS)
abbrev nJ(t:Ty)(d:D)(S:Sto):Option (D×Sto):=(tyN d S).map λn=>(.bl (gM t n),S)
def Hb(K:V5)(t:Ty):(On K (.type "NoneType") (.type t.nm)=aw (gM t "NoneType"))/\(On K (.type "bool") (.type t.nm)=aw (gM t "bool"))/\(On K (.type "int") (.type t.nm)=aw (gM t "int")) ∧
  (On K (.type "str") (.type t.nm)=aw (gM t "str"))/\(On K (.type "tuple") (.type t.nm)=aw (gM t "tuple"))/\(On K (.type "list") (.type t.nm)=aw (gM t "list"))/\(On K (.type "dict") (.type t.nm)=aw (gM t "dict")):=by
 cases t <;> exact{by kernel_rfl,by kernel_rfl,by kernel_rfl,by kernel_rfl,by kernel_rfl,by kernel_rfl,by kernel_rfl}
def RQ(R:Rel K m S H)(vd:VD K m H d v)(e:tyN d S=aw n):TyOf K H v (.type n):=by
 cases d with
 |non=>cases e;cases vd.nons;exact .non
 |bl _=>cases e;cases vd.bls;exact .bl _
 |int _=>cases e;cases vd.ints;exact .int _
 |str _=>cases e;cases vd.strs;exact .str _
 |tup f=>cases e;let{a,g,rfl,q,_}:=vd.tups;exact .tup q
 |ref k=>
  simp![tyN]at e;let{a,l,rfl}:=vd.refs;cases j:S[k]? with
  |none=>rw[j]at e;cases e
  |some o=>
   rw[j]at e;let{u,c,r}:=R.ob k o j;rw[l]at c;cases c;cases o with
   |lst f=>cases e;let{g,h,_}:=r;exact .lst h
   |frz f=>cases e;let{o,g,h,_}:=r;exact .frz h
   |dic p f=>cases e;let{g,h,_}:=r;exact .dK h
   |dct p f=>cases e;let{g,h,_}:=r;exact .dT h
def CQ(e:tyN d S=aw n):n = "NoneType"\/n = "bool"\/n = "int"\/n = "str"\/n = "tuple"\/n = "list"\/n = "dict" := by
 cases d with
 |ref k=>
  simp![tyN]at e;cases h:S[k]? with
  |none=>rw[h]at e;cases e
  |some o=>rw[h]at e;cases o <;> cases e <;> simp
 |_=>cases e <;> simp
def M5(K:V5)(t:Ty)(h:n = "NoneType"\/n = "bool"\/n = "int"\/n = "str"\/n = "tuple"\/n = "list"\/n = "dict"):On K (.type n) (.type t.nm)=aw (gM t n):=by
 let{a,b,c,d,e,f,g}:=Hb K t;rcases h with rfl |rfl |rfl |rfl |rfl |rfl |rfl <;> assumption
abbrev RT(K:V5)(t:Ty)(T:TE):TE:=tCB (K5 K) (ci T (ci (tC (.ty t.nm)) jF))
def Hc(h:tE K (xUn (nJ t) x) l H Q):RT K t (tE K x) l H Q:=by
 let{m,k,S,d,u,E,R,e,q}:=h;let{a,f,o,e}:=ac e;calc{m,k,S,a,f,E,R,o,λm1 p v g j=>?_};delta nJ at e;cases c:tyN a f with
 |none=>rw[c]at e;cases e
 |some n=>
  rw[c]at e;cases e;exact{v,t.nm,_,_,rfl,RQ g.rel j c,M5 K t (CQ c),q m1 p _ g cG}
end
end Ev
namespace HT
open PySem PySem.Spec PyProof.Rows
section
variable {prog:Program} {w:World} {A:Around} {E:Value->Shared->Prop} {s:Shared}
def kD{sl:Addr}{n:Nat}{T:Tok}{Q:Int×Int×Nat->Shared->Prop}(hs:s.heap.IsSliceOf sl .none .none (.int (-1) T))
  (h:Q ((n:Int) - 1,-1,n) s):wpAny (model prog w) A (Builtin.Slice.sliceApplied (.ref sl) (pure (n:Int))) Q E s:=by
 let{os,c,f,d}:=id hs;delta Builtin.Slice.sliceApplied Builtin.Slice.sliceFields;calc Zbf (Zbf (Zbk c d (x:=.none) rfl (Zbf (Zbk c d (x:=.none) rfl (Zbf (Zbk c d (x:=.int (-1) T) rfl (Zby ?_)))))));calc Zbf (slicePart_int ?_);show wpAny _ _ (if ((-1:Int) == 0)=aN then _ else _) _ _ s;rw[if_neg (by decide)];calc Zbf (slicePart_none (Zbf (slicePart_none (Zbf (Zby ?_)))));show wpAny _ _ (match Builtin.Slice.sliceAdjust aD aD (-1) (n:Int) with |(lo,hi)=>pure (lo,(-1:Int),Builtin.Slice.slicePlaces lo hi (-1))) _ _ s
 let j:Builtin.Slice.sliceAdjust aD aD (-1) (n:Int)=((n:Int) - 1,-1):=by
  delta Builtin.Slice.sliceAdjust;simp
 rw[j];show wpAny _ _ (pure ((n:Int) - 1,(-1:Int),Builtin.Slice.slicePlaces ((n:Int) - 1) (-1) (-1))) _ _ s
 let g:Builtin.Slice.slicePlaces ((n:Int) - 1) (-1) (-1)=n:=by
  delta Builtin.Slice.slicePlaces;let h1:¬ ((-1:Int) > 0):=by decide
  simp![h1,if_false,show(- -1:Int)=1 from rfl,Wy];split <;> omega
 rw[g];exact Zby h
def CT(xs:Array Value):((Zm xs.size).filterMap λ(m:Nat)=>xs[((xs.size:Int) - 1+(m:Int) * -1).toNat]?).toArray=xs.toList.reverse.toArray:=by
 let e:(Zm xs.size).filterMap (λ(m:Nat)=>xs[((xs.size:Int) - 1+(m:Int) * -1).toNat]?)=((Zm xs.size).map λk=>xs.size - 1 - k).filterMap (xs[·]?):=by
  rw[XV]
  congr 1
  funext m
  show xs[((xs.size:Int) - 1+(m:Int) * -1).toNat]?=xs[xs.size - 1 - m]?
  congr 1
  omega
 rw[e,PySem.W.krv_range,List.filterMap_reverse,PySem.W.krv_all]
def jQ{t sl:Addr}{I:Array Value}{T:Tok}{Q:Value->Shared->Prop}(d:IsTup s.heap t I)(hs:s.heap.IsSliceOf sl .none .none (.int (-1) T))
  (h:Q (.ref s⁻¹) {s with heap:=s.heap.push {cls:=.type "tuple",data:=.seq I.toList.reverse.toArray}})
  (k:I.size<=sizeLine):wpAny (model prog w) A (getItem (.ref t) (.ref sl)) Q E s:=by
 let c:sizeOk (.seq I.toList.reverse.toArray):=by
  show I.toList.reverse.toArray.size<=sizeLine;rw[Zk,Yg,ZG];exact k
 let{os,f,g,l}:=id hs;let j:s.TypeIs (.ref sl) "slice" := ⟨os,f,g⟩;delta getItem
 try with_reducible refine Zbn ?_
 first |refine Zbf (Zby ?_) |skip
 refine Zbf (ZbF d.typeIs (by decide) ?_)
 refine Zbf (wpAny_callSpecial?_slot (name:=Str.ofString "__getitem__") d.typeIs WQ
  (Zbg WQ d.typeIs entry_tuple_getitem ?_ (args_tuple_getitem _ _)))
 show wpAny _ _ (Builtin.Tuple.tupleItemsOf (.ref t) >>= _) _ _ s;calc Zbf (tupleItemsOf_ d ?_);calc Zbf (ZbL j ?_);rw[if_pos (by decide)];calc Zbf (kD hs ?_);show wpAny _ _ (if (((I.size:Int) - 1) == 0 && (-1:Int) == 1 && I.size == I.size)=aN then _ else _) _ _ s;rw[if_neg (by rw[show((-1:Int) == 1)=aS from rfl,Wo,YM];exact Zd),CT]
 first
  |exact Zbf (m:=Builtin.Tuple.tupleExact _) (Zbv (Zby {_,rfl,Zby h}) c)
  |exact Zbf (m:=Builtin.Tuple.tupleExact _) (Zbv (Zbf (Zby (Zby {_,rfl,Zby h}))) c)
  |exact Zbf (Zbf (m:=Builtin.Tuple.tupleExact _) (Zbv (Zby (Zby {_,rfl,Zby h})) c))
  |exact Zbf (Zbf (m:=Builtin.Tuple.tupleExact _) (Zbv (Zby {_,rfl,Zby h}) c))
def tZ{l:Addr}{v:List Value}{Q:List Value->Shared->Prop}(hl:IsTup s.heap l v.toArray)
  (h:Q v {s with heap:=(s.heap.push (seqObj "list" #[] 0)).update s⁻¹ (Obj.mapSeq (·++v.toArray))}) (j:v.length<=sizeLine) :
  wpAny (model prog w) A (collect (.ref l)) Q E s:=by
 let{o,d,f,n,hd}:=id hl;delta collect;calc Zbf (wpAny_runValue (Zao entry_proto_collect' ?_));show wpAny _ _ (do again (.builtin "list.__iadd__" ⟨[<-newList [],.ref l],[]⟩)) _ _ s;calc Zbf (wpAny_newList (Zby {Code.quiet_builtin _ (by decide +kernel),Zao entry_list_iadd' ?_}));show wpAny _ _ (Builtin.List.listExtendWith (.ref s⁻¹) (.ref l) (.ref s⁻¹)) _ _ {s with heap:=s.heap.push (seqObj "list" #[] 0)};delta Builtin.List.listExtendWith;let c:(s.heap.push (seqObj "list" #[] 0)).get? l=aw o:=Zc _ d;calc Zbf (ZbL (T := "tuple") ⟨o,c,f⟩ ?_);let g:(Value.type "tuple" == Value.type "tuple")=aN:=by rfl
 rw[if_pos (by rw[g];simp)];calc Zbf (listItems_at c hd ?_);calc Zbf (listItems_at (xs:=#[]) (n:=0) (Zu _ rfl) rfl ?_);rw[if_neg (by simp)];calc Zbf (listUpdate_at (xs:=#[]) (n:=0) (Zu _ rfl) rfl ?_ (YC _) (by show(#[]++v.toArray).size<=sizeLine+1;simp![Array.size_append,Zk,Z3];omega));refine Zby ?_
 show wpAny (model prog w) A (do
   let o <-load s⁻¹
   match o.data with
   |.seq xs _=>pure xs.toList
   | _=>Zbb "internal:collect") Q E {s with heap:=(s.heap.push (seqObj "list" #[] 0)).update s⁻¹ (Obj.mapSeq (·++v.toArray))}
 calc Zbf (wpAny_load (get?_update_seq (Zu _ rfl) _) ?_);show wpAny _ _ (pure ((#[]:Array Value)++v.toArray).toList) Q E _;rw[show((#[]:Array Value)++v.toArray).toList=v by simp];exact Zby h
def v8{l:Addr}{v:List Value}{ns:List Int}{Q:Value->Shared->Prop}(hl:IsTup s.heap l v.toArray)(g:IntsAre v ns)(f:v.length < 64)
  (h:∀ (out:Array Value) (n:List Int),IntsAre out.toList n->n.Perm ns->n.Pairwise (·<=·)->Q (.ref (s⁻¹+1)) {s with heap:=sortedAll s.heap v out}) :
  wpAny (model prog w) A (call (.builtin "sorted") [.ref l]) Q E s:=by
 calc Calls.call_function_entry kind_sorted plain_sorted entry_sorted (args_sorted1 _) ?_;delta Builtin.«sorted»;calc Zbf (m:=checkCount "sorted" 1 1 _) (Zby ?_);calc Zbf (tZ hl ?_ (by rw[Za0];omega));refine Zbf (wpAny_newList ?_)
 let c:((s.heap.push (seqObj "list" #[] 0)).update s⁻¹ (Obj.mapSeq (·++v.toArray))).objs.size=s⁻¹+1:=by
  rw[Heap.size_update,size_push']
 let d:(((s.heap.push (seqObj "list" #[] 0)).update s⁻¹ (Obj.mapSeq (·++v.toArray))).push (seqObj "list" v.toArray 0)).get? (s⁻¹+1)=aw (seqObj "list" v.toArray 0):=by
  rw[<-c];exact Zu _ rfl
 show wpAny _ _ _ _ _ {s with heap:=((s.heap.push (seqObj "list" #[] 0)).update s⁻¹ (Obj.mapSeq (·++v.toArray))).push (seqObj "list" v.toArray 0)};rw[c];calc Zbf (Zbn (Zbg slot_list_sort ⟨_,d,rfl⟩ entry_list_sort (list_sort_tree d g f λout n k j o=>{_,rfl,?_}) (args_list_sort _)));exact Zby {_,rfl,h out n k j o}
end
end HT
namespace Ev
open PySem PySem.Spec PyProof.Rows L2
section
variable {X:Cx} {e:Expr} {T:TE} {pos p2 c f:Pos}
def aP.rev:∀ {xs:List V} {u:List Value},aP xs u->aP xs.reverse u.reverse
 |[],_,.nil=>.nil
 |_::_,_,.cons r t=>by rw[Yl,Yl];exact(aP.rev t).append (.cons r .nil)
def VDs.rev{K:V5}:∀ {g:List D} {v:List V},VDs K m H g v->VDs K m H g.reverse v.reverse
 |[],v,h=>by rw[VDs]at h;subst h;exact .nil
 |d::g,v,h=>by
  rw[VDs]at h;let{y,r,rfl,p,q}:=h;rw[Yl,Yl];exact(VDs.rev q).append (.cons p .nil)
abbrev t0(d:D)(S:Sto):Option (D×Sto):=match d with
 |.tup g=>aw (.tup g.reverse,S)
 | .ref n=>(match aU S n with
  |some g=>aw (.ref S.length,S++[.lst g.reverse])
  | none=>aD)
 |_=>aD
def M6{k:Nat}(he:PE X e T):PE X (.Subscript e (.Slice aD aD (aw (.UnaryOp .USub (.Constant (.int 1) k c) f)) p2) pos) (tUn (rS1 X.K t0) T):=by
 intro j s Z H Q I h;calc Subscript_ (thn (he j s Z H _ I h) λv s1 ⟨x,H1,I1,r1,q1⟩=>?_);calc wpAny_Slice ?_;rw[Zax];calc Zby (Zby ?_);calc thn (x9 (BL vG i8) j s1 Z H1 (λo Y=>o=aw (-1)/\Y=H1) I1 ⟨_,rfl,_,rfl,rfl,rfl⟩) λvk L ⟨o,Y,I2,pk,ho,hH⟩=>?_;subst ho hH;cases pk with
 |int i tk=>
  let y:L2.Inv X j Z Y {L with heap:=L.heap.push {cls:=.type "slice",data:=.fields #[.none,.none,.int (-1) tk]}}:=I2.kept (t':=L.toks) λb ob q=>Zc _ q;let{m,S,a,d,S',R,va,E,q}:=q1;cases a with
  |tup ds=>
   cases E;let{p,B,rfl,U,l}:=va.tups;cases r1;let{u,r,ht,J}:=y.tuple (.of U);let g:u.toArray.size=B.length:=by rw[Zk];exact r.length.symm
   calc tail_any (ops:=[.ref p,.ref L.heap.objs.size]) ht.typeIs PyProof.Rows.slot_tuple_getitem.lookup (HT.jQ ht (Heap.IsSliceOf.new ..) ?_ (by rw[g];exact J)) (by with_unfolding_all rfl);calc{.ref _,_,y.laid (o:=.tup B.reverse) (λb ob q=>Zc _ q) (Zg _) ?_,rfl,jN R (VDs.rev l) q _ (y.hok.fresh (Zg _))};exact{by rw[Yg];exact J,_,aP.rev r,qO.new _ _}
  |ref n=>
   simp![t0]at E;cases O:aU S n with
   |none=>rw[O]at E;cases E
   |some ds=>
    rw[O]at E;cases E;let{p,B,hp,U,l}:=R.seq O;let{p',C,rfl}:=va.refs;rw[hp]at C;cases C;cases r1;let{u,r,pl,J}:=y.list U;let g:u.toArray.size=B.length:=by rw[Zk];exact r.length.symm
    calc tail_any (ops:=[.ref p,.ref L.heap.objs.size]) pl.isList.typeIs PySem.slot_list_getitem.lookup (Zbm pl.isList (Heap.IsSliceOf.new ..) .none .none (.int (-1) tk) (by decide) ?_ (by rw[g];exact J)) (by with_unfolding_all rfl);rw[PySem.W.krv_pick];calc{.ref _,_,y.laid (o:=.lst B.reverse) (λb ob q=>Zc _ q) (Zg _) ?_,rfl,md R (VDs.rev l) q _ (y.hok.fresh (Zg _))};exact{by rw[Yg];exact J,_,0,aP.rev r,Zu _ rfl}
  |_=>cases E
end
end Ev
namespace Ev
open PySem PySem.Spec PyProof.Rows L2
section
variable {X:Cx} {K:V5} {m:List Addr} {H:Hp} {S:Sto}
abbrev v9(x:Int):List Int->List Int
 |[]=>[x]
 |y::l=>if x<=y then x::y::l else y::v9 x l
abbrev cp:List Int->List Int
 |[]=>[]
 |x::l=>v9 x (cp l)
def kE(x:Int):∀l,(v9 x l).Perm (x::l)
 |[]=>List.Perm.refl _
 |y::l=>by
  delta v9;split
  .exact List.Perm.refl _
  .exact((kE x l).cons y).trans (List.Perm.swap x y l)
def bP:∀l,(cp l).Perm l
 |[]=>List.Perm.refl _
 |x::l=>(kE x (cp l)).trans ((bP l).cons x)
def k8(x:Int):∀l:List Int,l.Pairwise (·<=·)->(v9 x l).Pairwise (·<=·)
 |[],_=>by delta v9;simp
 |y::l,h=>by
  delta v9;rw[Yj]at h;split
  .rename_i c;calc Yj.mpr {λz hz=>?_,Yj.mpr h};rcases Zn.mp hz with rfl |hz
   .exact c
   .let:=h.1 z hz;lia
  .rename_i c;calc Yj.mpr {λz hz=>?_,k8 x l h.2};rcases Zn.mp ((kE x l).mem_iff.mp hz) with rfl |hz
   .lia
   .exact h.1 z hz
def cq:∀l,(cp l).Pairwise (·<=·)
 |[]=>List.Pairwise.nil
 |x::l=>k8 x _ (cq l)
def fN:∀ {a b:List Int},a.Perm b->a.Pairwise (·<=·)->b.Pairwise (·<=·)->a=b
 |[],b,p,_,_=>(List.Perm.nil_eq p)
 |x::a,[],p,_,_=>(List.Perm.nil_eq p.symm).symm
 |x::a,y::b,p,ha,hb=>by
  rw[Yj]at ha hb
  let e:x=y:=by
   let h1:=p.mem_iff.mp (Zh (a:=x) (l:=a));let h2:=p.mem_iff.mpr (Zh (a:=y) (l:=b));rcases Zn.mp h1 with rfl |h1
   .rfl
   .rcases Zn.mp h2 with h2 |h2
    .exact h2.symm
    .let:=ha.1 y h2;let:=hb.1 x h1
     lia
  subst e;rw[fN (List.Perm.cons_inv p) ha.2 hb.2]
def bI:∀ {ns:List Int} {u:List Value},aP (ns.map V.int) u->IntsAre u ns
 |[],_,h=>by cases h;exact .nil
 |n::ns,_,h=>by
  cases h with
  |cons r1 r2=>let{t,rfl}:=r1;exact .cons n t (bI r2)
def wa:aZ X (.builtin "sorted") (λxs H Q=>∃a ns,xs=[.ref a]/\SqL X.K H a (ns.map V.int)/\ns.length < 64/\∀p,H p=aD->Q (.ref p) (upd H p (.lst ((cp ns).map V.int)))):=by
 intro j s C H xs U Q I r h;let{a,ns,rfl,l,k,q}:=h;let{u,rfl,y}:=cF r;cases y;let{d,g,pl,f}:=I.list l;let c:=g.length;rw[Za]at c f;calc sorted_ints pl.isList (bI g) (by lia) λout n h1 h2 v=>?_;let e:n=cp ns:=fN (h2.trans (bP ns).symm) v (cq ns);subst e;let{e,B}:=sortedAll_at s.heap d out;refine{.ref (s⁻¹+1),_,I.laid (t':=s.toks) (a:=s⁻¹+1) (o:=.lst ((cp ns).map V.int)) (λb o z=>sortedAll_old z) (YI _) {by rw[Za,(bP ns).length_eq];exact f,out.toList,e,iq h1,by simpa using B},rfl,q _ (I.hok.fresh (YI _))}
abbrev dU:List D->Option (List Int)
 |[]=>aw []
 |d::ds=>match d,dU ds with
  |.int i,aw ms=>aw (i::ms)
  |_,_=>aD
abbrev CU(_:Bool)(d:List D):Option (List D):=match dU d with
 |some ns=>if ns.length < 64 then aw ((cp ns).map D.int) else aD
 |none=>aD
def dW:∀ {c:List D} {ns:List Int},dU c=aw ns->c=ns.map D.int
 |[],_,e=>by cases e;rfl
 |d::c,ns,e=>by
  simp![dU]at e;split at e
  .rename_i i f h1;cases e;rw[dW h1];rfl
  .cases e
def cL:∀ {ns:List Int} {c:List V},VDs K m H (ns.map D.int) c->c=ns.map V.int
 |[],_,h=>by rw[Yh,VDs]at h;exact h
 |n::ns,_,h=>by
  rw[Zw,VDs]at h;let{v,r,rfl,h1,h2}:=h;rw[h1.ints,cL h2];rfl
def kF:∀ (ns:List Int),VDs K m H (ns.map D.int) (ns.map V.int)
 |[]=>by rw[Yh,Yh,VDs]
 |n::ns=>by rw[Zw,Zw,VDs];exact{_,_,rfl,bv,kF ns}
abbrev Aj(d:List D):Option (List D):=match dU d with
 |some ns=>if ns.length < 64 then aw ((cp ns).map D.int) else aD
 |none=>aD
def wb:aZ X (.builtin "sorted") (λxs H Q=>∃a ns,xs=[.ref a]/\SqT X.K H a (ns.map V.int)/\ns.length < 64/\∀p,H p=aD->Q (.ref p) (upd H p (.lst ((cp ns).map V.int)))):=by
 intro j s C H xs U Q I r h;let{a,ns,rfl,l,k,q}:=h;let{u,rfl,y}:=cF r;cases y;let{d,g,pl,f}:=I.tuple l;let c:=g.length;rw[Za]at c f;calc HT.v8 pl (bI g) (by lia) λout n h1 h2 v=>?_;let e:n=cp ns:=fN (h2.trans (bP ns).symm) v (cq ns);subst e;let{e,B}:=sortedAll_at s.heap d out;refine{.ref (s⁻¹+1),_,I.laid (t':=s.toks) (a:=s⁻¹+1) (o:=.lst ((cp ns).map V.int)) (λb o z=>sortedAll_old z) (YI _) {by rw[Za,(bP ns).length_eq];exact f,out.toList,e,iq h1,by simpa using B},rfl,q _ (I.hok.fresh (YI _))}
def qg:aZ X (.builtin "sorted") (r1 (rTm X.K λT d=>if T=aS then CU T d else Aj d)):=by
 calc aZ.imp (aZ.or wb wa) λxs H Q h=>?_;let{_,rfl,m,S,T,d,a,v,es,R,rfl,j,vd,e,q}:=dq h;cases T with
 |true=>
  left;let e:Aj d=aw es:=by simpa using e
  delta Aj at e;cases c:dU d with
  |none=>rw[c]at e;cases e
  |some ns=>
   rw[c]at e;dsimp! at e;split at e
   .rename_i g;cases e;let f:=dW c;subst f;let E:=cL vd;subst E;exact{a,ns,rfl,.of j,g,mf R (kF _) q}
   .cases e
 |false=>
  right;let e:CU aS d=aw es:=by simpa using e
  delta CU at e;cases c:dU d with
  |none=>rw[c]at e;cases e
  |some ns=>
   rw[c]at e;dsimp! at e;split at e
   .rename_i g;cases e;let f:=dW c;subst f;let E:=cL vd;subst E;exact{a,ns,rfl,j,g,mf R (kF _) q}
   .cases e
end
end Ev
namespace Ev
open PySem PySem.Spec PyProof.Rows L2
abbrev je:List Int->Int
 |[]=>0
 |n::ns=>ns.foldl (λa b=>if a < b then b else a) n
def jR:∀ (ns:List Int) (n:Int),(ns.foldl (λa b=>if a < b then b else a) n)∈n::ns/\∀x∈n::ns,x<=ns.foldl (λa b=>if a < b then b else a) n
 |[],n=>{Zh,λx hx=>by simp at hx;subst hx;exact Z4 _}
 |m::ns,n=>by
  let{h1,h2}:=jR ns (if n < m then m else n);rw[We];refine{?_,λx hx=>?_}
  .rcases Zn.mp h1 with h |h
   .rw[h];split <;> simp
   .exact Zf _ (Zf _ h)
  .let c:=h2 _ Zh;rcases Zn.mp hx with rfl |hx
   .split at c <;> split <;> omega
   .rcases Zn.mp hx with rfl |hx
    .split at c <;> split <;> omega
    .exact h2 x (Zf _ hx)
def wc{M:Int}(h1:M∈ns)(h2:∀a,a∈ns->a<=M):M=je ns:=by
 cases ns with
 |nil=>simp at h1
 |cons n ns=>
  let{a,b}:=jR ns n;let:=h2 _ a;let:=b _ h1;show M=ns.foldl _ n;omega
section
variable {X:Cx} {K:V5} {m:List Addr} {H:Hp} {S:Sto}
def Ak(hc:X.calm=aN):aZ X (.builtin "max") (λxs H Q=>∃a ns,xs=[.ref a]/\SqL X.K H a (ns.map V.int)/\ns≠[]/\Q (.int (je ns)) H):=by
 intro p s σ H xs us Q I r h;let{a,ns,rfl,J,d,q}:=h;let{u,rfl,Y}:=cF r;cases Y;let{O,Z,pl,hz}:=I.list J;let l:=bI Z;let n:=pl.isList;let{y,e}:=l.allInts.items
 let c:ns=y.toList.map (·.1):=by
  let h1:=l.numsOf;rw[<-ZaO,<-e];exact h1.symm
 let f:0 < y.size:=by
  let o:0 < ns.length:=Xe.mpr d;rw[c,Za,ZG]at o;exact o
 rw[e]at n;calc max_intList (I.ok.hd hc) n f λv C T U B=>?_;let{t,rfl}:=ZaC U;let{b1,L}:=argBest_gt (numAt y) (y.size - 1);let k:∀M:Int,M∈ns->(∀a,a∈ns->a<=M)->∃x H',Inv X p σ H' {s with heap:=C,toks:=T}/\aI x (.int M t)/\Q x H':=λM h1 h2=>{.int (je ns),H,I.kept B,{t,by rw[wc h1 h2]},q};refine k _ ?_ λa g=>?_
 .rw[c,ZaN];exact getD_mem (by rw[Za,ZG];omega)
 .rw[c]at g;let{j,E,rfl}:=mem_getD g;rw[Za,ZG]at E;rw[<-ZaN];exact L j (by omega)
def rJ(n:A.handled=aD)(hl:s.heap.IsTuple l (ZaB xs))(f:0 < xs.size)
  (h:∀v h' T,(ZaB xs)[argBest (λi j=>decide (numAt xs i > numAt xs j)) (xs.size - 1)]?=aw v->(∀b o,s.heap.get? b=aw o->h'.get? b=aw o)->Q v {s with heap:=h',toks:=T}) :
  wpAny (model prog w) A (call (.builtin "max") [.ref l]) Q E s:=by
 let d:l < s⁻¹:=by let{_,e,_}:=hl;exact Zt e
 calc call_max_walk (ZbB hl ?_);refine{_,[_,l],[_],_,_,_,_,rfl,Walks.tuple (A:=A.in1) n _ l (ZH d) (ZaB xs),{{_,Zu _ rfl,rfl,rfl},hl.push _},λc hc=>?_,by simpa[ZaB] using f,CmpOf.ints_gt (numAt xs) (λ_ _=>ZaC),λv h' T k g=>?_}
 .show c < (s.heap.push _).objs.size;rw[Z0];rcases Zn.mp hc with rfl |hc
  .exact YQ _
  .rcases Zn.mp hc with rfl |hc
   .exact X0 d
   .cases hc
 .calc h v h' T (by simpa[ZaB] using k) λb o e=>g b o (λhm=>?_) (Zc _ e);rcases Zn.mp hm with e1 |hm
  .exact absurd (e1▸Zt e) (ZO _)
  .cases hm
def Al(hc:X.calm=aN):aZ X (.builtin "max") (λxs H Q=>∃a ns,xs=[.ref a]/\SqT X.K H a (ns.map V.int)/\ns≠[]/\Q (.int (je ns)) H):=by
 intro p s σ H xs us Q I r h;let{a,ns,rfl,L,d,q}:=h;let{u,rfl,Y}:=cF r;cases Y;let{f,Z,pl,hz}:=I.tuple L;let n:=bI Z;let o:s.heap.IsTuple a f.toArray:=pl;let{y,e}:=n.allInts.items
 let c:ns=y.toList.map (·.1):=by
  let h1:=n.numsOf;rw[<-ZaO,<-e];exact h1.symm
 let g:0 < y.size:=by
  let B:0 < ns.length:=Xe.mpr d;rw[c,Za,ZG]at B;exact B
 rw[e]at o;calc rJ (I.ok.hd hc) o g λv E T U C=>?_;let{t,rfl}:=ZaC U;let{b1,O}:=argBest_gt (numAt y) (y.size - 1);let k:∀M:Int,M∈ns->(∀a,a∈ns->a<=M)->∃x H',Inv X p σ H' {s with heap:=E,toks:=T}/\aI x (.int M t)/\Q x H':=λM h1 h2=>{.int (je ns),H,I.kept C,{t,by rw[wc h1 h2]},q};refine k _ ?_ λa l=>?_
 .rw[c,ZaN];exact getD_mem (by rw[Za,ZG];omega)
 .rw[c]at l;let{j,J,rfl}:=mem_getD l;rw[Za,ZG]at J;rw[<-ZaN];exact O j (by omega)
abbrev pw(T:Bool)(d:List D)(S:Sto):Option (D×Sto):=match dU d with
 |some (n::ns)=>aw (.int (je (n::ns)),S)
 |_=>aD
def Am(hc:X.calm=aN):aZ X (.builtin "max") (r1 (rSq X.K pw)):=by
 calc aZ.imp (aZ.or (Ak hc) (Al hc)) λxs H Q h=>?_;let{_,rfl,m,S,T,j,a,v,d,g,R,rfl,sq,vd,e,q}:=dq h;delta pw at e;split at e
 .rename_i n ns f;cases e;let c:=dW f;subst c;let E:=cL vd;subst E;rcases nD sq with sq |sq
  .exact .inl {a,n::ns,rfl,sq,by simp,q m H _ (Aft.refl R) bv}
  .exact .inr {a,n::ns,rfl,sq,by simp,q m H _ (Aft.refl R) bv}
 .cases e
end
def CV(a d:Value):argsOk "max" ⟨[a],[(Str.ofString "default",d)]⟩:=by delta argsOk;kernel_rfl
section
variable {prog:Program} {w:World} {A:Around} {R:Result->Shared->Prop} {I S:Addr} {f g:List Addr} {n:Nat} {P:Nat->Value->Prop} {St:Nat->Heap->Prop} {bt:Nat->Nat->Bool} {k:List (Str×Value)}
def yr:(toString "max" ++ toString ".loop" : String) = "max.loop" := by decide
def nK(W:Walks prog w A.in1 I f g n P St)(J:CmpOf prog w A.in1 .Gt P bt)(y:S∉f):∀ (m i:Nat) (s:Shared) (b:Value) (c:Nat),i+1+m=n->St (i+1) s.heap->P (argBest bt i) b->s.heap.get? S=aw {cls:=.type "list",dict:=aD,data:=.seq #[b,b] c,slots:=#[]} ->
  (∀v h' C,P (argBest bt (n - 1)) v->(∀a o,a∉g->a≠S->s.heap.get? a=aw o->h'.get? a=aw o)->R (.ok (.ret v)) {s with heap:=h',toks:=C})->codeAny (model prog w) A (.builtin "max.loop" ⟨[.ref I,.none,.ref S],k⟩) R s
 |0,i,s,b,c,e,st,pb,gs,r=>by
  let E:S∉g:=λh=>y (W.sub _ h);calc Zao W1 ?_;rw[Around.under_plainId W8 _];show wpAny _ A.in1 (ZaY (.ref S) >>= _) _ _ s;calc Zbf (ZbE gs rfl ?_);show wpAny _ A.in1 (tryCatch (pyNext (.ref I)) _ >>= _) _ _ s;calc Zbf (ZbK (W.done s _ _ (by rw[<-e];exact st) λh' C u=>?_));show wpAny _ A.in1 (Zbc S (λ_=>#[]) >>= _) _ _ _;calc Zbf (ZbM (u S _ E gs) rfl (Zbf (Zbq (Zby ?_))));exact r b _ C (by rw[<-e];exact pb) λa o d q z=>(ZN _ _ (Ne.symm q)).trans (u a o d z)
 |m+1,i,s,b,c,e,st,pb,gs,r=>by
  let E:S∉g:=λh=>y (W.sub _ h);calc Zao W1 ?_;rw[Around.under_plainId W8 _];show wpAny _ A.in1 (ZaY (.ref S) >>= _) _ _ s;calc Zbf (ZbE gs rfl ?_);show wpAny _ A.in1 (tryCatch (pyNext (.ref I)) _ >>= _) _ _ s;calc Zbf (ZbK (W.item (i+1) s _ _ (by lia) st λv h' C Q B u=>?_));let j:=u S _ E gs;show wpAny _ A.in1 (tryCatch (holding [v,v] (ZaU .Gt v b >>= _)) _ >>= _) _ _ _;calc Zbf (ZbK (Zbn (Zbf (J (i+1) (argBest bt i) v b _ _ _ Q pb ?_))));calc Zbf (Zbn (ZbJ ?_));calc Zbf (Zbq (Zby ?_));cases hb:bt (i+1) (argBest bt i) with
  |true=>
   simp![if_true];calc Zbf (ZbM j rfl (Zbf (Zbq ?_)));rw[yr];refine Zby {ZaQ W8 _,nK W J y m (i+1) _ v _ (by lia) (W.frame _ _ _ B λa af o z=>?_) (by simp![argBest,hb,if_true];exact Q) (Yp _ j rfl) λO l T p L=>?_}
   .exact(ZN _ _ (λz:S=a=>y (by rw[z];exact af))).trans z
   .exact r O l T p λa o d q z=>L a o d q ((ZN _ _ (Ne.symm q)).trans (u a o d z))
  |false=>
   simp![ZY,if_false];calc Zbf (Zbq ?_);rw[yr];calc Zby {ZaQ W8 _,nK W J y m (i+1) _ b c (by lia) B (by simp![argBest,hb,ZY,if_false];exact pb) j λO l T p L=>?_};exact r O l T p λa o d q z=>L a o d q (u a o d z)
def An(W:Walks prog w A.in1 I f g n P St)(L:CmpOf prog w A.in1 .Gt P bt)(l:S∉f)(O:0 < n){c:Nat}(st:St 0 s.heap)(gs:s.heap.get? S=aw {cls:=.type "list",dict:=aD,data:=.seq #[] c,slots:=#[]})
  (r:∀v h' y,P (argBest bt (n - 1)) v->(∀a o,a∉g->a≠S->s.heap.get? a=aw o->h'.get? a=aw o)->R (.ok (.ret v)) {s with heap:=h',toks:=y}):codeAny (model prog w) A (.builtin "max.loop" ⟨[.ref I,.none,.ref S],k⟩) R s:=by
 let E:S∉g:=λh=>l (W.sub _ h);calc Zao W1 ?_;rw[Around.under_plainId W8 _];show wpAny _ A.in1 (ZaY (.ref S) >>= _) _ _ s;calc Zbf (ZbE gs rfl ?_);show wpAny _ A.in1 (tryCatch (pyNext (.ref I)) _ >>= _) _ _ s;calc Zbf (ZbK (W.item 0 s _ _ O st λv h' y J q B=>?_));let d:=B S _ E gs;show wpAny _ A.in1 (Zbc S (λ_=>#[v,v]) >>= _) _ _ _;calc Zbf (ZbM d rfl ?_);rw[yr];refine Zby {ZaQ W8 _,nK W L l (n - 1) 0 _ v _ (by lia) (W.frame _ _ _ q λa af o z=>?_) J (Yp _ d rfl) λU j T p Q=>?_}
 .exact(ZN _ _ (λz:S=a=>l (by rw[z];exact af))).trans z
 .exact r U j T p λa o C u z=>Q a o C u ((ZN _ _ (Ne.symm u)).trans (B a o C z))
def CW(W:Walks prog w A.in1 I f g 0 P St)(j:S∉f){c:Nat}(st:St 0 s.heap)(gs:s.heap.get? S=aw {cls:=.type "list",dict:=aD,data:=.seq #[] c,slots:=#[]})
  (r:∀h' T,(∀a o,a∉g->s.heap.get? a=aw o->h'.get? a=aw o)->R (.ok (.ret d)) {s with heap:=h',toks:=T}):codeAny (model prog w) A (.builtin "max.loop" ⟨[.ref I,.none,.ref S],[(Str.ofString "default",d)]⟩) R s:=by
 calc Zao W1 ?_;rw[Around.under_plainId W8 _];show wpAny _ A.in1 (ZaY (.ref S) >>= _) _ _ s;calc Zbf (ZbE gs rfl ?_);show wpAny _ A.in1 (tryCatch (pyNext (.ref I)) _ >>= _) _ _ s;calc Zbf (ZbK (W.done s _ _ st λh' T h=>?_));exact Zbf (ZbD (Zby (r h' T h)))
variable {E:Value->Shared->Prop} {s:Shared} {l:Addr} {xs:Array (Int×Tok)}
def CY(u:A.handled=aD)(hl:s.heap.IsList l (ZaB xs))
  (h1:0 < xs.size->∀v h' T,(ZaB xs)[argBest (λi j=>decide (numAt xs i > numAt xs j)) (xs.size - 1)]?=aw v->(∀b o,s.heap.get? b=aw o->h'.get? b=aw o)->Q v {s with heap:=h',toks:=T})
  (h2:xs.size=0->∀h' T,(∀b o,s.heap.get? b=aw o->h'.get? b=aw o)->Q d {s with heap:=h',toks:=T}):wpAny (model prog w) A (call (.builtin "max") [.ref l] [(Str.ofString "default",d)]) Q E s:=by
 calc kmb_tree F.kind_max F.plain_max F.entry_max (CV _ _) ?_;show wpAny _ A.in1 (Builtin.Builtins.bindParams "max" ["key","default"] 0 ⟨[],[(Str.ofString "default",d)]⟩ >>= _) _ _ s;calc Zbf (Zbw (show Builtin.Builtins.bindParams "max" ["key","default"] 0 ⟨[],[(Str.ofString "default",d)]⟩=pure [aD,aw d] from rfl) ?_);calc Zbf (Zby ?_);calc Zbf (iter_intList hl λJ e st c L=>?_);subst e;let W:=Walks.list (prog:=prog) (w:=w) (A:=A.in1) u s⁻¹ l L (ZaB xs);calc Zbf (Zbv ?_);let C:∀b∈[s⁻¹,l],b < (s.heap.push {cls:=.type "list_iterator",data:=.fields #[.ref l,.int 0 0]}).objs.size:=c;rw[yr];by_cases q:xs.size=0
 .let B:(ZaB xs).size=0:=by simpa[ZaB] using q
  rw[B]at W;calc Zby {ZaQ W8 _,CW W (λp=>ZO _ (c _ p)) (W.frame _ _ _ st λb _ o e=>Zc _ e) (Zu _ rfl) λh' T h=>?_};exact h2 q h' T (ZaP λb o hb e=>h b o hb (Zc _ e))
 .calc Zby {ZaQ W8 _,An W (CmpOf.ints_gt (numAt xs) (λ_ _=>ZaC)) (λp=>ZO _ (c _ p)) (by simp[ZaB];lia) (W.frame _ _ _ st λb _ o e=>Zc _ e) (Zu _ rfl) λv h' T y h=>?_};exact h1 (by lia) v h' T (by simpa[ZaB] using y) (ZaP λb o hb e=>h b o hb (ZH (Zt e)) (Zc _ e))
end
abbrev wg(c:Int):List Int->Int
 |[]=>c
 |n::ns=>je (n::ns)
abbrev gq(c:Int)(T:Bool)(d:List D)(S:Sto):Option (D×Sto):=match T,dU d with
 |false,aw ns=>aw (.int (wg c ns),S)
 |_,_=>aD
section
variable {X:Cx} {K:V5} {m:List Addr} {H:Hp} {S:Sto} {e:Expr} {t:TA} {p pos kp b:Pos} {c:Int} {j:Nat}
def M7(hc:X.calm=aN)(hg:Gl X "max")(hm:X.mg "max" = aD)(Z:(("max" : Str) == ("__debug__" : Str))=aS)(o:PA X [e] t)(he:Za2 [e] X.env=(aS,eval e X.env)::Za2 [] X.env) :
  PE X (.Call (.Name "max" p) [e] [{aw "default",.Constant (.int c) j b,kp}] pos) (tCB (r1 (rSq X.K (gq c))) t):=by
 intro f s J H Q I h;calc Zbd (eV I hg hm WJ ?_ (by decide) Z);calc callWith_kw (thn (o pos f s J H _ I h) λus s1 ⟨vs,Y,I1,r,q1⟩=>?_) (by rw[he];rfl) (by rw[he];rfl) rfl rfl;calc thn (xZ (nm:=aw "default") (kpos:=kp) (i8 (X:=X) (i:=c) (j:=j) (pos:=b)) BP pos f s1 J Y _ I1 (show ci (tC (.int c)) jF J Y (λzs g=>zs=[.int c]/\g=Y) from ⟨rfl,rfl⟩)) λks s2 ⟨zs,g,C,rz,ez,eH⟩=>?_;subst ez eH;let{u,rfl,ru}:=cF rz;let{tk,rfl}:=ru;let{_,rfl,m,S,tu,ds,a,ws,d,S',R,rfl,U,vd,E,q}:=dq q1;let{u',rfl,O}:=cF r;cases O;delta gq at E;split at E
 .rename_i ns B;cases E;let ed:=dW B;subst ed;let ev:=cL vd;subst ev;let U:SqL X.K g a (ns.map V.int):=U;let{its,rv,pl,hz}:=C.list U;let B:=bI rv;let hl:=pl.isList;let{y,ey}:=B.allInts.items
  let k:ns=y.toList.map (·.1):=by
   let h1:=B.numsOf;rw[<-ZaO,<-ey];exact h1.symm
  let l:ns.length=y.size:=by rw[k,Za,ZG]
  rw[ey]at hl;refine CY (C.ok.hd hc) hl (λhsz v h' T hv L=>?_) (λhsz h' T L=>?_)
  .let{t',rfl}:=ZaC hv;let{b1,b2}:=argBest_gt (numAt y) (y.size - 1)
   let et:wg c ns=je ns:=by
    cases ns with
    |nil=>rw[Z3]at l;lia
    |cons n ns=>rfl
   let key:∀M:Int,M∈ns->(∀a,a∈ns->a<=M)->∃x H',Inv X f J H' {s2 with heap:=h',toks:=T}/\aI x (.int M t')/\Q x H':=λM h1 h2=>{.int (wg c ns),g,C.kept L,{t',by rw[wc h1 h2,et]},q m g _ (Aft.refl R) bv};refine key _ ?_ λa o=>?_
   .rw[k,ZaN];exact getD_mem (by rw[Za,ZG];lia)
   .rw[k]at o;let{j,hj,rfl}:=mem_getD o;rw[Za,ZG]at hj;rw[<-ZaN];exact b2 j (by lia)
  .let en:ns=[]:=Yk.mp (by lia);subst en;exact{.int c,g,C.kept L,⟨tk,rfl⟩,q m g _ (Aft.refl R) bv}
 .cases E
end
section
variable {X:Cx} {K:V5} {m:List Addr} {H:Hp} {S:Sto}
abbrev eM(d:D)(S:Sto):Bool:=match d with
 |.ref n=>(aU S n).isSome
 |_=>aS
abbrev isTup:D->Bool
 |.tup _=>aN
 |_=>aS
abbrev t5(c:D->Sto->Bool)(f:D->List D->Sto->Option (D×Sto))(x:XE)(y:XA):XE:=λh S=>bnd (x h S) λd g=>if c d g=aN then bnd (y h g) λj k=>f d j k else aD
abbrev rM(K:V5)(f:D->List D->Sto->Option (D×Sto)):V->List V->Hp->VK->Prop:=λv k H Q=>∃m S a g d j,Rel K m S H/\VD K m H a v/\VDs K m H g k/\f a g S=aw (d,j)/\∀c h u,Aft K m H j c h->VD K c h d u->Q u h
def rK(hT:∀ {m H S d v},Rel K m S H->VD K m H d v->c d S=aN->tyV K T v H)(h:tE K (t5 c f x y) Y H Q):tBM K T (rM K f) (tE K x) (tAr K y) Y H Q:=by
 let{m,k,S,d,I,E,R,e,q}:=h;let{a,n,C,e}:=ac e;split at e
 .rename_i Z;let{l,p,B,e}:=ac e;calc{m,k,S,a,n,E,R,C,λm1 H1 v g o=>{hT g.rel o Z,m1,k,n,l,p,E.mono R g.ext,g.rel,B,λO H2 vs j vb=>?_}};exact{O,p,a,l,d,I,j.rel,o.mono g.rel j.ext,vb,e,λU L u J vd=>q U L u ((g.trans j).trans J) vd}
 .cases e
def Hd(hT:∀ {m H S d v},Rel K m S H->VD K m H d v->c d S=aN->tyV K T v H)(h:tE K (t5 c f x z9) C H Q):RG K T (rM K f) (tE K x) C H Q:=by
 let{m,y,S,d,o,E,R,e,q}:=h;let{a,j,n,e}:=ac e;split at e
 .rename_i I;let{L,O,l,e}:=ac e;cases l;exact{m,y,S,a,j,E,R,n,λm1 U v g k=>{hT g.rel k I,m1,j,a,[],d,o,g.rel,k,.nil,e,λJ B u p vd=>q J B u (g.trans p) vd}}
 .cases e
def wj(R:Rel K m S H)(vd:VD K m H d v)(h:eM d S=aN):tyV K "list" v H:=by
 cases d with
 |ref n=>
  simp![eM]at h;let{o,hs}:=Yt.mp h;let{p,k,g,j,f}:=R.seq hs;let{l,c,rfl}:=vd.refs;rw[g]at c;cases c;exact .inl ⟨rfl,k,j⟩
 |_=>cases h
def CZ(R:Rel K m S H)(vd:VD K m H d v)(h:(λd (_:Sto)=>isTup d) d S=aN):tyV K "tuple" v H:=by
 cases d with
 |tup g=>
  let{a,f,rfl,c,_}:=vd.tups;exact .inr (.inl {rfl,.inr ⟨f,c⟩})
 |_=>cases h
abbrev chg(n:Nat)(S:Sto)(f:List D->Option (D×List D)):Option (D×Sto):=match S[n]? with
 |some (.lst ds)=>(f ds).map λr=>(r.1,S.set n (.lst r.2))
 |_=>aD
def nM{n:Nat}(h:chg n S f=aw (d,k)):∃c E,S[n]?=aw (.lst c)/\f c=aw (d,E)/\k=S.set n (.lst E):=by
 delta chg at h;cases j:S[n]? with
 |none=>rw[j]at h;cases h
 |some o=>
  rw[j]at h;cases o with
  |lst c=>
   dsimp! at h;cases g:f c with
   |none=>rw[g]at h;cases h
   |some r=>rw[g]at h;cases h;exact⟨c,r.2,rfl,g,rfl⟩
  |_=>cases h
abbrev t6(d:D)(as:List D)(S:Sto):Option (D×Sto):=match d,as with
 |.ref n,[e]=>chg n S λc=>if c.length < 100000 then aw (.non,c++[e]) else aD
 |_,_=>aD
abbrev wk(d:D)(as:List D)(S:Sto):Option (D×Sto):=match d,as with
 |.ref n,[]=>chg n S λc=>(c[c.length - 1]?).map λx=>(x,c.dropLast)
 |_,_=>aD
abbrev jf(d:D)(as:List D)(S:Sto):Option (D×Sto):=match d,as with
 |.ref n,[.int i]=>chg n S λc=>match ixN c.length i with
  |some k=>(c[k]?).map λx=>(x,c.eraseIdx k)
  |none=>aD
 |_,_=>aD
def rL{n:Nat}(R:Rel K m S H)(vd:VD K m H (.ref n) v)(f:S[n]?=aw (.lst g)):∃a vs,v = .ref a/\m[n]?=aw a/\H a=aw (.lst vs)/\VDs K m H g vs:=by
 let{a,vs,c,d,q}:=R.lst f;let{j,h,e}:=vd.refs;rw[c]at h;cases h;exact⟨a,vs,e,c,d,q⟩
def iG{n:Nat}(R:Rel K m S H)(h:m[n]?=aw a)(vd:VDs K m H E c):Aft K m H (S.set n (.lst E)) m (upd H a (.lst c)):=let ⟨x,y⟩:=R.write h vd;⟨x,y⟩
def M8:MtR X "list.append" (rM X.K t6):=by
 intro f s O H x xs v u Q I k E h;calc pX f s O H x xs v u Q I k E ?_;let{m,S,a,U,d,T,R,o,j,e,q}:=h;delta t6 at e;split at e
 .rename_i n z;let{ds,Y,l,g,rfl}:=nM e;split at g
  .rename_i Z;cases g;let{p,L,rfl,C,J,c}:=rL R o l;let{y,rfl,B}:=Ha j;refine{p,L,y,rfl,rfl,J,by rw[Za0,<-c.length];lia,q m _ _ (iG R C (c.append (.cons B .nil))) nt}
  .cases g
 .cases e
def He(h:VDs K m H d c)(e:d[d.length - 1]?=aw x):∃v,c[c.length - 1]?=aw v/\VD K m H x v:=by rw[<-h.length];exact h.get e
def nP:∀ {c:List D} {v:List V} (k:Nat),VDs K m H c v->VDs K m H (c.eraseIdx k) (v.eraseIdx k)
 |[],v,k,h=>by rw[VDs]at h;subst h;exact .nil
 |d::c,v,0,h=>by
  rw[VDs]at h;let{y,r,rfl,p,q}:=h;exact q
 |d::c,v,k+1,h=>by
  rw[VDs]at h;let{y,r,rfl,p,q}:=h;exact .cons p (nP k q)
def t7(h:VDs K m H d v):VDs K m H d.dropLast v.dropLast:=by
 rw[<-i9,<-i9,<-h.length];exact nP _ h
def Hf:MtR X "list.pop" (rM X.K wk):=by
 intro f s Y H x xs v u Q I B O h;calc MC f s Y H x xs v u Q I B O ?_;let{m,S,a,as,d,Z,R,E,k,e,q}:=h;delta wk at e;split at e
 .rename_i n;let{l,es,C,g,rfl}:=nM e;cases j:l[l.length - 1]? with
  |none=>rw[j]at g;cases g
  |some z=>
   rw[j]at g;cases g;let{p,U,rfl,L,T,c}:=rL R E C;rw[VDs]at k;subst k;let{y,o,J}:=He c j;let A:=iG R L (t7 c);exact{p,U,y,rfl,rfl,T,o,q m _ _ A (J.mono R A.ext)}
 .cases e
def Ao:MtR X "list.pop" (rM X.K jf):=by
 intro g s σ H x xs v U Q I J rs h;calc B0 g s σ H x xs v U Q I J rs ?_;let{m,S,a,as,d,S',R,T,E,e,q}:=h;delta jf at e;split at e
 .rename_i n i;let{u,es,L,f,rfl}:=nM e;cases j:ixN u.length i with
  |none=>rw[j]at f;cases f
  |some k=>
   rw[j]at f;dsimp! at f;cases l:u[k]? with
   |none=>rw[l]at f;cases f
   |some z=>
    rw[l]at f;cases f;let{p,ws,rfl,hp,o,c}:=rL R T L;let{y,rfl,Z}:=Ha E;cases Z.ints;let{y,C,Y}:=c.get l;let A:=iG R hp (nP k c);let{h1,h2,h3,h4}:=qW j;let O:=(I.lst o).choose_spec.choose_spec.2.2;let B:=c.length;rw[Za0]at O;exact{p,ws,i,k,y,rfl,rfl,o,by lia,by lia,by rw[<-c.length];exact h1,C,q m _ _ A (Y.mono R A.ext)}
 .cases e
abbrev wm(d:D)(as:List D)(S:Sto):Option (D×Sto):=match d,as with
 |.tup ds,[x]=>if cT x=aN/\ds.all cT=aN then aw (.int (ds.countP λz=>eqF z x:Nat),S) else aD
 |_,_=>aD
def Hg:MtR X "tuple.count" (rM X.K wm):=by
 intro f s E H x xs v u Q I l B h;calc zX X.K rfl f s E H x xs v u Q I l B ?_;let{m,S,a,L,d,J,R,o,k,e,q}:=h;delta wm at e;split at e
 .rename_i O z;split at e
  .rename_i g;cases e;let{p,C,rfl,n,c}:=o.tups;let{y,rfl,j}:=Ha k;exact{p,C,y,rfl,rfl,.of n,mi j g.1,jP c g.2,q m H _ (Aft.refl R) (by rw[qe j g.1 c g.2];exact bv)}
  .cases e
 .cases e
abbrev kG(o i v:D)(S:Sto):Option Sto:=match o,i with
 | .ref n,.int k=>(match S[n]? with
  |some (.lst ds)=>(ixN ds.length k).map λj=>S.set n (.lst (ds.set j v))
  | _=>aD)
 |o,i=>CD o i v S
abbrev RU(K:V5):Gj:=λo i v H Q=>∃m S a b c d,Rel K m S H/\VD K m H a o/\VD K m H b i/\VD K m H c v/\kG a b c S=aw d/\∀f h,Aft K m H d f h->Q h
def RV(hu:X.A.units+64 < cLine):Md X (RU X.K):=by
 intro l s σ H o i v ov iv u Q I B O J h;let{m,S,a,b,c,S',R,E,vb,C,e,q}:=h;delta kG at e;split at e
 .rename_i n k;cases d:S[n]? with
  |none=>rw[d]at e;cases e
  |some ob=>
   rw[d]at e;cases ob with
   |lst T=>
    dsimp! at e;cases y:ixN T.length k with
    |none=>rw[y]at e;cases e
    |some j=>
     rw[y]at e;cases e;let{p,ws,rfl,hp,hH,f}:=rL R E d;cases vb.ints;exact BW l s σ H _ _ v ov iv u Q I B O J {p,ws,k,j,rfl,rfl,hH,by rw[<-f.length];exact y,q m _ (iG R hp (f.set C))}
   |_=>cases e
 .let{k,n,Y,T,U,rfl,d,Z,rfl}:=Aa e;let{a,b,L,rfl,rfl,g,A}:=G2 R U d Z vb E C;cases B;cases O;exact zW (show X.A.units+2 < cLine by lia) I g rfl J λs' I'=>{L,I',q m L A}
mutual
noncomputable def cH(t:D->Option Dw.D):List D->Option (List Dw.D)
 |[]=>aw []
 |d::ds=>match t d,cH t ds with
  |some x,aw xs=>aw (x::xs)
  |_,_=>aD
end
abbrev dg:Nat->Sto->D->Option Dw.D
 |0,_,_=>aD
 |n+1,S,d=>match d with
  |.non=>aw .non
  |.bl b=>aw (.bl b)
  |.int i=>aw (.int i)
  |.str x=>aw (.str x)
  |.tup ds=>(cH (dg n S) ds).map .tup
  | .ref k=>(match S[k]? with
   |some (.lst ds)=>(cH (dg n S) ds).map .lst
   |some (.dic ks ds)=>(cH (dg n S) ds).map (.dic ks)
   | _=>aD)
def jS(g:∀d x v,t d=aw x->VD K m H d v->Dw.Br [] H x v):∀ {c:List D} {xs:List Dw.D} {f:List V},cH t c=aw xs->VDs K m H c f->Dw.BrL [] H xs f
 |[],xs,f,e,h=>by rw[VDs]at h;simp![cH]at e;cases e;rw[h,Dw.BrL]
 |d::c,xs,f,e,h=>by
  rw[VDs]at h;let{y,r,rfl,p,q}:=h;simp![cH]at e;cases h1:t d with
  |none=>rw[h1]at e;cases e
  |some x=>
   cases h2:cH t c with
   |none=>rw[h1,h2]at e;cases e
   |some Y=>
    rw[h1,h2]at e;cases e;rw[Dw.BrL];exact{y,r,rfl,g _ _ _ h1 p,jS g h2 q}
def qh:∀ {c:List D} {xs:List Dw.D},cH t c=aw xs->xs.length=c.length
 |[],xs,e=>by simp![cH]at e;cases e;rfl
 |d::c,xs,e=>by
  simp![cH]at e;cases h1:t d with
  |none=>rw[h1]at e;cases e
  |some x=>
   cases h2:cH t c with
   |none=>rw[h1,h2]at e;cases e
   |some y=>rw[h1,h2]at e;cases e;simp[qh h2]
def mj(R:Rel K m S H):∀ (n:Nat) (d:D) (x:Dw.D) (v:V),dg n S d=aw x->VD K m H d v->Dw.Br [] H x v
 |0,_,_,_,e,_=>by simp[dg]at e
 |n+1,d,x,v,e,h=>by
  cases d with
  |non=>simp![dg]at e;cases e;rw[Dw.Br];exact h.nons
  |bl _=>simp![dg]at e;cases e;rw[Dw.Br];exact h.bls
  |int _=>simp![dg]at e;cases e;rw[Dw.Br];exact h.ints
  |str _=>simp![dg]at e;cases e;rw[Dw.Br];exact h.strs
  |tup f=>
   simp![dg]at e;cases c:cH (dg n S) f with
   |none=>rw[c]at e;cases e
   |some xs=>
    rw[c]at e;cases e;let{a,j,rfl,B,p}:=h.tups;rw[Dw.Br];exact{a,j,rfl,B,jS (mj R n) c p}
  |ref k=>
   simp![dg]at e;let{a,u,rfl}:=h.refs;cases l:S[k]? with
   |none=>rw[l]at e;cases e
   |some o=>
    rw[l]at e;let{E,g,r}:=R.ob k o l;rw[u]at g;cases g;cases o with
    |lst f=>
     dsimp! at e;cases c:cH (dg n S) f with
     |none=>rw[c]at e;cases e
     |some xs=>
      rw[c]at e;cases e;let{j,q,p}:=r;rw[Dw.Br];exact{a,j,rfl,by simp,q,jS (mj R n) c p}
    |frz f=>cases e
    |dct y f=>cases e
    |dic y f=>
     dsimp! at e;cases c:cH (dg n S) f with
     |none=>rw[c]at e;cases e
     |some xs=>
      rw[c]at e;cases e;let{j,q,C,p}:=r;rw[Dw.Br];exact{a,j,rfl,by simp,q,by rw[qh c];exact C,jS (mj R n) c p}
open Classical in
abbrev k9(d:D)(S:Sto):Option (D×Sto):=match dg 100 S d with
 |some t=>if Dw.Shn t then aw (.str (Dw.aX t).shown,S) else aD
 |none=>aD
def wn{k:Nat}(f:Room k X.A):aZ X (.builtin "repr") (r1 (rS1 X.K k9)):=by
 calc aZ.imp (Dw.vT f) λxs H Q h=>?_;let{x,rfl,m,S,a,d,g,R,v,e,q}:=dq h;delta k9 at e;cases c:dg 100 S a with
 |none=>rw[c]at e;cases e
 |some t=>
  rw[c]at e;dsimp! at e;split at e
  .rename_i hs;cases e;exact{x,[],t,rfl,mj R 100 a t x c v,hs,q m H _ (Aft.refl R) nu}
  .cases e
end
@[inline]abbrev Nxt:=Nat->Sto->Option (Option D)
@[inline]abbrev XI:=Rho->Sto->Option (Nxt×Sto)
structure ExtB(B:List Addr)(m:List Addr)(H:Hp)(m':List Addr)(H':Hp):Prop where
 pre:m <+: m'
 keep:∀a o,H a=aw o->a∉m->a∉B->H' a=aw o
 new:∀a,a∈m'->a∉m->H a=aD
 nb:∀b,b∈B->b∉m'
abbrev AtB(B:List Addr)(m:List Addr)(H:Hp):Prop:=∀b,b∈B->(∃v,H b=aw (.lst v))/\b∉m
def Ext.toB(c:AtB B m H)(x:Ext m H d H'):ExtB B m H d H':=⟨x.pre,λa o h n _=>x.keep a o h n,x.new,λb hb z=>by
 let{⟨v,e⟩,n}:=c b hb;let:=x.new b z n;rw[e]at this;cases this⟩
def ExtB.trans(x:ExtB B m H m1 f)(y:ExtB B m1 f d H2):ExtB B m H d H2:=by
 refine{x.pre.trans y.pre,λa o h n nb=>?_,λa h n=>?_,y.nb}
 .let c:a∉m1:=λz=>by let:=x.new a z n;rw[this]at h;cases h
  exact y.keep a o (x.keep a o h n nb) c nb
 .by_cases h1:a∈m1
  .exact x.new a h1 n
  .cases e:H a with
   |none=>rfl
   |some o=>
    by_cases hb:a∈B
    .exact absurd h (y.nb a hb)
    .let:=x.keep a o e n hb;rw[y.new a h h1]at this;cases this
def AtB.ext(h:AtB B m H)(x:Ext m H c H'):AtB B c H':=λb hb=>by
 let{⟨v,e⟩,n}:=h b hb;exact{{v,x.keep _ _ e n},(x.toB h).nb b hb}
abbrev IOk(K:V5)(B:List Addr)(J:It)(nx:Nxt)(m0:List Addr)(c:Hp):Prop:=∀ (m:List Addr) (S:Sto) (H:Hp) (i:Nat),ExtB B m0 c m H->Rel K m S H ->
 (nx i S=aw aD->J.stop i H)/\(∀d,nx i S=aw (aw d)->J.go i H/\∀x h,J.yld i H x h->Aft K m H S m h/\VD K m h d x)
abbrev tIt(K:V5)(B:List Addr)(x:XI):TI:=λg H R=>∃m c S nx f,EnvR K m H c g/\Rel K m S H/\AtB B m H/\x c S=aw (nx,f)/\∀d h J,Aft K m H f d h->IOk K B J nx d h->R J h
abbrev nxL(d:List D):Nxt:=λi _=>aw d[i]?
abbrev nxS(n:Nat):Nxt:=λi S=>(aU S n).map λd=>d[i]?
abbrev nxR(lo:Int)(n:Nat):Nxt:=λi _=>aw (if i < n then aw (.int (lo+i)) else aD)
abbrev qa(i:Nat)(d:D):D:=.tup [.int i,d]
abbrev enm(d:List D)(i:Nat):Option (Option D):=if i<=d.length then aw (d[i]?.map (qa i)) else aD
abbrev Hh(d:List D):Nxt:=λi _=>enm d i
section
variable {X:Cx} {K:V5} {m B:List Addr} {H:Hp} {S:Sto}
def Ap(R:Rel K m0 f c)(d:AtB B m0 c)(x:ExtB B m0 c m H)(h:c a=aw (.tup xs)):H a=aw (.tup xs):=x.keep _ _ h (R.notTup h) λz=>by
 let{⟨v,e⟩,_}:=d a z;rw[e]at h;cases h
def VDs.monoB(R:Rel K m0 g c)(d:AtB B m0 c)(x:ExtB B m0 c m H)(h:VDs K m0 c f vs):VDs K m H f vs:=VDs.mono0 x.pre (λ_ _=>Ap R d x) h
def VD.monoB(R:Rel K m0 g c)(f:AtB B m0 c)(x:ExtB B m0 c m H)(h:VD K m0 c d v):VD K m H d v:=VD.mono0 x.pre (λ_ _=>Ap R f x) h
def EnvR.monoB(R:Rel K m0 j c)(f:AtB B m0 c)(x:ExtB B m0 c m H)(h:EnvR K m0 c g σ):EnvR K m H g σ:=
 {h.len,λi d e=>let ⟨v,p,q⟩:=h.at_ i d e;{v,p,VD.monoB R f x q}}
def t8(h:∀m S H i o,ExtB B m0 H0 m H->Rel K m S H->nx i S=aw o->∃f c,o=f[i]?/\SqL K H a c/\VDs K m H f c):IOk K B (Itl K a) nx m0 H0:=by
 intro m S H i x R;refine⟨λe=>?_,λd e=>?_⟩
 .let{f,c,E,g,vd}:=h m S H i _ x R e;exact{c,g,by rw[<-vd.length];exact ZR.mp E.symm}
 .let{f,c,E,g,vd}:=h m S H i _ x R e;let{v,j,k}:=vd.get E.symm;calc{⟨c,v,g,j⟩,λy p ⟨l,n⟩=>?_};subst l;let:=n c g;rw[j]at this;cases this;exact{Aft.refl R,k}
def Hi(j:Rel K m0 p H0)(h:AtB B m0 H0)(n:H0 a=aw (.tup vs))(vd:VDs K m0 H0 o vs):IOk K B (Itt K a) (nxL o) m0 H0:=by
 intro m S H i x R;let c:SqT K H a vs:=.of (Ap j h x n);let f:=vd.monoB j h x;refine{λe=>{vs,c,?_},λd e=>?_}
 .rw[<-f.length];exact ZR.mp (θ e)
 .let{v,g,k}:=f.get (θ e);calc{⟨vs,v,c,g⟩,λy q ⟨E,l⟩=>?_};subst E;let:=l vs c;rw[g]at this;cases this;exact{Aft.refl R,k}
def yt{lo:Int}{n:Nat}:IOk K B (Itr lo n) (nxR lo n) m0 H0:=by
 intro m S H i x R;delta nxR;refine⟨λe=>?_,λd e=>?_⟩
 .split at e
  .cases e
  .show n<=i;lia
 .split at e
  .rename_i c;cases e;exact{c,λy f ⟨E,h⟩=>by subst E;subst h;exact{Aft.refl R,bv}}
  .cases e
def Hj(h:∀m S H i o,ExtB B m0 H0 m H->Rel K m S H->nx i S=aw o->∃f c,enm f i=aw o/\j K H a c/\VDs K m H f c):IOk K B (Ite K a j) nx m0 H0:=by
 intro m S H i x R;refine⟨λe=>?_,λd e=>?_⟩
 .let{f,c,E,g,vd}:=h m S H i _ x R e;delta enm at E;split at E
  .rename_i I;calc{c,g,?_};rw[<-vd.length];cases hd:f[i]? with
   |none=>have:=ZR.mp hd;lia
   |some z=>rw[hd]at E;cases E
  .cases E
 .let{f,c,E,g,vd}:=h m S H i _ x R e;delta enm at E;split at E
  .cases hd:f[i]? with
   |none=>rw[hd]at E;cases E
   |some z=>
    rw[hd]at E;cases E;let{v,k,n}:=vd.get hd;calc{⟨c,v,g,k⟩,λy C ⟨T,hT,u,q⟩=>?_};subst u;let p:=q c v g k;subst p;let l:=Ext.beside R hT (.tup [.int i,v]);exact{{l,R.beside hT _},kC aG (.cons bv (.cons (n.mono R l) .nil))}
  .cases E
abbrev Vv(d:D):Option Nxt:=match d with
 |.tup ds=>aw (nxL ds)
 |.ref n=>aw (nxS n)
 |_=>aD
abbrev xIV(x:XE):XI:=λf S=>bnd (x f S) λd c=>match d with
 |.tup ds=>aw (nxL ds,c)
 |.ref n=>if (aU c n).isSome=aN then aw (nxS n,c) else aD
 |_=>aD
abbrev xIT(x:XA):XI:=λf S=>bnd (x f S) λd c=>aw (nxL d,c)
abbrev xEV(x:XE):XI:=λf S=>bnd (x f S) λd c=>match d with
 |.tup ds=>aw (Hh ds,c)
 |_=>aD
abbrev lim(i:Int):Bool:=decide (-(2 ^ 62)<=i) && decide (i < 2 ^ 62)
abbrev xR1(x:XE):XI:=λf S=>bnd (x f S) λd c=>match d with
 |.int j=>if lim j=aN then aw (nxR 0 j.toNat,c) else aD
 |_=>aD
abbrev xR2(x y:XE):XI:=λc S=>bnd (x c S) λd f=>bnd (y c f) λe g=>match d,e with
 |.int i,.int j=>if lim i=aN/\lim j=aN then aw (nxR i (j - i).toNat,g) else aD
 |_,_=>aD
def gN{i:Int}(h:lim i=aN):-(2 ^ 62)<=i/\i < 2 ^ 62:=by simpa[lim] using h
def yu{n:Nat}(c:m0[n]?=aw a)(x:m0 <+: m)(R:Rel K m S H)(hs:aU S n=aw d):∃vs,SqL K H a vs/\VDs K m H d vs:=by
 let{p,vs,h,f,vd}:=R.seq hs;let:=rA x c;rw[this]at h;cases h;exact⟨vs,f,vd⟩
def UZ(c:AtB B m H)(h:H a=aD):a∉B:=λz=>by
 let{⟨v,e⟩,_}:=c a z;rw[h]at e;cases e
def U0(h:tIt K B (xIV x) O H R):BK K (tE K x) O H R\/Rp K (tE K x) O H R:=by
 let{m,I,S,nx,S',E,L,Q,e,q}:=h;let{d,S1,C,e}:=ac e;cases d with
 |tup ds=>
  cases e;calc .inr {m,I,S,_,_,E,L,C,λm1 y v c vd=>?_};let{a,l,rfl,j,g}:=vd.tups;exact{a,rfl,{l,.of j},q m1 y _ c (Hi c.rel (Q.ext c.ext) j g)}
 |ref n=>
  dsimp! at e;split at e
  .rename_i hs;cases e;calc .inl {m,I,S,_,_,E,L,C,λm1 y v c vd=>?_};let{a,J,rfl}:=vd.refs;let{ds,k}:=Yt.mp hs;let{l,j,g}:=yu J (Yr _) c.rel k;calc{a,rfl,⟨l,j⟩,q m1 y _ c (t8 λm2 Y H2 i o T R2 f=>?_)};delta nxS at f;cases h2:aU Y n with
   |none=>rw[h2]at f;cases f
   |some U=>
    rw[h2]at f;cases f;let{Z,u,p}:=yu J T.pre R2 h2;exact⟨U,Z,rfl,u,p⟩
  .cases e
 |_=>cases e
def U1(h:tIt K B (xIT x) I H R):BK K (gx K x) I H R:=by
 let{m,l,S,nx,J,E,p,d,e,q}:=h;let{C,L,k,e}:=ac e;cases e;calc{m,l,S,_,_,E,p,k,λm1 u a v c g y U n vd=>{a,rfl,{v,.of g},q m1 u _ c (t8 λQ O T i o f R2 j=>?_)}};cases j;exact{C,v,rfl,.of (f.keep _ _ g y (UZ d n)),vd.monoB c.rel (d.ext c.ext) f}
def RX(h:tIt K B (xEV x) J H R):RL K (ci (tE K x) jF) J H R:=by
 let{m,u,S,nx,L,E,y,g,e,q}:=h;let{d,O,p,e}:=ac e;cases d with
 |tup I=>
  cases e;calc{m,u,S,_,_,E,y,p,λm1 C v c vd=>?_};let{a,k,rfl,l,f}:=vd.tups;refine{a,k,rfl,.of l,q m1 C _ c (Hj λT Q U i o j R2 n=>{I,k,n,.of (Ap c.rel (g.ext c.ext) j l),f.monoB c.rel (g.ext c.ext) j})}
 |_=>cases e
def RY(h:tIt K B (xR1 x) n H R):KS (ci (tE K x) jF) n H R:=by
 let{m,k,S,nx,y,E,l,u,e,q}:=h;let{d,f,o,e}:=ac e;calc{m,k,S,d,f,E,l,o,λm1 p v g vd=>?_};cases d with
 |int j=>
  dsimp! at e;split at e
  .rename_i c;cases e;exact{j,by rw[vd.ints],(gN c).1,(gN c).2,q m1 p _ g yt}
  .cases e
 |_=>cases e
def RZ(h:tIt K B (xR2 x y) L H R):KU (ci (tE K x) (ci (tE K y) jF)) L H R:=by
 let{m,k,S,nx,T,E,n,Q,e,q}:=h;let{d,l,p,e}:=ac e;let{c,C,o,e}:=ac e;calc{m,k,S,d,l,E,n,p,λm1 U v g vd=>{m1,k,l,c,C,E.mono n g.ext,g.rel,o,λI J w O u=>?_}};cases d with
 |int i=>
  cases c with
  |int j=>
   dsimp! at e;split at e
   .rename_i f;cases e;exact{i,j,by rw[vd.ints,u.ints],{(gN f.1).1,(gN f.1).2,(gN f.2).1,(gN f.2).2},q I J _ (g.trans O) yt}
   .cases e
  |_=>cases e
 |_=>cases e
inductive Tg where
 |n (i:Nat) |tup (ts:List Tg)
mutual
noncomputable def aB:Tg->D->Rho->Option Rho
 |.n i,d,ρ=>if i < ρ.length then aw (ρ.set i (aw d)) else aD
 |.tup ts,.tup ds,ρ=>aQ ts ds ρ
 |_,_,_=>aD
noncomputable def aQ:List Tg->List D->Rho->Option Rho
 |[],[],ρ=>aw ρ
 |t::ts,d::ds,ρ=>match aB t d ρ with
  |some c=>aQ ts ds c
  |none=>aD
 |_,_,_=>aD
end
abbrev tTg(K:V5)(t:Tg):TG:=λx h H Q=>∃m S g d c,Rel K m S H/\EnvR K m H g h/\VD K m H d x/\aB t d g=aw c/\∀f,EnvR K m H c f->Q f H
abbrev C0(K:V5)(T:List Tg):TGs:=λxs h H Q=>∃m S f g c,Rel K m S H/\EnvR K m H f h/\VDs K m H g xs/\aQ T g f=aw c/\∀d,EnvR K m H c d->Q d H
def EnvR.set{i:Nat}(E:EnvR K m H f g)(h:VD K m H d v):EnvR K m H (f.set i (aw d)) (g.set i (aw v)):=by
 calc{by simp[E.len],λj k e=>?_};rw[YB]at e;rw[YB,<-E.len];by_cases c:i=j
 .rw[if_pos c]at e ⊢;split at e
  .rename_i l;rw[if_pos l];cases e;exact⟨v,rfl,h⟩
  .cases e
 .rw[if_neg c]at e ⊢;exact E.at_ j k e
def rN{i:Nat}(h:tTg K (.n i) x f H Q):pM i x f H Q:=by
 let{m,S,g,d,c,R,E,vd,e,q}:=h;simp![aB]at e;split at e
 .cases e;exact q _ (E.set vd)
 .cases e
def M9{n:Nat}(j:n=T.length)(h:tTg K (.tup T) x l H Q):Rm K n (C0 K T) x l H Q:=by
 let{m,S,g,d,c,R,E,vd,e,q}:=h;cases d with
 |tup f=>
  simp![aB]at e;let{a,o,rfl,k,v}:=vd.tups;refine{a,o,rfl,.of k,?_,m,S,g,f,c,R,E,v,e,q}
  let len:∀ (T:List Tg) (f:List D) (g c:Rho),aQ T f g=aw c->T.length=f.length:=by
   intro T
   induction T with
   |nil=>intro f g c e;cases f with |nil=>rfl |cons _ _=>simp[aQ]at e
   |cons t T I=>
    intro f g c e;cases f with
    |nil=>simp[aQ]at e
    |cons d f=>
     simp![aQ]at e;split at e
     .simp[I _ _ _ e]
     .cases e
  rw[j,<-v.length];exact(len _ _ _ _ e).symm
 |_=>simp[aB]at e
def Hk(h:C0 K [] xs f H Q):Rk xs f H Q:=by
 let{m,S,g,d,c,R,E,vd,e,q}:=h;cases d with
 |nil=>simp[aQ]at e;subst e;rw[VDs]at vd;exact{vd,q _ E}
 |cons _ _=>simp[aQ]at e
def C1(h:C0 K (t::T) xs l H Q):KR (tTg K t) (C0 K T) xs l H Q:=by
 let{m,S,j,g,f,R,E,vd,e,q}:=h;cases g with
 |nil=>simp[aQ]at e
 |cons d g=>
  simp![aQ]at e;rw[VDs]at vd;let{y,r,rfl,p,k}:=vd;cases hb:aB t d j with
  |none=>rw[hb]at e;cases e
  |some c=>
   rw[hb]at e;exact{y,r,rfl,m,S,j,d,c,R,E,p,hb,λn o=>⟨m,S,c,g,f,R,o,k,e,q⟩}
def PG.imp(h:PG X e t)(f:∀x c H Q,t' x c H Q->t x c H Q):PG X e t':=λp s c H v u Q I r q=>h p s c H v u Q I r (f v c H Q q)
def PGs.imp(h:PGs X E t)(f:∀x c H Q,t' x c H Q->t x c H Q):PGs X E t':=λp s c H v u Q I r q=>h p s c H v u Q I r (f v c H Q q)
end
end Ev
namespace L2
open PySem AutoSeq1
structure ZA(z TI TO i1 i2 l1 l2:Addr):Prop where
 w:[z,TI,TO,i1,i2].Nodup
 a:l1∉[z,TO,i1,i2]
 b:l2∉[z,TO,i1,i2]
structure Zs(h:Heap)(z TI TO i1 i2 l1 l2:Addr)(f0:Value)(j1 j2:Nat)(xs ys:Array Value):Prop where
 z:IsZip h z TI TO f0
 ti:IsPair h TI (.ref i1) (.ref i2)
 to:∃a b,IsPair h TO a b
 h1:h.IsTupleIter i1 l1 j1
 h2:h.IsTupleIter i2 l2 j2
 l1:h.IsTuple l1 xs
 l2:h.IsTuple l2 ys
section
variable {prog:Program} {w:World} {A:Around} {E:Value->Shared->Prop} {s:Shared} {z TI TO i I l1 L:Addr} {k:Nat} {xs ys:Array Value} {x y j:Value}
def rO{h h':Heap}(x:h.IsTuple k xs)(e:∀o,h.get? k=aw o->h'.get? k=aw o):h'.IsTuple k xs:=let ⟨o,ho,r⟩:=x;{o,e _ ho,r}
def zn{Q:Fin->Shared->Prop}(D:ZA z TI TO i I l1 L)(S:Zs s.heap z TI TO i I l1 L .none k k xs ys)
  (q:∀x y,xs[k]?=aw x->ys[k]?=aw y->∀h',Zs h' z TI TO i I l1 L (rawInt s⁻¹) (k+1) (k+1) xs ys->IsPair h' s⁻¹ x y->h'.objs.size=s⁻¹+1->(∀c o,c∉[z,TO,i,I]->s.heap.get? c=aw o->h'.get? c=aw o)->Q (.done (.ret (.ref s⁻¹))) {s with heap:=h'})
  (q2:xs[k]?=aD\/ys[k]?=aD->A.handled=aD/\∀h' e,(∀c o,c∉[z,TO,i,I]->s.heap.get? c=aw o->h'.get? c=aw o)->(∃o,h'.get? e=aw o/\o.cls = .type "StopIteration")->E (.ref e) {s with heap:=h'}) :
  wpAny (model prog w) A (Builtin.«zip.__next__» ⟨[.ref z],[]⟩) Q E s:=by
 let{U,Y,⟨a,b,hTO⟩,h1,h2,t1,t2}:=S;let{nd,n1,n2}:=D;simp![ZV,Zn,ZX,or_false,not_or]at nd n1 n2;let{⟨d1,u,B,X⟩,⟨d5,d6,d7⟩,⟨d8,d9⟩,p,_}:=nd;let{n3,n4,n5,n6}:=n1;let{m3,m4,m5,m6}:=n2
 (show wpAny _ _ (field (.ref z) 2 >>= _) _ _ _);refine Zbf (Zbk U rfl (x:=.bool aS) rfl ?_)
 (show wpAny _ _ (field (.ref z) 3 >>= _) _ _ _);refine Zbf (Zbk U rfl (x:=.ref TI) rfl (Zbf (ZbE Y rfl ?_)))
 (show wpAny _ _ (Builtin.SmallTypes.ownedTupleIsFree (.ref z) >>= _) _ _ _);refine Zbf ?_
 delta Builtin.SmallTypes.ownedTupleIsFree;calc Zbf (Zbk U rfl (x:=.none) rfl (Zby ?_));simp![if_true];calc Zbf (ZbD (Zbf (Zbk U rfl (x:=.ref TO) rfl (Zbf (ZbG U (by simp) λg1 Z h=>?_)))));replace Z:IsZip g1 z TI TO .ellipsis:=Z;calc Zbf ?_;simp![List.zipIdx_cons,List.zipIdx_nil,Xs,YY]
 let stop:(xs[k]?=aD\/ys[k]?=aD)->∀ {g T:Heap} {e:Addr} {c:Addr},(∀b o,b∉[z,TO,i,I]->s.heap.get? b=aw o->g.get? b=aw o)->IsZip g z TI TO .ellipsis->Heap.ExtBut c g T->c∈[TO,i,I]->(∃o,T.get? e=aw o/\o.cls = .type "StopIteration")->wpAny (model prog w) A (setField (.ref z) 0 .none) (λ_=>E (.ref e)) E {s with heap:=T}:=λnn {g T e c} kp zg x l he=>by
  let{o,ho,co}:=he;let zc:z≠c:=λy=>by subst y;simp[u,B,X]at l
  let z2:IsZip T z TI TO .ellipsis:=x _ _ zc zg;let ne:e≠z:=λy=>by subst y;rw[z2]at ho;cases ho;simp at co
  exact ZbG z2 (by simp) λg3 _ f=>(q2 nn).2 g3 e (λb o hb y=>f.extBut _ _ (λv=>hb (by simp[v])) (x _ _ (λv=>hb (by subst v;simp at l ⊢;exact .inr l)) (kp b o hb y))) {o,f.extBut _ _ ne ho,co}
 calc Zbf (Zbf (wpAny_onRaise ?_));(show wpAny _ _ (Builtin.SmallTypes.nextOf (.ref i) >>= _) _ _ _);cases ex:xs[k]? with
 |none=>exact Zbf (HT.dN (q2 (.inl ex)).1 (h1.extBut h.extBut (Ne.symm B)) (t1.extBut h.extBut n3) ex λg2 e x he=>stop (.inl ex) (λb o hb y=>h.extBut _ _ (λv=>hb (by simp[v])) y) Z x (by simp) he)
 |some x=>
  calc Zbf (HT.c9 (h1.extBut h.extBut (Ne.symm B)) (t1.extBut h.extBut n3) ex λg2 k2 n=>Zby ?_);let e2:IsPair g2 TO a b:=n.extBut _ _ d8 (h.extBut _ _ (Ne.symm u) hTO);calc Zbf (ZbE e2 rfl (Zbf (ZbN e2 λg3 e3 f=>?_)));replace e3:IsPair g3 TO x b:=e3;calc Zbf (Zbq (Zby (Zbf (Zbf (wpAny_onRaise ?_)))));(show wpAny _ _ (Builtin.SmallTypes.nextOf (.ref I) >>= _) _ _ _);cases ey:ys[k]? with
  |none=>exact Zbf (HT.dN (q2 (.inr ey)).1 (((h2.extBut h.extBut (Ne.symm X)).extBut n.extBut (Ne.symm p)).extBut f.extBut (Ne.symm d9)) (((t2.extBut h.extBut m3).extBut n.extBut m5).extBut f.extBut m4) ey λg4 e x he=>stop (.inr ey) (λb o hb y=>f.extBut _ _ (λv=>hb (by simp[v])) (n.extBut _ _ (λv=>hb (by simp[v])) (h.extBut _ _ (λv=>hb (by simp[v])) y))) (f.extBut _ _ u (n.extBut _ _ B Z)) x (by simp) he)
  |some y=>
   calc Zbf (HT.c9 (((h2.extBut h.extBut (Ne.symm X)).extBut n.extBut (Ne.symm p)).extBut f.extBut (Ne.symm d9)) (((t2.extBut h.extBut m3).extBut n.extBut m5).extBut f.extBut m4) ey λg4 k4 C=>Zby ?_);let e4:IsPair g4 TO x b:=C.extBut _ _ d9 e3;calc Zbf (ZbE e4 rfl (Zbf (ZbN e4 λd e5 J=>?_)));replace e5:IsPair d TO x y:=e5;calc Zbf (Zbq (Zby (Zby (Zbf (ZbE e5 rfl (Zbf (wpAny_newTuple ?_)))))));let sz:d.objs.size=s⁻¹:=by rw[J.1,C.1,f.1,n.1,h.1]
   let z5:IsZip d z TI TO .ellipsis:=J.extBut _ _ u (C.extBut _ _ X (f.extBut _ _ u (n.extBut _ _ B Z)))
   let kp:∀c o,c∉[z,TO,i,I]->s.heap.get? c=aw o->d.get? c=aw o:=λc o l e=>by
    simp![Zn,ZX,or_false,not_or]at l;exact J.extBut _ _ l.2.1 (C.extBut _ _ l.2.2.2 (f.extBut _ _ l.2.1 (n.extBut _ _ l.2.2.1 (h.extBut _ _ l.1 e))))
   let k5:d.IsTupleIter i l1 (k+1):=((k2.extBut f.extBut (Ne.symm d8)).extBut C.extBut p).extBut J.extBut (Ne.symm d8);let k6:d.IsTupleIter I L (k+1):=k4.extBut J.extBut (Ne.symm d9);let lz:z < d.objs.size:=Zt z5
   (show wpAny _ _ (Builtin.SmallTypes.ownedTupleHandOut (.ref z) (.ref d.objs.size) >>= _) _ _ _);refine Zbf ?_
   delta Builtin.SmallTypes.ownedTupleHandOut;let z6:IsZip (d.push {cls:=.type "tuple",data:=.seq #[x,y]}) z TI TO .ellipsis:=Zc _ z5;calc Zbf (ZbG z6 (by simp) λg7 z7 s7=>?_);replace z7:IsZip g7 z TI TO (rawInt d.objs.size):=z7;calc ZbG z7 (by simp) λO z8 s8=>?_;replace z8:IsZip O z TI TO (rawInt d.objs.size):=z8;let up:∀c o,c≠z->d.get? c=aw o->O.get? c=aw o:=λc o c1 e=>s8.extBut _ _ c1 (s7.extBut _ _ c1 (Zc _ e));let n8:IsPair O d.objs.size x y:=s8.extBut _ _ (Xf lz) (s7.extBut _ _ (Xf lz) (Zu _ rfl));let w8:O.objs.size=d.objs.size+1:=by rw[s8.1,s7.1,Z0]
   rw[sz]at z8 n8 w8;calc Zby ?_;show Q (.done (.ret (.ref d.objs.size))) _;rw[sz];exact q _ _ ex ey O {z8,up _ _ (Ne.symm d1) (kp _ _ (by simp[Ne.symm d1,d5,d6,d7]) Y),{x,y,up _ _ (Ne.symm u) e5},k5.at λo e=>up _ o (Ne.symm B) e,k6.at λo e=>up _ o (Ne.symm X) e,rO t1 λo e=>up _ o n3 (kp _ o (by simp[n3,n4,n5,n6]) e),rO t2 λo e=>up _ o m3 (kp _ o (by simp[m3,m4,m5,m6]) e)} n8 w8 λc o l e=>up c o (λy=>l (by simp[y])) (kp c o l e)
def Hl{Q:Option Value->Shared->Prop}(D:ZA z TI TO i I l1 L)(S:Zs s.heap z TI TO i I l1 L .none k k xs ys)(g:xs[k]?=aw x)(l:ys[k]?=aw y)
  (q:∀h',Zs h' z TI TO i I l1 L (rawInt s⁻¹) (k+1) (k+1) xs ys->IsPair h' s⁻¹ x y->h'.objs.size=s⁻¹+1->(∀c o,c∉[z,TO,i,I]->s.heap.get? c=aw o->h'.get? c=aw o)->Q (aw (.ref s⁻¹)) {s with heap:=h'}):wpAny (model prog w) A (pyNext (.ref z)) Q E s:=by
 let hT:s.TypeIs (.ref z) "zip" := ⟨_,S.z,rfl⟩;exact Zbf (wpAny_attempt (wpAny_callSpecial?_slot (name:=Str.ofString "__next__") hT VH (Zbg VH hT F.entry_zip_next (zn D S (λ_ _ n f h' a b c d=>{_,rfl,Zby (q h' a (by rw[g]at n;rw[l]at f;cases n;cases f;exact b) c d)}) λh=>by rw[g,l]at h;rcases h with h |h <;> cases h) (F.args_zip_next_1 _))))
def Na{Q:Option Value->Shared->Prop}(n:A.handled=aD)(D:ZA z TI TO i I l1 L)(S:Zs s.heap z TI TO i I l1 L .none k k xs ys)(d:xs[k]?=aD\/ys[k]?=aD)
  (q:∀h',(∀c o,c∉[z,TO,i,I]->s.heap.get? c=aw o->h'.get? c=aw o)->Q aD {s with heap:=h'}):wpAny (model prog w) A (pyNext (.ref z)) Q E s:=by
 let hT:s.TypeIs (.ref z) "zip" := ⟨_,S.z,rfl⟩;refine Zbf (wpAny_attempt (wpAny_callSpecial?_slot (name:=Str.ofString "__next__") hT VH (Zbg VH hT F.entry_zip_next (zn D S (λ_ _ p l=>by rw[p,l]at d;rcases d with h |h <;> cases h) λ_=>{n,λh' e f ⟨o,g,u⟩=>?_}) (F.args_zip_next_1 _))));exact Zbf (Zbo (T := "StopIteration") (b:=true) ⟨o,g,u⟩ isSubtype_stop (Zby (q _ f)))
abbrev zO1(l:Addr):Obj:={cls:=.type "tuple_iterator",data:=.fields #[.ref l,.int 0 0]}
abbrev zO2(a b:Value):Obj:={cls:=.type "tuple",data:=.seq #[a,b]}
abbrev zO3(TI TO:Addr):Obj:={cls:=.type "zip",data:=.fields #[.none,.bool aS,.bool aS,.ref TI,.ref TO]}
abbrev zHp(h:Heap)(l1 L:Addr):Heap:=let n:=h.objs.size;((((h.push (zO1 l1)).push (zO1 L)).push (zO2 (.ref n) (.ref (n+1)))).push (zO2 .none .none)).push (zO3 (n+2) (n+3))
def Nb(l1 L:Addr)(xs ys:Array Value):Meets (Builtin.«zip.__new__» ⟨[.type "zip",.ref l1,.ref L],[]⟩) (λ_ R s=>s.heap.IsTuple l1 xs/\s.heap.IsTuple L ys/\R (.ok (.ret (.ref (s⁻¹+4)))) {s with heap:=zHp s.heap l1 L}):=.of_wp λprog w A R s h=>by
 let{f,g,d,T,os}:=s;let{l,n,h}:=h;let c:=sub_zip;let Q:Heap.IsTuple (Shared.heap ⟨f,g,d,T,os⟩) l1 xs:=l;let q:Heap.IsTuple (Shared.heap {f.push {cls:=.type "tuple_iterator",data:=.fields #[.ref l1,.int 0 0]},g,d,T,os}) L ys:=Heap.IsTuple.push n _
 wp_walk using ZbB Q,ZbB q
 simp![zHp,zO1,zO2,zO3,Z0]at h ⊢;exact⟨_,rfl,h⟩
def Aq{Q:Value->Shared->Prop}(T:s.heap.IsTuple l1 xs)(d:s.heap.IsTuple L ys)
  (q:let n:=s⁻¹;∀h',Zs h' (n+4) (n+2) (n+3) n (n+1) l1 L .none 0 0 xs ys->(∀c o,s.heap.get? c=aw o->h'.get? c=aw o)->Q (.ref (n+4)) {s with heap:=h'}) :
  wpAny (model prog w) A (call (.type "zip") [.ref l1,.ref L]) Q E s:=by
 calc callType_new F.called_zip (by decide) (F.typeCall_zip_2 _ _) (F.newCall_zip_2 _ _) (λobj=>F.args_object_init_3 obj _ _) F.entry_zip_new (Nb l1 L xs ys) {T,d,?_};let kp:∀c o,s.heap.get? c=aw o->(zHp s.heap l1 L).get? c=aw o:=λc o e=>Zc _ (Zc _ (Zc _ (Zc _ (Zc _ e))));let at_:∀ (h:Heap) (o:Obj) (n:Nat),h.objs.size=n->o.isFreed=aS->(h.push o).get? n=aw o:=λh o n e f=>by subst e;exact Zu _ f
 let up:∀ (h:Heap) (o O:Obj) (n:Nat),h.get? n=aw o->(h.push O).get? n=aw o:=λh o O n e=>Zc _ e;let g:(zHp s.heap l1 L).get? (s⁻¹+4)=aw (zO3 (s⁻¹+2) (s⁻¹+3)):=at_ _ _ _ (by simp![Z0]) rfl;let l:(zHp s.heap l1 L).get? (s⁻¹+3)=aw (zO2 .none .none):=up _ _ _ _ (at_ _ _ _ (by simp![Z0]) rfl);let u:(zHp s.heap l1 L).get? (s⁻¹+2)=aw (zO2 (.ref s⁻¹) (.ref (s⁻¹+1))):=up _ _ _ _ (up _ _ _ _ (at_ _ _ _ (by simp![Z0]) rfl));let v:(zHp s.heap l1 L).get? (s⁻¹+1)=aw (zO1 L):=up _ _ _ _ (up _ _ _ _ (up _ _ _ _ (at_ _ _ _ (by simp![Z0]) rfl)));let p:(zHp s.heap l1 L).get? s⁻¹=aw (zO1 l1):=up _ _ _ _ (up _ _ _ _ (up _ _ _ _ (up _ _ _ _ (at_ _ _ _ rfl rfl))));exact{⟨_,g,rfl⟩,q _ {g,u,⟨_,_,l⟩,⟨_,p,rfl,rfl⟩,⟨_,v,rfl,rfl⟩,rO T (kp _),rO d (kp _)} kp}
end
end L2
namespace L2
open PySem PySem.Spec PyProof.Rows
abbrev Itz(a b:Addr):It:=
 ⟨λi H=>∃xs Y x y,H a=aw (.tup xs)/\H b=aw (.tup Y)/\xs[i]?=aw x/\Y[i]?=aw y,
   λi H v h=>∃T,H T=aD/\v = .ref T/\∀xs Y x y,H a=aw (.tup xs)->H b=aw (.tup Y)->xs[i]?=aw x->Y[i]?=aw y->h=upd H T (.tup [x,y]),
   λi H=>∃xs Y,H a=aw (.tup xs)/\H b=aw (.tup Y)/\(xs[i]?=aD\/Y[i]?=aD)⟩
structure ZipSt(a b z TI TO i1 i2:Addr)(i:Nat)(h:Heap):Prop where
 z:IsZip h z TI TO .none
 ti:IsPair h TI (.ref i1) (.ref i2)
 to:∃x y,IsPair h TO x y
 h1:h.IsTupleIter i1 a i
 h2:h.IsTupleIter i2 b i
def C2{P:Program}{w:World}{K:V5}{Y:List Expr}{x1:Nat}{tp:Pos}(a b z TI TO B C:Addr)(D:[z,TI,TO,B,C].Nodup) :
  Turn P w K (.Tuple Y x1 tp) (Itz a b) [z,TI,TO,B,C] z (ZipSt a b z TI TO B C) where
 mem:=by simp
 obj:=λi h st c g=>by
  let{x,y,l}:=st.to;let{o1,e1,_,d1}:=id st.h1;let{o2,e2,_,d2}:=id st.h2;simp![Zn,ZX,or_false]at g;rcases g with rfl |rfl |rfl |rfl |rfl
  .exact{_,st.z,λv z=>by let Z:Data.fields _=Data.cell v:=z;cases Z}
  .exact{_,st.ti,λv z=>by let Z:Data.seq _ _=Data.cell v:=z;cases Z}
  .exact{_,l,λv z=>by let Z:Data.seq _ _=Data.cell v:=z;cases Z}
  .exact{o1,e1,λv z=>by rw[d1]at z;cases z}
  .exact{o2,e2,λv z=>by rw[d2]at z;cases z}
 keep:=λi h h' st k=>by
  let{x,y,l}:=st.to;exact{k z (by simp) _ st.z,k TI (by simp) _ st.ti,{x,y,k TO (by simp) _ l},st.h1.at λo e=>k B (by simp) o e,st.h2.at λo e=>k C (by simp) o e}
 item:=by
  intro X hP hw hK g i pins s σ H E I u st hg;subst hP hw hK;let{xs,ys,x,y,n,p,hx,hy}:=hg;let{f,Q,p1,_}:=I.tuple (.of n);let{d,L,p2,_}:=I.tuple (.of p);let{u1,hu1,ru1}:=Q.get hx;let{u2,hu2,ru2}:=L.get hy;let O:s.heap.IsTuple a f.toArray:=p1;let J:s.heap.IsTuple b d.toArray:=p2;let A:ZA z TI TO B C a b:=⟨D,λh=>(by let:=(u a (by simp at h ⊢;rcases h with h |h |h |h <;> simp[h])).1;rw[n]at this;cases this),λh=>(by let:=(u b (by simp at h ⊢;rcases h with h |h |h |h <;> simp[h])).1;rw[p]at this;cases this)⟩;let{v1,v2,l}:=id st.to;calc Hl A ⟨st.z,st.ti,st.to,st.h1,st.h2,O,J⟩ (by simpa using hu1) (by simpa using hu2) λh' S5 a5 a6 a7=>?_;calc{_,rfl,?_};calc wpAny_letOwnedTupleGo_zip S5.z λh2 hz2 j=>?_;let dd:TI≠z/\TO≠z/\B≠z/\C≠z:=by let:=(ZV.mp D).1;simp![Zn,ZX,or_false,not_or]at this;exact{Ne.symm this.1,Ne.symm this.2.1,Ne.symm this.2.2.1,Ne.symm this.2.2.2}
  let lt:∀ {c o},s.heap.get? c=aw o->c < s⁻¹:=λe=>Zt e;let lz:=lt st.z;let lTI:=lt st.ti;let lTO:=lt l;let l1:B < s⁻¹:=by let{_,e,_}:=id st.h1;exact lt e
  let l2:C < s⁻¹:=by let{_,e,_}:=id st.h2;exact lt e
  let hT2:IsPair h2 s⁻¹ u1 u2:=j.extBut _ _ (Xf lz) a5;let fresh:=I.hok.fresh (Zg s⁻¹);refine{.ref s⁻¹,upd H s⁻¹ (.tup [x,y]),?_,rfl,{_,fresh,rfl,λxs' ys' x' y' T hq2' hx' U=>?_},{hz2,j.extBut _ _ dd.1 S5.ti,let ⟨u1,u2,e⟩:=S5.to;{u1,u2,j.extBut _ _ dd.2.1 e},S5.h1.extBut j.extBut dd.2.2.1,S5.h2.extBut j.extBut dd.2.2.2},λc g=>?_}
  .exact I.turnedLaid (t':=s.toks) u (λc ob g ec=>j.extBut _ _ (λz=>g (by simp[z])) (a7 c ob (λz=>g (by simp at z ⊢;rcases z with h |h |h |h <;> simp[h])) ec)) (Zg _)
    {by show 2<=sizeLine;decide,[u1,u2],.cons ru1 (.cons ru2 .nil),⟨_,hT2,rfl,_,rfl,rfl⟩}
  .rw[I.tuple_inj (.of T) (.of n),hx]at hx';rw[I.tuple_inj (.of hq2') (.of p),hy]at U;cases hx';cases U;rfl
  .let:=u c g;simp![Zn,ZX,or_false]at g
   let ne:c≠s⁻¹:=by
    rcases g with h |h |h |h |h <;> rw[h]
    .exact ZH lz
    .exact ZH lTI
    .exact ZH lTO
    .exact ZH l1
    .exact ZH l2
   rw[ax ne];exact this.1
 done:=by
  intro X hP hw hK g i pins s σ H E I u st hg;subst hP hw hK;let{xs,ys,n,p,he}:=hg;let{f,Q,p1,_}:=I.tuple (.of n);let{d,L,p2,_}:=I.tuple (.of p);let O:s.heap.IsTuple a f.toArray:=p1;let J:s.heap.IsTuple b d.toArray:=p2;let A:ZA z TI TO B C a b:=⟨D,λh=>(by let:=(u a (by simp at h ⊢;rcases h with h |h |h |h <;> simp[h])).1;rw[n]at this;cases this),λh=>(by let:=(u b (by simp at h ⊢;rcases h with h |h |h |h <;> simp[h])).1;rw[p]at this;cases this)⟩;let{v1,v2,l}:=id st.to
  let en:f.toArray[i]?=aD\/d.toArray[i]?=aD:=by
   rcases he with he |he
   .left;let:=ZR.mp he;rw[Xj,Zk,<-Q.length];exact this
   .right;let:=ZR.mp he;rw[Xj,Zk,<-L.length];exact this
  calc Na (I.ok.hd g) A ⟨st.z,st.ti,st.to,st.h1,st.h2,O,J⟩ en λh' k=>{rfl,?_};exact I.turnedAll (t':=s.toks) u λc ob g q=>k c ob (λz=>g (by simp at z ⊢;rcases z with h |h |h |h <;> simp[h])) q
 self:=λ_ _ _ _ _ st h=>wpAny_pyIter_zip st.z h
abbrev R5(T:TA):TI:=λc H R=>T c H λv h=>∃a b xs y,v=[.ref a,.ref b]/\h a=aw (.tup xs)/\h b=aw (.tup y)/\R (Itz a b) h
def Nc{X:Cx}{E:List Expr}{L:Nat}{tp:Pos}{a b:Expr}{T:TA}{p j:Pos}(hg:Gl X "zip")(hm:X.mg "zip" = aD)(U:PA X [a,b] T)(hs:Za2 [a,b] X.env=[(aS,eval a X.env),(aS,eval b X.env)])(f:Za2 [b] X.env=[(aS,eval b X.env)]):PI X (.Tuple E L tp) (.Call (.Name "zip" p) [a,b] [] j) (R5 T):=by
 intro c s y H R I h;calc Call_ (eV I hg hm PyProof.Rows.boot_zip (WO (thn (U j c s y H _ I h) λus d ⟨vs,o,g,r1,Q⟩=>?_) (by rw[hs,f]) (by rw[f];rfl)));let{l1,l2,xs,ys,e,n,k,q}:=Q;subst e;cases r1 with
 |cons r l=>
  cases l with
  |cons C l=>
   cases l;cases r;cases C;let{v,rv1,Y,_}:=g.tuple (.of n);let{u,rv2,O,_}:=g.tuple (.of k);calc Aq Y O λJ Z B=>wpAny_pyIter_zip Z.z ?_;let I2:Inv X c y o {d with heap:=J}:=g.kept (t':=d.toks) B;let fr:∀b,d.heap.objs.size<=b->iQ X c o b:=λb hb=>g.fpOk hb (g.hok.fresh hb);calc{_,[d.heap.objs.size+4,d.heap.objs.size+2,d.heap.objs.size+3,d.heap.objs.size,d.heap.objs.size+1],_,_,o,rfl,I2,C2 l1 l2 _ _ _ _ _ (by simp),⟨Z.z,Z.ti,Z.to,Z.h1,Z.h2⟩,λb hb=>fr b ?_,q};simp![Zn,ZX,or_false]at hb;rcases hb with h |h |h |h |h <;> rw[h] <;> lia
end L2
namespace Ev
open PySem PySem.Spec PyProof.Rows L2
abbrev zp(xs Y:List D)(i:Nat):Option D:=match xs[i]? with
 | some x=>(match Y[i]? with
  |some y=>aw (.tup [x,y])
  | none=>aD)
 |none=>aD
abbrev nxZ(xs y:List D):Nxt:=λi _=>aw (zp xs y i)
abbrev Ng(x y:XE):XI:=λc S=>bnd (x c S) λd f=>bnd (y c f) λe g=>match d,e with
 |.tup xs,.tup ys=>aw (nxZ xs ys,g)
 |_,_=>aD
section
variable {X:Cx} {K:V5} {m B:List Addr} {H:Hp} {S:Sto}
def Hm{a b:Addr}{xs Y:List D}{v f:List V}(j:Rel K m0 S0 H0)(g:AtB B m0 H0)(sa:H0 a=aw (.tup v))(L:VDs K m0 H0 xs v)(J:H0 b=aw (.tup f))(vb:VDs K m0 H0 Y f):IOk K B (Itz a b) (nxZ xs Y) m0 H0:=by
 intro m S H i x R;let n:=Ap j g x sa;let k:=Ap j g x J;let q:=L.monoB j g x;let C:=vb.monoB j g x;refine{λe=>?_,λd e=>?_}
 .calc{v,f,n,k,?_};let E:=θ e;delta zp at E;cases h:xs[i]? with
  |none=>exact .inl (ZR.mpr (by rw[<-q.length];exact ZR.mp h))
  |some x=>
   cases c:Y[i]? with
   |none=>exact .inr (ZR.mpr (by rw[<-C.length];exact ZR.mp c))
   |some y=>rw[h,c]at E;cases E
 .let E:=θ e;delta zp at E;cases h:xs[i]? with
  |none=>rw[h]at E;cases E
  |some x'=>
   cases c:Y[i]? with
   |none=>rw[h,c]at E;cases E
   |some y'=>
    rw[h,c]at E;cases E;let{u,I,O}:=q.get h;let{w,p,U}:=C.get c;calc{⟨v,f,u,w,n,k,I,p⟩,λy H' ⟨T,hT,Z,l⟩=>?_};subst Z;let Q:=l v f u w n k I p;subst Q;let o:=Ext.beside R hT (.tup [u,w]);exact{{o,R.beside hT _},kC aG (.cons (O.mono R o) (.cons (U.mono R o) .nil))}
def Nh(h:tIt K B (Ng x y) U H R):R5 (ci (tE K x) (ci (tE K y) jF)) U H R:=by
 let{m,j,S,nx,Y,E,n,o,e,q}:=h;let{d,l,u,e}:=ac e;let{c,L,p,e}:=ac e;calc{m,j,S,d,l,E,n,u,λm1 H1 v f vd=>{m1,j,l,c,L,E.mono n f.ext,f.rel,p,λO Q w g I=>?_}};cases d with
 |tup xs=>
  cases c with
  |tup Z=>
   cases e;let vd:=vd.mono f.rel g.ext;let{a,C,rfl,sa,J}:=vd.tups;let{b,T,rfl,k,vb}:=I.tups;exact{a,b,C,T,rfl,sa,k,q O Q _ (f.trans g) (Hm g.rel ((o.ext f.ext).ext g.ext) sa J k vb)}
  |_=>cases e
 |_=>cases e
end
inductive Fl where
 |nx |bk |ct |rt (d:D)
@[inline]abbrev XS:=Rho->Sto->Option (Fl×Rho×Sto)
abbrev C3(K:V5)(m:List Addr)(H:Hp)(g:Fl)(f:Rho)(D:Ends):Prop:=match g with
 |.nx=>∀c,EnvR K m H f c->D.nx c H
 |.bk=>∀c,EnvR K m H f c->D.bk c H
 |.ct=>∀c,EnvR K m H f c->D.ct c H
 |.rt d=>∀v,VD K m H d v->D.rt v H
abbrev tSt(K:V5)(x:XS):TS:=λD k H=>∃m d S g c j,EnvR K m H d k/\Rel K m S H/\x d S=aw (g,c,j)/\∀f h,Aft K m H j f h->C3 K f h g c D
section
variable {X:Cx} {K:V5} {m:List Addr} {H:Hp} {S:Sto}
abbrev wo(x y:XS):XS:=λc S=>match x c S with
 |none=>aD
 |some (.nx,ρ1,S1)=>y ρ1 S1
 |some r=>aw r
abbrev K8:XS:=λc S=>aw (.nx,c,S)
def Hn{D:Ends}{c:L2.St}{H:Hp}(h:tSt K K8 D c H):KO D c H:=by
 let{m,f,S,g,d,j,E,R,e,q}:=h;cases e;exact q m H (Aft.refl R) c E
def Ni{x y:XS}{D:Ends}{p:L2.St}{H:Hp}(h:tSt K (wo x y) D p H):Rh (tSt K x) (tSt K y) D p H:=by
 let{m,l,S,I,g,v,E,R,e,q}:=h;delta wo at e;cases k:x l S with
 |none=>rw[k]at e;cases e
 |some r=>
  let{o,f,n}:=r;rw[k]at e;calc{m,l,S,o,f,n,E,R,k,λm1 j c=>?_};cases o with
  |nx=>exactλu J=>{m1,f,n,I,g,v,J,c.rel,e,λB C L=>q B C (c.trans L)}
  |bk=>cases e;exact q m1 j c
  |ct=>cases e;exact q m1 j c
  |rt d=>cases e;exact q m1 j c
abbrev t9(x:XE):XS:=λc S=>match x c S with
 |none=>aD
 |some (_,S1)=>aw (.nx,c,S1)
abbrev C4(x:XE):XS:=λc S=>match x c S with
 |none=>aD
 |some (d,S1)=>aw (.rt d,c,S1)
abbrev R6:XS:=λc S=>aw (.ct,c,S)
def Ho{x:XE}{D:Ends}{f:L2.St}{H:Hp}(h:tSt K (t9 x) D f H):KQ (tE K x) D f H:=by
 let{m,j,S,o,k,p,E,R,e,q}:=h;delta t9 at e;cases c:x j S with
 |none=>rw[c]at e;cases e
 |some r=>
  let{d,n}:=r;rw[c]at e;cases e;exact{m,j,S,d,_,E,R,c,λm1 l v g _=>q m1 l g f (E.mono R g.ext)}
def Nj{x:XE}{D:Ends}{g:L2.St}{H:Hp}(h:tSt K (C4 x) D g H):Ri (tE K x) D g H:=by
 let{m,f,S,o,k,p,E,R,e,q}:=h;delta C4 at e;cases c:x f S with
 |none=>rw[c]at e;cases e
 |some r=>
  let{d,n}:=r;rw[c]at e;cases e;exact{m,f,S,d,_,E,R,c,λm1 l v j vd=>q m1 l j v vd}
def Nk{D:Ends}{c:L2.St}{H:Hp}(h:tSt K R6 D c H):KP D c H:=by
 let{m,f,S,g,d,j,E,R,e,q}:=h;cases e;exact q m H (Aft.refl R) c E
abbrev xIf(c:XT)(x y:XS):XS:=λd S=>match c d S with
 |none=>aD
 |some (b,S1)=>if b=aN then x d S1 else y d S1
def R7{c:XT}{x y:XS}{D:Ends}{p:L2.St}{H:Hp}(h:tSt K (xIf c x y) D p H):Rj (tT K c) (tSt K x) (tSt K y) D p H:=by
 let{m,g,S,u,f,v,E,R,e,q}:=h;delta xIf at e;cases n:c g S with
 |none=>rw[n]at e;cases e
 |some r=>
  let{b,j}:=r;rw[n]at e;dsimp! at e;calc{m,g,S,b,j,E,R,n,λm1 B d=>?_};dsimp!;split
  .rename_i hb;rw[if_pos hb]at e;exact{m1,g,j,u,f,v,E.mono R d.ext,d.rel,e,λk l o=>q k l (d.trans o)}
  .rename_i hb;rw[if_neg hb]at e;exact{m1,g,j,u,f,v,E.mono R d.ext,d.rel,e,λk l o=>q k l (d.trans o)}
abbrev pz(x:XE)(t:Tg):XS:=λf S=>match x f S with
 |none=>aD
 |some (d,S1)=>(aB t d f).map λc=>(.nx,c,S1)
def wq{x:XE}{t:Tg}{D:Ends}{k:L2.St}{H:Hp}(h:tSt K (pz x t) D k H):BH (tE K x) (tTg K t) D k H:=by
 let{m,c,S,y,l,B,E,R,e,q}:=h;delta pz at e;cases g:x c S with
 |none=>rw[g]at e;cases e
 |some r=>
  let{d,u}:=r;rw[g]at e;dsimp! at e;cases hb:aB t d c with
  |none=>rw[hb]at e;cases e
  |some o=>
   rw[hb]at e;cases e;exact{m,c,S,d,_,E,R,g,λm1 n v f vd=>{m1,_,c,d,_,f.rel,E.mono R f.ext,vd,hb,λj p=>q m1 n f j p}}
abbrev ua(v o i:XE):XS:=λc S=>match v c S with
 |none=>aD
 |some (dv,S1)=>match o c S1 with
  |none=>aD
  |some (d_o,S2)=>match i c S2 with
   |none=>aD
   |some (di,S3)=>(kG d_o di dv S3).map λd=>(.nx,c,d)
def Hq{v o i:XE}{D:Ends}{J:L2.St}{H:Hp}(h:tSt K (ua v o i) D J H):BH (tE K v) (Rn (tE K o) (tE K i) (RU K)) D J H:=by
 let{m,d,S,fl,T,S',E,R,e,q}:=h;delta ua at e;cases h1:v d S with
 |none=>rw[h1]at e;cases e
 |some r1=>
  let{C,y}:=r1;rw[h1]at e;dsimp! at e;cases h2:o d y with
  |none=>rw[h2]at e;cases e
  |some r2=>
   let{j,B}:=r2;rw[h2]at e;dsimp! at e;cases u:i d B with
   |none=>rw[u]at e;cases e
   |some O=>
    let{I,k}:=O;rw[u]at e;dsimp! at e;cases h4:kG j I C k with
    |none=>rw[h4]at e;cases e
    |some S4=>
     rw[h4]at e;cases e;calc{m,d,S,C,y,E,R,h1,λm1 H1 Z c n=>{m1,d,y,j,B,E.mono R c.ext,c.rel,h2,λU H2 v2 f l=>{U,d,B,I,k,E.mono R (c.trans f).ext,f.rel,u,λY H3 v3 g p=>?_}}};exact{Y,k,j,I,C,_,g.rel,l.mono f.rel g.ext,p,n.mono c.rel (f.trans g).ext,h4,λm4 Q L=>q m4 Q (((c.trans f).trans g).trans L) J (E.mono R (((c.trans f).trans g).trans L).ext)}
abbrev fO(nx:Nxt)(T:Tg)(b:XS):Nat->Nat->XS
 |0,_=>λ_ _=>aD
 |k+1,i=>λf S=>match nx i S with
  |none=>aD
  |some aD=>aw (.nx,f,S)
  |some (aw d)=>match aB T d f with
   |none=>aD
   |some c=>match b c S with
    |none=>aD
    |some (.nx,ρ2,S2)=>fO nx T b k (i+1) ρ2 S2
    |some (.ct,ρ2,S2)=>fO nx T b k (i+1) ρ2 S2
    |some (.bk,ρ2,S2)=>aw (.nx,ρ2,S2)
    |some (.rt d,ρ2,S2)=>aw (.rt d,ρ2,S2)
abbrev C5(I:XI)(T:Tg)(b:XS)(k:Nat):XS:=λc S=>match I c S with
 |none=>aD
 |some (nx,S1)=>fO nx T b k 0 c S1
abbrev lpW(K:V5)(nx:Nxt)(T:Tg)(b:XS)(m1:List Addr)(n:Hp)(D:Ends)(i k:Nat)(l:L2.St)(H:Hp):Prop:=∃m d S g c j,EnvR K m H d l/\Rel K m S H/\Ext m1 n m H/\fO nx T b k i d S=aw (g,c,j)/\∀f h,Aft K m H j f h->C3 K f h g c D
def Hr{nx:Nxt}{T:Tg}{b:XS}{J:It}{m1:List Addr}{U:Hp}{D:Ends}(hI:IOk K [] J nx m1 U)(k:Nat){m:List Addr}{B:Rho}{S:Sto}{g:L2.St}{H:Hp}{C:Fl}{c:Rho}{u:Sto}(E:EnvR K m H B g)(R:Rel K m S H)(x:Ext m1 U m H)(e:fO nx T b k 0 B S=aw (C,c,u))(q:∀O h,Aft K m H u O h->C3 K O h C c D) :
  ∃W:Nat->Nat->L2.St->Hp->Prop,(∃m,W 0 m g H)/\∀i m g H,W i m g H ->
   (J.stop i H/\D.nx g H)\/(J.go i H/\∃N:L2.St->Hp->Prop,(∀n h,N n h->∃O,O < m/\W (i+1) O n h)/\∀x h,J.yld i H x h->tTg K T x g h λI H2=>tSt K b {D with nx:=N,ct:=N,bk:=D.nx} I H2):=by
 calc{lpW K nx T b m1 U D,⟨k,m,B,S,C,c,u,E,R,x,e,q⟩,?_};intro i k g H z;let{m,B,S,C,c,u,E,R,x,e,q}:=z;cases k with
 |zero=>simp[fO]at e
 |succ k=>
  simp![fO]at e;cases Q:nx i S with
  |none=>rw[Q]at e;cases e
  |some o=>
   rw[Q]at e;let{h1,h2}:=hI m S H i (x.toB λb hb=>absurd hb (by simp)) R;cases o with
   |none=>cases e;exact .inl {h1 Q,q m H (Aft.refl R) g E}
   |some d=>
    let{go,hy}:=h2 d Q;dsimp! at e;cases hb:aB T d B with
    |none=>rw[hb]at e;cases e
    |some p=>
     rw[hb]at e;dsimp! at e;cases hx:b p S with
     |none=>rw[hx]at e;cases e
     |some r=>
      let{f2,j,S2}:=r;rw[hx]at e;calc .inr {go,lpW K nx T b m1 U D (i+1) k,λn h z=>{k,YQ k,z},λy h yl=>?_};let{A,vd}:=hy y h yl;calc{m,S,B,d,p,A.rel,E.mono R A.ext,vd,hb,λI E2=>{m,p,S,f2,j,S2,E2,A.rel,hx,λY H3 f=>?_}};cases f2 with
      |nx=>exactλl L=>{Y,j,S2,C,c,u,L,f.rel,(x.trans A.ext).trans f.ext,e,λm4 Z A4=>q m4 Z ((A.trans f).trans A4)}
      |ct=>exactλl L=>{Y,j,S2,C,c,u,L,f.rel,(x.trans A.ext).trans f.ext,e,λm4 Z A4=>q m4 Z ((A.trans f).trans A4)}
      |bk=>cases e;exactλl L=>q Y H3 (A.trans f) l L
      |rt d=>cases e;exactλv vd=>q Y H3 (A.trans f) v vd
def Nm{I:XI}{T:Tg}{b:XS}{k:Nat}{D:Ends}{g:L2.St}{H:Hp}(h:tSt K (C5 I T b k) D g H):Rq (tIt K [] I) (tTg K T) (tSt K b) D g H:=by
 let{m,f,S,v,n,y,E,R,e,q}:=h;delta C5 at e;cases d:I f S with
 |none=>rw[d]at e;cases e
 |some r=>
  let{nx,j}:=r;rw[d]at e;exact{m,f,S,nx,j,E,R,λb hb=>absurd hb (by simp),d,λm1 B J c l=>Hr l k (E.mono R c.ext) c.rel (Ext.refl _ _) e λo p u=>q o p (c.trans u)}
abbrev bZ(c:XT)(b:XS):Nat->XS
 |0=>λ_ _=>aD
 |k+1=>λf S=>match c f S with
  |none=>aD
  |some (aS,S1)=>aw (.nx,f,S1)
  |some (aN,S1)=>match b f S1 with
   |none=>aD
   |some (.nx,ρ2,S2)=>bZ c b k ρ2 S2
   |some (.ct,ρ2,S2)=>bZ c b k ρ2 S2
   |some (.bk,ρ2,S2)=>aw (.nx,ρ2,S2)
   |some (.rt d,ρ2,S2)=>aw (.rt d,ρ2,S2)
def C6{c:XT}{b:XS}{k:Nat}{D:Ends}{n:L2.St}{H:Hp}(h:tSt K (bZ c b k) D n H):BI (tT K c) (tSt K b) D n H:=by
 calc{λk n H=>tSt K (bZ c b k) D n H,⟨k,h⟩,λk n H h=>?_};let{m,y,S,fl,p,T,E,R,e,q}:=h;cases k with
 |zero=>simp[bZ]at e
 |succ k=>
  simp![bZ]at e;cases Q:c y S with
  |none=>rw[Q]at e;cases e
  |some r=>
   let{bb,I}:=r;rw[Q]at e;calc{m,y,S,bb,I,E,R,Q,λm1 H1 f=>?_};cases bb with
   |false=>cases e;exact q m1 H1 f n (E.mono R f.ext)
   |true=>
    dsimp! at e;cases L:b y I with
    |none=>rw[L]at e;cases e
    |some r=>
     let{Y,g,J}:=r;rw[L]at e;calc{λu Z=>tSt K (bZ c b k) D u Z,λu Z z=>{k,YQ k,z},m1,y,I,Y,g,J,E.mono R f.ext,f.rel,L,λB U l=>?_};cases Y with
     |nx=>exactλj o=>{B,g,J,fl,p,T,o,l.rel,e,λm4 C O=>q m4 C ((f.trans l).trans O)}
     |ct=>exactλj o=>{B,g,J,fl,p,T,o,l.rel,e,λm4 C O=>q m4 C ((f.trans l).trans O)}
     |bk=>cases e;exactλj o=>q B U (f.trans l) j o
     |rt d=>cases e;exactλv vd=>q B U (f.trans l) v vd
end
mutual
noncomputable def eN:Tg->Rho->Bool
 |.n i,ρ=>match ρ[i]? with
  |some aD=>aN
  |_=>aS
 |.tup ts,ρ=>gO ts ρ
noncomputable def gO:List Tg->Rho->Bool
 |[],_=>aN
 |t::ts,ρ=>eN t ρ && gO ts ρ
end
structure LeR(ρ ρ':Rho):Prop where
 len:ρ.length=ρ'.length
 at_:∀ (i:Nat) (d:D),ρ[i]?=aw (aw d)->ρ'[i]?=aw (aw d)
def LeR.refl(ρ:Rho):LeR ρ ρ:={rfl,λ_ _ h=>h}
mutual
theorem ub:∀ {t:Tg} {d:D} {k c:Rho},LeR g k->eN t g=aN->aB t d k=aw c->LeR g c
 |.n i,d,k,c,l,f,e=>by
  simp![aB]at e;split at e
  .cases e;calc{by simp[l.len],λj o h=>?_};rw[YB];by_cases n:i=j
   .subst n;simp![eN]at f;rw[h]at f;cases f
   .rw[if_neg n];exact l.at_ j o h
  .cases e
 |.tup ts,.tup ds,k,c,l,f,e=>by
  simp![aB]at e;simp![eN]at f;exact qi l f e
 |.tup ts,.non,_,_,_,_,e=>by simp[aB]at e
 |.tup ts,.bl _,_,_,_,_,e=>by simp[aB]at e
 |.tup ts,.int _,_,_,_,_,e=>by simp[aB]at e
 |.tup ts,.str _,_,_,_,_,e=>by simp[aB]at e
 |.tup ts,.ref _,_,_,_,_,e=>by simp[aB]at e
theorem qi:∀ {T:List Tg} {j:List D} {g c:Rho},LeR h g->gO T h=aN->aQ T j g=aw c->LeR h c
 |[],[],g,c,l,_,e=>by simp![aQ]at e;cases e;exact l
 |[],_::_,_,_,_,_,e=>by simp[aQ]at e
 |_::_,[],_,_,_,_,e=>by simp[aQ]at e
 |t::T,d::j,g,c,l,f,e=>by
  simp![aQ]at e;simp![gO,bAE]at f;cases hb:aB t d g with
  |none=>rw[hb]at e;cases e
  |some k=>rw[hb]at e;exact qi (ub l f.1 hb) f.2 e
end
section
variable {X:Cx} {K:V5} {m:List Addr} {H:Hp} {S:Sto}
def EnvR.weaken(E:EnvR K m H c σ)(l:LeR f c):EnvR K m H f σ:={l.len.trans E.len,λi d h=>E.at_ i d (l.at_ i d h)}
abbrev bD(nx:Nxt)(T:Tg)(c:XA)(g:Rho):Nat->Nat->Sto->Option (List D×Sto)
 |0,_,_=>aD
 |k+1,i,S=>match nx i S with
  |none=>aD
  |some aD=>aw ([],S)
  |some (aw d)=>match aB T d g with
   |none=>aD
   |some f=>bnd (c f S) λE h=>bnd (bD nx T c g k (i+1) h) λl j=>aw (E++l,j)
abbrev C7(t:XT)(c:XA):XA:=λf S=>bnd (t f S) λb d=>if b=aN then c f d else aw ([],d)
abbrev K9(x:XE):XA:=λf S=>bnd (x f S) λd c=>aw ([d],c)
abbrev kH(I:XI)(T:Tg)(c:XA)(k:Nat):XA:=λd S=>if eN T d=aN then bnd (I d S) λnx f=>bD nx T c d k 0 f else aD
abbrev nQ(own:Nat)(I:XI)(T:Tg)(c:XA)(k:Nat):XA:=λd S=>bnd (I d S) λnx f=>if eN T (d++Zp own aD)=aN then
 (bnd (bD nx T c (d++Zp own aD) k 0 f) λE g=>if E.length<=100000 then aw (E,g) else aD) else aD
abbrev tCl(K:V5)(d:Addr)(c:XA):TS:=λD n H=>∃m j S E l Z k,EnvR K m H j n/\Rel K m S H/\d∉m/\H d=aw (.lst k)/\VDs K m H Z k/\Z.length+E.length<=100000/\c j S=aw (E,l) ∧
 ∀g h f v,ExtB [d] m H g h->Rel K g l h->h d=aw (.lst v)->VDs K g h (Z++E) v->EnvR K g h j f->D.nx f h
def C8(h:H c=aw (.lst v))(n:c∉m):AtB [c] m H:=λb hb=>by simp at hb;subst hb;exact⟨⟨v,h⟩,n⟩
def ExtB.refl(n:c∉m):ExtB [c] m H m H:={Yr m,λ_ _ h _ _=>h,λ_ h n=>absurd h n,λb hb=>by simp at hb;subst hb;exact n}
def ExtB.put(n:c∉m)(o:HO):ExtB [c] m H m (upd H c o):=⟨Yr m,λa u h _ nb=>by
 rw[ax (λz=>nb (by simp[z]))];exact h,λ_ h n=>absurd h n,λb hb=>by simp at hb;subst hb;exact n⟩
def Rel.extB(R:Rel K m S H)(h:AtB [f] m H)(x:ExtB [f] m H m H')(k:∀b∈m,H' b=H b):Rel K m S H':=by
 calc{R.len,R.nd,λi o e=>?_};let{b,hb,r}:=R.ob i o e;let c:b∈m:=Zj hb;calc{b,hb,?_};cases o with
 |lst d=>let{v,p,q}:=r;exact{v,(k b c).trans p,VDs.monoB R h x q}
 |frz d=>let{o,v,p,q}:=r;exact{o,v,(k b c).trans p,VDs.monoB R h x q}
 |dic g d=>let{v,p,l,q}:=r;exact{v,(k b c).trans p,l,VDs.monoB R h x q}
 |dct g d=>let{v,p,l,q}:=r;exact{v,(k b c).trans p,l,VDs.monoB R h x q}
def Hs{c:Addr}{x:XE}{D:Ends}{o:L2.St}{H:Hp}(h:tCl K c (K9 x) D o H):K2 c (tE K x) D o H:=by
 let{m,J,S,T,Q,Z,l,E,R,p,u,B,L,e,q}:=h;let{d,U,I,e}:=ac e;cases e;calc{m,J,S,d,_,E,R,I,λm1 y v g vd=>?_};let C:=C8 u p;let j:y c=aw (.lst l):=g.ext.keep _ _ u p;let xB:=g.ext.toB C;let n:c∉m1:=xB.nb c (by simp);let k:=ExtB.put (H:=y) n (.lst (l++[v]));let f:=C8 j n;let O:=B.length;simp![Zl]at L;calc{l,j,by rw[Za0];lia,q m1 _ o (l++[v]) (xB.trans k) (g.rel.extB f k λb hb=>ax λz=>n (z▸hb)) aG ?_ ((E.mono R g.ext).monoB g.rel f k)};exact VDs.append ((B.mono R g.ext).monoB g.rel f k) (.cons (vd.monoB g.rel f k) .nil)
def Ht{d:Addr}{t:XT}{c:XA}{D:Ends}{l:L2.St}{H:Hp}(h:tCl K d (C7 t c) D l H):gm (tT K t) (tCl K d c) D l H:=by
 let{m,p,S,T,O,Z,v,E,R,o,u,C,U,e,q}:=h;let{b,y,L,e}:=ac e;calc{m,p,S,b,y,E,R,L,λm1 B f=>?_};let I:=C8 u o;let g:B d=aw (.lst v):=f.ext.keep _ _ u o;let xB:=f.ext.toB I;let n:d∉m1:=xB.nb d (by simp);dsimp!;split
 .rename_i hb;rw[if_pos hb]at e;exact{m1,p,y,T,O,Z,v,E.mono R f.ext,f.rel,n,g,C.mono R f.ext,U,e,λm2 H2 j k J R2 h2 Q Y=>q m2 H2 j k (xB.trans J) R2 h2 Q Y}
 .rename_i hb;rw[if_neg hb]at e;cases e;calc q m1 B l v xB f.rel g ?_ (E.mono R f.ext);rw[ZU];exact C.mono R f.ext
def uc{t:TS}{D:Ends}{c:L2.St}{H:Hp}(h:t D c H):gm GH t D c H:=by
 show if aN=aN then t D c H else D.nx c H
 rw[if_pos rfl];exact h
def Nn{d:Addr}{c:XA}{D:Ends}{f:L2.St}{H:Hp}(h:tCl K d c D f H):gm GH (tCl K d c) D f H:=by
 exact uc h
abbrev clW(K:V5)(d:Addr)(nx:Nxt)(T:Tg)(c:XA)(j:Rho)(m1:List Addr)(p:Hp)(o:Ends)(i k:Nat)(q:L2.St)(H:Hp):Prop:=∃m S n E Z l,EnvR K m H j q/\Rel K m S H/\ExtB [d] m1 p m H/\H d=aw (.lst l)/\VDs K m H Z l/\Z.length+E.length<=100000/\bD nx T c j k i S=aw (E,n)/\∀g h f v,ExtB [d] m H g h->Rel K g n h->h d=aw (.lst v)->VDs K g h (Z++E) v->EnvR K g h j f->o.nx f h
def yv(hI:IOk K [f] J nx m1 Z)(hts:∀D l H,tCl K f c D l H->ts D l H)(k:Nat)
  (fr:eN T g=aN) (E:EnvR K m H g l) (R:Rel K m S H) (x:ExtB [f] m1 Z m H) (n:H f=aw (.lst vs)) (L:VDs K m H zs vs) (hl:zs.length+C.length<=100000) (e:bD nx T c g k 0 S=aw (C,Q))
  (q:∀I h j v,ExtB [f] m H I h->Rel K I Q h->h f=aw (.lst v)->VDs K I h (zs++C) v->EnvR K I h g j->EE.nx j h):tj J (tTg K T) ts EE l H:=by
 calc{clW K f nx T c g m1 Z EE,⟨k,m,S,Q,C,zs,vs,E,R,x,n,L,hl,e,q⟩,?_};intro i k l H z;let{m,S,Q,C,zs,vs,E,R,x,n,L,hl,e,q}:=z;let u:f∉m:=x.nb f (by simp);let hB:=C8 n u;cases k with
 |zero=>simp[bD]at e
 |succ k=>
  simp![bD]at e;cases B:nx i S with
  |none=>rw[B]at e;cases e
  |some o=>
   rw[B]at e;let{h1,h2}:=hI m S H i x R;cases o with
   |none=>
    cases e;exact .inl {h1 B,q m H l vs (ExtB.refl u) R n (by rw[ZU];exact L) E}
   |some d=>
    let{go,hy}:=h2 d B;dsimp! at e;cases hb:aB T d g with
    |none=>rw[hb]at e;cases e
    |some p=>
     rw[hb]at e;dsimp! at e;let{e1,S1,c1,e}:=ac e;let{rs,S2,c2,e}:=ac e;cases e;rw[Ze]at hl;calc .inr {go,clW K f nx T c g m1 Z EE (i+1) k,λj h z=>{k,YQ k,z},λy h yl=>?_};let{A,vd}:=hy y h yl;let xA:=A.ext.toB hB;let Y:h f=aw (.lst vs):=A.ext.keep _ _ n u;calc{m,S,g,d,p,A.rel,E.mono R A.ext,vd,hb,λσ2 E2=>hts _ _ _ {m,p,S,e1,S1,zs,vs,E2,A.rel,u,Y,L.mono R A.ext,by lia,c1,λm3 H3 σ3 U x3 R3 h3 v3 E3=>?_}};calc{m3,S1,_,rs,zs++e1,U,E3.weaken (ub (LeR.refl g) fr hb),R3,(x.trans xA).trans x3,h3,v3,by rw[Ze];lia,c2,λm4 H4 O vs4 x4 R4 h4 v4 E4=>?_};calc q m4 H4 O vs4 ((xA.trans x3).trans x4) R4 h4 ?_ E4;rw[<-Yv];exact v4
def C9{d:Addr}{I:XI}{T:Tg}{t:TT}{c C:XA}{k:Nat}{D:Ends}{g:L2.St}{H:Hp}(l:∀D g H,tCl K d c D g H->gm t (tCl K d C) D g H)(h:tCl K d (kH I T c k) D g H):B5 (tIt K [d] I) (tTg K T) t (tCl K d C) D g H:=by
 let{m,L,S,es,S',zs,vs,E,R,p,u,vz,Q,e,q}:=h;delta kH at e;split at e
 .rename_i fr;let{nx,Y,B,e}:=ac e;let o:=C8 u p;calc{m,L,S,nx,Y,E,R,o,B,λm1 H1 J f Z=>?_};let xB:=f.ext.toB o;let n:d∉m1:=xB.nb d (by simp);exact yv Z l k fr (E.mono R f.ext) f.rel (ExtB.refl n) (f.ext.keep _ _ u p) (vz.mono R f.ext) Q e λm2 H2 j v y R2 h2 O U=>q m2 H2 j v (xB.trans y) R2 h2 O U
 .cases e
def EnvR.more(E:EnvR K m H c f)(n:Nat):EnvR K m H (c++Zp n aD) (f++Zp n aD):=by
 calc{by simp[E.len],λi d e=>?_};by_cases h:i < c.length
 .rw[ZB h]at e;rw[ZB (by rw[<-E.len];exact h)];exact E.at_ i d e
 .rw[Zv (by lia),YF]at e;split at e <;> cases e
def yw{own:Nat}{k:Nat}(B:∀acc D p H,tCl K acc c D p H->gm t (tCl K acc c') D p H)(h:gx K (nQ own O tg c k) p H Q):B6 own (tIt K [] O) (tTg K tg) (λacc=>gm t (tCl K acc c')) p H Q:=by
 let{m,Z,S,es,S',E,R,e,q}:=h;let{nx,S1,U,e}:=ac e;split at e
 .rename_i fr;let{es',C,T,e}:=ac e;split at e
  .rename_i hl;cases e;calc{m,Z,S,nx,S1,E,R,λb hb=>absurd hb (by simp),U,λm1 L J f hI acc d=>?_};let x0:=Ext.beside f.rel d (.lst []);let R0:=f.rel.beside d (.lst []);let u:=f.rel.no d
   let v:IOk K [acc] J nx m1 (upd L acc (.lst [])):=by
    intro l C H2 i g R2;refine hI l C H2 i ⟨g.pre,λa o h n _=>?_,λa h n=>?_,λb hb=>absurd hb (by simp)⟩ R2
    .let ne:a≠acc:=aR h d;exact g.keep a o (by rw[ax ne];exact h) n (by simp[ne])
    .let:=g.new a h n;by_cases j:a=acc
     .subst j;exact d
     .rw[ax j]at this;exact this
   refine yv (zs:=[]) (vs:=[]) v (B acc) k fr ((E.mono R f.ext |>.mono f.rel x0).more own) R0 (ExtB.refl u) aG .nil (by simpa using hl) T λl H2 Y y g R2 h2 v2 E2=>?_
   let xx:Ext m1 L l H2:=⟨g.pre,λa o h n=>by
    let ne:a≠acc:=aR h d;exact g.keep a o (by rw[ax ne];exact h) n (by simp[ne]),λa h n=>by
    let:=g.new a h n;by_cases j:a=acc
    .subst j;exact d
    .rw[ax j]at this;exact this⟩
   let hn:H acc=aD:=by
    cases eh:H acc with
    |none=>rfl
    |some o=>
     by_cases I:acc∈m
     .exact absurd (f.ext.pre.subset I) u
     .let:=f.ext.keep acc o eh I;rw[d]at this;cases this
   exact q l H2 acc y (f.trans ⟨xx,R2⟩) h2 (g.nb acc (by simp)) (λb hb z=>u (f.ext.pre.subset (z▸hb))) hn (by simpa using v2)
  .cases e
 .cases e
end
section
variable {X:Cx} {K:V5} {m:List Addr} {H:Hp} {S:Sto}
abbrev Da(x y:XE):XE:=λf S=>bnd (x f S) λd c=>match d with
 |.bl aN=>y f c
 |.bl aS=>aw (.bl aS,c)
 |_=>aD
abbrev xOr(x y:XE):XE:=λf S=>bnd (x f S) λd c=>match d with
 |.bl aN=>aw (.bl aN,c)
 |.bl aS=>y f c
 |_=>aD
abbrev Ar:D->Sto->Option (D×Sto)
 |.bl b,S=>aw (.bl (!b),S)
 |_,_=>aD
abbrev Np:D->Sto->Option (D×Sto)
 |.int i,S=>aw (.int (-i),S)
 |_,_=>aD
abbrev Nq(c:XT)(x y:XE):XE:=λd S=>bnd (c d S) λb f=>if b=aN then x d f else y d f
def Db(h:tE K (Da x y) l H Q):KL (tE K x) (tE K y) l H Q:=by
 let{m,g,S,d,p,E,R,e,q}:=h;let{a,f,o,e}:=ac e;calc{m,g,S,a,f,E,R,o,λm1 B v c j=>?_};cases a with
 |bl b=>
  calc{b,j.bls,?_};cases b with
  |true=>exact{m1,g,f,d,p,E.mono R c.ext,c.rel,e,λk n w u vd=>q k n w (c.trans u) vd}
  |false=>cases e;exact q m1 B _ c cG
 |_=>cases e
def La(h:tE K (xOr x y) l H Q):Rg (tE K x) (tE K y) l H Q:=by
 let{m,g,S,d,p,E,R,e,q}:=h;let{a,f,o,e}:=ac e;calc{m,g,S,a,f,E,R,o,λm1 B v c j=>?_};cases a with
 |bl b=>
  calc{b,j.bls,?_};cases b with
  |false=>exact{m1,g,f,d,p,E.mono R c.ext,c.rel,e,λk n w u vd=>q k n w (c.trans u) vd}
  |true=>cases e;exact q m1 B _ c cG
 |_=>cases e
def Nr(h:tE K (xUn Ar x) k H Q):KM (tE K x) k H Q:=by
 let{m,j,S,d,o,E,R,e,q}:=h;let{a,c,l,e}:=ac e;calc{m,j,S,a,c,E,R,l,λm1 n v f g=>?_};cases a with
 |bl b=>cases e;exact{b,g.bls,q m1 n _ f cG}
 |_=>cases e
def Hu:UnR X (unaryOp .USub) (rS1 X.K Np):=by
 intro p s g H x v Q I c h;calc vG p s g H x v Q I c ?_;let{m,S,a,d,j,R,f,e,q}:=h;cases a with
 |int i=>cases e;exact{i,f.ints,q m H _ (Aft.refl R) bv}
 |_=>cases e
def Nt(h:tE K (Nq c x y) p H Q):tIf (tT K c) (tE K x) (tE K y) p H Q:=by
 let{m,j,S,d,o,E,R,e,q}:=h;let{b,g,u,e}:=ac e;calc{m,j,S,b,g,E,R,u,λm1 v f=>?_};dsimp!;split
 .rename_i hb;rw[if_pos hb]at e;exact{m1,j,g,d,o,E.mono R f.ext,f.rel,e,λk l w n vd=>q k l w (f.trans n) vd}
 .rename_i hb;rw[if_neg hb]at e;exact{m1,j,g,d,o,E.mono R f.ext,f.rel,e,λk l w n vd=>q k l w (f.trans n) vd}
abbrev As(f g:D->D->Sto->Option (D×Sto))(x y z:XE):XE:=λd S=>bnd (x d S) λa k=>bnd (y d k) λb l=>bnd (f a b l) λr h=>match r with
 |.bl aN=>bnd (z d h) λc j=>g b c j
 |.bl aS=>aw (.bl aS,h)
 |_=>aD
def Dc(h:tE K (As f g x y z) σ H Q):vH (rS K f) (rS K g) (tE K x) (tE K y) (tE K z) σ H Q:=by
 let{m,o,S,d,Z,E,R,e,q}:=h;let{a,I,Y,e}:=ac e;let{b,J,T,e}:=ac e;let{r,B,e3,e}:=ac e;calc{m,o,S,a,I,E,R,Y,λm1 H1 v j va=>{m1,o,I,b,J,E.mono R j.ext,j.rel,T,λm2 H2 w l vb=>?_}};calc{m2,J,a,b,r,B,l.rel,va.mono j.rel l.ext,vb,e3,λL H3 u n O=>?_};cases r with
 |bl k=>
  calc{k,O.bls,?_};cases k with
  |true=>
   dsimp! at e;let{c,C,e4,e}:=ac e;exact{L,o,B,c,C,E.mono R ((j.trans l).trans n).ext,n.rel,e4,λm4 H4 y p vc=>{m4,C,b,c,d,Z,p.rel,vb.mono l.rel (n.trans p).ext,vc,e,λU H5 t A5 vd=>q U H5 t ((((j.trans l).trans n).trans p).trans A5) vd}}
  |false=>cases e;exact q L H3 _ ((j.trans l).trans n) cG
 |_=>cases e
abbrev Dd(x y:XT):XT:=λd S=>bnd (x d S) λb c=>if b=aN then y d c else aw (aS,c)
abbrev Nu(x y:XT):XT:=λd S=>bnd (x d S) λb c=>if b=aN then aw (aN,c) else y d c
abbrev De(x:XT):XT:=λd S=>bnd (x d S) λb c=>aw (!b,c)
def Df(h:tT K (Dd x y) k H Q):Re (tT K x) (tT K y) k H Q:=by
 let{m,g,S,d,o,E,R,e,q}:=h;let{b,f,n,e}:=ac e;calc{m,g,S,b,f,E,R,n,λm1 u c=>?_};dsimp!;split
 .rename_i hb;rw[if_pos hb]at e;exact{m1,g,f,d,o,E.mono R c.ext,c.rel,e,λj l p=>q j l (c.trans p)}
 .rename_i hb;rw[if_neg hb]at e;cases e;exact q m1 u c
def Lb(h:tT K (Nu x y) k H Q):tOr (tT K x) (tT K y) k H Q:=by
 let{m,g,S,d,o,E,R,e,q}:=h;let{b,f,n,e}:=ac e;calc{m,g,S,b,f,E,R,n,λm1 u c=>?_};dsimp!;split
 .rename_i hb;rw[if_pos hb]at e;cases e;exact q m1 u c
 .rename_i hb;rw[if_neg hb]at e;exact{m1,g,f,d,o,E.mono R c.ext,c.rel,e,λj l p=>q j l (c.trans p)}
def Nv(h:tT K (De x) g H Q):Rf (tT K x) g H Q:=by
 let{m,f,S,d,n,E,R,e,q}:=h;let{b,l,j,e}:=ac e;cases e;exact{m,f,S,b,_,E,R,j,λm1 k c=>q m1 k c}
@[inline]abbrev Calls:=Nat->List D->Sto->Option (D×Sto)
abbrev spC(K:V5)(g:List D->Sto->Option (D×Sto))(n:Nat):Sp:=λk H Q _=>∃m c S d j,VDs K m H c k/\Rel K m S H/\c.length=n/\g c S=aw (d,j)/\∀f h v,Aft K m H j f h->VD K f h d v->Q v h
abbrev ud(g:List D->Sto->Option (D×Sto))(n:Nat)(x:XA):XE:=λf S=>bnd (x f S) λd c=>if d.length=n then g d c else aD
def Hv{n:Nat}(h:tE K (ud g n x) C H Q):K0 (spC K g n) [] E0 (tAr K x) C H Q:=by
 let{m,p,S,d,l,E,R,e,q}:=h;let{j,f,k,e}:=ac e;split at e
 .rename_i u;refine{m,p,S,j,f,E,R,k,λm1 L J c vd=>{m1,j,f,d,l,by rw[ZU];exact vd,c.rel,u,e,λy B v I o=>q y B v (c.trans I) o}}
 .cases e
end
abbrev lb(x y:Int×List Int):Bool:=if x.1=y.1 then HT.dJ x.2 y.2 else decide (x.1 < y.1)
def ue:∀ns:List Int,HT.dJ ns ns=aS
 |[]=>rfl
 |n::ns=>by rw[HT.mU,if_pos rfl];exact ue ns
def mo{c:List Value}{ns:List Int}(h:IntsAre c ns):∀ (j:Nat) v,c[j]?=aw v->∃n t,ns[j]?=aw n/\v = .int n t:=by
 induction h with
 |nil=>intro j v e;simp at e
 |cons a t _ I=>
  intro j v e;cases j with
  |zero=>cases e;exact⟨a,t,rfl,rfl⟩
  |succ j=>exact I j v (by simpa using e)
def Au{A:Around}{s:Shared}{p q:Addr}{xs y:Array Value}{ns ms:List Int}(B:A.units < cLine)(h1:s.heap.IsTuple p xs)(h2:s.heap.IsTuple q y)(I:IntsAre xs.toList ns)(d:IntsAre y.toList ms):∃e,V2 A s (.ref p) (.ref q) e/\(e=aN ↔ ns=ms):=by
 by_cases e:p=q
 .subst e;let{o,C,_,n,hd}:=h1;let{Q,h,_,O,c}:=h2;rw[C]at h;cases h;rw[hd]at c;cases c
  let en:ns=ms:=by
   let l1:=I.length;let l2:=d.length;calc YW λj=>?_;cases g:xs.toList[j]? with
   |none=>
    let:=ZR.mp g;rw[Zx (by lia),Zx (by lia)]
   |some v=>
    let{a,t,f,rfl}:=mo I j v g;let{b,T,E,k}:=mo d j _ g;cases k;rw[f,E]
  exact{aN,.same _,by simp[en]}
 .refine{_,.of_refs e (SeqAt.RcAt.tuples (e:=λj=>decide (ns[j]?=ms[j]?)) h1 h2 B λj J L=>?_),?_}
  .let{a,t,f,k}:=mo I j xs[j] (by simp[J]);let{b,u,E,l}:=mo d j y[j] (by simp[L]);rw[f,E,k,l,show decide (aw a=aw b)=(a == b) by simp[Y4]];exact .int_int a t b u
  .let l1:ns.length=xs.size:=by rw[<-I.length];exact ZG
   let l2:ms.length=y.size:=by rw[<-d.length];exact ZG
   rw[<-l1,<-l2,vA,decide_eq_true_eq]
section
open PySem.SeqAt
open PySem.AutoSeq1 (wpAny_loadPart')
open PySem.MeetsSeq PySem.MeetsSeq2 PySem.MeetsSeq3
def pA(l b:Addr)(x y:Int)(t u:Tok)(p q:Addr)(n n2:Nat)(dd J:Option Addr)(sl I:Array (Option Value))(ns C:List Int) :
  Meets (Builtin.«tuple.__lt__» ⟨[.ref l,.ref b],[]⟩)
   (λA R s=>s.heap.get? l=aw {cls:=.type "tuple",dict:=dd,data:=.seq #[.int x t,.ref p] n,slots:=sl}/\s.heap.get? b=aw {cls:=.type "tuple",dict:=J,data:=.seq #[.int y u,.ref q] n2,slots:=I} ∧
    (∃xs Y,IsTup s.heap p xs/\IsTup s.heap q Y/\IntsAre xs.toList ns/\IntsAre Y.toList C)/\A.in1.units < cLine ∧
    R (.ok (.ret (.bool (lb (x,ns) (y,C))))) s):=
 .of_wp λprog w A R s h=>by
  let{B,g,d,T,os}:=s;let{hl,hb,⟨xs,Y,Z,U,i1,i2⟩,X,h}:=h;let f2:=AutoSeq1.sub_tuple_tuple
  wp_walk using Zbr hl,Zbr hb,Zbl _ (λc b O=>b.1=aD/\O=⟨B,g,d,T,os⟩/\((c=[(.int x t,.int y u),(.ref p,.ref q)])\/(c=[(.ref p,.ref q)]/\x=y)\/(c=[]/\x=y/\ns=C))) _
  case turn=>
   rintro⟨v,z⟩ c b O ⟨k,rfl,j⟩;rcases j with j |⟨j,hxy⟩ |⟨j,_⟩
   .injection j with hvz hrest;injection hvz with hv hz;subst hv hz;let{e,L,f}:=HT.sZ A.in1 ⟨B,g,d,T,os⟩ x t y u;calc Zbf (L prog w _ _ ?_);cases e with
    |true=>
     wp_walk
     exact{rfl,rfl,.inr (.inl {hrest,f.mp rfl})}
    |false=>
     let o:=HT.tf A.in1 ⟨B,g,d,T,os⟩ x t y u prog w
     wp_walk using o
     calc{_,rfl,?_};delta lb at h;rw[if_neg (λq=>absurd (f.mpr q) Zd)]at h
     simpa using h
   .injection j with hvz hrest;injection hvz with hv hz;subst hv hz hxy;let{e,L,f}:=Au (A:=A.in1) (s:=⟨B,g,d,T,os⟩) X Z U i1 i2;calc Zbf (L prog w _ _ ?_);delta lb at h;rw[if_pos rfl]at h;cases e with
    |true=>
     wp_walk
     exact{rfl,rfl,.inr (.inr {hrest,rfl,f.mp rfl})}
    |false=>
     let o:∀ (E:Value->Shared->Prop) (Q:Value->Shared->Prop),Q (.bool (HT.dJ ns C)) ⟨B,g,d,T,os⟩->wpAny (model prog w) A.in1 (ZaU .Lt (.ref p) (.ref q)) Q E ⟨B,g,d,T,os⟩:=λE Q hq=>HT.vK (s:=⟨B,g,d,T,os⟩) Z U i1 i2 X hq
     wp_walk using o
     exact{_,rfl,by simpa using h}
   .cases j
  case fin=>
   rintro⟨b1,b2⟩ O ⟨k,rfl,j⟩;simp! at k;subst k;rcases j with j |⟨j,_⟩ |⟨_,hxy,hnm⟩
   .cases j
   .cases j
   .subst hxy hnm;delta lb at h;rw[if_pos rfl,ue]at h
    wp_walk
    exact{_,rfl,by simpa[Builtin.Tuple.tupleCompareSizes] using h}
  case h=>exact{rfl,rfl,.inl rfl}
end
section
variable {prog:Program} {w:World} {A:Around} {R:Result->Shared->Prop} {I S:Addr} {f g:List Addr} {n:Nat} {P:Nat->Value->Prop} {St:Nat->Heap->Prop} {bt:Nat->Nat->Bool} {base:Heap} {d:Value}
abbrev Nw(prog:Program)(w:World)(A:Around)(base:Heap)(P:Nat->Value->Prop)(bt:Nat->Nat->Bool):Prop:=
 ∀i j c v (s:Shared) (Q:Value->Shared->Prop) (E:Value->Shared->Prop),(∀a o,base.get? a=aw o->s.heap.get? a=aw o)->P i c->P j v->Q (.bool (bt i j)) s->wpAny (model prog w) A (ZaU .Lt c v) Q E s
def Dg(a d:Value):argsOk "min" ⟨[a],[(Str.ofString "default",d)]⟩:=by delta argsOk;kernel_rfl
def yx:(toString "min" ++ toString ".loop" : String) = "min.loop" := by decide
def nR(W:Walks prog w A.in1 I f g n P St)(O:Nw prog w A.in1 base P bt)(B:S∉f)(bw:∀a∈g,base.get? a=aD)(J:base.get? S=aD):∀ (m i:Nat) (s:Shared) (b:Value) (c:Nat),i+1+m=n->St (i+1) s.heap->P (argBest bt i) b->(∀a o,base.get? a=aw o->s.heap.get? a=aw o)->s.heap.get? S=aw {cls:=.type "list",dict:=aD,data:=.seq #[b,b] c,slots:=#[]} ->
  (∀v h' E,P (argBest bt (n - 1)) v->(∀a o,a∉g->a≠S->s.heap.get? a=aw o->h'.get? a=aw o)->R (.ok (.ret v)) {s with heap:=h',toks:=E})->codeAny (model prog w) A (.builtin "min.loop" ⟨[.ref I,.none,.ref S],[(Str.ofString "default",d)]⟩) R s
 |0,i,s,b,c,e,st,pb,kb,gs,r=>by
  let L:S∉g:=λh=>B (W.sub _ h);calc Zao W2 ?_;rw[Around.under_plainId W9 _];show wpAny _ A.in1 (ZaY (.ref S) >>= _) _ _ s;calc Zbf (ZbE gs rfl ?_);show wpAny _ A.in1 (tryCatch (pyNext (.ref I)) _ >>= _) _ _ s;calc Zbf (ZbK (W.done s _ _ (by rw[<-e];exact st) λh' E q=>?_));show wpAny _ A.in1 (Zbc S (λ_=>#[]) >>= _) _ _ _;calc Zbf (ZbM (q S _ L gs) rfl (Zbf (Zbq (Zby ?_))));exact r b _ E (by rw[<-e];exact pb) λa o u y z=>(ZN _ _ (Ne.symm y)).trans (q a o u z)
 |m+1,i,s,b,c,e,st,pb,kb,gs,r=>by
  let L:S∉g:=λh=>B (W.sub _ h);calc Zao W2 ?_;rw[Around.under_plainId W9 _];show wpAny _ A.in1 (ZaY (.ref S) >>= _) _ _ s;calc Zbf (ZbE gs rfl ?_);show wpAny _ A.in1 (tryCatch (pyNext (.ref I)) _ >>= _) _ _ s;calc Zbf (ZbK (W.item (i+1) s _ _ (by lia) st λv h' E Y C q=>?_));let j:=q S _ L gs;let X:∀a o,base.get? a=aw o->a∉g/\a≠S:=λa o h=>{λz=>(by rw[bw a z]at h;cases h),λz=>(by rw[z,J]at h;cases h)};let k:∀a o,base.get? a=aw o->h'.get? a=aw o:=λa o h=>q a o (X a o h).1 (kb a o h);show wpAny _ A.in1 (tryCatch (holding [v,v] (ZaU .Lt v b >>= _)) _ >>= _) _ _ _;calc Zbf (ZbK (Zbn (Zbf (O (i+1) (argBest bt i) v b _ _ _ k Y pb ?_))));calc Zbf (Zbn (ZbJ ?_));calc Zbf (Zbq (Zby ?_));cases hb:bt (i+1) (argBest bt i) with
  |true=>
   simp![if_true];calc Zbf (ZbM j rfl (Zbf (Zbq ?_)));rw[yx];refine Zby {ZaQ W9 _,nR W O B bw J m (i+1) _ v _ (by lia) (W.frame _ _ _ C λa af o z=>?_) (by simp![argBest,hb,if_true];exact Y) (λa o h=>(ZN _ _ (Ne.symm (X a o h).2)).trans (k a o h)) (Yp _ j rfl) λU l T p Q=>?_}
   .exact(ZN _ _ (λz:S=a=>B (by rw[z];exact af))).trans z
   .exact r U l T p λa o u y z=>Q a o u y ((ZN _ _ (Ne.symm y)).trans (q a o u z))
  |false=>
   simp![ZY,if_false];calc Zbf (Zbq ?_);rw[yx];calc Zby {ZaQ W9 _,nR W O B bw J m (i+1) _ b c (by lia) C (by simp![argBest,hb,ZY,if_false];exact pb) k j λU l T p Q=>?_};exact r U l T p λa o u y z=>Q a o u y (q a o u z)
def Av{s:Shared}(W:Walks prog w A.in1 I f g n P St)(U:Nw prog w A.in1 base P bt)(l:S∉f)(bw:∀a∈g,base.get? a=aD)(B:base.get? S=aD)(X:0 < n){c:Nat}(st:St 0 s.heap)(Q:∀a o,base.get? a=aw o->s.heap.get? a=aw o)(gs:s.heap.get? S=aw {cls:=.type "list",dict:=aD,data:=.seq #[] c,slots:=#[]})
  (r:∀v h' E,P (argBest bt (n - 1)) v->(∀a o,a∉g->a≠S->s.heap.get? a=aw o->h'.get? a=aw o)->R (.ok (.ret v)) {s with heap:=h',toks:=E}):codeAny (model prog w) A (.builtin "min.loop" ⟨[.ref I,.none,.ref S],[(Str.ofString "default",d)]⟩) R s:=by
 let L:S∉g:=λh=>l (W.sub _ h);calc Zao W2 ?_;rw[Around.under_plainId W9 _];show wpAny _ A.in1 (ZaY (.ref S) >>= _) _ _ s;calc Zbf (ZbE gs rfl ?_);show wpAny _ A.in1 (tryCatch (pyNext (.ref I)) _ >>= _) _ _ s;calc Zbf (ZbK (W.item 0 s _ _ X st λv h' E O q u=>?_));let j:=u S _ L gs;let y:∀a o,base.get? a=aw o->a∉g/\a≠S:=λa o h=>{λz=>(by rw[bw a z]at h;cases h),λz=>(by rw[z,B]at h;cases h)};show wpAny _ A.in1 (Zbc S (λ_=>#[v,v]) >>= _) _ _ _;calc Zbf (ZbM j rfl ?_);rw[yx];refine Zby {ZaQ W9 _,nR W U l bw B (n - 1) 0 _ v _ (by lia) (W.frame _ _ _ q λa af o z=>?_) O (λa o h=>(ZN _ _ (Ne.symm (y a o h).2)).trans (u a o (y a o h).1 (Q a o h))) (Yp _ j rfl) λZ k T p Y=>?_}
 .exact(ZN _ _ (λz:S=a=>l (by rw[z];exact af))).trans z
 .exact r Z k T p λa o J C z=>Y a o J C ((ZN _ _ (Ne.symm C)).trans (u a o J z))
def Dh{s:Shared}(W:Walks prog w A.in1 I f g 0 P St)(h:S∉f){c:Nat}(st:St 0 s.heap)(gs:s.heap.get? S=aw {cls:=.type "list",dict:=aD,data:=.seq #[] c,slots:=#[]})
  (r:∀h' T,(∀a o,a∉g->s.heap.get? a=aw o->h'.get? a=aw o)->R (.ok (.ret d)) {s with heap:=h',toks:=T}):codeAny (model prog w) A (.builtin "min.loop" ⟨[.ref I,.none,.ref S],[(Str.ofString "default",d)]⟩) R s:=by
 calc Zao W2 ?_;rw[Around.under_plainId W9 _];show wpAny _ A.in1 (ZaY (.ref S) >>= _) _ _ s;calc Zbf (ZbE gs rfl ?_);show wpAny _ A.in1 (tryCatch (pyNext (.ref I)) _ >>= _) _ _ s;calc Zbf (ZbK (W.done s _ _ st λh' T k=>?_));exact Zbf (ZbD (Zby (r h' T k)))
variable {E:Value->Shared->Prop} {s:Shared} {l:Addr} {its:Array Value} {Q:Value->Shared->Prop}
def Di(hl:s.heap.IsList l its)
  (h:∀c:Shared,c={s with heap:=s.heap.push {cls:=.type "list_iterator",data:=.fields #[.ref l,.int 0 0]}} ->
   (c.heap.IsListIter s⁻¹ l 0/\c.heap.IsList l its)->(∀b∈[s⁻¹,l],b < c.heap.objs.size)->l≠s⁻¹->Q (.ref s⁻¹) c) :
  wpAny (model prog w) A (pyIter (.ref l)) Q E s:=by
 let j:l < s⁻¹:=by let{_,e,_}:=hl;exact Zt e
 calc Zbz hl (h _ rfl {{_,Zu _ rfl,rfl,rfl},hl.push _} (λb hb=>?_) (ZH j));show b < (s.heap.push _).objs.size;rw[Z0];simp![Zn,ZX,or_false]at hb;rcases hb with rfl |rfl
 .exact YQ _
 .exact X0 j
def Dj(y:A.handled=aD)(hl:s.heap.IsList l its)(u:Nw prog w A.in1 s.heap (λi v=>its[i]?=aw v) bt)
  (h1:0 < its.size->∀v h' T,its[argBest bt (its.size - 1)]?=aw v->(∀b o,s.heap.get? b=aw o->h'.get? b=aw o)->Q v {s with heap:=h',toks:=T})
  (h2:its.size=0->∀h' T,(∀b o,s.heap.get? b=aw o->h'.get? b=aw o)->Q d {s with heap:=h',toks:=T}):wpAny (model prog w) A (call (.builtin "min") [.ref l] [(Str.ofString "default",d)]) Q E s:=by
 calc kmb_tree F.kind_min F.plain_min F.entry_min (Dg _ _) ?_;show wpAny _ A.in1 (Builtin.Builtins.bindParams "min" ["key","default"] 0 ⟨[],[(Str.ofString "default",d)]⟩ >>= _) _ _ s;calc Zbf (Zbw (show Builtin.Builtins.bindParams "min" ["key","default"] 0 ⟨[],[(Str.ofString "default",d)]⟩=pure [aD,aw d] from rfl) ?_);calc Zbf (Zby ?_);calc Zbf (Di hl λO e st c L=>?_);subst e;let W:=Walks.list (prog:=prog) (w:=w) (A:=A.in1) y s⁻¹ l L its;calc Zbf (Zbv ?_);let J:∀b∈[s⁻¹,l],b < (s.heap.push {cls:=.type "list_iterator",data:=.fields #[.ref l,.int 0 0]}).objs.size:=c;rw[yx]
 let C:s.heap.get? s⁻¹=aD:=by
  cases q:s.heap.get? s⁻¹ with
  |none=>rfl
  |some o=>exact absurd (Zt q) (ZO _)
 by_cases k:its.size=0
 .rw[k]at W;calc Zby {ZaQ W9 _,Dh W (λj=>ZO _ (c _ j)) (W.frame _ _ _ st λb _ o e=>Zc _ e) (Zu _ rfl) λh' T h=>?_};exact h2 k h' T (ZaP λb o hb e=>h b o hb (Zc _ e))
 .refine Zby {ZaQ W9 _,Av (base:=s.heap) W u (λj=>ZO _ (c _ j)) ?_ ?_ (by lia) (W.frame _ _ _ st λb _ o e=>Zc _ e) (λa o e=>Zc _ (Zc _ e)) (Zu _ rfl) λv h' T B h=>?_}
  .intro a p;rw[Zy.mp p];exact C
  .cases q:s.heap.get? (s.heap.push {cls:=.type "list_iterator",data:=.fields #[.ref l,.int 0 0]}).objs.size with
   |none=>rfl
   |some o=>have:=Zt q;rw[Z0]at this;lia
  .exact h1 (by lia) v h' T B (ZaP λb o hb e=>h b o hb (ZH (Zt e)) (Zc _ e))
end
abbrev Dk:D->Option (Int×List Int)
 |.tup [.int n,.tup es]=>(dU es).map λns=>(n,ns)
 |_=>aD
abbrev qj:List D->Option (List (Int×List Int))
 |[]=>aw []
 |d::ds=>match Dk d,qj ds with
  |some w,aw ws=>aw (w::ws)
  |_,_=>aD
abbrev nS(c:List (Int×List Int))(i j:Nat):Bool:=lb (c.getD i (0,[])) (c.getD j (0,[]))
abbrev pB(T:Bool)(d:List D)(S:Sto):Option (D×Sto):=match T,qj d with
 |false,aw ws=>aw (d.getD (argBest (nS ws) (d.length - 1)) .non,S)
 |_,_=>aD
def yy:∀ {f:List D} {c:List (Int×List Int)},qj f=aw c->c.length=f.length/\∀ (i:Nat) d,f[i]?=aw d->∃w,c[i]?=aw w/\d = .tup [.int w.1,.tup (w.2.map D.int)]
 |[],_,e=>by cases e;exact{rfl,λi d h=>by simp at h}
 |d::f,c,e=>by
  simp![qj]at e;split at e
  .rename_i w g h1 h2;cases e;let{l,r}:=yy h2;calc{by rw[Zr,Zr,l],λi j h=>?_};cases i with
   |zero=>
    cases h;calc{w,rfl,?_};delta Dk at h1;split at h1
    .rename_i n k;let{ns,E,rfl}:=ZP.mp h1;rw[dW E]
    .cases h1
   |succ i=>exact r i j (by simpa using h)
  .cases e
def yz{B:Nat->Nat->Bool}:∀n,argBest B n<=n
 |0=>Zg _
 |n+1=>by
  simp![argBest];split
  .exact Zg _
  .exact Nat.le_succ_of_le (yz n)
section
variable {X:Cx} {K:V5} {m:List Addr} {H:Hp} {S:Sto} {e:Expr} {t:TA} {p pos kp c:Pos} {j:Nat}
def qk{d:List (Addr×Obj)}{Z:L2.St}{s:Shared}(I:Inv X d Z H s){n:Int}{ns:List Int}{v:V}{u:Value}(vd:VD X.K m H (.tup [.int n,.tup (ns.map D.int)]) v)(r:aI v u) :
  ∃l t q o nn f sl xs,u = .ref l/\o=({.type "tuple",f,.seq #[.int n t,.ref q] nn,sl}:Obj)/\s.heap.get? l=aw o/\IsTup s.heap q xs/\IntsAre xs.toList ns:=by
 let{l,vs,rfl,J,Q}:=vd.tups;let{a,b,rfl,O,vb}:=G9 Q;clear Q;cases O.ints;let{q,ws,rfl,k,B}:=vb.tups;let Y:=cL B;subst Y;cases r;let{_,L,U,o,h1,h2,nn,h,h4}:=I.hok l _ J;let{x,y,rfl,r1,r2}:=xX U;let{E,rfl}:=r1;cases r2;let{xs,C,T,_}:=I.tuple (.of k);let{cls,f,g,sl}:=o;simp! at h2 h;subst h2 h;exact{l,E,q,_,nn,f,sl,xs.toArray,rfl,rfl,h1,T,by simpa using bI C}
def Nx(hu:X.A.units+64 < cLine)(hc:X.calm=aN)(hg:Gl X "min")(hm:X.mg "min" = aD)(Z:(("min" : Str) == ("__debug__" : Str))=aS)(ha:PA X [e] t)(he:Za2 [e] X.env=(aS,eval e X.env)::Za2 [] X.env) :
  PE X (.Call (.Name "min" p) [e] [{aw "default",.Constant .none j c,kp}] pos) (tCB (r1 (rSq X.K pB)) t):=by
 intro g s σ H Q I h;calc Zbd (eV I hg hm WK ?_ (by decide) Z);calc callWith_kw (thn (ha pos g s σ H _ I h) λus s1 ⟨vs,H1,I1,r,q1⟩=>?_) (by rw[he];rfl) (by rw[he];rfl) rfl rfl;calc thn (xZ (nm:=aw "default") (kpos:=kp) (Bx (X:=X) (j:=j) (pos:=c)) BP pos g s1 σ H1 _ I1 (show ci (tC .non) jF σ H1 (λzs k=>zs=[.non]/\k=H1) from ⟨rfl,rfl⟩)) λks s2 ⟨zs,k,B,rz,ez,eH⟩=>?_;subst ez eH;let{u,rfl,ru}:=cF rz;cases ru;let{_,rfl,m,S,tu,n,a,ws,d,S',R,rfl,Y,vd,T,q}:=dq q1;let{u',rfl,ru'}:=cF r;cases ru';delta pB at T;split at T
 .rename_i J hw;cases T;let{lw,at_}:=yy hw;let Y:SqL X.K k a ws:=Y;let{f,rv,pl,hz}:=B.list Y;let ld:=vd.length;let lr:=rv.length
  let there:∀ (i:Nat) v,f.toArray[i]?=aw v->∃x d,n[i]?=aw d/\J[i]?=aw x/\d = .tup [.int x.1,.tup (x.2.map D.int)]/\∃y,ws[i]?=aw y/\VD X.K m k d y/\aI y v:=λi v o=>by
   let o:f[i]?=aw v:=by simpa using o
   let hi:i < n.length:=by let:=(Zb.mp o).1;lia
   let{y,L,vy}:=vd.get (gEG hi);let{v',C,ry}:=rv.get L;rw[o]at C;cases C;let{x,O,ex}:=at_ i _ (gEG hi);exact{x,_,gEG hi,O,ex,y,L,vy,ry}
  refine Dj (bt:=nS J) (B.ok.hd hc) pl.isList ?_ (λE v h' tk' o hk=>?_) (λE h' tk' hk=>?_)
  .intro i j vi vj s3 Q3 E3 kp pi pj hq;let{x,d1,l,O,rfl,y1,_,U,r1}:=there i vi pi;let{y,d2,hd2,L,rfl,y2,_,v2,r2}:=there j vj pj;let{l1,t1,p1,o1,n1,dd1,sl1,xs1,rfl,rfl,g1,tp1,i1}:=qk B U r1;let{l2,t2,p2,o2,n2,dd2,sl2,xs2,rfl,rfl,g2,tp2,i2}:=qk B v2 r2
   let e:nS J i j=lb x y:=by
    delta nS;rw[Z8,Z8,O,L];rfl
   rw[e]at hq
   exact ZaV (op:=.Lt) {_,kp _ _ g1,rfl} {_,kp _ _ g2,rfl} VG W5 (W0 _ _) (pA l1 l2 x.1 y.1 t1 t2 p1 p2 n1 n2 dd1 dd2 sl1 sl2 x.2 y.2)
    {kp _ _ g1,kp _ _ g2,{xs1,xs2,tp1.keeps kp,tp2.keeps kp,i1,i2},(show X.A.units+1+1 < cLine by lia),show Value.bool (lb x y)≠Value.notImplemented/\Q3 (.bool (lb x y)) s3 from {(λz=>nomatch z),hq}} (show X.A.units+1 < cLine by lia)
  .let hn:0 < n.length:=by let:f.toArray.size=f.length:=Zk;lia
   let{x,d1,l,O,ed,y1,_,U,r1}:=there _ v o;let e:f.toArray.size=n.length:=by rw[Zk];lia
   rw[e]at l;calc{y1,k,B.kept hk,r1,?_};rw[show n.getD (argBest (nS J) (n.length - 1)) .non=d1 by rw[Z8,l];rfl]at q;exact q m k _ (Aft.refl R) U
  .let en:n=[]:=Yk.mp (by rw[Zk]at E;lia);subst en;exact{.non,k,B.kept hk,rfl,q m k _ (Aft.refl R) nt}
 .cases T
end
end Ev
namespace L2
open PySem PySem.Spec PyProof.Rows
abbrev Itd(hi:Int)(n:Nat):It:={λi _=>i < n,λi H x h=>h=H/\x = .int (hi - i),λi _=>n<=i}
def Aw{P:Program}{w:World}{K:V5}{tg:Expr}(it:Addr)(lo:Int)(n:Nat):Turn P w K tg (Itd lo n) [it] it (λi h=>VN h it (lo+(i:Nat) * (-1)) ((n:Int) - (i:Nat)) (-1)) where
 mem:=by simp
 obj:=λi h st b hb=>by
  let e:b=it:=by simpa using hb
  subst e
  exact⟨_,st,λv z=>by
   let Z:Data.fields _=Data.cell v:=z;cases Z⟩
 keep:=λi h d st k=>k it (by simp) _ st
 item:=by
  intro X j l u L i p s O H E I f st y;subst j l u;let{g,J,Y,C,q,B}:=f it (by simp);let W:=Walks.range (prog:=X.prog) (w:=X.w) (I.ok.hd L) it lo (-1) n;calc W.item i s _ _ y st λv d T U c kk=>?_;let{t,rfl}:=U;let Q:Inv X p O H {s with heap:=d,toks:=T}:=I.turned (λb o hb e=>kk b o (by simpa using hb) e) g J C q B;refine{_,rfl,xV (s:={s with heap:=d,toks:=T}) (n := "range_iterator") c rfl rfl (by decide) {.int (lo - i),H,Q,{t,?_},⟨rfl,rfl⟩,c,λb hb=>(f b hb).1}}
  congr 1
  omega
 done:=by
  intro X j l u L i p s O H E I f st y;subst j l u;let{g,J,Y,C,q,B}:=f it (by simp);exact ZbC (I.ok.hd L) st (by let:n<=i:=y;omega) λd eb=>{rfl,I.turned (t':=s.toks) (λb o hb e=>eb b o hb e) g J C q B}
 self:=λ_ _ _ _ _ st h=>ZbA st h
section
variable {X:Cx} {T:Expr}
def wt{a:Int}(c:-(2 ^ 62)<=a)(h:a < 2 ^ 62):Builtin.Range.small a (-1) (-1)=aN:=by
 delta Builtin.Range.small;rw[NO];simp![Builtin.Range.rangeFitsLong,bAE,Xd,decide_eq_true_eq,beq_iff_eq,show ¬ (-1:Int) > 0 by decide,if_false];split <;> omega
def Hw{p:List (Addr×Obj)}{d:St}{H:Hp}{s:Shared}{R:It->Hp->Prop}{E:Value->Shared->Prop}{lo:Int}{t u v:Tok}{c:Nat}(I:Inv X p d H s)(h1:-(2 ^ 62)<=lo)(h2:lo < 2 ^ 62)
  (q:R (Itd lo (lo+1).toNat) H):wpAny (model X.prog X.w) X.A (pyIter (.ref s⁻¹)) (PIE X p d T R) E {s with heap:=s.heap.push {cls:=.type "range",data:=.fields #[.int lo t,.int (-1) u,.int (-1) v]},toks:=c}:=by
 calc wpAny_pyIter_range (IsRange.new ..) (wt h1 h2) ?_;let f:Inv X p d H {s with heap:=s.heap.push {cls:=.type "range",data:=.fields #[.int lo t,.int (-1) u,.int (-1) v]},toks:=c}:=I.kept λb o e=>Zc _ e
 refine⟨(s.heap.push {cls:=.type "range",data:=.fields #[.int lo t,.int (-1) u,.int (-1) v]}).objs.size,[(s.heap.push {cls:=.type "range",data:=.fields #[.int lo t,.int (-1) u,.int (-1) v]}).objs.size],_,_,H,rfl,
  f.kept (t':=c) λb o e=>Zc _ e,Aw _ lo (lo+1).toNat,?_,λb hb=>?_,q⟩
 .let h:lo+((0:Nat):Int) * (-1)=lo:=by simp
  let g:(((lo+1).toNat:Nat):Int) - ((0:Nat):Int)=Builtin.Range.rangeSize lo (-1) (-1):=by rw[NO];split <;> omega
  show VN _ _ (lo+((0:Nat):Int) * (-1)) ((((lo+1).toNat:Nat):Int) - ((0:Nat):Int)) (-1);rw[h,g];exact Zu _ rfl
 .let e:b=(s.heap.push {cls:=.type "range",data:=.fields #[.int lo t,.int (-1) u,.int (-1) v]}).objs.size:=by simpa using hb
  subst e;exact f.fpOk (Zg _) (f.hok.fresh (Zg _))
abbrev iDn(d:TA):TI:=λc H R=>d c H λv h=>∃i:Int,v=[.int i,.int (-1),.int (-1)]/\(-(2 ^ 62)<=i/\i < 2 ^ 62)/\R (Itd i (i+1).toNat) h
def R8{a b c:Expr}{l:TA}{p d:Pos}(B:Gl X "range")(y:X.mg "range" = aD)(o:PA X [a,b,c] l)(hs:Za2 [a,b,c] X.env=(aS,eval a X.env)::Za2 [b,c] X.env)(j:(backTo d (Za2 [b,c] X.env)).any (·.1)=aS) :
  PI X T (.Call (.Name "range" p) [a,b,c] [] d) (iDn l):=by
 intro g s E H R I h;calc Call_ (eV I B y boot_range (WO (thn (o d g s E H _ I h) λU Y ⟨J,O,v,r1,Q⟩=>?_) hs j));let{i,e,⟨Q,C⟩,q}:=Q;subst e;cases r1 with
 |cons r f=>
  cases f with
  |cons n f=>
   cases f with
   |cons k f=>
    cases f;let{t,rfl}:=r;let{L,rfl}:=n;let{u,rfl}:=k;exact call_range_3 (by decide) (Hw v Q C q) (.inl (PyProof.noPylong_of_log2 (by decide +kernel)))
end
end L2
namespace Ev
open PySem PySem.Spec PyProof.Rows L2
abbrev nxD(hi:Int)(n:Nat):Nxt:=λi _=>aw (if i < n then aw (.int (hi - i)) else aD)
section
variable {K:V5} {m M:List Addr} {H a:Hp} {S:Sto} {B:List Addr}
def Ny{lo:Int}{n:Nat}:IOk K B (Itd lo n) (nxD lo n) M a:=by
 intro m S H i x R;delta nxD;refine⟨λe=>?_,λd e=>?_⟩
 .split at e
  .cases e
  .show n<=i;lia
 .split at e
  .rename_i c;cases e;exact{c,λy f ⟨E,h⟩=>by subst E;subst h;exact{Aft.refl R,bv}}
  .cases e
abbrev xDn(x:XE):XI:=λf S=>bnd (x f S) λd c=>match d with
 |.int j=>if lim j=aN then aw (nxD j (j+1).toNat,c) else aD
 |_=>aD
def R9(h:tIt K B (xDn x) l H R):iDn (ci (tE K x) (ci (tC (.int (-1))) (ci (tC (.int (-1))) jF))) l H R:=by
 let{m,j,S,nx,u,E,k,p,e,q}:=h;let{d,f,n,e}:=ac e;calc{m,j,S,d,f,E,k,n,λm1 o v g vd=>?_};cases d with
 |int i=>
  dsimp! at e;split at e
  .rename_i c;cases e;exact{i,by rw[vd.ints],{(gN c).1,(gN c).2},q m1 o _ g Ny}
  .cases e
 |_=>cases e
end
end Ev
namespace L2
open PySem PySem.Spec PyProof.Rows PySem.SeqAt AutoSeq1
def Nz{g:Type}(f:Nat->g->Sem (ForInStep g))(I:Nat->g->Shared->Prop)(Q:g->Shared->Prop)(n:Nat)
  (turn:∀i b s,i < n->I i b s->wpAny M A (f i b) (λr j=>match r with |.yield B=>I (i+1) B j |.done B=>Q B j) E s)
  (fin:∀b s,I n b s->Q b s) (b:g) (h:I 0 b s):wpAny M A (forIn [0:n] b f) Q E s:=by
 rw[Std.Legacy.Range.forIn_eq_forIn_range'];refine Zbl _ (λc b s=>∃i,i<=n/\c=List.range' i (n - i)/\I i b s) _ (λx c b s ⟨i,o,e,h⟩=>?_) (λb s ⟨i,o,e,h⟩=>?_) _ _ {0,YC _,by simp[Std.Legacy.Range.size],h}
 .let d:i < n:=Nat.lt_of_not_le λz=>by rw[show n - i=0 by omega]at e;cases e
  rw[show n - i=(n - i - 1)+1 by omega,List.range'_succ]at e;cases e;calc Zbt (turn _ b s d h) (λr j k=>?_) λ_ _ l=>l;cases r with
  |done B=>exact k
  |yield B=>exact{x+1,d,by rw[show n - x - 1=n - (x+1) by omega],k}
 .let:n - i=0:=by
   cases q:n - i with
   |zero=>rfl
   |succ m=>rw[q,List.range'_succ]at e;cases e
  obtain rfl:i=n:=by omega
  exact fin b s h
def pC(l:Addr)(I:Array Value)(n:Nat)(C:Option Addr)(sl:Array (Option Value))(x:Value)(e:Value->Bool)(j:Nat)(L:j < I.size)
  (f:e I[j]=aN) (k:∀m (O:m < I.size),m < j->e I[m]=aS) :
  Meets (Builtin.«tuple.index» ⟨[.ref l,x],[]⟩)
   (λA R s=>s.heap.get? l=aw {cls:=.type "tuple",dict:=C,data:=.seq I n,slots:=sl}/\(∀y,y∈I->EqAt A.in1 s y x (e y))/\R (.ok (.ret (.int j s.toks))) {s with toks:=s.toks+1}):=
 .of_wp λprog w A R s h=>by
  let{E,g,d,T,os}:=s;let{u,J,h}:=h
  wp_walk using Zbr u,Nz _ (λi b o=>b.1=aD/\i<=j/\o=⟨E,g,d,T,os⟩) _
  case turn=>
   rintro i b o p ⟨hb,B,rfl⟩;let c:i < I.size:=by simpa using p
   rw[Array.getElem?_eq_getElem c];calc Zbf (J _ (Array.getElem_mem c) prog w _ _ ?_);by_cases q:i=j
   .subst q;rw[f]
    wp_walk
    exact⟨_,rfl,h⟩
   .rw[k i c (by omega)]
    wp_walk
    exact{rfl,by omega,rfl}
  case fin=>
   rintro b o ⟨_,v,_⟩;rw[WB]at v;omega
  case h=>exact{rfl,YC _,rfl}
section
variable {P:Program} {w:World} {A:Around} {E:Value->Shared->Prop} {s:Shared} {r:Addr} {n:Nat} {t u v:Tok}
@[inline]abbrev Lc:Nat->Value->Prop:=λi v=>∃t,v = .int (0+i * 1) t
def pD(B:A.handled=aD)(C:IsRange s.heap r 0 n 1 t u v)(j:Builtin.Range.small 0 n 1=aN)(y:Builtin.Range.rangeSize 0 n 1=n)(c:n<=2 ^ 24)
  (I:∀ (h':Heap) (T:Nat) (d:Array Value),s⁻¹<=h'.objs.size->(∀b o,s.heap.get? b=aw o->h'.get? b=aw o)->ItemsOf Lc d n->Q d.toList {s with heap:=h',toks:=T}):wpAny (model P w) A (collect (.ref r)) Q E s:=by
 delta collect;calc Zbf (wpAny_runValue (Zao F.entry_proto_collect ?_));rw[Around.under_plainId F.plain_proto_collect _];show wpAny _ A.in1 (newList [] >>= λl=>again (.builtin "list.__iadd__" ⟨[l,.ref r],[]⟩)) _ _ s;calc Zbf (Zbv ?_);calc Zby {ZaQ F.plain_list_iadd _,Zao F.entry_list_iadd ?_};rw[Around.under_plainId F.plain_list_iadd _];let q:(s.heap.push {cls:=.type "list",data:=.seq ([]:List Value).toArray}).get? s⁻¹=aw {cls:=.type "list",data:=.seq ([]:List Value).toArray}:=Zu _ rfl;show wpAny _ A.in1 (Builtin.List.listExtendWith (.ref s⁻¹) (.ref r) (.ref s⁻¹)) _ _ _;calc wpAny_extend_range (A:=A) (n:=n) (R:=λr k=>match r with |.ok (.ret v)=>wpAny (model P w) A (match v with |.ref a=>(do match (<-load a).data with |.seq xs _=>pure xs.toList |_=>Zbb "internal:collect") |_=>Zbb "internal:collect") Q E k |.ok _=>False |.error e=>E e k) (s:={s with heap:=s.heap.push {cls:=.type "list",data:=.seq ([]:List Value).toArray}}) (c₀:=0) B (Zc _ C) j y c _ _ q λh' T g J p f h=>?_;show wpAny _ A (load s⁻¹ >>= _) _ _ _;calc Zbf (wpAny_load f ?_);exact Zby (I h' T g (YX (Zt f)) (λb o e=>p b o (ZH (Zt e)) (Zc _ e)) h)
def uf(J:A.handled=aD)(p:IsRange s.heap r 0 n 1 t u v)(g:Builtin.Range.small 0 n 1=aN)(B:Builtin.Range.rangeSize 0 n 1=n)(f:n<=2 ^ 24)
  (L:∀ (h':Heap) (T:Nat) (acc:Array Value),s⁻¹<=h'.objs.size->(∀b o,s.heap.get? b=aw o->h'.get? b=aw o)->ItemsOf Lc acc n->Q (.ref h'.objs.size) {s with heap:=h'.push {cls:=.type "tuple",data:=.seq acc},toks:=T}):wpAny (model P w) A (call (.type "tuple") [.ref r]) Q E s:=by
 refine callType_codes (Q₁:=λobj c=>c.TypeIs obj "tuple"/\Q obj c) F.called_tuple (F.typeCall_tuple_1 _) F.entry_object_init ?_ λobj c h=>?_
 .calc Zap F.plain_tuple_new F.entry_tuple_new (Zbw (F.newCall_tuple_1 _) ?_);let l:=sub_tuple_self;let k:=init_tuple_lookup;let y:=madeHere_tuple;let hT:s.TypeIs (.ref r) "range" := ⟨_,p,rfl⟩;let I:=F.sub_range_tuple;let C:=λ(Q:List Value->Shared->Prop) (E:Value->Shared->Prop)=>pD (P:=P) (w:=w) (A:=A.in1.in1) (E:=E) (Q:=Q) (s:=s) (show A.in1.in1.handled=aD from J) p g B f
  wp_walk using ZbL hT,C _ _
  intro h' T acc j q d;calc Zbf (Zby ?_);show wpAny _ _ (Builtin.Tuple.tupleExact acc.toList.toArray >>= λv=>ret v) _ _ _;delta Builtin.Tuple.tupleExact;let e:acc.toList.toArray=acc:=by simp
  rw[e];calc Zbf (Zbv ?_ (by show acc.size<=sizeLine;rw[d.1,Za0];omega));exact Zby {{_,Zu _ rfl,rfl},L h' T acc j q d}
 .exact{h.1,WX obj _,object_init_meets F.called_tuple.init.lookup F.called_tuple.made (by decide) P w A.in1 _ c ⟨h.1,rfl,h.2⟩}
end
end L2
namespace Ev
open PySem PySem.Spec PyProof.Rows L2
section
variable {X:Cx} {K:V5} {m:List Addr} {H:Hp} {S:Sto}
abbrev wu(d:D)(as:List D)(S:Sto):Option (D×Sto):=match d,as with
 | .tup ds,[.int x]=>(match dU ds with
  |some ns=>if x∈ns then aw (.int (ns.idxOf x:Nat),S) else aD
  | none=>aD)
 |_,_=>aD
def Hx:MtR X "tuple.index" (rM X.K wu):=by
 intro B s σ H x xs v us Q I O rs h;let{m,S,a,as,d,S',R,Z,L,e,q}:=h;delta wu at e;split at e
 .rename_i ds z;cases k:dU ds with
  |none=>rw[k]at e;cases e
  |some ns=>
   rw[k]at e;dsimp! at e;split at e
   .rename_i hm;cases e;let{p,ws,rfl,U,g}:=Z.tups;let{y,rfl,vy}:=Ha L;let J:=dW k;subst J;let ew:=cL g;subst ew;cases vy.ints;cases O;let{u,rfl,Y}:=cF rs;let{c,r,⟨⟨cls,dd,l,sl⟩,e,C,n,hd⟩,hz}:=I.tuple (SqT.of (K:=X.K) U);simp! at C hd;subst C hd;let o:c.length=ns.length:=by rw[<-r.length];simp
    let f:ns.idxOf z < ns.length:=YV.mpr hm
    let at_:∀ (j:Nat) (h1:j < c.toArray.size) (h2:j < ns.length),eqU (.int z) c.toArray[j]=(ns[j] == z):=λj h1 h2=>by
     let{u,T,t,rt}:=r.get (i:=j) (x:=.int ns[j]) (by rw[Zo,gEG h2];rfl)
     let:c.toArray[j]=u:=by
      let:=Zb.mp T
      simpa using this.2
     rw[this,rt];rfl
    refine Zal VE ⟨_,e,rfl⟩ F.entry_tuple_index (F.args_tuple_index_2 _ _) (pC p c.toArray n dd sl u (eqU (.int z)) (ns.idxOf z) (by simpa[o] using f) ?_ λj h1 h2=>?_) {e,λw E=>cj Y rfl r (by simp[b6]) w (by simpa using E),?_}
    .rw[at_ _ (by simpa[o] using f) f,XY f];simp
    .rw[at_ _ h1 (WA h2 f)];let:=List.not_of_lt_findIdx (p:=(· == z)) (xs:=ns) h2
     simpa using this
    .exact{.int _,H,I.tok _,⟨_,rfl⟩,q m H _ (Aft.refl R) bv}
   .cases e
 .cases e
def ug(hc:X.calm=aN):aZ X (.type "tuple") (λxs H Q=>∃ (p:Addr) (n:Nat),xs=[.ref p]/\H p=aw (.rng 0 n)/\n<=1000/\∀l,H l=aD->Q (.ref l) (upd H l (.tup ((Zm n).map λ(i:Nat)=>V.int i)))):=by
 intro L s σ H xs us Q I r h;let{p,n,rfl,hp,hn,q}:=h;let{u,rfl,ru}:=cF r;cases ru;let{t,u,v,e}:=(show bp X.prog X.w H s.heap p (.rng 0 n) from I.hok p _ hp);let J:Builtin.Range.small 0 n 1=aN:=small_one (by lia) (by lia) (by lia) (by lia);refine uf (n:=n) (I.ok.hd hc) e J (by rw[ZaT];split <;> lia) (by lia) λC T d f O c=>?_;calc{.ref C.objs.size,_,I.laid (t':=T) (a:=C.objs.size) (o:=.tup ((Zm n).map λ(i:Nat)=>V.int i)) (λb o e=>Zc _ (O b o e)) f ?_,rfl,q _ (I.hok.fresh f)};refine{by rw[Za,ZI,Za0];lia,d.toList,?_,by simpa using qO.new C d}
 let go:∀ (m:Nat) (k:Nat) (l:List Value),l.length=m->(∀j x,l[j]?=aw x->∃T,x=Value.int (((k+j:Nat):Nat):Int) T)->aP ((List.range' k m).map λ(i:Nat)=>V.int i) l:=by
  intro m
  induction m with
  |zero=>intro k l g _;cases l with |nil=>exact .nil |cons _ _=>cases g
  |succ m Y=>
   intro k l g B;cases l with
   |nil=>cases g
   |cons x l=>
    rw[List.range'_succ,Zw];let{t,e}:=B 0 x rfl;calc .cons {t,by simpa using e} (Y (k+1) l (by simpa using g) λj y U=>?_);let{t',Z}:=B (j+1) y (by simpa using U);exact{t',by rw[Z,show((k+(j+1):Nat):Int)=((k+1+j:Nat):Int) from by lia]}
 rw[List.range_eq_range'];calc go n 0 d.toList (by simpa using c.1) λj x B=>?_;let{E,e}:=c.2 j x (by simpa using B);exact{E,by rw[e,show(0:Int)+(j:Nat) * 1=((0+j:Nat):Int) from by lia]}
abbrev Dm(x:XE):XE:=λf S=>bnd (x f S) λd c=>match d with
 |.int i=>if 0<=i/\i<=1000 then aw (.tup ((Zm i.toNat).map λj=>.int (Int.ofNat j)),c) else aD
 |_=>aD
def Hy(f:List Nat):VDs K m H (f.map λj=>D.int (Int.ofNat j)) (f.map λ(j:Nat)=>V.int j):=by
 induction f with
 |nil=>rw[Yh,Yh,VDs]
 |cons i l I=>rw[Zw,Zw,VDs];exact⟨_,_,rfl,bv,I⟩
def Hz(h:tE K (Dm x) B H Q):tE K x B H λv c=>∃i:Nat,v = .int i/\i<=1000/\∀p,c p=aD->∀l,upd c p (.rng 0 i) l=aD->Q (.ref l) (upd (upd c p (.rng 0 i)) l (.tup ((Zm i).map λ(j:Nat)=>V.int j))):=by
 let{m,y,S,L,o,E,R,e,q}:=h;let{d,I,C,e}:=ac e;cases d with
 |int i=>
  dsimp! at e;split at e
  .rename_i J;cases e;calc{m,y,S,.int i,_,E,R,C,λm1 c v f vd=>{i.toNat,by rw[vd.ints];congr 1;lia,by lia,λp k l n=>?_}};let g:Aft K m1 c o m1 (upd c p (.rng 0 i.toNat)):={Ext.beside f.rel k _,f.rel.beside k _};let u:Aft K m1 (upd c p (.rng 0 i.toNat)) o m1 (upd (upd c p (.rng 0 i.toNat)) l (.tup ((Zm i.toNat).map λ(j:Nat)=>V.int j))):={Ext.beside g.rel n _,g.rel.beside n _};exact q m1 _ _ (f.trans (g.trans u)) (kC aG (Hy _))
  .cases e
 |_=>cases e
end
end Ev
namespace Ev
open PySem PySem.Spec PyProof.Rows L2
mutual
inductive CE where |non |bl (b:Bool) |int (i:Int) |str (x:Str) |v (i:Nat) |con (k:Nat)(v:Int) |tup (es:List CE) |lst (es:List CE) |dic0 |dic1 (i:Int)(v:Nat) |b (o:BOp)(a b:CE) |neg (a:CE) |m (o:COp)(a b:CE) |h (o p:COp)(a b c:CE) |d (a b:CE) |or (a b:CE) |n (a:CE) |ite (c a b:CE) |x (a b:CE) |sl (a:CE)(lo hi:Option CE) |c (f:Nat)(es:List CE) |s (t:Ty)(a:CE) |e (a:CE) |all (a:CE) |t (a:CE) |listOf (a:CE) |l (a:CE) |srt (a:CE) |w (a:CE) |y (a:CE)(c:Int) |z (a:CE) |dct0 |rev (a:CE) |mx (a b:CE) |mn (a b:CE) |rep (a:CE) |o (own:List Str)(elt:CE)(cls:List Cl) |app (o e:CE) |pop (o:CE) |q (o e:CE) |cnt (o e:CE) |idx (o e:CE) |u (a:CE)
inductive CI where
 |p (a:CE) |r1 (a:CE) |r2 (a b:CE) |dn (a:CE) |en (a:CE) |zp (a b:CE)
inductive Cl where
 |mk (tg:Tg) (it:CI) (cond:Option CE)
end
abbrev ag:CE->Bool
 |.lst _=>aN |.o _ _ _=>aN |.listOf _=>aN |.l _=>aN |.srt _=>aN
 |_=>aS
abbrev LF:Nat:=1000000
abbrev xNo{c:Type}:Rho->Sto->Option (c×Sto):=λ_ _=>aD
abbrev nT(x:XE):XA:=λf S=>bnd (x f S) λd c=>(aq d c).map λr=>(r.2,c)
abbrev cU(T:Bool)(d:List D):Option (List D):=if T=aS then CU T d else Aj d
abbrev Ax(f:Bool->List D->Option (List D))(x:XA):XA:=λd S=>bnd (x d S) λg c=>(f aS g).map λE=>(E,c)
abbrev Ay(f:Bool->List D->Option (List D))(x:XE):XA:=λg S=>bnd (x g S) λd c=>match aq d c with
 |some r=>(f r.1 r.2).map λE=>(E,c)
 |none=>aD
abbrev pE(i:Int):Key:=Sum.inl i
abbrev Az(x:XE):XA:=λf S=>bnd (x f S) λd c=>match d with
 |.int i=>if 0<=i/\i<=1000 then aw ((Zm i.toNat).map λj=>.int (Int.ofNat j),c) else aD
 |_=>aD
abbrev Dn:XE:=λ_ S=>aw (.ref S.length,S++[.dct [] []])
abbrev Dp:XE:=λ_ S=>aw (.ref S.length,S++[.dic [] []])
abbrev uh(i:Int)(v:Nat):XE:=λc S=>match c[v]? with
 |some (aw d)=>aw (.ref S.length,S++[.dic [pE i] [d]])
 |_=>aD
abbrev cnd(t:CE->XT):Option CE->XA->XA
 |some c,x=>C7 (t c) x
 |none,x=>x
abbrev opt(t:CE->XE):Option CE->XO
 |some l=>v0 (t l)
 |none=>vZ
mutual
noncomputable def evE(C:Calls)(g:Nat->Nat):Nat->CE->XE
 |0,_=>xNo
 |n+1,e=>match e with
  |.non=>xC .non
  |.bl b=>xC (.bl b)
  |.int i=>xC (.int i)
  |.str x=>xC (.str x)
  |.v i=>zZ i
  |.con _ v=>xC (.int v)
  |.tup es=>nq nv (evA C g n es)
  |.lst es=>eY (qc (evA C g n es))
  |.dic0=>Dp
  |.dic1 i j=>uh i j
  |.b o a b=>tR (bU o) (evE C g n a) (evE C g n b)
  |.neg a=>xUn Np (evE C g n a)
  |.m o a b=>tR (am o) (evE C g n a) (evE C g n b)
  |.h o p a b c=>As (am o) (am p) (evE C g n a) (evE C g n b) (evE C g n c)
  |.d a b=>Da (evE C g n a) (evE C g n b)
  |.or a b=>xOr (evE C g n a) (evE C g n b)
  |.n a=>xUn Ar (evE C g n a)
  |.ite c a b=>Nq (evT C g n c) (evE C g n a) (evE C g n b)
  |.x a b=>if ag a=aN then vW (dr C g n a) (evE C g n b) else tR ixS (evE C g n a) (evE C g n b)
  |.sl a lo hi=>xSl (evE C g n a) (opt (evE C g n) lo) (opt (evE C g n) hi)
  |.c f es=>ud (C f) (g f) (evA C g n es)
  |.s t a=>xUn (nJ t) (evE C g n a)
  |.e a=>if ag a=aN then rB dS (dr C g n a) else rC dS (evE C g n a)
  |.all a=>if ag a=aN then rB lW (dr C g n a) else rC lW (evE C g n a)
  |.t a=>if ag a=aN then rB df (dr C g n a) else rC df (evE C g n a)
  |.listOf a=>eY (if ag a=aN then dr C g n a else nT (evE C g n a))
  |.l a=>eY (Az (evE C g n a))
  |.srt a=>eY (if ag a=aN then Ax cU (dr C g n a) else Ay cU (evE C g n a))
  |.w a=>if ag a=aN then rB pw (dr C g n a) else rC pw (evE C g n a)
  |.y a c=>if ag a=aN then rB (gq c) (dr C g n a) else rC (gq c) (evE C g n a)
  |.z a=>if ag a=aN then rB pB (dr C g n a) else rC pB (evE C g n a)
  |.dct0=>Dn
  |.rev a=>xUn t0 (evE C g n a)
  |.mx a b=>nq (two CO) (evA C g n [a,b])
  |.mn a b=>nq (two CP) (evA C g n [a,b])
  |.rep a=>xUn k9 (evE C g n a)
  | .o own elt cls=>eY (match cls with
   |[]=>xNo
   | ⟨tg,it,cond⟩::rest=>nQ own.length (evI C g n it) tg (cnd (evT C g n) cond (iS C g n elt rest)) LF)
  |.app o a=>t5 eM t6 (evE C g n o) (evA C g n [a])
  |.pop o=>t5 eM wk (evE C g n o) z9
  |.q o a=>t5 eM jf (evE C g n o) (evA C g n [a])
  |.cnt o a=>t5 (λd _=>isTup d) wm (evE C g n o) (evA C g n [a])
  |.idx o a=>t5 (λd _=>isTup d) wu (evE C g n o) (evA C g n [a])
  |.u a=>Dm (evE C g n a)
noncomputable def evA(C:Calls)(c:Nat->Nat):Nat->List CE->XA
 |0,_=>xNo
 |n+1,es=>match es with
  |[]=>z9
  |e::es=>yn (evE C c n e) (evA C c n es)
noncomputable def dr(C:Calls)(c:Nat->Nat):Nat->CE->XA
 |0,_=>xNo
 |n+1,e=>match e with
  |.lst es=>qc (evA C c n es)
  |.listOf a=>if ag a=aN then dr C c n a else nT (evE C c n a)
  |.l a=>Az (evE C c n a)
  |.srt a=>if ag a=aN then Ax cU (dr C c n a) else Ay cU (evE C c n a)
  |.o own elt cls=>match cls with
   |[]=>xNo
   |⟨tg,it,cond⟩::rest=>nQ own.length (evI C c n it) tg (cnd (evT C c n) cond (iS C c n elt rest)) LF
  |_=>xNo
noncomputable def iS(C:Calls)(c:Nat->Nat):Nat->CE->List Cl->XA
 |0,_,_=>xNo
 |n+1,elt,cls=>match cls with
  |[]=>K9 (evE C c n elt)
  |⟨tg,it,cond⟩::rest=>kH (evI C c n it) tg (cnd (evT C c n) cond (iS C c n elt rest)) LF
noncomputable def evI(C:Calls)(c:Nat->Nat):Nat->CI->XI
 |0,_=>xNo
 |n+1,it=>match it with
  |.p a=>if ag a=aN then xIT (dr C c n a) else xIV (evE C c n a)
  |.r1 a=>xR1 (evE C c n a)
  |.dn a=>xDn (evE C c n a)
  |.r2 a b=>xR2 (evE C c n a) (evE C c n b)
  |.zp a b=>Ng (evE C c n a) (evE C c n b)
  |.en a=>xEV (evE C c n a)
noncomputable def evT(C:Calls)(d:Nat->Nat):Nat->CE->XT
 |0,_=>xNo
 |n+1,e=>match e with
  |.m o a b=>xB (tR (am o) (evE C d n a) (evE C d n b))
  |.h o p a b c=>xB (As (am o) (am p) (evE C d n a) (evE C d n b) (evE C d n c))
  |.d a b=>Dd (evT C d n a) (evT C d n b)
  |.or a b=>Nu (evT C d n a) (evT C d n b)
  |.n a=>De (evT C d n a)
  |.ite _ _ _=>xNo
  |e=>G8 (evE C d n e)
end
structure Tab where
 con:List (Str×Int)
 fns:List (Str×Nat)
structure Blk where
 sc:Scope
 fs:Option Scope
 N:List Str
abbrev Blk.glo(b:Blk)(x:Str):Bool:=b.sc.names.lookup x == aw .globalImplicit && !(x == ("__debug__" : Str))
abbrev Blk.vis(b:Blk)(x:Str):Bool:=(match b.sc.names.lookup x with
 |some .local=>aN
 |some .cell=>aN
 |some .free=>aN
 | _=>aS) && !(x == ("__debug__" : Str)) && !(x == ("__classdict__" : Str))
abbrev Blk.own(b:Blk)(x:Str):Bool:=match b.sc.names.lookup x with
 |some .local=>aN
 | some .cell=>(match b.fs with
  |none=>aN
  | some sc=>sc.names.lookup x == aw .cell)
 |_=>aS
def bN{P:Prop}[Decidable P]{f:P->Bool}(h:(if p:P then f p else aS)=aN):∃p,f p=aN:=by
 by_cases p:P
 .rw[dif_pos p]at h;exact⟨p,h⟩
 .rw[dif_neg p]at h;cases h
def an2{a b:Bool}(h:(a && b)=aN):a=aN/\b=aN:=by cases a;cases h;exact⟨rfl,h⟩
def an3{a b c:Bool}(h:(a && b && c)=aN):a=aN/\b=aN/\c=aN:={(an2 (an2 h).1).1,(an2 (an2 h).1).2,(an2 h).2}
def an4{a b c d:Bool}(h:(a && b && c && d)=aN):a=aN/\b=aN/\c=aN/\d=aN:={(an3 (an2 h).1).1,(an3 (an2 h).1).2.1,(an3 (an2 h).1).2.2,(an2 h).2}
def an5{a b c d e:Bool}(h:(a && b && c && d && e)=aN):a=aN/\b=aN/\c=aN/\d=aN/\e=aN:={(an4 (an2 h).1).1,(an4 (an2 h).1).2.1,(an4 (an2 h).1).2.2.1,(an4 (an2 h).1).2.2.2,(an2 h).2}
def an6{a b c d e f:Bool}(h:(a && b && c && d && e && f)=aN):a=aN/\b=aN/\c=aN/\d=aN/\e=aN/\f=aN:={(an5 (an2 h).1).1,(an5 (an2 h).1).2.1,(an5 (an2 h).1).2.2.1,(an5 (an2 h).1).2.2.2.1,(an5 (an2 h).1).2.2.2.2,(an2 h).2}
abbrev l1{c:Type}(l:List c)(k:c->Bool):Bool:=match l with
 |[]=>aS
 |x::t=>t.isEmpty && k x
abbrev lC{c:Type}(l:List c)(k:c->List c->Bool):Bool:=match l with
 |[]=>aS
 |x::t=>k x t
def cb{c:Type}{l:List c}{k:c->List c->Bool}(h:lC l k=aN):∃x t,l=x::t/\k x t=aN:=by
 cases l with
 |nil=>cases h
 |cons x t=>exact⟨x,t,rfl,h⟩
def cu{c:Type}{l:List c}(h:l.isEmpty=aN):l=[]:=by cases l;rfl;cases h
def cv{c:Type}{l:List c}{k:c->Bool}(h:l1 l k=aN):∃x,l=[x]/\k x=aN:=by
 cases l with
 |nil=>cases h
 |cons x t=>let{h1,h2}:=an2 h;cases cu h1;exact⟨x,rfl,h2⟩
abbrev aF(e:Expr):Bool:=!(e.ctorIdx == 22 || e.ctorIdx == 26 || e.ctorIdx == 7)
abbrev rP(e:Expr)(k:BoolOp->List Expr->Pos->Bool):Bool:=if h:e.ctorIdx=0 then @Expr.BoolOp.elim (λ_=>Bool) e h k else aS
def ql{e:Expr}{k:BoolOp->List Expr->Pos->Bool}(h:rP e k=aN):∃c d X,e = .BoolOp c d X/\k c d X=aN:=by
 let{h1,h}:=bN h;exact Expr.BoolOp.elim (motive_1:=λe=>∀f,@Expr.BoolOp.elim (λ_=>Bool) e f k=aN->∃c d X,e = .BoolOp c d X/\k c d X=aN) e h1 (λc d X _ g=>⟨c,d,X,rfl,g⟩) h1 h
abbrev Dq(e:Expr)(k:Expr->VP->Expr->Pos->Bool):Bool:=if h:e.ctorIdx=2 then @Expr.BinOp.elim (λ_=>Bool) e h k else aS
def Dt{e:Expr}{k:Expr->VP->Expr->Pos->Bool}(h:Dq e k=aN):∃d f c X,e = .BinOp d f c X/\k d f c X=aN:=by
 let{h1,h}:=bN h;exact Expr.BinOp.elim (motive_1:=λe=>∀g,@Expr.BinOp.elim (λ_=>Bool) e g k=aN->∃d f c X,e = .BinOp d f c X/\k d f c X=aN) e h1 (λd f c X _ j=>⟨d,f,c,X,rfl,j⟩) h1 h
abbrev jT(e:Expr)(k:UnaryOp->Expr->Pos->Bool):Bool:=if h:e.ctorIdx=3 then @Expr.UnaryOp.elim (λ_=>Bool) e h k else aS
def nU{e:Expr}{k:UnaryOp->Expr->Pos->Bool}(h:jT e k=aN):∃c d X,e = .UnaryOp c d X/\k c d X=aN:=by
 let{h1,h}:=bN h;exact Expr.UnaryOp.elim (motive_1:=λe=>∀f,@Expr.UnaryOp.elim (λ_=>Bool) e f k=aN->∃c d X,e = .UnaryOp c d X/\k c d X=aN) e h1 (λc d X _ g=>⟨c,d,X,rfl,g⟩) h1 h
abbrev Du(e:Expr)(k:Expr->Expr->Expr->Pos->Bool):Bool:=if h:e.ctorIdx=5 then @Expr.IfExp.elim (λ_=>Bool) e h k else aS
def Dv{e:Expr}{k:Expr->Expr->Expr->Pos->Bool}(h:Du e k=aN):∃d f c X,e = .IfExp d f c X/\k d f c X=aN:=by
 let{h1,h}:=bN h;exact Expr.IfExp.elim (motive_1:=λe=>∀g,@Expr.IfExp.elim (λ_=>Bool) e g k=aN->∃d f c X,e = .IfExp d f c X/\k d f c X=aN) e h1 (λd f c X _ j=>⟨d,f,c,X,rfl,j⟩) h1 h
abbrev Dx(e:Expr)(k:List (Option Expr)->List Expr->Pos->Bool):Bool:=if h:e.ctorIdx=6 then @Expr.Dict.elim (λ_=>Bool) e h k else aS
def yA{e:Expr}{k:List (Option Expr)->List Expr->Pos->Bool}(h:Dx e k=aN):∃c d X,e = .Dict c d X/\k c d X=aN:=by
 let{h1,h}:=bN h;exact Expr.Dict.elim (motive_1:=λe=>∀f,@Expr.Dict.elim (λ_=>Bool) e f k=aN->∃c d X,e = .Dict c d X/\k c d X=aN) e h1 (λc d X _ g=>⟨c,d,X,rfl,g⟩) h1 h
abbrev kI(e:Expr)(k:Expr->List WV->Scope->Pos->Bool):Bool:=if h:e.ctorIdx=8 then @Expr.ListComp.elim (λ_=>Bool) e h k else aS
def lc{e:Expr}{k:Expr->List WV->Scope->Pos->Bool}(h:kI e k=aN):∃d f c X,e = .ListComp d f c X/\k d f c X=aN:=by
 let{h1,h}:=bN h;exact Expr.ListComp.elim (motive_1:=λe=>∀g,@Expr.ListComp.elim (λ_=>Bool) e g k=aN->∃d f c X,e = .ListComp d f c X/\k d f c X=aN) e h1 (λd f c X _ j=>⟨d,f,c,X,rfl,j⟩) h1 h
abbrev nV(e:Expr)(k:Expr->List CmpOp->List Expr->Pos->Bool):Bool:=if h:e.ctorIdx=15 then @Expr.Compare.elim (λ_=>Bool) e h k else aS
def nW{e:Expr}{k:Expr->List CmpOp->List Expr->Pos->Bool}(h:nV e k=aN):∃d f c X,e = .Compare d f c X/\k d f c X=aN:=by
 let{h1,h}:=bN h;exact Expr.Compare.elim (motive_1:=λe=>∀g,@Expr.Compare.elim (λ_=>Bool) e g k=aN->∃d f c X,e = .Compare d f c X/\k d f c X=aN) e h1 (λd f c X _ j=>⟨d,f,c,X,rfl,j⟩) h1 h
abbrev ui(e:Expr)(k:Expr->List Expr->List Keyword->Pos->Bool):Bool:=if h:e.ctorIdx=16 then @Expr.Call.elim (λ_=>Bool) e h k else aS
def rQ{e:Expr}{k:Expr->List Expr->List Keyword->Pos->Bool}(h:ui e k=aN):∃d f c X,e = .Call d f c X/\k d f c X=aN:=by
 let{h1,h}:=bN h;exact Expr.Call.elim (motive_1:=λe=>∀g,@Expr.Call.elim (λ_=>Bool) e g k=aN->∃d f c X,e = .Call d f c X/\k d f c X=aN) e h1 (λd f c X _ j=>⟨d,f,c,X,rfl,j⟩) h1 h
abbrev dG(e:Expr)(k:Const->Nat->Pos->Bool):Bool:=if h:e.ctorIdx=19 then @Expr.Constant.elim (λ_=>Bool) e h k else aS
def cV{e:Expr}{k:Const->Nat->Pos->Bool}(h:dG e k=aN):∃c d X,e = .Constant c d X/\k c d X=aN:=by
 let{h1,h}:=bN h;exact Expr.Constant.elim (motive_1:=λe=>∀f,@Expr.Constant.elim (λ_=>Bool) e f k=aN->∃c d X,e = .Constant c d X/\k c d X=aN) e h1 (λc d X _ g=>⟨c,d,X,rfl,g⟩) h1 h
abbrev nX(e:Expr)(k:Expr->Str->Pos->Bool):Bool:=if h:e.ctorIdx=20 then @Expr.Attribute.elim (λ_=>Bool) e h k else aS
def rR{e:Expr}{k:Expr->Str->Pos->Bool}(h:nX e k=aN):∃c d X,e = .Attribute c d X/\k c d X=aN:=by
 let{h1,h}:=bN h;exact Expr.Attribute.elim (motive_1:=λe=>∀f,@Expr.Attribute.elim (λ_=>Bool) e f k=aN->∃c d X,e = .Attribute c d X/\k c d X=aN) e h1 (λc d X _ g=>⟨c,d,X,rfl,g⟩) h1 h
abbrev dX(e:Expr)(k:Expr->Expr->Pos->Bool):Bool:=if h:e.ctorIdx=21 then @Expr.Subscript.elim (λ_=>Bool) e h k else aS
def dz{e:Expr}{k:Expr->Expr->Pos->Bool}(h:dX e k=aN):∃c d X,e = .Subscript c d X/\k c d X=aN:=by
 let{h1,h}:=bN h;exact Expr.Subscript.elim (motive_1:=λe=>∀f,@Expr.Subscript.elim (λ_=>Bool) e f k=aN->∃c d X,e = .Subscript c d X/\k c d X=aN) e h1 (λc d X _ g=>⟨c,d,X,rfl,g⟩) h1 h
abbrev Dy(e:Expr)(k:Str->Pos->Bool):Bool:=if h:e.ctorIdx=23 then @Expr.Name.elim (λ_=>Bool) e h k else aS
def yB{e:Expr}{k:Str->Pos->Bool}(h:Dy e k=aN):∃X c,e = .Name X c/\k X c=aN:=by
 let{h1,h}:=bN h;exact Expr.Name.elim (motive_1:=λe=>∀d,@Expr.Name.elim (λ_=>Bool) e d k=aN->∃X c,e = .Name X c/\k X c=aN) e h1 (λX c _ f=>⟨X,c,rfl,f⟩) h1 h
abbrev Lg(e:Expr)(k:List Expr->Pos->Bool):Bool:=if h:e.ctorIdx=24 then @Expr.List.elim (λ_=>Bool) e h k else aS
def HA{e:Expr}{k:List Expr->Pos->Bool}(h:Lg e k=aN):∃X c,e = .List X c/\k X c=aN:=by
 let{h1,h}:=bN h;exact Expr.List.elim (motive_1:=λe=>∀d,@Expr.List.elim (λ_=>Bool) e d k=aN->∃X c,e = .List X c/\k X c=aN) e h1 (λX c _ f=>⟨X,c,rfl,f⟩) h1 h
abbrev Dz(e:Expr)(k:List Expr->Nat->Pos->Bool):Bool:=if h:e.ctorIdx=25 then @Expr.Tuple.elim (λ_=>Bool) e h k else aS
def DA{e:Expr}{k:List Expr->Nat->Pos->Bool}(h:Dz e k=aN):∃c d X,e = .Tuple c d X/\k c d X=aN:=by
 let{h1,h}:=bN h;exact Expr.Tuple.elim (motive_1:=λe=>∀f,@Expr.Tuple.elim (λ_=>Bool) e f k=aN->∃c d X,e = .Tuple c d X/\k c d X=aN) e h1 (λc d X _ g=>⟨c,d,X,rfl,g⟩) h1 h
abbrev wx(e:Expr)(k:Option Expr->Option Expr->Option Expr->Pos->Bool):Bool:=if h:e.ctorIdx=26 then @Expr.Slice.elim (λ_=>Bool) e h k else aS
def uj{e:Expr}{k:Option Expr->Option Expr->Option Expr->Pos->Bool}(h:wx e k=aN):∃d f c X,e = .Slice d f c X/\k d f c X=aN:=by
 let{h1,h}:=bN h;exact Expr.Slice.elim (motive_1:=λe=>∀g,@Expr.Slice.elim (λ_=>Bool) e g k=aN->∃d f c X,e = .Slice d f c X/\k d f c X=aN) e h1 (λd f c X _ j=>⟨d,f,c,X,rfl,j⟩) h1 h
abbrev wy(e:Expr):Bool:=!(e.ctorIdx == 22 || ui e λf E k _=>f.ctorIdx == 23 && E.isEmpty && k.isEmpty)
abbrev HB(e:Expr):Bool:=!(e.ctorIdx == 0 || e.ctorIdx == 5 || e.ctorIdx == 15 || jT e λo _ _=>decide (o = .Not))
abbrev nY(own N:List Str):List Nat:=(Zm N.length).filter λi=>match N[i]? with
 |some x=>own.contains x
 |none=>aS
abbrev Blk.inner(b:Blk)(own:List Str)(c:Scope):Blk:={gF c b.sc,aw c,dM (nY own b.N) b.N++own}
abbrev DB(e:Expr):Option (Str×Pos):=if h:e.ctorIdx=23 then aw (@Expr.Name.elim (λ_=>Str×Pos) e h λx p=>(x,p)) else aD
abbrev AA(e:Expr):Option (List Expr×Nat×Pos):=if h:e.ctorIdx=25 then aw (@Expr.Tuple.elim (λ_=>List Expr×Nat×Pos) e h λE k p=>(E,k,p)) else aD
def Lh{c:Type}{P:Prop}[Decidable P]{f:P->c}{r:c}(h:(if p:P then aw (f p) else aD)=aw r):∃p,f p=r:=by
 by_cases p:P
 .rw[dif_pos p]at h;cases h;exact⟨p,rfl⟩
 .rw[dif_neg p]at h;cases h
def rT{e:Expr}{x:Str}{p:Pos}(h:DB e=aw (x,p)):e = .Name x p:=by
 let{h1,h}:=Lh h;exact Expr.Name.elim (motive_1:=λe=>∀d,Expr.Name.elim (motive_1:=λ_=>Str×Pos) e d (λx p=>(x,p))=(x,p)->e = .Name x p) e h1 (λ_ _ _ c=>by cases c;rfl) h1 h
def rV{e:Expr}{E:List Expr}{k:Nat}{p:Pos}(h:AA e=aw (E,k,p)):e = .Tuple E k p:=by
 let{h1,h}:=Lh h;exact Expr.Tuple.elim (motive_1:=λe=>∀c,Expr.Tuple.elim (motive_1:=λ_=>List Expr×Nat×Pos) e c (λE k p=>(E,k,p))=(E,k,p)->e = .Tuple E k p) e h1 (λ_ _ _ _ d=>by cases d;rfl) h1 h
abbrev oA{c:Type}(o:Option c)(k:c->Bool):Bool:=match o with
 |some r=>k r
 |none=>aS
def lX{c:Type}{o:Option c}{k:c->Bool}(h:oA o k=aN):∃r,o=aw r/\k r=aN:=by
 cases o with
 |none=>cases h
 |some r=>exact⟨r,rfl,h⟩
def HC{a b:Bool}(h:(a || b)=aN):a=aN\/b=aN:=by cases a;exact .inr h;exact .inl rfl
mutual
noncomputable def wz(b:Blk)(e:Expr):Tg->Bool
 |.n i=>oA (DB e) λr=>b.N[i]? == aw r.1 && b.own r.1
 |.tup ts=>oA (AA e) λr=>nZ b r.1 ts
noncomputable def nZ(b:Blk)(E:List Expr):List Tg->Bool
 |[]=>E.isEmpty
 |t::ts=>lC E λe E=>wz b e t && aF e && nZ b E ts
end
abbrev NA(e:Expr):Bool:=dG e λc _ _=>decide (c = .none)
abbrev sBl(v:Bool)(e:Expr):Bool:=dG e λc _ _=>decide (c = .bool v)
abbrev rX(v:Int)(e:Expr):Bool:=dG e λc _ _=>decide (c = .int v)
abbrev DC(v:Str)(e:Expr):Bool:=dG e λc _ _=>decide (c = .str v)
abbrev fB(k:Str->Bool)(e:Expr):Bool:=Dy e λx _=>k x
abbrev HD(k:List Expr->Bool)(e:Expr):Bool:=Dz e λE _ _=>k E
abbrev AB(k:List Expr->Bool)(e:Expr):Bool:=Lg e λE _=>k E
abbrev NB(o:VP)(k l:Expr->Bool)(e:Expr):Bool:=Dq e λx op y _=>decide (op=o) && k x && l y
abbrev DD(k:Expr->Bool)(e:Expr):Bool:=jT e λo x _=>decide (o = .USub) && k x
abbrev HE(k:Expr->Bool)(e:Expr):Bool:=jT e λo x _=>decide (o = .Not) && k x
abbrev DE(o:CmpOp)(k l:Expr->Bool)(e:Expr):Bool:=nV e λx os Y _=>l1 os λop=>l1 Y λy=>decide (op=o) && k x && l y && aF y
abbrev NC(o p:CmpOp)(k l m:Expr->Bool)(e:Expr):Bool:=nV e λx os Y _=>lC os λop os=>l1 os λO=>lC Y λy Y=>l1 Y λz=>decide (op=o) && decide (O=p) && k x && l y && m z && aF z
abbrev AC(o:BoolOp)(k l:Expr->Bool)(e:Expr):Bool:=rP e λop v _=>lC v λx v=>l1 v λy=>decide (op=o) && k x && l y
abbrev AE(o:BoolOp)(k l:Expr->Bool)(e:Expr):Bool:=rP e λop v p=>lC v λx v=>lC v λy v=>lC v λz Y=>decide (op=o) && k x && l (.BoolOp o (y::z::Y) p)
abbrev Se(k l m:Expr->Bool)(e:Expr):Bool:=Du e λx y z _=>k x && l y && m z
abbrev sIx(k l:Expr->Bool)(e:Expr):Bool:=dX e λx y _=>k x && l y && aF y
abbrev sSl(k:Expr->Bool)(l m:Option Expr->Bool)(e:Expr):Bool:=dX e λx s _=>wx s λy z w _=>w.isNone && k x && l y && m z
abbrev Sf(k:Expr->Bool)(e:Expr):Bool:=dX e λx s _=>wx s λy z w _=>y.isNone && z.isNone && k x && oA w λe=>DD (rX 1) e
abbrev sCN(e:Expr)(k:Str->List Expr->List Keyword->Bool):Bool:=ui e λf E c _=>Dy f λx _=>k x E c
abbrev DF(k:Str->Bool)(l:List Expr->Bool)(e:Expr):Bool:=sCN e λx E c=>lC E λe E=>c.isEmpty && k x && l (e::E)
abbrev wD(b:Blk)(f:Str)(k:List Expr->Bool)(e:Expr):Bool:=sCN e λx E c=>lC E λe E=>c.isEmpty && x == f && b.glo x && k (e::E)
abbrev cw(b:Blk)(f:Str)(k:Expr->Bool)(e:Expr):Bool:=sCN e λx E c=>l1 E λe=>c.isEmpty && x == f && b.glo x && k e && aF e
abbrev Sg(c:Int)(k:List Keyword):Bool:=l1 k λw=>w.arg == aw (Str.ofString "default") && rX c w.value
abbrev Li(b:Blk)(k:Expr->Bool)(e:Expr):Bool:=sCN e λx E c=>l1 E λe=>(l1 c λw=>w.arg == aw (Str.ofString "default") && NA w.value) && x == "min" && b.glo x && k e && aF e
abbrev sDn(b:Blk)(k:Expr->Bool)(e:Expr):Bool:=sCN e λx E f=>lC E λc E=>lC E λd E=>l1 E λg=>f.isEmpty && x == "range" && b.glo x && (k c && aF c && DD (rX 1) d && DD (rX 1) g)
abbrev Lj(b:Blk)(c:Int)(k:Expr->Bool)(e:Expr):Bool:=sCN e λx E d=>l1 E λe=>Sg c d && x == "max" && b.glo x && k e && aF e
abbrev n9(b:Blk)(f:Str)(k l:Expr->Bool)(e:Expr):Bool:=sCN e λx E d=>lC E λe E=>l1 E λc=>d.isEmpty && (x == f && b.glo x && k e && aF e && l c && aF c)
abbrev wG(m:Str)(k:Expr->Bool)(l:List Expr->Bool)(e:Expr):Bool:=ui e λf E g p=>nX f λx d c=>g.isEmpty && d == m && wy x && (c.endLine == p.line) && k x && l E
abbrev Lk(k:Expr->Expr->Expr->List Expr->List WV->Scope->Bool)(e:Expr):Bool:=kI e λe gs c _=>lC gs λg gs=>decide (g.is_async=0) && k e g.target g.iter g.ifs gs c
abbrev DG(e:Expr):Bool:=Dx e λk v _=>k.isEmpty && v.isEmpty
abbrev Ll(k l:Expr->Bool)(e:Expr):Bool:=Dx e λc v _=>l1 c λx=>l1 v λy=>match x with
 |some x=>k x && l y
 |none=>aS
def bQ{x y:Str}(h:(x == y)=aN):x=y:=eq_of_beq h
section
variable {e:Expr} {k l m:Expr->Bool}
def DH(h:NA e=aN):∃a p,e = .Constant .none a p:=by
 let{c,a,p,rfl,h}:=cV h;cases ω h;exact⟨a,p,rfl⟩
def DI{v:Bool}(h:sBl v e=aN):∃a p,e = .Constant (.bool v) a p:=by
 let{c,a,p,rfl,h}:=cV h;cases ω h;exact⟨a,p,rfl⟩
def gP{v:Int}(h:rX v e=aN):∃a p,e = .Constant (.int v) a p:=by
 let{c,a,p,rfl,h}:=cV h;cases ω h;exact⟨a,p,rfl⟩
def wH{v:Str}(h:DC v e=aN):∃a p,e = .Constant (.str v) a p:=by
 let{c,a,p,rfl,h}:=cV h;cases ω h;exact⟨a,p,rfl⟩
def b8{k:Str->Bool}(h:fB k e=aN):∃x p,e = .Name x p/\k x=aN:=yB h
def wJ{k:List Expr->Bool}(h:HD k e=aN):∃x a p,e = .Tuple x a p/\k x=aN:=DA h
def og{k:List Expr->Bool}(h:AB k e=aN):∃x p,e = .List x p/\k x=aN:=HA h
def DJ{o:VP}(h:NB o k l e=aN):∃x y p,e = .BinOp x o y p/\k x=aN/\l y=aN:=by
 let{x,op,y,p,rfl,h}:=Dt h;let{h1,Z}:=an3 h;cases ω h1;exact⟨x,y,p,rfl,Z⟩
def rY(h:DD k e=aN):∃x p,e = .UnaryOp .USub x p/\k x=aN:=by
 let{op,x,p,rfl,h}:=nU h;let{h1,Z}:=an2 h;cases ω h1;exact⟨x,p,rfl,Z⟩
def wK(h:HE k e=aN):∃x p,e = .UnaryOp .Not x p/\k x=aN:=by
 let{op,x,p,rfl,h}:=nU h;let{h1,Z}:=an2 h;cases ω h1;exact⟨x,p,rfl,Z⟩
def rZ{o:CmpOp}(h:DE o k l e=aN):∃x y p,e = .Compare x [o] [y] p/\k x=aN/\l y=aN/\aF y=aN:=by
 let{x,os,Y,p,rfl,h}:=nW h;let{op,rfl,h}:=cv h;let{y,rfl,h}:=cv h;let{h1,Z}:=an4 h;cases ω h1;exact⟨x,y,p,rfl,Z⟩
def DK{o p:CmpOp}(h:NC o p k l m e=aN):∃x y z q,e = .Compare x [o,p] [y,z] q/\k x=aN/\l y=aN/\m z=aN/\aF z=aN:=by
 let{x,os,Y,q,rfl,h}:=nW h;let{op,os,rfl,h}:=cb h;let{O,rfl,h}:=cv h;let{y,Y,rfl,h}:=cb h;let{z,rfl,h}:=cv h;let{h1,h2,Z}:=an6 h;cases ω h1;cases ω h2;exact⟨x,y,z,q,rfl,Z⟩
def oh{o:BoolOp}(h:AC o k l e=aN):∃x y p,e = .BoolOp o [x,y] p/\k x=aN/\l y=aN:=by
 let{op,v,p,rfl,h}:=ql h;let{x,v,rfl,h}:=cb h;let{y,rfl,h}:=cv h;let{h1,Z}:=an3 h;cases ω h1;exact⟨x,y,p,rfl,Z⟩
def oi{o:BoolOp}(h:AE o k l e=aN):∃x y z Y p,e = .BoolOp o (x::y::z::Y) p/\k x=aN/\l (.BoolOp o (y::z::Y) p)=aN:=by
 let{op,v,p,rfl,h}:=ql h;let{x,v,rfl,h}:=cb h;let{y,v,rfl,h}:=cb h;let{z,v,rfl,h}:=cb h;let{h1,Z}:=an3 h;cases ω h1;exact⟨x,y,z,v,p,rfl,Z⟩
def ND(h:Se k l m e=aN):∃x y z p,e = .IfExp x y z p/\k x=aN/\l y=aN/\m z=aN:=by
 let{x,y,z,p,rfl,h}:=Dv h;exact{x,y,z,p,rfl,an3 h}
def DM(h:sIx k l e=aN):∃x y p,e = .Subscript x y p/\k x=aN/\l y=aN/\aF y=aN:=by
 let{x,y,p,rfl,h}:=dz h;exact{x,y,p,rfl,an3 h}
def Sh{l m:Option Expr->Bool}(h:sSl k l m e=aN):∃x y z p q,e = .Subscript x (.Slice y z aD p) q/\k x=aN/\l y=aN/\m z=aN:=by
 let{x,s,q,rfl,h}:=dz h;let{y,z,w,p,rfl,h}:=uj h;let{h1,Z}:=an4 h;cases w;exact⟨x,y,z,p,q,rfl,Z⟩;cases h1
def NF(h:Sf k e=aN):∃x n p f c d,e = .Subscript x (.Slice aD aD (aw (.UnaryOp .USub (.Constant (.int 1) n c) d)) f) p/\k x=aN:=by
 let{x,s,q,rfl,h}:=dz h;let{y,z,w,p,rfl,h}:=uj h;let{h1,h2,j,h4}:=an4 h;let{u,rfl,h4}:=lX h4;let{v,d,rfl,g}:=rY h4;let{n,c,rfl}:=gP g;cases y <;> cases z <;> first |exact⟨x,n,q,p,c,d,rfl,j⟩ |(cases h1;done) |(cases h2;done)
def jU{k:Str->List Expr->List Keyword->Bool}(h:sCN e k=aN):∃x p E c q,e = .Call (.Name x p) E c q/\k x E c=aN:=by
 let{f,E,c,q,rfl,h}:=rQ h;let{x,p,rfl,h}:=yB h;exact⟨x,p,E,c,q,rfl,h⟩
def yC{k:Str->Bool}{l:List Expr->Bool}(h:DF k l e=aN):∃x X E p q,e = .Call (.Name x p) (X::E) [] q/\k x=aN/\l (X::E)=aN:=by
 let{x,p,E,c,q,rfl,h}:=jU h;let{X,E,rfl,h}:=cb h;let{h1,Z}:=an3 h;cases cu h1;exact⟨x,X,E,p,q,rfl,Z⟩
def uk{b:Blk}{f:Str}{k:List Expr->Bool}(h:wD b f k e=aN):∃x E p q,e = .Call (.Name f p) (x::E) [] q/\b.glo f=aN/\k (x::E)=aN:=by
 let{x,p,E,c,q,rfl,h}:=jU h;let{X,E,rfl,h}:=cb h;let{h1,h2,Z}:=an4 h;cases cu h1;cases bQ h2;exact⟨X,E,p,q,rfl,Z⟩
def bq{b:Blk}{f:Str}(h:cw b f k e=aN):∃x p q,e = .Call (.Name f p) [x] [] q/\b.glo f=aN/\k x=aN/\aF x=aN:=by
 let{x,p,E,c,q,rfl,h}:=jU h;let{X,rfl,h}:=cv h;let{h1,h2,Z}:=an5 h;cases cu h1;cases bQ h2;exact⟨X,p,q,rfl,Z⟩
def NG{c:Int}{d:List Keyword}(h:Sg c d=aN):∃j p q,d=[{aw "default",.Constant (.int c) j p,q}]:=by
 let{⟨a,v,q⟩,rfl,h}:=cv h;let{h1,Z}:=an2 h;let{j,p,e}:=gP Z;obtain E:=eq_of_beq h1;exact{j,p,q,by rw[show v=_ from e,show a=_ from E]}
def HF{b:Blk}{c:Int}(h:Lj b c k e=aN):∃x p q j d Q,e = .Call (.Name "max" p) [x] [{aw "default",.Constant (.int c) j d,Q}] q/\b.glo "max" = aN/\k x=aN/\aF x=aN:=by
 let{x,p,E,f,q,rfl,h}:=jU h;let{X,rfl,h}:=cv h;let{h1,h2,Z}:=an5 h;let{j,d,Q,rfl}:=NG h1;cases bQ h2;exact⟨X,p,q,j,d,Q,rfl,Z⟩
def HG{b:Blk}(h:Li b k e=aN):∃x p q j c Q,e = .Call (.Name "min" p) [x] [{aw "default",.Constant .none j c,Q}] q/\b.glo "min" = aN/\k x=aN/\aF x=aN:=by
 let{x,p,o,n,q,rfl,h}:=jU h;let{X,rfl,h}:=cv h;let{h1,h2,Z}:=an5 h;let{⟨a,v,Q⟩,rfl,g}:=cv h1;let{h4,d}:=an2 g;let{j,c,f}:=DH d;let E:=eq_of_beq h4;cases bQ h2;exact{X,p,q,j,c,Q,by rw[show v=_ from f,show a=_ from E],Z}
def Lm{b:Blk}(h:sDn b k e=aN):∃x p q n d r2 j c f,e = .Call (.Name "range" p) [x,.UnaryOp .USub (.Constant (.int 1) n d) r2,.UnaryOp .USub (.Constant (.int 1) j c) f] [] q/\b.glo "range" = aN/\k x=aN/\aF x=aN:=by
 let{x,p,E,J,q,rfl,h}:=jU h;let{B,E,rfl,h}:=cb h;let{I,E,rfl,h}:=cb h;let{L,rfl,h}:=cv h;let{h1,h2,C,h4}:=an4 h;let{v,y,g,o}:=an4 h4;let{u,r2,rfl,g}:=rY g;let{n,d,rfl}:=gP g;let{u,f,rfl,o}:=rY o;let{j,c,rfl}:=gP o;cases bQ h2;cases cu h1;exact⟨B,p,q,n,d,r2,j,c,f,rfl,C,v,y⟩
def cX{b:Blk}{f:Str}(h:n9 b f k l e=aN):∃x y p q,e = .Call (.Name f p) [x,y] [] q/\b.glo f=aN/\k x=aN/\aF x=aN/\l y=aN/\aF y=aN:=by
 let{x,p,E,c,q,rfl,h}:=jU h;let{X,E,rfl,h}:=cb h;let{y,rfl,h}:=cv h;let{h1,Y}:=an2 h;let{h2,Z}:=an6 Y;cases cu h1;cases bQ h2;exact⟨X,y,p,q,rfl,Z⟩
def jg{m:Str}{l:List Expr->Bool}(h:wG m k l e=aN):∃x c E p,e = .Call (.Attribute x m c) E [] p/\wy x=aN/\(c.endLine == p.line)=aN/\k x=aN/\l E=aN:=by
 let{f,E,g,p,rfl,h}:=rQ h;let{x,d,c,rfl,h}:=rR h;let{h1,h2,Z}:=an6 h;cases cu h1;cases bQ h2;exact⟨x,c,E,p,rfl,Z⟩
def yD{k:Expr->Expr->Expr->List Expr->List WV->Scope->Bool}(h:Lk k e=aN):∃E t i ifs gs c p,e = .ListComp E (⟨t,i,ifs,0⟩::gs) c p/\k E t i ifs gs c=aN:=by
 let{E,gs,c,p,rfl,h}:=lc h;let{⟨t,i,ifs,d⟩,gs,rfl,h}:=cb h;let{h1,Z}:=an2 h;cases ω h1;exact⟨E,t,i,ifs,gs,c,p,rfl,Z⟩
def yE(h:DG e=aN):∃p,e = .Dict [] [] p:=by
 let{c,v,p,rfl,h}:=yA h;let{h1,h2}:=an2 h;cases cu h1;cases cu h2;exact⟨p,rfl⟩
def HH(h:Ll k l e=aN):∃x y p,e = .Dict [aw x] [y] p/\k x=aN/\l y=aN:=by
 let{c,v,p,rfl,h}:=yA h;let{x,rfl,h}:=cv h;let{y,rfl,h}:=cv h;cases x with
 |none=>cases h
 |some x=>exact{x,y,p,rfl,an2 h}
end
abbrev DN(f:Expr->CE->Bool)(l:Option Expr):Option CE->Bool
 |none=>l.isNone
 |some c=>oA l λe=>f e c
abbrev DP(f:Expr->CE->Bool)(l:List Expr):Option CE->Bool
 |none=>l.isEmpty
 |some c=>l1 l λe=>f e c
abbrev clC(cls:List Cl)(k:Tg->CI->Option CE->List Cl->Bool):Bool:=match cls with
 |[]=>aS
 |⟨tg,it,cond⟩::rest=>k tg it cond rest
def Ln{cls:List Cl}{k:Tg->CI->Option CE->List Cl->Bool}(h:clC cls k=aN):∃T I cond c,cls=⟨T,I,cond⟩::c/\k T I cond c=aN:=by
 cases cls with
 |nil=>cases h
 |cons g c=>let{T,I,cond}:=g;exact⟨T,I,cond,c,rfl,h⟩
mutual
noncomputable def aJ(T:Tab):Nat->Blk->Expr->CE->Bool
 |0,_,_,_=>aS
 |n+1,b,e,c=>match c with
  |.non=>NA e
  |.bl v=>sBl v e
  |.int i=>rX i e
  |.str x=>DC x e
  |.v i=>fB (λx=>b.N[i]? == aw x && b.vis x) e
  |.con k v=>fB (λx=>T.con[k]? == aw (x,v) && b.glo x) e
  |.tup cs=>HD (λE=>eZ T n b E cs) e
  |.lst cs=>AB (λE=>eZ T n b E cs) e
  |.dic0=>DG e
  |.dic1 i j=>Ll (rX i) (fB λx=>b.N[j]? == aw x && b.vis x) e
  |.b o a c=>NB o.op (λx=>aJ T n b x a) (λx=>aJ T n b x c) e
  |.neg a=>DD (λx=>aJ T n b x a) e
  |.m o a c=>DE o.op (λx=>aJ T n b x a) (λx=>aJ T n b x c) e
  |.h o p a c d=>NC o.op p.op (λx=>aJ T n b x a) (λx=>aJ T n b x c) (λx=>aJ T n b x d) e
  |.d a c=>AC .And (λx=>aJ T n b x a) (λx=>aJ T n b x c) e || AE .And (λx=>aJ T n b x a) (λx=>aJ T n b x c) e
  |.or a c=>AC .Or (λx=>aJ T n b x a) (λx=>aJ T n b x c) e || AE .Or (λx=>aJ T n b x a) (λx=>aJ T n b x c) e
  |.n a=>HE (λx=>aJ T n b x a) e
  |.ite t a c=>Se (λx=>fC T n b x t) (λx=>aJ T n b x a) (λx=>aJ T n b x c) e
  |.x a c=>sIx (λx=>aJ T n b x a) (λx=>aJ T n b x c) e
  |.sl a lo hi=>sSl (λx=>aJ T n b x a) (λl=>DN (aJ T n b) l lo) (λl=>DN (aJ T n b) l hi) e
  |.c f cs=>DF (λx=>oA T.fns[f]? (λy=>y.1 == x) && b.glo x) (λE=>eZ T n b E cs) e
  |.s t a=>n9 b "isinstance" (λx=>aJ T n b x a) (fB λy=>y == Str.ofString t.nm && b.glo y) e
  |.e a=>cw b "len" (λx=>aJ T n b x a) e
  |.all a=>cw b "all" (λx=>aJ T n b x a) e
  |.t a=>cw b "tuple" (λx=>aJ T n b x a) e
  |.listOf a=>cw b "list" (λx=>aJ T n b x a) e
  |.l a=>cw b "list" (cw b "range" λx=>aJ T n b x a) e
  |.srt a=>cw b "sorted" (λx=>aJ T n b x a) e
  |.w a=>cw b "max" (λx=>aJ T n b x a) e
  |.y a c=>Lj b c (λx=>aJ T n b x a) e
  |.z a=>Li b (λx=>aJ T n b x a) e
  |.dct0=>DG e
  |.rev a=>Sf (λx=>aJ T n b x a) e
  |.mx a c=>wD b "max" (λE=>eZ T n b E [a,c]) e
  |.mn a c=>wD b "min" (λE=>eZ T n b E [a,c]) e
  |.rep a=>cw b "repr" (λx=>aJ T n b x a) e
  |.o own elt cls=>clC cls λq I cond h=>Lk (λu t i ifs gs g=>cmB own (nY own b.N) b.N g b.sc && ul T n b t i I && wz (b.inner own g) t q && DP (fC T n (b.inner own g)) ifs cond && qm T n (b.inner own g) u gs elt h) e
  |.app o a=>wG "append" (λx=>aJ T n b x o) (λE=>eZ T n b E [a]) e
  |.pop o=>wG "pop" (λx=>aJ T n b x o) (λE=>E.isEmpty) e
  |.q o a=>wG "pop" (λx=>aJ T n b x o) (λE=>eZ T n b E [a]) e
  |.cnt o a=>wG "count" (λx=>aJ T n b x o) (λE=>eZ T n b E [a]) e
  |.idx o a=>wG "index" (λx=>aJ T n b x o) (λE=>eZ T n b E [a]) e
  |.u a=>cw b "tuple" (cw b "range" λx=>aJ T n b x a) e
noncomputable def eZ(T:Tab):Nat->Blk->List Expr->List CE->Bool
 |0,_,_,_=>aS
 |n+1,b,E,cs=>match cs with
  |[]=>E.isEmpty
  |c::cs=>lC E λe E=>aJ T n b e c && aF e && eZ T n b E cs
noncomputable def qm(T:Tab):Nat->Blk->Expr->List WV->CE->List Cl->Bool
 |0,_,_,_,_,_=>aS
 |n+1,b,e,gs,elt,cls=>match cls with
  |[]=>gs.isEmpty && aJ T n b e elt
  |⟨tg,it,cond⟩::rest=>lC gs λg gs=>decide (g.is_async=0) && ul T n b g.target g.iter it && wz b g.target tg && DP (fC T n b) g.ifs cond && qm T n b e gs elt rest
noncomputable def ul(T:Tab):Nat->Blk->Expr->Expr->CI->Bool
 |0,_,_,_,_=>aS
 |n+1,b,t,e,c=>match c with
  |.p a=>aJ T n b e a && aF e
  |.r1 a=>cw b "range" (λx=>aJ T n b x a) e
  |.dn a=>sDn b (λx=>aJ T n b x a) e
  |.r2 a c=>n9 b "range" (λx=>aJ T n b x a) (λx=>aJ T n b x c) e
  |.zp a c=>n9 b "zip" (λx=>aJ T n b x a) (λx=>aJ T n b x c) e && HD (λ_=>aN) t
  |.en a=>cw b "enumerate" (λx=>aJ T n b x a) e && HD (λ_=>aN) t
noncomputable def fC(T:Tab):Nat->Blk->Expr->CE->Bool
 |0,_,_,_=>aS
 |n+1,b,e,c=>match c with
  |.m o a c=>DE o.op (λx=>aJ T n b x a) (λx=>aJ T n b x c) e
  |.h o p a c d=>NC o.op p.op (λx=>aJ T n b x a) (λx=>aJ T n b x c) (λx=>aJ T n b x d) e
  |.d a c=>AC .And (λx=>fC T n b x a) (λx=>fC T n b x c) e || AE .And (λx=>fC T n b x a) (λx=>fC T n b x c) e
  |.or a c=>AC .Or (λx=>fC T n b x a) (λx=>fC T n b x c) e || AE .Or (λx=>fC T n b x a) (λx=>fC T n b x c) e
  |.n a=>HE (λx=>fC T n b x a) e
  |.ite _ _ _=>aS
  |c=>aJ T n b e c && HB e
end
def iH{T:Tab}{n:Nat}{b:Blk}{t e:Expr}{c:CI}(h:ul T n b t e c=aN)(d:∀e,aF e=aN->∀env x,Zaz e env x=pure x):∀env x,Zaz e env x=pure x:=by
 cases n with
 |zero=>cases h
 |succ n=>
  cases c with
  |p a=>exact d e (an2 h).2
  |r1 a=>let{x,p,q,rfl,_}:=bq h;intro _ _;rfl
  |dn a=>let{x,p,q,k,g,r2,l,f,j,rfl,_}:=Lm h;intro _ _;rfl
  |r2 a c=>let{x,y,p,q,rfl,_}:=cX h;intro _ _;rfl
  |zp a c=>let{x,y,p,q,rfl,_}:=cX (an2 h).1;intro _ _;rfl
  |en a=>let{x,p,q,rfl,_}:=bq (an2 h).1;intro _ _;rfl
abbrev bJ(h:Heap)(C:Addr)(B:List Value):Prop:=∃N nm q bs c l sub o d p k g j v u f,h.get? C=aw (Zay nm q C N bs B c l sub o d p k g j v u "ValueError.__new__")/\h.Ns N f/\∀n∈quN,f n=aD
def bJ.keeps(x:bJ h C bm)(k:∀b o,h.get? b=aw o->h'.get? b=aw o):bJ h' C bm:=by
 let{N,nm,q,bs,c,p,sub,u,d,v,g,j,n,B,y,l,hC,hN,f}:=x;exact{N,nm,q,bs,c,p,sub,u,d,v,g,j,n,B,y,l,k _ _ hC,hN.keeps k,f}
section
variable {prog:Program} {w:World} {M:Model} {A:Around} {E:Value->Shared->Prop} {h:Heap} {g:Array VM} {d:Drawn} {t:Nat} {os:OsState} {a C R:Addr} {o:Obj} {vs:Array Value}
def wL(v:n∈quN)(hC:bJ h C (.ref R::bmV))(hR:bJ h R bmV)(p:Zba (.type "ValueError") n=pure y)(J:Q y ⟨h,g,d,t,os⟩):wpAny M A (Zba (.ref C) n) Q E ⟨h,g,d,t,os⟩:=by
 let{N,nm,q,bs,I,sn,sub,ab,col,dd,k0,k1,k2,k3,k5,mN,hC,hN,k}:=hC;let{N',L,q',X,l,sn',u,ab',B,dd',Y,U,k2',O,Z,T,hR,j,f}:=hR;let c:ZaG bmV n=pure y:=by rw[typeLookup_eq,PySem.F.excBase_ValueError.mroIs]at p;exact p
 rw[typeLookup_eq];calc Zbf (wpAny_mroOf_exc hC ?_);rw[lookupAlong_cons];calc Zbf (wpAny_classOwn_exc hC hN ?_);rw[k n v];show wpAny M A (ZaG (.ref R::bmV) n) Q E _;rw[lookupAlong_cons];calc Zbf (wpAny_classOwn_exc hR j ?_);rw[f n v];show wpAny M A (ZaG bmV n) Q E _;rw[c];exact Zby J
def um:Zba (.type "ValueError") "__class__" = pure (aw (.builtin "object.__class__")):=by rw[typeLookup_type,builtinLookup_eq_fast];kernel_rfl
def NH(hC:bJ h C (.ref R::bmV))(j:h.get? a=aw o)(hc:o.cls = .ref C)(p:Q (.ok (.ret (.ref C))) ⟨h,g,d,t,os⟩) :
  codeAny (model prog w) A (.call (.builtin "getset_descriptor.__get__") ⟨[.builtin "object.__class__",.ref a,.ref C],[]⟩) Q ⟨h,g,d,t,os⟩:=by
 let{N,nm,q,bs,k,J,sub,I,l,O,v,u,B,T,L,y,hC,hN,n}:=hC;let c:(⟨h,g,d,t,os⟩:Shared).TypeIs (.builtin "object.__class__") "getset_descriptor" := VI
 let f:(Value.ref C :: .ref R::bmV).contains (.type (".".intercalate ("object.__class__".cutAt '.').dropLast))=aN:=by
  rw[PySem.F.owner_object_class,Z9,Z9];rfl
 refine Zap PySem.F.slot_gs_get.plain PySem.F.entry_gs_get (PySem.F.slot_gs_get.check _ _ _ _ _ _ _ _ c (PySem.F.args_gs_get _ _ _) ?_)
 repeat (any_goals (first |assumption |(with_reducible calc Zbs j ?_;rw[hc]) |(with_reducible calc Zbp hC ?_;rw[f]) |wp_step))
 refine{Code.quiet_builtin _ (by decide +kernel),Zao PySem.F.entry_object_class ?_}
 repeat (any_goals (first |assumption |(with_reducible calc Zbs j ?_;rw[hc]) |wp_step))
def DQ(hC:bJ h C (.ref R::bmV))(hR:bJ h R bmV)(c:h.get? a=aw o)(hc:o.cls = .ref C)(k:Q (.done (.ret (.ref C))) ⟨h,g,d,t,os⟩) :
  wpAny (model prog w) A (Builtin.«object.__getattribute__» ⟨[.ref a,.str "__class__" T],[]⟩) Q E ⟨h,g,d,t,os⟩:=by
 let f:(⟨h,g,d,t,os⟩:Shared).TypeIs (.builtin "object.__class__") "getset_descriptor" := VI;let p:=VI;let n:=PySem.F.slot_gs_get.lookup;let l:=PySem.F.slot_gs_set.lookup;let j:("__class__" : Str)∈quN:=.tail _ (.tail _ (.tail _ (.head _)))
 repeat (any_goals (first |assumption |(with_reducible calc Zbs c ?_;rw[hc]) |with_reducible refine wL j hC hR um ?_ |wp_step))
 refine NH hC c hc ?_
 repeat (any_goals (first |assumption |wp_step))
def DR(hC:bJ h C (.ref R::bmV))(u:h.get? a=aw o)(hc:o.cls = .ref C)(l:Q () ⟨h,g,d,t,os⟩):wpAny M A (checkBuiltinCall "BaseException.__getattribute__" ⟨[.ref a,n],[]⟩) Q E ⟨h,g,d,t,os⟩:=by
 let{N,nm,q,bs,j,X,sub,J,v,T,L,y,Y,B,U,O,hC,hN,p}:=hC;let k:builtinKind "BaseException.__getattribute__" = aw .slot:=by decide +kernel
 let c:splitId "BaseException.__getattribute__" = aw ("BaseException","__getattribute__"):=by decide +kernel
 let f:(Value.ref C :: .ref R::bmV).contains (.type "BaseException")=aN:=by rw[Z9,Z9];rfl
 let I:=PySem.F.args_bexc_ga (.ref a) n;simp![checkBuiltinCall,k,c];refine Zbf ?_
 .delta isInstance
  repeat (first |(with_reducible calc Zbs u ?_;rw[hc]) |(with_reducible calc Zbp hC ?_;rw[f]) |wp_step)
  exact l
def Si(hC:bJ h C (.ref R::bmV))(hR:bJ h R bmV)(f:h.get? a=aw o)(hc:o.cls = .ref C)(l:Q (.ref C) ⟨h,g,d,t,os⟩) :
  wpAny (model prog w) A (getAttrBy (.ref a) (.str "__class__" T) aS) Q E ⟨h,g,d,t,os⟩:=by
 let FB:=PySem.F.attrBase_ValueError;let n:=FB.ga.bind (.ref a);let k:(Value.builtin "BaseException.__getattribute__" == Value.builtin "object.__getattribute__")=aS:=by decide +kernel
 let j:("__getattribute__" : Str)∈quN:=.tail _ (.head _);let c:("__getattr__" : Str)∈quN:=.tail _ (.tail _ (.head _))
 repeat (any_goals (first |assumption |(with_reducible calc Zbs f ?_;rw[hc]) |with_reducible refine wL j hC hR FB.ga.lookup ?_ |with_reducible refine wL c hC hR FB.noGetattr ?_ |wp_step))
 refine Zap FB.ga.plain PySem.F.entry_bexc_ga (DR hC f hc (DQ hC hR f hc ?_))
 repeat (any_goals (first |assumption |wp_step))
def HI(hC:bJ h C (.ref R::bmV))(hR:bJ h R bmV)(c:h.get? a=aw o)(hc:o.cls = .ref C)(f:Q (aw (.ref C)) ⟨h,g,d,t+1,os⟩):wpAny (model prog w) A (getAttr? (.ref a) "__class__") Q E ⟨h,g,d,t,os⟩:=by
 delta getAttr? getAttrBy?
 repeat (any_goals (first |assumption |with_reducible apply Si hC hR c hc |wp_step))
end
abbrev qo(h:Heap)(e C:Addr):Prop:=∃o v,h.get? e=aw o/\o.cls = .ref C/\o.data = .fields v
abbrev qp(h:Heap)(D:Addr):Prop:=∃d c sl,h.get? D=aw {.type "type",d,.cls c,sl}
section
variable {prog:Program} {w:World} {M:Model} {A:Around} {E:Value->Shared->Prop} {s:Shared} {e C R D:Addr}
def yF{K:V5}{O:Value}{f:Option Addr}{p:ClassData}{sl:Array (Option Value)}(l:K.lookup C=aw {O,f,.cls p,sl}):PySem.W.KitX K (.ref e) (.ref C) (λh=>bJ h C (.ref R::bmV)/\bJ h R bmV/\qo h e C) where
 ty:=λM h _ ⟨_,_,o,_,h1,h2,_⟩=>h2▸(PySem.W.Looks.ld h1).andThen .now
 it:=λM h _ ⟨hC,_⟩=>by
  let{N,nm,q,bs,j,Z,sub,J,u,f,L,v,k2,B,Y,T,hC,_}:=hC;intro U Q y s' k q;delta isType loadHead;exact Zbf (wpAny_loadPart (k _ _ hC) (Zby q))
 ne:=λh tp f I n sl X c=>by
  calc X1.mpr λq=>?_;let e:C=tp:=Value.ref.inj (beq_iff_eq.mp q);subst e;rw[X _ _ l]at c;cases c
 ca:=λ{_ _ _ _ _ s} _ ⟨hC,hR,o,_,h1,h2,_⟩ hq=>by
  let{h,g,d,t,os}:=s;exact HI hC hR h1 h2 hq
def isx{D:Addr}{Q:Value->Shared->Prop}(hC:bJ s.heap C (.ref R::bmV))(hR:bJ s.heap R bmV)(he:qo s.heap e C)(J:qp s.heap D)(O:D≠R)(h:∀T,Q (.bool (C == D)) {s with toks:=T}) :
  wpAny (model prog w) A (call (.builtin "isinstance") [.ref e,.ref D]) Q E s:=by
 let I:=hC;let{N,nm,q,bs,c,y,sub,n,j,u,p,k,B,l,v,mN,X,_}:=I;let{f,d,g,hd}:=J
 let U:PySem.W.Frag.In [(C,Zay nm q C N bs (.ref R::bmV) c y sub n j u p k B l v "ValueError.__new__"),(D,{.type "type",f,.cls d,g})] s.heap:=by
  intro b o hb;rw[ZW]at hb;split at hb
  .rename_i z;cases hb;rw[show b=C from by simpa using z];exact X
  .rw[ZW]at hb;split at hb
   .rename_i z;cases hb;rw[show b=D from by simpa using z];exact hd
   .cases hb
 let l1:Xz C [(C,Zay nm q C N bs (.ref R::bmV) c y sub n j u p k B l v "ValueError.__new__"),(D,({.type "type",f,.cls d,g}:Obj))]=aw (Zay nm q C N bs (.ref R::bmV) c y sub n j u p k B l v "ValueError.__new__"):=by
  rw[ZW,beq_self_eq_true]
 calc Pi (yF (R:=R) l1) U ⟨hC,hR,he⟩ ?_ (λz=>nomatch z) h;delta On;by_cases z:C=D
 .subst z;rw[if_pos (beq_self_eq_true _),beq_self_eq_true]
 .let Z:(C == D)=aS:=by simpa using z
  rw[if_neg (by simpa using z),Z]
  let l2:Xz D [(C,Zay nm q C N bs (.ref R::bmV) c y sub n j u p k B l v "ValueError.__new__"),(D,({.type "type",f,.cls d,g}:Obj))]=aw {.type "type",f,.cls d,g}:=by
   rw[ZW,show(D == C)=aS from by simpa using Ne.symm z,ZW,beq_self_eq_true]
  delta Of;dsimp!;rw[if_pos (by delta V8 PySem.W.typeIn;dsimp!;rw[l2];rfl)];delta Zaa OS V8;dsimp!;rw[l1];show aw ((Value.ref C :: .ref R::bmV).contains (.ref D))=_;rw[Z9,Z9];let Y:((Value.ref D) == Value.ref C)=aS:=by simpa using Ne.symm z
  let L:((Value.ref D) == Value.ref R)=aS:=by simpa using O
  rw[Y,L];rfl
def isv{Q:Value->Shared->Prop}(hC:bJ s.heap C (.ref R::bmV))(hR:bJ s.heap R bmV)(I:qo s.heap e C)(h:∀T,Q (.bool aN) {s with toks:=T}) :
  wpAny (model prog w) A (call (.builtin "isinstance") [.ref e,.type "ValueError"]) Q E s:=by
 let v:=hC;let{N,nm,q,bs,c,p,sub,g,d,l,j,k,u,f,n,J,B,_}:=v
 let y:PySem.W.Frag.In [(C,Zay nm q C N bs (.ref R::bmV) c p sub g d l j k u f n "ValueError.__new__")] s.heap:=by
  intro b o hb;rw[ZW]at hb;split at hb
  .rename_i z;cases hb;rw[show b=C from by simpa using z];exact B
  .cases hb
 let l1:Xz C [(C,Zay nm q C N bs (.ref R::bmV) c p sub g d l j k u f n "ValueError.__new__")]=aw (Zay nm q C N bs (.ref R::bmV) c p sub g d l j k u f n "ValueError.__new__"):=by
  rw[ZW,beq_self_eq_true]
 calc Pi (yF (R:=R) l1) y ⟨hC,hR,I⟩ ?_ (λz=>nomatch z) h;delta On;rw[if_neg (by simp)];delta Of;dsimp!;rw[if_pos (by decide +kernel)];delta Zaa OS V8;dsimp!;rw[l1];show aw ((Value.ref C :: .ref R::bmV).contains (.type "ValueError"))=_;rw[Z9,Z9];rfl
def NI{h:Heap}{g:Array VM}{d:Drawn}{t:Nat}{os:OsState}{Q:Bool->Shared->Prop}(hC:bJ h C (.ref R::bmV))(hR:bJ h R bmV)(n:qo h e C)(v:Q aN ⟨h,g,d,t,os⟩):wpAny M A (excMatches (.ref e) (.ref R)) Q E ⟨h,g,d,t,os⟩:=by
 let{N,nm,q,bs,u,sn,sub,ab,col,dd,k0,k1,k2,k3,k5,mN,hC,_}:=hC;let{N',B,q',L,l,Y,o,Z,p,U,O,J,X,y,T,I,hR,_}:=hR;let{oe,vs,n,c,_}:=n;let j:(Value.ref R::bmV).contains (.type "BaseException")=aN:=by rw[Z9];rfl
 let k:(Value.ref C :: .ref R::bmV).contains (.ref R)=aN:=by simp
 let f:=tc_notTuple;delta excMatches
 repeat (first |(with_reducible calc Zbs n ?_;rw[c]) |with_reducible refine Zbs hR ?_ |with_reducible refine Zbs hC ?_ |(with_reducible calc Zbp hR ?_;rw[j]) |(with_reducible calc Zbp hC ?_;rw[k]) |wp_step)
 exact v
end
structure XLeft(P:Program)(w:World)(outer:List Env)(H H':Hp)(s:Shared)(B:Heap)(s':Shared):Prop where
 os:s'.os=s.os
 bare:AllBare s'.gens
 un:Un (frs outer) [] H H' s.heap s'.heap
 keep:∀b o,s.heap.get? b=aw o->H b=aD->b∉frs outer->B.get? b=aw o
 there:∀b o,s.heap.get? b=aw o->b∉frs outer->∃o',B.get? b=aw o'
 hok:HOk P w H' B
abbrev CXE(P:Program)(w:World):CXT:=λouter H s E f d=>∃e c g h B,f = .ref e/\Heap.FlyingW B outer e c g d.heap/\XLeft P w outer H h s B d/\E c aD h
def Sj:mS (CXE P w) X E0:=λ_ _ _ _ _ _ _ ⟨_,_,_,_,_,_,_,_,h⟩=>h.elim
section
variable {P:Program} {w:World} {O:List Env} {H h:Hp} {s a:Shared} {B:Heap} {e:Addr} {c A:Value} {h':Heap}
def XLeft.later(x:XLeft P w O H h s B a)(l:Heap.FlyingW B O e c A a.heap)(f:B.StaysIn h')(E:h'.FunFrames B O)(u:a.heap.UpToSlots h'){t:Nat}(v:AllBare g):XLeft P w O H h s B ⟨h',g,d,t,a.os⟩ where
 os:=x.os
 bare:=v
 un:=by
  let sl:∀b o,a.heap.get? b=aw o->b∈frs O->∃sl,h'.get? b=aw {o with slots:=sl}:=λb o q hb=>by
   let{_,j,Q,C}:=l.2.2.1.mem hb;rw[q]at Q;cases Q;exact u b o q C
  refine{λb o q n hb _=>f b o (x.keep b o q n hb),λb o q n hb k=>?_,x.un.free,λb o q k=>?_,x.un.tups,x.un.frzs,x.un.tbls}
  .let{z,y}:=x.un.slot b o q n hb k;let{Z,p}:=sl b _ y hb;exact⟨Z,p⟩
  .by_cases hb:b∈frs O
   .let{_,j,Q,_}:=E.mem hb;exact⟨j,Q⟩
   .let{j,Q}:=x.there b o q hb;exact{j,f b j Q}
 keep:=x.keep
 there:=x.there
 hok:=x.hok
end
section
variable {P:Program} {w:World} {K:V5} {m:Str->Option Value} {base:Heap} {N:List Str} {qual:Str} {scope:Scope} {f:Addr} {C:Value} {A:Around} {O:List Env} {s0:Shared} {h:Hp} {E:XK}
noncomputable abbrev cxE(P:Program)(w:World)(K:V5)(m:Str->Option Value)(base:Heap)(N:List Str)(qual:Str)(scope:Scope)(f:Addr)(C:Value)(A:Around)(O:List Env)(s0:Shared)(h:Hp)(E:XK):Cx:=o8 (CXE P w) P w K m base N qual scope f C A O s0 h E
def uo:frs (envOfC qual scope s0⁻¹ f C::O)=s0⁻¹::frs O:=rfl
def Sk:mS (CXE P w) (cxE P w K m base N qual scope f C A O s0 h E) E:=by
 rintro U σ H s _ s' I ⟨e,c,a0,H',B,rfl,T,x,hE⟩;let v:(A.deeper (envOfC qual scope s0⁻¹ f C)).frames=aw (envOfC qual scope s0⁻¹ f C::O):=I.ok.frames;show wpAny (model P w) (A.deeper (envOfC qual scope s0⁻¹ f C)) (leaving (envOfC qual scope s0⁻¹ f C) (.ref e)) _ _ s'
 let l:∀b o,s0.heap.get? b=aw o->b∉frs O->b∉frs (envOfC qual scope s0⁻¹ f C::O):=λb o q hb L=>by
  rw[uo]at L;rcases Zn.mp L with z |z
  .exact absurd (Zt q) (by rw[z];exact ZO _)
  .exact hb z
 let d:Un (frs O) [] h H s0.heap s.heap:=I.base;calc wpAny_leaves_onW v rfl T λh' X Y=>{e,c,a0,H',B,rfl,X,?_,hE};refine{x.os.trans I.os,x.bare,{λb o q n hb g=>?_,λb o q n hb g=>?_,λb o q n g=>?_,λb o q g=>?_,λb xs q=>x.un.tups b xs (d.tups b xs q),λb o u q=>x.un.frzs b o u (d.frzs b o u q),λb ps q=>?_},λb o q n hb=>?_,λb o q hb=>?_,x.hok}
 .exact X.1 b o (x.keep b o (d.keep b o q n hb g) (d.free b o q n g) (l b o q hb))
 .let{z,Q}:=d.slot b o q n hb g;let{z2,p}:=x.un.slot b _ Q (d.free b o q n g) (show b∈s0⁻¹::frs O from Zf _ hb) g
  let{_,j,k,nf}:=T.2.2.1.mem (b:=b) (Yq.mpr (by
   let{y,hy,hz}:=Yq.mp hb;exact{y,Zf _ hy,hz}))
  rw[p]at k;cases k;let{z3,q3}:=Y b _ p nf;exact⟨z3,q3⟩
 .let{j,Q}:=d.there b o q g;exact x.un.free b j Q (d.free b o q n g) g
 .by_cases hb:b∈frs O
  .let{_,j,k,_}:=X.2.2.1.mem hb;exact⟨j,k⟩
  .let{j,Q}:=d.there b o q g;let{J,p}:=x.there b j Q (l b o q hb);exact{J,X.1 b J p}
 .let{m1,e1}:=d.tbls b ps q;let{m2,Z}:=x.un.tbls b _ e1;exact{m1++m2,by rw[Z,XU]}
 .exact x.keep b o (d.keep b o q n hb (by simp)) (d.free b o q n (by simp)) (l b o q hb)
 .let{j,Q}:=d.there b o q (by simp);exact x.there b j Q (l b o q hb)
def Sl(I:Inv (cxE P w K m base N qual scope f C A O s0 h E) T σ H s)(mk:Heap.MadeExcOf s.heap h1 e c L)(hE:E c aD H) :
  (cxE P w K m base N qual scope f C A O s0 h E).xe (.ref e) {s with heap:=h1}:=by
 let v:(A.deeper (envOfC qual scope s0⁻¹ f C)).frames=aw (envOfC qual scope s0⁻¹ f C::O):=I.ok.frames;show wpAny (model P w) (A.deeper (envOfC qual scope s0⁻¹ f C)) (leaving (envOfC qual scope s0⁻¹ f C) (.ref e)) _ _ {s with heap:=h1};let stk:s.heap.FunFrames base (envOfC qual scope s0⁻¹ f C::O):=I.stack;let Y:∀b∈frs (envOfC qual scope s0⁻¹ f C::O),H b=aD:=I.stkFree
 let y:∀b o,s0.heap.get? b=aw o->b∉frs O->b∉frs (envOfC qual scope s0⁻¹ f C::O):=λb o q hb k=>by
  rw[uo]at k;rcases Zn.mp k with z |z
  .exact absurd (Zt q) (by rw[z];exact ZO _)
  .exact hb z
 let d:Un (frs O) [] h H s0.heap s.heap:=I.base;let p:∀env∈(envOfC qual scope s0⁻¹ f C::O),∀b,env.frame=aw b->b∈frs (envOfC qual scope s0⁻¹ f C::O):=λenv he b hb=>Yq.mpr ⟨env,he,hb⟩;refine wpAny_leaves_madeW v rfl (λb o q=>No _ q) (PySem.W.funFrames_hide stk p) mk λU t X x2 x3 x4=>{e,c,.ref t,H,_,rfl,X,?_,hE}
 let up:∀b o,s.heap.get? b=aw o->b∈frs (envOfC qual scope s0⁻¹ f C::O)->∃sl,U.get? b=aw {o with slots:=sl}:=λb o q hb=>by
  let{_,j,J,nf}:=stk.mem hb;rw[q]at J;cases J;exact x4 b o (mk.keeps b o q) nf
 refine{I.os,I.bare,{λb o q n hb g=>?_,λb o q n hb g=>?_,λb o q n g=>d.free b o q n g,λb o q g=>?_,d.tups,d.frzs,d.tbls},λb o q n hb=>?_,λb o q hb=>?_,λa o q=>?_}
 .exact X.1 b o (ST _ (d.keep b o q n hb g) (y b o q hb))
 .let{z,Q}:=d.slot b o q n hb g;let{Z,B}:=up b _ Q (show b∈s0⁻¹::frs O from Zf _ hb);exact⟨Z,B⟩
 .let{j,Q}:=d.there b o q g;by_cases hb:b∈frs (envOfC qual scope s0⁻¹ f C::O)
  .let{Z,B}:=up b _ Q hb;exact⟨_,B⟩
  .exact{j,X.1 b j (ST _ Q hb)}
 .exact ST _ (d.keep b o q n hb (by simp)) (y b o q hb)
 .let{j,Q}:=d.there b o q (by simp);exact{j,ST _ Q (y b o q hb)}
 .calc(I.hok a o q).stay (λb u hb qu=>ST _ qu λk=>?_) (λ_ z=>z) λ_ _ z=>z;let l:=Y b k;rcases hb with rfl |hb
  .rw[q]at l;cases l
  .rw[hb]at l;cases l
end
section
variable {X:Cx} {x:Str} {n c pos:Pos} {a:Expr} {C R:Addr} {v:V}
def DS{E:XK}(hx:∀p d H s h1 e j,Inv X p d H s->Heap.MadeExcOf s.heap h1 e (.ref C) j->E (.ref C) aD H->X.xe (.ref e) {s with heap:=h1})(hc:X.calm=aN)(hg:Gl X x)(hm:X.mg x=aw (.ref C))(hC:bJ X.base C (.ref R::bmV))(hR:bJ X.base R bmV)
  (ha:PA X [a] (ci (tC v) jF)) (Q:Za2 [a] X.env=[(aS,eval a X.env)]) (hd:(x == ("__debug__" : Str))=aS):PS X (.Raise (aw (.Call (.Name x n) [a] [] c)) aD pos) (λD d H=>E (.ref C) aD H):=by
 intro p s d H D I h;let h:ci (tC v) jF d H λl H1=>l.length=1/\E (.ref C) aD H1:=⟨rfl,h⟩;let{N,nm,q,bs,g,sn,sub,ab,J,dd,k0,Y,k2,k3,k5,mN,hC,hN,u}:=hC;let{N',Z,q',bs',B,sn',L,ab',O,dd',k0',k1',k2',k3',k5',mN',hR,o,f}:=hR;let T:OwnTail X.base bmV (.ref R::bmV):=.own hR o (f _ (.head _)) .base
 refine wpAny_Raise_call_subT (C:=C) (nm:=nm) (q:=q) (N:=N) (bs:=bs) (bm:=.ref R::bmV) (hdct:=g) (sn:=sn) (sub:=sub) (ab:=ab) (col:=J) (dd:=dd) (k0:=k0) (k1:=Y) (k2:=k2) (k3:=k3) (k5:=k5)
  PySem.F.excBase_ValueError (mN:=mN) (T.hasType PySem.F.excBase_ValueError.hasBase) (I.ok.hd hc) (by rw[Q];rfl) (u _ (.head _)) (jC I hg hm {rfl,?_} hd)
 let U:=ha c p s d H _ I h;rw[Q]at U ⊢;exact WU (Zbt U (λl s2 ⟨xs,H1,k,r,q⟩=>{rfl,by rw[<-r.length,q.1];decide,k.bk _ _ hC,hN.keeps k.bk,T.keeps k.bk,λh' e mk=>hx p d H1 s2 h' e l k mk q.2}) λ_ _ y=>y)
end
def uq(x:bp P w H h a o):∃u,h.get? a=aw u:=by
 cases o with
 |lst xs=>let{_,_,_,_,e}:=x;exact⟨_,e⟩
 |tup xs=>let{_,_,_,o,e,_}:=x;exact⟨_,e⟩
 |dK k=>let{_,_,_,_,o,_,_,e,_}:=x;exact⟨_,e⟩
 |dT k=>let{_,_,_,_,o,_,_,e,_}:=x;exact⟨_,e⟩
 |set S n=>let{o,_,_,_,e,_}:=x;exact⟨_,e⟩
 |ins C g fs=>let{_,_,_,e,_}:=x;exact⟨_,e⟩
 |own y=>exact x
 |xd fs=>let{_,⟨_,_,_,e,_⟩,_}:=x;exact⟨_,e⟩
 |rng lo d=>let{_,_,_,e}:=x;exact⟨_,e⟩
 |frz ob u=>let{e,_}:=x;exact⟨_,e⟩
 |tbl ps=>exact⟨_,x⟩
 |met f y=>exact⟨_,x⟩
 |ext c=>let{_,e,_}:=x;exact e
noncomputable abbrev exO(e C:Addr):HO:=.ext λh=>qo h e C
section
variable {P:Program} {w:World} {l:List Env} {H h:Hp} {s a:Shared} {B:Heap} {e C:Addr} {A:Value} {i:Heap}
def XLeft.got(x:XLeft P w l H h s B a)(E:Heap.FlyingW B l e (.ref C) A a.heap)(f:Heap.FlyingW B l e (.ref C) A i)(u:a.heap.UpToSlots i):Un (frs l) [] H (upd h e (exO e C)) s.heap i/\HOk P w (upd h e (exO e C)) i:=by
 let un:=(x.later E f.1 f.2.2.1 u (g:=a.gens) (d:=a.drawn) (t:=a.toks) x.bare).un
 let ne:h e=aD:=by
  cases q:h e with
  |none=>rfl
  |some o=>let{z,Q}:=uq (x.hok e o q);rw[f.2.1]at Q;cases Q
 let{O,j,y,L,hd,_}:=f.first
 let nb:∀b o,s.heap.get? b=aw o->H b=aD->b≠e:=λb o q n z=>by
  subst z;by_cases hb:b∈frs l
  .let{_,T,Q,J}:=f.2.2.1.mem hb;rw[y]at Q;cases Q;exact J j hd
  .let:=x.keep b o q n hb;rw[f.2.1]at this;cases this
 let up:∀b u,h b=aw u->upd h e (exO e C) b=aw u:=λb u q=>by rw[ax (aR q ne)];exact q
 refine{{un.keep,un.slot,λb o q n I=>by rw[ax (nb b o q n)];exact un.free b o q n I,un.there,λb xs q=>up b _ (un.tups b xs q),λb o v q=>up b _ (un.frzs b o v q),λb ps q=>?_},λb o q=>?_}
 .let{m,p}:=un.tbls b ps q;exact{m,up b _ p}
 .by_cases hb:b=e
  .subst hb;rw[aG]at q;cases q;exact{⟨O,j,y,L,hd⟩,⟨O,y⟩,λh1 h2 ⟨o,j,p,Q⟩ k=>{o,j,k o p,Q}}
  .rw[ax hb]at q;exact(x.hok b o q).stay (λc v _ z=>f.1 c v z) (λc z=>up c _ z) λc xs z=>up c _ z
end
section
variable {X:Cx} {a:List (Addr×Obj)} {g:L2.St} {H:Hp} {s:Shared}
noncomputable abbrev Cx.mk(X:Cx)(e:Addr):Cx:={X with A:=X.A.mark (aw (.ref e)),calm:=false,xe:=λ_ _=>False}
def DT(I:L2.Inv X a g H s)(e:Addr):L2.Inv (Cx.mk X e) a g H s:=
 ⟨{I.ok.mod,I.ok.kind,I.ok.glob,I.ok.blt,I.ok.above,I.ok.inj,I.ok.has,I.ok.cab,λz=>(nomatch z),I.ok.frames,I.ok.stk,I.ok.exf,I.ok.bs,I.ok.bsz,I.ok.noex,I.ok.exfs,I.ok.funs,I.ok.frf},I.os,I.bare,I.base,I.loc,I.cell,I.free,I.freeC,I.pin,I.hok,I.len⟩
def NJ(ok:X.Ok)(I:L2.Inv (Cx.mk X e) a g H s):L2.Inv X a g H s:=⟨ok,I.os,I.bare,I.base,I.loc,I.cell,I.free,I.freeC,I.pin,I.hok,I.len⟩
def HJ{i:Nat}(I:L2.Inv X a g H s)(hN:X.N.Nodup)(hi:X.N[i]?=aw x)(U:X.env.scope.names.lookup x=aw .local)
  (h:∀T,L2.Inv X a (g.set i aD) H T->Q () T):wpAny M A (do Zah X.env x .none;unbindBehindTheSuite X.env x pos) Q E s:=by
 let{m,hn,hl}:=id I.loc;let l:(X.env.scope.kind == .class || (X.env.scope.kind == .module && X.env.locals != X.env.globals))=aS:=by rw[I.ok.kind];rfl
 let u:i < g.length:=by rw[I.len];exact(Zb.mp hi).1
 let cne:=I.cne;calc wpAny_nameGoes_keeps U hn l λh' v L hs=>?_;refine h _ {I.ok,I.os,I.bare,{λb o e n hb B=>?_,λb o e n hb B=>?_,I.base.free,λb o e B=>?_,I.base.tups,I.base.frzs,I.base.tbls},{_,L,λj y v' f C e3=>?_},λy c e=>?_,I.free,I.freeC,λp hp=>?_,λb ob e=>?_,by simpa using I.len}
 .exact(hs.2 b (ZH (ZC (Zt e) I.ok.above))).trans (I.base.keep b o e n hb B)
 .let{sl,f}:=I.base.slot b o e n hb B;exact{sl,(hs.2 b (ZH (ZC (Zt e) I.ok.above))).trans f}
 .let{o',f}:=I.base.there b o e B;exact{o',(hs.2 b (ZH (ZC (Zt e) I.ok.above))).trans f}
 .by_cases J:j=i
  .subst J;rw[ZL u]at C;cases C
  .rw[Zq (Ne.symm J)]at C;let{u',Y,q}:=hl j y v' f C e3;calc{u',Y,?_};rcases q with ⟨k,e⟩ |⟨k,c,e,z⟩
   .calc .inl {k,?_};let:y≠x:=λe=>J (mO hN f (e▸hi));simp[this,e]
   .exact .inr {k,c,e,z.sameBut hs (cne y c e)}
 .let{O,z}:=I.cell y c e;exact{O,z.sameBut hs (cne y c e)}
 .let{e,n,ne,Z,d}:=I.pin p hp;exact{(hs.2 p.1 ne).trans e,n,ne,Z,d}
 .calc(I.hok b ob e).stay (λc O hc q=>(hs.2 c ?_).trans q) (λ_ q=>q) λ_ _ q=>q;rintro rfl;rcases hc with rfl |hc
  .rw[I.free]at e;cases e
  .rw[I.free]at hc;cases hc
def HK{O:Hp}{s':Shared}{B:Heap}{e C R:Addr}{a0:Value}{i:Nat}{n ring:Str}{h:Stmt}{c:List Stmt}{np p:Pos}{D:Ends}(j:X.stack=X.env::X.outer)(hfm:X.env.frame=aw X.env.locals)(I:L2.Inv X a g H s)(fl:Heap.FlyingW B X.stack e (.ref C) a0 s'.heap)(x:XLeft X.prog X.w X.stack H O s B s')
  (hC:bJ X.base C (.ref R::bmV)) (hR:bJ X.base R bmV) (hg:Gl X ring) (hm:X.mg ring=aw (.ref R)) (hdb:(ring == ("__debug__" : Str))=aS) (hN:X.N.Nodup) (hi:X.N[i]?=aw n) (hl:X.env.scope.names.lookup n=aw .local)
  (hb:∀s6,L2.Inv (Cx.mk X e) a (g.set i (aw (.ref e))) (upd O e (exO e C)) s6->wpAny (model X.prog X.w) (Cx.mk X e).A (execs (h::c) X.env) (λf s7=>∃u v Z H7,f = .ret u/\L2.Inv (Cx.mk X e) a Z H7 s7/\aI v u/\D.rt v H7) (λ_ _=>False) s6) :
  wpAny (model X.prog X.w) X.A (ZaM (.ref e) X.env) (λ_ y=>wpAny (model X.prog X.w) X.A (setFlight (.ref e) aD) (λ_ J=>wpAny (model X.prog X.w) X.A (handleBy (.ref e) X.env [.ExceptHandler (aw (.Name ring np)) (aw n) (h::c) p]) (SP X a D) X.xe J) X.xe y) X.xe s':=by
 let hfr:X.A.frames=aw (X.env::X.outer):=by rw[<-j];exact I.ok.frames
 let st:X.base.StaysIn B:=λb o q=>x.keep b o (I.bs b o q).1 (I.bs b o q).2 λhm=>by
  rw[(I.stack.mem hm).1]at q;cases q
 let E:=fl;rw[j]at fl;calc wpAny_looks_onW hfr hfm fl λh4 L l=>?_;calc wpAny_landsW L λQ d k=>?_;rw[<-j]at d;let{un5,Y}:=x.got E d (l.trans k);let I5:L2.Inv X a g (upd O e (exO e C)) {s' with heap:=Q}:=I.call' x.os un5 Y x.bare (λb z=>absurd z (by simp));let U:=DT I5 e;calc wpAny_handleBy_cons (codeAny_handlers_test (jC (X:=Cx.mk X e) U hg hm ?_ hdb)) (by intro q;cases q);let hE:qo Q e C:=by let{oe,vs,he,hc,hd,_}:=d.first;exact⟨oe,vs,he,hc,hd⟩
 let kb:∀b o,X.base.get? b=aw o->Q.get? b=aw o:=λb o q=>d.1 b o (st b o q);calc NI (hC.keeps kb) (hR.keeps kb) hE ?_;calc codeAny_handlers_suite_as ?_;calc lands_againW d λh6 fl6 T=>?_;let{un6,ok6}:=x.got E fl6 ((l.trans k).trans T);let I6:L2.Inv X a g (upd O e (exO e C)) {s' with heap:=h6}:=I.call' x.os un6 ok6 x.bare (λb z=>absurd z (by simp));calc gC (X:=Cx.mk X e) (DT I6 e) hN hi (.inl hl) (show aI (.ref e) (.ref e) from rfl) (λs7 I7=>?_) (.inr hl);calc Zbt (hb s7 I7) (λf s8 ⟨u,v,σ8,H8,hf,I8,rv,q⟩=>?_) λ_ _ z=>z.elim;subst hf;exact HJ (NJ I.ok I8) hN hi hl λs9 I9=>⟨v,_,H8,I9,rv,q⟩
end
structure CtxOk(T:Tab)(C:Calls)(ar:Nat->Nat)(k:Nat)(b:Blk)(X:Cx):Prop where
 calm:X.calm=aN
 xe:X.xe=λ_ _=>False
 hN:X.N=b.N
 hs:X.env.scope=b.sc
 nd:b.N.Nodup
 fn:∀x,(match b.fs with |none=>aN |some sc=>sc.names.lookup x == aw .cell)=aN->X.fn x=aN
 room:Room k X.A
 con:∀ (i:Nat) (x:Str) (v:Int),T.con[i]?=aw (x,v)->∃tk,X.mg x=aw (.int v tk)
 bl:∀x,x∈gA->X.mg x=aD
 fns:∀ (i:Nat) (y:Str×Nat),T.fns[i]?=aw y->ar i=y.2/\∃f fd ps,X.mg y.1=aw (.ref f)/\RW X.K (.ref f)=aN/\dI X.K fd ps []/\FnOk X.prog X.w X.K X.mg X.base (CXE X.prog X.w) k f fd ps (spC X.K (C i) (ar i))
section
variable {T:Tab} {C:Calls} {a:Nat->Nat} {k:Nat} {b:Blk} {X:Cx}
def ai{e:Expr}{E:List Expr}{env:Env}(h:aF e=aN):Za2 (e::E) env=(aS,eval e env)::Za2 E env:=by
 cases e <;> first |rfl |(exact absurd h Zd)
def jV{e:Expr}(h:aF e=aN):yb e:=by
 intro o i;cases e <;> first |rfl |(exact absurd h Zd)
def dY{e:Expr}{op:CmpOp}(h:aF e=aN):Zaf op e=aS:=by
 cases e <;> first |rfl |(exact absurd h Zd)
def oj{e f:Expr}{op o:CmpOp}(h:aF e=aN):lastMarks [op,o] [f,e]=aS:=by
 show Zaf o e=aS;exact dY h
def fP{e:Expr}{env:Env}(h:aF e=aN):∀x,Zaz e env x=pure x:=by
 intro x;cases e <;> first |rfl |(exact absurd h Zd)
def ce{e:Expr}{m:Str}{env:Env}{w:Sem Value}(h:wy e=aN):Zad e m env w=w:=by
 cases e with
 |Call f c d p=>
  cases f with
  |Name x q=>
   cases c with
   |nil=>cases d with |nil=>exact absurd h Zd |cons _ _=>rfl
   |cons _ _=>rfl
  |_=>rfl
 |_=>first |rfl |(exact absurd h Zd)
def om{e:Expr}{env:Env}(h:HB e=aN):∀c,isTrue e env c=(do let v <-c;standAt e.pos;holding [v] (truthy v)):=by
 intro c;cases e with
 |UnaryOp op x p=>cases op <;> first |rfl |(exact absurd h Zd)
 |_=>first |rfl |(exact absurd h Zd)
def fD{E:List Expr}{env:Env}{p:Pos}(h:∀e∈E,aF e=aN):(backTo p (Za2 E env)).any (·.1)=aS:=by
 induction E with
 |nil=>rfl
 |cons e E I=>
  rw[ai (h e Zh)];show(aS || (backTo p (Za2 E env)).any (·.1))=aS;rw[I λe c=>h e (Zf _ c)];rfl
def bA:∀ {n:Nat} {E:List Expr} {d:List CE},eZ T n b E d=aN->∀e∈E,aF e=aN
 |0,_,_,h=>absurd h Zd
 |n+1,E,[],h=>λx hx=>by rw[cu h]at hx;cases hx
 |n+1,E,c::d,h=>by
  let{e,E,rfl,h}:=cb h;let{_,h1,h}:=an3 h;intro x hx;rcases Zn.mp hx with rfl |hx
  .exact h1
  .exact bA h x hx
def CtxOk.gl(G:CtxOk T C a k b X){x:Str}(h:b.glo x=aN):Gl X x/\(x == ("__debug__" : Str))=aS:=by
 delta Blk.glo at h;rw[bAE]at h;calc{?_,by simpa using h.2};show X.env.scope.names.lookup x=_;rw[G.hs]
 simpa using h.1
def CtxOk.vis(G:CtxOk T C a k b X){x:Str}(h:b.vis x=aN):Vis X.env.scope x/\(x == ("__debug__" : Str))=aS/\(x == ("__classdict__" : Str))=aS:=by
 delta Blk.vis at h;rw[bAE,bAE]at h;calc{?_,by simpa using h.1.2,by simpa using h.2};delta Vis;rw[G.hs];let h1:=h.1.1;split at h1
 .rename_i e;exact .inl e
 .rename_i e;exact .inr (.inl e)
 .rename_i e;exact .inr (.inr e)
 .cases h1
def CtxOk.own(G:CtxOk T C a k b X){x:Str}(h:b.own x=aN):L2.Loc X.env.scope x/\(X.fn x=aN\/X.env.scope.names.lookup x=aw .local):=by
 delta Blk.own at h;delta L2.Loc;rw[G.hs];split at h
 .rename_i e;exact{.inl e,.inr e}
 .rename_i e;calc{.inr e,.inl (G.fn x ?_)};cases c:b.fs with
  |none=>rfl
  |some sc=>rw[c]at h;exact h
 .cases h
def CtxOk.inner(G:CtxOk T C a k b X){own:List Str}{c:Scope}(S:CmScope own (nY own b.N) b.N c b.sc){C':Addr}{ex:List Addr}{s:Shared}{H:Hp}:CtxOk T C a k (b.inner own c) (cxC X own (nY own b.N) c C' ex s H):=
 {G.calm,rfl,by show dM (nY own b.N) X.N++own=_;rw[G.hN];rfl,by show gF c X.env.scope=_;rw[G.hs];rfl,S.nd,λx h=>h,G.room,G.con,G.bl,G.fns}
def qq{e:Expr}{E:List Expr}{env:Env}(h:aF e=aN):Zab (e::E) env=(aS,assign e env)::Zab E env:=by
 cases e <;> first |rfl |(exact absurd h Zd)
mutual
theorem iI(G:CtxOk T C a k b X):∀ {e:Expr} {t:Tg},wz b e t=aN->PG X e (tTg X.K t)
 |e,.n i,h=>by
  let{r,c,h}:=lX h;let{h1,h2}:=an2 h;rw[rT c];let o:=G.own h2;exact PG.imp (xU (i:=i) (x:=r.1) (by rw[G.hN];exact G.nd) (by rw[G.hN];exact eq_of_beq h1) o.1 o.2) λx f H Q q=>rN q
 |e,.tup ts,h=>by
  let{r,c,h}:=lX h;rw[rV c];let d:=qr h;exact PG.imp (Me G.calm (ur G h) rfl d.2) λx f H Q q=>M9 d.1 q
theorem ur(G:CtxOk T C a k b X):∀ {E:List Expr} {c:List Tg},nZ b E c=aN->PGs X E (C0 X.K c)
 |E,[],h=>by
  rw[cu h];exact PGs.imp Gk λx d H Q q=>Hk q
 |E,t::c,h=>by
  let{e,E,rfl,h}:=cb h;let{h1,h2,h}:=an3 h;exact PGs.imp (BG (iI G h1) (ur G h) (by rw[qq h2];rfl)) λx d H Q q=>C1 q
theorem qr:∀ {E:List Expr} {c:List Tg},nZ b E c=aN->(Zab E X.env).length=c.length/\(Zab E X.env).findIdx? (·.1)=aD
 |E,[],h=>by
  rw[cu h];exact⟨rfl,rfl⟩
 |E,t::c,h=>by
  let{e,E,rfl,h}:=cb h;let{h1,h2,h}:=an3 h;let I:=qr h;rw[qq h2];calc{congrArg (·+1) I.1,?_};rw[List.findIdx?_cons];simp[I.2]
end
end
structure Snd(T:Tab)(C:Calls)(ar:Nat->Nat)(k n:Nat):Prop where
 e:∀ (b:Blk) (X:Cx) (e:Expr) (c:CE),CtxOk T C ar k b X->aJ T n b e c=aN->PE X e (tE X.K (evE C ar n c))
 tm:∀ (b:Blk) (X:Cx) (e:Expr) (c:CE),CtxOk T C ar k b X->ag c=aN->aJ T n b e c=aN->PE X e (gx X.K (dr C ar n c))
 a:∀ (b:Blk) (X:Cx) (es:List Expr) (cs:List CE),CtxOk T C ar k b X->eZ T n b es cs=aN->PA X es (tAr X.K (evA C ar n cs))
 t:∀ (b:Blk) (X:Cx) (e:Expr) (c:CE),CtxOk T C ar k b X->fC T n b e c=aN->PT X e (tT X.K (evT C ar n c))
 i:∀ (B:List Addr) (b:Blk) (X:Cx) (t e:Expr) (c:CI),CtxOk T C ar k b X->ul T n b t e c=aN->PI X t e (tIt X.K B (evI C ar n c))
 cl:∀ (b:Blk) (X:Cx) (e:Expr) (gs:List WV) (elt:CE) (cls:List Cl),CtxOk T C ar k b X->qm T n b e gs elt cls=aN ->
  ∀ (gens:List WV) (scope:Scope) (pos:Pos) (acc:Addr) (d:Nat),gens.drop (d+1)=gs->PTl X e gens scope pos acc d (tCl X.K acc (iS C ar n elt cls))
section
variable {T:Tab} {C:Calls} {j:Nat->Nat} {k n:Nat} {b:Blk} {X:Cx}
def bL{e:Expr}{E:List Expr}{c:TE}{t:TA}(h:PE X e c)(f:PA X E t)(d:aF e=aN):PA X (e::E) (ci c t):=Gw h f (ai d)
def So(I:Snd T C j k n)(E:List Expr)(d:List CE)(G:CtxOk T C j k b X)(h:eZ T (n+1) b E d=aN):PA X E (tAr X.K (evA C j (n+1) d)):=by
 cases d with
 |nil=>rw[cu h];exact PA.imp qV λf H Q q=>MP q
 |cons c d=>
  let{e,E,rfl,h}:=cb h;let{h1,h2,h}:=an3 h;exact PA.imp (bL (I.e b X e c G h1) (I.a b X E d G h) h2) λf H Q q=>GZ q
def bB{e:Expr}{c:TE}(h:PE X e c)(d:aF e=aN):PA X [e] (ci c jF):=bL h qV d
def iJ{x:Str}{id:String}{e:Expr}{g:TE}{r:V->Hp->VK->Prop}{p c:Pos}(hc:aZ X (.builtin id) (r1 r))(G:CtxOk T C j k b X)(f:b.glo x=aN)(hb:x∈gA)(l:Zai x=aw (.builtin id))(o:x≠"__name__")(h:PE X e g)(d:aF e=aN) :
  PE X (.Call (.Name x p) [e] [] c) (tUn r g):=
 PE.imp (fm hc (G.gl f).1 (G.bl x hb) l (bB h d) o (G.gl f).2 (ai d) rfl) λu H Q q=>q
def r9{x:Str}{id:String}{e:Expr}{g:TE}{r:V->Hp->VK->Prop}{p c:Pos}(hc:aZ X (.type id) (r1 r))(G:CtxOk T C j k b X)(f:b.glo x=aN)(hb:x∈gA)(l:Zai x=aw (.type id))(o:x≠"__name__")(h:PE X e g)(d:aF e=aN) :
  PE X (.Call (.Name x p) [e] [] c) (tUn r g):=
 PE.imp (fo hc (G.gl f).1 (G.bl x hb) l (bB h d) o (G.gl f).2 (ai d) rfl) λu H Q q=>q
def kJ{x:Str}{e:Expr}{a:CE}{f:Bool->List D->Sto->Option (D×Sto)}{g:List Keyword}{p c:Pos}(I:Snd T C j k n)(G:CtxOk T C j k b X)(d:∀l:TE,PE X e l->PE X (.Call (.Name x p) [e] g c) (tUn (rSq X.K f) l))(h:aJ T n b e a=aN) :
  PE X (.Call (.Name x p) [e] g c) (tE X.K (if ag a=aN then rB f (dr C j n a) else rC f (evE C j n a))):=by
 split
 .rename_i o;exact PE.imp (d _ (I.tm b X e a G o h)) λu H Q q=>MN q
 .exact PE.imp (d _ (I.e b X e a G h)) λu H Q q=>MR q
def jW{x y:Str}(h:(x == y)=aN):x=y:=eq_of_beq h
def mq{K:V5}{x:XE}{g:L2.St}{H:Hp}{Q Q':VK}(h:tE K x g H Q)(f:∀v c,Q v c->Q' v c):tE K x g H Q':=by
 let{m,l,S,d,p,E,R,e,q}:=h;exact{m,l,S,d,p,E,R,e,λo c v A vd=>f _ _ (q o c v A vd)}
def DU{x:XE}{B:L2.St}{H:Hp}{Q:VK}{K:V5}(h:gx K (nT x) B H Q):tUn (rTm K λ_ y=>aw y) (tE K x) B H Q:=by
 let{m,L,S,y,S',E,R,e,q}:=h;let{d,S1,I,e}:=ac e;cases g:aq d S1 with
 |none=>rw[g]at e;cases e
 |some r=>
  rw[g]at e;cases e;calc{m,L,S,d,_,E,R,I,λm1 H1 v c vd=>?_};let{a,J,ev,Y,f}:=fu (tu:=r.1) (ds:=r.2) c.rel vd g;refine{m1,_,r.1,r.2,a,J,r.2,c.rel,ev,Y,f,rfl,λm2 H2 p ws A2 hp n1 u U vw=>?_}
  let O:H p=aD:=by
   cases Z:H p with
   |none=>rfl
   |some o=>
    by_cases l:p∈m
    .exact absurd rfl (u p (c.ext.pre.subset l))
    .let:=c.ext.keep p o Z l;rw[U]at this;cases this
  exact q m2 H2 p ws (c.trans A2) hp n1 (λb hb=>u b (c.ext.pre.subset hb)) O vw
def DV{x:XA}{l:L2.St}{H:Hp}{Q:VK}{K:V5}(h:gx K x l H Q):tUn (rTm K λ_ d=>aw d) (gx K x) l H Q:=by
 let{m,y,S,d,u,E,R,e,q}:=h;calc{m,y,S,d,u,E,R,e,λm1 H1 a v c B na _ _ vd=>?_};refine{m1,_,aS,d,a,v,d,c.rel,rfl,show SqL K H1 a v from SqL.of B,vd,rfl,λO Y p ws A2 U n1 g J Z=>?_}
 let I:H p=aD:=by
  cases L:H p with
  |none=>rfl
  |some o=>
   by_cases f:p∈m
   .exact absurd rfl (g p (c.ext.pre.subset f))
   .let:=c.ext.keep p o L f;rw[J]at this;cases this
 exact q O Y p ws (c.trans A2) U n1 (λb hb=>g b (c.ext.pre.subset hb)) I Z
abbrev ifT(C:Calls)(j:Nat->Nat)(n:Nat)(K:V5):Option CE->TT
 |none=>GH
 |some c=>tT K (evT C j n c)
def oo(I:Snd T C j k n)(G:CtxOk T C j k b X){ifs:List Expr}{cond:Option CE}(h:DP (fC T n b) ifs cond=aN):PTs X ifs (ifT C j n X.K cond):=by
 cases cond with
 |none=>rw[cu h];exact GI
 |some c=>let{e,rfl,h}:=cv h;exact GJ (I.t b X e c G h)
def wM{K:V5}{cond:Option CE}{d:Addr}{c:XA}{D:Ends}{f:L2.St}{H:Hp}(q:tCl K d (cnd (evT C j n) cond c) D f H):gm (ifT C j n K cond) (tCl K d c) D f H:=by
 cases cond with
 |none=>exact Nn q
 |some c=>exact Ht q
def ut(I:Snd T C j k n)(G:CtxOk T C j k b X){l:Option Expr}{lo:Option CE}(h:DN (aJ T n b) l lo=aN):PO X l (tOI X.K (opt (evE C j n) lo)):=by
 cases lo with
 |none=>
  cases l with
  |none=>exact PO.imp Gy λd H Q q=>G6 q
  |some _=>cases h
 |some c=>let{e,rfl,h}:=lX h;exact PO.imp (x9 (I.e b X e c G h)) λd H Q q=>G7 q
def NL(B:Snd T C j k n)(e:Expr)(gs:List WV)(E:CE)(cls:List Cl)(G:CtxOk T C j k b X)(h:qm T (n+1) b e gs E cls=aN)(c:List WV)(l:Scope)(p:Pos)(o:Addr)(d:Nat)(hd:c.drop (d+1)=gs) :
  PTl X e c l p o d (tCl X.K o (iS C j (n+1) E cls)):=by
 let imp:∀ {t t':TS},PTl X e c l p o d t->(∀D u H,t' D u H->t D u H)->PTl X e c l p o d t':=λh f v s u H D I q=>h v s u H D I (f D u H q);cases cls with
 |nil=>
  let{J,h}:=an2 h;cases cu J
  let O:c[d+1]?=aD:=by
   let:=congrArg Zi hd;simp at this;exact ZR.mpr (by omega)
  exact imp (B4 G.xe O (B.e b X e E G h)) λD u H q=>Hs q
 |cons g y=>
  let{tg,U,cond}:=g;let{⟨t,i,ifs,as⟩,gs',rfl,h}:=cb h;let{J,h1,h2,Y,h4}:=an5 h;cases ω J
  let O:c[d+1]?=aw ⟨t,i,ifs,0⟩:=by
   let:=congrArg (·[0]?) hd
   simpa using this
  let Q:c.drop (d+1+1)=gs':=by
   let:=congrArg (Ys 1) hd
   simpa[List.drop_drop] using this
  let L:=iH h1 (λe Z env=>fP Z) X.env;exact imp (GK O (B.i [o] b X t i U G h1) (iI G h2) (oo B G Y) (B.cl b X e gs' E y G h4 c l p o (d+1) Q) G.xe G.calm L) λD u H q=>C9 (λD u H z=>wM z) q
def Sq(I:Snd T C j k n)(B:List Addr)(t e:Expr)(c:CI)(G:CtxOk T C j k b X)(h:ul T (n+1) b t e c=aN):PI X t e (tIt X.K B (evI C j (n+1) c)):=by
 cases c with
 |p a=>
  let h:=an2 h;show PI X t _ (tIt X.K B (if ag a=aN then xIT (dr C j n a) else xIV (evE C j n a)));split
  .rename_i v;exact PI.imp (xW (I.tm b X _ a G v h.1)) λg H R q=>U1 q
  .exact PI.imp (PI.or (xW (I.e b X _ a G h.1)) (Mi (I.e b X _ a G h.1))) λg H R q=>U0 q
 |r1 a=>
  let{x,p,q,rfl,h2,d,h4}:=bq h;exact PI.imp (zH (G.gl h2).1 (G.bl _ (by decide)) (bB (I.e b X x a G d) h4) (ai h4)) λg H R q=>RY q
 |dn a=>
  let{x,p,q,Y,O,r2,U,L,J,rfl,h2,d,h4}:=Lm h;let m1:∀ {n p r},PE X (.UnaryOp .USub (.Constant (.int 1) n p) r) (tC (.int (-1))):=λ{n p r}=>PE.imp (BL vG i8) λg H Q q=>⟨1,rfl,q⟩;exact PI.imp (R8 (G.gl h2).1 (G.bl _ (by decide)) (bL (I.e b X x a G d) (bL m1 (bB m1 rfl) rfl) h4) (ai h4) rfl) λg H R q=>R9 q
 |r2 a c=>
  let{x,y,p,q,rfl,h2,d,h4,l,f}:=cX h;exact PI.imp (zI (G.gl h2).1 (G.bl _ (by decide)) (bL (I.e b X x a G d) (bB (I.e b X y c G l) f) h4) (by rw[ai h4,ai f];rfl) (ai f)) λg H R q=>RZ q
 |zp a c=>
  let h:=an2 h;let{x,y,p,q,rfl,h2,d,h4,l,f}:=cX h.1;let{E,o,u,rfl,_}:=wJ h.2;exact PI.imp (Nc (G.gl h2).1 (G.bl _ (by decide)) (bL (I.e b X x a G d) (bB (I.e b X y c G l) f) h4) (by rw[ai h4,ai f];rfl) (ai f)) λg H R q=>Nh q
 |en a=>
  let h:=an2 h;let{x,p,q,rfl,h2,d,h4}:=bq h.1;let{E,o,u,rfl,_}:=wJ h.2;exact PI.imp (MH (G.gl h2).1 (G.bl _ (by decide)) (bB (I.e b X x a G d) h4) (ai h4)) λg H R q=>RX q
end
section
variable {T:Tab} {C:Calls} {w:Nat->Nat} {k n:Nat} {b:Blk} {X:Cx}
def oq{k:Nat}{A:Around}(r:Room k A):A.units+64 < cLine:=r.units
def jX(K:V5)(m:List Addr)(H:Hp):∀l:List Nat,VDs K m H (l.map λj=>D.int (Int.ofNat j)) (l.map λ(j:Nat)=>V.int j)
 |[]=>by rw[Yh,Yh,VDs]
 |a::l=>by rw[Zw,Zw,VDs];exact{_,_,rfl,bv,jX K m H l}
def xQ{H:Hp}{p:Addr}{x y:HO}:upd (upd H p x) p y=upd H p y:=by
 funext b
 delta upd;split <;> rfl
def yG{K:V5}{m:List Addr}{H:Hp}{S:Sto}{p:Addr}{ks:List Key}{d:List D}{vs:List V}{Q:VK}(R:Rel K m S H)(h:H p=aD)(vd:VDs K m H d vs)(hl:ks.length=d.length)(q:∀f c u,Aft K m H (S++[.dic ks d]) f c->VD K f c (.ref S.length) u->Q u c):Q (.ref p) (upd H p (.dK (ks.zip vs))):=by
 let x:=Ext.beside R h (.dK (ks.zip vs));let g:=R.beside h (.dK (ks.zip vs));refine q (m++[p]) _ _ {x.adopt h,?_} ?_
 .exact g.adoptP (R.no h) (ob:=.dic ks d) {vs,aG,hl,VDs.mono0 (Yz m [p]) (λ_ _ t=>t) (vd.mono R x)}
 .rw[VD];exact{p,by rw[Zv (by rw[R.len];exact Zg _),R.len,Z5];rfl,rfl}
def HL{K:V5}{m:List Addr}{H:Hp}{S:Sto}{p:Addr}{c:List (List NK)}{d:List D}{v:List V}{Q:VK}(R:Rel K m S H)(h:H p=aD)(vd:VDs K m H d v)(hl:c.length=d.length)(q:∀g f u,Aft K m H (S++[.dct c d]) g f->VD K g f (.ref S.length) u->Q u f):Q (.ref p) (upd H p (.dT (c.zip v))):=by
 let x:=Ext.beside R h (.dT (c.zip v));let j:=R.beside h (.dT (c.zip v));refine q (m++[p]) _ _ {x.adopt h,?_} ?_
 .exact j.adoptP (R.no h) (ob:=.dct c d) {v,aG,hl,VDs.mono0 (Yz m [p]) (λ_ _ t=>t) (vd.mono R x)}
 .rw[VD];exact{p,by rw[Zv (by rw[R.len];exact Zg _),R.len,Z5];rfl,rfl}
def sd{E:List Expr}{a:CE}(h:eZ T n b E [a]=aN):∃y,E=[y]:=by
 cases n with
 |zero=>exact absurd h Zd
 |succ n=>
  let{e,E,rfl,h}:=cb h;let h:=(an2 h).2;cases n with
  |zero=>exact absurd h Zd
  |succ n=>cases cu h;exact⟨e,rfl⟩
def HM(I:Snd T C w k n){own:List Str}{E:CE}{o:Tg}{j:CI}{cond:Option CE}{d:List Cl}{e t i:Expr}{ifs:List Expr}{gs:List WV}{c:Scope}{p:Pos}(G:CtxOk T C w k b X)
  (u:cmB own (nY own b.N) b.N c b.sc=aN) (h1:ul T n b t i j=aN) (h2:wz (b.inner own c) t o=aN) (B:DP (fC T n (b.inner own c)) ifs cond=aN) (h4:qm T n (b.inner own c) e gs E d=aN) :
  PE X (.ListComp e (⟨t,i,ifs,0⟩::gs) c p) (gx X.K (nQ own.length (evI C w n j) o (cnd (evT C w n) cond (iS C w n E d)) LF)):=by
 let S:CmScope own (nY own b.N) b.N c b.sc:=Ck _ u;let v:CmScope own (nY own b.N) X.N c X.env.scope:=by rw[G.hN,G.hs];exact S
 let l:=iH h1 (λe J env=>fP J) X.env
 refine PE.imp (GL (g:=tTg X.K o) (ti:=ifT C w n X.K cond) (t:=λf=>tCl X.K f (iS C w n E d)) G.calm v (I.i [] b X t i j G h1) (λh ex s H=>iI (G.inner S (C':=h) (ex:=ex) (s:=s) (H:=H)) h2) (λh ex s H=>oo I (G.inner S (C':=h) (ex:=ex) (s:=s) (H:=H)) B)
  (λh ex s H f=>I.cl _ _ e gs E d (G.inner S (C':=h) (ex:=ex) (s:=s) (H:=H)) h4 _ c p f 0 rfl) l) λy H Q q=>?_
 exact yw (λf D y H z=>wM z) q
def NM{x:XE}{U:L2.St}{H:Hp}{Q:VK}{K:V5}(h:gx K (Az x) U H Q):tE K x U H λv c=>∃i:Nat,v = .int i/\i<=1000/\∀p,c p=aD->∀l,upd c p (.rng 0 i) l=aD->Q (.ref l) (upd (upd c p (.rng 0 i)) l (.lst ((Zm i).map λ(j:Nat)=>V.int j))):=by
 let{m,ρ,S,ds,J,E,R,e,q}:=h;let{d,S1,Y,e}:=ac e;cases d with
 |int i=>
  dsimp! at e;split at e
  .rename_i hi;cases e;calc{m,ρ,S,.int i,_,E,R,Y,λm1 c v f vd=>{i.toNat,by rw[vd.ints];congr 1;lia,by lia,λp I l g=>?_}};let u:Aft K m1 c J m1 (upd c p (.rng 0 i.toNat)):={Ext.beside f.rel I _,f.rel.beside I _};let Z:Aft K m1 (upd c p (.rng 0 i.toNat)) J m1 (upd (upd c p (.rng 0 i.toNat)) l (.lst ((Zm i.toNat).map λ(j:Nat)=>V.int j))):={Ext.beside u.rel g _,u.rel.beside g _};let y:l∉m1:=u.rel.no g
   let O:c l=aD:=by
    cases B:c l with
    |none=>rfl
    |some o=>rw[(Ext.beside f.rel I (.rng 0 i.toNat)).keep l o B y]at g;cases g
   let nH:H l=aD:=by
    cases B:H l with
    |none=>rfl
    |some o=>
     by_cases L:l∈m
     .exact absurd (f.ext.pre.subset L) y
     .rw[f.ext.keep l o B L]at O;cases O
   calc q m1 _ l _ (f.trans (u.trans Z)) aG y (λb hb z=>y (z▸f.ext.pre.subset hb)) nH ?_;exact jX _ _ _ _
  .cases e
 |_=>cases e
def HN{c:L2.St}{H:Hp}{Q:VK}{K:V5}(h:tE K Dp c H Q):Cd c H Q:=by
 let{m,g,S,d,j,E,R,e,q}:=h;cases e;exactλp f=>yG R f (show VDs K m H [] [] by rw[VDs]) rfl q
def HP{c:L2.St}{H:Hp}{Q:VK}{K:V5}(h:tE K Dn c H Q):Ce c H Q:=by
 let{m,g,S,d,j,E,R,e,q}:=h;cases e;exactλp f=>HL R f (show VDs K m H [] [] by rw[VDs]) rfl q
def HQ{c:L2.St}{H:Hp}{Q:VK}{K:V5}{i:Int}{v:Nat}(h:tE K (uh i v) c H Q):Ci [(tC (.int i),Bv v)] c H Q:=by
 let{m,o,S,d,y,E,R,e,q}:=h;delta uh at e;split at e
 .rename_i f hd;cases e;let{u,l,g}:=E.at_ _ _ hd;intro p j;calc{_,l,aG,[(pE i,u)],rfl,by simp,?_};rw[xQ];exact yG R j (ks:=[pE i]) (vs:=[u]) (show VDs K m H [f] [u] by rw[VDs];exact{_,_,rfl,g,by rw[VDs]}) rfl q
 .cases e
def NN{f:Bool->List D->Option (List D)}{x:XE}{B:L2.St}{H:Hp}{Q:VK}{K:V5}(h:gx K (Ay f x) B H Q):tUn (rTm K f) (tE K x) B H Q:=by
 let{m,L,S,ds,S',E,R,e,q}:=h;let{d,S1,I,e}:=ac e;cases j:aq d S1 with
 |none=>rw[j]at e;cases e
 |some r=>
  rw[j]at e;dsimp! at e;cases l:f r.1 r.2 with
  |none=>rw[l]at e;cases e
  |some es=>
  rw[l]at e;cases e;calc{m,L,S,d,_,E,R,I,λm1 H1 v c vd=>?_};let{a,J,ev,Y,g}:=fu (tu:=r.1) (ds:=r.2) c.rel vd j;refine{m1,_,r.1,r.2,a,J,ds,c.rel,ev,Y,g,l,λm2 H2 p ws A2 hp n1 y U vw=>?_}
  let O:H p=aD:=by
   cases Z:H p with
   |none=>rfl
   |some o=>
    by_cases u:p∈m
    .exact absurd rfl (y p (c.ext.pre.subset u))
    .let:=c.ext.keep p o Z u;rw[U]at this;cases this
  exact q m2 H2 p ws (c.trans A2) hp n1 (λb hb=>y b (c.ext.pre.subset hb)) O vw
def NP{f:Bool->List D->Option (List D)}{x:XA}{u:L2.St}{H:Hp}{Q:VK}{K:V5}(h:gx K (Ax f x) u H Q):tUn (rTm K f) (gx K x) u H Q:=by
 let{m,B,S,L,S',E,R,e,q}:=h;let{g,S1,y,e}:=ac e;cases d:f aS g with
 |none=>rw[d]at e;cases e
 |some es'=>
 rw[d]at e;cases e;calc{m,B,S,g,_,E,R,y,λm1 H1 a v c I na _ _ vd=>?_};refine{m1,_,aS,g,a,v,L,c.rel,rfl,show SqL K H1 a v from SqL.of I,vd,d,λY H2 p ws A2 Z n1 l O vw=>?_}
 let J:H p=aD:=by
  cases U:H p with
  |none=>rfl
  |some o=>
   by_cases j:p∈m
   .exact absurd rfl (l p (c.ext.pre.subset j))
   .let:=c.ext.keep p o U j;rw[O]at this;cases this
 exact q Y H2 p ws (c.trans A2) Z n1 (λb hb=>l b (c.ext.pre.subset hb)) J vw
def DW(I:Snd T C w k n)(e:Expr)(c:CE)(G:CtxOk T C w k b X)(g:ag c=aN)(h:aJ T (n+1) b e c=aN):PE X e (gx X.K (dr C w (n+1) c)):=by
 cases c with
 |lst Z=>
  let{U,p,rfl,o}:=og h;exact PE.imp (mR (I.a b X U Z G o)) λj H Q q=>G0 q
 |listOf a=>
  let{x,p,q,rfl,h2,d,h4}:=bq h;show PE X _ (gx X.K (if ag a=aN then dr C w n a else nT (evE C w n a)));split
  .rename_i g;exact PE.imp (r9 nI G h2 (by decide) WH (by decide) (I.tm b X x a G g d) h4) λj H Q q=>DV q
  .exact PE.imp (r9 nI G h2 (by decide) WH (by decide) (I.e b X x a G d) h4) λj H Q q=>DU q
 |l a=>
  let{x,p,q,rfl,h2,d,h4}:=bq h;let{y,p',q',rfl,B,h6,E}:=bq d
  exact PE.imp (fo (rj G.calm) (G.gl h2).1 (G.bl _ (by decide)) WH (bB (fo kZ (G.gl B).1 (G.bl _ (by decide)) WL (bB (I.e b X y a G h6) E) (by decide) (G.gl B).2 (ai E) rfl) h4) (by decide) (G.gl h2).2 (ai h4) rfl) λj H Q q=>mq (NM q) λv H1 ⟨i,ev,Y,z⟩=>by
    subst ev;exact{i,rfl,λp hp=>{p,i,rfl,aG,Y,λl hl=>z p hp l hl}}
 |srt a=>
  let{x,p,q,rfl,h2,d,h4}:=bq h;show PE X _ (gx X.K (if ag a=aN then Ax cU (dr C w n a) else Ay cU (evE C w n a)));split
  .rename_i g;exact PE.imp (iJ qg G h2 (by decide) WM (by decide) (I.tm b X x a G g d) h4) λj H Q q=>NP (f:=cU) q
  .exact PE.imp (iJ qg G h2 (by decide) WM (by decide) (I.e b X x a G d) h4) λj H Q q=>NN (f:=cU) q
 |o own O cls=>
  let{tg,it,cond,J,rfl,hc}:=Ln h;let{el,t,i,ifs,gs,u,p,rfl,o}:=yD hc;let{L,h1,h2,d,h4}:=an5 o;exact HM I G L h1 h2 d h4
 |_=>cases g
def iK{y:Expr}{p:Pos}(h:aF y=aN):((backTo p (Za2 [y] X.env)).all (λx=>!x.1) && (Zae p (ZaE [] X.env)).all (λx=>x.1.isSome) && decide (([y]:List Expr).length+([]:List Keyword).length+(if ([]:List Keyword).isEmpty then 0 else 1) < 30))=aN:=by
 rw[ai h];rfl
def Sr(I:Snd T C w k n)(e:Expr)(c:CE)(G:CtxOk T C w k b X)(h:aJ T (n+1) b e c=aN):PE X e (tE X.K (evE C w (n+1) c)):=by
 let hu:=oq G.room
 let Z:ag c=aN->evE C w (n+1) c=eY (dr C w (n+1) c)->PE X e (tE X.K (evE C w (n+1) c)):=λht he=>by
  rw[he];exact PE.imp (DW I e c G ht h) λE H Q q=>tS q
 cases c with
 |non=>let{_,_,rfl}:=DH h;exact PE.imp Bx λE H Q q=>Cz (λ_ _=>nt) q
 |bl v=>let{_,_,rfl}:=DI h;exact PE.imp Bw λE H Q q=>Cz (λ_ _=>cG) q
 |int v=>let{_,_,rfl}:=gP h;exact PE.imp i8 λE H Q q=>Cz (λ_ _=>bv) q
 |str v=>let{_,_,rfl}:=wH h;exact PE.imp qS λE H Q q=>Cz (λ_ _=>nu) q
 |v i=>
  let{x,p,rfl,O}:=b8 h;let O:=an2 O;let v:=G.vis O.2;exact PE.imp (qR (i:=i) (by rw[G.hN];exact eq_of_beq O.1) v.1 v.2.1 v.2.2) λE H Q q=>MO q
 |con k' v=>
  let{x,p,rfl,O}:=b8 h;let O:=an2 O;let g:=G.gl O.2;let{tk,hm}:=G.con k' x v (eq_of_beq O.1);exact PE.imp (lY (v:=.int v) g.1 hm ⟨tk,rfl⟩ g.2) λE H Q q=>Cz (λ_ _=>bv) q
 |tup cs=>let{U,_,_,rfl,O}:=wJ h;exact PE.imp (Mv (I.a b X U cs G O)) λE H Q q=>MQ q
 |lst cs=>exact Z rfl rfl
 |dic0=>let{p,rfl}:=yE h;exact PE.imp Cf λE H Q q=>HN q
 |dct0=>let{p,rfl}:=yE h;exact PE.imp Cg λE H Q q=>HP q
 |dic1 i j=>
  let{x,y,p,rfl,h1,h2}:=HH h;let{_,_,rfl}:=gP h1;let{_,_,rfl,O}:=b8 h2;let O:=an2 O;let v:=G.vis O.2;exact PE.imp (Cm i8 (qR (i:=j) (by rw[G.hN];exact eq_of_beq O.1) v.1 v.2.1 v.2.2)) λE H Q q=>HQ q
 |b o a L=>let{l,r,p,rfl,h2,u}:=DJ h;exact PE.imp (KW (G5 o) (I.e b X l a G h2) (I.e b X r L G u)) λE H Q q=>rD q
 |neg a=>let{x,p,rfl,O}:=rY h;exact PE.imp (BL Hu (I.e b X x a G O)) λE H Q q=>Cw q
 |m o a L=>let{l,r,p,rfl,h2,u,h4}:=rZ h;exact PE.imp (Gr (iE hu o) (I.e b X l a G h2) (I.e b X r L G u) (dY h4)) λE H Q q=>rD q
 |h o Y a L d=>let{l,r,s,p,rfl,h2,u,h4,J}:=DK h;exact PE.imp (BM (iE hu o) (iE hu Y) (I.e b X l a G h2) (I.e b X r L G u) (I.e b X s d G h4) (oj J)) λE H Q q=>Dc q
 |d a L=>
  rcases HC h with h |h
  .let{x,y,p,rfl,h1,h2}:=oh h;exact PE.imp (BE (I.e b X x a G h1) (BD (I.e b X y L G h2))) λE H Q q=>Db q
  .let{x,y,z,ys,p,rfl,h1,h2}:=oi h;exact PE.imp (BE (I.e b X x a G h1) (I.e b X _ L G h2)) λE H Q q=>Db q
 |or a L=>
  rcases HC h with h |h
  .let{x,y,p,rfl,h1,h2}:=oh h;exact PE.imp (KN (I.e b X x a G h1) (BD (I.e b X y L G h2))) λE H Q q=>La q
  .let{x,y,z,ys,p,rfl,h1,h2}:=oi h;exact PE.imp (KN (I.e b X x a G h1) (I.e b X _ L G h2)) λE H Q q=>La q
 |n a=>let{x,p,rfl,O}:=wK h;exact PE.imp (Mb (I.e b X x a G O)) λE H Q q=>Nr q
 |ite t a L=>let{x,y,z,p,rfl,h1,h2,u}:=ND h;exact PE.imp (BF (I.t b X x t G h1) (I.e b X y a G h2) (I.e b X z L G u)) λE H Q q=>Nt q
 |x a L=>
  let{x,y,p,rfl,h1,h2,u}:=DM h;show PE X _ (tE X.K (if ag a=aN then vW (dr C w n a) (evE C w n L) else tR ixS (evE C w n a) (evE C w n L)));split
  .rename_i ht;exact PE.imp (yc BV (I.tm b X x a G ht h1) (I.e b X y L G h2) (jV u)) λE H Q q=>M1 q
  .exact PE.imp (yc (UX hu) (I.e b X x a G h1) (I.e b X y L G h2) (jV u)) λE H Q q=>rD q
 |sl a lo hi=>let{x,y,z,p,Y,rfl,h1,h2,u}:=Sh h;exact PE.imp (BS UY (I.e b X x a G h1) (ut I G h2) (ut I G u)) λE H Q q=>RO q
 |c f cs=>
  let{x,e,U,p,Y,rfl,h12,u}:=yC (k:=λx=>oA T.fns[f]? (λy=>y.1 == x) && b.glo x) (l:=λU=>eZ T n b U cs) (e:=e) h;let{h1,h2}:=an2 h12
  .let{y,hy,h1}:=lX h1;let hx:=jW h1;subst hx;let{ha,fa,fd,ps,hm,hk,hb,F}:=G.fns f y hy;let B:=bA u;let g:=G.gl h2;exact PE.imp (xY F G.room g.1 hm hk hb .nil Sj (I.a b X (e::U) cs G u) g.2 (ai (B e Zh)) (fD λe he=>B e (Zf _ he))) λE H Q q=>Hv q
 |s t a=>
  let{x,y,p,Y,rfl,h2,J,h6,h7,_}:=cX h;let{y,p'',rfl,h8}:=b8 h7;let{u,h4}:=an2 h8;let hy:=jW u;subst hy
  let ty:PE X (.Name (Str.ofString t.nm) p'') (tC (.ty t.nm)):=by
   let g:=G.gl h4;cases t with
   |int=>exact ip g.1 (G.bl _ (by decide)) PyProof.Rows.boot_int rfl (by decide) g.2
   |bool=>exact ip g.1 (G.bl _ (by decide)) PyProof.Rows.boot_bool rfl (by decide) g.2
   |tuple=>exact ip g.1 (G.bl _ (by decide)) WN rfl (by decide) g.2
   |list=>exact ip g.1 (G.bl _ (by decide)) WH rfl (by decide) g.2
   |str=>exact ip g.1 (G.bl _ (by decide)) PyProof.Rows.boot_str rfl (by decide) g.2
  exact PE.imp (fm (rl X.K) (G.gl h2).1 (G.bl _ (by decide)) WG (bL (I.e b X x a G J) (bB ty rfl) h6) (by decide) (G.gl h2).2 (ai h6) rfl) λE H Q q=>Hc q
 |e a=>let{x,p,Y,rfl,h2,u,h4}:=bq h;exact kJ I G (λte z=>iJ Ag G h2 (by decide) PySem.boot_len (by decide) z h4) u
 |all a=>let{x,p,Y,rfl,h2,u,h4}:=bq h;exact kJ I G (λte z=>iJ (Ai G.calm) G h2 (by decide) PyProof.Rows.boot_all (by decide) z h4) u
 |w a=>let{x,p,Y,rfl,h2,u,h4}:=bq h;exact kJ I G (λte z=>iJ (Am G.calm) G h2 (by decide) WJ (by decide) z h4) u
 |y a c=>
  let{x,p,q,j,Y,q',rfl,h2,u,h4}:=HF h;exact kJ I G (λte z=>PE.imp (M7 G.calm (G.gl h2).1 (G.bl _ (by decide)) (G.gl h2).2 (bB z h4) (ai h4)) λE H Q q=>q) u
 |z a=>
  let{x,p,q,j,Y,q',rfl,h2,u,h4}:=HG h;exact kJ I G (λte z=>PE.imp (Nx hu G.calm (G.gl h2).1 (G.bl _ (by decide)) (G.gl h2).2 (bB z h4) (ai h4)) λE H Q q=>q) u
 |rev a=>let{x,k,p,p2,p3,p4,rfl,h1}:=NF h;exact PE.imp (M6 (I.e b X x a G h1)) λE H Q q=>Cw q
 |t a=>let{x,p,Y,rfl,h2,u,h4}:=bq h;exact kJ I G (λte z=>r9 Ah G h2 (by decide) WN (by decide) z h4) u
 |listOf a=>exact Z rfl rfl
 |l a=>exact Z rfl rfl
 |srt a=>exact Z rfl rfl
 |mx a L=>
  let{x,U,p,Y,rfl,h2,u}:=uk (b:=b) (f := "max") (k:=λU=>eZ T n b U [a,L]) (e:=e) h;let B:=bA u;exact PE.imp (fm (v5 G.calm) (G.gl h2).1 (G.bl _ (by decide)) WJ (I.a b X (x::U) [a,L] G u) (by decide) (G.gl h2).2 (ai (B x Zh)) (fD λe he=>B e (Zf _ he))) λE H Q q=>Cy q
 |mn a L=>
  let{x,U,p,Y,rfl,h2,u}:=uk (b:=b) (f := "min") (k:=λU=>eZ T n b U [a,L]) (e:=e) h;let B:=bA u;exact PE.imp (fm (v7 G.calm) (G.gl h2).1 (G.bl _ (by decide)) WK (I.a b X (x::U) [a,L] G u) (by decide) (G.gl h2).2 (ai (B x Zh)) (fD λe he=>B e (Zf _ he))) λE H Q q=>Cy q
 |rep a=>let{x,p,Y,rfl,h2,u,h4}:=bq h;exact PE.imp (iJ (wn G.room) G h2 (by decide) PyProof.Rows.boot_repr (by decide) (I.e b X x a G u) h4) λE H Q q=>Cw q
 |o own elt cls=>exact Z rfl rfl
 |app o a=>
  let{x,ap,U,p,rfl,h2,u,h4,J}:=jg h;let{y,rfl}:=sd J;let B:=bA J y (by simp);exact PE.imp (pU W6 Vx PySem.F.type_list_append M8 (I.e b X x o G h4) (I.a b X [y] [a] G J) (ce h2) (iK B) u (ai B) rfl) λE H Q q=>rK (λR vd c=>wj R vd c) q
 |pop o=>
  let{x,ap,U,p,rfl,h2,u,h4,J}:=jg h;cases U with
  |cons _ _=>cases J
  |nil=>exact PE.imp (MB W6 VA VJ Hf (I.e b X x o G h4) (ce h2) u) λE H Q q=>Hd (λR vd c=>wj R vd c) q
 |q o a=>
  let{x,ap,U,p,rfl,h2,u,h4,J}:=jg h;let{y,rfl}:=sd J;let B:=bA J y (by simp);exact PE.imp (pU W6 VA VJ Ao (I.e b X x o G h4) (I.a b X [y] [a] G J) (ce h2) (iK B) u (ai B) rfl) λE H Q q=>rK (λR vd c=>wj R vd c) q
 |cnt o a=>
  let{x,ap,U,p,rfl,h2,u,h4,J}:=jg h;let{y,rfl}:=sd J;let B:=bA J y (by simp);exact PE.imp (pU W7 VC PySem.F.type_tuple_count Hg (I.e b X x o G h4) (I.a b X [y] [a] G J) (ce h2) (iK B) u (ai B) rfl) λE H Q q=>rK (λR vd c=>CZ R vd c) q
 |idx o a=>
  let{x,ap,U,p,rfl,h2,u,h4,J}:=jg h;let{y,rfl}:=sd J;let B:=bA J y (by simp);exact PE.imp (pU W7 VE PySem.F.type_tuple_index Hx (I.e b X x o G h4) (I.a b X [y] [a] G J) (ce h2) (iK B) u (ai B) rfl) λE H Q q=>rK (λR vd c=>CZ R vd c) q
 |u a=>
  let{x,p,q,rfl,h2,u,h4}:=bq h;let{y,Y,q',rfl,J,h6,h7}:=bq u
  exact PE.imp (fo (ug G.calm) (G.gl h2).1 (G.bl _ (by decide)) WN (bB (fo kZ (G.gl J).1 (G.bl _ (by decide)) WL (bB (I.e b X y a G h6) h7) (by decide) (G.gl J).2 (ai h7) rfl) h4) (by decide) (G.gl h2).2 (ai h4) rfl) λE H Q q=>mq (Hz q) λv H1 ⟨i,ev,hi,z⟩=>by
    subst ev;exact{i,rfl,λp hp=>{p,i,rfl,aG,hi,λl hl=>z p hp l hl}}
end
section
variable {T:Tab} {C:Calls} {A:Nat->Nat} {k n:Nat} {b:Blk} {X:Cx}
def yH{op:BoolOp}{v:List Expr}{p:Pos}{t:TT}(h:PT X (.BoolOp op v p) t):PW X (.BoolOp op v p) t:=λd c s f H Q I q=>h c s f H Q I q
def Ss(I:Snd T C A k n)(e:Expr)(c:CE)(G:CtxOk T C A k b X)(h:fC T (n+1) b e c=aN):PT X e (tT X.K (evT C A (n+1) c)):=by
 let v:=oq G.room
 let dflt:evT C A (n+1) c=G8 (evE C A n c)->(aJ T n b e c && HB e)=aN->PT X e (tT X.K (evT C A (n+1) c)):=λJ j=>by
  rw[J];let j:=an2 j;exact PT.imp (BO (I.e b X e c G j.1) (om j.2)) λg H Q q=>M3 q
 cases c with
 |m o a f=>let{l,r,p,rfl,h2,u,h4}:=rZ h;exact PT.imp (qU (iE v o) (I.e b X l a G h2) (I.e b X r f G u) (dY h4)) λg H Q q=>rD (RP q)
 |h o E a f d=>let{l,r,s,p,rfl,h2,u,h4,B}:=DK h;exact PT.imp (BN (iE v o) (iE v E) (I.e b X l a G h2) (I.e b X r f G u) (I.e b X s d G h4) (oj B)) λg H Q q=>Dc (RP q)
 |d a f=>
  rcases HC h with h |h
  .let{x,y,p,rfl,h1,h2}:=oh h;exact PT.imp (BA (I.t b X x a G h1) (Gi (I.t b X y f G h2))).pt λg H Q q=>Df q
  .let{x,y,z,Y,p,rfl,h1,h2}:=oi h;exact PT.imp (BA (I.t b X x a G h1) (yH (I.t b X _ f G h2))).pt λg H Q q=>Df q
 |or a f=>
  rcases HC h with h |h
  .let{x,y,p,rfl,h1,h2}:=oh h;exact PT.imp (xR (I.t b X x a G h1) (Bz (I.t b X y f G h2))).pt λg H Q q=>Lb q
  .let{x,y,z,Y,p,rfl,h1,h2}:=oi h;exact PT.imp (xR (I.t b X x a G h1) (yH (I.t b X _ f G h2))).pt λg H Q q=>Lb q
 |n a=>let{x,p,rfl,h1}:=wK h;exact PT.imp (BC (I.t b X x a G h1)) λg H Q q=>Nv q
 |ite _ _ _=>cases h
 |_=>exact dflt rfl h
def snd:∀n,Snd T C A k n
 |0=>{λb X e c _ h=>absurd h Zd,λb X e c _ _ h=>absurd h Zd,λb X e c _ h=>absurd h Zd,λb X e c _ h=>absurd h Zd,λB b X t e c _ h=>absurd h Zd,λb X e gs E cls _ h=>absurd h Zd}
 |n+1=>{λb X e c G h=>Sr (snd n) e c G h,λb X e c G d h=>DW (snd n) e c G d h,λb X f g G h=>So (snd n) f g G h,λb X e c G h=>Ss (snd n) e c G h,λB b X t e c G h=>Sq (snd n) B t e c G h,λb X e gs E cls G h=>NL (snd n) e gs E cls G h}
end
inductive CS where |a (t:Tg)(e:CE) |j (v o i:CE) |ex (e:CE) |ret (e:CE) |i (c:CE)(a b:List CS) |f (t:Tg)(it:CI)(b:List CS) |g (c:CE)(b:List CS) |cnt |never
abbrev HR:XS:=λ_ _=>aD
mutual
noncomputable def evS(C:Calls)(d:Nat->Nat):Nat->CS->XS
 |0,_=>HR
 |n+1,s=>match s with
  |.a t e=>pz (evE C d n e) t
  |.j v o i=>ua (evE C d n v) (evE C d n o) (evE C d n i)
  |.ex e=>t9 (evE C d n e)
  |.ret e=>C4 (evE C d n e)
  |.i c a b=>xIf (evT C d n c) (fE C d n a) (fE C d n b)
  |.f t it b=>C5 (evI C d n it) t (fE C d n b) LF
  |.g c b=>bZ (evT C d n c) (fE C d n b) LF
  |.cnt=>R6
  |.never=>HR
noncomputable def fE(C:Calls)(c:Nat->Nat):Nat->List CS->XS
 |0,_=>HR
 |n+1,ss=>match ss with
  |[]=>K8
  |s::ss=>wo (evS C c n s) (fE C c n ss)
end
abbrev DX:Expr->Bool
 |.Starred _ _=>aN
 |_=>aS
abbrev iL(sc:Scope)(l:Nat)(T:List Expr):List Str:=T.filterMap λ
 |.Name id pos=>if sc.names.lookup id == aw .local && pos.line == l then aw id else aD
 |_=>aD
abbrev yI(sc:Scope)(ts vs:List Expr):Option (Option (List Str)):=
 if (!(ts.length == 2 || ts.length == 3) || vs.length != ts.length)=aN then aw aD
 else if (vs.any DX)=aN then aw aD
 else if ((iL sc ((ts.head?.map (·.pos.line)).getD 0) ts).length != ts.length || (iL sc ((ts.head?.map (·.pos.line)).getD 0) ts).eraseDups.length != (iL sc ((ts.head?.map (·.pos.line)).getD 0) ts).length)=aN then aw aD
 else if (vs.all (foldedForSure 8))=aN then aw aD
 else if (vs.all (constantsAlone 8))=aN then aD
 else aw (aw (iL sc ((ts.head?.map (·.pos.line)).getD 0) ts))
def Su{k k2:Nat}(j:env.blockKind = .function)(hs:env.scope=sc)(h:yI sc ts v=aw r):Za4 [.Tuple ts k p] (.Tuple v k2 p2) env=pure r:=by
 delta yI at h;delta Za4
 let g:(v.any λ|.Starred ..=>aN |_=>aS)=v.any DX:=by
  congr 1
 let E:(ts.filterMap λ
   |.Name id pos=>if env.kindOf id == aw .local && pos.line == ((ts.head?.map (·.pos.line)).getD 0) then aw id else aD
   | _=>aD)=iL sc ((ts.head?.map (·.pos.line)).getD 0) ts:=by
  delta iL Env.kindOf;rw[hs]
 let n:(env.blockKind != .function)=aS:=by rw[j];rfl
 simp![n,YU];split at h
 .rename_i d;rw[if_pos d];cases h;rfl
 rename_i d;rw[if_neg d];split at h
 .rename_i f;cases h;exact if_pos (g.trans f)
 rename_i f;calc Eq.trans (if_neg λz=>f (g.symm.trans z)) ?_;split at h
 .rename_i c;cases h;rw[<-E]at c;exact if_pos c
 rename_i c;rw[<-E]at c h;calc Eq.trans (if_neg c) ?_;split at h
 .rename_i C;cases h;exact if_pos C
 rename_i C;calc Eq.trans (if_neg C) ?_;split at h
 .cases h
 rename_i l;cases h;exact if_neg l
abbrev wN:Expr->Option (Scope×Pos)
 |.ListComp _ _ s p=>aw (s,p)
 |.SetComp _ _ s p=>aw (s,p)
 |.DictComp _ _ _ s p=>aw (s,p)
 |_=>aD
abbrev swW(sc:Scope)(v:Expr)(t:Str)(c:Pos):Bool:=match wN v with
 |none=>aS
 |some (s,p)=>sc.names.lookup t == aw .local && c.line == p.line && !(s.names.any λy=>y.1 == t && (y.2 == .local || y.2 == .cell))
def DY{line:Nat}(h:env.blockKind = .function)(hs:env.scope=sc):Za5 v (aw (.Name t pos)) line env=pure (swW sc v t pos):=by
 delta Za5 swW wN;let E:(env.blockKind == .function)=aN:=by rw[h];rfl
 cases v <;> first |rfl |(simp![E,Xo,Env.kindOf,hs];rfl)
def uu{l:Nat}(h:∀x p,T≠.Name x p):Za6 [T] v l env=pure aS:=by
 show Za5 v (aw T) l env=pure aS;delta Za5;cases v <;> first |rfl |(cases T <;> first |rfl |(exact absurd rfl (h _ _)))
def mv(h:(∀E k p,v≠.Tuple E k p)\/(∃x p,T = .Name x p)\/(∃o i p,T = .Subscript o i p)):Za4 [T] v env=pure aD:=by
 delta Za4;rcases h with h |⟨x,p,rfl⟩ |⟨o,i,p,rfl⟩
 .split
  .rename_i e;split at e
   .exact absurd rfl (h _ _ _)
   .exact absurd rfl (h _ _ _)
   .cases e
  .rfl
 .rfl
 .rfl
abbrev nmL:List Expr->Option (List Str)
 |[]=>aw []
 |e::es=>match DB e,nmL es with
  |some r,aw xs=>aw (r.1::xs)
  |_,_=>aD
def uv(h:nmL c=aw (x::xs)):∃p E,c = .Name x p::E/\nmL E=aw xs:=by
 cases c with
 |nil=>cases h
 |cons e c=>
  rw[nmL]at h;split at h
  .rename_i r y h1 h2;cases h;exact{_,c,by rw[rT h1],h2}
  .cases h
def HS(h:nmL E=aw []):E=[]:=by
 cases E with
 |nil=>rfl
 |cons e E=>
  rw[nmL]at h;split at h <;> cases h
abbrev tgL:List Tg->Option (List Nat)
 |[]=>aw []
 |.n i::ts=>match tgL ts with
  |some is=>aw (i::is)
  |none=>aD
 |.tup _::_=>aD
def DZ:∀ {T:List Tg} {is:List Nat},tgL T=aw is->T=is.map Tg.n
 |[],_,h=>by cases h;rfl
 |.n i::T,is,h=>by
  rw[tgL]at h;cases e:tgL T with
  |none=>rw[e]at h;cases h
  |some js=>rw[e]at h;cases h;rw[DZ e];rfl
 |.tup _::_,_,h=>by cases h
abbrev Sv(b:Blk)(ns:List Str)(is:List Nat):Bool:=match ns with
 | [x,y]=>(match is with
  |[i,j]=>b.N[i]? == aw x && b.N[j]? == aw y && i != j && b.sc.names.lookup x == aw .local && b.sc.names.lookup y == aw .local
  | _=>aS)
 |_=>aS
abbrev U2(e:Expr):Bool:=kI e λ_ _ _ _=>aN
abbrev U3(e:Expr):Bool:=e.ctorIdx == 24
abbrev wP(T:Tab)(n:Nat)(b:Blk)(d e:Expr)(t:Tg)(c:CE):Bool:=match t with
 | .n i=>(match DB d with
  |some r=>aJ T n b e c && b.N[i]? == aw r.1 && b.own r.1 && (!(swW b.sc e r.1 r.2) || (U2 e && b.sc.names.lookup r.1 == aw .local))
  | none=>aS)
 | .tup gs=>(match AA d with
  | some r=>aJ T n b e c && (match AA e with
   | some q=>(match yI b.sc r.1 q.1 with
    |some aD=>nZ b r.1 gs
    | some (aw ns)=>(match tgL gs with
     |some is=>nmL r.1 == aw ns && q.1.length == ns.length && Sv b ns is
     | none=>aS)
    | none=>aS)
   | none=>!(U3 e) && nZ b r.1 gs)
  | none=>aS)
abbrev yJ(e:Stmt)(k:Option Expr->Pos->Bool):Bool:=if h:e.ctorIdx=3 then @Stmt.Return.elim (λ_=>Bool) e h k else aS
def AF(h:yJ e k=aN):∃X c,e = .Return X c/\k X c=aN:=by
 let{h1,h}:=bN h;exact Stmt.Return.elim (motive_2:=λe=>∀d,@Stmt.Return.elim (λ_=>Bool) e d k=aN->∃X c,e = .Return X c/\k X c=aN) e h1 (λX c _ f=>⟨X,c,rfl,f⟩) h1 h
abbrev se(e:Stmt)(k:List Expr->Expr->Pos->Bool):Bool:=if h:e.ctorIdx=5 then @Stmt.Assign.elim (λ_=>Bool) e h k else aS
def qt(h:se e k=aN):∃c d X,e = .Assign c d X/\k c d X=aN:=by
 let{h1,h}:=bN h;exact Stmt.Assign.elim (motive_2:=λe=>∀f,@Stmt.Assign.elim (λ_=>Bool) e f k=aN->∃c d X,e = .Assign c d X/\k c d X=aN) e h1 (λc d X _ g=>⟨c,d,X,rfl,g⟩) h1 h
abbrev Sw(e:Stmt)(k:Expr->Expr->List Stmt->List Stmt->Pos->Bool):Bool:=if h:e.ctorIdx=9 then @Stmt.For.elim (λ_=>Bool) e h k else aS
def NQ(h:Sw e k=aN):∃d g c X f,e = .For d g c X f/\k d g c X f=aN:=by
 let{h1,h}:=bN h;exact Stmt.For.elim (motive_2:=λe=>∀j,@Stmt.For.elim (λ_=>Bool) e j k=aN->∃d g c X f,e = .For d g c X f/\k d g c X f=aN) e h1 (λd g c X f _ l=>⟨d,g,c,X,f,rfl,l⟩) h1 h
abbrev D0(e:Stmt)(k:Expr->List Stmt->List Stmt->Pos->Bool):Bool:=if h:e.ctorIdx=11 then @Stmt.While.elim (λ_=>Bool) e h k else aS
def D1(h:D0 e k=aN):∃d f c X,e = .While d f c X/\k d f c X=aN:=by
 let{h1,h}:=bN h;exact Stmt.While.elim (motive_2:=λe=>∀g,@Stmt.While.elim (λ_=>Bool) e g k=aN->∃d f c X,e = .While d f c X/\k d f c X=aN) e h1 (λd f c X _ j=>⟨d,f,c,X,rfl,j⟩) h1 h
abbrev jIf(e:Stmt)(k:Expr->List Stmt->List Stmt->Pos->Bool):Bool:=if h:e.ctorIdx=12 then @Stmt.If.elim (λ_=>Bool) e h k else aS
def Sy(h:jIf e k=aN):∃d f c X,e = .If d f c X/\k d f c X=aN:=by
 let{h1,h}:=bN h;exact Stmt.If.elim (motive_2:=λe=>∀g,@Stmt.If.elim (λ_=>Bool) e g k=aN->∃d f c X,e = .If d f c X/\k d f c X=aN) e h1 (λd f c X _ j=>⟨d,f,c,X,rfl,j⟩) h1 h
abbrev Lp(e:Stmt)(k:Expr->Pos->Bool):Bool:=if h:e.ctorIdx=24 then @Stmt.Expr.elim (λ_=>Bool) e h k else aS
def HU(h:Lp e k=aN):∃X c,e = .Expr X c/\k X c=aN:=by
 let{h1,h}:=bN h;exact Stmt.Expr.elim (motive_2:=λe=>∀d,@Stmt.Expr.elim (λ_=>Bool) e d k=aN->∃X c,e = .Expr X c/\k X c=aN) e h1 (λX c _ f=>⟨X,c,rfl,f⟩) h1 h
abbrev qv(e:Stmt)(k:Pos->Bool):Bool:=if h:e.ctorIdx=27 then @Stmt.Continue.elim (λ_=>Bool) e h k else aS
def uw(h:qv e k=aN):∃X,e = .Continue X/\k X=aN:=by
 let{h1,h}:=bN h;exact Stmt.Continue.elim (motive_2:=λe=>∀c,@Stmt.Continue.elim (λ_=>Bool) e c k=aN->∃X,e = .Continue X/\k X=aN) e h1 (λX _ d=>⟨X,rfl,d⟩) h1 h
abbrev sg(e:Expr):Bool:=e.ctorIdx == 8 || e.ctorIdx == 9 || e.ctorIdx == 10
abbrev HV(k:Expr->Expr->Bool)(s:Stmt):Bool:=se s λc v _=>l1 c λT=>k T v
abbrev Lq(k l m:Expr->Bool)(s:Stmt):Bool:=se s λT z _=>l1 T λc=>dX c λx y _=>k z && l x && m y && aF y
abbrev zEx(k:Expr->Bool)(s:Stmt):Bool:=Lp s λv _=>k v && !(sg v)
abbrev AG(k:Expr->Bool)(s:Stmt):Bool:=yJ s λv _=>oA v k
abbrev zIf(k:Expr->Bool)(l m:List Stmt->Bool)(s:Stmt):Bool:=jIf s λt p q _=>k t && l p && m q
abbrev Sz(k:Expr->Expr->Bool)(l:List Stmt->Bool)(s:Stmt):Bool:=Sw s λT i p q _=>q.isEmpty && k T i && l p
abbrev D2(k:Expr->Bool)(l:List Stmt->Bool)(s:Stmt):Bool:=D0 s λt p q _=>q.isEmpty && k t && l p
abbrev SD(s:Stmt):Bool:=qv s λ_=>aN
section
variable {s:Stmt} {k l m:Expr->Bool}
def wQ{k:Expr->Expr->Bool}(h:HV k s=aN):∃T v p,s = .Assign [T] v p/\k T v=aN:=by
 let{c,v,p,rfl,h}:=qt h;let{T,rfl,h}:=cv h;exact⟨T,v,p,rfl,h⟩
def HW(h:Lq k l m s=aN):∃x y q z p,s = .Assign [.Subscript x y q] z p/\k z=aN/\l x=aN/\m y=aN/\aF y=aN:=by
 let{T,v,p,rfl,h}:=qt h;let{c,rfl,h}:=cv h;let{x,y,q,rfl,h}:=dz h;exact{x,y,q,v,p,rfl,an4 h}
def Lr(h:zEx k s=aN):∃v p,s = .Expr v p/\k v=aN/\sg v=aS:=by
 let{v,p,rfl,h}:=HU h;let{h1,h2}:=an2 h;exact{v,p,rfl,h1,by cases e:sg v;rfl;rw[e]at h2;cases h2}
def ot(h:AG k s=aN):∃v p,s = .Return (aw v) p/\k v=aN:=by
 let{v,p,rfl,h}:=AF h;let{v,rfl,h}:=lX h;exact⟨v,p,rfl,h⟩
def D3{l m:List Stmt->Bool}(h:zIf k l m s=aN):∃t p q r,s = .If t p q r/\k t=aN/\l p=aN/\m q=aN:=by
 let{t,p,q,r,rfl,h}:=Sy h;exact{t,p,q,r,rfl,an3 h}
def NR{k:Expr->Expr->Bool}{l:List Stmt->Bool}(h:Sz k l s=aN):∃T i p q,s = .For T i p [] q/\k T i=aN/\l p=aN:=by
 let{T,i,p,q,r,rfl,h}:=NQ h;let{h1,Z}:=an3 h;cases cu h1;exact⟨T,i,p,r,rfl,Z⟩
def D4{l:List Stmt->Bool}(h:D2 k l s=aN):∃t p q,s = .While t p [] q/\k t=aN/\l p=aN:=by
 let{t,p,q,r,rfl,h}:=D1 h;let{h1,Z}:=an3 h;cases cu h1;exact⟨t,p,r,rfl,Z⟩
def NS(h:SD s=aN):∃p,s = .Continue p:=by let{p,rfl,_}:=uw h;exact⟨p,rfl⟩
end
mutual
noncomputable def NT(T:Tab):Nat->Blk->Stmt->CS->Bool
 |0,_,_,_=>aS
 |n+1,b,s,c=>match c with
  |.a t e=>HV (λd v=>wP T n b d v t e) s
  |.j v o i=>Lq (λx=>aJ T n b x v) (λx=>aJ T n b x o) (λx=>aJ T n b x i) s
  |.ex e=>zEx (λx=>aJ T n b x e) s
  |.ret e=>AG (λx=>aJ T n b x e) s
  |.i c x y=>zIf (λe=>fC T n b e c) (λp=>ou T n b p x) (λp=>ou T n b p y) s
  |.f t it x=>Sz (λd i=>ul T n b d i it && wz b d t) (λp=>ou T n b p x) s
  |.g c x=>D2 (λe=>fC T n b e c) (λp=>ou T n b p x) s
  |.cnt=>SD s
  |.never=>aN
noncomputable def ou(T:Tab):Nat->Blk->List Stmt->List CS->Bool
 |0,_,_,_=>aS
 |n+1,b,ss,cs=>match cs with
  |[]=>ss.isEmpty
  |c::cs=>lC ss λs ss=>NT T n b s c && ou T n b ss cs
end
section
variable {T:Tab} {C:Calls} {l:Nat->Nat} {k n:Nat} {b:Blk} {X:Cx}
def HX{c:Nat}(h:aJ T (n+1) b (.Tuple E c p) (.tup d)=aN):eZ T n b E d=aN:=h
def D5{f:Nat}(h:aJ T (n+1) b (.Tuple j f p) c=aN):∃cs,c = .tup cs:=by
 cases c with
 |tup cs=>exact⟨cs,rfl⟩
 |o own E cls=>
  cases cls with
  |nil=>exact absurd h Zd
  |cons g d=>let{o,I,cond}:=g;exact absurd h Zd
 |_=>exact absurd h Zd
def ow:∀ (g:List Tg) (f:List D) (h c:Rho),aQ g f h=aw c->g.length=f.length
 |[],[],_,_,_=>rfl
 |[],_::_,_,_,e=>by simp[aQ]at e
 |_::_,[],_,_,e=>by simp[aQ]at e
 |t::g,d::f,h,c,e=>by
  simp![aQ]at e;split at e
  .simp[ow _ _ _ _ e]
  .cases e
def D6{K:V5}{x:XA}{o:List Tg}{D:Ends}{u:L2.St}{H:Hp}(h:tSt K (pz (nq nv x) (.tup o)) D u H):tAr K x u H λy H1=>∃m1 d f g,EnvR K m1 H1 d u/\VDs K m1 H1 g y/\aQ o g d=aw f/\∀c,EnvR K m1 H1 f c->D.nx c H1:=by
 let{m,d,S,O,f,Q,E,R,e,q}:=h;delta pz at e;cases p:nq nv x d S with
 |none=>rw[p]at e;cases e
 |some r=>
  rw[p]at e;let{g,L,B,j}:=ac p;delta nv at j;split at j
  .cases j;dsimp! at e;simp![aB]at e;cases hb:aQ o g d with
   |none=>rw[hb]at e;cases e
   |some I=>
    rw[hb]at e;cases e;exact{m,d,S,g,_,E,R,B,λm1 H1 y v vd=>{m1,d,_,g,E.mono R v.ext,vd,hb,λc J=>q m1 H1 v c J}}
  .cases j
def D7{K:V5}{x:XA}{g:L2.St}{H:Hp}{Q Q':List V->Hp->Prop}(h:tAr K x g H Q)(f:∀v c,Q v c->Q' v c):tAr K x g H Q':=by
 let{m,j,S,d,p,E,R,e,q}:=h;exact{m,j,S,d,p,E,R,e,λo c v A vd=>f _ _ (q o c v A vd)}
def D8{f c:Rho}{i:Nat}{d:D}(h:(if i < f.length then aw (f.set i (aw d)) else aD)=aw c):c=f.set i (aw d):=by
 split at h
 .cases h;rfl
 .cases h
def HY{K:V5}{x:XA}{i j:Nat}{D:Ends}{d:L2.St}{H:Hp}(h:tSt K (pz (nq nv x) (.tup [.n i,.n j])) D d H):Ro i j (tAr K x) D d H:=by
 calc D7 (D6 h) λB I ⟨m1,y,g,o,E,vd,e,q⟩=>?_;let u:=ow _ _ _ _ e
 match o,u with
 |[a,c],_=>
  let{v,w,rfl,f,p}:=G9 vd;calc{v,w,rfl,q _ ?_};simp![aQ,aB]at e;split at e
  .rename_i r1 h1;let:=D8 h1;subst this;split at e
   .rename_i r2 h2;let:=D8 h2;subst this;cases e;exact(E.set f).set p
   .cases e
  .cases e
def D9(h:aJ T (n+1) b (.ListComp e gs d p) c=aN):∃own E o I cond f t i ifs g,c = .o own E (⟨o,I,cond⟩::f)/\gs=⟨t,i,ifs,0⟩::g ∧
  cmB own (nY own b.N) b.N d b.sc=aN/\ul T n b t i I=aN/\wz (b.inner own d) t o=aN/\DP (fC T n (b.inner own d)) ifs cond=aN/\qm T n (b.inner own d) e g E f=aN:=by
 cases c with
 |o own E cls=>
  .let{o,I,cond,f,rfl,v}:=Ln h;let{L,t,i,ifs,g,j,J,B,u}:=yD v;cases B;let{q,h1,h2,y,h4}:=an5 u;exact⟨own,E,o,I,cond,f,t,i,ifs,g,rfl,rfl,q,h1,h2,y,h4⟩
 |_=>exact absurd h Zd
end
section
variable {T:Tab} {C:Calls} {A:Nat->Nat} {k n:Nat} {b:Blk} {X:Cx}
def yK(h:X.env.scope.kind = .function):X.env.blockKind = .function:=by
 delta Env.blockKind;rw[h];rfl
def HZ{c:Type}{l:List c}(h:l.length=2):∃a b,l=[a,b]:=by
 match l,h with
 |[a,b],_=>exact⟨a,b,rfl⟩
def NU(G:CtxOk T C A k b X)(hk:X.env.scope.kind = .function){tg e:Expr}{t:Tg}{c:CE}{p:Pos}(h:wP T n b tg e t c=aN):PS X (.Assign [tg] e p) (tSt X.K (pz (evE C A n c) t)):=by
 let hb:=yK hk;delta wP at h;cases t with
 |n i=>
  dsimp! at h;cases u:DB tg with
  |none=>rw[u]at h;cases h
  |some r=>
  let{x,px}:=r;rw[u]at h;rw[rT u];simp![bAE]at h;let{⟨⟨h1,h2⟩,d⟩,h4}:=h;let hi:X.N[i]?=aw x:=by rw[G.hN];simpa using h2
  let nd:X.N.Nodup:=by rw[G.hN];exact G.nd
  let o:=G.own d;let Z:=DY (sc:=b.sc) (v:=e) (t:=x) (pos:=px) (line:=p.line) hb G.hs;cases B:swW b.sc e x px with
  |false=>
   rw[B]at Z;exact PS.imp (Mg nd hi o.1 ((snd n).e b X e c G h1) Z o.2) λD σ H q=>mq (wq q) λv H' z=>rN z
  |true=>
   rw[B]at h4 Z;simp![Xa,Ws,bAE]at h4;let{h5,h4}:=h4;let{el,gs,f,pp,rfl,_}:=lc h5
   .cases n with
    |zero=>exact absurd h1 Zd
    |succ n=>
     let{own,Q,tg',it,cond,E,tt,ii,ifs,gs',rfl,rfl,c0,c1,c2,c3,c4}:=D9 h1;let S:CmScope own (nY own b.N) b.N f b.sc:=Ck _ c0;let S':CmScope own (nY own b.N) X.N f X.env.scope:=by rw[G.hN,G.hs];exact S
     let hpl:=iH c1 (λe he env=>fP he) X.env;let u:X.env.scope.names.lookup x=aw .local:=by rw[G.hs];simpa using h4
     refine PS.imp (GM (g:=tTg X.K tg') (ti:=ifT C A n X.K cond) (t:=λl=>tCl X.K l (iS C A n Q E)) G.calm S' nd hi u ((snd n).i [] b X tt ii it G c1) (λJ ex s H=>iI (G.inner S (C':=J) (ex:=ex) (s:=s) (H:=H)) c2) (λJ ex s H=>oo (snd n) (G.inner S (C':=J) (ex:=ex) (s:=s) (H:=H)) c3)
      (λJ ex s H l=>(snd n).cl _ _ el gs' Q E (G.inner S (C':=J) (ex:=ex) (s:=s) (H:=H)) c4 _ f pp l 0 rfl) Z hpl) λD σ H q=>?_
     exact yw (λl D σ H z=>wM z) (tS (mq (wq q) λv H' z=>rN z))
 |tup gs=>
  dsimp! at h;cases u:AA tg with
  |none=>rw[u]at h;cases h
  |some r=>
  let{I,U,pt}:=r;rw[u]at h;rw[rV u];simp![bAE]at h;let{h1,d}:=h;let so:Za6 [.Tuple I U pt] e p.line X.env=pure aS:=uu λx p z=>nomatch z
  let plain:∀ (B:Za4 [.Tuple I U pt] e X.env=pure aD) (hg:nZ b I gs=aN),PS X (.Assign [.Tuple I U pt] e p) (tSt X.K (pz (evE C A n c) (.tup gs))):=λB hg=>
   PS.imp (qT ((snd n).e b X e c G h1) (iI G (e:=.Tuple I U pt) (t:=.tup gs) hg) so B rfl) λD σ H q=>wq q
  cases O:AA e with
  |none=>
   rw[O]at d;simp![bAE]at d;exact plain (mv (.inl λes k p z=>by rw[z]at O;cases O)) d.2
  |some q=>
   let{es,ke,pe}:=q;rw[O]at d;obtain rfl:=rV O;cases n with
   |zero=>exact absurd h1 Zd
   |succ n=>
    let{cs,rfl}:=D5 h1;let ha:=HX h1;dsimp! at d;cases hr:yI b.sc I es with
    |none=>rw[hr]at d;cases d
    |some w=>
     let B:=Su (k:=U) (p:=pt) (k2:=ke) (p2:=pe) hb G.hs hr;rw[hr]at d;cases w with
     |none=>exact plain B d
     |some ns=>
      dsimp! at d;cases ht:tgL gs with
      |none=>rw[ht]at d;cases d
      |some is=>
       rw[ht]at d;simp![bAE]at d;let{⟨L,Y⟩,d}:=d;let hn:nmL I=aw ns:=by simpa using L
       let hl:es.length=ns.length:=by simpa using Y
       clear L Y;obtain rfl:=DZ ht;delta Sv at d;split at d
       .rename_i x y;split at d
        .rename_i i j;let{p1,t1,rfl,hn1}:=uv hn;let{p2,t2,rfl,hn2}:=uv hn1;obtain rfl:=HS hn2;let{a1,a2,rfl}:=HZ hl;simp![bAE]at d;let{⟨⟨⟨q2,q3⟩,q4⟩,q5⟩,q6}:=d;exact PS.imp (Mh (i:=i) (j:=j) G.calm (by rw[G.hN];exact G.nd) (by rw[G.hN];simpa using q2) (by rw[G.hN];simpa using q3) (by simpa using q4) (by rw[G.hs];simpa using q5) (by rw[G.hs];simpa using q6) ((snd n).a b X _ cs G ha) B so) λD σ H q=>HY q
        .cases d
       .cases d
def ux{l:Nat}(h:sg v=aS):Za5 v aD l X.env=pure aS:=by
 delta Za5;cases v <;> first |rfl |(exact absurd h (λz=>Zd z.symm))
structure SndS(T:Tab)(C:Calls)(A:Nat->Nat)(k n:Nat):Prop where
 s:∀ (b:Blk) (X:Cx) (s:Stmt) (c:CS),CtxOk T C A k b X->X.env.scope.kind = .function->NT T n b s c=aN->PS X s (tSt X.K (evS C A n c))
 ss:∀ (b:Blk) (X:Cx) (s:List Stmt) (c:List CS),CtxOk T C A k b X->X.env.scope.kind = .function->ou T n b s c=aN->PSs X s (tSt X.K (fE C A n c))
def SE{K:V5}{D:Ends}{d:L2.St}{H:Hp}(h:tSt K HR D d H):False:=by
 let{m,f,S,g,c,j,E,R,e,q}:=h;cases e
def NV:∀n,SndS T C A k n
 |0=>{λb X s c _ _ h=>absurd h Zd,λb X s c _ _ h=>absurd h Zd}
 |n+1=>by
  let I:=NV n;refine{λb X s c G f h=>?_,λb X ss g G f h=>?_}
  .let l:PassesOwn (model X.prog X.w) X.A X.env X.xe:=by rw[G.xe];exact PassesOwn.never
   cases c with
   |a t e=>let{B,v,p,rfl,h1}:=wQ h;exact NU G f h1
   |j v o i=>
    let{x,y,L,z,p,rfl,h1,h2,j,pl}:=HW h
    exact PS.imp (qT ((snd n).e b X z v G h1) (Mf ((snd n).e b X x o G h2) ((snd n).e b X y i G j) (RV (oq G.room)) (λv=>by
     cases y <;> first | rfl | (exact absurd pl Zd))) (uu λx p z=>nomatch z) (mv (.inr (.inr ⟨_,_,_,rfl⟩))) rfl) λD d H q=>Hq q
   |ex e=>let{v,p,rfl,h1,h2}:=Lr h;exact PS.imp (xS ((snd n).e b X v e G h1) (ux h2)) λD d H q=>Ho q
   |ret e=>let{v,p,rfl,h1}:=ot h;exact PS.imp (vD ((snd n).e b X _ _ G h1)) λD d H q=>Nj q
   |i c x y=>let{t,p,q,r,rfl,h1,h2,j}:=D3 h;exact PS.imp (xT ((snd n).t b X _ _ G h1) (I.ss b X _ _ G f h2) (I.ss b X _ _ G f j)) λD d H q=>R7 q
   |f t J x=>
    let{B,i,p,u,rfl,h1,h2}:=NR h;let h1:=an2 h1;exact PS.imp (Mj l G.calm ((snd n).i [] b X _ _ _ G h1.1) (iI G h1.2) (I.ss b X _ _ G f h2) (iH h1.1 (λe E env=>fP E) X.env)) λD d H q=>Nm q
   |g c x=>let{t,p,q,rfl,h1,h2}:=D4 h;exact PS.imp (BJ l ((snd n).t b X _ _ G h1) (I.ss b X _ _ G f h2)) λD d H q=>C6 q
   |cnt=>let{p,rfl}:=NS h;exact PS.imp sV λD d H q=>Nk q
   |never=>exact PS.imp sW λD d H q=>(SE q).elim
  .cases g with
   |nil=>rw[cu h];exact PSs.imp jD λD d H q=>Hn q
   |cons c g=>
    let{s,ss,rfl,h}:=cb h;let h:=an2 h;exact PSs.imp (b5 (I.s b X s c G f h.1) (I.ss b X ss g G f h.2)) λD d H q=>Ni q
end
abbrev wIs(b:Blk)(x:Str)(e:Expr):Bool:=n9 b "isinstance" (fB λy=>b.N[0]? == aw y && b.vis y) (fB λy=>y == x && b.glo y) e
abbrev AH(k:Str->Expr->Bool):List Str->List Expr->Bool
 |[],E=>E.isEmpty
 |x::xs,E=>lC E λe E=>aF e && k x e && AH k xs E
abbrev wV(b:Blk)(i:Nat)(e:Expr):Bool:=fB (λy=>b.N[i]? == aw y && b.vis y) e
abbrev wTg(b:Blk)(i:Nat)(e:Expr):Bool:=fB (λy=>b.N[i]? == aw y && b.own y) e
abbrev wMt(b:Blk)(m:Str)(e:Expr):Bool:=wG m (wV b 1) (λE=>l1 E λe=>sBl aN e) e
abbrev yL(b:Blk)(c:List Str)(s:Stmt):Bool:=HV (λT v=>wTg b 1 T && NB .Add (wV b 1) (AB (AH (wIs b) c)) v) s
abbrev SF(b:Blk)(c:List Str)(s:Stmt):Bool:=HV (λT v=>wTg b 1 T && AB (AH (wIs b) c) v) s
abbrev SG(b:Blk)(s:Stmt):Bool:=zIf (AE .Or (DE .NotEq (wMt b "count") (rX 1)) (AC .Or (HE (wIs b "ValueError")) (DE .Gt (wMt b "index") (rX 1)))) (λss=>l1 ss λs=>AG (DC "other") s) (λss=>ss.isEmpty) s
abbrev SH(b:Blk)(c:List Str)(s:Stmt):Bool:=AG (sIx (AB (AH DC c)) (wMt b "index")) s
abbrev uy(b:Blk)(c f:List Str)(ss:List Stmt):Bool:=
 jc b.N && b.N.length == 2 && b.glo "isinstance" && lC ss λh ss=>lC ss λj ss=>lC ss λg ss=>lC ss λd ss=>lC ss λk ss=>l1 ss λl=>
  SF b (c.take 4) h && yL b ((c.drop 4).take 4) j && yL b ((c.drop 8).take 4) g && yL b (c.drop 12) d && SG b k && SH b f l
abbrev jh(H h:Hp):Prop:=∀p o,H p=aw o->h p=aw o
def jh.upd(h:H p=aD):jh H (L2.upd H p o):=λq u e=>by rw[ax (aR e h)];exact e
def jh.trans(a:jh H h)(b:jh h H2):jh H H2:=λp o e=>b p o (a p o e)
section
variable {X:Cx}
def AI:MtR X "list.count" (λx d H Q=>∃l xs y,x = .ref l/\d=[y]/\H l=aw (.lst xs)/\b6 y=aN/\xs.all b6=aN/\Q (.int ((xs.countP λz=>eqV z y:Nat):Int)) H):=by
 intro f s E H x d v U Q I k C h;let{p,xs,y,rfl,rfl,g,o,fs,q}:=h;cases k;let{u,rfl,B}:=C.one;let{_,c,n,r,e}:=I.hok p _ g;calc Zal Vy ⟨_,e,rfl⟩ PySem.F.entry_list_count (PySem.F.args_list_count_2 _ _) (SeqAt.list_countAt p c.toArray n aD #[] u (eqU y)) {e,λw j=>cj B o r fs w (by simpa using j),?_};refine{.int _,H,I.tok _,⟨_,rfl⟩,?_}
 let z:(c.toArray.toList.countP (eqU y))=xs.countP λz=>eqV z y:=by
  rw[XG];exact jd r fs
 rw[z];exact q
def AJ:MtR X "list.index" (λx J H Q=>∃l xs y,∃j:Nat,∃z,x = .ref l/\J=[y]/\H l=aw (.lst xs)/\b6 y=aN/\xs.all b6=aN/\j < 100/\xs[j]?=aw z/\eqV z y=aN/\(∀ (m:Nat) z,m < j->xs[m]?=aw z->eqV z y=aS)/\Q (.int (j:Int)) H):=by
 intro O s σ H x J v us Q I Y rv h;let{p,xs,y,j,z,rfl,rfl,T,Z,fs,hj,L,B,C,q}:=h;cases Y;let{u,rfl,ru}:=rv.one;let{_,c,n,r,e}:=I.hok p _ T
 let at_:∀m (k:m < c.toArray.size),∃w,xs[m]?=aw w/\eqU y c.toArray[m]=eqV w y:=λm k=>by
  let d:m < xs.length:=by rw[r.length];simpa using k
  let{u',hu,U}:=r.get (i:=m) (gEG d);refine{xs[m],gEG d,?_}
  let E:c.toArray[m]=u':=by
   let:=Zb.mp hu;let{_,z}:=this
   simpa using z
  rw[E];exact qZ U (ZM.mp fs _ (ZS d))
 let g:j < c.toArray.size:=by let:=(Zb.mp L).1;rw[r.length]at this;simpa using this
 refine Zal Vz ⟨_,e,rfl⟩ PySem.F.entry_list_index (PySem.F.args_list_index_2 _ _) (SeqAt.list_indexAt p c.toArray n aD #[] u (eqU y) j g (by lia) ?_ ?_) {e,λw f=>cj ru Z r fs w (by simpa using f),?_}
 .let{w,f,E}:=at_ j g;rw[L]at f;cases f;rw[E];exact B
 .intro m k o;let{w,f,E}:=at_ m k;rw[E];exact C m w o f
 .exact{.int _,H,I.tok _,⟨_,rfl⟩,q}
end
section
variable {X:Cx} {b:Blk} {a C R:Addr}
def uz(hs:X.env.scope=b.sc)(h:b.glo x=aN):Gl X x/\(x == ("__debug__" : Str))=aS:=by
 delta Blk.glo at h;rw[bAE]at h;calc{?_,by simpa using h.2};show X.env.scope.names.lookup x=_;rw[hs]
 simpa using h.1
def qw(hs:X.env.scope=b.sc)(hN:X.N=b.N){i:Nat}(h:wV b i e=aN):PE X e (Bv i):=by
 let{x,p,rfl,d}:=b8 h;let{h1,h2}:=an2 d;delta Blk.vis at h2;rw[bAE,bAE]at h2;calc qR (i:=i) (by rw[hN];exact eq_of_beq h1) ?_ (by simpa using h2.1.2) (by simpa using h2.2);delta Vis;rw[hs];let c:=h2.1.1;split at c
 .rename_i e;exact .inl e
 .rename_i e;exact .inr (.inl e)
 .rename_i e;exact .inr (.inr e)
 .cases c
def Ea(hC:bJ X.base C (.ref R::bmV))(hR:bJ X.base R bmV):aZ X (.builtin "isinstance") (λxs H Q=>∃D,xs=[.ref a,.ref D]/\H a=aw (exO a C)/\qp X.base D/\D≠R/\Q (.bl (C == D)) H):=by
 intro p s l H xs u Q I c h;let{D,rfl,f,⟨g,k,sl,d⟩,j,q}:=h;cases c with
 |cons r1 c=>
  cases c with
  |cons r2 c=>
   cases c;cases r1;cases r2;exact isx (hC.keeps I.bk) (hR.keeps I.bk) (I.hok a _ f).1 {g,k,sl,I.bk _ _ d} j λT=>{.bl _,H,I.tok _,rfl,q}
def Eb(hC:bJ X.base C (.ref R::bmV))(hR:bJ X.base R bmV):aZ X (.builtin "isinstance") (λxs H Q=>xs=[.ref a,.ty "ValueError"]/\H a=aw (exO a C)/\Q (.bl aN) H):=by
 intro p s f H xs u Q I c h;let{rfl,d,q}:=h;cases c with
 |cons r1 c=>
  cases c with
  |cons r2 c=>
   cases c;cases r1;cases r2;exact isv (hC.keeps I.bk) (hR.keeps I.bk) (I.hok a _ d).1 λT=>{.bl _,H,I.tok _,rfl,q}
def U4(hs:X.env.scope=b.sc)(hN:X.N=b.N)(hb:X.mg "isinstance" = aD)(hC:bJ X.base C (.ref R::bmV))(hR:bJ X.base R bmV){x:Str}{D:Addr}{e:Expr}(l:X.mg x=aw (.ref D))(h:wIs b x e=aN) :
  PE X e (λd H Q=>d[0]?=aw (aw (.ref a))/\H a=aw (exO a C)/\qp X.base D/\D≠R/\Q (.bl (C == D)) H):=by
 let{B,y,p,u,rfl,h2,f,c,j,_}:=cX h;let{y,g,rfl,o}:=b8 j;let{k,h4}:=an2 o;let n:=eq_of_beq k;subst n;exact PE.imp (fm (Ea (a:=a) hC hR) (uz hs h2).1 hb WG (bL (qw hs hN f) (bB (lY (v:=.ref D) (uz hs h4).1 l rfl (uz hs h4).2) rfl) c) (by decide) (uz hs h2).2 (ai c) rfl) λd H Q q=>⟨_,q.1,D,rfl,q.2.1,q.2.2.1,q.2.2.2.1,q.2.2.2.2⟩
def SI(hs:X.env.scope=b.sc)(hN:X.N=b.N)(hb:X.mg "isinstance" = aD)(g:X.mg "ValueError" = aD)(hC:bJ X.base C (.ref R::bmV))(hR:bJ X.base R bmV)(h:wIs b "ValueError" e=aN) :
  PE X e (λd H Q=>d[0]?=aw (aw (.ref a))/\H a=aw (exO a C)/\Q (.bl aN) H):=by
 let{B,y,p,u,rfl,h2,f,c,k,_}:=cX h;let{y,j,rfl,o}:=b8 k;let{l,h4}:=an2 o;let n:=eq_of_beq l;subst n;exact PE.imp (fm (Eb (a:=a) hC hR) (uz hs h2).1 hb WG (bL (qw hs hN f) (bB (ip (v:=.ty "ValueError") (uz hs h4).1 g PyProof.Rows.Boot.«ValueError» rfl (by decide) (uz hs h4).2) rfl) c) (by decide) (uz hs h2).2 (ai c) rfl) λd H Q q=>⟨_,q.1,rfl,q.2.1,q.2.2⟩
inductive Cls2(X:Cx)(R:Addr):List Str->List Addr->Prop
 |nil:Cls2 X R [] []
 |cons {x:Str} {D:Addr} {xs:List Str} {Ds:List Addr}:X.mg x=aw (.ref D)->qp X.base D->D≠R->Cls2 X R xs Ds->Cls2 X R (x::xs) (D::Ds)
def Ec(hs:X.env.scope=b.sc)(hN:X.N=b.N)(hb:X.mg "isinstance" = aD)(hC:bJ X.base C (.ref R::bmV))(hR:bJ X.base R bmV):∀ {f:List Str} {d:List Addr} {E:List Expr},Cls2 X R f d->AH (wIs b) f E=aN ->
  PA X E (λc H Q=>c[0]?=aw (aw (.ref a))/\H a=aw (exO a C)/\Q (d.map λD=>.bl (C == D)) H)
 |_,_,E,.nil,h=>by rw[cu h];exact PA.imp qV λc H Q q=>q.2.2
 |_,_,E,.cons h1 h2 h3 t,h=>by
  let{e,E,rfl,h}:=cb h;let{j,g,p}:=an3 h;exact PA.imp (bL (U4 hs hN hb hC hR h1 g) (Ec hs hN hb hC hR t p) j) λc H Q q=>⟨q.1,q.2.1,h2,h3,q.1,q.2.1,q.2.2⟩
def Ed:∀ {c:List Str} {E:List Expr},AH DC c E=aN->PA X E (λd H Q=>Q (c.map V.str) H)
 |[],E,h=>by rw[cu h];exact PA.imp qV λd H Q q=>q
 |w::c,E,h=>by
  let{e,E,rfl,h}:=cb h;let{g,f,p}:=an3 h;let{_,_,rfl}:=wH f;exact PA.imp (bL qS (Ed p) g) λd H Q q=>q
def SJ(hs:X.env.scope=b.sc)(hN:X.N=b.N)(d:X.fn=λ_=>aN)(c:b.N.Nodup){i:Nat}(h:wTg b i e=aN):∃x p,e = .Name x p/\PG X e (pM i):=by
 let{x,p,rfl,f}:=b8 h;let{h1,h2}:=an2 f;calc{x,p,rfl,xU (by rw[hN];exact c) (by rw[hN];exact eq_of_beq h1) ?_ (.inl (by rw[d]))};delta Blk.own at h2;delta L2.Loc;rw[hs];split at h2
 .rename_i e;exact .inl e
 .rename_i e;exact .inr e
 .cases h2
def Ee{l:Nat}(c:X.env.blockKind = .function)(hs:X.env.scope=b.sc)(h:wN e=aD):Za6 [.Name x p] e l X.env=pure aS:=by
 let z:=DY (sc:=b.sc) (v:=e) (t:=x) (pos:=p) (line:=l) c hs;delta swW at z;rw[h]at z;exact z
abbrev AK(a C:Addr)(c:L2.St)(H:Hp):Prop:=c.length=2/\c[0]?=aw (aw (.ref a))/\H a=aw (exO a C)
def jY{i:Nat}(x:AK a C c H)(hi:i≠0)(e:jh H H2):AK a C (c.set i (aw v)) H2:={by simpa using x.1,by rw[Zq hi];exact x.2.1,e _ _ x.2.2}
variable (c:X.env.blockKind = .function) (d:X.env.scope=b.sc) (f:X.N=b.N) (k:X.fn=λ_=>aN) (n:b.N.Nodup) (o:X.mg "isinstance" = aD) (u:X.mg "ValueError" = aD) (A:bJ X.base C (.ref R::bmV)) (B:bJ X.base R bmV)
include c d f k n o A B in
def SK(I:Cls2 X R J E)(hl:E.length<=100)(h:SF b J s=aN):PS X s (λD j H=>AK a C j H/\∀q y,jh H y->y q=aw (.lst (E.map λD=>.bl (C == D)))->D.nx (j.set 1 (aw (.ref q))) y):=by
 let{U,v,p,rfl,h}:=wQ h;let{h1,h2}:=an2 h;let{x,O,rfl,g}:=SJ d f k n h1;let{T,L,rfl,h2}:=og h2;calc PS.imp (qT (mR (Ec (a:=a) d f o A B I h2)) g (Ee c d rfl) (mv (.inr (.inl ⟨_,_,rfl⟩))) rfl) λD j H Q=>?_;let{e,q}:=Q;exact{e.2.1,e.2.2,by rw[Za,Za0];lia,λl hl=>q l _ (jh.upd hl) aG}
include c d f k n o A B in
def wR(Z:Cls2 X R T L)(hl:L.length<=100)(h:yL b T s=aN):PS X s (λD j H=>AK a C j H/\∃l xs,j[1]?=aw (aw (.ref l))/\H l=aw (.lst xs)/\xs.length<=100/\∀q J,jh H J->J q=aw (.lst (xs++L.map λD=>.bl (C == D)))->D.nx (j.set 1 (aw (.ref q))) J):=by
 let{tg,v,p,rfl,h}:=wQ h;let{h1,h2}:=an2 h;let{x,p1,rfl,g}:=SJ d f k n h1;let{y,z,p3,rfl,U,h4}:=DJ h2;let{es,p2,rfl,h4}:=og h4;calc PS.imp (qT (KW B1 (qw d f U) (mR (Ec (a:=a) d f o A B Z h4))) g (Ee c d rfl) (mv (.inr (.inl ⟨_,_,rfl⟩))) rfl) λD j H Q=>?_;let{e,l,xs,I,E,hl3,q}:=Q;calc{_,I,e.2.1,e.2.2,by rw[Za,Za0];lia,λp O=>?_};calc{l,p,xs,_,rfl,rfl,jh.upd O _ _ E,aG,by rw[Za,Za0];lia,λr Y=>?_};exact q r _ ((jh.upd O).trans (jh.upd Y)) aG
include d f in
def SL(h:wMt b "count" e=aN):PE X e (λv H Q=>∃l xs,v[1]?=aw (aw (.ref l))/\H l=aw (.lst xs)/\xs.all b6=aN/\Q (.int ((xs.countP λz=>eqV z (.bl aN):Nat):Int)) H):=by
 let{x,E,I,p,rfl,h2,j,h4,g}:=jg h;let{y,rfl,g}:=cv g;let{_,_,rfl}:=DI g;exact PE.imp (pU W6 Vy PySem.F.type_list_count AI (qw d f h4) (bB Bw rfl) (ce h2) (iK rfl) j (ai rfl) rfl) λv H Q ⟨l,xs,h1,h2,j,q⟩=>{_,h1,.inl {rfl,xs,SqL.of h2},l,xs,.bl aN,rfl,rfl,h2,rfl,j,q}
include d f in
def Ls(h:wMt b "index" e=aN):PE X e (λE H Q=>∃l xs,∃j:Nat,∃z,E[1]?=aw (aw (.ref l))/\H l=aw (.lst xs)/\xs.all b6=aN/\j < 100/\xs[j]?=aw z/\eqV z (.bl aN)=aN/\(∀ (m:Nat) z,m < j->xs[m]?=aw z->eqV z (.bl aN)=aS)/\Q (.int (j:Int)) H):=by
 let{x,I,J,p,rfl,h2,v,h4,g}:=jg h;let{y,rfl,g}:=cv g;let{_,_,rfl}:=DI g;exact PE.imp (pU W6 Vz PySem.F.type_list_index AJ (qw d f h4) (bB Bw rfl) (ce h2) (iK rfl) v (ai rfl) rfl) λE H Q ⟨l,xs,j,z,h1,h2,v,q⟩=>{_,h1,.inl {rfl,xs,SqL.of h2},l,xs,.bl aN,j,z,rfl,rfl,h2,rfl,v,q}
abbrev Tru(xs:List V)(j:Nat):Prop:=xs.all b6=aN/\(xs.countP λz=>eqV z (.bl aN))=1/\j < 2/\∃z,xs[j]?=aw z/\eqV z (.bl aN)=aN/\∀ (m:Nat) z,m < j->xs[m]?=aw z->eqV z (.bl aN)=aS
include d f o u A B in
def SM{j:Nat}(h:SG b s=aN):PS X s (λD E H=>AK a C E H/\(∃l xs,E[1]?=aw (aw (.ref l))/\H l=aw (.lst xs)/\Tru xs j)/\D.nx E H):=by
 let{t,p,q,r,rfl,h1,h2,g}:=D3 h;let{s,rfl,h2}:=cv h2;let{v,p',rfl,h2}:=ot h2;let{_,_,rfl}:=wH h2;rw[cu g];let{x,y,z,ys,p2,rfl,h4,T}:=oi h1;let{y',Z,p5,e5,J,L}:=oh T;clear T;cases e5;let{l,z,p3,rfl,h6,h7,h8}:=rZ h4;let{_,_,rfl}:=gP h7;let{w,p4,rfl,U}:=wK J;let{l',Z,p6,rfl,O,I,h13}:=rZ L;let{_,_,rfl}:=gP I
 let Y:HB w=aN:=by
  let{_,_,_,_,rfl,_}:=cX U;rfl
 calc PS.imp (xT (xR (qU Rt (SL d f h6) i8 (dY rfl)) (xR (BC (Ma (SI (a:=a) d f o u A B U) (om Y))) (Bz (qU KY (Ls d f O) i8 (dY rfl))))).pt (jE (vD qS)) jD) λD E H Q=>?_;let{e,⟨l,xs,h1,h2,g,h4,hj,z,g1,g2,g3⟩,q}:=Q;calc{l,xs,h1,h2,g,rfl,_,rfl,?_};rw[h4];show if (!decide (V.int ((1:Nat):Int)=V.int 1))=aN then _ else _
 rw[if_neg (by decide)];calc{e.2.1,e.2.2,aN,rfl,?_};show if (!aN)=aN then _ else _
 rw[if_neg (by decide)];calc{l,xs,j,z,h1,h2,g,by lia,g1,g2,g3,_,_,rfl,rfl,_,rfl,?_};show if decide ((j:Int) > 1)=aN then _ else _
 rw[if_neg (by rw[decide_eq_true_eq];lia)];exact q
include d f in
def SN{j:Nat}(hl:g.length<=100)(h:SH b g s=aN):PS X s (λD L H=>∃l xs w,L[1]?=aw (aw (.ref l))/\H l=aw (.lst xs)/\Tru xs j/\g[j]?=aw w/\∀J,jh H J->D.rt (.str w) J):=by
 let{v,p,rfl,h}:=ot h;let{x,y,p1,rfl,h1,h2,Z}:=DM h;let{es,p3,rfl,O}:=og h1;calc PS.imp (vD (yc yd (mR (Ed O)) (Ls d f h2) (jV Z))) λD L H Q=>?_;let{l,xs,w,T,a2,⟨U,_,a4,z,Y,a6,a7⟩,E,q}:=Q;calc{by rw[Za,Za0];lia,λp I=>?_};calc{l,xs,j,z,T,jh.upd I _ _ a2,U,by lia,Y,a6,a7,p,_,(j:Int),.str w,rfl,rfl,SqL.of aG,?_,q _ (jh.upd I)};let hj:=(Zb.mp E).1;delta atI ixN;rw[if_pos (Int.natCast_nonneg j),if_pos (by rw[Za];lia)];show(g.map V.str)[(j:Int).toNat]?=_;rw[ZF,Zo,E];rfl
include c d f k o u A B in
def Ia{I ws:List Str}{g:List Addr}{i:Nat}{w:Str}{ss:List Stmt}(c1:Cls2 X R (I.take 4) (g.take 4))(c2:Cls2 X R ((I.drop 4).take 4) ((g.drop 4).take 4))(c3:Cls2 X R ((I.drop 8).take 4) ((g.drop 8).take 4))(c4:Cls2 X R (I.drop 12) (g.drop 12))
  (hl:g.length<=100) (Z:ws.length<=100) (n:g.Nodup) (hi:g[i]?=aw C) (U:i < 2) (hw:ws[i]?=aw w) (h:uy b I ws ss=aN) :
  PSs X ss (λD σ H=>AK a C σ H/\∀H2,jh H H2->D.rt (.str w) H2):=by
 delta uy at h;let{h1,h2,_,k0}:=an4 h;clear h;let{s1,ss1,p,k1}:=cb k0;subst p;let{s2,ss2,E,k2}:=cb k1;subst E;let{s3,ss3,L,k3}:=cb k2;subst L;let{s4,ss4,e4,k4}:=cb k3;subst e4;let{s5,ss5,e5,k5}:=cb k4;subst e5;let{s6,e6,k6}:=cv k5;subst e6;let{g1,g2,g3,g4,g5,g6}:=an6 k6;let nd:=gJ h1;let t1:(g.take 4).length<=100:=by rw[ZT];lia
 let t2:((g.drop 4).take 4).length<=100:=by rw[ZT];lia
 let t3:((g.drop 8).take 4).length<=100:=by rw[ZT];lia
 let t4:(g.drop 12).length<=100:=by rw[Yy];lia
 refine PSs.imp (b5 (SK (a:=a) c d f k nd o A B c1 t1 g1) (b5 (wR (a:=a) c d f k nd o A B c2 t2 g2) (b5 (wR (a:=a) c d f k nd o A B c3 t3 g3) (b5 (wR (a:=a) c d f k nd o A B c4 t4 g4) (b5 (SM (a:=a) (j:=i) d f o u A B g5)
  (jE (SN (j:=i) d f Z g6)))))) ) λD σ H q10=>?_
 let{e,q}:=q10;let el:=e.1;calc{e,λO H1 x1 y1=>?_};let p:=jY (v:=.ref O) e (by decide:1≠0) x1;calc{p,O,_,by rw[ZL (by lia)],y1,by rw[Za];exact t1,λq2 H2 x2 y2=>?_};let E:=jY (v:=.ref q2) p (by decide:1≠0) x2;calc{E,q2,_,by rw[ZL (by let:=p.1;lia)],y2,by rw[Ze,Za,Za,ZT,ZT];lia,λT H3 x3 y3=>?_};let L:=jY (v:=.ref T) E (by decide:1≠0) x3;calc{L,T,_,by rw[ZL (by let:=E.1;lia)],y3,by rw[Ze,Ze,Za,Za,Za,ZT,ZT,ZT];lia,λQ H4 x4 Y=>?_};let e4:=jY (v:=.ref Q) L (by decide:1≠0) x4
 let all:(((g.take 4).map (λD=>V.bl (C == D))++((g.drop 4).take 4).map (λD=>V.bl (C == D)))++((g.drop 8).take 4).map (λD=>V.bl (C == D)))++(g.drop 12).map (λD=>V.bl (C == D))=g.map λD=>V.bl (C == D):=by
  rw[<-ZD,<-ZD,<-ZD]
  congr 1
  let z1:g.take 4++(g.drop 4).take 4=g.take 8:=by rw[show 8=4+4 from rfl,Wu]
  let z2:g.take 8++(g.drop 8).take 4=g.take 12:=by rw[show 12=8+4 from rfl,Wu]
  rw[z1,z2,List.take_append_drop]
 rw[all]at Y;let l:∀D:Addr,eqV (V.bl (C == D)) (.bl aN)=(C == D):=λD=>by cases C == D <;> rfl
 let tr:Tru (g.map λD=>V.bl (C == D)) i:=by
  refine{by rw[Yu];exact ZM.mpr λ_ _=>rfl,?_,U,.bl (C == C),by rw[Zo,hi];rfl,by rw[l,beq_self_eq_true],λm z hm J=>?_}
  .rw[Wi]
   let:((λz=>eqV z (V.bl aN)) ∘ λD=>V.bl (C == D))=λD=>D == C:=by
    funext D
    show eqV (V.bl (C == D)) (.bl aN)=_;rw[l,Bool.beq_comm]
   rw[this];show g.count C=1;rw[n.count,if_pos (Zj hi)]
  .rw[Zo]at J;cases hd:g[m]? with
   |none=>rw[hd]at J;cases J
   |some D=>
    rw[hd]at J;cases J;rw[l];calc X1.mpr λq=>?_;let z:C=D:=by simpa using q
    subst z;let{i1,j1}:=Zb.mp hd;let{i2,j2}:=Zb.mp hi;let z2:m=i:=(YO n).mp (j1.trans j2.symm)
    lia
 let y:((((σ.set 1 (aw (.ref O))).set 1 (aw (.ref q2))).set 1 (aw (.ref T))).set 1 (aw (.ref Q)))[1]?=aw (aw (.ref Q)):=ZL (by let:=L.1;lia);exact{e4,⟨Q,_,y,Y,tr⟩,Q,_,w,y,Y,tr,hw,λH5 x5=>q H5 ((((x1.trans x2).trans x3).trans x4).trans x5)}
end
section
variable {X:Cx}
def NX(h:PA X.nox E t):PA X E t:=λc p s g H Q I f=>
 Zbt (h c p s g H Q (I.wish _) f) (λ_ _ ⟨v,d,j,r,q⟩=>⟨v,d,j.unwish,r,q⟩) λ_ _ z=>False.elim z
def NY(h:PS X.nox s t):PS X s t:=λp s d H D I c=>
 Zbt (h p s d H D (I.wish _) c) (λ_ _ z=>SP.unwish z) λ_ _ z=>False.elim z
end
noncomputable abbrev cxM(P:Program)(w:World)(K:V5)(mg:Str->Option Value)(base:Heap)(N:List Str)(q:Str)(c:Scope)(f:Addr)(C:Value)(A:Around)(outer:List Env)(s:Shared)(H:Hp):Cx:=
 {o8 CX0 P w K mg base N q c f C {A with handled:=aD} outer s H E0 with A:=A.deeper (envOfC q c s⁻¹ f C),calm:=false,xe:=λ_ _=>False}
section
variable {P:Program} {w:World} {K:V5} {m:Str->Option Value} {base:Heap} {A:Around} {O:List Env} {s:Shared} {H:Hp}
def Ef{x d:Str}{st:Stmt}{f:Addr}{L:VL}{N ps:List Str}{U:List Value}{l:List V}{Q:VK}(F:Fun K x d st f L)(S:FnScope N ps (ao st))(hd:A.depth < recursionLimit)(E:Env0 P w K m base A O s H)(hb:BindsTo s L ⟨U,[]⟩ (ps.zip U))(r:aP l U)(hl:l.length=ps.length)
  (k:∀C,∃t,PSs (cxM P w K m base N d (ao st) f C A O s H) (bu st) t/\t {nx:=λ_ h=>Q .non h,rt:=Q} (eK N l) H) :
  codeAny (model P w) A (.call (.ref f) ⟨U,[]⟩) (λr s'=>match r with |.ok (.ret u)=>L2.CE O P w H s Q u s' |_=>False) s:=by
 let{oc,od,kV,doc,pm,an,C,ct,osl,rfl,lk,B}:=F.ex;let T:K.In s.heap:=E.mod.kin.keeps λb o e=>(E.bs b o e).1;let lim:s.heap.NoLimit:=E.mod.nolimit.keeps λb o e=>(E.bs b o e).1
 let j:∀y∈ps.zip U,(ao st).names.lookup y.1=aw .local\/((ao st).names.lookup y.1=aw .cell/\((Zan (s⁻¹+1) (ao st).names []).lookup y.1).isSome=aN):=λ⟨n,v⟩ Y=>by
  rcases S.par n (Xc Y).1 with q |q
  .exact .inl q
  .exact .inr {q,V7 _ _ _ (.inl q)}
 calc Zaq hd (T _ _ lk) rfl S.co S.gen rfl (Up T B) (hb _ _ _ _ ?_);calc Zbu S.kind j λenv he s1 x=>?_;subst he;calc{lim.keeps x.toInCall.keep,codeAny_func ?_};let{t,ht,X}:=k C;let Z:Env0 P w K m base {A with handled:=aD} O s H:=⟨E.frames,E.mod,E.bs,E.bsz,E.funs,E.frf,E.hok,E.bare⟩;let c:L2.Inv (o8 CX0 P w K m base N d (ao st) f C {A with handled:=aD} O s H E0) [] (eK N l) H s1:=pT S rfl Z hl r x
 let I:L2.Inv (cxM P w K m base N d (ao st) f C A O s H) [] (eK N l) H s1:=
  ⟨{c.ok.mod,c.ok.kind,c.ok.glob,c.ok.blt,c.ok.above,c.ok.inj,c.ok.has,c.ok.cab,λz=>(nomatch z),c.ok.frames,c.ok.stk,c.ok.exf,c.ok.bs,c.ok.bsz,c.ok.noex,c.ok.exfs,c.ok.funs,c.ok.frf},c.os,c.bare,c.base,c.loc,c.cell,c.free,c.freeC,c.pin,c.hok,c.len⟩
 refine Zbt (ht [] s1 (eK N l) H _ I X) (λfl s' hs=>?_) λe s' hs=>hs.elim
 let fin:∀ {g:L2.St} {h:Hp} {v:V} {u:Value},L2.Inv (cxM P w K m base N d (ao st) f C A O s H) [] g h s'->aI v u->Q v h->L2.CE O P w H s Q u s':=
  λ{g h v u} J p q=>⟨v,h,J.os,J.bare,J.base,J.hok,p,q⟩
 cases fl with
 |ret u=>
  let{v,g,h,J,p,q}:=hs;exact fin J p q
 |next=>
  let{g,h,J,q}:=hs;exact fin (v:=V.non) (u:=Value.none) J rfl q
 |brk=>
  let{_,_,_,q}:=hs;exact False.elim q
 |cont=>
  let{_,_,_,q}:=hs;exact False.elim q
end
abbrev AL:List Str:=["lot","sky"]
abbrev si(i:Nat):Option Str:=if i=1 then aw "sky" else if i=4 then aw "lot" else aD
structure XInf(K:V5)(mg:Str->Option Value)(R:Addr)(Ds:List Addr):Prop where
 ring:mg "RingError" = aw (.ref R)
 ve:mg "ValueError" = aD
 isi:mg "isinstance" = aD
 hR:∀h,K.In h->bJ h R bmV
 hC:∀h,K.In h->∀ (i:Nat) C,Ds[i]?=aw C->i < 14->bJ h C (.ref R::bmV)
 hT:∀h,K.In h->∀D∈Ds,qp h D
 nd:Ds.Nodup
 nr:∀D∈Ds,D≠R
 nm:∀ (i:Nat) x,fk[i]?=aw x->∃D,Ds[i]?=aw D/\mg x=aw (.ref D)
 len:Ds.length=15
section
variable {X:Cx} {R:Addr}
def yM:∀ {xs:List Str} {d:List Addr},xs.length=d.length->(∀ (i:Nat) x,xs[i]?=aw x->∃D,d[i]?=aw D/\X.mg x=aw (.ref D))->(∀D∈d,qp X.base D/\D≠R)->Cls2 X R xs d
 |[],[],_,_,_=>.nil
 |x::xs,D::d,hl,h,g=>by
  let{k,e,f}:=h 0 x rfl;cases e;exact .cons f (g D Zh).1 (g D Zh).2 (yM (by simpa using hl) (λi y j=>h (i+1) y (by simpa using j)) λD c=>g D (Zf _ c))
abbrev prm{f:Type}:List f->List f
 |a::b::c::d::e::l=>e::b::a::c::d::l
 |l=>l
def uA{f:Type}:∀ (l:List f),(prm l).Perm l
 |a::b::c::d::e::l=>by
  show(e::b::a::c::d::l).Perm (a::b::c::d::e::l);calc((List.perm_middle (l₁:=[b,a,c,d]) (a:=e) (l₂:=l)).symm).trans ?_;exact List.Perm.swap a b _
 |[]=>.refl _
 |[_]=>.refl _
 |[_,_]=>.refl _
 |[_,_,_]=>.refl _
 |[_,_,_,_]=>.refl _
def Eg(h:Cls2 X R xs q):Cls2 X R (prm xs) (prm q):=by
 cases h with
 |nil=>exact .nil
 |cons d c f h=>cases h with
  |nil=>exact .cons d c f .nil
  |cons g j B h=>cases h with
   |nil=>exact .cons d c f (.cons g j B .nil)
   |cons C k l h=>cases h with
    |nil=>exact .cons d c f (.cons g j B (.cons C k l .nil))
    |cons o n p h=>cases h with
     |nil=>exact .cons d c f (.cons g j B (.cons C k l (.cons o n p .nil)))
     |cons u E v h=>exact .cons u E v (.cons g j B (.cons d c f (.cons C k l (.cons o n p h))))
def NZ{l:List Addr}{j:Nat}{C:Addr}(h:l[j]?=aw C)(hl:l.length=15)(f:j=1\/j=4):(prm l)[if j=1 then 1 else 0]?=aw C:=by
 match l,hl with
 |a::b::c::d::e::l,_=>
  rcases f with rfl |rfl <;> exact h
def kK{n:Nat}(h:Cls2 X R xs d):Cls2 X R (xs.take n) (d.take n):=by
 induction h generalizing n with
 |nil=>rw[XN,XN];exact .nil
 |cons a b c _ I=>cases n with
  |zero=>exact .nil
  |succ n=>exact .cons a b c I
def kL{n:Nat}(h:Cls2 X R xs f):Cls2 X R (xs.drop n) (f.drop n):=by
 induction h generalizing n with
 |nil=>rw[Wv,Wv];exact .nil
 |cons a b c d I=>cases n with
  |zero=>exact .cons a b c d
  |succ n=>exact I
end
def noE(x:XLeft P w l H h s B c)(f:B.get? e=aD):h e=aD:=by
 cases q:h e with
 |none=>rfl
 |some o=>let{z,Q}:=uq (x.hok e o q);rw[f]at Q;cases Q
section
variable {X:Cx} {R:Addr} {d:List Addr} {k f g:Nat} {l m:VL} {ps o N:List Str} {sp:Sp} {y A n:Str} {E:Stmt} {e:Expr} {es:List Expr} {t:TA} {p pos G J L p2 M O T U:Pos} {i:Nat}
def uB(hst:X.stack=X.env::X.outer)(hfm:X.env.frame=aw X.env.locals)(xi:XInf X.K X.mg R d)(F:FnOk X.prog X.w X.K X.mg X.base (CXE X.prog X.w) k f l ps sp)(hr:Room k X.A)(hk:RW X.K (.ref f)=aN)(hb:dI X.K l ps [])(hA:PA X.nox (e::es) t)
  (he:Za2 (e::es) X.env=(aS,eval e X.env)::Za2 es X.env) (hpl:(backTo pos (Za2 es X.env)).any (·.1)=aS)
  (FW:Fun X.K A A E g m) (SW:FnScope N o (ao E)) (bW:dI X.K m o []) (h1W:o.length=1) (cW:uy {ao E,aD,N} (prm fk) AL (bu E)=aN) (hgW:Gl X A) (hmW:X.mg A=aw (.ref g)) (hdw:(A == ("__debug__" : Str))=aS)
  (hN:X.N.Nodup) (hi:X.N[i]?=aw n) (hl:X.env.scope.names.lookup n=aw .local) (hgr:Gl X "RingError") (hn1:(n == ("__debug__" : Str))=aS) (hn2:(n == ("__classdict__" : Str))=aS) {Y:List (Addr×Obj)} {s:Shared} {σ:L2.St} {H:Hp} {D:Ends} (I:L2.Inv X Y σ H s) (h:t σ H λvs H1=>sp vs H1 D.rt λc _ H2=>∃j C w,c = .ref C/\d[j]?=aw C/\si j=aw w/\∀H3,jh H2 H3->D.rt (.str w) H3) :
  wpAny (model X.prog X.w) X.A (callWith pos (.ref f) [] (backTo pos (Za2 (e::es) X.env)) (Zae pos (ZaE [] X.env))) (λv s1=>SP X Y D (.ret v) s1)
   (λev s₁=>wpAny (model X.prog X.w) X.A (ZaM ev X.env) (λ_ s₂=>wpAny (model X.prog X.w) X.A (setFlight ev aD) (λ_ s₃=>wpAny (model X.prog X.w) X.A (handleBy ev X.env [.ExceptHandler (aw (.Name "RingError" J)) (aw n) [.Return (aw (.Call (.Name A L) [.Name n p2] [] M)) O] T]) (SP X Y D) X.xe s₃) X.xe s₂) X.xe s₁) s:=by
 calc V6 (h₀:=X.base) I.ok.mod.kin hk (Zbt (hA pos Y s σ H _ (I.wish _) h) (λus s1 ⟨vs,H1,I1,r,q⟩=>{I1.unwish.kIn,?_}) λ_ _ z=>z.elim) he hpl;let I1:L2.Inv X Y σ H1 s1:=I1.unwish;let hlen:us.length=ps.length:=by rw[<-r.length];exact F.len _ _ _ _ q
 let hb':=hb s1 us I1.kIn (by rw[ZU];exact hlen);rw[ZU]at hb';calc wpAny_call (Zar (F.run X.A X.stack s1 H1 ⟨us,[]⟩ us vs _ _ hr I1.env0 hb' r q) λr s' Z=>?_);cases r with
 |ok fl=>
  cases fl with
  |ret u=>
   let{v,H',I',rv,z}:=I1.after Z;exact⟨v,σ,H',I',rv,z⟩
  |next=>exact False.elim Z
  |brk=>exact False.elim Z
  |cont=>exact False.elim Z
 |error ev=>
  let{a,c,a0,H',B,rfl,fl,x,j,C,w,rfl,hj,hw,q}:=Z
  let hj13:j=1\/j=4:=by
   delta si at hw;split at hw
   .exact .inl ‹_›
   .split at hw
    .exact .inr ‹_›
    .cases hw
  let hj14:j < 14:=by lia
  let hw2:AL[if j=1 then 1 else 0]?=aw w:=by rcases hj13 with rfl |rfl <;> exact hw
  let hC:=xi.hC _ I.ok.mod.kin j C hj hj14;let hR:=xi.hR _ I.ok.mod.kin;let hH':=noE x fl.2.1;calc HK hst hfm I1 fl x hC hR hgr xi.ring (by decide) hN hi hl λs6 I6=>?_;calc Zbi (Zbe (Zbd (jC (X:=Cx.mk X a) I6 hgW hmW ?_ hdw)));let hiσ:i < σ.length:=by rw[I.len];exact(Zb.mp hi).1
  calc V6 (h₀:=X.base) I.ok.mod.kin FW.kp (Zbt ((bB (X:=Cx.mk X a) (qR (i:=i) hi (.inl hl) hn1 hn2) rfl) M Y s6 _ _ (λvs H7=>vs=[.ref a]/\H7=upd H' a (exO a C)) I6 {_,ZL hiσ,rfl,rfl}) (λus s7 ⟨vs,H7,I7,r,hvs,hH7⟩=>{I7.kIn,?_}) λ_ _ z=>z.elim) rfl rfl;subst hvs hH7;let hlW:us.length=o.length:=by rw[<-r.length,h1W];rfl
  let hbW:=bW s7 us I7.kIn (by rw[ZU];exact hlW);rw[ZU]at hbW;let hdep:X.A.depth < recursionLimit:=hr.depth;refine wpAny_call (Zar (Ef (Q:=λv H8=>v = .str w/\jh (upd H' a (exO a C)) H8) FW SW hdep I7.env0 hbW r (by rw[h1W];rfl) λcdv=>?_) λr s8 Z=>?_)
  .let c2:Cls2 (cxM X.prog X.w X.K X.mg X.base N A (ao E) g cdv (Cx.mk X a).A X.stack s7 (upd H' a (exO a C))) R (prm fk) (prm d):=Eg (yM (by rw[xi.len];rfl) xi.nm λD hD=>{xi.hT _ I.ok.mod.kin D hD,xi.nr D hD});refine{_,Ia (X:=cxM X.prog X.w X.K X.mg X.base N A (ao E) g cdv (Cx.mk X a).A X.stack s7 (upd H' a (exO a C))) (b:={ao E,aD,N}) (a:=a) (C:=C) (yK SW.kind) rfl rfl rfl xi.isi xi.ve hC hR (kK c2) (kK (kL c2)) (kK (kL c2)) (kL c2) (by rw[(uA d).length_eq,xi.len];decide) (by decide) ((uA d).nodup_iff.mpr xi.nd) (NZ hj xi.len hj13) (by split <;> decide) hw2 cW,{?_,?_,aG},λH2 x2=>⟨rfl,x2⟩}
   .delta uy at cW;let:=(an4 cW).2.1;let hl3:N.length=2:=by simpa using this
    delta L2.eK;rw[Ze,Y5,Za,hl3];rfl
   .rfl
  .cases r with
   |ok fl=>
    cases fl with
    |ret u=>
     let{v,H8,I8,rv,rfl,z}:=I7.after Z;exact{u,_,_,H8,rfl,I8,rv,q H8 ((jh.upd hH').trans z)}
    |next=>exact False.elim Z
    |brk=>exact False.elim Z
    |cont=>exact False.elim Z
   |error ev=>exact False.elim Z
def Ib{ga:Nat}{fdg:VL}{psg:List Str}{Z:Sp}{xg:Str}{ix:Expr}{iw:Nat}{pg lp xp:Pos}(Y:X.stack=X.env::X.outer)(hfm:X.env.frame=aw X.env.locals)(xi:XInf X.K X.mg R d)(F:FnOk X.prog X.w X.K X.mg X.base (CXE X.prog X.w) k f l ps sp)(Fg:FnOk X.prog X.w X.K X.mg X.base (CXE X.prog X.w) k ga fdg psg Z)(hr:Room k X.A)(hk:RW X.K (.ref f)=aN)(hb:dI X.K l ps [])(hkg:RW X.K (.ref ga)=aN)(hbg:dI X.K fdg psg [])(hA:PA X.nox (e::es) t)
  (he:Za2 (e::es) X.env=(aS,eval e X.env)::Za2 es X.env) (Q:(backTo pos (Za2 es X.env)).any (·.1)=aS)
  (hg:Gl X y) (hm:X.mg y=aw (.ref f)) (hdb:(y == ("__debug__" : Str))=aS) (hgg:Gl X xg) (hmg:X.mg xg=aw (.ref ga)) (hdg:(xg == ("__debug__" : Str))=aS) (hv:PE X.nox ix (Bv iw)) (hx:aF ix=aN)
  (FW:Fun X.K A A E g m) (SW:FnScope N o (ao E)) (bW:dI X.K m o []) (h1W:o.length=1) (cW:uy {ao E,aD,N} (prm fk) AL (bu E)=aN) (hgW:Gl X A) (hmW:X.mg A=aw (.ref g)) (hdw:(A == ("__debug__" : Str))=aS)
  (hN:X.N.Nodup) (hi:X.N[i]?=aw n) (hl:X.env.scope.names.lookup n=aw .local) (hgr:Gl X "RingError") (hn1:(n == ("__debug__" : Str))=aS) (hn2:(n == ("__classdict__" : Str))=aS) :
  PS X (.Try [.Return (aw (.Call (.Subscript (.List [.Name y p,.Name xg pg] lp) ix xp) (e::es) [] pos)) G] [.ExceptHandler (aw (.Name "RingError" J)) (aw n) [.Return (aw (.Call (.Name A L) [.Name n p2] [] M)) O] T] [] [] U)
   (λD σ H=>∃c:Bool,σ[iw]?=aw (aw (.int (if c then 1 else 0)))/\∀H0,jh H H0->t σ H0 λvs B=>(if c then Z else sp) vs B D.rt λc _ H2=>∃j C w,c = .ref C/\d[j]?=aw C/\si j=aw w/\∀H3,jh H2 H3->D.rt (.str w) H3):=by
 intro u s σ H D I ⟨c,hc,h⟩;calc wpAny_Try_except ?_;calc Zbi (Zbe ?_);show wpAny _ _ (eval (.Subscript (.List [.Name y p,.Name xg pg] lp) ix xp) X.env >>= λfv=>callWith pos fv [] (backTo pos (Za2 (e::es) X.env)) (Zae pos (ZaE [] X.env))) _ _ s;refine Zbf (Zbt ((yc yd (mR (bL (lY (X:=X.nox) (v:=.ref f) hg hm rfl hdb) (bB (lY (X:=X.nox) (v:=.ref ga) hgg hmg rfl hdg) rfl) rfl)) hv (jV hx)) u s σ H (λv B=>v = .ref (if c then ga else f)/\jh H B) (I.wish _) ?_) (λfv s1 ⟨v,B,I1,rv,hv,x⟩=>?_) λ_ _ z=>z.elim)
 .calc{by rw[Za0];show 2<=16777216;decide,λq hq=>{_,hc,q,_,_,_,rfl,rfl,SqL.of aG,?_,rfl,jh.upd hq}};cases c <;> rfl
 .subst hv;cases rv;let I1:L2.Inv X u σ B s1:=I1.unwish;let h:=h B x;cases c with
  |true=>exact uB (i:=i) Y hfm xi Fg hr hkg hbg hA he Q FW SW bW h1W cW hgW hmW hdw hN hi hl hgr hn1 hn2 I1 h
  |false=>exact uB (i:=i) Y hfm xi F hr hk hb hA he Q FW SW bW h1W cW hgW hmW hdw hN hi hl hgr hn1 hn2 I1 h
end
inductive RS where
 |pl (s:CS) |ck (f:Nat) (es:List CE) |rz (c:CE) (i:Nat) |tr (f g iw:Nat) (es:List CE)
inductive RR where
 |p (d:D) |exc (i:Nat)
structure DefE where
 x:Str
 st:Stmt
 N:List Str
 np:Nat
 body:List CS
 rb:Option (List RS)
abbrev DefE.ps(d:DefE):List Str:=d.N.take d.np
abbrev FU:Nat:=60
abbrev cM(ae:List DefE)(f:Nat):Nat:=match ae[f]? with
 |some d=>d.ps.length
 |none=>0
@[inline]abbrev gQ:=Nat->List D->Sto->Option (RR×Sto)
abbrev toC(g:gQ):Calls:=λf c S=>match g f c S with
 |some (.p d,S')=>aw (d,S')
 |_=>aD
abbrev Ic(C:Calls)(f:Nat->Nat)(d:DefE)(c:List D)(S:Sto):Option (D×Sto):=
 match fE C f FU d.body (c.map aw++Zp (d.N.length - c.length) aD) S with
 |some (.rt v,_,S')=>aw (v,S')
 |some (.nx,_,S')=>aw (.non,S')
 |_=>aD
abbrev xck(g:gQ)(n f:Nat)(o:Option (List D×Sto))(k:RR->Sto->Option (RR×Sto)):Option (RR×Sto):=match o with
 | some (ds,S1)=>if ds.length=n then (match g f ds S1 with
  |some (r,S2)=>k r S2
  | none=>aD) else aD
 |none=>aD
abbrev cE(g:gQ)(h:Nat->Nat):List RS->Rho->Sto->Option (RR×Sto)
 |[],_,S=>aw (.p .non,S)
 | .pl s::r,ρ,S=>(match evS (toC g) h 59 s ρ S with
  |some (.nx,ρ',S')=>cE g h r ρ' S'
  |some (.rt v,_,S')=>aw (.p v,S')
  | _=>aD)
 | .ck f es::r,ρ,S=>xck g (h f) f (evA (toC g) h FU es ρ S) λv j=>(match v with
  |.p _=>cE g h r ρ j
  | .exc i=>aw (.exc i,j))
 | .rz c i::r,ρ,S=>(match evT (toC g) h FU c ρ S with
  |some (aN,S1)=>if i < 14 then aw (.exc i,S1) else aD
  |some (aS,S1)=>cE g h r ρ S1
  | none=>aD)
 | .tr f f' iw es::_,ρ,S=>(match ρ[iw]? with
  | some (aw (.int z))=>if z=0\/z=1 then xck g (h (if z=1 then f' else f)) (if z=1 then f' else f) (evA (toC g) h FU es ρ S) λv j=>(match v with
   |.p d=>aw (.p d,j)
   | .exc i=>(si i).map λw=>(.p (.str w),j)) else aD
  | _=>aD)
abbrev evX(ae:List DefE):Nat->gQ
 |0=>λ_ _ _=>aD
 |k+1=>λf c S=>match ae[f]? with
  | some d=>(match d.rb with
   |none=>(Ic (toC (evX ae k)) (cM ae) d c S).map λr=>(.p r.1,r.2)
   | some g=>cE (evX ae k) (cM ae) g (c.map aw++Zp (d.N.length - c.length) aD) S)
  |none=>aD
abbrev evC(ae:List DefE)(k:Nat):Calls:=toC (evX ae k)
abbrev Eh(N ps:List Str)(sc:Scope):Bool:=sc.kind == .function && sc.isCoroutine == aS && sc.isGenerator == aS && jc N && N.take ps.length == ps && (ps.all λx=>sc.names.lookup x == aw .local || sc.names.lookup x == aw .cell) && sc.names.all λy=>y.2 != .free
def yN(h:Eh N ps sc=aN):FnScope N ps sc:=by
 delta Eh at h;simp![bAE,ZM]at h;let{⟨⟨⟨⟨⟨h1,h2⟩,k⟩,h4⟩,c⟩,d⟩,f}:=h;calc{by simpa using h1,by simpa using h2,by simpa using k,gJ h4,by simpa using c,λx g=>?_,λy j=>by simpa using f y j};let:=d x g
 simpa using this
abbrev Ei(e:Stmt)(k:Option Expr->Option Expr->Pos->Bool):Bool:=if h:e.ctorIdx=16 then @Stmt.Raise.elim (λ_=>Bool) e h k else aS
def Ej(h:Ei e k=aN):∃c d X,e = .Raise c d X/\k c d X=aN:=by
 let{h1,h}:=bN h;exact Stmt.Raise.elim (motive_2:=λe=>∀f,@Stmt.Raise.elim (λ_=>Bool) e f k=aN->∃c d X,e = .Raise c d X/\k c d X=aN) e h1 (λc d X _ g=>⟨c,d,X,rfl,g⟩) h1 h
abbrev SO(e:Stmt)(k:List Stmt->List ExceptHandler->List Stmt->List Stmt->Pos->Bool):Bool:=if h:e.ctorIdx=17 then @Stmt.Try.elim (λ_=>Bool) e h k else aS
def N0(h:SO e k=aN):∃d g c X f,e = .Try d g c X f/\k d g c X f=aN:=by
 let{h1,h}:=bN h;exact Stmt.Try.elim (motive_2:=λe=>∀j,@Stmt.Try.elim (λ_=>Bool) e j k=aN->∃d g c X f,e = .Try d g c X f/\k d g c X f=aN) e h1 (λd g c X f _ l=>⟨d,g,c,X,f,rfl,l⟩) h1 h
abbrev SQ(T:Tab)(b:Blk)(f:Nat)(E:List CE)(e:Expr):Bool:=DF (λx=>oA T.fns[f]? (λy=>y.1 == x) && b.glo x) (λa=>eZ T FU b a E) e
abbrev Lu(T:Tab)(b:Blk)(f h I:Nat)(E:List CE)(e:Expr):Bool:=ui e λc d k _=>lC d λa d=>k.isEmpty && eZ T FU b (a::d) E && sIx (AB λl=>lC l λn l=>l1 l λg=>fB (λx=>oA T.fns[f]? (λy=>y.1 == x) && b.glo x) n && fB (λx=>oA T.fns[h]? (λy=>y.1 == x) && b.glo x) g) (wV b I) c
abbrev SR(b:Blk)(i:Nat)(s:Stmt):Bool:=Ei s λv c _=>c.isNone && oA v λe=>sCN e λx E k=>l1 E λa=>k.isEmpty && fk[i]? == aw x && b.glo x && dG a λc _ _=>(match c with |.str _=>aN |_=>aS)
abbrev iV:Str := "_law_word"
abbrev N5(b:Blk)(h:ExceptHandler):Bool:=match h with
 |.ExceptHandler t n body _=>(oA t λe=>fB (λx=>x == ("RingError" : Str) && b.glo x) e) && oA n λn=>b.sc.names.lookup n == aw .local && b.N.contains n && !(n == ("__debug__" : Str)) && !(n == ("__classdict__" : Str)) && l1 body λs=>AG (λe=>sCN e λx E k=>l1 E λa=>k.isEmpty && x == iV && b.glo x && fB (λy=>y == n) a) s
abbrev U5(k:Expr->Bool)(b:Blk)(s:Stmt):Bool:=SO s λbody hs o f _=>o.isEmpty && f.isEmpty && (l1 body λr=>AG k r) && l1 hs λh=>N5 b h
abbrev fF(T:Tab)(b:Blk):List RS->List Stmt->Bool
 |[],ss=>ss.isEmpty
 |.pl c::rs,ss=>lC ss λs ss=>NT T 59 b s c && fF T b rs ss
 |.ck f es::rs,ss=>lC ss λs ss=>zEx (SQ T b f es) s && fF T b rs ss
 |.rz c i::rs,ss=>lC ss λs ss=>zIf (λe=>fC T FU b e c) (λp=>l1 p λs=>SR b i s) (λq=>q.isEmpty) s && fF T b rs ss
 |.tr f f' iw es::rs,ss=>l1 ss λs=>U5 (Lu T b f f' iw es) b s
abbrev Ek(T:Tab)(d:DefE):Bool:=Eh d.N d.ps (ao d.st) && (match d.rb with
 |none=>ou T FU {ao d.st,aD,d.N} (bu d.st) d.body
 | some c=>fF T {ao d.st,aD,d.N} c (bu d.st))
abbrev qx(con:List (Str×Int))(ae:List DefE):Tab:={con,ae.map λd=>(d.x,d.ps.length)}
abbrev yO(d:DefE):Bool:=d.x == iV && d.ps.length == 1 && uy {ao d.st,aD,d.N} (prm fk) AL (bu d.st)
structure TextOk(K:V5)(mg:Str->Option Value)(con:List (Str×Int))(ae:List DefE):Prop where
 con:∀ (i:Nat) (x:Str) (v:Int),con[i]?=aw (x,v)->∃tk,mg x=aw (.int v tk)
 bl:∀x,x∈gA->mg x=aD
 fn:∀ (i:Nat) (d:DefE),ae[i]?=aw d->∃f fd,mg d.x=aw (.ref f)/\RW K (.ref f)=aN/\dI K fd d.ps []/\Fun K d.x d.x d.st f fd
 xs:∃R Ds,XInf K mg R Ds
abbrev spX(K:V5)(k:List Addr)(g:List D->Sto->Option (RR×Sto))(n:Nat):Sp:=λl H Q E=>∃m c S r j,VDs K m H c l/\Rel K m S H/\c.length=n/\g c S=aw (r,j)/\∀f h,Aft K m H j f h->(match r with
 |.p d=>∀v,VD K f h d v->Q v h
 | .exc i=>∃C,k[i]?=aw C/\i < 14/\E (.ref C) aD h)
def El{K:V5}{k:List Addr}{g:gQ}{f n:Nat}{c:List V}{H:Hp}{Q:VK}{E:XK}(h:spC K (toC g f) n c H Q E):spX K k (g f) n c H Q E:=by
 let{m,u,S,d,y,vd,R,B,e,q}:=h;delta toC at e;split at e
 .rename_i I C p;cases e;exact{m,u,S,.p d,y,vd,R,B,p,λl o A v j=>q l o v A j}
 .cases e
section
variable {P:Program} {w:World} {K:V5} {M:Str->Option Value} {base:Heap} {con:List (Str×Int)} {ae:List DefE}
def qy(vd:VDs K m H c k):EnvR K m H (c.map aw++Zp (N.length - c.length) aD) (L2.eK N k):=by
 let l:=vd.length;delta L2.eK;calc{by simp[l],λi d e=>?_};by_cases f:i < c.length
 .rw[ZB (by simpa using f),Zo]at e;cases h:c[i]? with
  |none=>rw[h]at e;cases e
  |some n=>
   rw[h]at e;cases e;let{v,j,g}:=vd.get h;exact{v,by rw[ZB (by simp;lia),Zo,j];rfl,g}
 .rw[Zv (by simpa using f),YF]at e;split at e <;> cases e
abbrev tRs(K:V5)(l:List Addr)(E:XK)(g:gQ)(o:Nat->Nat)(n:List RS):TS:=λD c H=>(∀c H,D.rt .non H->D.nx c H)/\∃m f S r k,EnvR K m H f c/\Rel K m S H/\cE g o n f S=aw (r,k)/\∀j h,Aft K m H k j h->(match r with
 |.p d=>∀v,VD K j h d v->D.rt v h
 | .exc i=>∃C,l[i]?=aw C/\i < 14/\E (.ref C) aD h)
def uC{n f:Nat}(h:xck g n f o k=aw z):∃d c v j,o=aw (d,c)/\d.length=n/\g f d c=aw (v,j)/\k v j=aw z:=by
 cases o with
 |none=>cases h
 |some p=>
  let{d,c}:=p;delta xck at h;dsimp! at h;split at h
  .rename_i q;cases l:g f d c with
   |none=>rw[l]at h;cases h
   |some p=>let{v,j}:=p;rw[l]at h;exact⟨d,c,v,j,rfl,q,l,h⟩
  .cases h
def yP(A:Aft K m H g c f)(x:jh f H3):Aft K m H g c H3:=by
 let E:Ext c f c H3:={Yr _,λa o h _=>x a o h,λ_ h n=>absurd h n}
 exact A.trans ⟨E,A.rel.ext_keep E λb hb=>by
  let{o,_,d,_}:=A.rel.ex hb;rw[d];exact x b o d⟩
structure RCx(T:Tab)(g:gQ)(ar:Nat->Nat)(k:Nat)(b:Blk)(X:Cx)(E:XK)(R:Addr)(Ds:List Addr):Prop where
 G:CtxOk T (toC g) ar k b X.nox
 xi:XInf X.K X.mg R Ds
 kin:X.K.In X.base
 fns:∀ (i:Nat) (y:Str×Nat),T.fns[i]?=aw y->∃f fd ps,X.mg y.1=aw (.ref f)/\RW X.K (.ref f)=aN/\dI X.K fd ps []/\FnOk X.prog X.w X.K X.mg X.base (CXE X.prog X.w) k f fd ps (spX X.K Ds (g i) (ar i))
 pass:mS (CXE X.prog X.w) X E
 made:∀pins σ H s h1 e c args,L2.Inv X pins σ H s->Heap.MadeExcOf s.heap h1 e c args->E c aD H->X.xe (.ref e) {s with heap:=h1}
 stk:X.stack=X.env::X.outer
 frm:X.env.frame=aw X.env.locals
 kind:X.env.scope.kind = .function
 word:∃fw fdw psW NW stw,X.mg iV=aw (.ref fw)/\Fun X.K iV iV stw fw fdw/\FnScope NW psW (ao stw)/\dI X.K fdw psW []/\psW.length=1/\uy {ao stw,aD,NW} (prm fk) AL (bu stw)=aN
def N6{P:Prop}{f C I:Nat}(h:Lu T b f C I es e0=aN)(q:∀y Y g pg L ix X e as p,e0 = .Call (.Subscript (.List [.Name y.1 g,.Name Y.1 pg] L) ix X) (e::as) [] p->T.fns[f]?=aw y->b.glo y.1=aN->T.fns[C]?=aw Y->b.glo Y.1=aN->wV b I ix=aN->aF ix=aN->eZ T FU b (e::as) es=aN->P):P:=by
 let{cl,as,ks,p,q1,O}:=rQ h;let{e,k,q2,c6}:=cb O;let{g1,J,g2}:=an3 c6;let q3:=cu g1;let{cl',ix,X,q4,g3,g4,Q}:=DM g2;let{l,L,q5,g6}:=og g3;let{n1,l',q6,g7}:=cb g6;let{n2,q7,g8}:=cv g7;let{g9,o}:=an2 g8;let{x,g,U,j}:=b8 g9;let{h6,h7}:=an2 j;let{y,Z,h8}:=lX h6;let E:=jW h8;let{x',pg,q9,d}:=b8 o;let{u,B}:=an2 d;let{Y,v,n}:=lX u;let c:=jW n;exact q y Y g pg L ix X e k p (by rw[q1,q2,q3,q4,q5,q6,q7,U,q9,E,c]) Z (E▸h7) v (c▸B) g4 Q J
def SS{P:Prop}(I:N5 b hd=aN)(q:∀np n h d p c j (i:Nat),hd = .ExceptHandler (aw (.Name "RingError" np)) (aw n) [.Return (aw (.Call (.Name iV h) [.Name n d] [] p)) c] j->b.glo "RingError" = aN->b.glo iV=aN->b.N[i]?=aw n->b.sc.names.lookup n=aw .local->(n == ("__debug__" : Str))=aS->(n == ("__classdict__" : Str))=aS->P):P:=by
 let{ty,nm,E,j}:=hd;delta N5 at I;let{O,k2}:=an2 I;let{e1,Y,Z}:=lX O;let{rn,np,q2,k4}:=b8 Z;let{k5,T}:=an2 k4;let J:=eq_of_beq k5;let{n,q4,k7}:=lX k2;let{l5,l6,l7,l8,l9}:=an5 k7;let{s0,q5,l}:=cv l9;let{v2,c,q6,L}:=ot l;let{xw,h,U,ks,p,q7,f}:=jU L;let{a,X,y}:=cv f;let{o,C,k,B}:=an4 y;let q9:=cu o;let Q:=eq_of_beq C;let{n2,d,g,u}:=b8 B;let v:=eq_of_beq u;let{i,hi}:=XB (Xw.mp l6);exact q np n h d p c j i (by rw[Y,q2,J,q4,q5,q6,q7,X,q9,Q,g,v]) (J▸T) (Q▸k) hi (by simpa using l5) (by simpa using l7) (by simpa using l8)
def N7{k:Nat}(n:RCx T g l k b X E R d)(h:fF T b ([]) ss=aN):PSs X ss (tRs X.K d E g l ([])):=by
 rw[cu h];calc PSs.imp jD λD j H Q=>?_;let{c,m,o,S,r,p,Ev,f,e,q}:=Q;cases e;exact c j H (q m H (Aft.refl f) _ nt)
def SU{k:Nat}(n:RCx T g C k b X E R p)(O:∀ss,fF T b l ss=aN->PSs X ss (tRs X.K p E g C l))(h:fF T b (.pl c::l) ss=aN):PSs X ss (tRs X.K p E g C (.pl c::l)):=by
 let{s,ss,rfl,h}:=cb h;let{h1,h2}:=an2 h;calc PSs.imp (b5 (NY ((NV 59).s b X.nox s c n.G n.kind h1)) (O ss h2)) λD σ H Q=>?_;let{L,m,o,S,r,J,Ev,y,e,q}:=Q;simp![cE]at e;split at e
 .rename_i d j hs;exact{m,o,S,.nx,d,j,Ev,y,hs,λm1 B f I E1=>{L,m1,d,j,r,J,E1,f.rel,e,λU Z A2=>q U Z (f.trans A2)}}
 .rename_i v d j hs;cases e;exact{m,o,S,_,_,_,Ev,y,hs,λm1 B f u Y=>q m1 B f u Y}
 .cases e
def SV{k:Nat}(j:RCx T g J k b X E R Y){f:Nat}(ih:∀ss,fF T b C ss=aN->PSs X ss (tRs X.K Y E g J C))(h:fF T b (.ck f O::C) ss=aN):PSs X ss (tRs X.K Y E g J (.ck f O::C)):=by
 let{s,ss,rfl,h}:=cb h;let{h1,h2}:=an2 h;let{v,p,rfl,h3,h4}:=Lr h1;let{x,e,as,p',p'',rfl,o,I}:=yC h3;let{B,h7}:=an2 o;let{y,hy,B}:=lX B;let hx:=jW B;subst hx;let{fa,fd,ps,hm,hk,hb,F}:=j.fns f y hy;let c:=bA I;let gl:=j.G.gl h7;calc PSs.imp (b5 (xS (xY F j.G.room gl.1 hm hk hb .nil j.pass (NX ((snd FU).a b X.nox _ O j.G I)) gl.2 (ai (c e Zh)) (fD λe he=>c e (Zf _ he))) (ux h4)) (ih ss h2)) λD σ H Q=>?_;let{hD,m,L,S,r,S',Ev,Rl,e,q}:=Q;simp![cE]at e;let{ds,U,v,Z,e1,hl,eg,e}:=uC e;calc{m,L,S,ds,U,Ev,Rl,e1,λm1 H1 vs l vd=>{m1,ds,U,v,Z,by rw[ZU];exact vd,l.rel,hl,eg,λm2 H2 n=>?_}};cases v with
 |p d=>exactλu _=>{hD,m2,L,Z,r,S',Ev.mono Rl (l.trans n).ext,n.rel,e,λm3 H3 A3=>q m3 H3 ((l.trans n).trans A3)}
 |exc i=>cases e;exact q m2 H2 (l.trans n)
def SX{P:Prop}{i:Nat}(h:SR b i s=aN)(q:∀x k g z j f p,s = .Raise (aw (.Call (.Name x k) [.Constant (.str z) j f] [] g)) aD p->fk[i]?=aw x->b.glo x=aN->P):P:=by
 let{v,C,p,B,c}:=Ej h;let{J,c}:=an2 c;let{O,L,c}:=lX c;let{x,k,Q,T,g,E,c}:=jU c;let{a,Z,c}:=cv c;let{y,u,l,d}:=an4 c;let{n,j,f,o,d}:=cV d;let I:C=aD:=by cases C <;> first |rfl |cases J
 have ⟨z,z7⟩:∃z,n = .str z:=by cases n <;> first |exact⟨_,rfl⟩ |cases d
 exact q x k g z j f p (by rw[B,L,E,Z,cu y,o,I,z7]) (by simpa using u) l
def SY{k:Nat}(d:RCx T g ar k b X E R Ds){i:Nat}(ih:∀ss,fF T b rs ss=aN->PSs X ss (tRs X.K Ds E g ar rs))(h:fF T b (.rz c i::rs) ss=aN):PSs X ss (tRs X.K Ds E g ar (.rz c i::rs)):=by
 let{s,y,z1,h}:=cb h;let{h1,h2}:=an2 h;let{t,p,q,r,z2,h3,h4,h5}:=D3 h1;let{s1,z3,h4}:=cv h4;calc SX h4 λx p1 p2 z j p3 pos z4 hx h10=>?_;rw[z1,z2,cu h5,z3,z4];let{C,hC,hm}:=d.xi.nm i x hx;let gl:=d.G.gl h10;by_cases l:i < 14
 .calc PSs.imp (b5 (xT (PT.nox ((snd FU).t b X.nox t c d.G h3)) (jE (DS (E:=E) (v:=.str z) (λJ σ H s h1 e O I mk hE=>d.made J σ H s h1 e _ O I mk hE) d.G.calm gl.1 hm (d.xi.hC _ d.kin i C hC l) (d.xi.hR _ d.kin) (bB qS rfl) rfl gl.2)) jD) (ih y h2)) λD σ H Q=>?_;let{Y,m,n,S,r,U,Ev,o,e,q}:=Q;simp![cE]at e;split at e
  .rename_i B u;rw[if_pos l]at e;cases e;calc{m,n,S,aN,_,Ev,o,u,λm1 H1 f=>?_};dsimp!;rw[if_pos rfl];let{C',L,_,z}:=q m1 H1 f;rw[hC]at L;cases L;exact z
  .rename_i B u;calc{m,n,S,aS,_,Ev,o,u,λm1 H1 f=>?_};dsimp!;rw[if_neg Zd];exact{Y,m1,n,B,r,U,Ev.mono o f.ext,f.rel,e,λZ H2 A2=>q Z H2 (f.trans A2)}
  .cases e
 .calc PSs.imp (b5 (xT (PT.nox ((snd FU).t b X.nox t c d.G h3)) (jE sW) jD) (ih y h2)) λD σ H Q=>?_;let{Y,m,n,S,r,U,Ev,o,e,q}:=Q;simp![cE]at e;split at e
  .rename_i B u;rw[if_neg l]at e;cases e
  .rename_i B u;calc{m,n,S,aS,_,Ev,o,u,λm1 H1 f=>?_};dsimp!;rw[if_neg Zd];exact{Y,m1,n,B,r,U,Ev.mono o f.ext,f.rel,e,λZ H2 A2=>q Z H2 (f.trans A2)}
  .cases e
def SZ{k:Nat}(c:RCx T g Q k b X E R C){f p iw:Nat}(h:fF T b (.tr f p iw es::rs) ss=aN):PSs X ss (tRs X.K C E g Q (.tr f p iw es::rs)):=by
 let{s,z1,c0}:=cv h;let{body,hs,o,fi,tp,z2,c1}:=N0 c0;let{h1,h2,h3,h4}:=an4 c1;let{r0,z3,c2}:=cv h3;let{v,rp,z4,c3}:=ot c2;let{hd,z5,c4}:=cv h4;calc N6 c3 λy y' p' pg lp ix xp e as p'' z6 hy h7 Z h7' g4 g5 h5=>SS c4 λnp n wp p2 p3 rp2 hp i z7 k6 L hi l5 l7 l8=>?_;rw[z1,z2,cu h1,cu h2,z3,z4,z5,z6,z7];let{fa,fd,ps,hm,hk,hb,F}:=c.fns f y hy;let{fa',fd',ps',hm',hk',U,F'}:=c.fns p y' Z;let J:=bA h5;let gl:=c.G.gl h7;let O:=c.G.gl h7';let{fw,fdw,psW,NW,stw,w1,w2,w3,w4,w5,w6}:=c.word;calc PSs.imp (jE (Ib (i:=i) (iw:=iw) c.stk c.frm c.xi F F' c.G.room hk hb hk' U ((snd FU).a b X.nox _ es c.G h5) (ai (J e Zh)) (fD λe he=>J e (Zf _ he)) gl.1 hm gl.2 O.1 hm' O.2 (qw c.G.hs c.G.hN g4) g5 w2 w3 w4 w5 w6 (c.G.gl L).1 w1 (c.G.gl L).2 (by rw[show X.N=b.N from c.G.hN];exact c.G.nd) (by rw[show X.N=b.N from c.G.hN];exact hi) (by rw[show X.env.scope=b.sc from c.G.hs];exact l5) (c.G.gl k6).1 l7 l8)) λD σ H q10=>?_;let{hD,m,ρ,S,r,S',Ev,Rl,e,q}:=q10;simp![cE]at e;split at e
 rotate_left
 .cases e
 rename_i z hz;split at e
 rotate_left
 .cases e
 rename_i l;let{ds,S1,v,S2,e1,hl,eg,e}:=uC e;refine{decide (z=1),?_,λH0 x0=>?_}
 .let{u,hu,Y}:=Ev.at_ _ _ hz;rw[hu,Y.ints];rcases l with rfl |rfl <;> rfl
 let A0:=yP (Aft.refl Rl) x0
 let z2:(if decide (z=1)=aN then spX X.K C (g p) (Q p) else spX X.K C (g f) (Q f))=spX X.K C (g (if z=1 then p else f)) (Q (if z=1 then p else f)):=by
  rcases l with rfl |rfl <;> rfl
 calc{m,ρ,S,ds,S1,Ev.mono Rl A0.ext,A0.rel,e1,λm1 H1 vs I vd=>?_};rw[z2];calc{m1,ds,S1,v,S2,vd,I.rel,hl,eg,λm2 H2 A2=>?_};let I:=A0.trans I;cases v with
 |p d=>cases e;exactλu Y=>q m2 H2 (I.trans A2) u Y
 |exc j=>
  dsimp! at e;cases B:si j with
  |none=>rw[B]at e;cases e
  |some w=>
   rw[B]at e;cases e
   let h14:j < 14:=by
    delta si at B;split at B
    .lia
    .split at B
     .lia
     .cases B
   let hj:j < C.length:=by rw[c.xi.len];lia
   exact{C[j],gEG hj,h14,j,C[j],w,rfl,gEG hj,B,λH3 x3=>q m2 H3 (yP (I.trans A2) x3) _ nu}
def yQ{k:Nat}(j:RCx T g n k b X E R l):∀ (d:List RS) (ss:List Stmt),fF T b d ss=aN->PSs X ss (tRs X.K l E g n d)
 |[],ss,h=>N7 j h
 |.pl c::d,ss,h=>SU j (yQ j d) h
 |.ck f es::d,ss,h=>SV j (yQ j d) h
 |.rz c i::d,ss,h=>SY j (yQ j d) h
 |.tr f f' iw es::d,ss,h=>SZ j h
def Ie{i n:Nat}:FnOk P w K M base (CXE P w) 0 f l ps (spX K k (evX ae 0 i) n):=
 {λv H Q E h=>(by let{m,j,S,d,g,_,_,_,e,_}:=h;cases e),λA outer s H c u v Q E _ _ _ _ h=>(by let{m,j,S,d,g,_,_,_,e,_}:=h;cases e)}
def yR(T:TextOk K M con ae)(xi:XInf K M R Ds)(kin:K.In base)(hc:ae.all (Ek (qx con ae))=aN)(hw:ae.any yO=aN):∀ (k i:Nat) (d:DefE),ae[i]?=aw d->∀f L,M d.x=aw (.ref f)->Fun K d.x d.x d.st f L->FnOk P w K M base (CXE P w) k f L d.ps (spX K Ds (evX ae k i) d.ps.length)
 |0,i,d,_,f,L,_,_=>Ie
 |k+1,i,d,hd,f,L,hm,F=>by
  let ih:=yR T xi kin hc hw k;let ck:=ZM.mp hc d (Zj hd);delta Ek at ck;rw[bAE]at ck;let S:=yN ck.1
  let word:∃fw o J NW l,M iV=aw (.ref fw)/\Fun K iV iV l fw o/\FnScope NW J (ao l)/\dI K o J []/\J.length=1/\uy {ao l,aD,NW} (prm fk) AL (bu l)=aN:=by
   let{Y,p,hq}:=X7.mp hw;let{j,B}:=XB p;delta yO at hq;let{q1,q2,q3}:=an3 hq;let{fw,o,m1,m2,m3,m4}:=T.fn j Y B;let C:=ZM.mp hc Y p;delta Ek at C;rw[bAE]at C;rw[<-eq_of_beq q1];exact{fw,o,Y.ps,Y.N,Y.st,m1,m4,yN C.1,m3,by simpa using q2,q3}
  let{oc,od,kV,doc,pm,an,Z,ct,osl,rfl,lk,hcd}:=F.ex;refine RA lk hcd S (λvs H Q E h=>?_) λA outer s H vs Q E hr h=>?_
  .let{m,ds,S,d',S',vd,_,hl,_}:=h;rw[<-vd.length,hl]
  .let FX:∀ (j:Nat) (y:Str×Nat),(qx con ae).fns[j]?=aw y->cM ae j=y.2/\∃f L ps,M y.1=aw (.ref f)/\RW K (.ref f)=aN/\dI K L ps []/\FnOk P w K M base (CXE P w) k f L ps (spX K Ds (evX ae k j) (cM ae j)):=λj y U=>by
    let g:(ae.map λd=>(d.x,d.ps.length))[j]?=aw y:=U;rw[Zo]at g;cases B:ae[j]? with
    |none=>rw[B]at g;cases g
    |some e=>
     rw[B]at g;cases g;let ha:cM ae j=e.ps.length:=by delta cM;rw[B]
     let{f',n,O,k',b',F'}:=T.fn j e B;calc{ha,f',n,e.ps,O,k',b',?_};rw[ha];exact ih j e B f' n O F'
   let G:CtxOk (qx con ae) (toC (evX ae k)) (cM ae) k {ao d.st,aD,d.N} (o8 (CXE P w) P w K M base d.N d.x (ao d.st) f Z A outer s H E).nox:=by
    calc{rfl,rfl,rfl,rfl,S.nd,λ_ _=>rfl,hr,T.con,T.bl,λj y U=>?_};let{ha,f',n,ps',O,k',b',F'}:=FX j y U;exact{ha,f',n,ps',O,k',b',F'.imp λvs H Q E q=>El q}
   let{m,ds,S0,r,S',vd,Rl,hl,e,q}:=h;simp![evX,hd]at e;cases X:d.rb with
   |none=>
    rw[X]at e ck;dsimp! at e ck;calc{_,((NV FU).ss _ _ (bu d.st) d.body G S.kind ck.2).nox,?_};delta Ic at e;cases hx:fE (toC (evX ae k)) (cM ae) FU d.body (ds.map aw++Zp (d.N.length - ds.length) aD) S0 with
    |none=>rw[hx]at e;cases e
    |some z=>
     let{fl,ρ',S1}:=z;rw[hx]at e;calc{m,_,S0,fl,ρ',S1,qy vd,Rl,hx,λO H' A'=>?_};cases fl with
     |nx=>cases e;exactλσ _=>q O H' A' .non nt
     |rt v=>cases e;exactλu vu=>q O H' A' u vu
     |bk=>cases e
     |ct=>cases e
   |some rs=>
    rw[X]at e ck;dsimp! at e ck
    let rc:RCx (qx con ae) (evX ae k) (cM ae) k {ao d.st,aD,d.N} (o8 (CXE P w) P w K M base d.N d.x (ao d.st) f Z A outer s H E) E R Ds:=
     {G,xi,kin,λj y U=>(FX j y U).2,Sk,λpins σ H s h1 e c args I mk hE=>Sl I mk hE,rfl,rfl,S.kind,word}
    exact{_,yQ rc rs (bu d.st) ck.2,λ_ _ z=>z,m,_,S0,r,S',qy vd,Rl,e,q}
end
abbrev yS(d:DefE):Option sP:=aw ((d.x,d.x),(eJ d.st,bu d.st),(ao d.st,ZaH),([],.none),(Zaj,aw d.x))
def yT:∀ {l:List Nat},L4 l=aN->l.Nodup
 |[],_=>YZ
 |a::l,h=>by
  let{h1,h2}:=an2 h;calc ZV.mpr {λc=>?_,yT h2};rw[Xw.mpr c]at h1;cases h1
abbrev cI(h:Heap)(x:Str):V5:=match h.nsMap ZaH x with
 | some (.ref C)=>(match h.get? C with
  | some {c0,dd,.cls cd,sl}=>(C,{c0,dd,.cls cd,sl})::(match h.get? cd.ns with
   |some {c1,d1,.dict es ep,s1}=>[(cd.ns,{c1,d1,.dict es ep,s1})]
   | _=>[])
  | _=>[])
 |_=>[]
@[inline]abbrev uD:=Bool×List (Option sP)×List (Option Int)×List Bool×Bool
abbrev AM(con:List (Str×Int))(ae:List DefE)(h:Heap):uD:=(h.isNs ZaH,ae.map (λd=>vt h d.x),con.map (λc=>Gc h c.1),(gA.map λx=>(h.nsMap ZaH x).isNone),Bn h)
abbrev uE(con:List (Str×Int))(ae:List DefE):uD:=(aN,ae.map yS,con.map (λc=>aw c.2),(gA.map λ_=>aN),aN)
abbrev Lv(d:DefE):Prop:=∀ (kV c pm:Value) (an:Option Addr) (C ct:Value) (u:List Value),u.length=d.ps.length->bindArgs (Tm d.x d.x (eJ d.st) (bu d.st) (ao d.st) .none kV c pm an C ct) ⟨u,[]⟩=pure (d.ps.zip u)
abbrev AN:List DefE->Prop
 |[]=>True
 |d::ds=>Lv d/\AN ds
def AN.at:∀ {c:List DefE} {d:DefE},AN c->d∈c->Lv d
 |e::c,d,h,hd=>by
  rcases Zn.mp hd with rfl |hd
  .exact h.1
  .exact AN.at h.2 hd
abbrev qz(h:Heap)(f:Addr):V5:=match h.get? f with
 | some o=>(f,o)::(match o.data with
  | .func fd=>(match fd.code with
   |.ref c=>(match h.get? c with |some O=>[(c,O)] |none=>[])
   | _=>[])
  | _=>[])
 |none=>[]
abbrev eO(h:Heap)(d:DefE):V5:=match h.nsMap ZaH d.x with
 |some (.ref f)=>qz h f
 |_=>[]
abbrev Ta(K:V5):Prop:=∀a o,K.lookup a=aw o->∀I n,o.data≠.seq I n
structure Says(con:List (Str×Int))(ae:List DefE)(h:Heap):Prop where
 ns:∃m,h.Ns ZaH m
 frag:∃K:V5,K.In h/\Ta K/\∀mg,h.Ns ZaH mg->TextOk K mg con ae
def ox{K:V5}{a:Addr}{o:Obj}(h:K.lookup a=aw o):(a,o)∈K:=by
 induction K with
 |nil=>cases h
 |cons p K I=>
  let{b,q}:=p;rw[ZW]at h;cases hb:a == b with
  |true=>
   rw[hb]at h;cases h;let:a=b:=by simpa using hb
   subst this;exact Zh
  |false=>rw[hb]at h;exact Zf _ (I h)
def Em{K:V5}{a:Addr}{o:Obj}(h:(a,o)∈K):∃o',K.lookup a=aw o':=by
 induction K with
 |nil=>cases h
 |cons p K I=>
  let{b,q}:=p;rw[ZW];cases hb:a == b with
  |true=>exact⟨_,rfl⟩
  |false=>
   rcases Zn.mp h with e |h
   .cases e;simp at hb
   .exact I h
def En(e:(a,o)∈qz h f):h.get? a=aw o:=by
 delta qz at e;cases g:h.get? f with
 |none=>rw[g]at e;cases e
 |some of=>
  rw[g]at e;dsimp! at e;rcases Zn.mp e with q |e
  .cases q;exact g
  .split at e
   .split at e
    .rename_i c j;cases d:h.get? c with
     |none=>rw[d]at e;cases e
     |some O=>
      rw[d]at e;dsimp! at e;rcases Zn.mp e with q |e
      .cases q;exact d
      .cases e
    .cases e
   .cases e
def N8{h:Heap}{a:Addr}{mg:Str->Option Value}(N:h.Ns a mg):h.nsMap a=mg:=by
 let{o,f,E,c,hd,_,d}:=N
 funext x
 delta Heap.nsMap;rw[c];dsimp!;rw[hd];exact d x
def Eo(e:vt h d.x=yS d):∃f l O kV g pm an c ct o C j v a t r k,h.nsMap ZaH d.x=aw (.ref f)/\h.get? f=aw {l,O,.func (Tm d.x d.x (eJ d.st) (bu d.st) (ao d.st) .none kV g pm an (.ref c) ct),o} ∧
  h.get? c=aw {C,j,.fields v,k}/\v.toList=a :: .str d.x t::r:=by
 delta vt yS at e;split at e
 .rename_i f u;delta Rb at e;split at e
  .rename_i l O nm Q ps b sc gl cl I kV g pm an B ct E o q;simp![Option.some.injEq,Prod.mk.injEq]at e;let{⟨rfl,rfl⟩,⟨rfl,rfl⟩,⟨rfl,rfl⟩,⟨rfl,rfl⟩,rfl,e}:=e;delta KJ at e;split at e
   .rename_i c;split at e
    .rename_i C j v k y;split at e
     .rename_i a n t r p;cases e;exact⟨f,l,O,kV,g,pm,an,c,ct,o,C,j,v,a,t,r,k,u,q,y,p⟩
     .cases e
    .cases e
   .cases e
  .cases e
 .cases e
def uF(e:(a,o)∈cI h x):h.get? a=aw o/\∀its n,o.data≠.seq its n:=by
 delta cI at e;split at e
 .split at e
  .rename_i C _ d k l sl hC;rcases Zn.mp e with q |e
   .cases q;exact{hC,λ_ _ z=>nomatch z}
   .split at e
    .rename_i c f g E j hN;rcases Zn.mp e with q |e
     .cases q;exact{hN,λ_ _ z=>nomatch z}
     .cases e
    .cases e
  .cases e
 .cases e
def yU(e:L3 h x=aN):∃d f sl,h.nsMap ZaH x=aw (.ref (adX h x))/\(adX h x,({.type "type",d,.cls f,sl}:Obj))∈cI h x:=by
 delta L3 at e;split at e
 .rename_i C c;split at e
  .rename_i d f sl hC;let z:adX h x=C:=by delta adX;rw[c]
   calc{d,f,sl,by rw[c,z],?_};delta cI;rw[c,z];dsimp!;rw[hC];exact Zh
  .cases e
 .cases e
def yV{h:Heap}{bm:List Value}{x:Str}(e:Gf h bm x=aN){K:V5}(lk:∀a o,(a,o)∈cI h x->K.lookup a=aw o):h.nsMap ZaH x=aw (.ref (adX h x))/\∀h',K.In h'->bJ h' (adX h x) bm:=by
 delta Gf at e;split at e
 .rename_i C f;split at e
  .rename_i O g sl hC;split at e
   .rename_i C' Z I u U v n T J hs;simp![bAE,beq_iff_eq,Bool.not_eq_true',ZM]at e;let{⟨⟨⟨⟨rfl,rfl⟩,rfl⟩,c⟩,d⟩,q}:=e;let z:adX h x=C':=by delta adX;rw[f]
    calc{by rw[f,z],λh' Q=>?_};rw[z];let N:=Heap.Ns.of_isNs d;let{oN,y,E,hN,hd,r}:=id N;let{c1,d1,dat,s1}:=oN;dsimp! at hd;subst hd
    let m1:(C',({.type "type",O,.cls g,sl}:Obj))∈cI h x:=by
     delta cI;rw[f];dsimp!;rw[hC];exact Zh
    let L:(g.ns,({c1,d1,.dict y E,s1}:Obj))∈cI h x:=by
     delta cI;rw[f];dsimp!;rw[hC];dsimp!;rw[hN];exact Zf _ Zh
    let X:=Q _ _ (lk _ _ m1);let B:=Q _ _ (lk _ _ L);let{nm,bs,mro,ns,Y,j,sn,sub,ab,p,del}:=g;dsimp! at J c d q N hN r m1 L X B;subst J c
    let k:sl=#[I,u,U,v,aw (.builtin "ValueError.__new__"),T]:=by
     obtain⟨l⟩:=sl;simp! at hs;rw[hs]
    subst k;exact{ns,nm,Y,bs,j,sn,sub,ab,p,O,I,u,U,v,T,h.nsMap ns,X,⟨_,y,E,B,rfl,r⟩,λn hn=>by simpa using q n hn}
   .cases e
  .cases e
 .cases e
def Ig{h:Heap}(e:Bn h=aN){K:V5}{mg:Str->Option Value}(v:h.nsMap ZaH=mg)(hb:mg "isinstance" = aD)(lk:∀x,x∈("RingError" : Str)::fk->∀a o,(a,o)∈cI h x->K.lookup a=aw o):XInf K mg (adX h "RingError") (fk.map (adX h)):=by
 delta Bn at e;let{B,q,E,u,y}:=an5 e;subst v;let r1:=yV B (lk _ Zh);let nd:=ZV.mp (yT u);refine{r1.1,by simpa using y,hb,r1.2,λl k i C f j=>?_,λl k D g=>?_,nd.2,λD g z=>nd.1 (z▸g),λi x c=>?_,by rw[Za];rfl}
 .rw[Zo]at f;cases c:fk[i]? with
  |none=>rw[c]at f;cases f
  |some x=>
   rw[c]at f;cases f;let d:x∈fk.take 14:=Zj (i:=i) (by rw[Xn j];exact c);exact(yV (ZM.mp q x d) (lk x (Zf _ (Zj c)))).2 l k
 .let{x,c,rfl}:=ZJ.mp g;let{n,p,sl,_,m}:=yU (ZM.mp E x c);exact{n,p,sl,k _ _ (lk x (Zf _ c) _ _ m)}
 .let{n,p,sl,m,_}:=yU (ZM.mp E x (Zj c));exact{adX h x,by rw[Zo,c];rfl,m}
def Ih{con:List (Str×Int)}{ae:List DefE}(hb:AN ae){h:Heap}(e:AM con ae h=uE con ae):Says con ae h:=by
 delta AM uE at e;simp![Prod.mk.injEq]at e;let{e0,Z,Y,e3,e4}:=e;let N:=Heap.Ns.of_isNs e0;let D:∀d∈ae,vt h d.x=yS d:=λd hd=>Xl.mp Z d hd
 let inK:∀a o,(a,o)∈ae.flatMap (eO h)++(("RingError" : Str)::fk).flatMap (cI h)->h.get? a=aw o:=λa o he=>by
  rcases ZQ.mp he with he |he
  rotate_left
  .let{x,_,he}:=Ye.mp he;exact(uF he).1
  let{d,hd,he}:=Ye.mp he;let{f,X,Q,kV,k,pm,an,c,ct,O,E,L,J,U,t,r,T,g,j,p,u}:=Eo (D d hd);delta eO at he;rw[g]at he;exact En he
 let lk:∀a o,(a,o)∈ae.flatMap (eO h)++(("RingError" : Str)::fk).flatMap (cI h)->(ae.flatMap (eO h)++(("RingError" : Str)::fk).flatMap (cI h)).lookup a=aw o:=λa o he=>by
  let{o',q}:=Em he;let z:=inK a o' (ox q);rw[inK a o he]at z;cases z;exact q
 refine{⟨_,N⟩,ae.flatMap (eO h)++(("RingError" : Str)::fk).flatMap (cI h),λa o q=>inK a o (ox q),λa o q I n hs=>?_,λmg G=>?_}
 .rcases ZQ.mp (ox q) with he |he
  rotate_left
  .let{x,_,he}:=Ye.mp he;exact(uF he).2 I n hs
  let{d,hd,he}:=Ye.mp he;let{f,X,Q,kV,k,pm,an,c,ct,O,E,L,J,U,t,r,T,g,j,p,u}:=Eo (D d hd);delta eO at he;rw[g]at he;dsimp! at he;delta qz at he;rw[j]at he;dsimp! at he;rw[p]at he;dsimp! at he;rcases Zn.mp he with z |he
  .cases z;cases hs
  .rcases Zn.mp he with z |he
   .cases z;cases hs
   .cases he
 .let l:=N8 G
  let bl:∀x,x∈gA->mg x=aD:=λx B=>by
   let z:=Xl.mp e3 x B;rw[l]at z
   simpa using z
  refine{λi x v y=>?_,bl,λi d y=>?_,_,_,Ig e4 l (bl _ (by decide)) λx B a o ho=>lk a o (ZK _ (Ye.mpr ⟨x,B,ho⟩))}
  .let z:=Xl.mp Y (x,v) (Zj y);delta Gc at z;rw[l]at z;dsimp! at z;split at z
   .rename_i v' t hv;cases z;exact⟨t,hv⟩
   .cases z
  .let hd:=Zj y;let{f,X,Q,kV,k,pm,an,c,ct,O,E,L,J,U,t,r,T,g,j,p,u}:=Eo (D d hd)
   let m1:(f,_)∈ae.flatMap (eO h)++(("RingError" : Str)::fk).flatMap (cI h):=Z7 _ <| Ye.mpr ⟨d,hd,by
    show _∈eO h d;delta eO;rw[g];dsimp!;delta qz;rw[j];exact Zh⟩
   let m2:(c,_)∈ae.flatMap (eO h)++(("RingError" : Str)::fk).flatMap (cI h):=Z7 _ <| Ye.mpr ⟨d,hd,by
    show _∈eO h d;delta eO;rw[g];dsimp!;delta qz;rw[j];dsimp!;rw[p];exact Zf _ Zh⟩
   let l1:=lk _ _ m1;let l2:=lk _ _ m2;let kp:RW (ae.flatMap (eO h)++(("RingError" : Str)::fk).flatMap (cI h)) (.ref f)=aN:=by delta RW;dsimp!;rw[l1]
   let C:V9 (ae.flatMap (eO h)++(("RingError" : Str)::fk).flatMap (cI h)) (.ref c) d.x=aN:=by
    delta V9;dsimp!;rw[l2];dsimp!;rw[u];simp
   let F:=MF (st:=d.st) (x:=d.x) (qual:=d.x) l1 C kp;refine{f,_,by rw[<-l];exact g,kp,F.binds (hb.at hd),F}
def wU(x:Says con ae h)(k:∀b o,h.get? b=aw o->h'.get? b=aw o):Says con ae h':=by
 let{⟨m,N⟩,K,l,ns,T}:=x
 let B:∀mg,h'.Ns ZaH mg->h.Ns ZaH mg:=λmg ⟨o,f,E,d,r⟩=>by
  let{O,j,g,c,n}:=N;let z:=k _ _ c;rw[d]at z;cases z;exact⟨o,f,E,c,r⟩
 refine{{m,let ⟨o,f,E,d,r⟩:=N;{o,f,E,k _ _ d,r}},K,λa o q=>k _ _ (l a o q),ns,λmg G=>T mg (B mg G)}
abbrev kM(con:List (Str×Int))(ae:List DefE)(hb:AN ae):PySem.W.Hook:=
 {uD,λs=>AM con ae s.heap,λ_=>uE con ae,λ_ h=>Says con ae h,λ_ _ e=>Ih hb e,λ_ _ _ x k=>wU x k}
def oy{K:V5}{m:List Addr}{H:Hp}:∀ns:List Int,VDs K m H (ns.map D.int) (ns.map V.int)
 |[]=>by rw[Yh,Yh,VDs]
 |a::l=>by rw[Zw,Zw,VDs];exact{_,_,rfl,bv,oy l}
def Ii{l:PySem.W.OpenLaw}{n k i:Nat}{q:Program}{loose:List Str}{XP:(Str->Option Value)->Heap->Prop}{d:DefRec}{con:List (Str×Int)}{ae:List DefE}{hb:AN ae}{dl:DefE}{x:Str}
  (hn:l.most=aw n) (O:n<=sizeLine) (Q:d.params.defaults=[]) (hr:Room k callerA) (hx:d.name=dl.x) (hi:ae[i]?=aw dl) (h:dl.ps=[x]) (hc:ae.all (Ek (qx con ae))=aN) (hw:ae.any yO=aN)
  (main:∀ns:List Int,ns.length<=n->∃I,evC ae k i [.ref 0] [.frz (ns.map D.int)]=aw (.bl aN,I)) :
  PySem.W.WalkO q loose XP (kM con ae hb).says l.row.toRowW d [] (λf Z=>PySem.call f Z):=by
 calc Att.attach_call hn Q λw s₀ B mg mb fa o pm cd E a Z ns G Y ho hd U p C g c hg=>?_;let{_,K,KX,J,T}:=(show Says con ae B.heap from Y);let T:=T mg G.T.g;let{R,Ds,xi}:=T.xs;let{f,fd,hm,kp,_,F}:=T.fn i dl hi;rw[hx]at p;rw[p]at hm;cases hm
 let bd:∀ (s:Shared) (u:Value),BindsTo s fd ⟨[u],[]⟩ [(x,u)]:=λs u=>by
  let{oc,od,kV,E,pm,an,L,ct,osl,rfl,lk,U}:=F.ex;let z:=(hb.at (Zj hi)) kV E pm an L ct [u] (by rw[h];rfl);rw[h]at z;exact .of_eq z
 refine B2 (CX:=CXE l.row.toRowW.prog w) (sp:=spX K Ds (evX ae k i) dl.ps.length) KX G.T.g G.T.b G.T.builtins G.T.nolimit hg C g (Zz c O) hr (λbase kin _=>by
  let:=yR (P:=l.row.toRowW.prog) (w:=w) (base:=base) T xi kin hc hw k i dl hi fa fd p F;rw[h]at this ⊢;exact this) bd (λH hO hS=>?_) λH e s' ⟨_,_,_,_,_,_,_,_,z⟩=>z
 let X:∃o,H a=aw (.frz o (.lst (ns.map V.int))):=by
  rcases hS with (z |⟨o,z⟩) |⟨o,its,n',hk,hc,hdd,hdt,_⟩
  .rcases hO a with y |⟨o',xs,y⟩
   .rw[y]at z;cases z
   .rw[y]at z;cases z
  .exact⟨o,z⟩
  .exact absurd hdt (J a o hk its n')
 let{o,X}:=X;let{I,e}:=main ns c;refine El {[a],[.ref 0],[.frz (ns.map D.int)],.bl aN,I,?_,{rfl,by simp,λj ob ej=>?_},by rw[h];rfl,e,λm' H' v A vv=>vv.bls}
 .rw[VDs];exact{_,_,rfl,by rw[VD];exact⟨a,rfl,rfl⟩,by rw[VDs]}
 .cases j with
  |zero=>cases ej;exact{a,rfl,o,_,X,oy ns}
  |succ j=>simp at ej
end Ev
namespace Lw
open PySem Ev
abbrev oz:List CS:=[.ret (.d (.s .int (.v 0)) (.n (.s .bool (.v 0))))]
abbrev lh:List CS:=[.ret (.d (.c 0 [.v 0]) (.h .le .le (.v 1) (.v 0) (.v 2)))]
abbrev lj:List CS:=[.ret (.c 1 [.v 0,.int 0,.con 0 9999])]
abbrev oB:List CS:=[.ret (.d (.s .tuple (.v 0)) (.h .le .le (.v 1) (.e (.v 0)) (.v 2)))]
abbrev fQ:List CS:=[.i (.or (.n (.c 3 [.v 0,.int 0,.v 1])) (.n (.all (.o ["number"] (.c 1 [.v 2,.int 0,.b .sub (.v 1) (.int 1)]) [{.n 2,.p (.v 0),aD}])))) [.ret (.bl aS)] [],.ret (.all (.o ["number"] (.m .eq (.cnt (.v 0) (.v 2)) (.int 1)) [{.n 2,.p (.v 0),aD}]))]
abbrev jZ:List CS:=[.ret (.d (.c 4 [.v 0,.v 1]) (.m .eq (.listOf (.v 0)) (.srt (.v 0))))]
abbrev qA:List CS:=[.ret (.t (.o ["other"] (.v 2) [{.n 2,.p (.v 0),aw (.m .ne (.v 2) (.v 1))}]))]
abbrev ll:List CS:=[.i (.n (.c 3 [.v 0,.int 4,.int 4])) [.ret (.bl aS)] [],.a (.tup [.n 1,.n 2,.n 3,.n 4]) (.v 0),.ret (.d (.c 1 [.v 1,.int 0,.con 1 8]) (.d (.c 1 [.v 2,.int 0,.con 2 60]) (.d (.c 8 [.v 3]) (.c 11 [.v 4]))))]
abbrev oC:List CS:=[.i (.n (.c 3 [.v 0,.int 1,.con 3 4])) [.ret (.bl aS)] [],.ret (.d (.all (.o ["row"] (.c 9 [.v 1,.e (.v 0)]) [{.n 1,.p (.v 0),aD}])) (.c 10 [.v 0]))]
abbrev j6:List CS:=[.ret (.d (.c 3 [.v 0,.v 1,.v 1]) (.all (.o ["gap"] (.c 1 [.v 2,.int 1,.con 4 99]) [{.n 2,.p (.v 0),aD}])))]
abbrev bV:List CS:=[.a (.n 1) (.l (.e (.v 0))),.ret (.all (.o ["a","b","c"] (.m .le (.x (.x (.v 0) (.v 2)) (.v 3)) (.b .add (.x (.x (.v 0) (.v 2)) (.v 4)) (.x (.x (.v 0) (.v 4)) (.v 3)))) [{.n 2,.p (.v 1),aD},{.n 3,.p (.v 1),aD},{.n 4,.p (.v 1),aD}]))]
abbrev lm:List CS:=[.i (.or (.n (.c 3 [.v 0,.int 0,.con 5 4])) (.n (.all (.o ["part"] (.c 12 [.v 1]) [{.n 1,.p (.v 0),aD}])))) [.ret (.bl aS)] [],.ret (.all (.o ["at"] (.m .gt (.x (.x (.v 0) (.v 1)) (.int 0)) (.x (.x (.v 0) (.b .sub (.v 1) (.int 1))) (.int 1))) [{.n 1,.r2 (.int 1) (.e (.v 0)),aD}]))]
abbrev j7:List CS:=[.ret (.d (.c 3 [.v 0,.int 2,.int 2]) (.d (.c 2 [.x (.v 0) (.int 0)]) (.d (.c 2 [.x (.v 0) (.int 1)]) (.m .lt (.x (.v 0) (.int 0)) (.x (.v 0) (.int 1))))))]
abbrev qB:List CS:=[.ret (.c 1 [.v 1,.int 0,.b .sub (.e (.x (.v 0) (.int 2))) (.int 1)])]
abbrev fG:List CS:=[.f (.tup [.n 2,.n 3]) (.p (.x (.v 0) (.int 3))) [.i (.h .le .lt (.v 2) (.v 1) (.v 3)) [.ret (.v 3)] []],.ret (.v 1)]
abbrev oD:List CS:=[.i (.n (.c 3 [.v 0,.int 4,.int 4])) [.ret (.bl aS)] [],.a (.tup [.n 1,.n 2,.n 3,.n 4]) (.v 0),.ret (.d (.c 7 [.v 1]) (.d (.c 16 [.v 1,.v 2]) (.d (.c 17 [.v 1,.v 3]) (.c 19 [.v 3,.v 4]))))]
abbrev oE:List CS:=[.i (.m .is (.v 1) .non) [.ret (.bl aN)] [],.ret (.d (.c 3 [.v 1,.int 2,.int 2]) (.d (.c 13 [.v 0,.x (.v 1) (.int 0)]) (.c 2 [.x (.v 1) (.int 1)])))]
abbrev iW:List CS:=[.ret (.d (.c 3 [.v 1,.int 0,.con 6 7]) (.all (.o ["part"] (.c 18 [.v 0,.v 2]) [{.n 2,.p (.v 1),aD}])))]
abbrev ls:List CS:=[.i (.n (.c 3 [.v 1,.int 7,.int 7])) [.ret (.bl aS)] [],.a (.tup [.n 2,.n 3,.n 4,.n 5,.n 6,.n 7,.n 8]) (.v 1),.i (.n (.all (.o ["minute"] (.c 2 [.v 9]) [{.n 9,.p (.tup [.v 3,.v 4,.v 5,.v 6]),aD}]))) [.ret (.bl aS)] [],.i (.n (.h .le .le (.b .add (.v 3) (.x (.v 0) (.int 1))) (.v 4) (.v 5))) [.ret (.bl aS)] [],.ret (.d (.c 13 [.v 0,.v 2]) (.d (.c 1 [.v 7,.int 0,.con 7 99]) (.c 1 [.v 8,.int 0,.x (.v 0) (.int 0)])))]
abbrev lu:List CS:=[.i (.n (.c 4 [.v 1,.e (.v 0)])) [.ret (.bl aS)] [],.ret (.all (.o ["number","glider"] (.or (.m .eq (.x (.v 3) (.int 6)) (.int 0)) (.m .s (.v 2) (.v 1))) [{.tup [.n 2,.n 3],.en (.v 0),aD}]))]
abbrev ly:List CS:=[.ret (.t (.o ["number"] (.v 1) [{.n 1,.r1 (.e (.x (.v 0) (.int 2))),aw (.m .o (.v 1) (.x (.v 0) (.int 3)))}]))]
abbrev cY:List RS:=[.rz (.n (.c 15 [.v 0])) 1]
abbrev pF:List CS:=[.a (.tup [.n 2,.n 3,.n 4,.n 5,.n 6,.n 7,.n 8]) (.v 0),.ret (.b .mul (.v 7) (.mx (.int 0) (.b .sub (.v 1) (.v 6))))]
abbrev gr:List CS:=[.i (.n (.v 1)) [.ret (.x (.v 0) (.int 1))] [],.a (.tup [.n 2,.n 3]) (.x (.v 1) (.neg (.int 1))),.ret (.tup [.x (.x (.x (.v 0) (.int 2)) (.v 2)) (.int 0),.v 3])]
abbrev qC:List CS:=[.i (.m .is (.v 1) .non) [.ret (.int 0)] [],.ret (.b .add (.x (.v 1) (.int 1)) (.x (.x (.x (.x (.v 0) (.int 0)) (.int 2)) (.x (.v 1) (.int 0))) (.v 2)))]
abbrev oG:List CS:=[.a (.tup [.n 3,.n 4]) (.v 1),.ret (.h .le .lt (.x (.x (.x (.v 0) (.int 2)) (.v 3)) (.int 1)) (.v 2) (.b .sub (.v 4) (.x (.x (.v 0) (.int 0)) (.int 1))))]
abbrev gu:List CS:=[.ret (.e (.o ["landing"] (.v 3) [{.n 3,.p (.v 1),aw (.c 25 [.v 0,.v 3,.v 2])}]))]
abbrev eP:List CS:=[.ret (.srt (.o ["glider"] (.x (.v 1) (.int 1)) [{.n 1,.p (.x (.v 0) (.int 2)),aD}]))]
abbrev iX:List CS:=[.a (.tup [.n 3,.n 4,.n 5,.n 6,.n 7,.n 8,.n 9]) (.x (.x (.v 0) (.int 2)) (.x (.x (.v 1) (.v 2)) (.int 0))),.ret (.d (.m .gt (.v 9) (.int 0)) (.d (.c 25 [.v 0,.x (.v 1) (.v 2),.v 4]) (.m .gt (.c 29 [.v 0,.v 1,.v 2,.v 4]) (.v 9))))]
abbrev iY:List CS:=[.a (.n 4) (.sl (.v 1) aD (aw (.v 2))),.a (.n 5) (.o ["when"] (.v 6) [{.n 6,.p (.c 27 [.v 0]),aw (.d (.m .gt (.v 6) (.v 3)) (.c 25 [.v 0,.x (.v 1) (.v 2),.v 6]))}]),.ret (.w (.o ["when"] (.b .add (.int 1) (.c 26 [.v 0,.v 4,.v 6])) [{.n 6,.p (.b .add (.lst [.v 3]) (.v 5)),aD}]))]
abbrev dZ:List CS:=[.a (.n 2) (.lst []),.f (.tup [.n 3,.n 4]) (.en (.v 1)) [.a (.n 5) (.c 32 [.v 0,.c 23 [.v 0,.v 2],.v 4,.v 3]),.i (.m .is (.v 5) .non) [.ret (.v 2)] [],.ex (.app (.v 2) (.tup [.v 4,.v 5])),.i (.c 28 [.v 0,.v 2,.v 3]) [.ret (.sl (.v 2) aD (aw (.v 3)))] []],.ret (.v 2)]
abbrev fH:List CS:=[.a (.n 1) (.c 30 [.v 0,.x (.v 0) (.int 3)]),.ret (.ite (.m .eq (.e (.v 1)) (.e (.x (.v 0) (.int 3)))) (.v 1) .non)]
abbrev fI:List CS:=[.a (.tup [.n 4,.n 5,.n 6,.n 7,.n 8,.n 9,.n 10]) (.x (.x (.v 0) (.int 2)) (.v 2)),.a (.n 11) (.c 14 [.x (.v 0) (.int 0),.mx (.v 6) (.c 24 [.v 0,.v 1,.v 4])]),.i (.or (.m .gt (.v 11) (.v 7)) (.c 33 [.v 0,.v 3,.v 11])) [.ret .non] [],.ret (.v 11)]
abbrev eR:List CS:=[.a (.tup [.n 3,.n 4,.n 5,.n 6]) (.x (.v 0) (.int 0)),.a (.n 7) (.c 27 [.v 0]),.a (.n 8) (.b .add (.v 3) (.v 1)),.ret (.d (.m .lt (.v 8) (.e (.v 7))) (.m .gt (.b .sub (.v 2) (.v 4)) (.x (.v 7) (.v 8))))]
abbrev j8:List CS:=[.a (.n 2) (.c 31 [.v 0]),.i (.m .is (.v 2) .non) [.ret .non] [],.a (.n 3) (.c 36 [.v 0,.v 1,.c 23 [.v 0,.v 2],.c 20 [.v 0],.dct0]),.i (.m .is (.v 3) .non) [.ret .non] [],.a (.tup [.n 4,.n 5]) (.v 3),.f (.tup [.n 6,.n 7]) (.p (.rev (.v 2))) [.a (.n 4) (.c 35 [.v 1,.x (.x (.v 0) (.int 2)) (.v 6),.v 7,.v 4])],.ret (.tup [.v 4,.b .add (.x (.v 0) (.int 3)) (.v 5)])]
abbrev uG:List CS:=[.i (.m .eq (.v 0) (.str "last")) [.ret (.mx (.v 2) (.v 3))] [],.i (.m .eq (.v 0) (.str "cost")) [.ret (.b .add (.c 22 [.v 1,.v 2]) (.v 3))] [],.ret (.mx (.c 22 [.v 1,.v 2]) (.v 3))]
abbrev e8:List CS:=[.i (.n (.v 3)) [.ret (.tup [.int 0,.tup []])] [],.a (.n 5) (.tup [.v 2,.v 3]),.i (.m .o (.v 5) (.v 4)) [.a (.n 6) (.o ["number"] (.c 37 [.v 0,.v 1,.v 2,.v 3,.v 7,.v 4]) [{.n 7,.p (.v 3),aD}]),.j (.z (.o ["way"] (.v 7) [{.n 7,.p (.v 6),aw (.m .t (.v 7) .non)}])) (.v 4) (.v 5)] [],.ret (.x (.v 4) (.v 5))]
abbrev lA:List CS:=[.a (.n 6) (.c 32 [.v 0,.v 2,.v 4,.b .sub (.e (.x (.v 0) (.int 2))) (.e (.v 3))]),.i (.m .is (.v 6) .non) [.ret .non] [],.a (.n 7) (.x (.x (.v 0) (.int 2)) (.v 4)),.a (.n 8) (.c 36 [.v 0,.v 1,.tup [.x (.v 7) (.int 0),.v 6],.c 6 [.v 3,.v 4],.v 5]),.i (.m .is (.v 8) .non) [.ret .non] [],.ret (.tup [.c 35 [.v 1,.v 7,.v 6,.x (.v 8) (.int 0)],.b .add (.tup [.v 4]) (.x (.v 8) (.int 1))])]
abbrev fR:List RS:=[.ck 40 [.v 0,.v 1],.pl (.ret (.c 41 [.v 0,.v 1]))]
abbrev fS:List RS:=[.ck 40 [.v 0,.v 1],.pl (.ret (.c 42 [.c 41 [.v 0,.v 1]]))]
abbrev cZ:List RS:=[.ck 21 [.v 0],.rz (.n (.c 5 [.v 1,.e (.x (.v 0) (.int 2))])) 4]
abbrev iZ:List CS:=[.a (.tup [.n 2,.n 3,.n 4,.n 5]) (.v 0),.a (.n 6) (.t (.o ["number"] (.x (.v 4) (.v 7)) [{.n 7,.p (.v 1),aD}])),.ret (.tup [.v 2,.v 3,.v 6,.t (.o ["number"] (.idx (.v 1) (.v 7)) [{.n 7,.p (.v 5),aw (.m .s (.v 7) (.v 1))}])])]
abbrev yW:List CS:=[.ret (.m .t (.c 34 [.v 0,.str "last"]) .non)]
abbrev i6:List CS:=[.i (.m .lt (.v 1) (.e (.v 0))) [.ret (.x (.v 0) (.v 1))] [],.ret (.int 0)]
abbrev qD:List CS:=[.i (.m .ge (.v 0) (.b .pow (.int 10) (.int 18))) [.ret (.lst [.b .sub (.v 0) (.b .pow (.int 10) (.int 18))])] [],.a (.n 1) (.int 0),.f (.n 2) (.r1 (.int 64)) [.a (.n 3) (.b .mod (.b .mul (.b .add (.b .add (.b .mod (.v 0) (.int 2147483629)) (.b .mul (.int 7919) (.v 2))) (.int 1)) (.int 48271)) (.int 2147483647)),.a (.n 3) (.b .mod (.b .add (.b .add (.b .mul (.v 3) (.v 3)) (.b .mul (.int 69621) (.v 2))) (.int 7)) (.int 2147483587)),.a (.n 1) (.b .add (.b .mul (.v 1) (.int 2147483587)) (.v 3))],.ret (.lst [.v 1])]
abbrev oH:List CS:=[.a (.n 2) (.b .mod (.x (.v 0) (.int 0)) (.v 1)),.j (.b .fdiv (.x (.v 0) (.int 0)) (.v 1)) (.v 0) (.int 0),.ret (.v 2)]
abbrev lB:List CS:=[.ret (.d (.s .int (.v 0)) (.n (.s .bool (.v 0))))]
abbrev fT:List CS:=[.a (.tup [.n 1,.n 2]) (.tup [.b .add (.int 1) (.c 45 [.v 0,.int 4]),.x (.lst [.int 3,.int 12,.int 40]) (.c 45 [.v 0,.int 3])]),.a (.n 3) (.o ["_law_a"] (.o ["_law_b"] (.b .add (.int 1) (.c 45 [.v 0,.v 2])) [{.n 7,.r1 (.v 1),aD}]) [{.n 6,.r1 (.v 1),aD}]),.f (.n 4) (.r1 (.v 1)) [.f (.n 5) (.r1 (.v 1)) [.j (.o ["_law_b"] (.mn (.x (.x (.v 3) (.v 5)) (.v 6)) (.b .add (.x (.x (.v 3) (.v 5)) (.v 4)) (.x (.x (.v 3) (.v 4)) (.v 6)))) [{.n 6,.r1 (.v 1),aD}]) (.v 3) (.v 5)]],.ret (.t (.o ["_law_row"] (.t (.v 6)) [{.n 6,.p (.v 3),aD}]))]
abbrev j9:List CS:=[.a (.tup [.n 1,.n 2]) (.tup [.lst [],.int 0]),.f (.n 3) (.r1 (.c 45 [.v 0,.x (.lst [.int 1,.int 5]) (.c 45 [.v 0,.int 2])])) [.a (.n 4) (.b .add (.v 2) (.c 45 [.v 0,.int 25])),.ex (.app (.v 1) (.tup [.v 4,.b .add (.b .add (.v 4) (.int 1)) (.c 45 [.v 0,.int 25])])),.a (.n 2) (.b .add (.x (.x (.v 1) (.neg (.int 1))) (.int 1)) (.int 1))],.ret (.tup [.x (.lst [.int 8,.int 1,.int 2,.int 3,.int 0]) (.c 45 [.v 0,.int 5]),.x (.lst [.int 0,.int 2,.int 9,.int 60]) (.c 45 [.v 0,.int 4]),.c 47 [.v 0],.t (.v 1)])]
abbrev iM:List CS:=[.a (.tup [.n 2,.n 3]) (.tup [.c 48 [.v 0],.lst []]),.a (.tup [.n 4,.n 5]) (.tup [.x (.lst [.int 5,.int 20,.int 60]) (.c 45 [.v 0,.int 3]),.x (.lst [.int 4,.int 30,.int 90,.int 400]) (.c 45 [.v 0,.int 4])]),.f (.n 6) (.r1 (.c 45 [.v 0,.b .add (.v 1) (.int 1)])) [.a (.n 7) (.c 45 [.v 0,.v 4]),.a (.n 8) (.b .add (.b .add (.v 7) (.x (.v 2) (.int 1))) (.x (.lst [.int 0,.c 45 [.v 0,.int 9]]) (.c 45 [.v 0,.int 2]))),.a (.tup [.n 9,.n 10]) (.tup [.b .add (.v 8) (.c 45 [.v 0,.v 5]),.b .add (.v 7) (.c 45 [.v 0,.v 5])]),.ex (.app (.v 3) (.lst [.c 45 [.v 0,.e (.x (.v 2) (.int 2))],.v 7,.v 8,.v 9,.v 10,.x (.lst [.int 0,.int 1,.int 7,.int 99]) (.c 45 [.v 0,.int 4]),.int 0]))],.a (.tup [.n 11,.n 12]) (.tup [.l (.e (.v 3)),.lst []]),.f (.n 13) (.r1 (.x (.lst [.int 0,.c 45 [.v 0,.b .add (.e (.v 3)) (.int 1)]]) (.c 45 [.v 0,.int 2]))) [.ex (.app (.v 12) (.q (.v 11) (.c 45 [.v 0,.e (.v 11)]))),.i (.d (.m .gt (.x (.v 2) (.int 0)) (.int 0)) (.m .eq (.c 45 [.v 0,.int 3]) (.int 0))) [.j (.b .add (.int 1) (.c 45 [.v 0,.x (.v 2) (.int 0)])) (.x (.v 3) (.x (.v 12) (.neg (.int 1)))) (.int 6)] []],.a (.n 14) (.x (.lst [.non,.tup [.c 45 [.v 0,.e (.x (.v 2) (.int 2))],.c 45 [.v 0,.int 30]]]) (.c 45 [.v 0,.int 2])),.ret (.tup [.v 2,.v 14,.t (.o ["_law_one"] (.t (.v 15)) [{.n 15,.p (.v 3),aD}]),.t (.v 12)])]
abbrev oI:List CS:=[.f (.tup [.n 2,.n 3]) (.p (.v 0)) [.i (.h .le .lt (.v 2) (.v 1) (.v 3)) [.a (.n 1) (.v 3)] []],.ret (.v 1)]
abbrev lH:List CS:=[.ret (.o ["_law_one","_law_minute"] (.v 3) [{.tup [.n 3,.n 4],.p (.v 1),aw (.h .le .lt (.x (.x (.x (.v 0) (.int 2)) (.v 3)) (.int 1)) (.v 2) (.b .sub (.v 4) (.x (.x (.v 0) (.int 0)) (.int 1))))}])]
abbrev oJ:List CS:=[.a (.n 4) (.x (.x (.x (.v 0) (.int 2)) (.v 2)) (.int 1)),.a (.n 5) (.b .add (.lst [.v 4]) (.o ["_law_one","_law_when"] (.x (.x (.x (.v 0) (.int 2)) (.v 7)) (.int 1)) [{.tup [.n 7,.n 8],.p (.v 1),aD}])),.a (.n 6) (.o ["_law_at"] (.b .add (.int 1) (.e (.c 51 [.v 0,.v 1,.v 7]))) [{.n 7,.p (.v 5),aw (.h .le .lt (.v 4) (.v 7) (.b .sub (.v 3) (.x (.x (.v 0) (.int 0)) (.int 1))))}]),.ret (.y (.v 6) 0)]
abbrev fU:List CS:=[.a (.tup [.n 4,.n 5,.n 6,.n 7]) (.sl (.x (.x (.v 0) (.int 2)) (.v 2)) aD (aw (.int 4))),.i (.m .t (.v 1) .non) [.a (.n 6) (.mx (.v 6) (.b .add (.x (.v 1) (.int 1)) (.x (.x (.x (.x (.v 0) (.int 0)) (.int 2)) (.x (.v 1) (.int 0))) (.v 4))))] [],.a (.n 8) (.c 50 [.x (.x (.v 0) (.int 0)) (.int 3),.v 6]),.a (.n 9) (.sl (.srt (.o ["_law_one"] (.x (.v 10) (.int 1)) [{.n 10,.p (.x (.v 0) (.int 2)),aD}])) (aw (.b .add (.x (.x (.v 0) (.int 0)) (.int 0)) (.v 3))) aD),.i (.or (.m .gt (.v 8) (.v 7)) (.d (.m .ne (.v 9) (.lst [])) (.m .gt (.b .sub (.v 8) (.x (.x (.v 0) (.int 0)) (.int 1))) (.x (.v 9) (.int 0))))) [.ret .non] [],.ret (.v 8)]
abbrev i7:List CS:=[.a (.tup [.n 2,.n 3]) (.tup [.x (.v 0) (.int 1),.lst []]),.f (.tup [.n 4,.n 5]) (.en (.v 1)) [.a (.tup [.n 6,.n 7]) (.tup [.c 53 [.v 0,.v 2,.v 5,.v 4],.x (.x (.x (.v 0) (.int 2)) (.v 5)) (.int 6)]),.i (.or (.m .is (.v 6) .non) (.h .lt .lt (.int 0) (.v 7) (.c 52 [.v 0,.v 3,.v 5,.v 6]))) [.ret (.tup [.str "stuck",.v 4])] [],.ex (.app (.v 3) (.tup [.v 5,.v 6])),.a (.n 2) (.tup [.x (.x (.x (.v 0) (.int 2)) (.v 5)) (.int 0),.v 6])],.ret (.tup [.str "lands",.v 3])]
abbrev lJ:List CS:=[.i (.m .eq (.v 2) (.str "last")) [.ret (.y (.o ["_law_one","_law_minute"] (.v 4) [{.tup [.n 3,.n 4],.p (.v 1),aD}]) 0)] [],.never]
abbrev bC:List CS:=[.a (.tup [.n 2,.n 3]) (.tup [.c 54 [.v 0,.x (.v 0) (.int 3)],.non]),.a (.n 4) (.ite (.m .eq (.x (.v 2) (.int 0)) (.str "lands")) (.lst [.tup [.x (.v 0) (.int 3),.x (.v 2) (.int 1)]]) (.lst [])),.g (.m .ne (.v 4) (.lst [])) [.a (.tup [.n 5,.n 6]) (.pop (.v 4)),.a (.n 7) (.ite (.m .eq (.v 5) (.tup [])) (.x (.v 0) (.int 1)) (.tup [.x (.x (.x (.v 0) (.int 2)) (.x (.v 5) (.neg (.int 1)))) (.int 0),.x (.x (.v 6) (.neg (.int 1))) (.int 1)])),.i (.m .eq (.e (.v 5)) (.e (.x (.v 0) (.int 2)))) [.a (.n 8) (.c 55 [.v 0,.v 6,.v 1]),.i (.or (.m .is (.v 3) .non) (.m .lt (.v 8) (.x (.v 3) (.int 0)))) [.a (.n 3) (.tup [.v 8,.v 5])] []] [],.f (.n 9) (.dn (.b .sub (.e (.x (.v 0) (.int 2))) (.int 1))) [.i (.m .o (.v 9) (.v 5)) [.a (.n 10) (.c 53 [.v 0,.v 7,.v 9,.e (.v 5)]),.i (.m .t (.v 10) .non) [.ex (.app (.v 4) (.tup [.b .add (.v 5) (.tup [.v 9]),.b .add (.v 6) (.lst [.tup [.v 9,.v 10]])]))] []] []]],.ret (.v 3)]
abbrev gR:List CS:=[.a (.tup [.n 2,.n 3,.n 4,.n 5]) (.v 0),.a (.n 6) (.t (.o ["_law_one"] (.idx (.v 1) (.v 7)) [{.n 7,.p (.v 5),aw (.m .s (.v 7) (.v 1))}])),.ret (.tup [.v 2,.v 3,.t (.o ["_law_one"] (.x (.v 4) (.v 7)) [{.n 7,.p (.v 1),aD}]),.v 6])]
abbrev lK:List CS:=[.ret (.m .t (.c 56 [.c 57 [.v 0,.v 1],.str "last"]) .non)]
abbrev wW:List CS:=[.never,.never,.never,.never,.never,.ret (.x (.lst [.str "lot",.str "sky"]) (.idx (.v 1) (.bl aN)))]
abbrev eA:List RS:=[.tr 38 39 0 [.v 1,.v 2]]
abbrev ka:List CS:=[.i (.or (.n (.s .tuple (.v 1))) (.n (.all (.o ["_law_one"] (.d (.c 46 [.v 2]) (.h .le .lt (.int 0) (.v 2) (.e (.x (.v 0) (.int 2))))) [{.n 2,.p (.v 1),aD}])))) [.ret (.bl aS)] [],.ret (.all (.o ["_law_one","_law_other"] (.m .lt (.v 2) (.v 3)) [{.tup [.n 2,.n 3],.zp (.v 1) (.sl (.v 1) (aw (.int 1)) aD),aD}]))]
abbrev oK:List CS:=[.a (.tup [.n 2,.n 3]) (.tup [.c 45 [.v 0,.b .add (.e (.v 1)) (.int 1)],.b .add (.int 7) (.c 45 [.v 0,.b .pow (.int 10) (.int 30)])]),.a (.n 4) (.x (.lst [.int 0,.int 1,.int 6,.int 7,.neg (.int 1),.v 3,.b .sub (.int 0) (.v 3),.bl aN,.bl aS,.non,.str "0",.tup [],.lst [.int 0],.dic0]) (.c 45 [.v 0,.int 14])),.a (.n 5) (.lst [.b .add (.b .add (.sl (.v 1) aD (aw (.v 2))) (.tup [.v 4])) (.sl (.v 1) (aw (.v 2)) aD),.b .add (.b .add (.sl (.v 1) aD (aw (.v 2))) (.tup [.v 4])) (.sl (.v 1) (aw (.b .add (.v 2) (.int 1))) aD),.b .add (.sl (.v 1) aD (aw (.v 2))) (.sl (.v 1) (aw (.b .add (.v 2) (.int 1))) aD),.listOf (.v 1)]),.a (.n 5) (.b .add (.v 5) (.lst [.b .add (.b .add (.sl (.v 1) aD (aw (.v 2))) (.sl (.v 1) (aw (.v 2)) (aw (.b .add (.v 2) (.int 1))))) (.sl (.v 1) (aw (.v 2)) aD),.rev (.v 1),.b .add (.sl (.v 1) (aw (.v 2)) aD) (.sl (.v 1) aD (aw (.v 2))),.tup [.v 1],.v 4,.dic1 0 1,.non])),.ex (.app (.v 5) (.t (.o ["_law_one"] (.ite (.m .lt (.v 6) (.int 2)) (.m .eq (.v 6) (.int 1)) (.v 6)) [{.n 6,.p (.v 1),aD}]))),.ret (.x (.v 5) (.c 45 [.v 0,.e (.v 5)]))]
abbrev oM:List CS:=[.f (.n 1) (.r1 (.mx (.int 1) (.mn (.e (.v 0)) (.int 6)))) [.a (.n 2) (.c 44 [.c 43 [.v 0,.v 1]]),.a (.n 3) (.c 49 [.v 2,.int 6]),.a (.n 4) (.e (.x (.v 3) (.int 2))),.f (.n 5) (.r1 (.int 6)) [.a (.n 6) (.t (.o ["_law_one"] (.v 11) [{.n 11,.r1 (.v 4),aw (.m .gt (.c 45 [.v 2,.int 3]) (.int 0))}])),.f (.n 7) (.p (.lst [.v 6,.x (.lst [.tup [],.u (.v 4)]) (.b .mod (.v 5) (.int 2)),.c 62 [.v 2,.v 6]])) [.a (.n 8) (.rep (.tup [.v 3,.v 7])),.a (.n 9) (.lst [.str "lot",.str "lot"]),.i (.c 61 [.v 3,.v 7]) [.a (.n 9) (.lst [.c 57 [.v 3,.v 7],.c 58 [.v 3,.v 7]])] [],.f (.n 10) (.r1 (.int 2)) [.i (.or (.m .ne (.rep (.c 60 [.v 10,.v 3,.v 7])) (.rep (.x (.v 9) (.v 10)))) (.m .ne (.rep (.tup [.v 3,.v 7])) (.v 8))) [.ret (.bl aS)] []]],.i (.m .ne (.o ["_law_way"] (.c 60 [.v 11,.tup [.v 3],.v 6]) [{.n 11,.r1 (.int 2),aD}]) (.b .mul (.lst [.str "sky"]) (.int 2))) [.ret (.bl aS)] []]],.ret (.bl aN)]
abbrev ji:DefE:={"is_whole",top 19,["thing"],1,oz,aD}
abbrev gU:DefE:={"is_within",top 20,["thing","least","most"],3,lh,aD}
abbrev gW:DefE:={"is_minute",top 21,["thing"],1,lj,aD}
abbrev jj:DefE:={"is_tuple",top 22,["thing","least","most"],3,oB,aD}
abbrev cx:DefE:={"are_unlike",top 23,["thing","many"],2,fQ,aD}
abbrev fV:DefE:={"are_rising",top 24,["thing","many"],2,jZ,aD}
abbrev kN:DefE:={"without",top 25,["numbers","number"],2,qA,aD}
abbrev gX:DefE:={"is_meadow",top 32,["thing","rings","sink","gaps","shuts"],1,ll,aD}
abbrev jk:DefE:={"are_gaps",top 33,["thing"],1,oC,aD}
abbrev fW:DefE:={"is_gap_row",top 34,["thing","many"],2,j6,aD}
abbrev bx:DefE:={"no_glider_between_helps",top 35,["gaps","kinds"],1,bV,aD}
abbrev gY:DefE:={"are_shuts",top 36,["thing"],1,lm,aD}
abbrev fX:DefE:={"is_stretch",top 37,["thing"],1,j7,aD}
abbrev kO:DefE:={"is_kind",top 38,["meadow","thing"],2,qB,aD}
abbrev cN:DefE:={"first_not_shut",top 39,["meadow","minute","begin","end"],2,fG,aD}
abbrev gZ:DefE:={"is_sky",top 43,["thing","meadow","ahead","gliders","fixed"],1,oD,aD}
abbrev jl:DefE:={"is_ahead",top 44,["meadow","thing"],2,oE,aD}
abbrev e9:DefE:={"are_gliders",top 45,["meadow","thing"],2,iW,aD}
abbrev hF:DefE:={"is_glider",top 46,["meadow","thing","kind","joins","first","last","due","weight","ring"],2,ls,aD}
abbrev hJ:DefE:={"are_fixed",top 47,["gliders","thing"],2,lu,aD}
abbrev hU:DefE:={"free_ones",top 48,["sky"],1,ly,aD}
abbrev hV:DefE:={"check_sky",top 49,["thing"],1,[],aw cY}
abbrev pG:DefE:={"glider_cost",top 51,["glider","minute","kind","joins","first","last","due","weight","ring"],2,pF,aD}
abbrev dh:DefE:={"landing_ahead",top 52,["sky","sooner","number","minute"],2,gr,aD}
abbrev kP:DefE:={"gap_end",top 53,["sky","ahead","kind"],3,qC,aD}
abbrev jm:DefE:={"waits_at",top 54,["sky","landing","minute","number","lands"],3,oG,aD}
abbrev dj:DefE:={"how_many_wait",top 55,["sky","landings","minute"],3,gu,aD}
abbrev cy:DefE:={"joining_minutes",top 56,["sky"],1,eP,aD}
abbrev fb:DefE:={"is_too_high",top 57,["sky","landings","place","kind","joins","first","last","due","weight","ring"],3,iX,aD}
abbrev fc:DefE:={"ring_needed",top 58,["sky","landings","place","minute","sooner","later"],4,iY,aD}
abbrev cf:DefE:={"soonest_landings",top 60,["sky","numbers","landings","place","number","minute"],2,dZ,aD}
abbrev cO:DefE:={"fixed_landings",top 61,["sky","landings"],1,fH,aD}
abbrev cP:DefE:={"soonest_minute",top 62,["sky","ahead","number","place","kind","joins","first","last","due","weight","ring","minute"],4,fI,aD}
abbrev cz:DefE:={"leaves_too_late",top 63,["sky","place","minute","rings","sink","gaps","shuts","joins","one_too_many"],3,eR,aD}
abbrev fY:DefE:={"best_order",top 65,["sky","aim","landings","best","number","order","glider","minute"],2,j8,aD}
abbrev oO:DefE:={"joined",top 66,["aim","glider","minute","number"],4,uG,aD}
abbrev b7:DefE:={"best_behind",top 67,["sky","aim","ahead","left","known","key","ways"],5,e8,aD}
abbrev hX:DefE:={"best_with",top 68,["sky","aim","ahead","left","number","known","minute","glider","best"],6,lA,aD}
abbrev jp:DefE:={"narrowed",top 70,["sky","lot"],2,[],aw fR}
abbrev jq:DefE:={"can_land",top 71,["sky","lot"],2,[],aw fS}
abbrev hY:DefE:={"check_lot",top 72,["sky","lot"],2,[],aw cZ}
abbrev fe:DefE:={"narrowed_to",top 73,["sky","lot","meadow","ahead","gliders","fixed","kept"],2,iZ,aD}
abbrev sj:DefE:={"lands",top 74,["sky"],1,yW,aD}
abbrev fg:DefE:={"_law_cell_at",top 76,["_law_script","_law_k"],2,i6,aD}
abbrev kQ:DefE:={"_law_pot",top 77,["_law_cell","_law_number","_law_j","_law_more"],1,qD,aD}
abbrev jr:DefE:={"_law_take",top 78,["_law_pot_here","_law_wide","_law_found"],2,oH,aD}
abbrev hZ:DefE:={"_law_whole",top 79,["_law_found"],1,lB,aD}
abbrev jt:DefE:={"_law_gaps",top 80,["_law_pot_here","_law_many","_law_far","_law_found","_law_c","_law_a"],1,fT,aD}
abbrev fZ:DefE:={"_law_meadow",top 81,["_law_pot_here","_law_shuts","_law_at","_law_turn","_law_begin"],1,j9,aD}
abbrev kR:DefE:={"_law_sky",top 82,["_law_pot_here","_law_most","_law_meadow_here","_law_gliders","_law_wide","_law_long","_law_number","_law_joins","_law_first","_law_last","_law_due","_law_left","_law_fixed","_law_turn","_law_ahead"],2,iM,aD}
abbrev ju:DefE:={"_law_open",top 83,["_law_shuts","_law_minute","_law_begin","_law_end"],2,oI,aD}
abbrev ia:DefE:={"_law_waits",top 84,["_law_sky_here","_law_landed","_law_at"],3,lH,aD}
abbrev jv:DefE:={"_law_need",top 85,["_law_sky_here","_law_landed","_law_number","_law_minute","_law_joins","_law_known","_law_counts"],4,oJ,aD}
abbrev jw:DefE:={"_law_step",top 86,["_law_sky_here","_law_ahead","_law_number","_law_place","_law_kind","_law_joins","_law_first","_law_last","_law_minute","_law_late"],4,fU,aD}
abbrev fh:DefE:={"_law_soonest",top 87,["_law_sky_here","_law_order","_law_ahead","_law_landed","_law_place","_law_number","_law_minute","_law_ring"],2,i7,aD}
abbrev ic:DefE:={"_law_worth",top 88,["_law_sky_here","_law_landed","_law_aim"],3,lJ,aD}
abbrev jx:DefE:={"_law_best",top 89,["_law_sky_here","_law_aim","_law_start","_law_found","_law_left","_law_order","_law_landed","_law_ahead","_law_worth_here","_law_number","_law_minute"],2,bC,aD}
abbrev eB:DefE:={"_law_narrowed",top 90,["_law_sky_here","_law_lot","_law_meadow_here","_law_ahead","_law_gliders","_law_fixed","_law_kept"],2,gR,aD}
abbrev ie:DefE:={"_law_lands",top 91,["_law_sky_here","_law_lot"],2,lK,aD}
abbrev wX:DefE:={"_law_word",top 92,["_law_e","_law_kinds"],1,wW,aD}
abbrev jy:DefE:={"_law_told",top 93,["_law_way","_law_sky_here","_law_lot","_law_e"],3,[],aw eA}
abbrev f8:DefE:={"_law_is_lot",top 94,["_law_sky_here","_law_thing"],2,ka,aD}
abbrev jz:DefE:={"_law_bent",top 95,["_law_pot_here","_law_lot","_law_at","_law_far","_law_odd","_law_some"],2,oK,aD}
abbrev yX:DefE:={"law",top 96,["_law_script","_law_k","_law_pot_here","_law_sky_here","_law_many","_law_turn","_law_right","_law_lot","_law_kept","_law_dues","_law_way"],1,oM,aD}
abbrev ae:List DefE:=[ji,gU,gW,jj,cx,fV,kN,gX,jk,fW,bx,gY,fX,kO,cN,gZ,jl,e9,hF,hJ,hU,hV,pG,dh,kP,jm,dj,cy,fb,fc,cf,cO,cP,cz,fY,oO,b7,hX,jp,jq,hY,fe,sj,fg,kQ,jr,hZ,jt,fZ,kR,ju,ia,jv,jw,fh,ic,jx,eB,ie,wX,jy,f8,jz,yX]
def chk:ae.all (Ek (qx con ae))=aN:=by kernel_rfl
def U6:ae.any yO=aN:=by kernel_rfl
def us1:∀ {u:List Value},u.length=1->∃c,u=[c]
 |[c],_=>⟨c,rfl⟩
def us2:∀ {u:List Value},u.length=2->∃c d,u=[c,d]
 |[c,d],_=>⟨c,d,rfl⟩
def us3:∀ {u:List Value},u.length=3->∃c f d,u=[c,f,d]
 |[c,f,d],_=>⟨c,f,d,rfl⟩
def us4:∀ {u:List Value},u.length=4->∃g d c f,u=[g,d,c,f]
 |[g,d,c,f],_=>⟨g,d,c,f,rfl⟩
def us5:∀ {u:List Value},u.length=5->∃g d c f h,u=[g,d,c,f,h]
 |[g,d,c,f,h],_=>⟨g,d,c,f,h,rfl⟩
def us6:∀ {u:List Value},u.length=6->∃h d c f j g,u=[h,d,c,f,j,g]
 |[h,d,c,f,j,g],_=>⟨h,d,c,f,j,g,rfl⟩
def bind:AN ae:=by
 repeat' apply And.intro
 all_goals first |trivial |(intro _ _ _ _ _ _ u h;first |(let{_,rfl}:=us1 h;rfl) |(let{_,_,rfl}:=us2 h;rfl) |(let{_,_,_,rfl}:=us3 h;rfl) |(let{_,_,_,_,rfl}:=us4 h;rfl) |(let{_,_,_,_,_,rfl}:=us5 h;rfl) |(let{_,_,_,_,_,_,rfl}:=us6 h;rfl))
end Lw
section
open PySem PySem.W PyProof.Rows
def Lw.eqs(h:Heap):Ev.AM Lw.con Lw.ae h=(h.isNs ZaH,(Lw.nx.take 42).map (λx=>Ev.vt h (.ofString x.1))++(Lw.nx.drop 42).map (λx=>Ev.vt h (.ofString x.1)),Lw.con.map (λc=>Ev.Gc h c.1),(Ev.gA.map λx=>(h.nsMap ZaH x).isNone),Ev.Bn h):=by kernel_rfl
def Lw.eqv:Ev.uE Lw.con Lw.ae=(aN,Lw.vb (Lw.nx.take 42)++Lw.vb (Lw.nx.drop 42),Lw.con.map (λc=>aw c.2),(Ev.gA.map λ_=>aN),aN):=by kernel_rfl
def Lw.partC:Cut.PartC PySem.Challenge.rw_downrings_k51_lots_narrowed_and_landed.row.toRowW.prog (Hook.obs (Ev.kM Lw.con Lw.ae Lw.bind)) (Hook.val (Ev.kM Lw.con Lw.ae Lw.bind)):=λw=>by
 let z:=Cut.two (λa (b:Ev.uD)=>((b.1,a++b.2.1,b.2.2):Ev.uD)) Lw.L5 Lw.L6 w;show XR (λs=>Ev.AM Lw.con Lw.ae s.heap) (Cut.fin _ w)=aw (Ev.uE Lw.con Lw.ae);rw[Lw.eqv,show(λs:Shared=>Ev.AM Lw.con Lw.ae s.heap)=_ from funext λs=>Lw.eqs s.heap];exact z
set_option maxHeartbeats 0 in
def Lw.head(h:∀ns:List Int,ns.length<=63->∃c,Ev.evC Lw.ae 40 63 [.ref 0] [.frz (ns.map Ev.D.int)]=aw (.bl aN,c)):PySem.Challenge.rw_downrings_k51_lots_narrowed_and_landed.Holds:=by
 w_on;refine holds_law Lw.said λsaid=>?_
 refine holds_open (q:=Lw.view) (loose:=Lw.loose) (Xt:=(λs=>xlAt Lw.view [] s && recOk (RowW.records PySem.Challenge.rw_downrings_k51_lots_narrowed_and_landed.row.toRowW) s)) (XP:=XL Lw.view []) (Yf:=(Hook.obs (Ev.kM Lw.con Lw.ae Lw.bind))) (Ya:=(Hook.val (Ev.kM Lw.con Lw.ae Lw.bind))) (YP:=Hook.says (Ev.kM Lw.con Lw.ae Lw.bind)) (N:=20000) ?hl (Hook.of _) (Hook.keeps _) (λs e=>xl_of s (XC.mp e).1) XL.keeps (by rfl) (by rfl) (by rfl) (λs e=>recFacts_of (XC.mp e).2) (by rfl) (by first |assumption |decide +kernel) (by decide +kernel) {rfl,rfl,rfl,rfl,rfl,by decide +kernel} ?hw ?hc
 case hw=>w_witness2
 case hl=>exact Cut.left_cut Lw.opn Lw.partA Lw.partB Lw.partC
 case hc=>exact Ev.Ii (l:=PySem.Challenge.rw_downrings_k51_lots_narrowed_and_landed) (n:=63) (k:=40) (i:=63) (dl:=Lw.yX) rfl (by decide) rfl {rfl,by decide,by decide,rfl} rfl rfl rfl Lw.chk Lw.U6 h
end
namespace Ev
open PySem PySem.Spec PyProof.Rows L2
abbrev Ok{c:Type}(x:Option (c×Sto))(Q:c->Sto->Prop):Prop:=∃a S,x=aw (a,S)/\Q a S
abbrev OkS(x:Option (Fl×Rho×Sto))(Q:Fl->Rho->Sto->Prop):Prop:=∃f c S,x=aw (f,c,S)/\Q f c S
section
variable {g j:Type} {S s:Sto} {ρ l:Rho}
def aC{a:g}:Ok (aw (a,S)) Q=Q a S:=by
 apply propext;exact{λ⟨_,_,e,q⟩=>by cases e;exact q,λq=>⟨a,S,rfl,q⟩}
def bg:Ok aD Q=False:=propext {λ⟨_,_,e,_⟩=>(nomatch e),λh=>h.elim}
def bR:Ok (bnd x f) Q=Ok x λa S=>Ok (f a S) Q:=by
 apply propext;constructor
 .rintro⟨b,s,e,q⟩;let{a,S,E,c}:=ac e;exact⟨a,S,E,b,s,c,q⟩
 .rintro⟨a,S,E,b,s,c,q⟩;exact⟨b,s,by rw[E];exact c,q⟩
def eC{c:Prop}[Decidable c]:Ok (if c then x else y) Q=if c then Ok x Q else Ok y Q:=by split <;> rfl
def N9{x:Option j}{f:j->g×Sto}{Q:g->Sto->Prop}:Ok (x.map f) Q=∃b,x=aw b/\Q (f b).1 (f b).2:=by
 apply propext;cases x with
 |none=>exact{λ⟨_,_,e,_⟩=>(nomatch e),λ⟨_,e,_⟩=>(nomatch e)}
 |some b=>exact{λ⟨a,S,e,q⟩=>{b,rfl,by let E:=θ e;rw[E];exact q},λ⟨B,e,q⟩=>by cases e;exact⟨_,_,rfl,q⟩}
def Ok.mono(h:Ok x Q)(f:∀a S,Q a S->Q' a S):Ok x Q':=let ⟨a,S,e,q⟩:=h;{a,S,e,f a S q}
def OkS.mono(h:OkS x Q)(f:∀a ρ S,Q a ρ S->Q' a ρ S):OkS x Q':=let ⟨a,ρ,S,e,q⟩:=h;{a,ρ,S,e,f a ρ S q}
abbrev nxt(y:XS)(Q:Fl->Rho->Sto->Prop)(f:Fl)(ρ:Rho)(S:Sto):Prop:=match f with
 |.nx=>OkS (y ρ S) Q
 |f=>Q f ρ S
def Ij:OkS (wo x y ρ S) Q=OkS (x ρ S) (nxt y Q):=by
 apply propext;delta wo;constructor
 .rintro⟨f,c,d,e,q⟩;split at e
  .cases e
  .rename_i k o h;exact⟨_,_,_,h,f,c,d,e,q⟩
  .rename_i r n h;cases e;cases f with
   |nx=>exact absurd rfl (n c d)
   |_=>exact⟨_,_,_,h,q⟩
 .rintro⟨f,c,d,e,q⟩;rw[e];cases f with
  |nx=>exact q
  |_=>exact⟨_,_,_,rfl,q⟩
def Oa:OkS (xIf c x y ρ S) Q=Ok (c ρ S) λb d=>if b=aN then OkS (x ρ d) Q else OkS (y ρ d) Q:=by
 apply propext;delta xIf;constructor
 .rintro⟨f,k,d,e,q⟩;cases h:c ρ S with
  |none=>rw[h]at e;cases e
  |some r=>
   let{b,n}:=r;rw[h]at e;calc{b,n,rfl,?_};dsimp! at e ⊢;split
   .rename_i hb;rw[if_pos hb]at e;exact⟨f,k,d,e,q⟩
   .rename_i hb;rw[if_neg hb]at e;exact⟨f,k,d,e,q⟩
 .rintro⟨b,n,e,q⟩;rw[e];dsimp!;split
  .rename_i hb;rw[if_pos hb]at q;exact q
  .rename_i hb;rw[if_neg hb]at q;exact q
def Ik:OkS (pz x t ρ S) Q=Ok (x ρ S) λd S1=>∃c,aB t d ρ=aw c/\Q .nx c S1:=by
 apply propext;delta pz;constructor
 .rintro⟨f,c,S1,e,q⟩;cases h:x ρ S with
  |none=>rw[h]at e;cases e
  |some r=>
   let{d,k}:=r;rw[h]at e;dsimp! at e;cases h2:aB t d ρ with
   |none=>rw[h2]at e;cases e
   |some n=>rw[h2]at e;cases e;exact⟨d,_,rfl,c,h2,q⟩
 .rintro⟨d,k,e,c,E,q⟩;rw[e];dsimp!;rw[E];exact⟨_,_,_,rfl,q⟩
def Ep:OkS (t9 x ρ S) Q=Ok (x ρ S) λ_ S1=>Q .nx ρ S1:=by
 apply propext;delta t9;constructor
 .rintro⟨f,c,S1,e,q⟩;cases h:x ρ S with
  |none=>rw[h]at e;cases e
  |some r=>rw[h]at e;cases e;exact⟨_,_,rfl,q⟩
 .rintro⟨d,k,e,q⟩;rw[e];exact⟨_,_,_,rfl,q⟩
def Il:OkS (C4 x ρ S) Q=Ok (x ρ S) λd S1=>Q (.rt d) ρ S1:=by
 apply propext;delta C4;constructor
 .rintro⟨f,c,S1,e,q⟩;cases h:x ρ S with
  |none=>rw[h]at e;cases e
  |some r=>rw[h]at e;cases e;exact⟨_,_,rfl,q⟩
 .rintro⟨d,k,e,q⟩;rw[e];exact⟨_,_,_,rfl,q⟩
def Er:OkS (ua v o i ρ S) Q=Ok (v ρ S) λa d=>Ok (o ρ d) λb p=>Ok (i ρ p) λc u=>∃S4,kG b c a u=aw S4/\Q .nx ρ S4:=by
 apply propext;delta ua;constructor
 .rintro⟨f,C,d,e,q⟩;cases h:v ρ S with
  |none=>rw[h]at e;cases e
  |some r=>
   rw[h]at e;dsimp! at e;cases h2:o ρ r.2 with
   |none=>rw[h2]at e;cases e
   |some r2=>
    rw[h2]at e;dsimp! at e;cases k:i ρ r2.2 with
    |none=>rw[k]at e;cases e
    |some n=>
     rw[k]at e;dsimp! at e;cases h4:kG r2.1 n.1 r.1 n.2 with
     |none=>rw[h4]at e;cases e
     |some S4=>rw[h4]at e;cases e;exact⟨_,_,rfl,_,_,h2,_,_,k,_,h4,q⟩
 .rintro⟨a,d,B,b,p,E,c,u,I,S4,y,q⟩;rw[B];dsimp!;rw[E];dsimp!;rw[I];dsimp!;rw[y];exact⟨_,_,_,rfl,q⟩
def Im{k:Nat}:OkS (C5 I T b k ρ S) Q=Ok (I ρ S) λnx c=>OkS (fO nx T b k 0 ρ c) Q:=by
 apply propext;delta C5;constructor
 .rintro⟨f,n,c,e,q⟩;cases h:I ρ S with
  |none=>rw[h]at e;cases e
  |some r=>rw[h]at e;exact⟨_,_,rfl,_,_,_,e,q⟩
 .rintro⟨d,o,e,q⟩;rw[e];exact q
abbrev out(Q:D->Sto->Prop)(f:Fl)(_:Rho)(S:Sto):Prop:=match f with
 |.rt v=>Q v S
 |.nx=>Q .non S
 |_=>False
def Oc:out Q (.rt d) ρ S=Q d S:=rfl
def Od:out Q .nx ρ S=Q .non S:=rfl
def az{k f:Nat}(hd:ae[f]?=aw d)(n:c.map aw++Zp (d.N.length - c.length) aD=ρ)(h:OkS (fE (evC ae k) (cM ae) 60 d.body ρ S) (out Q))(y:d.rb=aD:=by rfl):Ok (evC ae (k+1) f c S) Q:=by
 subst n;let{p,o,u,e,q}:=h;let e:fE (toC (evX ae k)) (cM ae) FU d.body _ S=aw (p,o,u):=e;let z:evX ae (k+1) f c S=(Ic (toC (evX ae k)) (cM ae) d c S).map λr=>(.p r.1,r.2):=by simp![evX,hd,y]
 delta evC toC;rw[z];delta Ic;rw[e];cases p with
 |rt v=>exact⟨_,_,rfl,q⟩
 |nx=>exact⟨_,_,rfl,q⟩
 |bk=>exact q.elim
 |ct=>exact q.elim
def qE{N:Nat}(I:Nat->List D->Sto->Prop)
  (step:∀i f S,i < N->I i f S->∃d o,nx i S=aw (aw d)/\aB T d ρ=aw o/\Ok (c o S) λE p=>I (i+1) (f++E) p) (stop:∀f S,I N f S->nx N S=aw aD) :
  ∀ (n i k:Nat) (f:List D) (S:Sto),N=i+n->n < k->I i f S->Ok (bD nx T c ρ k i S) λE s=>I N (f++E) s
 |0,i,k+1,f,S,hN,hk,h=>by
  obtain rfl:N=i:=by lia
  simp![bD,stop f S h];exact{_,_,rfl,by show I _ (f++[]) S;rw[ZU];exact h}
 |n+1,i,k+1,f,S,hN,hk,h=>by
  let{d,o,B,q,E,p,J,v}:=step i f S (by lia) h;simp![bD,B,q,J,bnd];let{C,u,y,h2}:=qE I step stop n (i+1) k (f++E) p (by lia) (by lia) v;simp![y];exact{_,_,rfl,by show I _ (f++(E++C)) u;rw[<-Yv];exact h2}
def fJ{k:Nat}(N:Nat)(I:Nat->List D->Sto->Prop)(o:N < k)
  (step:∀i f S,i < N->I i f S->∃d n,nx i S=aw (aw d)/\aB T d ρ=aw n/\Ok (c n S) λE p=>I (i+1) (f++E) p) (stop:∀f S,I N f S->nx N S=aw aD) (h:I 0 [] S) :
  Ok (bD nx T c ρ k 0 S) (I N):=(qE I step stop N 0 k [] S (by lia) o h).mono λE s z=>by rw[Wf]at z;exact z
def oP{N:Nat}(I:Nat->Rho->Sto->Prop)
  (step:∀i ρ S,i < N->I i ρ S->∃d o,nx i S=aw (aw d)/\aB T d ρ=aw o/\OkS (b o S) λq c f=>match q with |.nx=>I (i+1) c f |.ct=>I (i+1) c f |.bk=>Q .nx c f |.rt d=>Q (.rt d) c f)
  (stop:∀ρ S,I N ρ S->nx N S=aw aD/\Q .nx ρ S) :
  ∀ (n i k:Nat) (ρ:Rho) (S:Sto),N=i+n->n < k->I i ρ S->OkS (fO nx T b k i ρ S) Q
 |0,i,k+1,ρ,S,hN,hk,h=>by
  obtain rfl:N=i:=by lia
  simp![fO,(stop ρ S h).1];exact{_,_,_,rfl,(stop ρ S h).2}
 |n+1,i,k+1,ρ,S,hN,hk,h=>by
  let{d,o,u,E,q,c,f,v,p}:=step i ρ S (by lia) h;simp![fO,u,E,v];cases q with
  |nx=>exact oP I step stop n (i+1) k c f (by lia) (by lia) p
  |ct=>exact oP I step stop n (i+1) k c f (by lia) (by lia) p
  |bk=>exact⟨_,_,_,rfl,p⟩
  |rt d=>exact⟨_,_,_,rfl,p⟩
def kc{k:Nat}(N:Nat)(I:Nat->Rho->Sto->Prop)(o:N < k)
  (step:∀i ρ S,i < N->I i ρ S->∃d f,nx i S=aw (aw d)/\aB T d ρ=aw f/\OkS (b f S) λp c n=>match p with |.nx=>I (i+1) c n |.ct=>I (i+1) c n |.bk=>Q .nx c n |.rt d=>Q (.rt d) c n)
  (stop:∀ρ S,I N ρ S->nx N S=aw aD/\Q .nx ρ S) (h:I 0 ρ S):OkS (fO nx T b k 0 ρ S) Q:=oP I step stop N 0 k ρ S (by lia) o h
end
mutual
noncomputable def TD(p:Nat)(S:Sto):Dw.D->D->Prop
 |.non,d=>d = .non
 |.bl b,d=>d = .bl b
 |.int i,d=>d = .int i
 |.str x,d=>d = .str x
 |.tup ts,d=>∃c,d = .tup c/\TDs p S ts c
 |.lst ts,d=>∃n c,d = .ref n/\n≠p/\S[n]?=aw (.lst c)/\TDs p S ts c
 |.dic ks ts,d=>∃n c,d = .ref n/\n≠p/\S[n]?=aw (.dic ks c)/\TDs p S ts c
noncomputable def TDs(p:Nat)(S:Sto):List Dw.D->List D->Prop
 |[],ds=>ds=[]
 |t::ts,ds=>∃d r,ds=d::r/\TD p S t d/\TDs p S ts r
end
abbrev Kp(p:Nat)(S c:Sto):Prop:=∀i o,i≠p->S[i]?=aw o->c[i]?=aw o
abbrev Sm(S c:Sto):Prop:=∀ (i:Nat) (o:Ob),S[i]?=aw o->c[i]?=aw o
def Sm.kp{p:Nat}(h:Sm S S'):Kp p S S':=λi o _ e=>h i o e
def Sm.refl(S:Sto):Sm S S:=λ_ _ e=>e
def Sm.trans(a:Sm S c)(b:Sm c S2):Sm S S2:=λi o e=>b i o (a i o e)
def Sm.app(S X:Sto):Sm S (S++X):=λi o e=>by
 let h:=(Zb.mp e).1;rw[ZB h];exact e
def Kp.refl(p:Nat)(S:Sto):Kp p S S:=λ_ _ _ e=>e
def Kp.trans{p:Nat}(a:Kp p S c)(b:Kp p c S2):Kp p S S2:=λi o n e=>b i o n (a i o n e)
mutual
theorem TD.keep{p:Nat}(k:Kp p S f):∀ {t:Dw.D} {d:D},TD p S t d->TD p f t d
 |.non,_,h=>by rw[TD]at h ⊢;exact h
 |.bl _,_,h=>by rw[TD]at h ⊢;exact h
 |.int _,_,h=>by rw[TD]at h ⊢;exact h
 |.str _,_,h=>by rw[TD]at h ⊢;exact h
 |.tup ts,_,h=>by rw[TD]at h ⊢;let{c,e,q}:=h;exact{c,e,TDs.keep k q}
 |.lst ts,_,h=>by rw[TD]at h ⊢;let{n,c,e,ne,a,q}:=h;exact{n,c,e,ne,k _ _ ne a,TDs.keep k q}
 |.dic ks ts,_,h=>by rw[TD]at h ⊢;let{n,c,e,ne,a,q}:=h;exact{n,c,e,ne,k _ _ ne a,TDs.keep k q}
theorem TDs.keep{p:Nat}(k:Kp p S f):∀ {T:List Dw.D} {c:List D},TDs p S T c->TDs p f T c
 |[],_,h=>by rw[TDs]at h ⊢;exact h
 |t::T,_,h=>by rw[TDs]at h ⊢;let{d,r,e,a,q}:=h;exact{d,r,e,TD.keep k a,TDs.keep k q}
end
section
variable {p:Nat} {S s:Sto}
def wY:TD p S .non .non:=by rw[TD]
def yY:TD p S (.bl b) (.bl b):=by rw[TD]
def bc{i:Int}:TD p S (.int i) (.int i):=by rw[TD]
def Es:TD p S (.str x) (.str x):=by rw[TD]
def bh(h:TDs p S T d):TD p S (.tup T) (.tup d):=by rw[TD];exact⟨d,rfl,h⟩
def aY:TDs p S [] []:=by rw[TDs]
def ak(h:TD p S t d)(q:TDs p S T c):TDs p S (t::T) (d::c):=by rw[TDs];exact⟨d,c,rfl,h,q⟩
def TD.non(h:TD p S .non d):d = .non:=by rw[TD]at h;exact h
def TD.bl(h:TD p S (.bl b) d):d = .bl b:=by rw[TD]at h;exact h
def TD.int{i:Int}(h:TD p S (.int i) d):d = .int i:=by rw[TD]at h;exact h
def TD.str(h:TD p S (.str x) d):d = .str x:=by rw[TD]at h;exact h
def TD.tup(h:TD p S (.tup T) d):∃ds,d = .tup ds/\TDs p S T ds:=by rw[TD]at h;exact h
def TDs.cons(h:TDs p S (t::T) c):∃d r,c=d::r/\TD p S t d/\TDs p S T r:=by rw[TDs]at h;exact h
def TDs.nil(h:TDs p S [] d):d=[]:=by rw[TDs]at h;exact h
def TDs.len:∀ {T:List Dw.D} {c:List D},TDs p S T c->c.length=T.length
 |[],_,h=>by rw[h.nil];rfl
 |t::T,_,h=>by let{d,r,rfl,_,q}:=h.cons;simp[q.len]
def TDs.get:∀ {T:List Dw.D} {c:List D} {i:Nat} {t:Dw.D},TDs p S T c->T[i]?=aw t->∃d,c[i]?=aw d/\TD p S t d
 |[],_,_,_,_,e=>by simp at e
 |t::T,_,0,_,h,e=>by let{d,r,rfl,a,q}:=h.cons;simp at e;subst e;exact⟨d,rfl,a⟩
 |t::T,_,i+1,_,h,e=>by let{d,r,rfl,a,q}:=h.cons;simp at e;let{x,f,y}:=q.get e;exact{x,by simpa using f,y}
def TDs.app:∀ {T u:List Dw.D} {c E:List D},TDs p S T c->TDs p S u E->TDs p S (T++u) (c++E)
 |[],_,_,_,h,q=>by rw[h.nil];exact q
 |t::T,_,_,_,h,q=>by let{d,r,rfl,a,z}:=h.cons;exact ak a (z.app q)
abbrev tyT:Dw.D->String
 |.non => "NoneType" |.bl _ => "bool" |.int _ => "int" |.str _ => "str" |.tup _ => "tuple" |.lst _ => "list" |.dic _ _ => "dict"
def Tb(h:TD p S t d):tyN d S=aw (tyT t):=by
 cases t with
 |non=>rw[h.non];rfl
 |bl _=>rw[h.bl];rfl
 |int _=>rw[h.int];rfl
 |str _=>rw[h.str];rfl
 |tup _=>let{_,rfl,_}:=h.tup;rfl
 |lst _=>rw[TD]at h;let{n,c,rfl,_,e,_}:=h;simp![tyN,e];rfl
 |dic _ _=>rw[TD]at h;let{n,c,rfl,_,e,_}:=h;simp![tyN,e];rfl
def iO(h:TD p S t d):nJ ty d S=aw (.bl (gM ty (tyT t)),S):=by
 delta nJ;rw[Tb h];rfl
end
def Io{n:Nat}:Ok (ud g n x f S) Q=Ok (x f S) λd c=>d.length=n/\Ok (g d c) Q:=by
 delta ud;rw[bR]
 congr 1
 funext d c
 rw[eC,bg];apply propext;split
 .rename_i h;exact{λz=>⟨h,z⟩,λz=>z.2}
 .rename_i h;exact{λz=>z.elim,λz=>(h z.1).elim}
def Oe:Ok (Da x y c S) Q=Ok (x c S) λd S1=>∃b,d = .bl b/\if b=aN then Ok (y c S1) Q else Q (.bl aS) S1:=by
 delta Da;rw[bR]
 congr 1
 funext d S1
 apply propext;cases d with
 |bl b=>cases b <;> simp[aC]
 |_=>simp[bg]
def Tc:Ok (xOr x y f S) Q=Ok (x f S) λd c=>∃b,d = .bl b/\if b=aN then Q (.bl aN) c else Ok (y f c) Q:=by
 delta xOr;rw[bR]
 congr 1
 funext d c
 apply propext;cases d with
 |bl b=>cases b <;> simp[aC]
 |_=>simp[bg]
def Og:Ok (Ar d S) Q=∃b,d = .bl b/\Q (.bl (!b)) S:=by
 apply propext;cases d with
 |bl b=>simp[Ar,aC]
 |_=>simp[Ar,bg]
def Oh:Ok (As f g x y z d S) Q=Ok (x d S) λa h=>Ok (y d h) λb j=>Ok (f a b j) λr S3=>∃c,r = .bl c/\if c=aN then Ok (z d S3) λe k=>Ok (g b e k) Q else Q (.bl aS) S3:=by
 delta As;rw[bR]
 congr 1
 funext a h
 rw[bR]
 congr 1
 funext b j
 rw[bR]
 congr 1
 funext r S3
 apply propext;cases r with
 |bl c=>cases c <;> simp[aC,bR]
 |_=>simp[bg]
def Oi{i:Nat}:Ok (zZ i c S) Q=∃d,c[i]?=aw (aw d)/\Q d S:=by
 apply propext;delta zZ;cases h:c[i]? with
 |none=>simp[bg]
 |some o=>cases o with
  |none=>simp[bg]
  |some d=>simp[aC]
def Td{i j:Int}:Ok (am .le (.int i) (.int j) S) Q=Q (.bl (decide (i<=j))) S:=aC
def Te{i j:Int}:Ok (am .lt (.int i) (.int j) S) Q=Q (.bl (decide (i < j))) S:=aC
def Tf{i j:Int}:Ok (am .gt (.int i) (.int j) S) Q=Q (.bl (decide (j < i))) S:=aC
def Th{i j:Int}:Ok (am .ge (.int i) (.int j) S) Q=Q (.bl (decide (j<=i))) S:=aC
def Oj{i j:Int}:Ok (bU .add (.int i) (.int j) S) Q=Q (.int (i+j)) S:=aC
def Ol{i j:Int}:Ok (bU .sub (.int i) (.int j) S) Q=Q (.int (i - j)) S:=aC
def Ti:Ok (xB x c S) Q=Ok (x c S) λd S1=>∃b,d = .bl b/\Q b S1:=by
 delta xB;rw[bR]
 congr 1
 funext d S1
 apply propext;cases d with
 |bl b=>simp[aC]
 |_=>simp[bg]
def Ip{own k:Nat}:Ok (nQ own I T c k d S) Q=Ok (I d S) λnx f=>eN T (d++Zp own aD)=aN/\Ok (bD nx T c (d++Zp own aD) k 0 f) λE S2=>E.length<=100000/\Q E S2:=by
 delta nQ;rw[bR]
 congr 1
 funext nx f
 rw[eC,bg];apply propext
 let e:Ok (bnd (bD nx T c (d++Zp own aD) k 0 f) λE S2=>if E.length<=100000 then aw (E,S2) else aD) Q=Ok (bD nx T c (d++Zp own aD) k 0 f) λE S2=>E.length<=100000/\Q E S2:=by
  rw[bR]
  congr 1
  funext E S2
  rw[eC,bg,aC];apply propext;split
  .rename_i h;exact{λz=>⟨h,z⟩,λz=>z.2}
  .rename_i h;exact{λz=>z.elim,λz=>(h z.1).elim}
 rw[e];split
 .rename_i h;exact{λz=>⟨h,z⟩,λz=>z.2}
 .rename_i h;exact{λz=>z.elim,λz=>(h z.1).elim}
def Et{k:Nat}:Ok (kH I T c k d S) Q=(eN T d=aN/\Ok (I d S) λnx f=>Ok (bD nx T c d k 0 f) Q):=by
 delta kH;rw[eC,bg,bR];apply propext;split
 .rename_i h;exact{λz=>⟨h,z⟩,λz=>z.2}
 .rename_i h;exact{λz=>z.elim,λz=>(h z.1).elim}
def Iq:Ok (qc x c S) Q=Ok (x c S) λd S1=>d.length<=1000/\Q d S1:=by
 delta qc;rw[bR]
 congr 1
 funext d S1
 rw[eC,bg,aC];apply propext;split
 .rename_i h;exact{λz=>⟨h,z⟩,λz=>z.2}
 .rename_i h;exact{λz=>z.elim,λz=>(h z.1).elim}
def Ir:Ok (nv d S) Q=(d.length<=1000/\Q (.tup d) S):=by
 delta nv;rw[eC,bg,aC];apply propext;split
 .rename_i h;exact{λz=>⟨h,z⟩,λz=>z.2}
 .rename_i h;exact{λz=>z.elim,λz=>(h z.1).elim}
def f9{c:Type}(l:List c)(g:c->Bool)(S:Sto):lW aS (l.map λt=>D.bl (g t)) S=aw (.bl (l.all g),S):=by
 delta lW;let h1:(l.map λt=>D.bl (g t)).all CM=aN:=by rw[Yu];simp[Function.comp_def,CM]
 let h2:(l.map λt=>D.bl (g t)).all Af=l.all g:=by rw[Yu];rfl
 rw[if_pos ⟨rfl,h1⟩,h2]
def sr{p:Nat}{S:Sto}{T:List Dw.D}{n:List D}{B:Tg}{c:XA}{y:Rho}{Q:List D->Sto->Prop}(h:TDs p S T n)(hl:T.length<=100000)(g:Dw.D->Bool)
  (step:∀ (i:Nat) t d f,T[i]?=aw t->Sm S f->TD p f t d->∃j,aB B d y=aw j/\Ok (c j f) λE u=>E=[.bl (g t)]/\Sm f u) (q:∀f,Sm S f->Q (T.map λt=>.bl (g t)) f) :
  Ok (bD (nxL n) B c y LF 0 S) λE S2=>E.length<=100000/\Q E S2:=by
 refine(fJ T.length (λi k f=>Sm S f/\k=(T.take i).map λt=>.bl (g t)) (by delta LF;lia) (λi k f o ⟨sm,l⟩=>?_) (λk f ⟨sm,l⟩=>?_) {Sm.refl S,by simp}).mono λE f ⟨sm,l⟩=>?_
 .let{d,I,J}:=h.get (gEG o);let{j,C,E,u,L,rfl,v}:=step i T[i] d f (gEG o) sm (J.keep sm.kp);calc{d,j,by show aw n[i]?=_;rw[I],C,_,u,L,sm.trans v,?_};rw[l,Z6 o,ZD];rfl
 .show aw n[T.length]?=_;rw[Zx (by rw[h.len];lia)]
 .rw[Y8]at l;subst l;exact{by rw[Za];exact hl,q f sm}
def Iu{S:Sto}{n:Nat}{lo:Int}{T:Tg}{c:XA}{o:Rho}{Q:List D->Sto->Prop}(hl:n<=100000)(g:Nat->Bool)
  (step:∀ (i:Nat) d,i < n->Sm S d->∃f,aB T (.int (lo+i)) o=aw f/\Ok (c f d) λE k=>E=[.bl (g i)]/\Sm d k) (q:∀d,Sm S d->Q ((Zm n).map λi=>.bl (g i)) d) :
  Ok (bD (nxR lo n) T c o LF 0 S) λE S2=>E.length<=100000/\Q E S2:=by
 refine(fJ n (λi h d=>Sm S d/\h=(Zm i).map λt=>.bl (g t)) (by delta LF;lia) (λi h d p ⟨sm,j⟩=>?_) (λh d ⟨sm,j⟩=>?_) {Sm.refl S,by simp}).mono λE d ⟨sm,j⟩=>?_
 .let{f,u,E,k,v,rfl,l}:=step i d p sm;calc{_,f,by show aw (if i < n then aw (D.int (lo+i)) else aD)=_;rw[if_pos p],u,_,k,v,sm.trans l,?_};rw[j,Xu,ZD];rfl
 .show aw (if n < n then aw (D.int (lo+n)) else aD)=_;rw[if_neg (ZO n)]
 .subst j;exact{by rw[Za,ZI];exact hl,q d sm}
def wZ{m n:Nat}(q:S[m]?=aw (.lst ((Zm n).map λj=>.int (Int.ofNat j))))(C:n<=1000)(f:Nat->List D)
  (step:∀ (i:Nat) d,i < n->Sm S d->∃g,aB T (.int i) v=aw g/\Ok (c g d) λE l=>E=f i/\Sm d l):Ok (bD (nxS m) T c v LF 0 S) λE S2=>E=(Zm n).flatMap f/\Sm S S2:=by
 refine(fJ n (λi h d=>Sm S d/\h=(Zm i).flatMap f) (by delta LF;lia) (λi h d u ⟨sm,k⟩=>?_) (λh d ⟨sm,k⟩=>?_) {Sm.refl S,by simp}).mono λE d ⟨sm,k⟩=>⟨k,sm⟩
 .let{g,y,E,l,B,rfl,p}:=step i d u sm;refine{.int i,g,?_,y,_,l,B,sm.trans p,?_}
  .show(aU d m).map (λo=>o[i]?)=_;simp![aU,sm _ _ q,ZE,Zo,YE u];rfl
  .rw[k,Dw.p9]
 .show(aU d m).map (λo=>o[n]?)=_;simp![aU,sm _ _ q,ZE];rw[Zx (by simp)]
def Eu:Ok (eY x f S) Q=Ok (x f S) λd c=>Q (.ref c.length) (c++[.lst d]):=by
 delta eY;rw[bR]
 congr 1
 funext d c
 rw[aC]
def Om(h:Ok (x f S) λd c=>∃i:Nat,d = .int i/\i<=1000/\Q ((Zm i).map λj=>.int (Int.ofNat j)) c):Ok (Az x f S) Q:=by
 delta Az;rw[bR];calc h.mono λd c ⟨i,e,g,q⟩=>?_;subst e;dsimp!;rw[if_pos (by lia),aC,ZF];exact q
def yZ{p:Nat}{a b:Int}:∀ {fs:List Dw.D} {c:List D},fs.all (λe=>Dw.bX e a b)=aN->TDs p S fs c->c=(Dw.b9 fs).map D.int
 |[],c,_,h=>by rw[h.nil];rfl
 |t::fs,c,hw,h=>by
  let{d,r,rfl,h1,h2}:=h.cons;rw[Yc,bAE]at hw;let{i,rfl,_}:=Dw.dP hw.1;rw[h1.int,yZ hw.2 h2];rfl
def uH(is:List Int):(is.map D.int).all cT=aN:=by rw[Yu];simp[Function.comp_def,cT]
def uI(is:List Int)(i:Int)(S:Sto):wm (.tup (is.map D.int)) [.int i] S=aw (.int (is.count i:Nat),S):=by
 let e:((is.map D.int).countP λz=>eqF z (.int i))=is.count i:=by
  rw[Wi];delta Wp
  congr 1
 simp![wm];rw[if_pos {rfl,uH is},e]
def kf(neg:Bool)(is:List Int)(i:Int)(S:Sto):inS neg (.int i) (.tup (is.map D.int)) S=aw (.bl (neg != decide (i∈is)),S):=by
 let e:inF (.int i) (is.map D.int)=decide (i∈is):=by
  delta inF;rw[List.any_map,Yo,X7];simp![Function.comp_def,eqF,beq_iff_eq,decide_eq_true_eq];exact{λ⟨x,c,e⟩=>e▸c,λh=>⟨i,h,rfl⟩}
 simp![inS,aq];rw[if_pos {rfl,uH is},e]
def Iv(i j:Int)(S:Sto):am .eq (.int i) (.int j) S=aw (.bl (decide (i=j)),S):=by
 simp![am,eqS];let:eqD 60 S (.int i) (.int j)=aw (i == j):=rfl;rw[this];rfl
def Iw(i j:Int)(S:Sto):am .ne (.int i) (.int j) S=aw (.bl (!decide (i=j)),S):=mM (x:=.int i) (y:=.int j) (b:=decide (i=j)) rfl
def Oo{i j:Int}:Ok (am .eq (.int i) (.int j) S) Q=Q (.bl (decide (i=j))) S:=by rw[Iv,aC]
def Op{i j:Int}:Ok (am .ne (.int i) (.int j) S) Q=Q (.bl (!decide (i=j))) S:=by rw[Iw,aC]
def Ix{i:Nat}:aB (.n i) d c=if i < c.length then aw (c.set i (aw d)) else aD:=by simp![aB]
def Ew:aB (.tup T) (.tup d) ρ=aQ T d ρ:=by simp![aB]
def y6:aQ [] [] ρ=aw ρ:=by simp![aQ]
def uJ{i:Nat}:aQ (.n i::T) (d::j) f=if i < f.length then aQ T j (f.set i (aw d)) else aD:=by
 simp![aQ,aB];split
 .rename_i g h;split at h
  .rename_i c;cases h;rw[if_pos c]
  .cases h
 .rename_i h;split at h
  .cases h
  .rename_i c;rw[if_neg c]
def fj{i j:Nat}(h1:i < c.length)(h2:j < c.length):aB (.tup [.n i,.n j]) (.tup [a,b]) c=aw ((c.set i (aw a)).set j (aw b)):=by
 rw[Ew,uJ,if_pos h1,uJ,if_pos (by rw[Yb];exact h2),y6]
def aM{a:Nat}(h:S[a]?=aw (.lst es)):aU S a=aw es:=by simp![aU,h]
def Iy{a b n:Nat}(h1:S[a]?=aw (.lst E))(h2:S[b]?=aw (.lst []))(h:a≠b):eqD (n+1) S (.ref a) (.ref b)=aw E.isEmpty:=by
 show(match aU S a,aU S b with |some xs,aw ys=>if a=b then aw aN else if xs.length=ys.length then eqL eqB xs ys else aw aS |_,_=>aD)=_;rw[aM h1,aM h2];show(if a=b then aw aN else if E.length=([]:List D).length then eqL eqB E [] else aw aS)=_;rw[if_neg h];cases E with
 |nil=>simp[eqL]
 |cons x xs=>simp
def Ex{a b:Nat}(h1:S[a]?=aw (.lst E))(h2:S[b]?=aw (.lst []))(h:a≠b):am .ne (.ref a) (.ref b) S=aw (.bl (!E.isEmpty),S):=mM (Iy h1 h2 h)
def Ey(d:List D)(k:Nat)(h:k<=d.length):gw d aD (aw (k:Int))=d.take k:=by
 delta gw;rw[Dw.Cn _ _ (by lia),ZF,Wj h];rfl
def Oq{p:Nat}(h:TDs p S T d):au dS (.tup d) S=aw (.int T.length,S):=by
 simp![au,aq,dS,h.len]
section
variable {S g S1 l:Sto} {p:Nat} {Q:D->Sto->Prop} {ρ:Rho}
def Ot{i j:Int}:Ok (bU .mod (.int i) (.int j) S) Q=(0 < j/\Q (.int (i % j)) S):=by
 simp![bU,MW,eC,aC,bg];apply propext;split
 .rename_i h;exact{λz=>⟨h,z⟩,λz=>z.2}
 .rename_i h;exact{λz=>z.elim,λz=>(h z.1).elim}
def Iz{i j:Int}:Ok (bU .fdiv (.int i) (.int j) S) Q=((0 < j/\j < 1298074214633706907132624082305024)/\Q (.int (i / j)) S):=by
 simp![bU,CG,eC,aC,bg];apply propext;split
 .rename_i h;exact{λz=>⟨h,z⟩,λz=>z.2}
 .rename_i h;exact{λz=>z.elim,λz=>(h z.1).elim}
def Ou{i j:Int}:Ok (bU .mul (.int i) (.int j) S) Q=(jO i j=aN/\Q (.int (i * j)) S):=by
 simp![bU,rH,eC,aC,bg];apply propext;split
 .rename_i h;exact{λz=>⟨h,z⟩,λz=>z.2}
 .rename_i h;exact{λz=>z.elim,λz=>(h z.1).elim}
def Ov{i j:Int}:Ok (bU .pow (.int i) (.int j) S) Q=((0<=j/\j<=1000000/\i.natAbs < 2 ^ 64)/\Q (.int (i ^ j.toNat)) S):=by
 simp![bU,MX,eC,aC,bg];apply propext;split
 .rename_i h;exact{λz=>⟨h,z⟩,λz=>z.2}
 .rename_i h;exact{λz=>z.elim,λz=>(h z.1).elim}
def y7{i j:Int}(h1:-(2 ^ 64) < j)(h2:j < 2 ^ 64):jO i j=aN:=by simp![jO,Xd,bAE,decide_eq_true_eq];exact .inr ⟨h1,h2⟩
def su{i j:Int}(h1:-(2 ^ 64) < i)(h2:i < 2 ^ 64):jO i j=aN:=by simp![jO,Xd,bAE,decide_eq_true_eq];exact .inl ⟨h1,h2⟩
abbrev Pot(p:Nat)(S:Sto):Prop:=∃n:Int,S[p]?=aw (.lst [.int n])
structure Dr(p:Nat)(S g:Sto):Prop where
 kp:Kp p S g
 pot:Pot p g
def Dr.refl(h:Pot p S):Dr p S S:={Kp.refl p S,h}
def Dr.trans(a:Dr p S S1)(b:Dr p S1 l):Dr p S l:={a.kp.trans b.kp,b.pot}
def Dr.sm(h:Pot p S)(s:Sm S g):Dr p S g:={s.kp,let ⟨n,e⟩:=h;{n,s _ _ e}}
def Dr.thenSm(a:Dr p S S1)(s:Sm S1 l):Dr p S l:=a.trans (Dr.sm a.pot s)
def Pot.lt(h:Pot p S):p < S.length:=let ⟨_,e⟩:=h;(Zb.mp e).1
def Ow:Kp p S (S.set p o):=λi u n e=>by rw[Zq (Ne.symm n)];exact e
def eD(h:p < S.length):(S.set p o)[p]?=aw o:=by rw[ZL h]
def kg{n:Nat}{lo:Int}{T:Tg}{b:XS}{Q:Fl->Rho->Sto->Prop}(hl:n<=100000)(I:Nat->Rho->Sto->Prop)
  (step:∀ (i:Nat) ρ S,i < n->I i ρ S->∃c,aB T (.int (lo+i)) ρ=aw c/\OkS (b c S) λo f l=>match o with |.nx=>I (i+1) f l |.ct=>I (i+1) f l |.bk=>Q .nx f l |.rt d=>Q (.rt d) f l)
  (q:∀ρ g,I n ρ g->Q .nx ρ g) (k:I 0 ρ S):OkS (fO (nxR lo n) T b LF 0 ρ S) Q:=by
 refine kc n I (by delta LF;lia) (λi ρ g j h=>?_) (λρ g h=>{?_,q ρ g h}) k
 .let{c,E,z}:=step i ρ g j h;exact{_,c,by show aw (if i < n then aw (D.int (lo+i)) else aD)=_;rw[if_pos j],E,z}
 .show aw (if n < n then aw (D.int (lo+n)) else aD)=_;rw[if_neg (ZO n)]
def w9{n:Nat}{lo:Int}{T:Tg}{c:XA}{Q:List D->Sto->Prop}(hl:n<=100000)(I:Nat->List D->Sto->Prop)
  (step:∀ (i:Nat) d g,i < n->I i d g->∃f,aB T (.int (lo+i)) ρ=aw f/\Ok (c f g) λE S1=>I (i+1) (d++E) S1) (q:∀E g,I n E g->E.length<=100000/\Q E g) (k:I 0 [] S) :
  Ok (bD (nxR lo n) T c ρ LF 0 S) λE l=>E.length<=100000/\Q E l:=by
 refine(fJ n I (by delta LF;lia) (λi d g j h=>?_) (λd g h=>?_) k).mono q
 .let{f,o,z}:=step i d g j h;exact{_,f,by show aw (if i < n then aw (D.int (lo+i)) else aD)=_;rw[if_pos j],o,z}
 .show aw (if n < n then aw (D.int (lo+n)) else aD)=_;rw[if_neg (ZO n)]
def Ox:Ok (vW x y ρ S) Q=Ok (x ρ S) λc S1=>Ok (y ρ S1) λi l=>∃k,i = .int k/\∃d,atI c k=aw d/\Q d l:=by
 delta vW;rw[bR]
 congr 1
 funext c S1
 rw[bR]
 congr 1
 funext i l
 apply propext;cases i with
 |int k=>simp[N9]
 |_=>simp[bg]
def Oy{i:Int}(c:0<=i)(h1:i < ds.length):∃d,atI ds i=aw d/\ds[i.toNat]?=aw d:=by
 let h:i.toNat < ds.length:=by lia
 calc{ds[i.toNat],?_,gEG h};delta atI ixN;rw[if_pos c,if_pos (by lia)];exact gEG h
def kS{nx:Nxt}{T:Tg}{c:XA}{Q:List D->Sto->Prop}(n:Nat)(o:Nat->D)(I:Nat->List D->Sto->Prop)(h:∀i d g,i<=n->I i d g->nx i g=aw (if i < n then aw (o i) else aD))(hl:n<=100000)
  (step:∀ (i:Nat) d g,i < n->I i d g->∃f,aB T (o i) ρ=aw f/\Ok (c f g) λE S1=>I (i+1) (d++E) S1) (q:∀E g,I n E g->E.length<=100000/\Q E g) (u:I 0 [] S) :
  Ok (bD nx T c ρ LF 0 S) λE l=>E.length<=100000/\Q E l:=by
 refine(fJ n I (by delta LF;lia) (λi d g k j=>?_) (λd g j=>?_) u).mono q
 .let{f,v,z}:=step i d g k j;exact{_,f,by rw[h i d g (by lia) j,if_pos k],v,z}
 .rw[h n d g (Zg _) j,if_neg (ZO n)]
def Ez{m i:Nat}(h:S[m]?=aw (.lst c))(E:Nat->D)(j:∀i d,c[i]?=aw d->E i=d):nxS m i S=aw (if i < c.length then aw (E i) else aD):=by
 show(aU S m).map (λc=>c[i]?)=_;rw[aM h,ZE];split
 .rename_i f;rw[gEG f,j i _ (gEG f)]
 .rename_i f;rw[Zx (by lia)]
structure RowsS(p:Nat)(S:Sto)(rs:List D)(M:List (List Int)):Prop where
 len:rs.length=M.length
 row:∀ (i:Nat) r,M[i]?=aw r->∃a,rs[i]?=aw (.ref a)/\a≠p/\S[a]?=aw (.lst (r.map D.int))
def RowsS.keep(h:RowsS p S c M)(k:Kp p S g):RowsS p g c M:={h.len,λi r d=>let ⟨a,e,n,z⟩:=h.row i r d;{a,e,n,k _ _ n z}}
def RowsS.nil:RowsS p S [] []:={rfl,λi r h=>by simp at h}
def RowsS.snoc{a:Nat}(h:RowsS p S k M)(n:a≠p)(z:S[a]?=aw (.lst (r.map D.int))):RowsS p S (k++[.ref a]) (M++[r]):=by
 calc{by simp[h.len],λi j c=>?_};by_cases d:i < M.length
 .rw[ZB d]at c;let{b,e,nb,Z}:=h.row i j c;exact{b,by rw[ZB (by rw[h.len];exact d)];exact e,nb,Z}
 .rw[Zv (by lia)]at c
  let f:i - M.length=0:=by
   let:=(Zb.mp c).1;simp at this;lia
  rw[f]at c;cases c;exact{a,by rw[Zv (by rw[h.len];lia),h.len,f];rfl,n,z}
def ay:(S++[o])[S.length]?=aw o:=by rw[Zv (Zg _),Z5];rfl
def Kp.setNew{f:Nat}(h:Kp p S g)(c:S.length<=f):Kp p S (g.set f o):=λi u n e=>by
 let d:=(Zb.mp e).1;rw[Zq (by lia)];exact h i u n e
def Pot.setNe{f:Nat}(h:Pot p S)(c:f≠p):Pot p (S.set f o):=by
 let{n,e}:=h;exact{n,by rw[Zq c];exact e}
abbrev aj(q:Int×Int):D:=.tup [.int q.1,.int q.2]
def ig:∀ (E:List (Int×Int)),TDs p S (E.map Dw.qa) (E.map aj)
 |[]=>aY
 |e::E=>ak (bh (ak bc (ak bc aY))) (ig E)
def jA{f:Nat}(h:S[f]?=aw (.lst d))(hl:d.length < 100000):Ok (t6 (.ref f) [e] S) Q=Q .non (S.set f (.lst (d++[e]))):=by
 simp![t6,chg,h];rw[if_pos hl];exact aC
def cA{f:Nat}(h:S[f]?=aw (.lst d)):eM (.ref f) S=aN:=by simp![eM,aM h];rfl
def mw{f:Nat}(h:S[f]?=aw (.lst (ds++[e]))):ixS (.ref f) (.int (-1)) S=aw (e,S):=by
 let:atI (ds++[e]) (-1:Int)=aw e:=by
  delta atI ixN;rw[if_neg (by decide),if_pos (by rw[Ze,Zl];lia)];show(ds++[e])[((-1:Int)+((ds++[e]).length:Int)).toNat]?=aw e;let:((-1:Int)+((ds++[e]).length:Int)).toNat=ds.length:=by rw[Ze,Zl];lia
  rw[this,Zv (Zg _),Z5];rfl
 simp![ixS,aq,aM h,ZE,this]
def BU{i:Nat}(h:c[i]?=aw d):ixS (.tup c) (.int i) S=aw (d,S):=by
 let f:=(Zb.mp h).1
 let E:atI c (i:Int)=aw d:=by
  delta atI ixN;rw[if_pos (by lia),if_pos (by lia),ZF];exact h
 simp![ixS,aq,E,ZE]
def ya{i:Nat}(h:c[i]?=aw d):atI c (i:Int)=aw d:=by
 let f:=(Zb.mp h).1;delta atI ixN;rw[if_pos (by lia),if_pos (by lia),ZF];exact h
def EA{n:Nat}(c:n≠p)(h:S[n]?=aw (.lst d))(q:TDs p S T d):TD p S (.lst T) (.ref n):=by rw[TD];exact⟨n,d,rfl,c,h,q⟩
def EB{n:Nat}(c:n≠p)(h:S[n]?=aw (.dic k d))(q:TDs p S T d):TD p S (.dic k T) (.ref n):=by rw[TD];exact⟨n,d,rfl,c,h,q⟩
def IA:am .eq (.tup d) (.tup []) S=aw (.bl d.isEmpty,S):=by
 simp![am,eqS]
 let:eqD 60 S (.tup d) (.tup [])=aw d.isEmpty:=by
  cases d <;> rfl
 rw[this];rfl
def IB:am .ne (.tup d) (.tup []) S=aw (.bl (!d.isEmpty),S):=mM (x:=.tup d) (y:=.tup []) (b:=d.isEmpty) (by cases d <;> rfl)
def Oz:Ok (bU .add (.tup xs) (.tup y) S) Q=(xs.length+y.length<=1000/\Q (.tup (xs++y)) S):=by
 simp![bU,lV,eC,aC,bg];apply propext;split
 .rename_i h;exact{λz=>⟨h,z⟩,λz=>z.2}
 .rename_i h;exact{λz=>z.elim,λz=>(h z.1).elim}
end
@[inline]abbrev WP(c:Type):=Rho->Sto->(c->Sto->Prop)->Prop
abbrev Sd{c:Type}(w:WP c)(x:Rho->Sto->Option (c×Sto)):Prop:=∀d S Q,w d S Q->Ok (x d S) Q
def ba{d c:Type}{x:Option (d×Sto)}{f:d->Sto->Option (c×Sto)}{Q:c->Sto->Prop}(h:Ok x λa S=>Ok (f a S) Q):Ok (bnd x f) Q:=bR▸h
def bE{c:Type}{a:c}{S:Sto}{Q:c->Sto->Prop}(h:Q a S):Ok (aw (a,S)) Q:=⟨_,_,rfl,h⟩
abbrev wIf(b:Bool)(A B:Prop):Prop:=match b with
 |true=>A
 |false=>B
abbrev wBl(d:D)(Q:Bool->Prop):Prop:=match d with
 |.bl b=>Q b
 |.non=>False |.int _=>False |.str _=>False |.tup _=>False |.ref _=>False
abbrev c7(d:D)(Q:Int->Prop):Prop:=match d with
 |.int i=>Q i
 |.non=>False |.bl _=>False |.str _=>False |.tup _=>False |.ref _=>False
def oQ{d:D}{Q:Bool->Prop}(h:wBl d Q):∃b,d = .bl b/\Q b:=by cases d <;> first |exact h.elim |exact⟨_,rfl,h⟩
def cS{d:D}{Q:Int->Prop}(h:c7 d Q):∃b,d = .int b/\Q b:=by cases d <;> first |exact h.elim |exact⟨_,rfl,h⟩
abbrev U7(o:Option D)(Q:D->Prop):Prop:=match o with
 |some d=>Q d
 |none=>False
abbrev xa:Rho->Nat->(D->Prop)->Prop
 |[],_,_=>False
 |o::_,0,Q=>U7 o Q
 |_::ρ,i+1,Q=>xa ρ i Q
def y8:∀ {ρ:Rho} {i:Nat} {Q:D->Prop},xa ρ i Q->∃d,ρ[i]?=aw (aw d)/\Q d
 |[],_,_,h=>h.elim
 |some d::_,0,_,h=>⟨d,rfl,h⟩
 |none::_,0,_,h=>h.elim
 |o::ρ,i+1,_,h=>by rw[YH];exact y8 (ρ:=ρ) h
abbrev Tj(i:Nat):WP D:=λc S Q=>xa c i λd=>Q d S
def Tk{i:Nat}:Sd (Tj i) (zZ i):=λc S Q h=>by
 rw[Oi];exact y8 h
abbrev wC(d:D):WP D:=λ_ S Q=>Q d S
def s_c{d:D}:Sd (wC d) (xC d):=λ_ _ _ h=>bE h
abbrev IC(g:D->D->Sto->(D->Sto->Prop)->Prop)(x y:WP D):WP D:=λc S Q=>x c S λa d=>y c d λb f=>g a b f Q
def EC{g:D->D->Sto->(D->Sto->Prop)->Prop}{f:D->D->Sto->Option (D×Sto)}{w v:WP D}{x y:XE}(hw:Sd w x)(c:Sd v y)(d:∀ {a b S Q},g a b S Q->Ok (f a b S) Q):Sd (IC g w v) (tR f x y):=
 λ_ _ _ h=>ba ((hw _ _ _ h).mono λ_ _ h=>ba ((c _ _ _ h).mono λ_ _ h=>d h))
abbrev wUn{c β:Type}(g:c->Sto->(β->Sto->Prop)->Prop)(x:WP c):WP β:=λf S Q=>x f S λa d=>g a d Q
def IE{c d:Type}{g:c->Sto->(d->Sto->Prop)->Prop}{f:c->Sto->Option (d×Sto)}{w:WP c}{x:Rho->Sto->Option (c×Sto)}(hw:Sd w x)(k:∀ {a S Q},g a S Q->Ok (f a S) Q):Sd (wUn g w) (λj S=>bnd (x j S) f):=
 λ_ _ _ h=>ba ((hw _ _ _ h).mono λ_ _ h=>k h)
abbrev wOk{d c:Type}(f:d->Sto->Option (c×Sto))(a:d)(S:Sto)(Q:c->Sto->Prop):Prop:=Ok (f a S) Q
abbrev wII:BOp->Int->Int->Sto->(D->Sto->Prop)->Prop
 |.add,i,j,S,Q=>Q (.int (i+j)) S
 |.sub,i,j,S,Q=>Q (.int (i - j)) S
 |.mul,i,j,S,Q=>jO i j=aN/\Q (.int (i * j)) S
 |.mod,i,j,S,Q=>0 < j/\Q (.int (i % j)) S
 |.fdiv,i,j,S,Q=>(0 < j/\j < 1298074214633706907132624082305024)/\Q (.int (i / j)) S
 |.pow,i,j,S,Q=>(0<=j/\j<=1000000/\i.natAbs < 2 ^ 64)/\Q (.int (i ^ j.toNat)) S
def OA{o:BOp}{i j:Int}{S:Sto}{Q:D->Sto->Prop}(h:wII o i j S Q):Ok (bU o (.int i) (.int j) S) Q:=by
 cases o with
 |add=>rw[Oj];exact h
 |sub=>rw[Ol];exact h
 |mul=>rw[Ou];exact h
 |mod=>rw[Ot];exact h
 |fdiv=>rw[Iz];exact h
 |pow=>rw[Ov];exact h
abbrev wTT:BOp->List D->List D->Sto->(D->Sto->Prop)->Prop
 |.add,xs,ys,S,Q=>xs.length+ys.length<=1000/\Q (.tup (xs++ys)) S
 |.sub,_,_,_,_=>False
 |.mul,_,_,_,_=>False
 |.mod,_,_,_,_=>False
 |.fdiv,_,_,_,_=>False
 |.pow,_,_,_,_=>False
def OB{o:BOp}{i j:List D}{S:Sto}{Q:D->Sto->Prop}(h:wTT o i j S Q):Ok (bU o (.tup i) (.tup j) S) Q:=by
 cases o with
 |add=>rw[Oz];exact h
 |_=>exact h.elim
abbrev ED(o:BOp)(i:Int)(y:D)(S:Sto)(Q:D->Sto->Prop):Prop:=match y with
 |.int j=>wII o i j S Q
 |.non=>False |.bl _=>False |.str _=>False |.ref _=>False
 |.tup ys=>Ok (bU o (.int i) (.tup ys) S) Q
abbrev y9(o:BOp)(xs:List D)(y:D)(S:Sto)(Q:D->Sto->Prop):Prop:=match y with
 |.tup ys=>wTT o xs ys S Q
 |.non=>False |.bl _=>False |.str _=>False |.ref _=>False
 |.int j=>Ok (bU o (.tup xs) (.int j) S) Q
abbrev xc(o:BOp)(x y:D)(S:Sto)(Q:D->Sto->Prop):Prop:=match x with
 |.int i=>ED o i y S Q
 |.tup xs=>y9 o xs y S Q
 |.non=>Ok (bU o .non y S) Q
 |.bl b=>Ok (bU o (.bl b) y S) Q
 |.str b=>Ok (bU o (.str b) y S) Q
 |.ref b=>Ok (bU o (.ref b) y S) Q
def IG{o:BOp}{x y:D}{S:Sto}{Q:D->Sto->Prop}(h:xc o x y S Q):Ok (bU o x y S) Q:=by
 cases x with
 |int i=>cases y with
  |int j=>exact OA h
  |tup Y=>exact h
  |_=>exact h.elim
 |tup xs=>cases y with
  |int j=>exact h
  |tup Y=>exact OB h
  |_=>exact h.elim
 |_=>exact h
abbrev wCI:COp->Int->Int->Sto->(D->Sto->Prop)->Prop
 |.eq,i,j,S,Q=>Q (.bl (decide (i=j))) S
 |.ne,i,j,S,Q=>Q (.bl (!decide (i=j))) S
 |.lt,i,j,S,Q=>Q (.bl (decide (i < j))) S
 |.le,i,j,S,Q=>Q (.bl (decide (i<=j))) S
 |.gt,i,j,S,Q=>Q (.bl (decide (j < i))) S
 |.ge,i,j,S,Q=>Q (.bl (decide (j<=i))) S
 |.is,_,_,_,_=>False
 |.t,_,_,_,_=>False
 |.s,_,_,_,_=>False
 |.o,_,_,_,_=>False
def OC{o:COp}{i j:Int}{S:Sto}{Q:D->Sto->Prop}(h:wCI o i j S Q):Ok (am o (.int i) (.int j) S) Q:=by
 cases o with
 |eq=>rw[Oo];exact h
 |ne=>rw[Op];exact h
 |lt=>rw[Te];exact h
 |le=>rw[Td];exact h
 |gt=>rw[Tf];exact h
 |ge=>rw[Th];exact h
 |_=>exact h.elim
abbrev OD(o:COp)(i:Int)(y:D)(S:Sto)(Q:D->Sto->Prop):Prop:=match y with
 |.int j=>wCI o i j S Q
 |.non=>Ok (am o (.int i) .non S) Q
 |.bl b=>Ok (am o (.int i) (.bl b) S) Q
 |.str b=>Ok (am o (.int i) (.str b) S) Q
 |.ref b=>Ok (am o (.int i) (.ref b) S) Q
 |.tup b=>Ok (am o (.int i) (.tup b) S) Q
abbrev AO(o:COp)(xs:List D)(y:D)(S:Sto)(Q:D->Sto->Prop):Prop:=match o with
 |.eq=>match y with
  |.tup ys=>match ys with
   |[]=>Q (.bl xs.isEmpty) S
   |y::ys=>Ok (am .eq (.tup xs) (.tup (y::ys)) S) Q
  |.non=>Ok (am .eq (.tup xs) .non S) Q
  |.bl b=>Ok (am .eq (.tup xs) (.bl b) S) Q
  |.str b=>Ok (am .eq (.tup xs) (.str b) S) Q
  |.ref b=>Ok (am .eq (.tup xs) (.ref b) S) Q
  |.int b=>Ok (am .eq (.tup xs) (.int b) S) Q
 |.ne=>match y with
  |.tup ys=>match ys with
   |[]=>Q (.bl (!xs.isEmpty)) S
   |y::ys=>Ok (am .ne (.tup xs) (.tup (y::ys)) S) Q
  |.non=>Ok (am .ne (.tup xs) .non S) Q
  |.bl b=>Ok (am .ne (.tup xs) (.bl b) S) Q
  |.str b=>Ok (am .ne (.tup xs) (.str b) S) Q
  |.ref b=>Ok (am .ne (.tup xs) (.ref b) S) Q
  |.int b=>Ok (am .ne (.tup xs) (.int b) S) Q
 |.is=>Ok (am .is (.tup xs) y S) Q
 |.t=>Ok (am .t (.tup xs) y S) Q
 |.s=>Ok (am .s (.tup xs) y S) Q
 |.o=>Ok (am .o (.tup xs) y S) Q
 |.lt=>False |.le=>False |.gt=>False |.ge=>False
abbrev wCx(o:COp)(x y:D)(S:Sto)(Q:D->Sto->Prop):Prop:=match x with
 |.int i=>OD o i y S Q
 |.tup xs=>AO o xs y S Q
 |.non=>Ok (am o .non y S) Q
 |.bl b=>Ok (am o (.bl b) y S) Q
 |.str b=>Ok (am o (.str b) y S) Q
 |.ref b=>Ok (am o (.ref b) y S) Q
def OE{o:COp}{x y:D}{S:Sto}{Q:D->Sto->Prop}(h:wCx o x y S Q):Ok (am o x y S) Q:=by
 cases x with
 |int i=>cases y with
  |int j=>exact OC h
  |_=>exact h
 |tup xs=>cases o with
  |eq=>cases y with
   |tup Y=>cases Y with
    |nil=>rw[IA,aC];exact h
    |cons y Y=>exact h
   |_=>exact h
  |ne=>cases y with
   |tup Y=>cases Y with
    |nil=>rw[IB,aC];exact h
    |cons y Y=>exact h
   |_=>exact h
  |lt=>exact h.elim
  |le=>exact h.elim
  |gt=>exact h.elim
  |ge=>exact h.elim
  |_=>exact h
 |_=>exact h
abbrev wCm(o:COp)(x y:D)(S:Sto)(Q:D->Sto->Prop):Prop:=match o with
 |.is=>Ok (am .is x y S) Q
 |.t=>Ok (am .t x y S) Q
 |.s=>Ok (am .s x y S) Q
 |.o=>Ok (am .o x y S) Q
 |.eq=>wCx .eq x y S Q
 |.ne=>wCx .ne x y S Q
 |.lt=>wCx .lt x y S Q
 |.le=>wCx .le x y S Q
 |.gt=>wCx .gt x y S Q
 |.ge=>wCx .ge x y S Q
def sv{o:COp}{x y:D}{S:Sto}{Q:D->Sto->Prop}(h:wCm o x y S Q):Ok (am o x y S) Q:=by
 cases o <;> first |exact OE h |exact h
abbrev OG(o p:COp)(x y z:WP D):WP D:=λd S Q=>x d S λa h=>y d h λb j=>wCm o a b j λr f=>wBl r λc=>wIf c (z d f λe g=>wCm p b e g Q) (Q (.bl aS) f)
def Lx{o p:COp}{w v u:WP D}{x y z:XE}(hw:Sd w x)(d:Sd v y)(f:Sd u z):Sd (OG o p w v u) (As (am o) (am p) x y z):=λ_ _ _ h=>by
 rw[Oh];calc(hw _ _ _ h).mono λa j h=>(d _ _ _ h).mono λb k h=>(sv h).mono λr l h=>?_;let{c,e,h}:=oQ h;calc{c,e,?_};cases c with
 |true=>exact(f _ _ _ h).mono λe g h=>sv h
 |false=>exact h
abbrev Tl(x y:WP D):WP D:=λf S Q=>x f S λd c=>wBl d λb=>wIf b (y f c Q) (Q (.bl aS) c)
def Tn{w v:WP D}{x y:XE}(hw:Sd w x)(d:Sd v y):Sd (Tl w v) (Da x y):=λ_ _ _ h=>by
 rw[Oe];calc(hw _ _ _ h).mono λa f h=>?_;let{c,e,h}:=oQ h;calc{c,e,?_};cases c with
 |true=>exact d _ _ _ h
 |false=>exact h
abbrev wOr(x y:WP D):WP D:=λf S Q=>x f S λd c=>wBl d λb=>wIf b (Q (.bl aN) c) (y f c Q)
def U8{w v:WP D}{x y:XE}(hw:Sd w x)(d:Sd v y):Sd (wOr w v) (xOr x y):=λ_ _ _ h=>by
 rw[Tc];calc(hw _ _ _ h).mono λa f h=>?_;let{c,e,h}:=oQ h;calc{c,e,?_};cases c with
 |false=>exact d _ _ _ h
 |true=>exact h
abbrev To(x:WP D):WP D:=λc S Q=>x c S λd f=>wBl d λb=>Q (.bl (!b)) f
def Tq{w:WP D}{x:XE}(hw:Sd w x):Sd (To w) (xUn Ar x):=λ_ _ _ h=>ba ((hw _ _ _ h).mono λa c h=>by
 rw[Og];exact oQ h)
abbrev Tr(x:WP D):WP D:=λc S Q=>x c S λd f=>c7 d λi=>Q (.int (-i)) f
def Ts{w:WP D}{x:XE}(hw:Sd w x):Sd (Tr w) (xUn Np x):=λ_ _ _ h=>ba ((hw _ _ _ h).mono λa c h=>by
 let{i,rfl,h}:=cS h;exact bE h)
abbrev Tt{α:Type}(c:WP Bool)(x y:WP α):WP α:=λd S Q=>c d S λb f=>wIf b (x d f Q) (y d f Q)
def Tu{c:WP Bool}{w v:WP D}{t:XT}{x y:XE}(hc:Sd c t)(hw:Sd w x)(d:Sd v y):Sd (Tt c w v) (Nq t x y):=λ_ _ _ h=>ba ((hc _ _ _ h).mono λb f h=>by
 cases b with
 |true=>exact hw _ _ _ h
 | false=>exact d _ _ _ h)
abbrev wO:Option (WP D)->WP (Option Int)
 |none=>λ_ S Q=>Q aD S
 |some w=>λf S Q=>w f S λd c=>c7 d λi=>Q (aw i) c
abbrev xh(lo hi:Option Int)(d:D)(S:Sto)(Q:D->Sto->Prop):Prop:=match d with
 |.tup ds=>Q (.tup (gw ds lo hi)) S
 |.ref n=>Ok (slS lo hi (.ref n) S) Q
 |.non=>False |.bl _=>False |.str _=>False |.int _=>False
abbrev wSl(x:WP D)(lo hi:WP (Option Int)):WP D:=λc S Q=>x c S λd f=>lo c f λl g=>hi c g λh j=>xh l h d j Q
def U9:Sd (wO aD) vZ:=λ_ _ _ h=>bE h
def Va{w:WP D}{x:XE}(hw:Sd w x):Sd (wO (aw w)) (v0 x):=λ_ _ _ h=>ba ((hw _ _ _ h).mono λd c h=>by
 let{i,rfl,h}:=cS h;exact bE h)
def Vb{w:WP D}{l u:WP (Option Int)}{x:XE}{lo hi:XO}(hw:Sd w x)(hl:Sd l lo)(c:Sd u hi):Sd (wSl w l u) (xSl x lo hi):=λ_ _ _ h=>ba ((hw _ _ _ h).mono λd f h=>ba ((hl _ _ _ h).mono λa g h=>ba ((c _ _ _ h).mono λb j h=>by
 cases d with
 |tup k=>exact bE h
 |ref n=>exact h
 | _=>exact h.elim)))
abbrev Ly(g:List D->Sto->Option (D×Sto))(n:Nat)(x:WP (List D)):WP D:=λf S Q=>x f S λd c=>d.length=n/\Ok (g d c) Q
def OH{g:List D->Sto->Option (D×Sto)}{n:Nat}{w:WP (List D)}{x:XA}(hw:Sd w x):Sd (Ly g n w) (ud g n x):=λ_ _ _ h=>by
 rw[Io];exact hw _ _ _ h
abbrev kT(x:WP (List D)):WP D:=λf S Q=>x f S λd c=>Q (.ref c.length) (c++[.lst d])
def iP{w:WP (List D)}{x:XA}(hw:Sd w x):Sd (kT w) (eY x):=λ_ _ _ h=>by rw[Eu];exact hw _ _ _ h
abbrev gf:Nat->List CE->Prop->Prop
 |_,[],A=>A
 |0,_::_,_=>False
 |n+1,_::es,A=>gf n es A
def kh:∀ {n:Nat} {es:List CE} {A:Prop},gf n es A->es.length<=n/\A
 |n,[],_,h=>{YC _,by cases n <;> exact h}
 |0,_::_,_,h=>h.elim
 |n+1,_::es,_,h=>by rw[Zr];exact{X4 (kh (es:=es) h).1,(kh (es:=es) h).2}
abbrev wSh{α:Type}(E:List CE)(x:WP α):WP α:=λc S Q=>gf 60 E (x c S Q)
abbrev AQ(c:D->Sto->Bool)(f:D->List D->Sto->Option (D×Sto))(x:WP D)(y:WP (List D)):WP D:=λh S Q=>x h S λd g=>c d g=aN/\y h g λj k=>Ok (f d j k) Q
def uK{c:D->Sto->Bool}{f:D->List D->Sto->Option (D×Sto)}{w:WP D}{v:WP (List D)}{x:XE}{y:XA}(hw:Sd w x)(g:Sd v y):Sd (AQ c f w v) (t5 c f x y):=λ_ _ _ h=>ba ((hw _ _ _ h).mono λd j h=>by
 rw[if_pos h.1];exact ba (g _ _ _ h.2))
abbrev OI(x:WP D):WP (List D):=λf S Q=>x f S λd c=>∃i:Nat,d = .int i/\i<=1000/\Q ((Zm i).map λj=>.int (Int.ofNat j)) c
def Lz{w:WP D}{x:XE}(hw:Sd w x):Sd (OI w) (Az x):=λ_ _ _ h=>Om (hw _ _ _ h)
abbrev OJ:WP (List D):=λ_ S Q=>Q [] S
def LA:Sd OJ z9:=λ_ _ _ h=>bE h
abbrev LB(x:WP D)(y:WP (List D)):WP (List D):=λc S Q=>x c S λa d=>y c d λf g=>Q (a::f) g
def OK{w:WP D}{v:WP (List D)}{x:XE}{y:XA}(hw:Sd w x)(c:Sd v y):Sd (LB w v) (yn x y):=λ_ _ _ h=>ba ((hw _ _ _ h).mono λd f h=>ba ((c _ _ _ h).mono λj g h=>bE h))
abbrev Vc(o:Option D)(A:Prop):Prop:=match o with
 |none=>A
 |some _=>False
abbrev wFr:Rho->Nat->Prop->Prop
 |[],_,_=>False
 |o::_,0,A=>Vc o A
 |_::ρ,i+1,A=>wFr ρ i A
def sy:∀ {ρ:Rho} {i:Nat} {A:Prop},wFr ρ i A->ρ[i]?=aw aD/\A
 |[],_,_,h=>h.elim
 |none::_,0,_,h=>⟨rfl,h⟩
 |some _::_,0,_,h=>h.elim
 |o::ρ,i+1,_,h=>by rw[YH];exact sy (ρ:=ρ) h
abbrev uL:List Tg->Rho->Prop->Prop
 |[],_,A=>A
 |.n i::ts,ρ,A=>wFr ρ i (uL ts ρ A)
 |.tup us::ts,ρ,A=>eN (.tup us) ρ=aN/\uL ts ρ A
abbrev wFt:Tg->Rho->Prop->Prop
 |.n i,ρ,A=>wFr ρ i A
 |.tup ts,ρ,A=>uL ts ρ A
def qF{i:Nat}{c:Rho}(h:c[i]?=aw aD):eN (.n i) c=aN:=by rw[eN,h]
def sC:∀ {T:List Tg} {c:Rho} {A:Prop},uL T c A->gO T c=aN/\A
 |[],_,_,h=>{by rw[gO],h}
 |.n i::T,c,_,h=>by
  let{e,h}:=sy h;let{E,h}:=sC h;exact{by rw[gO,qF e,E];rfl,h}
 |.tup us::T,c,_,h=>by
  let{e,h}:=h;let{E,h}:=sC h;exact{by rw[gO,e,E];rfl,h}
def xj{t:Tg}{c:Rho}{A:Prop}(h:wFt t c A):eN t c=aN/\A:=by
 cases t with
 |n i=>exact{qF (sy h).1,(sy h).2}
 |tup T=>rw[eN];exact sC h
abbrev uM:List Str->Rho->(Rho->Prop)->Prop
 |[],r,Q=>Q r
 |_::own,r,Q=>uM own (aD::r) Q
abbrev uN:Rho->Rho->(Rho->Prop)->Prop
 |[],r,Q=>Q r
 |o::ρ,r,Q=>uN ρ r λc=>Q (o::c)
def zd:∀ {ρ r:Rho} {Q:Rho->Prop},uN ρ r Q->Q (ρ++r)
 |[],_,_,h=>h
 |o::ρ,r,Q,h=>zd (ρ:=ρ) (Q:=λc=>Q (o::c)) h
def ze:∀ {own:List Str} {k:Nat} {Q:Rho->Prop},uM own (Zp k aD) Q->Q (Zp (own.length+k) aD)
 |[],k,_,h=>by rw[Z3,Xr];exact h
 |_::own,k,Q,h=>by
  let:=ze (own:=own) (k:=k+1) h;rw[Zr,show own.length+1+k=own.length+(k+1) by lia];exact this
abbrev LC(own:List Str)(I:WP Nxt)(T:Tg)(c:XA)(k:Nat):WP (List D):=λf S Q=>I f S λnx g=>uM own [] λr=>uN f r λd=>wFt T d (Ok (bD nx T c d k 0 g) λE h=>E.length<=100000/\Q E h)
def EF{own:List Str}{k:Nat}{w:WP Nxt}{I:XI}{T:Tg}{c:XA}(hw:Sd w I):Sd (LC own w T c k) (nQ own.length I T c k):=λ_ _ _ h=>by
 rw[Ip]
 exact(hw _ _ _ h).mono λnx d h=>by
  let h:=zd (ze (own:=own) (k:=0) h);exact xj h
abbrev EG(I:WP Nxt)(T:Tg)(c:XA)(k:Nat):WP (List D):=λd S Q=>wFt T d (I d S λnx f=>Ok (bD nx T c d k 0 f) Q)
def IH{k:Nat}{w:WP Nxt}{I:XI}{T:Tg}{c:XA}(hw:Sd w I):Sd (EG w T c k) (kH I T c k):=λ_ _ _ h=>by
 rw[Et];exact{(xj h).1,hw _ _ _ (xj h).2}
abbrev xk(d:D)(c:Sto)(Q:Nxt->Sto->Prop):Prop:=match d with
 |.tup ds=>Q (nxL ds) c
 |.ref n=>(aU c n).isSome=aN/\Q (nxS n) c
 |.non=>False |.bl _=>False |.str _=>False |.int _=>False
def Ve{w:WP D}{x:XE}(hw:Sd w x):Sd (λf S Q=>w f S λd c=>xk d c Q) (xIV x):=λ_ _ _ h=>ba ((hw _ _ _ h).mono λd c h=>by
 cases d with
 |tup g=>exact bE h
 |ref n=>dsimp!;rw[if_pos h.1];exact bE h.2
 | _=>exact h.elim)
abbrev II(d:D)(c:Sto)(Q:Nxt->Sto->Prop):Prop:=match d with
 |.tup ds=>Q (Hh ds) c
 |_=>False
def Vf{w:WP D}{x:XE}(hw:Sd w x):Sd (λf S Q=>w f S λd c=>II d c Q) (xEV x):=λ_ _ _ h=>ba ((hw _ _ _ h).mono λd c h=>by
 cases d with
 |tup g=>exact bE h
 | _=>exact h.elim)
abbrev wOn{c β:Type}(f:c->β)(x:WP c):WP β:=λg S Q=>x g S λa d=>Q (f a) d
def LG{c k:Type}{f:c->k}{w:WP c}{x:Rho->Sto->Option (c×Sto)}(hw:Sd w x):Sd (wOn f w) (λj S=>bnd (x j S) λa g=>aw (f a,g)):=λ_ _ _ h=>ba ((hw _ _ _ h).mono λd g h=>bE h)
abbrev wR1(x:WP D):WP Nxt:=λf S Q=>x f S λd c=>c7 d λj=>lim j=aN/\Q (nxR 0 j.toNat) c
def Vg{w:WP D}{x:XE}(hw:Sd w x):Sd (wR1 w) (xR1 x):=λ_ _ _ h=>ba ((hw _ _ _ h).mono λd c h=>by
 let{i,rfl,h}:=cS h;dsimp!;rw[if_pos h.1];exact bE h.2)
abbrev wDn(x:WP D):WP Nxt:=λf S Q=>x f S λd c=>c7 d λj=>lim j=aN/\Q (nxD j (j+1).toNat) c
def Vh{w:WP D}{x:XE}(hw:Sd w x):Sd (wDn w) (xDn x):=λ_ _ _ h=>ba ((hw _ _ _ h).mono λd c h=>by
 cases d with
 |int j=>let{h,q}:=h;dsimp!;rw[if_pos h];exact bE q
 | _=>exact h.elim)
abbrev LH(x:WP D):WP D:=λf S Q=>x f S λd c=>c7 d λi=>(0<=i/\i<=1000)/\Q (.tup ((Zm i.toNat).map λj=>.int (Int.ofNat j))) c
def OL{w:WP D}{x:XE}(hw:Sd w x):Sd (LH w) (Dm x):=λ_ _ _ h=>ba ((hw _ _ _ h).mono λd c h=>by
 cases d with
 |int j=>let{h,q}:=h;dsimp!;rw[if_pos h];exact bE q
 | _=>exact h.elim)
abbrev wR2(x y:WP D):WP Nxt:=λc S Q=>x c S λd f=>y c f λe g=>c7 d λi=>c7 e λj=>(lim i=aN/\lim j=aN)/\Q (nxR i (j - i).toNat) g
def Vi{w v:WP D}{x y:XE}(hw:Sd w x)(f:Sd v y):Sd (wR2 w v) (xR2 x y):=λ_ _ _ h=>ba ((hw _ _ _ h).mono λd k h=>ba ((f _ _ _ h).mono λe l h=>by
 let{i,rfl,g}:=cS h;let{j,rfl,c}:=cS g;dsimp!;rw[if_pos c.1];exact bE c.2))
abbrev Tv(x y:WP D):WP Nxt:=λc S Q=>x c S λd f=>y c f λe g=>∃n k,d = .tup n/\e = .tup k/\Q (nxZ n k) g
def Tw{w v:WP D}{x y:XE}(hw:Sd w x)(c:Sd v y):Sd (Tv w v) (Ng x y):=λ_ _ _ h=>ba ((hw _ _ _ h).mono λd f h=>ba ((c _ _ _ h).mono λe g h=>by
 let{n,k,rfl,rfl,q}:=h;exact bE q))
abbrev dm(d:D)(S:Sto)(Q:Bool->Sto->Prop):Prop:=match d with
 |.bl b=>Q b S
 |.tup ds=>Q (!ds.isEmpty) S
 |.int i=>Q (i != 0) S
 |.non=>Q aS S
 |.str y=>Ok (nF (.str y) S) Q
 |.ref y=>Ok (nF (.ref y) S) Q
def EH{d:D}{S:Sto}{Q:Bool->Sto->Prop}(h:dm d S Q):Ok (nF d S) Q:=by cases d <;> first |exact bE h |exact h
abbrev wB(x:WP D):WP Bool:=λc S Q=>x c S λd f=>wBl d λb=>Q b f
def s_b{w:WP D}{x:XE}(hw:Sd w x):Sd (wB w) (xB x):=λ_ _ _ h=>by
 rw[Ti];exact(hw _ _ _ h).mono λd c h=>oQ h
abbrev LI(x y:WP Bool):WP Bool:=λd S Q=>x d S λb c=>wIf b (y d c Q) (Q aS c)
abbrev Tx(x y:WP Bool):WP Bool:=λd S Q=>x d S λb c=>wIf b (Q aN c) (y d c Q)
abbrev LJ(x:WP Bool):WP Bool:=λd S Q=>x d S λb c=>Q (!b) c
def OM{w v:WP Bool}{x y:XT}(hw:Sd w x)(c:Sd v y):Sd (LI w v) (Dd x y):=λ_ _ _ h=>ba ((hw _ _ _ h).mono λb d h=>by
 cases b with
 |true=>exact c _ _ _ h
 | false=>exact bE h)
def Tz{w v:WP Bool}{x y:XT}(hw:Sd w x)(c:Sd v y):Sd (Tx w v) (Nu x y):=λ_ _ _ h=>ba ((hw _ _ _ h).mono λb d h=>by
 cases b with
 |false=>exact c _ _ _ h
 | true=>exact bE h)
def OO{w:WP Bool}{x:XT}(hw:Sd w x):Sd (LJ w) (De x):=λ_ _ _ h=>ba ((hw _ _ _ h).mono λb c h=>bE h)
abbrev LK(t:WP Bool)(c:WP (List D)):WP (List D):=λf S Q=>t f S λb d=>wIf b (c f d Q) (Q [] d)
def OP{t:WP Bool}{c:WP (List D)}{x:XT}{y:XA}(d:Sd t x)(hc:Sd c y):Sd (LK t c) (C7 x y):=λ_ _ _ h=>ba ((d _ _ _ h).mono λb f h=>by
 cases b with
 |true=>exact hc _ _ _ h
 | false=>exact bE h)
abbrev IJ(f:Bool->List D->Option (List D))(d:List D)(S:Sto)(Q:List D->Sto->Prop):Prop:=∃E,f aS d=aw E/\Q E S
abbrev IK(f:Bool->List D->Option (List D))(d:D)(S:Sto)(Q:List D->Sto->Prop):Prop:=∃r E,aq d S=aw r/\f r.1 r.2=aw E/\Q E S
abbrev xl(d:D)(S:Sto)(Q:List D->Sto->Prop):Prop:=Ok ((aq d S).map λr=>(r.2,S)) Q
def TB{f:Bool->List D->Option (List D)}{w:WP (List D)}{x:XA}(hw:Sd w x):Sd (λg S Q=>w g S λd c=>IJ f d c Q) (Ax f x):=λ_ _ _ h=>ba ((hw _ _ _ h).mono λd c ⟨E,e,h⟩=>by rw[e];exact bE h)
def TC{f:Bool->List D->Option (List D)}{w:WP D}{x:XE}(hw:Sd w x):Sd (λg S Q=>w g S λd c=>IK f d c Q) (Ay f x):=λ_ _ _ h=>ba ((hw _ _ _ h).mono λd c ⟨r,j,E,e,h⟩=>by
 rw[E];dsimp!;rw[e];exact bE h)
abbrev wNo{α:Type}:WP α:=λ_ _ _=>False
def sD{c:Type}{x:Rho->Sto->Option (c×Sto)}:Sd wNo x:=λ_ _ _ h=>h.elim
abbrev aW(b:Bool)(x:WP (List D))(y:WP D)(c:Rho)(S:Sto)(KT:List D->Sto->Prop)(KV:D->Sto->Prop):Prop:=match b with
 |true=>x c S KT
 |false=>y c S KV
abbrev wOf{α:Type}(b:Bool)(x:WP (List D))(y:WP D)(gt:List D->Sto->(α->Sto->Prop)->Prop)(h:D->Sto->(α->Sto->Prop)->Prop):WP α:=λf S Q=>aW b x y f S (λg c=>gt g c Q) (λd c=>h d c Q)
def s_of{g:Type}{b:Bool}{w:WP (List D)}{v:WP D}{gt:List D->Sto->(g->Sto->Prop)->Prop}{h:D->Sto->(g->Sto->Prop)->Prop}{x y:Rho->Sto->Option (g×Sto)}(hw:Sd (λf S Q=>w f S λk c=>gt k c Q) x)(j:Sd (λf S Q=>v f S λd c=>h d c Q) y):Sd (wOf b w v gt h) (if b=aN then x else y):=by
 cases b with
 |true=>exact hw
 |false=>exact j
def Vj{b:Bool}{w:WP (List D)}{v u:WP D}{x:XA}{y z:XE}(hw:Sd w x)(n:Sd u z)(l:Sd v y):Sd (λf S Q=>aW b w u f S (λj c=>v f c λi g=>c7 i λk=>∃d,atI j k=aw d/\Q d g) (λd c=>v f c λi g=>Ok (ixS d i g) Q)) (if b=aN then vW x y else tR ixS z y):=λf S Q h=>by
 cases b with
 |true=>
  show Ok (vW x y f S) Q;rw[Ox];exact(hw _ _ _ h).mono λj c h=>(l _ _ _ h).mono λi g h=>cS h
 |false=>exact ba ((n _ _ _ h).mono λj c h=>ba (l _ _ _ h))
abbrev wO2(t:CE->WP D):Option CE->Option (WP D)
 |none=>aD
 |some e=>aw (t e)
abbrev IM(t:CE->WP Bool):Option CE->WP (List D)->WP (List D)
 |some c,x=>LK (t c) x
 |none,x=>x
abbrev EI(x y:D)(S:Sto)(Q:D->Sto->Prop):Prop:=c7 x λi=>c7 y λj=>Q (.int (if j > i then j else i)) S
abbrev EJ(x y:D)(S:Sto)(Q:D->Sto->Prop):Prop:=c7 x λi=>c7 y λj=>Q (.int (if j < i then j else i)) S
abbrev w2(g:D->D->Sto->(D->Sto->Prop)->Prop):List D->Sto->(D->Sto->Prop)->Prop
 |[],_,_=>False
 |[_],_,_=>False
 |[x,y],S,Q=>g x y S Q
 |_::_::_::_,_,_=>False
def LL{g:D->D->Sto->(D->Sto->Prop)->Prop}{f:D->D->Sto->Option (D×Sto)}(c:∀ {a b S Q},g a b S Q->Ok (f a b S) Q):∀ {d:List D} {S:Sto} {Q:D->Sto->Prop},w2 g d S Q->Ok (two f d S) Q
 |[],_,_,h=>h.elim
 |[_],_,_,h=>h.elim
 |[x,y],_,_,h=>c h
 |_::_::_::_,_,_,h=>h.elim
abbrev LM:WP D:=λ_ S Q=>Q (.ref (Zi S)) (S++[.dct [] []])
abbrev LN:WP D:=λ_ S Q=>Q (.ref (Zi S)) (S++[.dic [] []])
abbrev LP(i:Int)(v:Nat):WP D:=λc S Q=>∃d,c[v]?=aw (aw d)/\Q (.ref (Zi S)) (S++[.dic [pE i] [d]])
abbrev wCf(i:CI->WP Nxt)(own:List Str)(t:CE->XT)(e:List Cl->XA):List Cl->WP (List D)
 |[]=>wNo
 |⟨tg,it,cond⟩::rest=>LC own (i it) tg (cnd t cond (e rest)) LF
mutual
noncomputable def wE(C:Calls)(g:Nat->Nat):Nat->CE->WP D
 |0,_=>wNo
 |n+1,e=>match e with
  |.non=>wC .non
  |.bl b=>wC (.bl b)
  |.int i=>wC (.int i)
  |.str x=>wC (.str x)
  |.v i=>Tj i
  |.con _ v=>wC (.int v)
  |.tup es=>wSh es (wOn D.tup (wA C g n es))
  |.lst es=>kT (wSh es (wA C g n es))
  |.dic0=>LN
  |.dic1 i j=>LP i j
  |.b o a b=>IC (xc o) (wE C g n a) (wE C g n b)
  |.neg a=>Tr (wE C g n a)
  |.m o a b=>IC (wCm o) (wE C g n a) (wE C g n b)
  |.h o p a b c=>OG o p (wE C g n a) (wE C g n b) (wE C g n c)
  |.d a b=>Tl (wE C g n a) (wE C g n b)
  |.or a b=>wOr (wE C g n a) (wE C g n b)
  |.n a=>To (wE C g n a)
  |.ite c a b=>Tt (wT C g n c) (wE C g n a) (wE C g n b)
  |.x a b=>λl S Q=>aW (ag a) (wTm C g n a) (wE C g n a) l S (λu h=>wE C g n b l h λi q=>c7 i λk=>∃d,atI u k=aw d/\Q d q) (λd h=>wE C g n b l h λi q=>Ok (ixS d i q) Q)
  |.sl a lo hi=>wSl (wE C g n a) (wO (wO2 (wE C g n) lo)) (wO (wO2 (wE C g n) hi))
  |.c f es=>Ly (C f) (g f) (wA C g n es)
  |.s t a=>wUn (wOk (nJ t)) (wE C g n a)
  |.e a=>wOf (ag a) (wTm C g n a) (wE C g n a) (wOk (dS aS)) (wOk (au dS))
  |.all a=>wOf (ag a) (wTm C g n a) (wE C g n a) (wOk (lW aS)) (wOk (au lW))
  |.t a=>wOf (ag a) (wTm C g n a) (wE C g n a) (wOk (df aS)) (wOk (au df))
  |.listOf a=>kT (wOf (ag a) (wTm C g n a) (wE C g n a) (λu S Q=>Q u S) xl)
  |.l a=>kT (OI (wE C g n a))
  |.srt a=>kT (wOf (ag a) (wTm C g n a) (wE C g n a) (IJ cU) (IK cU))
  |.w a=>wOf (ag a) (wTm C g n a) (wE C g n a) (wOk (pw aS)) (wOk (au pw))
  |.y a c=>wOf (ag a) (wTm C g n a) (wE C g n a) (wOk (gq c aS)) (wOk (au (gq c)))
  |.z a=>wOf (ag a) (wTm C g n a) (wE C g n a) (wOk (pB aS)) (wOk (au pB))
  |.dct0=>LM
  |.rev a=>wUn (wOk t0) (wE C g n a)
  |.mx a b=>wUn (w2 EI) (wA C g n [a,b])
  |.mn a b=>wUn (w2 EJ) (wA C g n [a,b])
  |.rep a=>wUn (wOk k9) (wE C g n a)
  |.o own elt cls=>kT (wCf (wI C g n) own (evT C g n) (iS C g n elt) cls)
  |.app o a=>AQ eM t6 (wE C g n o) (wA C g n [a])
  |.pop o=>AQ eM wk (wE C g n o) OJ
  |.q o a=>AQ eM jf (wE C g n o) (wA C g n [a])
  |.cnt o a=>AQ (λd _=>isTup d) wm (wE C g n o) (wA C g n [a])
  |.idx o a=>AQ (λd _=>isTup d) wu (wE C g n o) (wA C g n [a])
  |.u a=>LH (wE C g n a)
noncomputable def wA(C:Calls)(c:Nat->Nat):Nat->List CE->WP (List D)
 |0,_=>wNo
 |n+1,es=>match es with
  |[]=>OJ
  |e::es=>LB (wE C c n e) (wA C c n es)
noncomputable def wTm(C:Calls)(c:Nat->Nat):Nat->CE->WP (List D)
 |0,_=>wNo
 |n+1,e=>match e with
  |.lst es=>wSh es (wA C c n es)
  |.listOf a=>wOf (ag a) (wTm C c n a) (wE C c n a) (λd S Q=>Q d S) xl
  |.l a=>OI (wE C c n a)
  |.srt a=>wOf (ag a) (wTm C c n a) (wE C c n a) (IJ cU) (IK cU)
  |.o own elt cls=>wCf (wI C c n) own (evT C c n) (iS C c n elt) cls
  |_=>wNo
noncomputable def wI(C:Calls)(c:Nat->Nat):Nat->CI->WP Nxt
 |0,_=>wNo
 |n+1,it=>match it with
  |.p a=>wOf (ag a) (wTm C c n a) (wE C c n a) (λh S Q=>Q (nxL h) S) xk
  |.r1 a=>wR1 (wE C c n a)
  |.dn a=>wDn (wE C c n a)
  |.r2 a b=>wR2 (wE C c n a) (wE C c n b)
  |.zp a b=>Tv (wE C c n a) (wE C c n b)
  |.en a=>λg S Q=>wE C c n a g S λd f=>II d f Q
noncomputable def wT(C:Calls)(d:Nat->Nat):Nat->CE->WP Bool
 |0,_=>wNo
 |n+1,e=>match e with
  |.m o a b=>wB (IC (wCm o) (wE C d n a) (wE C d n b))
  |.h o p a b c=>wB (OG o p (wE C d n a) (wE C d n b) (wE C d n c))
  |.d a b=>LI (wT C d n a) (wT C d n b)
  |.or a b=>Tx (wT C d n a) (wT C d n b)
  |.n a=>LJ (wT C d n a)
  |.ite _ _ _=>wNo
  |e=>wUn dm (wE C d n e)
end
abbrev wCl(C:Calls)(c:Nat->Nat)(n:Nat)(E:CE):List Cl->WP (List D)
 |[]=>wOn (λd=>[d]) (wE C c n E)
 |⟨tg,it,cond⟩::rest=>EG (wI C c n it) tg (cnd (evT C c n) cond (iS C c n E rest)) LF
def sE{C:Calls}{j:Nat->Nat}:∀ {n:Nat} {E:List CE} {c:Rho} {S g:Sto} {d:List D},evA C j n E c S=aw (d,g)->d.length=E.length
 |0,_,_,_,_,_,h=>by simp![evA,xNo]at h;cases h
 |n+1,[],_,_,_,_,h=>by simp![evA,z9]at h;cases h;rfl
 |n+1,e::E,_,_,_,_,h=>by
  simp![evA,yn]at h;let{a,k,p,h}:=ac h;let{l,o,f,h}:=ac h;cases h;rw[Zr,Zr,sE f]
structure SndW(C:Calls)(ar:Nat->Nat)(n:Nat):Prop where
 e:∀ {e:CE},Sd (wE C ar n e) (evE C ar n e)
 a:∀ {es:List CE},Sd (wA C ar n es) (evA C ar n es)
 m:∀ {e:CE},Sd (wTm C ar n e) (dr C ar n e)
 i:∀ {i:CI},Sd (wI C ar n i) (evI C ar n i)
 t:∀ {e:CE},Sd (wT C ar n e) (evT C ar n e)
section
variable {C:Calls} {A:Nat->Nat} {n:Nat}
def TF(h:SndW C A n){E:List CE}:Sd (wSh E (wOn D.tup (wA C A n E))) (nq nv (evA C A n E)):=λg S Q w=>by
 let{le,w}:=kh w;let{d,c,f,q}:=h.a _ _ _ w;calc ba {d,c,f,?_};let l:=sE f;show Ok (nv d c) Q;rw[Ir];exact{by lia,q}
def EK(h:SndW C A n){E:List CE}:Sd (wSh E (wA C A n E)) (qc (evA C A n E)):=λg S Q w=>by
 let{le,w}:=kh w;let{f,d,c,q}:=h.a _ _ _ w;rw[Iq];let l:=sE c;exact{f,d,c,by lia,q}
def LQ(h:SndW C A n){o:Option CE}:Sd (wO (wO2 (wE C A n) o)) (opt (evE C A n) o):=by
 cases o with
 |none=>exact U9
 |some e=>exact Va h.e
def IP{a b:D}{S:Sto}{Q:D->Sto->Prop}(h:EI a b S Q):Ok (CO a b S) Q:=by
 let{i,rfl,d}:=cS h;let{j,rfl,c}:=cS d;exact bE c
def IQ{a b:D}{S:Sto}{Q:D->Sto->Prop}(h:EJ a b S Q):Ok (CP a b S) Q:=by
 let{i,rfl,d}:=cS h;let{j,rfl,c}:=cS d;exact bE c
end
section
variable {C:Calls} {A:Nat->Nat} {n:Nat}
def TH(h:SndW C A n){o:Option CE}{w:WP (List D)}{x:XA}(hw:Sd w x):Sd (IM (wT C A n) o w) (cnd (evT C A n) o x):=by
 cases o with
 |none=>exact hw
 |some c=>exact OP h.t hw
def EL{d c:Type}{f:d->Sto->Option (c×Sto)}{a:d}{S:Sto}{Q:c->Sto->Prop}(h:wOk f a S Q):Ok (f a S) Q:=h
def s_q(h:SndW C A n){f:Bool->List D->Sto->Option (D×Sto)}{a:CE}:Sd (wOf (ag a) (wTm C A n a) (wE C A n a) (wOk (f aS)) (wOk (au f))) (if ag a=aN then rB f (dr C A n a) else rC f (evE C A n a)):=
 s_of (IE (f:=f aS) h.m EL) (IE (f:=au f) h.e EL)
def LR(h:SndW C A n){a:CE}:Sd (wOf (ag a) (wTm C A n a) (wE C A n a) (λd S Q=>Q d S) xl) (if ag a=aN then dr C A n a else nT (evE C A n a)):=s_of h.m (λ_ _ _ w=>ba (h.e _ _ _ w))
def LS(h:SndW C A n){a:CE}:Sd (wOf (ag a) (wTm C A n a) (wE C A n a) (IJ cU) (IK cU)) (if ag a=aN then Ax cU (dr C A n a) else Ay cU (evE C A n a)):=s_of (TB h.m) (TC h.e)
def s_u{g:D->Sto->Option (D×Sto)}{w:WP D}{x:XE}(hw:Sd w x):Sd (wUn (wOk g) w) (xUn g x):=IE (f:=g) hw EL
def Vk{w:WP (List D)}{x:XA}(hw:Sd w x):Sd (wUn (w2 EI) w) (nq (two CO) x):=λ_ _ _ h=>ba ((hw _ _ _ h).mono λ_ _ h=>LL (λz=>IP z) h)
def Vl{w:WP (List D)}{x:XA}(hw:Sd w x):Sd (wUn (w2 EJ) w) (nq (two CP) x):=λ_ _ _ h=>ba ((hw _ _ _ h).mono λ_ _ h=>LL (λz=>IQ z) h)
def OQ:Sd LM Dn:=λ_ _ _ h=>bE h
def OT:Sd LN Dp:=λ_ _ _ h=>bE h
def OU{i:Int}{v:Nat}:Sd (LP i v) (uh i v):=λ_ _ _ h=>by
 let{d,e,h}:=h;delta uh;rw[e];exact bE h
def TJ{w:WP D}{x:XE}(hw:Sd w x):Sd (wUn dm w) (G8 x):=IE (f:=nF) hw EH
def oT:∀n,SndW C A n
 |0=>⟨sD,sD,sD,sD,sD⟩
 |n+1=>by
  let h:=oT n;refine{λ{e}=>?_,λ{E}=>?_,λ{e}=>?_,λ{i}=>?_,λ{e}=>?_}
  .cases e with
   |non=>exact s_c
   |bl b=>exact s_c
   |int b=>exact s_c
   |str b=>exact s_c
   |v b=>exact Tk
   |con b v=>exact s_c
   |tup E=>exact TF h
   |lst E=>exact iP (EK h)
   |dic0=>exact OT
   |dic1 i j=>exact OU
   |b o a b=>exact EC h.e h.e IG
   |neg a=>exact Ts h.e
   |m o a b=>exact EC h.e h.e sv
   |h o p a b c=>exact Lx h.e h.e h.e
   |d a b=>exact Tn h.e h.e
   |or a b=>exact U8 h.e h.e
   |n a=>exact Tq h.e
   |ite c a b=>exact Tu h.t h.e h.e
   |x a b=>exact Vj h.m h.e h.e
   |sl a lo k=>exact Vb h.e (LQ h) (LQ h)
   |c f E=>exact OH h.a
   |s t a=>exact s_u h.e
   |e a=>exact s_q h
   |all a=>exact s_q h
   |t a=>exact s_q h
   |listOf a=>exact iP (LR h)
   |l a=>exact iP (Lz h.e)
   |srt a=>exact iP (LS h)
   |w a=>exact s_q h
   |y a c=>exact s_q h
   |z a=>exact s_q h
   |dct0=>exact OQ
   |rev a=>exact s_u h.e
   |mx a b=>exact Vk h.a
   |mn a b=>exact Vl h.a
   |rep a=>exact s_u h.e
   |o own g cls=>cases cls with
    |nil=>exact iP sD
    |cons c d=>cases c with |mk T I cond=>exact iP (EF h.i)
   |app o a=>exact uK h.e h.a
   |pop o=>exact uK h.e LA
   |q o a=>exact uK h.e h.a
   |cnt o a=>exact uK h.e h.a
   |idx o a=>exact uK h.e h.a
   |u a=>exact OL h.e
  .cases E with
   |nil=>exact LA
   |cons e E=>exact OK h.e h.a
  .cases e with
   |lst E=>exact EK h
   |listOf a=>exact LR h
   |l a=>exact Lz h.e
   |srt a=>exact LS h
   |o own g cls=>cases cls with
    |nil=>exact sD
    |cons c d=>cases c with |mk T I cond=>exact EF h.i
   |_=>exact sD
  .cases i with
   |p a=>exact s_of (LG h.m) (Ve h.e)
   |r1 a=>exact Vg h.e
   |dn a=>exact Vh h.e
   |r2 a b=>exact Vi h.e h.e
   |zp a b=>exact Tw h.e h.e
   |en a=>exact Vf h.e
  .cases e with
   |m o a b=>exact s_b (EC h.e h.e sv)
   |h o p a b c=>exact s_b (Lx h.e h.e h.e)
   |d a b=>exact OM h.t h.t
   |or a b=>exact Tz h.t h.t
   |n a=>exact OO h.t
   |ite a b c=>exact sD
   |_=>exact TJ h.e
def Vm{E:CE}{cls:List Cl}:Sd (wCl C A n E cls) (iS C A (n+1) E cls):=by
 cases cls with
 |nil=>exact LG (oT n).e
 |cons c d=>cases c with |mk T I cond=>exact IH (oT n).i
def OV{E:CE}{cls:List Cl}{o:Option CE}{c:Rho}{S:Sto}{Q:List D->Sto->Prop}(h:IM (wT C A (n+1)) o (wCl C A n E cls) c S Q):Ok (cnd (evT C A (n+1)) o (iS C A (n+1) E cls) c S) Q:=TH (oT (n+1)) Vm _ _ _ h
abbrev wNm:Nat->D->Rho->(Rho->Prop)->Prop
 |_,_,[],_=>False
 |0,d,_::ρ,Q=>Q (aw d::ρ)
 |i+1,d,o::ρ,Q=>wNm i d ρ λc=>Q (o::c)
def sF:∀ {i:Nat} {d:D} {ρ:Rho} {Q:Rho->Prop},wNm i d ρ Q->i < ρ.length/\Q (ρ.set i (aw d))
 |i,_,[],_,h=>by cases i <;> exact h.elim
 |0,d,_::ρ,Q,h=>{by simp,h}
 |i+1,d,o::ρ,Q,h=>by
  let:=sF (ρ:=ρ) (Q:=λc=>Q (o::c)) h;exact{by rw[Zr];lia,this.2}
abbrev wBs:List Tg->List D->Rho->(Rho->Prop)->Prop
 |[],[],ρ,Q=>Q ρ
 |[],_::_,_,_=>False
 |.n _::_,[],_,_=>False
 |.tup _::_,[],_,_=>False
 |.n i::ts,d::ds,ρ,Q=>wNm i d ρ λc=>wBs ts ds c Q
 |.tup us::ts,d::ds,ρ,Q=>∃c,aB (.tup us) d ρ=aw c/\wBs ts ds c Q
abbrev wTp(T:List Tg)(d:D)(c:Rho)(Q:Rho->Prop):Prop:=match d with
 |.tup ds=>wBs T ds c Q
 |.non=>False |.bl _=>False |.str _=>False |.int _=>False |.ref _=>False
abbrev wBd:Tg->D->Rho->(Rho->Prop)->Prop
 |.n i,d,ρ,Q=>wNm i d ρ Q
 |.tup ts,d,ρ,Q=>wTp ts d ρ Q
def EM{i:Nat}{d:D}{c:Rho}{Q:Rho->Prop}(h:wNm i d c Q):∃ρ1,aB (.n i) d c=aw ρ1/\Q ρ1:={_,by rw[Ix,if_pos (sF h).1],(sF h).2}
def xm:∀ {T:List Tg} {j:List D} {g:Rho} {Q:Rho->Prop},wBs T j g Q->∃c,aQ T j g=aw c/\Q c
 |[],[],g,Q,h=>⟨g,y6,h⟩
 |[],_::_,_,_,h=>h.elim
 |.n _::_,[],_,_,h=>h.elim
 |.tup _::_,[],_,_,h=>h.elim
 |.n i::T,d::j,g,Q,h=>by
  let{c,e,q}:=EM h;let{f,E,q}:=xm q;exact{f,by rw[aQ,e];exact E,q}
 |.tup us::T,d::j,g,Q,h=>by
  let{c,e,q}:=h;let{f,E,q}:=xm q;exact{f,by rw[aQ,e];exact E,q}
def OW{t:Tg}{d:D}{c:Rho}{Q:Rho->Prop}(h:wBd t d c Q):∃ρ1,aB t d c=aw ρ1/\Q ρ1:=by
 cases t with
 |n i=>exact EM h
 |tup T=>cases d with
  |tup f=>rw[Ew];exact xm h
  |_=>exact h.elim
@[inline]abbrev WS:=Rho->Sto->(Fl->Rho->Sto->Prop)->Prop
abbrev rW(y:WS)(c:Rho)(S:Sto)(Q:Fl->Rho->Sto->Prop):Prop:=y c S Q
abbrev wNx(y:WS)(Q:Fl->Rho->Sto->Prop)(f:Fl)(c:Rho)(S:Sto):Prop:=match f with
 |.nx=>rW y c S Q
 |.rt d=>Q (.rt d) c S
 |.bk=>Q .bk c S
 |.ct=>Q .ct c S
mutual
noncomputable def wS(C:Calls)(A:Nat->Nat):Nat->CS->WS
 |0,_=>λ_ _ _=>False
 |n+1,s=>match s with
  |.a t e=>λf S Q=>wE C A n e f S λd g=>wBd t d f λh=>Q .nx h g
  |.j v o i=>λf S Q=>wE C A n v f S λa g=>wE C A n o f g λb k=>wE C A n i f k λc l=>∃j,kG b c a l=aw j/\Q .nx f j
  |.ex e=>λf S Q=>wE C A n e f S λ_ g=>Q .nx f g
  |.ret e=>λf S Q=>wE C A n e f S λd g=>Q (.rt d) f g
  |.i c a b=>λf S Q=>wT C A n c f S λt g=>wIf t (rW (wSs C A n a) f g Q) (rW (wSs C A n b) f g Q)
  |.f t it b=>λf S Q=>wI C A n it f S λnx g=>OkS (fO nx t (fE C A n b) LF 0 f g) Q
  |.g c b=>λf S Q=>OkS (bZ (evT C A n c) (fE C A n b) LF f S) Q
  |.cnt=>λf S Q=>Q .ct f S
  |.never=>λ_ _ _=>False
noncomputable def wSs(C:Calls)(A:Nat->Nat):Nat->List CS->WS
 |0,_=>λ_ _ _=>False
 |n+1,ss=>match ss with
  |[]=>λc S Q=>Q .nx c S
  |s::ss=>λc S Q=>wS C A n s c S (wNx (wSs C A n ss) Q)
end
structure SdS(C:Calls)(A:Nat->Nat)(n:Nat):Prop where
 s:∀ {s:CS} {ρ S Q},wS C A n s ρ S Q->OkS (evS C A n s ρ S) Q
 ss:∀ {ss:List CS} {ρ S Q},wSs C A n ss ρ S Q->OkS (fE C A n ss ρ S) Q
def EN:∀n,SdS C A n
 |0=>{λh=>by simp![wS]at h,λh=>by simp![wSs]at h}
 |n+1=>by
  let h:=EN n;let g:SndW C A n:=oT n;refine{λ{s ρ S Q} w=>?_,λ{ss ρ S Q} w=>?_}
  .cases s with
   |a t e=>simp![evS,Ik];simp![wS]at w;exact(g.e _ _ _ w).mono λd j w=>OW w
   |j v o i=>simp![evS,Er];simp![wS]at w;exact(g.e _ _ _ w).mono λa j w=>(g.e _ _ _ w).mono λb l w=>g.e _ _ _ w
   |ex e=>simp![evS,Ep];simp![wS]at w;exact g.e _ _ _ w
   |ret e=>simp![evS,Il];simp![wS]at w;exact g.e _ _ _ w
   |i c a b=>
    simp![evS,Oa];simp![wS]at w;calc(g.t _ _ _ w).mono λt j w=>?_;cases t with
    |true=>exact h.ss w
    |false=>exact h.ss w
   |f t I b=>simp![evS,Im];simp![wS]at w;exact g.i _ _ _ w
   |g c b=>simp![wS]at w;simp![evS];exact w
   |cnt=>simp![wS]at w;simp![evS];exact⟨_,_,_,rfl,w⟩
   |never=>simp![wS]at w
  .cases ss with
   |nil=>simp![wSs]at w;simp![fE];exact⟨_,_,_,rfl,w⟩
   |cons s ss=>
    simp![wSs]at w;simp![fE,Ij];calc(h.s w).mono λf k j w=>?_;cases f with
    |nx=>exact h.ss w
    |_=>exact w
def xn{ss:List CS}{c:Rho}{S:Sto}{Q:Fl->Rho->Sto->Prop}(h:rW (wSs C A n ss) c S Q):OkS (fE C A n ss c S) Q:=(EN n).ss h
def EO{s:CS}{ss:List CS}{c:Rho}{S:Sto}{Q:Fl->Rho->Sto->Prop}(h:wS C A n s c S (wNx (wSs C A n ss) Q)):rW (wSs C A (n+1) (s::ss)) c S Q:=h
def IR{c:Rho}{S:Sto}{Q:Fl->Rho->Sto->Prop}(h:Q .nx c S):rW (wSs C A (n+1) []) c S Q:=h
end
section
variable {C:Calls} {u:Nat->Nat} {A B:Prop} {S S1:Sto} {Q:D->Sto->Prop} {E:List D->Sto->Prop} {G:Nxt->Sto->Prop} {H:Bool->Prop} {I:Int->Prop} {J:D->Prop} {L:Rho->Prop} {M:Bool->Sto->Prop} {N:Fl->Rho->Sto->Prop} {t:Bool} {d x y:D} {i j:Int} {n m f:Nat} {s:Str} {o:BOp} {c p:COp} {ds xs ys:List D} {l h:Option Int} {T:Tg} {ts:List Tg} {ρ O:Rho} {es:List CE} {a b e:CE} {U ob X:Option CE} {own:List Str} {Y:CI} {Z:List Cl} {ty:Ty} {w wl:WP (List D)} {wv:WP D} {sa sb:List CS} {ws:WS} {od:Option D} {g:D->D->Sto->(D->Sto->Prop)->Prop}
def OX:wE C u (n+1) (.non) ρ S Q=(Q .non S):=rfl
def TK:wE C u (n+1) (.bl t) ρ S Q=(Q (.bl t) S):=rfl
def OY:wE C u (n+1) (.int i) ρ S Q=(Q (.int i) S):=rfl
def OZ:wE C u (n+1) (.str s) ρ S Q=(Q (.str s) S):=rfl
def O0:wE C u (n+1) (.con m i) ρ S Q=(Q (.int i) S):=rfl
def O1:wE C u (n+1) (.v m) ρ S Q=(xa ρ m λd=>Q d S):=rfl
def O2:wE C u (n+1) (.tup es) ρ S Q=(gf 60 es (wA C u n es ρ S λds S1=>Q (.tup ds) S1)):=rfl
def O3:wE C u (n+1) (.lst es) ρ S Q=(gf 60 es (wA C u n es ρ S λds S1=>Q (.ref S1.length) (S1++[.lst ds]))):=rfl
def IS:wE C u (n+1) (.dic0) ρ S Q=(Q (.ref (Zi S)) (S++[.dic [] []])):=rfl
def IT{v:Nat}:wE C u (n+1) (.dic1 i v) ρ S Q=(∃d,ρ[v]?=aw (aw d)/\Q (.ref (Zi S)) (S++[.dic [pE i] [d]])):=rfl
def O4:wE C u (n+1) (.b o a b) ρ S Q=(wE C u n a ρ S λx S1=>wE C u n b ρ S1 λy k=>xc o x y k Q):=rfl
def O5:wE C u (n+1) (.neg a) ρ S Q=(wE C u n a ρ S λd S1=>c7 d λi=>Q (.int (-i)) S1):=rfl
def O6:wE C u (n+1) (.m c a b) ρ S Q=(wE C u n a ρ S λx S1=>wE C u n b ρ S1 λy k=>wCm c x y k Q):=rfl
def O7:wE C u (n+1) (.h c p a b e) ρ S Q=(wE C u n a ρ S λx S1=>wE C u n b ρ S1 λy v=>wCm c x y v λr k=>wBl r λt=>wIf t (wE C u n e ρ k λz q=>wCm p y z q Q) (Q (.bl aS) k)):=rfl
def O8:wE C u (n+1) (.d a b) ρ S Q=(wE C u n a ρ S λd S1=>wBl d λt=>wIf t (wE C u n b ρ S1 Q) (Q (.bl aS) S1)):=rfl
def TL:wE C u (n+1) (.or a b) ρ S Q=(wE C u n a ρ S λd S1=>wBl d λt=>wIf t (Q (.bl aN) S1) (wE C u n b ρ S1 Q)):=rfl
def O9:wE C u (n+1) (.n a) ρ S Q=(wE C u n a ρ S λd S1=>wBl d λt=>Q (.bl (!t)) S1):=rfl
def Pa:wE C u (n+1) (.ite e a b) ρ S Q=(wT C u n e ρ S λt S1=>wIf t (wE C u n a ρ S1 Q) (wE C u n b ρ S1 Q)):=rfl
def TM:wE C u (n+1) (.x a b) ρ S Q=(aW (ag a) (wTm C u n a) (wE C u n a) ρ S (λds S1=>wE C u n b ρ S1 λi q=>c7 i λk=>∃d,atI ds k=aw d/\Q d q) (λd S1=>wE C u n b ρ S1 λi q=>Ok (ixS d i q) Q)):=rfl
def IU:wE C u (n+1) (.sl a aD aD) ρ S Q=(wE C u n a ρ S λd S1=>xh aD aD d S1 Q):=rfl
def IV:wE C u (n+1) (.sl a aD (aw b)) ρ S Q=(wE C u n a ρ S λd S1=>wE C u n b ρ S1 λy k=>c7 y λj=>xh aD (aw j) d k Q):=rfl
def IW:wE C u (n+1) (.sl a (aw b) aD) ρ S Q=(wE C u n a ρ S λd S1=>wE C u n b ρ S1 λy k=>c7 y λj=>xh (aw j) aD d k Q):=rfl
def IX:wE C u (n+1) (.sl a (aw b) (aw e)) ρ S Q=(wE C u n a ρ S λd S1=>wE C u n b ρ S1 λy q=>c7 y λj=>wE C u n e ρ q λz v=>c7 z λk=>xh (aw j) (aw k) d v Q):=rfl
def IY:wE C u (n+1) (.c f es) ρ S Q=(wA C u n es ρ S λds S1=>ds.length=u f/\Ok (C f ds S1) Q):=rfl
def IZ:wE C u (n+1) (.s ty a) ρ S Q=(wE C u n a ρ S λd S1=>Ok (nJ ty d S1) Q):=rfl
def Pb:wE C u (n+1) (.e a) ρ S Q=(aW (ag a) (wTm C u n a) (wE C u n a) ρ S (λds S1=>Ok (dS aS ds S1) Q) (λd S1=>Ok (au dS d S1) Q)):=rfl
def Pc:wE C u (n+1) (.all a) ρ S Q=(aW (ag a) (wTm C u n a) (wE C u n a) ρ S (λds S1=>Ok (lW aS ds S1) Q) (λd S1=>Ok (au lW d S1) Q)):=rfl
def ER:wE C u (n+1) (.t a) ρ S Q=(aW (ag a) (wTm C u n a) (wE C u n a) ρ S (λds S1=>Ok (df aS ds S1) Q) (λd S1=>Ok (au df d S1) Q)):=rfl
def Pd:wE C u (n+1) (.w a) ρ S Q=(aW (ag a) (wTm C u n a) (wE C u n a) ρ S (λds S1=>Ok (pw aS ds S1) Q) (λd S1=>Ok (au pw d S1) Q)):=rfl
def Pe:wE C u (n+1) (.y a i) ρ S Q=(aW (ag a) (wTm C u n a) (wE C u n a) ρ S (λds S1=>Ok (gq i aS ds S1) Q) (λd S1=>Ok (au (gq i) d S1) Q)):=rfl
def AR:wE C u (n+1) (.listOf a) ρ S Q=(aW (ag a) (wTm C u n a) (wE C u n a) ρ S (λds S1=>Q (.ref S1.length) (S1++[.lst ds])) (λd S1=>Ok ((aq d S1).map λr=>(r.2,S1)) λds S1=>Q (.ref S1.length) (S1++[.lst ds]))):=rfl
def ES:wE C u (n+1) (.l a) ρ S Q=(wE C u n a ρ S λd S1=>∃i:Nat,d = .int i/\i<=1000/\Q (.ref S1.length) (S1++[.lst ((Zm i).map λj=>.int (Int.ofNat j))])):=rfl
def Pf:wE C u (n+1) (.srt a) ρ S Q=(aW (ag a) (wTm C u n a) (wE C u n a) ρ S (λds S1=>∃es,cU aS ds=aw es/\Q (.ref S1.length) (S1++[.lst es])) (λd S1=>∃r es,aq d S1=aw r/\cU r.1 r.2=aw es/\Q (.ref S1.length) (S1++[.lst es]))):=rfl
def Pg:wE C u (n+1) (.z a) ρ S Q=(aW (ag a) (wTm C u n a) (wE C u n a) ρ S (λds S1=>Ok (pB aS ds S1) Q) (λd S1=>Ok (au pB d S1) Q)):=rfl
def Ja:wE C u (n+1) (.dct0) ρ S Q=(Q (.ref (Zi S)) (S++[.dct [] []])):=rfl
def Ph:wE C u (n+1) (.idx a b) ρ S Q=(wE C u n a ρ S λd S1=>isTup d=aN/\wA C u n [b] ρ S1 λas k=>Ok (wu d as k) Q):=rfl
def Jb:wE C u (n+1) (.u a) ρ S Q=(wE C u n a ρ S λd S1=>c7 d λi=>(0<=i/\i<=1000)/\Q (.tup ((Zm i.toNat).map λj=>.int (Int.ofNat j))) S1):=rfl
def Pj:wE C u (n+1) (.rev a) ρ S Q=(wE C u n a ρ S λd S1=>Ok (t0 d S1) Q):=rfl
def TN:wE C u (n+1) (.mx a b) ρ S Q=(wA C u n [a,b] ρ S λds S1=>w2 EI ds S1 Q):=rfl
def TQ:wE C u (n+1) (.mn a b) ρ S Q=(wA C u n [a,b] ρ S λds S1=>w2 EJ ds S1 Q):=rfl
def Pk:wE C u (n+1) (.rep a) ρ S Q=(wE C u n a ρ S λd S1=>Ok (k9 d S1) Q):=rfl
def Jc:wE C u (n+1) (.o own a (⟨T,Y,X⟩::Z)) ρ S Q=(wI C u n Y ρ S λnx S1=>uM own [] λr=>uN ρ r λk=>wFt T k (Ok (bD nx T (cnd (evT C u n) X (iS C u n a Z)) k LF 0 S1) λes q=>es.length<=100000/\Q (.ref q.length) (q++[.lst es]))):=rfl
def Pl:wE C u (n+1) (.app a b) ρ S Q=(wE C u n a ρ S λd S1=>eM d S1=aN/\wA C u n [b] ρ S1 λas k=>Ok (t6 d as k) Q):=rfl
def Pm:wE C u (n+1) (.pop a) ρ S Q=(wE C u n a ρ S λd S1=>eM d S1=aN/\Ok (wk d [] S1) Q):=rfl
def ET:wE C u (n+1) (.q a b) ρ S Q=(wE C u n a ρ S λd S1=>eM d S1=aN/\wA C u n [b] ρ S1 λas k=>Ok (jf d as k) Q):=rfl
def Pn:wE C u (n+1) (.cnt a b) ρ S Q=(wE C u n a ρ S λd S1=>isTup d=aN/\wA C u n [b] ρ S1 λas k=>Ok (wm d as k) Q):=rfl
def Vn:wA C u (n+1) [] ρ S E=E [] S:=rfl
def Vo:wA C u (n+1) (a::es) ρ S E=(wE C u n a ρ S λd S1=>wA C u n es ρ S1 λds k=>E (d::ds) k):=rfl
def Po:wTm C u (n+1) (.lst es) ρ S E=gf 60 es (wA C u n es ρ S E):=rfl
def AS:wTm C u (n+1) (.listOf a) ρ S E=(aW (ag a) (wTm C u n a) (wE C u n a) ρ S (λds S1=>E ds S1) (λd S1=>Ok ((aq d S1).map λr=>(r.2,S1)) E)):=rfl
def EU:wTm C u (n+1) (.l a) ρ S E=(wE C u n a ρ S λd S1=>∃i:Nat,d = .int i/\i<=1000/\E ((Zm i).map λj=>.int (Int.ofNat j)) S1):=rfl
def Pp:wTm C u (n+1) (.srt a) ρ S E=(aW (ag a) (wTm C u n a) (wE C u n a) ρ S (λds S1=>∃es,cU aS ds=aw es/\E es S1) (λd S1=>∃r es,aq d S1=aw r/\cU r.1 r.2=aw es/\E es S1)):=rfl
def Jd:wTm C u (n+1) (.o own a (⟨T,Y,X⟩::Z)) ρ S E=(wI C u n Y ρ S λnx S1=>uM own [] λr=>uN ρ r λk=>wFt T k (Ok (bD nx T (cnd (evT C u n) X (iS C u n a Z)) k LF 0 S1) λes q=>es.length<=100000/\E es q)):=rfl
def Pq:wI C u (n+1) (.p a) ρ S G=(aW (ag a) (wTm C u n a) (wE C u n a) ρ S (λds S1=>G (nxL ds) S1) (λd S1=>xk d S1 G)):=rfl
def TR:wI C u (n+1) (.en a) ρ S G=(wE C u n a ρ S λd S1=>II d S1 G):=rfl
def TU:wI C u (n+1) (.r1 a) ρ S G=(wE C u n a ρ S λd S1=>c7 d λj=>lim j=aN/\G (nxR 0 j.toNat) S1):=rfl
def TV:wI C u (n+1) (.zp a b) ρ S G=(wE C u n a ρ S λd S1=>wE C u n b ρ S1 λe k=>∃x y,d = .tup x/\e = .tup y/\G (nxZ x y) k):=rfl
def TW:wI C u (n+1) (.dn a) ρ S G=(wE C u n a ρ S λd S1=>c7 d λj=>lim j=aN/\G (nxD j (j+1).toNat) S1):=rfl
def TX:wI C u (n+1) (.r2 a b) ρ S G=(wE C u n a ρ S λd S1=>wE C u n b ρ S1 λe k=>c7 d λi=>c7 e λj=>(lim i=aN/\lim j=aN)/\G (nxR i (j - i).toNat) k):=rfl
def Pr:wT C u (n+1) (.m c a b) ρ S M=(wE C u n a ρ S λx S1=>wE C u n b ρ S1 λy k=>wCm c x y k λd q=>wBl d λt=>M t q):=rfl
def Ps:wT C u (n+1) (.h c p a b e) ρ S M=(wE C u n a ρ S λx S1=>wE C u n b ρ S1 λy v=>wCm c x y v λr k=>wBl r λt=>wIf t (wE C u n e ρ k λz q=>wCm p y z q λd S5=>wBl d λt=>M t S5) (wBl (.bl aS) λt=>M t k)):=rfl
def Pt:wT C u (n+1) (.d a b) ρ S M=(wT C u n a ρ S λt S1=>wIf t (wT C u n b ρ S1 M) (M aS S1)):=rfl
def TY:wT C u (n+1) (.or a b) ρ S M=(wT C u n a ρ S λt S1=>wIf t (M aN S1) (wT C u n b ρ S1 M)):=rfl
def Pu:wT C u (n+1) (.n a) ρ S M=(wT C u n a ρ S λt S1=>M (!t) S1):=rfl
def TZ:wT C u (n+1) (.bl t) ρ S M=(wE C u n (.bl t) ρ S λd S1=>dm d S1 M):=rfl
def Pv:wT C u (n+1) (.v m) ρ S M=(wE C u n (.v m) ρ S λd S1=>dm d S1 M):=rfl
def Je:wT C u (n+1) (.c f es) ρ S M=(wE C u n (.c f es) ρ S λd S1=>dm d S1 M):=rfl
def Jf:wT C u (n+1) (.s ty a) ρ S M=(wE C u n (.s ty a) ρ S λd S1=>dm d S1 M):=rfl
def Pw:wT C u (n+1) (.all a) ρ S M=(wE C u n (.all a) ρ S λd S1=>dm d S1 M):=rfl
def Px:wT C u (n+1) (.e a) ρ S M=(wE C u n (.e a) ρ S λd S1=>dm d S1 M):=rfl
def T0:wT C u (n+1) (.x a b) ρ S M=(wE C u n (.x a b) ρ S λd S1=>dm d S1 M):=rfl
def Py:wT C u (n+1) (.lst es) ρ S M=(wE C u n (.lst es) ρ S λd S1=>dm d S1 M):=rfl
def Pz:wT C u (n+1) (.tup es) ρ S M=(wE C u n (.tup es) ρ S λd S1=>dm d S1 M):=rfl
def Vp:wCl C u n a [] ρ S E=(wE C u n a ρ S λd S1=>E [d] S1):=rfl
def Vq:wCl C u n a (⟨T,Y,X⟩::Z) ρ S E=(wFt T ρ (wI C u n Y ρ S λnx S1=>Ok (bD nx T (cnd (evT C u n) X (iS C u n a Z)) ρ LF 0 S1) E)):=rfl
def Vr:IM (wT C u n) aD w ρ S E=w ρ S E:=rfl
def Vs:IM (wT C u n) (aw a) w ρ S E=(wT C u n a ρ S λt S1=>wIf t (w ρ S1 E) (E [] S1)):=rfl
def PC:wS C u (n+1) (.a T a) ρ S N=(wE C u n a ρ S λd S1=>wBd T d ρ λk=>N .nx k S1):=rfl
def Jg:wS C u (n+1) (.j a b e) ρ S N=(wE C u n a ρ S λx S1=>wE C u n b ρ S1 λy q=>wE C u n e ρ q λz v=>∃k,kG y z x v=aw k/\N .nx ρ k):=rfl
def T1:wS C u (n+1) (.ex a) ρ S N=(wE C u n a ρ S λ_ S1=>N .nx ρ S1):=rfl
def PD:wS C u (n+1) (.ret a) ρ S N=(wE C u n a ρ S λd S1=>N (.rt d) ρ S1):=rfl
def PF:wS C u (n+1) (.i a sa sb) ρ S N=(wT C u n a ρ S λt S1=>wIf t (rW (wSs C u n sa) ρ S1 N) (rW (wSs C u n sb) ρ S1 N)):=rfl
def PH:wS C u (n+1) (.f T Y sa) ρ S N=(wI C u n Y ρ S λnx S1=>OkS (fO nx T (fE C u n sa) LF 0 ρ S1) N):=rfl
def EV:wS C u (n+1) (.g a sa) ρ S N=OkS (bZ (evT C u n a) (fE C u n sa) LF ρ S) N:=rfl
def PJ:wS C u (n+1) .cnt ρ S N=N .ct ρ S:=rfl
def T2:wNx ws N .nx ρ S=rW ws ρ S N:=rfl
def T3:wNx ws N (.rt d) ρ S=N (.rt d) ρ S:=rfl
def T4:wNx ws N .bk ρ S=N .bk ρ S:=rfl
def T5:wNx ws N .ct ρ S=N .ct ρ S:=rfl
def PL:wIf (aN && t) A B=wIf t A B:=rfl
def PM:wIf (aS && t) A B=B:=rfl
def PN:wIf (aN || t) A B=A:=rfl
def Jh:wIf (aS || t) A B=wIf t A B:=rfl
def Ji:wIf (!(aN && t)) A B=wIf (!t) A B:=rfl
def Jj:wIf (!(aS && t)) A B=A:=rfl
def Jk:wIf (!(aN || t)) A B=B:=rfl
def Jl:wIf (!(aS || t)) A B=wIf (!t) A B:=rfl
def T6:wIf aN A B=A:=rfl
def T7:wIf aS A B=B:=rfl
def PP:wIf (!aN) A B=B:=rfl
def PQ:wIf (!aS) A B=A:=rfl
def T8:wBl (.bl t) H=H t:=rfl
def PR:c7 (.int i) I=I i:=rfl
def PU:xa (aw d::ρ) 0 J=J d:=rfl
def PV:xa (od::ρ) (n+1) J=xa ρ n J:=rfl
def T9:wFr (aD::ρ) 0 A=A:=rfl
def Ua:wFr (od::ρ) (n+1) A=wFr ρ n A:=rfl
def PX:uL [] ρ A=A:=rfl
def PY:uL (.n m::ts) ρ A=wFr ρ m (uL ts ρ A):=rfl
def Ub:wFt (.n m) ρ A=wFr ρ m A:=rfl
def Uc:wFt (.tup ts) ρ A=uL ts ρ A:=rfl
def PZ:uM [] ρ L=L ρ:=rfl
def P0:uM (s::own) ρ L=uM own (aD::ρ) L:=rfl
def P1:uN [] ρ L=L ρ:=rfl
def P2:uN (od::ρ) O L=uN ρ O λr=>L (od::r):=rfl
def Ud:gf (n+1) [] A=A:=rfl
def Ue:gf (n+1) (a::es) A=gf n es A:=rfl
def Uf:wNm 0 d (od::ρ) L=L (aw d::ρ):=rfl
def Ug:wNm (n+1) d (od::ρ) L=wNm n d ρ λr=>L (od::r):=rfl
def Uh:wBs [] [] ρ L=L ρ:=rfl
def Ui:wBs (.n m::ts) (d::ds) ρ L=wNm m d ρ λr=>wBs ts ds r L:=rfl
def Uj:wBd (.n m) d ρ L=wNm m d ρ L:=rfl
def Uk:wBd (.tup ts) d ρ L=wTp ts d ρ L:=rfl
def Ul:wTp ts (.tup ds) ρ L=wBs ts ds ρ L:=rfl
def Jm:wII .add i j S Q=Q (.int (i+j)) S:=rfl
def Jn:wII .sub i j S Q=Q (.int (i - j)) S:=rfl
def Jo:wII .mul i j S Q=(jO i j=aN/\Q (.int (i * j)) S):=rfl
def Jp:wII .mod i j S Q=(0 < j/\Q (.int (i % j)) S):=rfl
def EW:wII .fdiv i j S Q=((0 < j/\j < 1298074214633706907132624082305024)/\Q (.int (i / j)) S):=rfl
def Jq:wII .pow i j S Q=((0<=j/\j<=1000000/\i.natAbs < 2 ^ 64)/\Q (.int (i ^ j.toNat)) S):=rfl
def Jr:wTT .add xs ys S Q=(xs.length+ys.length<=1000/\Q (.tup (xs++ys)) S):=rfl
def Js:ED o i (.int j) S Q=wII o i j S Q:=rfl
def Jt:y9 o xs (.tup ys) S Q=wTT o xs ys S Q:=rfl
def Ju:y9 o xs (.int j) S Q=Ok (bU o (.tup xs) (.int j) S) Q:=rfl
def P3:xc o (.int i) y S Q=ED o i y S Q:=rfl
def P4:xc o (.tup xs) y S Q=y9 o xs y S Q:=rfl
def P5:xc o (.ref n) y S Q=Ok (bU o (.ref n) y S) Q:=rfl
def P6:xc o (.str s) y S Q=Ok (bU o (.str s) y S) Q:=rfl
def P7:wCI .eq i j S Q=Q (.bl (decide (i=j))) S:=rfl
def P8:wCm .eq x y S Q=wCx .eq x y S Q:=rfl
def P9:wCI .ne i j S Q=Q (.bl (!decide (i=j))) S:=rfl
def Qa:wCm .ne x y S Q=wCx .ne x y S Q:=rfl
def Qc:wCI .lt i j S Q=Q (.bl (decide (i < j))) S:=rfl
def Qe:wCm .lt x y S Q=wCx .lt x y S Q:=rfl
def Qg:wCI .le i j S Q=Q (.bl (decide (i<=j))) S:=rfl
def Qh:wCm .le x y S Q=wCx .le x y S Q:=rfl
def Qj:wCI .gt i j S Q=Q (.bl (decide (j < i))) S:=rfl
def Qk:wCm .gt x y S Q=wCx .gt x y S Q:=rfl
def Qm:wCI .ge i j S Q=Q (.bl (decide (j<=i))) S:=rfl
def Qo:wCm .ge x y S Q=wCx .ge x y S Q:=rfl
def Qp:wCm .is x y S Q=Ok (am .is x y S) Q:=rfl
def AU:wCm .t x y S Q=Ok (am .t x y S) Q:=rfl
def EX:wCm .s x y S Q=Ok (am .s x y S) Q:=rfl
def AV:wCm .o x y S Q=Ok (am .o x y S) Q:=rfl
def Um:wCx c (.int i) y S Q=OD c i y S Q:=rfl
def Uo:wCx c (.tup xs) y S Q=AO c xs y S Q:=rfl
def Uq:wCx c .non y S Q=Ok (am c .non y S) Q:=rfl
def Ur:wCx c (.bl t) y S Q=Ok (am c (.bl t) y S) Q:=rfl
def Us:wCx c (.str s) y S Q=Ok (am c (.str s) y S) Q:=rfl
def Ut:wCx c (.ref n) y S Q=Ok (am c (.ref n) y S) Q:=rfl
def Qq:OD c i (.int j) S Q=wCI c i j S Q:=rfl
def Qu:AO .eq xs (.tup []) S Q=Q (.bl xs.isEmpty) S:=rfl
def Qv:AO .ne xs (.tup []) S Q=Q (.bl (!xs.isEmpty)) S:=rfl
def Jv:AO .eq xs (.tup (y::ys)) S Q=Ok (am .eq (.tup xs) (.tup (y::ys)) S) Q:=rfl
def Jw:AO .ne xs (.tup (y::ys)) S Q=Ok (am .ne (.tup xs) (.tup (y::ys)) S) Q:=rfl
def Qw:xh l h (.tup ds) S Q=Q (.tup (gw ds l h)) S:=rfl
def Qy:xh l h (.ref n) S Q=Ok (slS l h (.ref n) S) Q:=rfl
def Qz:xk (.tup ds) S G=G (nxL ds) S:=rfl
def QA:xk (.ref n) S G=((aU S n).isSome=aN/\G (nxS n) S):=rfl
def QB:II (.tup ds) S G=G (Hh ds) S:=rfl
def Jx:dm (.bl t) S M=M t S:=rfl
def Jy:dm (.tup ds) S M=M (!ds.isEmpty) S:=rfl
def Jz:dm (.int i) S M=M (i != 0) S:=rfl
def JA:dm (.ref n) S M=Ok (nF (.ref n) S) M:=rfl
def Vt:w2 g [x,y] S Q=g x y S Q:=rfl
def QC:EI (.int i) (.int j) S Q=Q (.int (if j > i then j else i)) S:=rfl
def QD:EJ (.int i) (.int j) S Q=Q (.int (if j < i then j else i)) S:=rfl
def JB:aW (ag (.lst es)) wl wv ρ S E Q=wl ρ S E:=rfl
def xo:aW (ag (.listOf a)) wl wv ρ S E Q=wl ρ S E:=rfl
def AW:aW (ag (.l a)) wl wv ρ S E Q=wl ρ S E:=rfl
def JC:aW (ag (.srt a)) wl wv ρ S E Q=wl ρ S E:=rfl
def EY:aW (ag (.o own a Z)) wl wv ρ S E Q=wl ρ S E:=rfl
def JD:aW (ag (.non)) wl wv ρ S E Q=wv ρ S Q:=rfl
def QE:aW (ag (.bl t)) wl wv ρ S E Q=wv ρ S Q:=rfl
def JE:aW (ag (.int i)) wl wv ρ S E Q=wv ρ S Q:=rfl
def JF:aW (ag (.str s)) wl wv ρ S E Q=wv ρ S Q:=rfl
def JG:aW (ag (.v m)) wl wv ρ S E Q=wv ρ S Q:=rfl
def JH:aW (ag (.con m i)) wl wv ρ S E Q=wv ρ S Q:=rfl
def JI:aW (ag (.tup es)) wl wv ρ S E Q=wv ρ S Q:=rfl
def EZ:aW (ag (.dic0)) wl wv ρ S E Q=wv ρ S Q:=rfl
def E5{v:Nat}:aW (ag (.dic1 i v)) wl wv ρ S E Q=wv ρ S Q:=rfl
def JJ:aW (ag (.b o a b)) wl wv ρ S E Q=wv ρ S Q:=rfl
def JK:aW (ag (.neg a)) wl wv ρ S E Q=wv ρ S Q:=rfl
def JL:aW (ag (.m c a b)) wl wv ρ S E Q=wv ρ S Q:=rfl
def JM:aW (ag (.h c p a b e)) wl wv ρ S E Q=wv ρ S Q:=rfl
def JN:aW (ag (.d a b)) wl wv ρ S E Q=wv ρ S Q:=rfl
def QF:aW (ag (.or a b)) wl wv ρ S E Q=wv ρ S Q:=rfl
def JO:aW (ag (.n a)) wl wv ρ S E Q=wv ρ S Q:=rfl
def JP:aW (ag (.ite e a b)) wl wv ρ S E Q=wv ρ S Q:=rfl
def QG:aW (ag (.x a b)) wl wv ρ S E Q=wv ρ S Q:=rfl
def QH:aW (ag (.sl a U ob)) wl wv ρ S E Q=wv ρ S Q:=rfl
def E6:aW (ag (.c f es)) wl wv ρ S E Q=wv ρ S Q:=rfl
def E7:aW (ag (.s ty a)) wl wv ρ S E Q=wv ρ S Q:=rfl
def JQ:aW (ag (.e a)) wl wv ρ S E Q=wv ρ S Q:=rfl
def JR:aW (ag (.all a)) wl wv ρ S E Q=wv ρ S Q:=rfl
def AX:aW (ag (.t a)) wl wv ρ S E Q=wv ρ S Q:=rfl
def JS:aW (ag (.w a)) wl wv ρ S E Q=wv ρ S Q:=rfl
def JT:aW (ag (.y a i)) wl wv ρ S E Q=wv ρ S Q:=rfl
def JU:aW (ag (.z a)) wl wv ρ S E Q=wv ρ S Q:=rfl
def E8:aW (ag (.dct0)) wl wv ρ S E Q=wv ρ S Q:=rfl
def JV:aW (ag (.idx a b)) wl wv ρ S E Q=wv ρ S Q:=rfl
def E9:aW (ag (.u a)) wl wv ρ S E Q=wv ρ S Q:=rfl
def JW:aW (ag (.rev a)) wl wv ρ S E Q=wv ρ S Q:=rfl
def QI:aW (ag (.mx a b)) wl wv ρ S E Q=wv ρ S Q:=rfl
def QJ:aW (ag (.mn a b)) wl wv ρ S E Q=wv ρ S Q:=rfl
def JX:aW (ag (.rep a)) wl wv ρ S E Q=wv ρ S Q:=rfl
def JY:aW (ag (.app a b)) wl wv ρ S E Q=wv ρ S Q:=rfl
def JZ:aW (ag (.pop a)) wl wv ρ S E Q=wv ρ S Q:=rfl
def AY:aW (ag (.q a b)) wl wv ρ S E Q=wv ρ S Q:=rfl
def J0:aW (ag (.cnt a b)) wl wv ρ S E Q=wv ρ S Q:=rfl
def aa{v:Type}{z:Option (v×Sto)}{r:v}{k:Sto}{K:v->Sto->Prop}(e:z=aw (r,k))(q:K r k):Ok z K:=⟨r,k,e,q⟩
def dH(h1:t=aN->A)(h2:t=aS->B):wIf t A B:=by
 cases t with
 |true=>exact h1 rfl
 |false=>exact h2 rfl
end
end Ev
local macro_rules|`(tactic|k_go)=>do
 let f s:Lean.MacroM (Lean.TSyntax ``Lean.Parser.Tactic.simpLemma):=`(Lean.Parser.Tactic.simpLemma|↓$(Lean.mkIdent (`Ev++s.toName)):ident)
 let a ← ("OX TK OY OZ O0 O1 O2 O3 IS IT O4 O5 O6 O7 O8 TL O9 Pa TM IU IV IW IX IY IZ Pb Pc ER Pd Pe AR ES Pf Pg Ja Ph Jb Pj TN TQ Pk Jc Pl Pm ET Pn Vn Vo Po AS EU Pp Jd Pq TR TU TV TX TW Pr Ps Pt TY Pu TZ Pv Je Jf Pw Px T0 Py Pz Vp Vq Vr Vs PC Jg T1 PD PF PH EV PJ T2 T3 T4 T5 PL PM PN Jh Ji Jj Jk Jl T6 T7 PP PQ T8 PR PU PV T9 Ua PX PY Ub Uc PZ P0 P1 P2 Ud Ue Uf Ug Uh Ui Uj Uk Ul Jm Jn Jo Jp EW Jq Jr Js Jt Ju P3 P4 P5 P6 P7 P8 P9 Qa Qc Qe Qg Qh Qj Qk Qm Qo Qp AU EX AV Um Uo Uq Ur Us Ut Qq Qu Qv Jv Jw Qw Qy Qz QA QB Jx Jy Jz JA Vt QC QD JB xo AW JC EY JD QE JE JF JG JH JI EZ E5 JJ JK JL JM JN QF JO JP QG QH E6 E7 JQ JR AX JS JT JU E8 JV E9 JW QI QJ JX JY JZ AY J0 Oc Od".splitOn).toArray.mapM f
 `(tactic|dsimp only[$a,*])
local macro_rules |`(tactic|k_is)=>`(tactic|((with_reducible first |refine Ev.xn ?_ |refine Ev.OV ?_ |refine Ev.wcl_ok ?_ |skip);(try dsimp only[List.set_cons_zero,List.set_cons_succ]);(try k_go);(repeat ((with_reducible first |refine Ev.EO ?_ |refine Ev.IR ?_);(try k_go)))))
namespace Lw
open PySem Ev
variable {p:Nat} {S:Sto} {k:Nat} {Q:D->Sto->Prop}
def Fa(h:TD p S t d)(q:Q (.bl (Dw.isW t)) S):Ok (evC ae (k+1) 0 [d] S) Q:=by
 calc az (d:=ji) (ρ:=[aw d]) rfl rfl ?_;dsimp![ji,oz];k_is;calc aa (iO h) ?_;k_is;cases t <;> first |exact q |(k_is;rw[iO h,aC];exact q)
def kU{a b:Int}(h:TD p S t d)(q:Q (.bl (Dw.bX t a b)) S):Ok (evC ae (k+2) 1 [d,.int a,.int b] S) Q:=by
 calc az (d:=gU) (ρ:=[aw d,aw (.int a),aw (.int b)]) rfl rfl ?_;dsimp![gU,lh];k_is;calc{rfl,Fa h ?_};k_is;cases t with
 |int i=>
  obtain rfl:=h.int;dsimp![Dw.isW];k_is;dsimp![Dw.bX]at q;cases c:decide (a<=i) with
  |true=>rw[c]at q;exact q
  |false=>rw[c]at q;exact q
 |_=>exact q
def AZ(h:TD p S t d)(q:Q (.bl (Dw.bX t 0 9999)) S):Ok (evC ae (k+3) 2 [d] S) Q:=by
 calc az (d:=gW) (ρ:=[aw d]) rfl rfl ?_;dsimp![gW,lj];k_is;exact{rfl,kU h q}
def oU{a b:Int}(h:TD p S t d)(q:Q (.bl (Dw.isT t a b)) S):Ok (evC ae (k+1) 3 [d,.int a,.int b] S) Q:=by
 calc az (d:=jj) (ρ:=[aw d,aw (.int a),aw (.int b)]) rfl rfl ?_;dsimp![jj,oB];k_is;calc aa (iO h) ?_;k_is;cases t with
 |tup T=>
  let{f,rfl,hs}:=h.tup;rw[show gM Ty.tuple (tyT (Dw.D.tup T))=aN from rfl];k_is;calc aa (Oq hs) ?_;k_is;dsimp![Dw.isT]at q;cases c:decide (a<=(T.length:Int)) with
  |true=>rw[c]at q;exact q
  |false=>rw[c]at q;exact q
 |_=>exact q
def aE{f:Int}(h:Pot p S)(c:0 < f)(h1:f < 1298074214633706907132624082305024)(q:∀ (r:Int) g,0<=r->r < f->Dr p S g->Q (.int r) g):Ok (evC ae (k+1) 45 [.ref p,.int f] S) Q:=by
 let{n,e}:=h;let lt:p < S.length:=(Zb.mp e).1;calc az (d:=jr) (ρ:=[aw (.ref p),aw (.int f),aD]) rfl rfl ?_;dsimp![jr,oH];k_is;let ix:ixS (.ref p) (.int 0) S=aw (.int n,S):=by simp![ixS,aq,aU,e];rfl
 calc aa ix ?_;k_is;calc{c,?_};k_is;calc aa ix ?_;k_is;calc{⟨c,h1⟩,?_};k_is;calc{S.set p (.lst [.int (n / f)]),by simp![kG,e];rfl,?_};exact q _ _ (Wk _ (by omega)) (XZ _ c) {Ow,_,eD lt}
def J1{c:Nat}{ns:List Int}(h:S[0]?=aw (.frz (ns.map D.int)))(q:∀i:Int,Q (.int i) S):Ok (evC ae (k+1) 43 [.ref 0,.int c] S) Q:=by
 calc az (d:=fg) (ρ:=[aw (.ref 0),aw (.int c)]) rfl rfl ?_;dsimp![fg,i6];k_is;let ln:au dS (.ref 0) S=aw (.int ns.length,S):=by simp![au,aq,aU,h,ZE,dS,Za]
 calc aa ln ?_;k_is;refine dH (λg=>?_) λg=>?_
 .k_is;let j:=ω g;let{d,l,E}:=Oy (ds:=ns.map D.int) (i:=c) (by omega) (by rw[Za];omega);let ix:ixS (.ref 0) (.int c) S=aw (d,S):=by simp![ixS,aq,aU,h,ZE,l]
  calc aa ix ?_;rw[Zo]at E;cases f:ns[(c:Int).toNat]? with
  |none=>rw[f]at E;cases E
  |some i=>rw[f]at E;cases E;exact q i
 .k_is;exact q 0
def QK{c:Int}(q:∀n:Int,Q (.ref S.length) (S++[.lst [.int n]])):Ok (evC ae (k+1) 44 [.int c] S) Q:=by
 calc az (d:=kQ) (ρ:=[aw (.int c),aD,aD,aD]) rfl rfl ?_;dsimp![kQ,qD];k_is;calc{{by decide,by decide,by decide},?_};k_is;refine dH (λ_=>?_) λ_=>?_
 .k_is;calc{{by decide,by decide,by decide},?_};k_is;exact q _
 .k_is;calc{by decide,?_};refine kg (by decide) (λi f h=>h=S/\∃n:Int,∃u v,f=[aw (.int c),aw (.int n),u,v]) (λi f h o ⟨E,n,u,v,g⟩=>?_) (λf h ⟨E,n,u,v,g⟩=>?_) ⟨rfl,0,aD,aD,rfl⟩
  .subst E g;calc{_,rfl,?_};k_is;calc{by decide,?_};k_is;calc{su (by decide) (by decide),?_};k_is;calc{y7 (by decide) (by decide),by decide,?_};k_is;let l:=Wk ((c % 2147483629+7919 * (0+(i:Int))+1) * 48271) (show(2147483647:Int)≠0 by decide);let j:=XZ ((c % 2147483629+7919 * (0+(i:Int))+1) * 48271) (show(0:Int) < 2147483647 by decide);calc{su (by omega) (by omega),?_};k_is;calc{su (by decide) (by decide),?_};k_is;calc{by decide,?_};k_is;calc{y7 (by decide) (by decide),?_};k_is;exact⟨rfl,_,_,_,rfl⟩
  .subst E g;k_is;exact q n
end Lw
namespace Sn
open Ev
structure Sky where
 r:Int
 s:Int
 M:List (List Int)
 H:List (Int×Int)
 ah:Option (Int×Int)
 G:List (List Int)
 F:List Int
abbrev gi(G:List (List Int))(i:Int)(k:Nat):Int:=((G[i.toNat]?).getD []).getD k 0
abbrev fns:List (Int×Int)->Int->Int
 |[],m=>m
 |p::l,m=>if p.1<=m/\m < p.2 then p.2 else fns l m
abbrev opm:List (Int×Int)->Int->Int
 |[],m=>m
 |p::l,m=>opm l (if p.1<=m/\m < p.2 then p.2 else m)
abbrev Ris:Int->List (Int×Int)->Prop
 |_,[]=>True
 |lo,p::l=>lo < p.1/\p.1 < p.2/\Ris p.2 l
def zf:∀ {l:List (Int×Int)} {lo m:Int},Ris lo l->m<=lo->opm l m=m
 |[],_,_,_,_=>rfl
 |p::l,lo,m,h,hm=>by
  rw[Ris]at h;rw[opm,if_neg (by lia)];exact zf h.2.2 (by lia)
def zh:∀ {l:List (Int×Int)} {lo m:Int},Ris lo l->opm l m=fns l m
 |[],_,_,_=>rfl
 |p::l,lo,m,h=>by
  rw[Ris]at h;rw[opm,fns];split
  .exact zf h.2.2 (Z4 _)
  .exact zh h.2.2
section
variable (K:Sky)
abbrev jn(g:Int):Int:=gi K.G g 1
abbrev gp(a b:Int):Int:=Dw.mg2 K.M a.toNat b.toNat
abbrev A6(ah:Option (Int×Int))(k:Int):Int:=match ah with
 |none=>0
 |some p=>p.2+gp K p.1 k
abbrev cB(ah:Option (Int×Int))(g:Int):Int:=match ah with
 |none=>gi K.G g 2
 |some p=>if p.2+gp K p.1 (gi K.G g 0) > gi K.G g 2 then p.2+gp K p.1 (gi K.G g 0) else gi K.G g 2
abbrev js:List Int:=cp (K.G.map λg=>g.getD 1 0)
abbrev xq(p:Nat)(m:Int):Bool:=match (js K)[(K.r+p).toNat]? with
 |some j=>decide (j < m - K.s)
 |none=>aS
abbrev step(ah:Option (Int×Int))(g:Int)(p:Nat):Option Int:=if (decide (gi K.G g 3 < opm K.H (cB K ah g)) || xq K p (opm K.H (cB K ah g)))=aN then aD else aw (opm K.H (cB K ah g))
abbrev aO(t:Int)(p:Int×Int):Bool:=decide (jn K p.1<=t) && decide (t < p.2 - K.s)
abbrev wts(L:List (Int×Int))(t:Int):Nat:=(L.filter (aO K t)).length
abbrev ij(L:List (Int×Int))(g m:Int):List Int:=((jn K g::L.map λp=>jn K p.1).filter λt=>decide (jn K g<=t) && decide (t < m - K.s))
abbrev uO(L:List (Int×Int))(g m:Int):Int:=wg 0 ((ij K L g m).map λt=>1+(wts K L t:Int))
abbrev jB(L:List (Int×Int))(g m:Int):List Int:=jn K g::(js K).filter λt=>decide (jn K g < t) && aO K t (g,m)
abbrev uQ(L:List (Int×Int))(g m:Int):Int:=je ((jB K L g m).map λt=>1+(wts K L t:Int))
abbrev uR(L:List (Int×Int))(g m:Int):Bool:=decide (0 < gi K.G g 6) && (aO K (jn K g) (g,m) && decide (gi K.G g 6 < uQ K L g m))
abbrev qG(L:List (Int×Int))(g m:Int):Bool:=decide (0 < gi K.G g 6) && decide (gi K.G g 6 < uO K L g m)
abbrev rn:List Int->Option (Int×Int)->List (Int×Int)->Nat ⊕ List (Int×Int)
 |[],_,L=>.inr L
 |g::os,ah,L=>match step K ah g L.length with
  |none=>.inl L.length
  |some m=>if qG K L g m=aN then .inl L.length else rn os (aw (gi K.G g 0,m)) (L++[(g,m)])
end
variable {K:Sky}
def J2(h:ns≠[]):je ns∈ns:=by
 cases ns with
 |nil=>exact absurd rfl h
 |cons n ns=>exact(jR ns n).1
def QL{x:Int}(h:x∈ns):x<=je ns:=by
 cases ns with
 |nil=>simp at h
 |cons n ns=>exact(jR ns n).2 x h
def Fb(d:A≠[])(h:∀x∈A,∃y∈B,x<=y):je A<=je B:=by
 let{y,f,c}:=h _ (J2 d);exact Int.le_trans c (QL f)
def Fc{c:Int}(h:ns≠[]):wg c ns=je ns:=by
 cases ns with
 |nil=>exact absurd rfl h
 |cons n ns=>rfl
def zi{d:Type}{p q:d->Bool}:∀ {l:List d},(∀x∈l,p x=aN->q x=aN)->(l.filter p).length<=(l.filter q).length
 |[],_=>Zg _
 |a::l,h=>by
  let I:=zi (l:=l) λx g=>h x (Zf _ g);let f:=h a Zh;rw[YR,YR];split
  .rename_i c;rw[if_pos (f c),Zr,Zr]
   lia
  .split
   .rw[Zr];lia
   .exact I
def Fd{j t:Int}(d:j<=t):∀ (L:List (Int×Int)),∃u,(u=j\/∃p∈L,u=jn K p.1)/\j<=u/\u<=t/\∀p∈L,aO K t p=aN->jn K p.1<=u
 |[]=>{j,.inl rfl,Z4 _,d,λp g=>by simp at g}
 |p::L=>by
  let{u,h1,h2,k,h4}:=Fd d L;by_cases f:aO K t p=aN/\u < jn K p.1
  .refine{jn K p.1,.inr ⟨p,Zh,rfl⟩,by lia,?_,λq hq h=>?_}
   .let:=f.1;simp![aO,bAE,decide_eq_true_eq]at this;exact this.1
   .rcases Zn.mp hq with rfl |hq
    .exact Z4 _
    .let:=h4 q hq h;lia
  .refine{u,?_,h2,k,λq hq h=>?_}
   .rcases h1 with h1 |⟨q,hq,h1⟩
    .exact .inl h1
    .exact .inr {q,Zf _ hq,h1}
   .rcases Zn.mp hq with rfl |hq
    .by_cases c:u < jn K q.1
     .exact absurd ⟨h,c⟩ f
     .lia
    .exact h4 q hq h
def J3{L:List (Int×Int)}{g m:Int}(h:jn K g < m - K.s)(n:∀p∈L,jn K p.1∈js K):uQ K L g m=uO K L g m:=by
 let k:jn K g∈ij K L g m:=by
  delta ij;rw[Z2];exact{Zh,by simp[h]}
 let l:(ij K L g m).map (λt=>1+(wts K L t:Int))≠[]:=λz=>by
  rw[List.map_eq_nil_iff]at z;rw[z]at k;simp at k
 delta uO uQ;rw[Fc l];refine Int.le_antisymm (Fb (by simp[jB]) λx d=>?_) (Fb l λx d=>?_)
 .let{t,ht,rfl}:=ZJ.mp d
  let f:jn K g<=t/\t < m - K.s:=by
   rcases Zn.mp ht with rfl |ht
   .exact{Z4 _,h}
   .let:=(Z2.mp ht).2;simp![aO,bAE,decide_eq_true_eq]at this;exact⟨this.2.1,this.2.2⟩
  let{u,h1,h2,o,h4}:=Fd (K:=K) f.1 L;refine{1+(wts K L u:Int),ZJ.mpr {u,?_,rfl},?_}
  .delta ij;calc Z2.mpr {?_,by simp![bAE,decide_eq_true_eq];lia};rcases h1 with rfl |⟨p,c,rfl⟩
   .exact Zh
   .exact Zf _ (ZJ.mpr ⟨p,c,rfl⟩)
  .let:wts K L t<=wts K L u:=zi λp c j=>by
    let a:=h4 p c j;simp![aO,bAE,decide_eq_true_eq]at j ⊢
    lia
   lia
 .let{t,ht,rfl}:=ZJ.mp d;calc{1+(wts K L t:Int),ZJ.mpr {t,?_,rfl},Z4 _};delta ij at ht;let{h1,h2}:=Z2.mp ht;simp![bAE,decide_eq_true_eq]at h2;delta jB;by_cases e:t=jn K g
  .rw[e];exact Zh
  .calc Zf _ (Z2.mpr {?_,by simp![aO,bAE,decide_eq_true_eq];lia});rcases Zn.mp h1 with rfl |h1
   .exact absurd rfl e
   .let{p,c,rfl}:=ZJ.mp h1;exact n p c
def A7{g m:Int}(h:¬ jn K g < m - K.s):uO K L g m=0:=by
 let:ij K L g m=[]:=by
  delta ij;rw[List.filter_eq_nil_iff];intro t _;simp![bAE,decide_eq_true_eq]
  lia
 delta uO;rw[this];rfl
def J4{g m:Int}(d:∀p∈L,jn K p.1∈js K):uR K L g m=qG K L g m:=by
 delta uR qG;by_cases h:jn K g < m - K.s
 .rw[J3 h d];let:aO K (jn K g) (g,m)=aN:=by simp![aO,bAE,decide_eq_true_eq];exact{Z4 _,h}
  rw[this,Xo]
 .rw[A7 h];let:aO K (jn K g) (g,m)=aS:=by simp[aO,h]
  rw[this,YM];by_cases c:0 < gi K.G g 6
  .let e:decide (gi K.G g 6 < 0)=aS:=by simp;lia
   rw[e]
  .rw[decide_eq_false c];rfl
def Fe{g:Int}(h:0<=gi K.G g 2):(if A6 K ah (gi K.G g 0) > gi K.G g 2 then A6 K ah (gi K.G g 0) else gi K.G g 2)=cB K ah g:=by
 cases ah with
 |none=>delta A6 cB;dsimp!;rw[if_neg (by lia)]
 |some p=>rfl
end Sn
namespace Lw
open PySem Ev Sn
variable {p:Nat} {S:Sto} {k:Nat} {Q:D->Sto->Prop}
def Ff{f:List D}{T:Tg}{b:XS}{c:Rho}{Q:Fl->Rho->Sto->Prop}(hl:f.length<=100000)(I:Nat->Rho->Sto->Prop)
  (step:∀ (i:Nat) d c j,f[i]?=aw d->I i c j->∃g,aB T d c=aw g/\OkS (b g j) λv h l=>match v with |.nx=>I (i+1) h l |.ct=>I (i+1) h l |.bk=>Q .nx h l |.rt d=>Q (.rt d) h l)
  (q:∀c j,I f.length c j->Q .nx c j) (u:I 0 c S):OkS (fO (nxL f) T b LF 0 c S) Q:=by
 refine kc f.length I (by delta LF;lia) (λi c j o n=>?_) (λc j n=>{?_,q c j n}) u
 .let{g,E,z}:=step i f[i] c j (gEG o) n;exact{f[i],g,by show aw f[i]?=_;rw[gEG o],E,z}
 .show aw f[f.length]?=_;rw[Zx (Zg _)]
def Fh{f:List D}{T:Tg}{b:XS}{c:Rho}{Q:Fl->Rho->Sto->Prop}(hl:f.length<=100000)(I:Nat->Rho->Sto->Prop)
  (step:∀ (i:Nat) d c j,f[i]?=aw d->I i c j->∃g,aB T (.tup [.int i,d]) c=aw g/\OkS (b g j) λv h l=>match v with |.nx=>I (i+1) h l |.ct=>I (i+1) h l |.bk=>Q .nx h l |.rt d=>Q (.rt d) h l)
  (q:∀c j,I f.length c j->Q .nx c j) (u:I 0 c S):OkS (fO (Hh f) T b LF 0 c S) Q:=by
 refine kc f.length I (by delta LF;lia) (λi c j o n=>?_) (λc j n=>{?_,q c j n}) u
 .let{g,E,z}:=step i f[i] c j (gEG o) n;calc{.tup [.int i,f[i]],g,?_,E,z};show enm f i=_;delta enm;rw[if_pos (by lia),gEG o];rfl
 .show enm f f.length=_;delta enm;rw[if_pos (Zg _),Zx (Zg _)];rfl
def bK{v:Type}{nx:Nxt}{T:Tg}{c:XA}{I:Rho}{Q:List D->Sto->Prop}(l:List v)(E:v->D)(f:v->List D)(hl:l.length<=1000)(X:∀a∈l,(f a).length<=1)
  (u:∀i d,Sm S d->nx i d=aw ((l[i]?).map E))
  (step:∀ (i:Nat) a d,l[i]?=aw a->Sm S d->∃g,aB T (E a) I=aw g/\Ok (c g d) λj B=>j=f a/\Sm d B) (q:∀d,Sm S d->Q (l.flatMap f) d) :
  Ok (bD nx T c I LF 0 S) λj S2=>j.length<=100000/\Q j S2:=by
 refine(fJ l.length (λi n d=>Sm S d/\n=(l.take i).flatMap f) (by delta LF;lia) (λi n d y ⟨sm,o⟩=>?_) (λn d ⟨sm,o⟩=>?_) {Sm.refl S,by simp}).mono λj d ⟨sm,o⟩=>?_
 .let{g,J,j,B,O,U,C}:=step i l[i] d (gEG y) sm;calc{E l[i],g,by rw[u i d sm,gEG y];rfl,J,j,B,O,sm.trans C,?_};rw[o,U,Z6 y,XH];simp
 .rw[u _ d sm,Zx (Zg _)];rfl
 .rw[Y8]at o;subst o;refine{?_,q d sm}
  let:∀m:List v,(∀a∈m,(f a).length<=1)->(m.flatMap f).length<=m.length:=λm=>by
   induction m with
   |nil=>intro _;simp
   |cons a m L=>
    intro h;rw[Y1,Ze,Zr];let:=h a Zh;let:=L λb hb=>h b (Zf _ hb)
    lia
  let:=this l X
  lia
def cg{d:Type}{l:List d}{E:d->D}:∀i c,Sm S c->nxL (l.map E) i c=aw ((l[i]?).map E):=λi c _=>by
 show aw (l.map E)[i]?=_;rw[Zo]
def ik{d:Type}{n:Nat}{l:List d}{E:d->D}(h:S[n]?=aw (.lst (l.map E))):∀i c,Sm S c->nxS n i c=aw ((l[i]?).map E):=λi c sm=>by
 show(aU c n).map (λf=>f[i]?)=_;rw[aM (sm _ _ h),ZE,Zo]
def bT{c:Type}(l:List c)(f:c->D):(l.flatMap λa=>[f a])=l.map f:=by
 induction l with
 |nil=>rfl
 |cons a l I=>rw[Y1,I];rfl
def bH{d:Type}(l:List d)(c:d->Bool)(f:d->D):(l.flatMap λa=>if c a=aN then [f a] else [])=(l.filter c).map f:=by
 induction l with
 |nil=>rfl
 |cons a l I=>
  rw[Y1,I,YR];split <;> rfl
abbrev aH(r:List Int):D:=.tup (r.map D.int)
abbrev ahE:Option (Int×Int)->D
 |none=>.non
 |some q=>.tup [.int q.1,.int q.2]
abbrev meE(K:Sky):D:=.tup [.int K.r,.int K.s,.tup (K.M.map aH),.tup (K.H.map aj)]
abbrev skE(K:Sky):D:=.tup [meE K,ahE K.ah,.tup (K.G.map aH),.tup (K.F.map D.int)]
structure Vd(K:Sky):Prop where
 r0:0<=K.r
 r8:K.r<=8
 s0:0<=K.s
 s60:K.s<=60
 m0:1<=K.M.length
 m4:K.M.length<=4
 row:∀r∈K.M,r.length=K.M.length
 ris:Ris (-1) K.H
 h4:K.H.length<=4
 ah0:∀q,K.ah=aw q->0<=q.1/\q.1 < K.M.length
 g7:K.G.length<=7
 gl:∀g∈K.G,g.length=7/\0<=g.getD 0 0/\g.getD 0 0 < K.M.length/\0<=g.getD 2 0
variable {K:Sky}
def sk0:ixS (skE K) (.int 0) S=aw (meE K,S):=rfl
def sk1:ixS (skE K) (.int 1) S=aw (ahE K.ah,S):=rfl
def sk2:ixS (skE K) (.int 2) S=aw (.tup (K.G.map aH),S):=rfl
def sk3:ixS (skE K) (.int 3) S=aw (.tup (K.F.map D.int),S):=rfl
def me0:ixS (meE K) (.int 0) S=aw (.int K.r,S):=rfl
def me1:ixS (meE K) (.int 1) S=aw (.int K.s,S):=rfl
def me2:ixS (meE K) (.int 2) S=aw (.tup (K.M.map aH),S):=rfl
def me3:ixS (meE K) (.int 3) S=aw (.tup (K.H.map aj),S):=rfl
def gl7(V:Vd K){g:Int}(q:0<=g)(h1:g < K.G.length):∃a b c d e f h,K.G[g.toNat]?=aw [a,b,c,d,e,f,h]/\gi K.G g 0=a/\gi K.G g 1=b/\gi K.G g 2=c/\gi K.G g 3=d/\gi K.G g 6=h/\0<=a/\a < K.M.length/\0<=c:=by
 let n:g.toNat < K.G.length:=by lia
 let{L,o,j,C}:=V.gl K.G[g.toNat] (ZS n)
 match l:K.G[g.toNat],L with
 |[a,b,c,d,e,f,h],_=>
  let eq:K.G[g.toNat]?=aw [a,b,c,d,e,f,h]:=by rw[gEG n,l]
  rw[l]at o j C;calc{a,b,c,d,e,f,h,eq,?_,?_,?_,?_,?_,o,j,C} <;> (delta gi;rw[eq];rfl)
def oV{i:Int}(f:0<=i)(h:c[i.toNat]?=aw d):ixS (.tup c) (.int i) S=aw (d,S):=by
 obtain⟨n,rfl⟩:∃n:Nat,i=(n:Int):={i.toNat,by lia};exact BU h
def eF{g:Int}(c:0<=g)(h:K.G[g.toNat]?=aw r):ixS (.tup (K.G.map aH)) (.int g) S=aw (aH r,S):=oV c (by rw[Zo,h];rfl)
def oW(V:Vd K){a b:Int}(d:0<=a)(f:a < K.M.length)(B:0<=b)(j:b < K.M.length):∃r,ixS (.tup (K.M.map aH)) (.int a) S=aw (aH r,S)/\ixS (aH r) (.int b) S=aw (.int (gp K a b),S):=by
 let h:a.toNat < K.M.length:=by lia
 let g:=V.row K.M[a.toNat] (ZS h);let c:b.toNat < K.M[a.toNat].length:=by lia
 calc{K.M[a.toNat],oV d (by rw[Zo,gEG h];rfl),oV B ?_};rw[Zo,gEG c];let:gp K a b=K.M[a.toNat][b.toNat]:=by delta gp Dw.mg2;rw[gEG h,Yd,gEG c];rfl
 rw[this];rfl
end Lw
namespace Lw
open PySem Ev Sn
variable {p:Nat} {S:Sto} {k:Nat} {Q:D->Sto->Prop} {K:Sky}
def uS{t u:Bool}{A B:Prop}(h:t=aN->u=aN->A)(hb:(t && u)=aS->B):wIf t (wIf u A B) B:=by
 cases t with
 |false=>exact hb rfl
 |true=>cases u with
  |true=>exact h rfl rfl
  |false=>exact hb rfl
def my{c:Type}{l:List c}{i:Nat}{a:c}(h:l[i]?=aw a):l.drop i=a::l.drop (i+1):=by
 let{d,e}:=Zb.mp h;rw[YT d,e]
def oX{c:Type}{l:List c}{E:c->D}{i:Nat}{d:D}(h:(l.map E)[i]?=aw d):∃a,l[i]?=aw a/\d=E a:=by
 rw[Zo]at h;cases e:l[i]? with
 |none=>rw[e]at h;cases h
 |some a=>rw[e]at h;cases h;exact⟨a,rfl,rfl⟩
def QM{m:Int}(hl:K.H.length<=4)(q:Q (.int (fns K.H m)) S):Ok (evC ae (k+1) 14 [meE K,.int m] S) Q:=by
 calc az (d:=cN) (ρ:=[aw (meE K),aw (.int m),aD,aD]) rfl rfl ?_;dsimp![cN,fG];k_is;calc aa me3 ?_;k_is;refine Ff (by rw[Za];lia) (λi c j=>j=S/\fns K.H m=fns (K.H.drop i) m/\∃u v,c=[aw (meE K),aw (.int m),u,v]) (λi d c j hd ⟨f,E,u,v,g⟩=>?_) (λc j ⟨f,E,u,v,g⟩=>?_) ⟨rfl,rfl,aD,aD,rfl⟩
 .subst f g;let{l,n,rfl}:=oX hd;calc{_,show aB (.tup [.n 2,.n 3]) (.tup [.int l.1,.int l.2]) _=_ from fj (by simp) (by simp),?_};k_is;rw[my n,fns]at E;refine uS (λh1 h2=>?_) λh=>?_
  .k_is;rw[if_pos {ω h1,ω h2}]at E;rw[E]at q;exact q
  .k_is;rw[if_neg (λz=>by rw[decide_eq_true z.1,decide_eq_true z.2]at h;cases h)]at E;exact⟨rfl,E,_,_,rfl⟩
 .subst f g;k_is;rw[Za,YS,fns]at E;rw[E]at q;exact q
abbrev bj(K:Sky)(L:List (Int×Int)):Option (Int×Int):=match L.getLast? with
 |none=>K.ah
 |some p=>aw (gi K.G p.1 0,p.2)
abbrev InG(K:Sky)(L:List (Int×Int)):Prop:=∀p∈L,0<=p.1/\p.1 < K.G.length
def uT(V:Vd K){n:Nat}(g:S[n]?=aw (.lst (L.map aj)))(l:InG K L)(q:Q (ahE (bj K L)) S):Ok (evC ae (k+1) 23 [skE K,.ref n] S) Q:=by
 calc az (d:=dh) (ρ:=[aw (skE K),aw (.ref n),aD,aD]) rfl rfl ?_;dsimp![dh,gr];k_is;let tr:nF (.ref n) S=aw (!(L.map aj).isEmpty,S):=by simp![nF,aM g]
 calc aa tr ?_;k_is;rcases Xx L with rfl |⟨L',z,rfl⟩
 .k_is;exact aa sk1 q
 .rw[Xy]at g l q ⊢;rw[show(!!((L'++[z]).map aj).isEmpty)=aS by simp];k_is;let j:=l z (by simp);calc aa (mw (ds:=L'.map aj) (e:=aj z) (by rw[g,ZD];rfl)) ?_;rw[show aj z = .tup [.int z.1,.int z.2] from rfl];k_is;calc aa sk2 ?_;let{a,b,c,d,e,f,h,E,o,_}:=gl7 V j.1 j.2;calc aa (eF j.1 E) (aa (show ixS (aH [a,b,c,d,e,f,h]) (.int 0) S=aw (.int a,S) from rfl) ?_);k_is
  let:bj K (L'++[z])=aw (a,z.2):=by
   delta bj;rw[XD];simp[o]
  rw[this]at q;exact q
def J5(V:Vd K){a:Option (Int×Int)}{c:Int}(j:∀q,a=aw q->0<=q.1/\q.1 < K.M.length)(f:0<=c)(g:c < K.M.length)(q:Q (.int (A6 K a c)) S):Ok (evC ae (k+1) 24 [skE K,ahE a,.int c] S) Q:=by
 calc az (d:=kP) (ρ:=[aw (skE K),aw (ahE a),aw (.int c)]) rfl rfl ?_;dsimp![kP,qC];k_is;cases a with
 |none=>exact aa (show am .is (ahE aD) .non S=aw (.bl aN,S) from rfl) (by k_is;exact q)
 |some z=>
  calc aa (show am .is (ahE (aw z)) .non S=aw (.bl aS,S) from rfl) ?_;k_is;let{h,h1}:=j z rfl;calc aa (show ixS (ahE (aw z)) (.int 1) S=aw (.int z.2,S) from rfl) ?_;calc aa sk0 (aa me2 (aa (show ixS (ahE (aw z)) (.int 0) S=aw (.int z.1,S) from rfl) ?_));let{r,l,n}:=oW (S:=S) V h h1 f g;calc aa l (aa n ?_);k_is;exact q
def oY(V:Vd K){z:Int×Int}{t:Int}(g:0<=z.1)(h1:z.1 < K.G.length)(q:Q (.bl (aO K t z)) S):Ok (evC ae (k+1) 25 [skE K,aj z,.int t] S) Q:=by
 calc az (d:=jm) (ρ:=[aw (skE K),aw (aj z),aw (.int t),aD,aD]) rfl rfl ?_;dsimp![jm,oG];rw[show aj z = .tup [.int z.1,.int z.2] from rfl];k_is;calc aa sk2 ?_;let{a,b,c,d,e,f,h,E,_,j,_}:=gl7 V g h1;calc aa (eF g E) (aa (show ixS (aH [a,b,c,d,e,f,h]) (.int 1) S=aw (.int b,S) from rfl) ?_);k_is;let l:aO K t z=(decide (b<=t) && decide (t < z.2 - K.s)):=by delta aO jn;rw[j]
 rw[l]at q;cases C:decide (b<=t) with
 |false=>rw[C]at q;k_is;exact q
 |true=>
  rw[C]at q;k_is;calc aa sk0 (aa me1 ?_);k_is;exact q
def QN(V:Vd K){L:List (Int×Int)}{n:Nat}{t:Int}(h:S[n]?=aw (.lst (L.map aj)))(f:InG K L)(hl:L.length<=1000)(q:∀c,Sm S c->Q (.int (wts K L t)) c):Ok (evC ae (k+2) 26 [skE K,.ref n,.int t] S) Q:=by
 calc az (d:=dj) (ρ:=[aw (skE K),aw (.ref n),aw (.int t)]) rfl rfl ?_;dsimp![dj,gu];k_is;calc{by rw[aM h];rfl,?_};refine bK L aj (λz=>if aO K t z=aN then [aj z] else []) hl (λz _=>by split <;> simp) (ik h) (λi z c g sm=>{_,rfl,?_}) λc sm=>?_
 .let:=f z (Zj g);k_is;calc{rfl,oY V this.1 this.2 ?_};k_is;cases aO K t z with
  |true=>k_is;exact{rfl,Sm.refl _}
  |false=>k_is;exact{rfl,Sm.refl _}
 .rw[bH];calc aa (show dS aS ((L.filter (aO K t)).map aj) c=aw (.int (wts K L t),c) by delta dS wts;rw[Za]) ?_;k_is;exact q c sm
def eS:∀ (xs:List Int),dU (xs.map D.int)=aw xs
 |[]=>rfl
 |x::xs=>by simp![Zw,dU,eS xs]
def uU(h:xs.length < 64):cU aS (xs.map D.int)=aw ((cp xs).map D.int):=by
 delta cU CU;rw[if_pos rfl,eS];dsimp!;rw[if_pos h]
def QO:(js K).length=K.G.length:=by delta js;rw[(bP _).length_eq,Za]
def uV(V:Vd K)(q:∀S',Sm S S'->S'[Zi S' - 1]?=aw (.lst ((js K).map D.int))->Zi S<=Zi S' - 1->Q (.ref (Zi S' - 1)) S'):Ok (evC ae (k+1) 27 [skE K] S) Q:=by
 calc az (d:=cy) (ρ:=[aw (skE K)]) rfl rfl ?_;dsimp![cy,eP];k_is;calc aa sk2 ?_;k_is;refine bK K.G aH (λg=>[.int (g.getD 1 0)]) (by let:=V.g7;lia) (λ_ _=>Zg _) cg (λi g S' n sm=>{_,rfl,?_}) λS' sm=>?_
 .let{L,_}:=V.gl g (Zj n)
  match g,L with
  |[a,b,c,d,e,f,h],_=>
   k_is;exact aa (show ixS (aH [a,b,c,d,e,f,h]) (.int 1) S'=aw (.int b,S') from rfl) {rfl,Sm.refl _}
 .rw[bT];refine{_,show cU aS (K.G.map λg=>D.int (g.getD 1 0))=aw ((js K).map D.int) from ?_,?_}
  .let:=uU (xs:=K.G.map λg=>g.getD 1 0) (by rw[Za];let:=V.g7;lia);rw[Z1]at this;exact this
  .let e:Zi (S'++[Ob.lst ((js K).map D.int)]) - 1=Zi S':=by simp
   let sl:Zi S<=Zi S':=by
    cases l:decide (Zi S<=Zi S') with
    |true=>exact ω l
    |false=>
     exfalso;let j:Zi S' < Zi S:=by let:=of_decide_eq_false l;lia
     let:=sm (Zi S') S[Zi S'] (gEG j);rw[Zx (Zg _)]at this;cases this
   let:=q (S'++[Ob.lst ((js K).map D.int)]) (sm.trans (Sm.app _ _)) (by rw[e];exact ay) (by rw[e];exact sl);rw[e]at this;exact this
def gg{n:Nat}{i:Int}(c:S[n]?=aw (.lst f))(g:0<=i)(h:f[i.toNat]?=aw d):ixS (.ref n) (.int i) S=aw (d,S):=by
 obtain⟨j,rfl⟩:∃j:Nat,i=(j:Int):={i.toNat,by lia};rw[ZF]at h;simp![ixS,aq,aM c,ZE,Ev.ya h]
def zj{n:Nat}{j:Nat}(c:S[n]?=aw (.lst d)):slS aD (aw (j:Int)) (.ref n) S=aw (.ref (Zi S),S++[.lst (d.take j)]):=by
 let:gw d aD (aw (j:Int))=d.take j:=by
  by_cases h:j<=d.length
  .exact Ey d j h
  .delta gw;rw[Dw.Cn _ _ (by lia),ZF,X8 (by lia)];show(d.drop 0).take (d.length - 0)=d.take j;rw[List.drop_zero,Ym (by lia),Ym (by lia)]
 simp![slS,aM c,this]
def mz{a b:Nat}(h:S[a]?=aw (.lst xs))(hb:S[b]?=aw (.lst y))(hl:xs.length+y.length<=100000):bU .add (.ref a) (.ref b) S=aw (.ref (Zi S),S++[.lst (xs++y)]):=by
 simp![bU,lV,MV,h,hb];rw[if_pos hl]
def gh{n:Nat}(h:S[n]?=aw (.lst d)):au dS (.ref n) S=aw (.int d.length,S):=by simp![au,aq,aM h,ZE,dS]
def Fi(h:xs≠[]):pw aS (xs.map D.int) S=aw (.int (je xs),S):=by
 cases xs with
 |nil=>exact absurd rfl h
 |cons x xs=>delta pw;rw[eS]
def J6(V:Vd K){n j:Nat}(B:S[n]?=aw (.lst (L.map aj)))(I:L[j]?=aw z)(T:InG K L)(hl:L.length<=100)(q:∀g,Sm S g->Q (.int (uQ K (L.take j) z.1 z.2)) g):Ok (evC ae (k+3) 29 [skE K,.ref n,.int j,.int (jn K z.1)] S) Q:=by
 calc az (d:=fc) (ρ:=[aw (skE K),aw (.ref n),aw (.int j),aw (.int (jn K z.1)),aD,aD]) rfl rfl ?_;dsimp![fc,iY];let h:=T z (Zj I);k_is;calc aa (zj B) ?_;k_is;let X:Sm S (S++[Ob.lst ((L.map aj).take j)]):=Sm.app _ _;let a1:(S++[Ob.lst ((L.map aj).take j)])[Zi S]?=aw (Ob.lst ((L.take j).map aj)):=by rw[ay,Xp]
 generalize Zi S=N1 at *;generalize S++[Ob.lst ((L.map aj).take j)]=S1 at *;calc{rfl,uV V λS2 u U _=>?_};k_is;calc{by rw[aM U];rfl,?_};let l:(js K).length<=7:=by rw[QO];exact V.g7
 refine bK (js K) D.int (λt=>if (decide (jn K z.1 < t) && aO K t z)=aN then [D.int t] else []) (by lia) (λ_ _=>by split <;> simp) (ik U) (λi t g ht sm=>{_,rfl,?_}) λf C=>?_
 .k_is;cases c:decide (jn K z.1 < t) with
  |false=>k_is;exact{rfl,Sm.refl _}
  |true=>
   k_is;let o:=sm _ _ (u _ _ (X _ _ B));calc aa (gg o (by lia) (show(L.map aj)[((j:Nat):Int).toNat]?=aw (aj z) by rw[ZF,Zo,I];rfl)) ?_;calc{rfl,oY V h.1 h.2 ?_};k_is;cases aO K t z with
   |true=>k_is;exact{rfl,Sm.refl _}
   |false=>k_is;exact{rfl,Sm.refl _}
 .rw[bH];k_is;let Z:Zi f < Zi (f++[Ob.lst (((js K).filter λt=>decide (jn K z.1 < t) && aO K t z).map D.int)]):=by simp
  let a3:(f++[Ob.lst (((js K).filter λt=>decide (jn K z.1 < t) && aO K t z).map D.int)])[Zi f]?=aw (Ob.lst (((js K).filter λt=>decide (jn K z.1 < t) && aO K t z).map D.int)):=ay;let y:Sm f (f++[Ob.lst (((js K).filter λt=>decide (jn K z.1 < t) && aO K t z).map D.int)]):=Sm.app _ _;let lf:((js K).filter λt=>decide (jn K z.1 < t) && aO K t z).length<=7:=Zz (Y6 _ _) l;generalize Zi f=N3 at *;generalize f++[Ob.lst (((js K).filter λt=>decide (jn K z.1 < t) && aO K t z).map D.int)]=S4 at *;let v:Sm S4 (S4++[Ob.lst [D.int (jn K z.1)]]):=Sm.app _ _;calc aa (mz (xs:=[D.int (jn K z.1)]) ay (v _ _ a3) (by rw[Za,Zl];lia)) ?_;k_is;let J:Sm (S4++[Ob.lst [D.int (jn K z.1)]]) (S4++[Ob.lst [D.int (jn K z.1)]]++[Ob.lst ([D.int (jn K z.1)]++((js K).filter λt=>decide (jn K z.1 < t) && aO K t z).map D.int)]):=Sm.app _ _;let O:(S4++[Ob.lst [D.int (jn K z.1)]]++[Ob.lst ([D.int (jn K z.1)]++((js K).filter λt=>decide (jn K z.1 < t) && aO K t z).map D.int)])[Zi (S4++[Ob.lst [D.int (jn K z.1)]])]?=aw (Ob.lst ((jB K (L.take j) z.1 z.2).map D.int)):=ay;calc{by rw[aM O];rfl,?_};let sA:=((((X.trans u).trans C).trans y).trans v).trans J;let aL:=(((((u.trans C).trans y).trans v).trans J)) _ _ a1;refine bK (jB K (L.take j) z.1 z.2) D.int (λt=>[D.int (1+(wts K (L.take j) t:Int))]) (by show((js K).filter λt=>decide (jn K z.1 < t) && aO K t z).length+1<=1000;lia) (λ_ _=>Zg _) (ik O) (λi t g ht sm=>{_,rfl,?_}) λY s7=>?_
  .k_is;calc{rfl,QN V (sm _ _ aL) (λw hw=>T w (XF hw)) (by rw[ZT];lia) λS8 s8=>?_};k_is;exact⟨rfl,s8⟩
  .rw[bT];let E:=Fi (S:=Y) (xs:=(jB K (L.take j) z.1 z.2).map λt=>1+(wts K (L.take j) t:Int)) (by delta jB;simp);rw[Z1]at E;exact aa E (by k_is;exact q Y (sA.trans s7))
def J7(V:Vd K){n j:Nat}(u:S[n]?=aw (.lst (L.map aj)))(o:L[j]?=aw z)(I:InG K L)(hl:L.length<=100)(q:∀l,Sm S l->Q (.bl (uR K (L.take j) z.1 z.2)) l):Ok (evC ae (k+4) 28 [skE K,.ref n,.int j] S) Q:=by
 calc az (d:=fb) (ρ:=[aw (skE K),aw (.ref n),aw (.int j),aD,aD,aD,aD,aD,aD,aD]) rfl rfl ?_;dsimp![fb,iX];let g:=I z (Zj o);let{a,b,c,d,e,f,h,U,e0,J,Z,e3,T,_}:=gl7 V g.1 g.2;let v:=gg u (show(0:Int)<=(j:Int) by lia) (show(L.map aj)[((j:Nat):Int).toNat]?=aw (aj z) by rw[ZF,Zo,o];rfl);k_is;calc aa sk2 (aa v (aa (show ixS (aj z) (.int 0) S=aw (.int z.1,S) from rfl) (aa (eF g.1 U) ?_)));rw[show aH [a,b,c,d,e,f,h] = .tup [.int a,.int b,.int c,.int d,.int e,.int f,.int h] from rfl];k_is;let E:jn K z.1=b:=J;let O:uR K (L.take j) z.1 z.2=(decide (0 < h) && (aO K b z && decide (h < uQ K (L.take j) z.1 z.2))):=by delta uR;rw[T,E]
 rw[O]at q;cases C:decide (0 < h) with
 |false=>rw[C]at q;k_is;exact q S (Sm.refl S)
 |true=>
  rw[C]at q;k_is;calc aa v ?_;calc{rfl,oY V g.1 g.2 ?_};k_is;cases B:aO K b z with
  |false=>rw[B]at q;k_is;exact q S (Sm.refl S)
  |true=>
   rw[B]at q;k_is
   let rg:=J6 (k:=k) (Q:=λy Y=>wCx .gt y (.int h) Y λd X=>Q d X) V u o I hl λl sm=>by
    k_is;exact q l sm
   rw[E]at rg;exact⟨rfl,rg⟩
def J8(V:Vd K){j:Nat}{m:Int}(q:∀o,Sm S o->Q (.bl (xq K j m)) o):Ok (evC ae (k+2) 33 [skE K,.int j,.int m] S) Q:=by
 calc az (d:=cz) (ρ:=[aw (skE K),aw (.int j),aw (.int m),aD,aD,aD,aD,aD,aD]) rfl rfl ?_;dsimp![cz,eR];k_is;calc aa sk0 ?_;rw[show meE K = .tup [.int K.r,.int K.s,.tup (K.M.map aH),.tup (K.H.map aj)] from rfl];k_is;calc{rfl,uV V λg n l _=>?_};k_is;calc aa (gh l) ?_;k_is;rw[Za];let r0:=V.r0;let E:xq K j m=match (js K)[(K.r+j).toNat]? with |some t=>decide (t < m - K.s) |none=>aS:=rfl
 refine dH (λh=>?_) λh=>?_
 .let c:(K.r+j).toNat < (js K).length:=by let:=ω h;lia
  rw[gEG c]at E;k_is;calc aa (gg l (by lia) (show((js K).map D.int)[(K.r+(j:Int)).toNat]?=aw (.int (js K)[(K.r+(j:Int)).toNat]) by rw[Zo,gEG c];rfl)) ?_;k_is;let:=q g n;rw[E]at this;exact this
 .let f:(js K).length<=(K.r+j).toNat:=by let:=of_decide_eq_false h;lia
  rw[Zx f]at E;let:=q g n;rw[E]at this;exact this
abbrev kj:Option Int->D
 |none=>.non
 |some m=>.int m
def qH(V:Vd K){a:Option (Int×Int)}{g:Int}{j:Nat}(L:∀q,a=aw q->0<=q.1/\q.1 < K.M.length)(u:0<=g)(Z:g < K.G.length)(q:∀n,Sm S n->Q (kj (Sn.step K a g j)) n):Ok (evC ae (k+3) 32 [skE K,ahE a,.int g,.int j] S) Q:=by
 calc az (d:=cP) (ρ:=[aw (skE K),aw (ahE a),aw (.int g),aw (.int j),aD,aD,aD,aD,aD,aD,aD,aD]) rfl rfl ?_;dsimp![cP,fI];let{l,b,c,d,e,f,h,X,J,e1,E,T,e6,U,B,Y}:=gl7 V u Z;k_is;calc aa sk2 (aa (eF u X) ?_);rw[show aH [l,b,c,d,e,f,h] = .tup [.int l,.int b,.int c,.int d,.int e,.int f,.int h] from rfl];k_is;calc aa sk0 ?_;calc{rfl,J5 V L U B ?_};k_is;calc{rfl,QM V.h4 ?_};k_is
 let I:fns K.H (if A6 K a l > c then A6 K a l else c)=opm K.H (cB K a g):=by
  let:=Fe (K:=K) (ah:=a) (g:=g) (by rw[E];exact Y);rw[J,E]at this;rw[this,zh V.ris]
 rw[I];let O:Sn.step K a g j=if (decide (d < opm K.H (cB K a g)) || xq K j (opm K.H (cB K a g)))=aN then aD else aw (opm K.H (cB K a g)):=by delta Sn.step;rw[T]
 rw[O]at q;cases C:decide (d < opm K.H (cB K a g)) with
 |true=>rw[C]at q;k_is;exact q S (Sm.refl S)
 |false=>
  rw[C]at q;k_is;calc{rfl,J8 V λo y=>?_};k_is;cases v:xq K j (opm K.H (cB K a g)) with
  |true=>rw[v]at q;k_is;exact q o y
  |false=>rw[v]at q;k_is;exact q o y
def Sm.setNew{f:Nat}(h:Sm S c)(d:S.length<=f):Sm S (c.set f o):=λi u e=>by
 let g:=(Zb.mp e).1;rw[Zq (by lia)];exact h i u e
def QP{g:Int}(d:0<=g)(c:g < K.G.length):jn K g∈js K:=by
 let h:g.toNat < K.G.length:=by lia
 calc(bP _).mem_iff.mpr (ZJ.mpr {K.G[g.toNat],ZS h,?_});delta jn gi;rw[gEG h];rfl
def kl(V:Vd K)(n:InG K L):∀q,bj K L=aw q->0<=q.1/\q.1 < K.M.length:=λq e=>by
 delta bj at e;cases h:L.getLast? with
 |none=>rw[h]at e;exact V.ah0 q e
 |some z=>
  rw[h]at e;cases e;let g:=n z (List.mem_of_getLast? h);let{a,b,c,d,e,f,h,o,E,y,u,B,v,j,l,C}:=gl7 V g.1 g.2;show 0<=gi K.G z.1 0/\gi K.G z.1 0 < K.M.length;rw[E];exact⟨j,l⟩
def eG:bj K (L++[z])=aw (gi K.G z.1 0,z.2):=by
 delta bj;rw[XD];rfl
def Fj:∀ (os:List Int) (a:Option (Int×Int)) (L:List (Int×Int)) (j:Nat),rn K os a L = .inl j->j < L.length+os.length
 |[],_,_,_,h=>by cases h
 |g::os,a,L,j,h=>by
  rw[rn]at h;rw[Zr];split at h
  .cases h;lia
  .split at h
   .cases h;lia
   .let:=Fj os _ _ j h;rw[Ze,Zl]at this
    lia
def sG:∀ (os:List Int) (a:Option (Int×Int)) (L R:List (Int×Int)),rn K os a L = .inr R->R.length=L.length+os.length
 |[],_,_,_,h=>by cases h;rfl
 |g::os,a,L,R,h=>by
  rw[rn]at h;rw[Zr];split at h
  .cases h
  .split at h
   .cases h
   .let:=sG os _ _ R h;rw[Ze,Zl]at this
    lia
structure Ends(K:Sky)(os:List Int)(L:List (Int×Int)):Prop where
 stuck:∀j,rn K os K.ah [] = .inl j->L.length=j
 lands:∀R,rn K os K.ah [] = .inr R->L=R
def uW(V:Vd K){os:List Int}(ho:∀g∈os,0<=g/\g < K.G.length)(lo:os.length<=7)
  (q:∀n L B,Sm S B->B[n]?=aw (.lst (L.map aj))->Zi S<=n->Ends K os L->Q (.ref n) B):Ok (evC ae (k+5) 30 [skE K,.tup (os.map D.int)] S) Q:=by
 calc az (d:=cf) (ρ:=[aw (skE K),aw (.tup (os.map D.int)),aD,aD,aD,aD]) rfl rfl ?_;dsimp![cf,dZ];k_is;refine Fh (by rw[Za];lia) (λi Z B=>Sm S B/\∃L u v w,Z=[aw (skE K),aw (.tup (os.map D.int)),aw (.ref (Zi S)),u,v,w]/\B[Zi S]?=aw (.lst (L.map aj))/\L.length=i/\InG K L/\rn K os K.ah []=rn K (os.drop i) (bj K L) L) (λi d Z S1 hd ⟨Y,L,u,v,w,er,O,C,E,c⟩=>?_) (λZ S1 ⟨Y,L,u,v,w,er,O,C,E,c⟩=>?_) {Sm.app _ _,[],aD,aD,aD,rfl,ay,rfl,λ_ h=>(by simp at h),rfl}
 .subst er;let{g,hg,rfl}:=oX hd;let o:=ho g (Zj hg);let hil:i < os.length:=(Zb.mp hg).1;rw[my hg,rn,C]at c;calc{_,fj (by simp) (by simp),?_};k_is;calc{rfl,uT V O E ?_};calc{rfl,qH V (kl V E) o.1 o.2 λf X=>?_};k_is;cases J:Sn.step K (bj K L) g i with
  |none=>
   rw[J]at c;calc aa (show am .is (kj aD) .non f=aw (.bl aN,f) from rfl) ?_;k_is;exact q _ L f (Y.trans X) (X _ _ O) (Zg _) {λj e=>by rw[c]at e;cases e;exact C,λR e=>by rw[c]at e;cases e}
  |some m=>
   rw[J]at c;calc aa (show am .is (kj (aw m)) .non f=aw (.bl aS,f) from rfl) ?_;rw[show kj (aw m) = .int m from rfl];k_is;let y:=X _ _ O;calc{cA y,?_};rw[jA y (by rw[Za];lia)];k_is;let lt2:Zi S < f.length:=(Zb.mp y).1;let l:(f.set (Zi S) (Ob.lst (L.map aj++[D.tup [D.int g,D.int m]])))[Zi S]?=aw (.lst ((L++[(g,m)]).map aj)):=by rw[eD lt2,ZD];rfl
   let s3:Sm S (f.set (Zi S) (Ob.lst (L.map aj++[D.tup [D.int g,D.int m]]))):=Sm.setNew (Y.trans X) (Zg _);generalize f.set (Zi S) (Ob.lst (L.map aj++[D.tup [D.int g,D.int m]]))=S3 at *
   let T:InG K (L++[(g,m)]):=λz hz=>by
    rcases ZQ.mp hz with hz |hz
    .exact E z hz
    .rw[Zy.mp hz];exact o
   let hz3:(L++[(g,m)])[i]?=aw (g,m):=by rw[Zv (by lia),C,Z5];rfl
   let U:(L++[(g,m)]).take i=L:=by rw[<-C,List.take_left]
   calc{rfl,J7 V l hz3 T (by rw[Ze,Zl];lia) λS4 I=>?_};rw[U,J4 λz hz=>QP (E z hz).1 (E z hz).2];k_is;dsimp! at c;cases hh:qG K L g m with
   |true=>
    rw[hh,if_pos rfl]at c;k_is;calc aa (zj (I _ _ l)) ?_;k_is;let a5:(S4++[Ob.lst (((L++[(g,m)]).map aj).take i)])[Zi S4]?=aw (.lst (L.map aj)):=by rw[ay,<-Xp,U]
    let l4:Zi S<=Zi S4:=YX (Zb.mp (I _ _ l)).1;exact q _ L _ ((s3.trans I).trans (Sm.app _ _)) a5 l4 {λj e=>by rw[c]at e;cases e;exact C,λR e=>by rw[c]at e;cases e}
   |false=>
    rw[hh,if_neg Zd]at c;k_is;exact{s3.trans I,L++[(g,m)],_,_,_,rfl,I _ _ l,by rw[Ze,Zl];lia,T,by rw[eG];exact c}
 .subst er;k_is;rw[Za,YS,rn]at c;exact q _ L S1 Y O (Zg _) {λj e=>(by rw[c]at e;cases e),λR e=>(by rw[c]at e;cases e;rfl)}
end Lw
namespace Lw
open PySem Ev
variable {p:Nat} {S:Sto} {k:Nat} {Q:D->Sto->Prop}
def A8{t:Dw.D}{d:D}{n:Nat}(h:TD p S t d)(y:n<=1000)(q:∀c,Sm S c->Q (.bl (Dw.eX n t)) c):Ok (evC ae (k+3) 4 [d,.int n] S) Q:=by
 calc az (d:=cx) (ρ:=[aw d,aw (.int n)]) rfl rfl ?_;dsimp![cx,fQ];k_is;calc{rfl,oU h ?_};k_is;cases t with
 |tup T=>
  let{B,rfl,hs}:=h.tup;rw[Dw.MJ];by_cases l:T.length<=n
  .rw[decide_eq_true l];k_is;refine sr hs (by lia) (λe=>Dw.bX e 0 ((n:Int) - 1)) (λi t d c _ sm o=>{_,rfl,?_}) λc sm=>?_
   .k_is;exact{rfl,kU o {rfl,Sm.refl _}}
   .rw[f9,aC];k_is;cases g:T.all (λe=>Dw.bX e 0 ((n:Int) - 1)) with
    |false=>
     k_is;let:=q c sm;simp![Dw.eX,g,YM,Wo]at this;exact this
    |true=>
     k_is;let E:=yZ g hs;subst E;refine sr (hs.keep sm.kp) (by lia) (λt=>decide (((Wp (Dw.Cq t) (Dw.b9 T):Nat):Int)=1)) (λi t d u v f o=>{_,rfl,?_}) λu f=>?_
     .let{j,rfl,_}:=Dw.dP (ZM.mp g t (Zj v));obtain rfl:=o.int;k_is;calc{rfl,?_};rw[uI,aC];k_is;exact{rfl,Sm.refl _}
     .rw[f9,aC];let:=q u (sm.trans f)
      let e:(T.all λt=>decide (((Wp (Dw.Cq t) (Dw.b9 T):Nat):Int)=1))=Dw.jK (Dw.b9 T):=by
       rw[<-Dw.tL,Yu]
       conv=>rhs;delta Dw.b9
       rw[Yu];rfl
      simp![Dw.eX,g,decide_eq_true l,Xo]at this;rw[e];exact this
  .rw[decide_eq_false l];k_is;let:=q S (Sm.refl S);simp![Dw.eX,decide_eq_false l,YM]at this;exact this
 |_=>dsimp![Dw.isT];k_is;exact q S (Sm.refl S)
end Lw
namespace Lw
open PySem Ev Sn
variable {p:Nat} {S:Sto} {k:Nat} {Q:D->Sto->Prop} {K:Sky}
def dD(r:List Int):TDs p S (r.map Dw.D.int) (r.map D.int):=by
 induction r with
 |nil=>exact aY
 |cons a r I=>exact ak bc I
def im:∀ (M:List (List Int)),TDs p S (Dw.lU M) (M.map aH)
 |[]=>aY
 |r::M=>ak (bh (dD r)) (im M)
abbrev ahT:Option (Int×Int)->Dw.D
 |none=>.non
 |some q=>.tup [.int q.1,.int q.2]
abbrev skT(K:Sky):Dw.D:=.tup [.tup [.int K.r,.int K.s,.tup (Dw.lU K.M),.tup (K.H.map Dw.qa)],ahT K.ah,.tup (Dw.lU K.G),.tup (K.F.map Dw.D.int)]
def LU:∀ (a:Option (Int×Int)),TD p S (ahT a) (ahE a)
 |none=>wY
 |some q=>bh (ak bc (ak bc aY))
def zk:TD p S (skT K) (skE K):=bh (ak (bh (ak bc (ak bc (ak (bh (im K.M)) (ak (bh (ig K.H)) aY))))) (ak (LU K.ah) (ak (bh (im K.G)) (ak (bh (dD K.F)) aY))))
abbrev Res(K:Sky)(os:List Int)(b:Nat)(d:D)(c:Sto):Prop:=match rn K os K.ah [] with
 |.inl j=>d = .tup [.str "stuck",.int j]
 |.inr R=>∃n,d = .tup [.str "lands",.ref n]/\c[n]?=aw (.lst (R.map aj))/\b<=n
def Fk{m:Int}(hl:H.length<=4)(q:Q (.int (opm H m)) S):Ok (evC ae (k+1) 50 [.tup (H.map aj),.int m] S) Q:=by
 calc az (d:=ju) (ρ:=[aw (.tup (H.map aj)),aw (.int m),aD,aD]) rfl rfl ?_;dsimp![ju,oI];k_is;refine Ff (by rw[Za];lia) (λi f l=>l=S/\∃ (c:Int) (u v:Option D),opm H m=opm (H.drop i) c/\f=[aw (.tup (H.map aj)),aw (.int c),u,v]) (λi d f l hd ⟨g,c,u,v,E,j⟩=>?_) (λf l ⟨g,c,u,v,E,j⟩=>?_) ⟨rfl,m,aD,aD,rfl,rfl⟩
 .subst g j;let{n,o,rfl}:=oX hd;calc{_,show aB (.tup [.n 2,.n 3]) (.tup [.int n.1,.int n.2]) _=_ from fj (by simp) (by simp),?_};k_is;rw[my o,opm]at E;refine uS (λh1 h2=>?_) λh=>?_
  .k_is;rw[if_pos {ω h1,ω h2}]at E;exact⟨rfl,_,_,_,E,rfl⟩
  .k_is;rw[if_neg (λz=>by rw[decide_eq_true z.1,decide_eq_true z.2]at h;cases h)]at E;exact⟨rfl,_,_,_,E,rfl⟩
 .subst g j;k_is;rw[Za,YS,opm]at E;rw[E]at q;exact q
def A9(V:Vd K){n:Nat}{t:Int}(l:S[n]?=aw (.lst (L.map aj)))(B:InG K L)(hl:L.length<=1000)(q:∀N o g,Sm S g->g[N]?=aw (.lst o)->o.length=wts K L t->Q (.ref N) g):Ok (evC ae (k+1) 51 [skE K,.ref n,.int t] S) Q:=by
 calc az (d:=ia) (ρ:=[aw (skE K),aw (.ref n),aw (.int t)]) rfl rfl ?_;dsimp![ia,lH];k_is;calc{by rw[aM l];rfl,?_};refine bK L aj (λz=>if aO K t z=aN then [.int z.1] else []) hl (λz _=>by split <;> simp) (ik l) (λi z g u sm=>{_,show aB (.tup [.n 3,.n 4]) (.tup [.int z.1,.int z.2]) _=_ from fj (by simp) (by simp),?_}) λg sm=>?_
 .let{j,h1}:=B z (Zj u);let{a,b,c,d,e,f,h,v,_,E,_}:=gl7 V j h1;k_is;calc aa sk2 (aa (eF j v) (aa (show ixS (aH [a,b,c,d,e,f,h]) (.int 1) g=aw (.int b,g) from rfl) ?_));k_is;let y:aO K t z=(decide (b<=t) && decide (t < z.2 - K.s)):=by delta aO jn;rw[E]
  rw[y];cases C:decide (b<=t) with
  |false=>k_is;exact{rfl,Sm.refl _}
  |true=>
   k_is;calc aa sk0 (aa me1 ?_);k_is;cases I:decide (t < z.2 - K.s) with
   |true=>k_is;exact{rfl,Sm.refl _}
   |false=>k_is;exact{rfl,Sm.refl _}
 .rw[bH];k_is;exact q _ _ _ (sm.trans (Sm.app _ _)) ay (by rw[Za];rfl)
def Ba{c:Int}{n:Nat}(h:S[n]?=aw (.lst (xs.map D.int))):au (gq c) (.ref n) S=aw (.int (wg c xs),S):=by
 simp![au,aq,aM h,ZE,gq,eS]
def Fm(V:Vd K){n:Nat}{g m:Int}(J:S[n]?=aw (.lst (L.map aj)))(Z:InG K L)(hl:L.length<=100)(T:0<=g)(g1:g < K.G.length)(q:∀l,Sm S l->Q (.int (uO K L g m)) l):Ok (evC ae (k+2) 52 [skE K,.ref n,.int g,.int m] S) Q:=by
 calc az (d:=jv) (ρ:=[aw (skE K),aw (.ref n),aw (.int g),aw (.int m),aD,aD,aD]) rfl rfl ?_;dsimp![jv,oJ];let{a,b,c,d,e,f,h,y,_,E,_}:=gl7 V T g1;let U:jn K g=b:=E;k_is;calc aa sk2 (aa (eF T y) (aa (show ixS (aH [a,b,c,d,e,f,h]) (.int 1) S=aw (.int b,S) from rfl) ?_));k_is;let s1:Sm S (S++[Ob.lst [D.int b]]):=Sm.app _ _;let a1:(S++[Ob.lst [D.int b]])[Zi S]?=aw (Ob.lst [D.int b]):=ay;generalize Zi S=N1 at *;generalize S++[Ob.lst [D.int b]]=S1 at *;let o:=s1 _ _ J;calc{by rw[aM o];rfl,?_};refine bK L aj (λz=>[.int (jn K z.1)]) (by lia) (λ_ _=>Zg _) (ik o) (λi z l hz sm=>{_,show aB (.tup [.n 7,.n 8]) (.tup [.int z.1,.int z.2]) _=_ from fj (by simp) (by simp),?_}) λj X=>?_
 .let{C,h1}:=Z z (Zj hz);let{a,b,c,d,e,f,h,y,_,E,_}:=gl7 V C h1;k_is;calc aa sk2 (aa (eF C y) (aa (show ixS (aH [a,b,c,d,e,f,h]) (.int 1) l=aw (.int b,l) from rfl) ?_));exact{by rw[show jn K z.1=b from E],Sm.refl _}
 .rw[bT];let O:Sm j (j++[Ob.lst (L.map λz=>D.int (jn K z.1))]):=Sm.app _ _;calc aa (mz (O _ _ (X _ _ a1)) ay (by rw[Za,Zl];lia)) ?_;k_is;let s4:Sm (j++[Ob.lst (L.map λz=>D.int (jn K z.1))]) (j++[Ob.lst (L.map λz=>D.int (jn K z.1))]++[Ob.lst ([D.int b]++L.map λz=>D.int (jn K z.1))]):=Sm.app _ _
  let Y:(j++[Ob.lst (L.map λz=>D.int (jn K z.1))]++[Ob.lst ([D.int b]++L.map λz=>D.int (jn K z.1))])[Zi (j++[Ob.lst (L.map λz=>D.int (jn K z.1))])]?=aw (Ob.lst ((jn K g::L.map λz=>jn K z.1).map D.int)):=by
   rw[ay,U,Zw,Z1];rfl
  let I:=((s1.trans X).trans O).trans s4;let B:=I _ _ J;generalize Zi (j++[Ob.lst (L.map λz=>D.int (jn K z.1))])=N4 at *;generalize j++[Ob.lst (L.map λz=>D.int (jn K z.1))]++[Ob.lst ([D.int b]++L.map λz=>D.int (jn K z.1))]=S4 at *;calc{by rw[aM Y];rfl,?_};refine bK (jn K g::L.map λz=>jn K z.1) D.int (λt=>if (decide (jn K g<=t) && decide (t < m - K.s))=aN then [D.int (1+(wts K L t:Int))] else []) (by rw[Zr,Za];lia) (λ_ _=>by split <;> simp) (ik Y) (λi t l ht sm=>{_,rfl,?_}) λu s5=>?_
  .k_is;rw[U];cases c1:decide (b<=t) with
   |false=>k_is;exact{rfl,Sm.refl _}
   |true=>
    k_is;calc aa sk0 (aa me1 ?_);k_is;cases c2:decide (t < m - K.s) with
    |false=>k_is;exact{rfl,Sm.refl _}
    |true=>
     k_is;calc{rfl,A9 V (sm _ _ B) Z (by lia) λN ds S6 v hN hd=>?_};calc aa (gh hN) ?_;k_is;rw[hd];exact⟨rfl,v⟩
  .rw[bH];k_is;let v:Sm u (u++[Ob.lst ((ij K L g m).map λt=>D.int (1+(wts K L t:Int)))]):=Sm.app _ _;let a6:(u++[Ob.lst ((ij K L g m).map λt=>D.int (1+(wts K L t:Int)))])[Zi u]?=aw (Ob.lst (((ij K L g m).map λt=>1+(wts K L t:Int)).map D.int)):=by rw[ay,Z1];rfl
   calc aa (Ba a6) ?_;k_is;exact q _ ((I.trans s5).trans v)
def Fn{i:Int}(c:0<=i):gw d (aw i) aD=d.drop i.toNat:=by
 delta gw;rw[Dw.MI _ _ c,HT.BQ];by_cases h:i.toNat<=d.length
 .rw[Wj h,Ym (by rw[Yy];lia)]
 .rw[X8 (by lia),YS,XN,Y2 (by lia)]
def Fo{n:Nat}{i:Int}(h:S[n]?=aw (.lst d))(c:0<=i):slS (aw i) aD (.ref n) S=aw (.ref (Zi S),S++[.lst (d.drop i.toNat)]):=by
 simp![slS,aM h,Fn c]
def xr(V:Vd K){a:Option (Int×Int)}{g:Int}{j:Nat}{kd jo L:Int}{w1 w2:Option D}(X:gi K.G g 3=L)(q:∀n,Sm S n->Q (kj (Sn.step K a g j)) n) :
  rW (wSs (evC ae (k+1)) (cM ae) 58 (fU.drop 2)) [aw (skE K),aw (ahE a),aw (.int g),aw (.int j),aw (.int kd),aw (.int jo),aw (.int (cB K a g)),aw (.int L),aD,aD] S (out Q):=by
 dsimp![fU,Ys];k_is;calc aa sk0 (aa me3 ?_);calc{rfl,Fk V.h4 ?_};k_is;let U:Sn.step K a g j=if (decide (L < opm K.H (cB K a g)) || xq K j (opm K.H (cB K a g)))=aN then aD else aw (opm K.H (cB K a g)):=by delta Sn.step;rw[X]
 rw[U]at q;generalize opm K.H (cB K a g)=m at *;calc aa sk2 ?_;k_is;refine bK K.G aH (λg=>[.int (g.getD 1 0)]) (by let:=V.g7;lia) (λ_ _=>Zg _) cg (λi g n Y sm=>{_,rfl,?_}) λl s1=>?_
 .let{O,_}:=V.gl g (Zj Y)
  match g,O with
  |[a,b,c,d,e,f,h],_=>
   k_is;exact aa (show ixS (aH [a,b,c,d,e,f,h]) (.int 1) n=aw (.int b,n) from rfl) {rfl,Sm.refl _}
 .rw[bT];refine{_,show cU aS (K.G.map λg=>D.int (g.getD 1 0))=aw ((js K).map D.int) from ?_,?_}
  .let:=uU (xs:=K.G.map λg=>g.getD 1 0) (by rw[Za];let:=V.g7;lia);rw[Z1]at this;exact this
  .calc aa sk0 (aa me0 ?_);k_is;let Z:Sm l (l++[Ob.lst ((js K).map D.int)]):=Sm.app _ _;let a2:(l++[Ob.lst ((js K).map D.int)])[Zi l]?=aw (Ob.lst ((js K).map D.int)):=ay;generalize Zi l=N1 at *;generalize l++[Ob.lst ((js K).map D.int)]=S2 at *;let r0:=V.r0;calc aa (Fo a2 (by lia)) ?_;k_is;let T:Sm S2 (S2++[Ob.lst (((js K).map D.int).drop (K.r+(j:Int)).toNat)]):=Sm.app _ _;let y:(S2++[Ob.lst (((js K).map D.int).drop (K.r+(j:Int)).toNat)])[Zi S2]?=aw (Ob.lst (((js K).map D.int).drop (K.r+(j:Int)).toNat)):=ay;let l3:Zi S2 < Zi (S2++[Ob.lst (((js K).map D.int).drop (K.r+(j:Int)).toNat)]):=by simp
   generalize Zi S2=N2 at *;generalize S2++[Ob.lst (((js K).map D.int).drop (K.r+(j:Int)).toNat)]=S3 at *;let B:=(s1.trans Z).trans T;cases I:decide (L < m) with
   |true=>rw[I]at q;k_is;exact q _ B
   |false=>
    rw[I]at q;k_is;calc aa (Ex (Sm.app _ _ _ _ y) ay (by lia)) ?_;k_is;let v:Sm S (S3++[Ob.lst []]):=B.trans (Sm.app _ _);let C:=Sm.app S3 [Ob.lst []] _ _ y;generalize S3++[Ob.lst []]=S4 at *;let E:xq K j m=match (js K)[(K.r+j).toNat]? with |some t=>decide (t < m - K.s) |none=>aS:=rfl
    by_cases o:(K.r+(j:Int)).toNat < (js K).length
    .rw[gEG o]at E;dsimp! at E
     let u:((js K).map D.int).drop (K.r+(j:Int)).toNat = .int (js K)[(K.r+(j:Int)).toNat]::((js K).map D.int).drop ((K.r+(j:Int)).toNat+1):=by
      rw[YT (by rw[Za];exact o),List.getElem_map]
     rw[u]at C;rw[u,show(!(D.int (js K)[(K.r+(j:Int)).toNat]::((js K).map D.int).drop ((K.r+(j:Int)).toNat+1)).isEmpty)=aN from rfl];k_is;calc aa sk0 (aa me1 ?_);k_is;calc aa (gg (i:=0) C (by lia) rfl) ?_;k_is;rw[E]at q;cases J:decide ((js K)[(K.r+(j:Int)).toNat] < m - K.s) with
     |true=>rw[J]at q;k_is;exact q _ v
     |false=>rw[J]at q;k_is;exact q _ v
    .rw[Zx (by lia)]at E;let u:((js K).map D.int).drop (K.r+(j:Int)).toNat=[]:=Y2 (by rw[Za];lia);rw[u,show(!([]:List D).isEmpty)=aS from rfl];k_is;rw[E]at q;exact q _ v
def uX(V:Vd K){a:Option (Int×Int)}{g:Int}{j:Nat}(B:∀q,a=aw q->0<=q.1/\q.1 < K.M.length)(u:0<=g)(O:g < K.G.length)(q:∀o,Sm S o->Q (kj (Sn.step K a g j)) o):Ok (evC ae (k+2) 53 [skE K,ahE a,.int g,.int j] S) Q:=by
 calc az (d:=jw) (ρ:=[aw (skE K),aw (ahE a),aw (.int g),aw (.int j),aD,aD,aD,aD,aD,aD]) rfl rfl ?_;dsimp![jw,fU];let{l,b,c,d,e,f,h,L,y,U,n,I,X,J,v,Y}:=gl7 V u O;k_is;calc aa sk2 (aa (eF u L) ?_);rw[show aH [l,b,c,d,e,f,h] = .tup [.int l,.int b,.int c,.int d,.int e,.int f,.int h] from rfl];k_is;rw[show gw [D.int l,.int b,.int c,.int d,.int e,.int f,.int h] aD (aw 4)=[.int l,.int b,.int c,.int d] from rfl];k_is;let T:=xr (k:=k) (S:=S) (Q:=Q) V (a:=a) (g:=g) (j:=j) (kd:=l) (jo:=b) (w1:=aD) (w2:=aD) I q;dsimp![fU,Ys]at T;cases a with
 |none=>
  let E:cB K aD g=c:=n;rw[E]at T;calc aa (show am .t (ahE aD) .non S=aw (.bl aS,S) from rfl) ?_;k_is;exact T
 |some z=>
  let{Z,C}:=B z rfl;calc aa (show am .t (ahE (aw z)) .non S=aw (.bl aN,S) from rfl) ?_;k_is;calc aa (show ixS (ahE (aw z)) (.int 1) S=aw (.int z.2,S) from rfl) ?_;calc aa sk0 (aa me2 (aa (show ixS (ahE (aw z)) (.int 0) S=aw (.int z.1,S) from rfl) ?_));let{r,h1,h2}:=oW (S:=S) V Z C J v;calc aa h1 (aa h2 ?_);k_is;let E:cB K (aw z) g=if z.2+gp K z.1 l > c then z.2+gp K z.1 l else c:=by delta cB;rw[y,n]
  rw[E]at T;exact T
def oZ(V:Vd K){N i:Nat}{g m h:Int}(n:j[N]?=aw (.lst (L.map aj)))(hl:L.length<=100)(l:0<=g)(v:g < K.G.length)
  (q:Qf .nx [aw (skE K),aw O,aw (ahE (bj K (L++[(g,m)]))),aw (.ref N),aw (.int i),aw (.int g),aw (.int m),aw (.int h)] (j.set N (.lst (L.map aj++[.tup [.int g,.int m]])))) :
  eM (.ref N) j=aN/\Ok (t6 (.ref N) [.tup [.int g,.int m]] j) λ_ o=>rW (wSs (evC ae (k+2)) (cM ae) 54 [CS.a (Tg.n 2) (CE.tup [(((CE.v 0).x (CE.int 2)).x (CE.v 5)).x (CE.int 0),CE.v 6])]) [aw (skE K),aw O,aw ad,aw (.ref N),aw (.int i),aw (.int g),aw (.int m),aw (.int h)] o Qf:=by
 calc{cA n,?_};rw[jA n (by rw[Za];lia)];let{a,b,c,d,e,f,u,E,y,_}:=gl7 V l v;k_is;calc aa sk2 (aa (eF l E) (aa (show ixS (aH [a,b,c,d,e,f,u]) (.int 0) (j.set N (.lst (L.map aj++[.tup [.int g,.int m]])))=aw (.int a,_) from rfl) ?_));k_is;rw[eG,y]at q;exact q
def uY(V:Vd K){os:List Int}(ho:∀g∈os,0<=g/\g < K.G.length)(lo:os.length<=7)(q:∀d S',Sm S S'->Res K os (Zi S) d S'->Q d S'):Ok (evC ae (k+3) 54 [skE K,.tup (os.map D.int)] S) Q:=by
 calc az (d:=fh) (ρ:=[aw (skE K),aw (.tup (os.map D.int)),aD,aD,aD,aD,aD,aD]) rfl rfl ?_;dsimp![fh,i7];k_is;calc aa sk1 ?_;k_is;refine Fh (by rw[Za];lia) (λi T S'=>Sm S S'/\∃L u v w x,T=[aw (skE K),aw (.tup (os.map D.int)),aw (ahE (bj K L)),aw (.ref (Zi S)),u,v,w,x]/\S'[Zi S]?=aw (.lst (L.map aj))/\L.length=i/\InG K L/\rn K os K.ah []=rn K (os.drop i) (bj K L) L) (λi d T S1 hd ⟨C,L,u,v,w,x,X,U,hi,J,l⟩=>?_) (λT S1 ⟨C,L,u,v,w,x,X,U,hi,J,l⟩=>?_) {Sm.app _ _,[],aD,aD,aD,aD,rfl,ay,rfl,λ_ h=>(by simp at h),rfl}
 .subst X;let{g,Y,rfl}:=oX hd;let j:=ho g (Zj Y);let hil:i < os.length:=(Zb.mp Y).1;rw[my Y,rn,hi]at l;calc{_,fj (by simp) (by simp),?_};k_is;calc{rfl,uX V (kl V J) j.1 j.2 λy I=>?_};let{a,b,c,d,e,f,h,eg,e0,e1,e2,e3,e6,k0,k1,c0}:=gl7 V j.1 j.2;calc aa sk2 (aa (eF j.1 eg) (aa (show ixS (aH [a,b,c,d,e,f,h]) (.int 6) y=aw (.int h,y) from rfl) ?_));k_is;let n:=I _ _ U;let stuck:rn K os K.ah [] = .inl i->∀S',Sm S S'->Q (.tup [.str "stuck",.int i]) S':=λe S' s=>q _ S' s (by delta Res;rw[e]);cases E:Sn.step K (bj K L) g i with
  |none=>
   rw[E]at l;calc aa (show am .is (kj aD) .non y=aw (.bl aN,y) from rfl) ?_;k_is;exact stuck l y (C.trans I)
  |some m=>
   rw[E]at l;calc aa (show am .is (kj (aw m)) .non y=aw (.bl aS,y) from rfl) ?_;rw[show kj (aw m) = .int m from rfl];k_is;dsimp! at l;let eh:qG K L g m=(decide (0 < h) && decide (h < uO K L g m)):=by delta qG;rw[e6]
   rw[eh]at l
   let fin:∀o,Sm S o->o[Zi S]?=aw (.lst (L.map aj))->rn K os K.ah []=rn K (os.drop (i+1)) (aw (gi K.G g 0,m)) (L++[(g,m)])->Sm S (o.set (Zi S) (.lst (L.map aj++[.tup [.int g,.int m]])))/\∃L' u v w x,[aw (skE K),aw (.tup (os.map D.int)),aw (ahE (bj K (L++[(g,m)]))),aw (.ref (Zi S)),aw (.int (i:Int)),aw (.int g),aw (.int m),aw (.int h)]=[aw (skE K),aw (.tup (os.map D.int)),aw (ahE (bj K L')),aw (.ref (Zi S)),u,v,w,x]/\(o.set (Zi S) (.lst (L.map aj++[.tup [.int g,.int m]])))[Zi S]?=aw (.lst (L'.map aj))/\L'.length=i+1/\InG K L'/\rn K os K.ah []=rn K (os.drop (i+1)) (bj K L') L':=λo B h3 l=>by
    let O:Zi S < o.length:=(Zb.mp h3).1;calc{Sm.setNew B (Zg _),L++[(g,m)],_,_,_,_,rfl,by rw[eD O,ZD];rfl,by rw[Ze,Zl];lia,λz hz=>?_,by rw[eG];exact l};rcases ZQ.mp hz with hz |hz
    .exact J z hz
    .rw[Zy.mp hz];exact j
   refine dH (λZ=>?_) λZ=>?_
   .rw[Z,Xo]at l;k_is;calc{rfl,Fm (k:=k) V n J (by lia) j.1 j.2 λo B=>?_};k_is;cases c2:decide (h < uO K L g m) with
    |true=>
     rw[c2,if_pos rfl]at l;k_is;exact stuck l o ((C.trans I).trans B)
    |false=>
     rw[c2,if_neg Zd]at l;k_is;calc oZ V (B _ _ n) (by lia) j.1 j.2 ?_;exact fin o ((C.trans I).trans B) (B _ _ n) l
   .rw[Z,YM,if_neg Zd]at l;k_is;calc oZ V n (by lia) j.1 j.2 ?_;exact fin y (C.trans I) n l
 .subst X;k_is;rw[Za,YS,rn]at l;exact q _ S1 C (by delta Res;rw[l];exact{_,rfl,U,Zg _})
def LV{c:List D}(i:Nat)(d:D)(h:c[i]?=aw d):(λi=>(c[i]?).getD .non) i=d:=by
 show(c[i]?).getD .non=d;rw[h];rfl
def io{i:Int}(h:0<=i)(h1:i < 1000):lim i=aN:=by simp![lim,bAE,decide_eq_true_eq];lia
def QQ{n:Nat}{lo:Int}{T:Tg}{c:XA}{o:Rho}{Q:List D->Sto->Prop}(f:Nat->D)(hl:n<=1000)(step:∀ (i:Nat),i < n->∃d,aB T (.int (lo+i)) o=aw d/\Ok (c d S) λE h=>E=[f i]/\h=S)(q:Q ((Zm n).map f) S) :
  Ok (bD (nxR lo n) T c o LF 0 S) λE S2=>E.length<=100000/\Q E S2:=by
 refine w9 (by lia) (λi g j=>j=S/\g=(Zm i).map f) (λi g j B ⟨e,l⟩=>?_) (λE j ⟨e,l⟩=>?_) ⟨rfl,rfl⟩
 .subst e;let{d,u,E,h,C,v,y}:=step i B;exact{d,u,E,h,C,y,by rw[l,v,Xu,ZD];rfl}
 .subst e l;exact{by rw[Za,ZI];lia,q}
abbrev mid(M:List (List Int))(n c a:Nat):List (List Int):=(Zm n).map λi=>if i < a then Dw.be M n c i else (M[i]?).getD []
def km{n c a i:Nat}(hi:i < n):(mid M n c a)[i]?=aw (if i < a then Dw.be M n c i else (M[i]?).getD []):=by
 delta mid;rw[Zo,YE hi];rfl
def Fp{n c:Nat}(h:Dw.Mat n M):mid M n c 0=M:=by
 apply YW;intro i;by_cases d:i < n
 .rw[km d,if_neg (by lia)];let:i < M.length:=by rw[h.len];exact d
  rw[gEG this];rfl
 .rw[Zx (by delta mid;rw[Za,ZI];lia),Zx (by rw[h.len];lia)]
def J9{n c:Nat}:mid M n c n=(Zm n).map (Dw.be M n c):=by
 delta mid;calc YD λi h=>?_;rw[if_pos (ZZ.mp h)]
def Ka{n c a:Nat}(g:a < n):(mid M n c a).set a (Dw.be M n c a)=mid M n c (a+1):=by
 apply YW;intro i;by_cases f:i < n
 .rw[km f];by_cases d:i=a
  .subst d;rw[ZL (by delta mid;rw[Za,ZI];lia),if_pos (by lia)]
  .rw[Zq (Ne.symm d),km f];by_cases h:i < a
   .rw[if_pos h,if_pos (by lia)]
   .rw[if_neg h,if_neg (by lia)]
 .rw[Zx (by rw[Yb];delta mid;rw[Za,ZI];lia),Zx (by delta mid;rw[Za,ZI];lia)]
def Uu{n c a b:Nat}(h:Dw.Mat n M)(hc:c < n)(hb:b < n):Dw.mg2 (mid M n c a) c b=Dw.mg2 M c b:=by
 delta Dw.mg2;rw[km hc];split
 .rw[Yd,Dw.tK M hb];let{_,_,_,_,d,_}:=h.at hc hc;show(if Dw.mg2 M c c+Dw.mg2 M c b < Dw.mg2 M c b then Dw.mg2 M c c+Dw.mg2 M c b else Dw.mg2 M c b)=_;rw[if_neg (by lia)];rfl
 .rfl
def Uv{n c a b:Nat}(h:a < n):Dw.mg2 (mid M n c a) a b=Dw.mg2 M a b:=by
 delta Dw.mg2;rw[km h,if_neg (ZO _)];rfl
def RowsS.at(h:RowsS p S l M){n:Nat}{L:Nat}(c:S[L]?=aw (.lst l)){i j:Int}(I:0<=i)(J:0<=j)(f:∃r x,M[i.toNat]?=aw r/\r[j.toNat]?=aw x/\x=Dw.mg2 M i.toNat j.toNat) :
  ∃a,ixS (.ref L) (.int i) S=aw (.ref a,S)/\ixS (.ref a) (.int j) S=aw (.int (Dw.mg2 M i.toNat j.toNat),S):=by
 let{r,x,g,d,ex}:=f;let{a,E,o,Z}:=h.row _ r g;exact{a,gg c I E,gg Z J (by rw[Zo,d,ex];rfl)}
def xt{n i j:Nat}(hl:M.length=n)(f:∀r∈M,r.length=n)(hi:i < n)(d:j < n):∃r x,M[i]?=aw r/\r[j]?=aw x/\x=Dw.mg2 M i j:=by
 let h:i < M.length:=by lia
 let c:j < M[i].length:=by rw[f _ (ZS h)];exact d
 calc{M[i],M[i][j],gEG h,gEG c,?_};delta Dw.mg2;rw[gEG h,Yd,gEG c];rfl
def Fq{n c a:Nat}(h:Dw.Mat n M):∀r∈mid M n c a,r.length=n:=λr f=>by
 delta mid at f;let{i,d,rfl}:=ZJ.mp f;let d:=ZZ.mp d;split
 .exact Dw.tJ M n c i
 .let:i < M.length:=by rw[h.len];exact d
  rw[gEG this];exact h.row _ (ZS this)
def Kb{n c a:Nat}:(mid M n c a).length=n:=by delta mid;rw[Za,ZI]
def RowsS.set{L i a:Nat}(h:RowsS p S d M)(u:S[L]?=aw (.lst d))(hi:i < M.length)(o:a≠p)(Z:S[a]?=aw (.lst (r.map D.int)))(n:a≠L)(q:∀ (i:Nat) r b,M[i]?=aw r->d[i]?=aw (D.ref b)->b≠L):RowsS p (S.set L (.lst (d.set i (.ref a)))) (d.set i (.ref a)) (M.set i r):=by
 calc{by rw[Yb,Yb];exact h.len,λj g c=>?_};by_cases f:j=i
 .subst f;rw[ZL hi]at c;cases c;exact{a,by rw[ZL (by rw[h.len];exact hi)],o,by rw[Zq (Ne.symm n)];exact Z}
 .rw[Zq (Ne.symm f)]at c;let{b,E,nb,l}:=h.row j g c;let:=q j g b c E;exact{b,by rw[Zq (Ne.symm f)];exact E,nb,by rw[Zq (Ne.symm this)];exact l}
def Kc{L n:Nat}(h:RowsS p S f M)(g:S[L]?=aw (.lst f))(o:∀r∈M,0 < r.length):∀ (i:Nat) r b,M[i]?=aw r->f[i]?=aw (D.ref b)->b≠L:=λi r b j E l=>by
 let{B,d,_,z}:=h.row i r j;rw[E]at d;cases d;rw[l,g]at z;cases z;rw[Zo]at E;cases c:r[i]? with
 |none=>rw[c]at E;cases E
 |some x=>rw[c]at E;cases E
end Lw
namespace Lw
open PySem Ev Sn L2
variable {p:Nat} {S:Sto} {k:Nat} {Q:D->Sto->Prop} {K:Sky}
def Kp.len{p:Nat}(h:Ev.Kp p S c)(g:p < c.length):S.length<=c.length:=by
 by_cases f:S.length<=c.length
 .exact f
 .exfalso;let d:c.length < S.length:=by lia
  let:=h c.length S[c.length] (by lia) (gEG d);rw[Zx (Zg _)]at this;cases this
def zl{n:Nat}{i:Int}(c:S[n]?=aw (.lst d))(f:0<=i)(h1:i.toNat < d.length):kG (.ref n) (.int i) v S=aw (S.set n (.lst (d.set i.toNat v))):=by
 let h:ixN d.length i=aw i.toNat:=by
  delta ixN;rw[if_pos (by lia),if_pos (by lia)]
 simp![kG,c,h,ZE]
def Fs{n L:Nat}(B:S[L]?=aw (.lst h))(y:RowsS p S h M)(j:Dw.Mat n M)(O:n<=4)(q:∀f,Sm S f->Q (.tup (M.map aH)) f) :
  rW (wSs (evC ae (k+1)) (cM ae) 57 (fT.drop 3)) [aw pt,u,v,aw (.ref L),w,x] S (out Q):=by
 dsimp![fT,Ys];k_is;calc{by rw[aM B];rfl,?_};let le:h.length=n:=by rw[y.len,j.len]
 refine kS n (λi=>(h[i]?).getD .non) (λi c f=>f=S/\c=(M.take i).map aH) (λi c f l ⟨e,_⟩=>by subst e;rw[<-le];exact Ez B _ LV) (by lia) (λi c d l ⟨g,E⟩=>?_) (λI d ⟨g,E⟩=>{by rw[E,Za,ZT];lia,?_}) ⟨rfl,rfl⟩
 .subst g;let o:i < M.length:=by rw[j.len];exact l
  let{a,C,J,Z}:=y.row i M[i] (gEG o);simp![C,Yd];calc{_,rfl,?_};k_is;calc aa (show au df (.ref a) d=aw (.tup (M[i].map D.int),d) by simp![au,aq,aM Z,ZE,df]) ?_;calc{rfl,?_};rw[E,Z6 o,ZD];rfl
 .subst g;rw[Ym (by rw[j.len];exact Zg _)]at E;subst E;calc aa (show df aS (M.map aH) d=aw (.tup (M.map aH),d) from rfl) ?_;k_is;exact q d (Sm.refl _)
def Ft(h:Pot p S)(q:∀n M g,Dr p S g->Dw.Mat n M->1<=n->n<=4->Dw.tI n n M->Q (.tup (M.map aH)) g):Ok (evC ae (k+2) 47 [.ref p] S) Q:=by
 calc az (d:=jt) (ρ:=[aw (.ref p),aD,aD,aD,aD,aD]) rfl rfl ?_;dsimp![jt,fT];k_is;calc{rfl,aE h (by decide) (by decide) λr0 S0 r1 r2 d0=>?_};k_is;calc{rfl,aE d0.pot (by decide) (by decide) λf0 S1 f1 f2 d01=>?_};k_is;let d1:=d0.trans d01;obtain⟨n,rfl⟩:∃n:Nat,r0=(n:Int):={r0.toNat,by lia}
 obtain⟨U,at1,hf⟩:∃e:Int,atI [D.int 3,D.int 12,D.int 40] f0=aw (D.int e)/\0 < e/\e<=40:=by
  let:f0=0\/f0=1\/f0=2:=by lia
  rcases this with rfl |rfl |rfl
  .exact{3,rfl,by decide,by decide}
  .exact{12,rfl,by decide,by decide}
  .exact{40,rfl,by decide,by decide}
 calc{_,at1,?_};k_is;let e1:((1:Int)+n).toNat=n+1:=by lia
 let l1:lim (1+(n:Int))=aN:=io (by lia) (by lia);calc{l1,?_};rw[e1];refine w9 (by lia) (λi l g=>Dr p S1 g/\∃M:List (List Int),M.length=i/\RowsS p g l M/\∀r∈M,r.length=n+1/\∀x∈r,1<=x/\x<=99) (λi l B hi ⟨d2,M,lM,rM,bM⟩=>{_,rfl,?_}) (λE B ⟨d2,M,lM,rM,bM⟩=>{by rw[rM.len];lia,?_}) {Dr.refl d1.pot,[],rfl,RowsS.nil,λr f=>by simp at f}
 .k_is;calc{l1,?_};rw[e1];refine w9 (by lia) (λj l g=>Dr p B g/\∃r:List Int,l=r.map D.int/\r.length=j/\∀x∈r,1<=x/\x<=99) (λj l S3 hj ⟨C,r,ea,lr,br⟩=>{_,rfl,?_}) (λE S3 ⟨C,r,ea,lr,br⟩=>{by rw[ea,Za];lia,?_}) {Dr.refl d2.pot,[],rfl,rfl,λx hx=>by simp at hx}
  .k_is;calc{rfl,aE C.pot hf.1 (by lia) λx S4 x1 x2 d4=>?_};k_is;calc{C.trans d4,r++[1+x],by rw[ea,ZD];rfl,by simp[lr],λy hy=>?_};rcases ZQ.mp hy with hy |hy
   .exact br y hy
   .simp at hy;lia
  .subst ea;k_is;let lt:=C.pot.lt;calc{(d2.trans C).thenSm (Sm.app _ _),M++[r],by simp[lM],((rM.keep C.kp).keep (Sm.app _ _).kp).snoc (by lia) ay,λr' hr'=>?_};rcases ZQ.mp hr' with hr' |hr'
   .exact bM r' hr'
   .simp at hr';subst hr';exact⟨lr,br⟩
 .let lt2:=d2.pot.lt;let C:Dr p S (B++[Ob.lst E]):=(d1.trans d2).thenSm (Sm.app _ _);let r3:RowsS p (B++[Ob.lst E]) E M:=rM.keep (Sm.app _ _).kp;let a3:(B++[Ob.lst E])[B.length]?=aw (Ob.lst E):=ay;let m3:Dw.Mat (n+1) M:={lM,λr f=>(bM r f).1,λr f=>(bM r f).2};let lS:S.length<=B.length:=Kp.len (d1.trans d2).kp lt2;let ne3:B.length≠p:=by lia
  revert a3 r3 C;generalize B++[Ob.lst E]=S3;generalize B.length=L at *;intro C r3 a3;k_is;calc⟨l1,?_⟩;rw[e1];refine kg (by lia) (λc J g=>Dr p S g/\∃E M u v,J=[aw (.ref p),aw (.int (1+(n:Int))),aw (.int U),aw (.ref L),u,v]/\g[L]?=aw (.lst E)/\RowsS p g E M/\Dw.Mat (n+1) M/\Dw.tI (n+1) c M) (λc J S4 hc ⟨d4,E,M,u,v,O,o,f,I,tr⟩=>?_) (λJ S4 ⟨d4,E,M,u,v,O,o,f,I,tr⟩=>?_) {C,E,M,aD,aD,rfl,a3,r3,m3,λ_ _ _ _ _ h=>absurd h (Wl _)}
  .subst O;calc{_,rfl,?_};k_is;calc{l1,?_};rw[e1];refine kg (by lia) (λa J g=>Dr p S g/\∃E v,J=[aw (.ref p),aw (.int (1+(n:Int))),aw (.int U),aw (.ref L),aw (.int (0+(c:Int))),v]/\g[L]?=aw (.lst E)/\RowsS p g E (mid M (n+1) c a)) (λa J Y ha ⟨d5,E,v,O,o,f⟩=>?_) (λJ Y ⟨d5,E,v,O,o,f⟩=>?_) {d4,E,v,rfl,o,by rw[Fp I];exact f}
   .subst O;calc{_,rfl,?_};k_is;calc{l1,?_};rw[e1];let ml:=@Kb M (n+1) c a;let mr:=Fq (c:=c) (a:=a) I;let Z:∀x:Nat,((0:Int)+x).toNat=x:=λx=>by lia
    refine QQ (λb=>.int (if Dw.mg2 M a c+Dw.mg2 M c b < Dw.mg2 M a b then Dw.mg2 M a c+Dw.mg2 M c b else Dw.mg2 M a b)) (by lia) (λb hb=>{_,rfl,?_}) ?_
    .k_is;let{x1,i1,j1}:=RowsS.at (n:=0) f o (i:=0+(a:Int)) (j:=0+(b:Int)) (by lia) (by lia) (by rw[Z,Z];exact xt ml mr ha hb);let{x2,i2,j2}:=RowsS.at (n:=0) f o (i:=0+(a:Int)) (j:=0+(c:Int)) (by lia) (by lia) (by rw[Z,Z];exact xt ml mr ha hc);let{x3,i3,j3}:=RowsS.at (n:=0) f o (i:=0+(c:Int)) (j:=0+(b:Int)) (by lia) (by lia) (by rw[Z,Z];exact xt ml mr hc hb);rw[Z,Z,Uv ha]at j1 j2;rw[Z,Z,Uu I hc hb]at j3;calc aa i1 (aa j1 (aa i2 (aa j2 (aa i3 (aa j3 ?_)))));k_is;exact⟨rfl,rfl⟩
    .let ef:((Zm (n+1)).map λb=>D.int (if Dw.mg2 M a c+Dw.mg2 M c b < Dw.mg2 M a b then Dw.mg2 M a c+Dw.mg2 M c b else Dw.mg2 M a b))=(Dw.be M (n+1) c a).map D.int:=by delta Dw.be;rw[Z1];rfl
     rw[ef];k_is;let lt5:=d5.pot.lt;let X:=Sm.app Y [Ob.lst ((Dw.be M (n+1) c a).map D.int)] _ _ o;let lL:L < Y.length:=(Zb.mp o).1;let le:E.length=n+1:=by rw[f.len,ml]
     calc{_,zl X (by lia) (by lia),?_};k_is;rw[Z];let hr':RowsS p (Y++[Ob.lst ((Dw.be M (n+1) c a).map D.int)]) E (mid M (n+1) c a):=f.keep (Sm.app _ _).kp;let hr2:=RowsS.set (i:=a) (a:=Y.length) (r:=Dw.be M (n+1) c a) hr' X (by lia) (by lia) ay (by lia) (Kc (n:=0) hr' X λr hh=>by rw[mr r hh];lia);rw[Ka ha]at hr2;let kA:Ev.Kp p S ((Y++[Ob.lst ((Dw.be M (n+1) c a).map D.int)]).set L (.lst (E.set a (.ref Y.length)))):=(d5.kp.trans (Sm.app _ _).kp).setNew lS;calc{{kA,((Dr.sm d5.pot (Sm.app _ _)).pot).setNe ne3},_,_,rfl,?_,hr2};rw[eD (by rw[Ze];lia)]
   .subst O;k_is;rw[J9]at f;exact{d5,E,_,_,_,rfl,o,f,Dw.Cp I hc,Dw.Co I hc tr (Dw.GU I hc)}
  .subst O;let T:=Fs (k:=k) (p:=p) (Q:=Q) (pt:=.ref p) (u:=aw (.int (1+(n:Int)))) (v:=aw (.int U)) (w:=u) (x:=v) o f I (by lia) λg sm=>q (n+1) M g (d4.thenSm sm) I (by lia) (by lia) tr;dsimp![fT,Ys]at T;exact T
def uZ:∀ {H:List (Int×Int)} {lo x y:Int},Ris lo H->lo < x->(∀q∈H,q.2 < x)->x < y->Ris lo (H++[(x,y)])
 |[],lo,x,y,_,h1,_,h3=>⟨h1,h3,trivial⟩
 |q::H,lo,x,y,h,h1,h2,h3=>by
  rw[Ris]at h;exact{h.1,h.2.1,uZ h.2.2 (h2 q Zh) (λr c=>h2 r (Zf _ c)) h3}
def mB:∀ {H:List (Int×Int)} {lo:Int} {q:Int×Int},Ris lo H->q∈H->lo < q.1/\q.1 < q.2
 |q'::H,lo,q,h,hq=>by
  rw[Ris]at h;rcases Zn.mp hq with rfl |hq
  .exact⟨h.1,h.2.1⟩
  .let:=mB h.2.2 hq
   lia
def u0:∀ {H:List (Int×Int)} {lo:Int},Ris lo H->∀ (i:Nat) q c,H[i]?=aw q->H[i+1]?=aw c->q.2 < c.1
 |q0::H,lo,h,0,q,c,e1,e2=>by
  rw[Ris]at h;cases e1;rw[YH]at e2;exact(mB h.2.2 (Zj e2)).1
 |q0::H,lo,h,i+1,q,c,e1,e2=>by
  rw[Ris]at h;rw[YH]at e1 e2;exact u0 h.2.2 i q c e1 e2
structure MeOk(r s:Int)(M:List (List Int))(H:List (Int×Int)):Prop where
 r0:0<=r
 r8:r<=8
 s0:0<=s
 s60:s<=60
 mat:Dw.Mat M.length M
 m1:1<=M.length
 m4:M.length<=4
 tri:Dw.tI M.length M.length M
 ris:Ris (-1) H
 h4:H.length<=4
 hb:∀q∈H,q.2<=9999
def xu(h:Pot p S)(q:∀r s M H g,Dr p S g->MeOk r s M H->Q (.tup [.int r,.int s,.tup (M.map aH),.tup (H.map aj)]) g):Ok (evC ae (k+3) 48 [.ref p] S) Q:=by
 calc az (d:=fZ) (ρ:=[aw (.ref p),aD,aD,aD,aD]) rfl rfl ?_;dsimp![fZ,j9];let lt:=h.lt;k_is;let d0:Dr p S (S++[Ob.lst []]):=Dr.sm h (Sm.app _ _);let a0:(S++[Ob.lst []])[Zi S]?=aw (Ob.lst (([]:List (Int×Int)).map aj)):=ay;let C:Zi S≠p:=by lia
 generalize S++[Ob.lst []]=S0 at *;calc{rfl,aE d0.pot (by decide) (by decide) λT S1 i1 i2 U=>?_};k_is
 obtain⟨fr,at1,hf⟩:∃e:Int,atI [D.int 1,D.int 5] T=aw (D.int e)/\0 < e/\e<=5:=by
  let:T=0\/T=1:=by lia
  rcases this with rfl |rfl
  .exact{1,rfl,by decide,by decide}
  .exact{5,rfl,by decide,by decide}
 calc{_,at1,?_};calc{rfl,aE U.pot hf.1 (by lia) λn0 S2 n1 n2 d2=>?_};k_is;obtain⟨n,rfl⟩:∃n:Nat,n0=(n:Int):={n0.toNat,by lia};calc{io (by lia) (by lia),?_};rw[ZF];let L:=(d0.trans U).trans d2;let a2:=(U.trans d2).kp _ _ C a0;refine kg (by lia) (λi X g=>Dr p S g/\∃ (H:List (Int×Int)) (b:Int) (u v:Option D),X=[aw (.ref p),aw (.ref (Zi S)),aw (.int b),u,v]/\g[Zi S]?=aw (.lst (H.map aj))/\H.length=i/\Ris (-1) H/\(∀q∈H,q.2 < b)/\0<=b/\b<=60 * i) (λi X S3 hi ⟨B,H,b,u,v,er,Y,hl,hr,E,b0,b1⟩=>?_) (λX S3 ⟨B,H,b,u,v,er,Y,hl,hr,E,b0,b1⟩=>?_) {L,[],0,aD,aD,rfl,a2,rfl,trivial,λq hq=>by simp at hq,by decide,by decide}
 .subst er;calc{_,rfl,?_};k_is;calc{rfl,aE B.pot (by decide) (by decide) λx S4 x1 x2 f=>?_};k_is;let l:=f.kp _ _ C Y;calc{cA l,?_};calc{rfl,aE f.pot (by decide) (by decide) λy J y1 y2 c=>?_};k_is;let j:=c.kp _ _ C l;rw[jA j (by rw[Za];lia)];k_is;let lt5:Zi S < J.length:=(Zb.mp j).1;let f5:(J.set (Zi S) (Ob.lst (H.map aj++[D.tup [D.int (b+x),D.int (b+x+1+y)]])))[Zi S]?=aw (Ob.lst (H.map aj++[D.tup [D.int (b+x),D.int (b+x+1+y)]])):=eD lt5;calc aa (mw f5) (aa (show ixS (D.tup [D.int (b+x),D.int (b+x+1+y)]) (.int 1) (J.set (Zi S) (Ob.lst (H.map aj++[D.tup [D.int (b+x),D.int (b+x+1+y)]])))=aw (.int (b+x+1+y),_) from rfl) ?_);k_is;calc{{((B.kp.trans f.kp).trans c.kp).setNew (Zg _),c.pot.setNe C},H++[(b+x,b+x+1+y)],_,_,_,rfl,by rw[f5,ZD];rfl,by rw[Ze,Zl];lia,uZ hr (by lia) (λq hq=>by let:=E q hq;lia) (by lia),λq hq=>?_,by lia,by lia};rcases ZQ.mp hq with hq |hq
  .let:=E q hq;lia
  .rw[Zy.mp hq];show b+x+1+y < b+x+1+y+1;lia
 .subst er;k_is;calc{rfl,aE B.pot (by decide) (by decide) λI S4 j3 k3 f=>?_};k_is
  obtain⟨r,at3,h3⟩:∃e:Int,atI [D.int 8,D.int 1,D.int 2,D.int 3,D.int 0] I=aw (D.int e)/\0<=e/\e<=8:=by
   let:I=0\/I=1\/I=2\/I=3\/I=4:=by lia
   rcases this with rfl |rfl |rfl |rfl |rfl
   .exact{8,rfl,by decide,by decide}
   .exact{1,rfl,by decide,by decide}
   .exact{2,rfl,by decide,by decide}
   .exact{3,rfl,by decide,by decide}
   .exact{0,rfl,by decide,by decide}
  calc{_,at3,?_};calc{rfl,aE f.pot (by decide) (by decide) λo J j5 k5 c=>?_};k_is
  obtain⟨s,at5,h5⟩:∃e:Int,atI [D.int 0,D.int 2,D.int 9,D.int 60] o=aw (D.int e)/\0<=e/\e<=60:=by
   let:o=0\/o=1\/o=2\/o=3:=by lia
   rcases this with rfl |rfl |rfl |rfl
   .exact{0,rfl,by decide,by decide}
   .exact{2,rfl,by decide,by decide}
   .exact{9,rfl,by decide,by decide}
   .exact{60,rfl,by decide,by decide}
  calc{_,at5,?_};calc{rfl,Ft c.pot λm M Z d6 hM m1 m4 tr=>?_};let O:=((f.trans c).trans d6).kp _ _ C Y;calc aa (show au df (.ref (Zi S)) Z=aw (.tup (H.map aj),Z) by simp![au,aq,aM O,ZE,df]) ?_;k_is;obtain rfl:=hM.len;exact q r s M H Z (B.trans ((f.trans c).trans d6)) {h3.1,h3.2,h5.1,h5.2,hM,m1,m4,tr,hr,by lia,λq hq=>by let:=E q hq;lia}
end Lw
namespace Lw
open PySem Ev Sn L2
variable {p:Nat} {S d:Sto} {k:Nat} {Q:D->Sto->Prop} {K:Sky}
structure Gs(p N hi:Nat)(S:Sto)(es:List D)(G:List (List Int)):Prop where
 pN:p < N
 at_:S[N]?=aw (.lst es)
 len:es.length=G.length
 row:∀ (i:Nat) g,G[i]?=aw g->∃a,es[i]?=aw (D.ref a)/\N < a/\a < hi/\S[a]?=aw (.lst (g.map D.int))
 inj:∀ (i j a:Nat),es[i]?=aw (D.ref a)->es[j]?=aw (D.ref a)->i=j
section
variable {N hi H:Nat} {es:List D} {G:List (List Int)}
def Gs.keep(h:Gs p N hi S es G)(kp:Ev.Kp p S d):Gs p N hi d es G:=by
 let pN:=h.pN;calc{h.pN,kp _ _ (by lia) h.at_,h.len,λi g f=>?_,h.inj};let{a,e,c,n,z}:=h.row i g f;exact{a,e,c,n,kp _ _ (by lia) z}
def Gs.up(h:Gs p N hi S es G)(j:hi<=H):Gs p N H S es G:=by
 calc{h.pN,h.at_,h.len,λi g c=>?_,h.inj};let{a,e,n,f,z}:=h.row i g c;exact{a,e,n,by lia,z}
def Gs.other(h:Gs p N hi S es G){f:Nat}(l:hi<=f)(hN:N < hi):Gs p N hi (S.set f o) es G:=by
 calc{h.pN,by rw[Zq (by lia)];exact h.at_,h.len,λi g j=>?_,h.inj};let{a,e,n,c,z}:=h.row i g j;exact{a,e,n,c,by rw[Zq (by lia)];exact z}
def Gs.snoc(h:Gs p N S.length S es G):Gs p N (S.length+1) ((S++[Ob.lst (g.map D.int)]).set N (.lst (es++[D.ref S.length]))) (es++[D.ref S.length]) (G++[g]):=by
 let L:N < S.length:=(Zb.mp h.at_).1
 let o:∀ (i a:Nat),es[i]?=aw (D.ref a)->a < S.length:=λi a e=>by
  let hi:i < G.length:=by rw[<-h.len];exact(Zb.mp e).1
  let{b,E,u,n,_}:=h.row i G[i] (gEG hi);rw[e]at E;cases E;exact n
 refine{h.pN,by rw[eD (by rw[Ze];lia)],by rw[Ze,Ze,h.len];rfl,λi v f=>?_,λi j a y E=>?_}
 .by_cases hi:i < G.length
  .rw[ZB hi]at f;let{a,e,u,n,z}:=h.row i v f;exact{a,by rw[ZB (by rw[h.len];exact hi)];exact e,u,by lia,by rw[Zq (by lia),ZB n];exact z}
  .let q:=(Zb.mp f).1;rw[Ze,Zl]at q;obtain rfl:i=G.length:=by lia
   rw[Zv (Zg _),Z5]at f;cases f;exact{S.length,by rw[Zv (by rw[h.len];lia),h.len,Z5];rfl,L,by lia,by rw[Zq (by lia),ay]}
 .let c:∀ (i:Nat),(es++[D.ref S.length])[i]?=aw (D.ref a)->(i < es.length/\es[i]?=aw (D.ref a))\/(i=es.length/\a=S.length):=λi e=>by
   by_cases hi:i < es.length
   .rw[ZB hi]at e;exact .inl ⟨hi,e⟩
   .let q:=(Zb.mp e).1;rw[Ze,Zl]at q;obtain rfl:i=es.length:=by lia
    rw[Zv (Zg _),Z5]at e;cases e;exact .inr ⟨rfl,rfl⟩
  rcases c i y with ⟨h1,l⟩ |⟨h1,l⟩ <;> rcases c j E with ⟨h2,Z⟩ |⟨h2,Z⟩
  .exact h.inj i j a l Z
  .let:=o i a l;lia
  .let:=o j a Z;lia
  .lia
def Gs.setRow(h:Gs p N hi S es G){i a:Nat}(H:i < G.length)(n:es[i]?=aw (D.ref a)):Gs p N hi (S.set a (.lst (g.map D.int))) es (G.set i g):=by
 let{b,o,q,u,v}:=h.row i G[i] (gEG H);rw[n]at o;cases o;let L:=(Zb.mp v).1;calc{h.pN,by rw[Zq (by lia)];exact h.at_,by rw[Yb];exact h.len,λj B f=>?_,h.inj};by_cases l:j=i
 .subst l;rw[ZL H]at f;cases f;exact{a,n,q,u,eD L}
 .rw[Zq (Ne.symm l)]at f;let{c,E,m1,y,Z}:=h.row j B f;let:c≠a:=λz=>l (by rw[z]at E;exact h.inj j i a E n);exact{c,E,m1,y,by rw[Zq (Ne.symm this)];exact Z}
end
abbrev GX(x:Int)(n:Nat)(r s:Int)(g:List Int):Prop:=∃o j f l h q c:Int,g=[o,j,f,l,h,q,c]/\0<=o/\o < n/\0<=j/\j+s<=f/\f<=l/\l<=x/\0<=h/\h<=x/\0<=q/\q<=99/\0<=c/\c<=r
def GX.up{x y:Int}{n:Nat}{r s:Int}(h:GX x n r s g)(u:x<=y):GX y n r s g:=by
 let{o,j,f,L,l,q,c,e,z}:=h;exact{o,j,f,L,l,q,c,e,by omega}
abbrev GB(n:Nat)(r s:Int)(g:List Int):Prop:=GX 530 n r s g
structure SkOk(K:Sky):Prop where
 me:MeOk K.r K.s K.M K.H
 g7:K.G.length<=7
 gb:∀g∈K.G,GX 9999 K.M.length K.r K.s g
 nd:K.F.Nodup
 bd:∀x∈K.F,0<=x/\x < K.G.length
 rg:∀ (j:Nat) g,K.G[j]?=aw g->g.getD 6 0=0\/(j:Int)∈K.F
 ah:∀q,K.ah=aw q->0<=q.1/\q.1 < K.M.length/\0<=q.2/\q.2<=9999
def SkOk.vd(h:SkOk K):Vd K:=by
 calc{h.me.r0,h.me.r8,h.me.s0,h.me.s60,h.me.m1,h.me.m4,h.me.mat.row,h.me.ris,h.me.h4,λq e=>{(h.ah q e).1,(h.ah q e).2.1},h.g7,λg c=>?_};let{n,J,f,L,l,u,j,rfl,h1,h2,o,h4,_}:=h.gb g c;let:=h.me.s0;calc{rfl,h1,h2,?_};show 0<=f
 lia
end Lw
namespace Lw
open PySem Ev Sn
variable {K:Sky}
end Lw
namespace Ev
open PySem
abbrev OkX(o:Option (RR×Sto))(Q:RR->Sto->Prop):Prop:=∃r c,o=aw (r,c)/\Q r c
section
variable {ae:List DefE} {k f:Nat} {d:DefE} {ds:List D} {ρ:Rho} {S:Sto} {g:gQ} {a:Nat->Nat} {r:List RS} {Q:RR->Sto->Prop}
def pH(hd:ae[f]?=aw d)(j:d.rb=aw rs)(c:ds.map aw++Zp (d.N.length - ds.length) aD=ρ)(h:OkX (cE (evX ae k) (cM ae) rs ρ S) Q):OkX (evX ae (k+1) f ds S) Q:=by
 subst c;let z:evX ae (k+1) f ds S=cE (evX ae k) (cM ae) rs (ds.map aw++Zp (d.N.length - ds.length) aD) S:=by simp![evX,hd,j]
 rw[z];exact h
def Fu{Q:D->Sto->Prop}(h:OkX (evX ae k f ds S) λr c=>match r with |.p d=>Q d c |.exc _=>False):Ok (evC ae k f ds S) Q:=by
 let{r,c,e,q}:=h;cases r with
 |p d=>exact{d,c,by delta evC toC;rw[e],q}
 |exc i=>exact q.elim
def Fv(q:Q (.p .non) S):OkX (cE g a [] ρ S) Q:=⟨_,_,rfl,q⟩
def Kd{n:Nat}:fE C a (n+2) [s] ρ S=evS C a (n+1) s ρ S:=by
 show wo (evS C a (n+1) s) (fE C a (n+1) []) ρ S=_;delta wo;cases evS C a (n+1) s ρ S with
 |none=>rfl
 |some z=>
  let{h,c,j}:=z;cases h <;> rfl
def LW(h:rW (wSs (toC g) a 60 [s]) ρ S λc j o=>match c with |.nx=>OkX (cE g a r j o) Q |.rt v=>Q (.p v) o |_=>False):OkX (cE g a (.pl s::r) ρ S) Q:=by
 let{c,l,n,e,q}:=xn h;rw[Kd]at e;let z:evS (toC g) a 59 s ρ S=aw (c,l,n):=e;cases c with
 |nx=>let{v,p,E,u}:=q;exact{v,p,by simp![cE,z];exact E,u}
 |rt v=>exact{.p v,n,by simp![cE,z],q}
 |bk=>exact q.elim
 |ct=>exact q.elim
def qI(h:evA (toC g) a FU E ρ S=aw (ds,S1))(hl:ds.length=a f)(q:OkX (g f ds S1) λv c=>match v with |.p _=>OkX (cE g a r ρ c) Q |.exc i=>Q (.exc i) c):OkX (cE g a (.ck f E::r) ρ S) Q:=by
 let{v,c,e,q}:=q;cases v with
 |p d=>
  let{v,l,n,j}:=q;exact{v,l,by simp![cE,xck,h,hl,if_true,e];exact n,j}
 |exc i=>exact{.exc i,c,by simp![cE,xck,h,hl,if_true,e],q}
def Fw{i:Nat}(h:wT (toC g) a 60 c ρ S λb j=>if b=aN then i < 14/\Q (.exc i) j else OkX (cE g a r ρ j) Q):OkX (cE g a (.rz c i::r) ρ S) Q:=by
 let{b,j,e,q}:=(oT 60).t _ _ _ h;let z:evT (toC g) a FU c ρ S=aw (b,j):=e;cases b with
 |true=>
  rw[if_pos rfl]at q;exact{.exc i,j,by simp![cE,z];rw[if_pos q.1],q.2}
 |false=>
  rw[if_neg Zd]at q;let{v,l,E,n}:=q;exact{v,l,by simp![cE,z];exact E,n}
def LX{l I:Nat}{c:Bool}{E:List CE}{ds:List D}{S1:Sto}(hc:ρ[I]?=aw (aw (.int (if c then 1 else 0))))(h:evA (toC g) a FU E ρ S=aw (ds,S1))(hl:ds.length=a (if c then l else f))(q:OkX (g (if c then l else f) ds S1) λv j=>match v with |.p d=>Q (.p d) j |.exc i=>∃w,si i=aw w/\Q (.p (.str w)) j):OkX (cE g a (.tr f l I E::r) ρ S) Q:=by
 let{v,j,e,q}:=q
 let k:cE g a (.tr f l I E::r) ρ S=xck g (a (if c then l else f)) (if c then l else f) (evA (toC g) a FU E ρ S) λv j=>(match v with
   |.p d=>aw (.p d,j)
   | .exc i=>(si i).map λw=>(.p (.str w),j)):=by
  simp![cE,hc];cases c <;> rfl
 cases v with
 |p d=>exact{.p d,j,by rw[k];simp![xck,h,hl,if_true,e],q}
 |exc i=>
  let{w,n,q}:=q;exact{.p (.str w),j,by rw[k];simp![xck,h,hl,if_true,e];rw[n];rfl,q}
end
def o0(I:Nat->Rho->Sto->Prop)
  (step:∀n g S,I n g S->Ok (c g S) λt p=>if t=aN then OkS (b g p) λo f j=>(match o with |.nx=>∃m,m < n/\I m f j |.ct=>∃m,m < n/\I m f j |.bk=>Q .nx f j |.rt d=>Q (.rt d) f j) else Q .nx g p) :
  ∀ (k n:Nat) (g:Rho) (S:Sto),n < k->I n g S->OkS (bZ c b k g S) Q
 |0,n,g,S,h,_=>absurd h (Wl _)
 |k+1,n,g,S,h,i=>by
  let{t,p,e,q}:=step n g S i;cases t with
  |false=>rw[if_neg Zd]at q;exact{.nx,g,p,by simp![bZ,e],q}
  |true=>
   rw[if_pos rfl]at q;let{o,f,j,E,q}:=q;cases o with
   |nx=>
    let{m,C,v}:=q;let{o,l,y,B,u}:=o0 I step k m f j (by omega) v;exact{o,l,y,by simp![bZ,e,E];exact B,u}
   |ct=>
    let{m,C,v}:=q;let{o,l,y,B,u}:=o0 I step k m f j (by omega) v;exact{o,l,y,by simp![bZ,e,E];exact B,u}
   |bk=>exact{.nx,f,j,by simp![bZ,e,E],q}
   |rt d=>exact{.rt d,f,j,by simp![bZ,e,E],q}
end Ev
namespace Lw
open PySem Ev Sn L2
variable {p:Nat} {S s:Sto} {k:Nat} {Q:D->Sto->Prop} {K:Sky}
def bz{c:Type}{l:List c}{E:c->D}{S:Sto}:au dS (.tup (l.map E)) S=aw (.int l.length,S):=by simp![au,aq,dS,Za]
def xv{c:Type}{l:List c}:l.all (λ_=>aN)=aN:=ZM.mpr λ_ _=>rfl
def xy{j:Type}{nx:Nxt}{T:Tg}{c:XA}{g:Rho}(l:List j)(E:j->D)(hl:l.length<=1000)(h:∀i s,Sm S s->nx i s=aw ((l[i]?).map E))
  (step:∀ (i:Nat) a s,l[i]?=aw a->Sm S s->∃d,aB T (E a) g=aw d/\Ok (c d s) λf n=>f=[.bl aN]/\Sm s n) (q:∀s,Sm S s->Q (.bl aN) s) :
  Ok (bD nx T c g LF 0 S) λf o=>f.length<=100000/\Ok (lW aS f o) Q:=by
 calc bK l E (λ_=>[.bl aN]) hl (λ_ _=>Zg _) h step λs u=>?_;rw[bT];calc aa (f9 l (λ_=>aN) s) ?_;rw[xv];exact q s u
def xz{i a b:Int}(h:a<=i)(h1:i<=b)(q:Q (.bl aN) S):Ok (evC ae (k+2) 1 [.int i,.int a,.int b] S) Q:=kU (p:=0) bc (by
 rw[show Dw.bX (.int i) a b=aN by simp![Dw.bX,decide_eq_true h,decide_eq_true h1,XQ]];exact q)
def Ke{i:Int}(h:0<=i)(h1:i<=9999)(q:Q (.bl aN) S):Ok (evC ae (k+3) 2 [.int i] S) Q:=AZ (p:=0) bc (by
 rw[show Dw.bX (.int i) 0 9999=aN by simp![Dw.bX,decide_eq_true h,decide_eq_true h1,XQ]];exact q)
def pJ{ts:List Dw.D}{d:List D}{a b:Int}(h:TDs 0 S ts d)(c:a<=ts.length)(h1:(ts.length:Int)<=b)(q:Q (.bl aN) S):Ok (evC ae (k+1) 3 [.tup d,.int a,.int b] S) Q:=oU (bh h) (by
 rw[show Dw.isT (.tup ts) a b=aN by simp![Dw.isT,decide_eq_true c,decide_eq_true h1,XQ]];exact q)
def mD{M:List (List Int)}:(Dw.lU M).length=M.length:=by delta Dw.lU;rw[Za]
def Uw{r:List Int}{n:Nat}(hl:r.length=n)(f:n<=4)(c:∀x∈r,1<=x/\x<=99)(q:∀s,Sm S s->Q (.bl aN) s):Ok (evC ae (k+3) 9 [aH r,.int n] S) Q:=by
 calc az (d:=fW) (ρ:=[aw (aH r),aw (.int n)]) rfl rfl ?_;dsimp![fW,j6];rw[show aH r = .tup (r.map D.int) from rfl];k_is;calc{rfl,pJ (dD r) (by rw[Za];lia) (by rw[Za];lia) ?_};k_is;calc xy r D.int (by lia) cg (λi x s h sm=>{_,rfl,?_}) q;k_is;let:=c x (Zj h);exact{rfl,xz this.1 this.2 {rfl,Sm.refl _}}
def Fx{es:List D}(h:∀e∈es,e = .bl aN)(S:Sto):lW aS es S=aw (.bl aN,S):=by
 let e:es.map (λ_=>D.bl aN)=es:=by
  conv=>rhs;rw[<-Wd es]
  exact YD λx c=>(h x c).symm
 rw[<-e];exact(f9 es (λ_=>aN) S).trans (by rw[xv])
def Ux(y:SkOk K)(q:∀s,Sm S s->Q (.bl aN) s):Ok (evC ae (k+1) 10 [.tup (K.M.map aH)] S) Q:=by
 calc az (d:=bx) (ρ:=[aw (.tup (K.M.map aH)),aD]) rfl rfl ?_;dsimp![bx,bV];let V:=y.vd;let m4:=y.me.m4;k_is;calc aa bz ?_;calc{_,rfl,by lia,?_};k_is;let o:(S++[Ob.lst ((Zm K.M.length).map λj=>D.int (Int.ofNat j))])[S.length]?=aw (.lst ((Zm K.M.length).map λj=>D.int (Int.ofNat j))):=ay;let v:∀s,Sm (S++[Ob.lst ((Zm K.M.length).map λj=>D.int (Int.ofNat j))]) s->(aU s S.length).isSome=aN:=λs sm=>by rw[aM (sm _ _ o)];rfl
 calc{v _ (Sm.refl _),?_};refine(wZ o (by lia) (λa=>(Zm K.M.length).flatMap λb=>(Zm K.M.length).flatMap λc=>[.bl aN]) λa S1 I g=>{_,rfl,?_}).mono λes U ⟨B,sm⟩=>?_
 .k_is;calc{v _ g,?_};calc wZ (g _ _ o) (by lia) _ λb U hb l=>{_,rfl,?_};k_is;calc{v _ (g.trans l),?_};calc wZ (l _ _ (g _ _ o)) (by lia) _ λc u hc Z=>{_,rfl,?_};k_is;let{r1,C,E}:=oW (S:=u) V (a:=a) (b:=b) (by lia) (by lia) (by lia) (by lia);let{r2,O,X}:=oW (S:=u) V (a:=a) (b:=c) (by lia) (by lia) (by lia) (by lia);let{r3,J,L}:=oW (S:=u) V (a:=c) (b:=b) (by lia) (by lia) (by lia) (by lia);calc aa C (aa E (aa O (aa X (aa J (aa L ?_)))));k_is;calc{?_,Sm.refl _};let t:=y.me.tri a b c I hb hc;rw[decide_eq_true (show gp K a b<=gp K a c+gp K c b from t)]
 .subst B
  let all:∀e∈(Zm K.M.length).flatMap λa=>(Zm K.M.length).flatMap λb=>(Zm K.M.length).flatMap λc=>[D.bl aN],e = .bl aN:=λe h=>by
   let{a,_,h}:=Ye.mp h;let{b,_,h}:=Ye.mp h;let{c,_,h}:=Ye.mp h;exact Zy.mp h
  calc{?_,aa (Fx all _) (q _ ((Sm.app S _).trans sm))};let Y:∀a b:Nat,((Zm K.M.length).flatMap λc=>[D.bl aN]).length<=4:=λ_ _=>by rw[bT (Zm K.M.length) (λ_=>D.bl aN),Za,ZI];exact m4
  let T:∀a:Nat,((Zm K.M.length).flatMap λb=>(Zm K.M.length).flatMap λc=>[D.bl aN]).length<=K.M.length * 4:=λa=>Dw.yf λb _=>Y a b;let f1:=Dw.yf (n:=K.M.length) (m:=K.M.length * 4) (f:=λa=>(Zm K.M.length).flatMap λb=>(Zm K.M.length).flatMap λc=>[D.bl aN]) λa _=>T a;let:K.M.length * (K.M.length * 4)<=4 * (4 * 4):=Wq m4 (Wq m4 (Zg _))
  lia
def QR(c:SkOk K)(q:∀s,Sm S s->Q (.bl aN) s):Ok (evC ae (k+4) 8 [.tup (K.M.map aH)] S) Q:=by
 calc az (d:=jk) (ρ:=[aw (.tup (K.M.map aH))]) rfl rfl ?_;dsimp![jk,oC];let m1:=c.me.m1;let m4:=c.me.m4;k_is;calc{rfl,pJ (im K.M) (by rw[mD];lia) (by rw[mD];lia) ?_};k_is;refine xy K.M aH (by lia) cg (λi r s j sm=>{_,rfl,?_}) λs sm=>?_
 .k_is;calc aa bz ?_;let h:=Zj j;exact{rfl,Uw (c.me.mat.row r h) m4 (c.me.mat.ent r h) λg f=>⟨rfl,f⟩}
 .k_is;exact{rfl,Ux c λg f=>q g (sm.trans f)}
def Bb{z:Int×Int}(h:0<=z.1)(h1:z.1 < z.2)(h2:z.2<=9999)(q:Q (.bl aN) S):Ok (evC ae (k+4) 12 [aj z] S) Q:=by
 calc az (d:=fX) (ρ:=[aw (aj z)]) rfl rfl ?_;dsimp![fX,j7];rw[show aj z = .tup [.int z.1,.int z.2] from rfl];let X:ixS (.tup [D.int z.1,.int z.2]) (.int 0) S=aw (.int z.1,S):=rfl;let c:ixS (.tup [D.int z.1,.int z.2]) (.int 1) S=aw (.int z.2,S):=rfl;k_is;calc{rfl,pJ (ak bc (ak bc aY)) (Z4 _) (Z4 _) ?_};k_is;calc aa X {rfl,Ke h (by lia) ?_};k_is;calc aa c {rfl,Ke (by lia) h2 ?_};k_is;calc aa X (aa c ?_);k_is;rw[decide_eq_true h1];exact q
def Kf(g:SkOk K)(q:∀s,Sm S s->Q (.bl aN) s):Ok (evC ae (k+5) 11 [.tup (K.H.map aj)] S) Q:=by
 calc az (d:=gY) (ρ:=[aw (.tup (K.H.map aj))]) rfl rfl ?_;dsimp![gY,lm];let h4:=g.me.h4;k_is;calc{rfl,pJ (ig K.H) (by rw[Za];lia) (by rw[Za];lia) ?_};k_is;refine xy K.H aj (by lia) cg (λi z s j sm=>{_,rfl,?_}) λs sm=>?_
 .k_is;let a:=mB g.me.ris (Zj j);exact{rfl,Bb (by lia) a.2 (g.me.hb z (Zj j)) {rfl,Sm.refl _}}
 .k_is;calc aa bz ?_;k_is;calc{{by decide,io (by lia) (by lia)},?_};refine Iu (by lia) (λ_=>aN) (λi c n f=>{_,rfl,?_}) λc f=>?_
  .k_is;let h:i+1 < K.H.length:=by lia
   let l:(1:Int)+i=((i+1:Nat):Int):=by lia
   let Z:((i+1:Nat):Int) - 1=((i:Nat):Int):=by lia
   rw[l,Z];calc aa (oV (d:=aj K.H[i+1]) (by lia) (by rw[ZF,Zo,gEG h];rfl)) (aa (show ixS (aj K.H[i+1]) (.int 0) c=aw (.int K.H[i+1].1,c) from rfl) ?_);calc aa (oV (d:=aj K.H[i]) (by lia) (by rw[ZF,Zo,gEG (by lia)];rfl)) (aa (show ixS (aj K.H[i]) (.int 1) c=aw (.int K.H[i].2,c) from rfl) ?_);k_is;rw[decide_eq_true (u0 g.me.ris i _ _ (gEG (by lia)) (gEG h))];exact{rfl,Sm.refl _}
  .calc aa (f9 _ (λ_=>aN) _) ?_;rw[xv];exact q c (sm.trans f)
def Fy(c:SkOk K)(q:∀s,Sm S s->Q (.bl aN) s):Ok (evC ae (k+6) 7 [meE K] S) Q:=by
 calc az (d:=gX) (ρ:=[aw (meE K),aD,aD,aD,aD]) rfl rfl ?_;dsimp![gX,ll];rw[show meE K = .tup [.int K.r,.int K.s,.tup (K.M.map aH),.tup (K.H.map aj)] from rfl];k_is;calc{rfl,pJ (ak bc (ak bc (ak (bh (im K.M)) (ak (bh (ig K.H)) aY)))) (Z4 _) (Z4 _) ?_};k_is;calc{rfl,xz c.me.r0 c.me.r8 ?_};k_is;calc{rfl,xz c.me.s0 c.me.s60 ?_};k_is;calc{rfl,QR c λj g=>?_};k_is;exact{rfl,Kf c λf h=>q f (g.trans h)}
def Fz{i:Int}(h:0<=i)(h1:i < K.M.length)(q:Q (.bl aN) S):Ok (evC ae (k+3) 13 [meE K,.int i] S) Q:=by
 calc az (d:=kO) (ρ:=[aw (meE K),aw (.int i)]) rfl rfl ?_;dsimp![kO,qB];k_is;calc aa me2 (aa bz ?_);k_is;exact{rfl,xz h (by lia) q}
def Kg(f:SkOk K)(q:Q (.bl aN) S):Ok (evC ae (k+4) 16 [meE K,ahE K.ah] S) Q:=by
 calc az (d:=jl) (ρ:=[aw (meE K),aw (ahE K.ah)]) rfl rfl ?_;dsimp![jl,oE];cases h:K.ah with
 |none=>k_is;exact aa (show am .is (ahE aD) .non S=aw (.bl aN,S) from rfl) q
 |some z=>
  let{j,c,B,g}:=f.ah z h;let X:ixS (.tup [D.int z.1,.int z.2]) (.int 0) S=aw (.int z.1,S):=rfl;let l:ixS (.tup [D.int z.1,.int z.2]) (.int 1) S=aw (.int z.2,S):=rfl;rw[show ahE (aw z) = .tup [.int z.1,.int z.2] from rfl];k_is;calc aa (show am .is (.tup [D.int z.1,.int z.2]) .non S=aw (.bl aS,S) from rfl) ?_;k_is;calc{rfl,pJ (ak bc (ak bc aY)) (Z4 _) (Z4 _) ?_};k_is;calc aa X {rfl,Fz j c ?_};k_is;exact aa l {rfl,Ke B g q}
def FA(v:SkOk K){g:List Int}(U:g∈K.G)(q:∀s,Sm S s->Q (.bl aN) s):Ok (evC ae (k+4) 18 [meE K,aH g] S) Q:=by
 let{h,j,f,L,c,n,o,rfl,X,B,b0,C,T,Z,c0,c1,y,O,J,I}:=v.gb g U;let s0:=v.me.s0;calc az (d:=hF) (ρ:=[aw (meE K),aw (aH [h,j,f,L,c,n,o]),aD,aD,aD,aD,aD,aD,aD]) rfl rfl ?_;dsimp![hF,ls];rw[show aH [h,j,f,L,c,n,o] = .tup [.int h,.int j,.int f,.int L,.int c,.int n,.int o] from rfl];k_is;calc{rfl,pJ (dD [h,j,f,L,c,n,o]) (Z4 _) (Z4 _) ?_};k_is;refine xy [j,f,L,c] D.int (by show 4<=1000;decide) (cg (l:=[j,f,L,c]) (E:=D.int)) (λi x s Y sm=>{_,rfl,?_}) λs sm=>?_
 .k_is;let u:=Zj Y;simp![Zn,ZX,or_false]at u;refine{rfl,Ke ?_ ?_ {rfl,Sm.refl _}}
  .rcases u with rfl |rfl |rfl |rfl <;> lia
  .rcases u with rfl |rfl |rfl |rfl <;> lia
 .k_is;calc aa me1 ?_;k_is;rw[decide_eq_true C];k_is;rw[decide_eq_true T];k_is;calc{rfl,Fz X B ?_};k_is;calc{rfl,xz y O ?_};k_is;refine aa me0 {rfl,xz J I (q s sm)}
def Bc(c:SkOk K)(q:∀s,Sm S s->Q (.bl aN) s):Ok (evC ae (k+5) 17 [meE K,.tup (K.G.map aH)] S) Q:=by
 calc az (d:=e9) (ρ:=[aw (meE K),aw (.tup (K.G.map aH))]) rfl rfl ?_;dsimp![e9,iW];let g7:=c.g7;k_is;calc{rfl,pJ (im K.G) (by rw[mD];lia) (by rw[mD];lia) ?_};k_is;calc xy K.G aH (by lia) cg (λi g s h sm=>{_,rfl,?_}) q;k_is;exact{rfl,FA c (Zj h) λj f=>⟨rfl,f⟩}
def FC(c:SkOk K)(q:∀s,Sm S s->Q (.bl aN) s):Ok (evC ae (k+3) 4 [.tup (K.F.map D.int),.int K.G.length] S) Q:=by
 calc az (d:=cx) (ρ:=[aw (.tup (K.F.map D.int)),aw (.int K.G.length)]) rfl rfl ?_;dsimp![cx,fQ];let g7:=c.g7;let l:=Dw.bG K.G.length K.F c.nd c.bd;k_is;calc{rfl,pJ (dD K.F) (by rw[Za];lia) (by rw[Za];lia) ?_};k_is;refine xy K.F D.int (by lia) cg (λi x s h sm=>{_,rfl,?_}) λs sm=>?_
 .k_is;let:=c.bd x (Zj h);exact{rfl,xz this.1 (by lia) {rfl,Sm.refl _}}
 .k_is;calc xy K.F D.int (by lia) cg (λi x g h f=>{_,rfl,?_}) λg f=>q g (sm.trans f);k_is;calc{rfl,aa (uI K.F x g) ?_};k_is;rw[show((K.F.count x:Nat):Int)=1 by rw[List.Nodup.count c.nd,if_pos (Zj h)];rfl];exact{rfl,Sm.refl _}
def Kh(n:SkOk K)(q:∀s,Sm S s->Q (.bl aN) s):Ok (evC ae (k+4) 19 [.tup (K.G.map aH),.tup (K.F.map D.int)] S) Q:=by
 calc az (d:=hJ) (ρ:=[aw (.tup (K.G.map aH)),aw (.tup (K.F.map D.int))]) rfl rfl ?_;dsimp![hJ,lu];let g7:=n.g7;k_is;calc aa bz ?_;calc{rfl,FC n λv Y=>?_};k_is;refine kS K.G.length (λi=>.tup [.int i,((K.G.map aH)[i]?).getD .non]) (λi f s=>Sm v s/\f.length=i/\∀e∈f,e = .bl aN) (λi f s h _=>?_) (by lia) (λi f s h y=>?_) (λZ s C=>by let{g,U,o}:=C;exact{by lia,aa (Fx o _) (q s (Y.trans g))}) {Sm.refl _,rfl,λe B=>by cases B}
 .show enm (K.G.map aH) i=_;delta enm;rw[if_pos (by rw[Za];exact h)];split
  .rename_i u;rw[gEG (by rw[Za];exact u)];rfl
  .rw[Zx (by rw[Za];lia)];rfl
 .let{g,U,o}:=y;let{I,O,E,l,T,J,j,L,_}:=n.gb K.G[i] (ZS h);let rg:=n.rg i _ (gEG h);let X:((K.G.map aH)[i]?).getD .non = .tup [.int I,.int O,.int E,.int l,.int T,.int J,.int j]:=by rw[Zo,gEG h,L];rfl
  rw[L]at rg;let rg:j=0\/(i:Int)∈K.F:=rg;rw[X];let fin:∀s,Sm v s->Sm v s/\(f++[D.bl aN]).length=i+1/\∀e∈f++[D.bl aN],e = .bl aN:=λs g=>{g,by rw[Ze,Zl];lia,λe B=>(ZQ.mp B).elim (o e) λz=>Zy.mp z};calc{_,fj (by simp) (by simp),?_};k_is;calc aa (show ixS (.tup [D.int I,.int O,.int E,.int l,.int T,.int J,.int j]) (.int 6) s=aw (.int j,s) from rfl) ?_;k_is;cases c:decide (j=0) with
  |true=>k_is;exact fin s g
  |false=>
   k_is;calc aa (show am .s (.int (i:Int)) (.tup (K.F.map D.int)) s=aw (.bl (aS != decide ((i:Int)∈K.F)),s) from kf aS K.F i s) ?_;rw[decide_eq_true (rg.resolve_left (of_decide_eq_false c))];exact fin s g
def Uy(c:SkOk K)(q:∀s,Sm S s->Q (.bl aN) s):Ok (evC ae (k+7) 15 [skE K] S) Q:=by
 calc az (d:=gZ) (ρ:=[aw (skE K),aD,aD,aD,aD]) rfl rfl ?_;dsimp![gZ,oD];rw[show skE K = .tup [meE K,ahE K.ah,.tup (K.G.map aH),.tup (K.F.map D.int)] from rfl];k_is;calc{rfl,pJ (ts:=[.tup [.int K.r,.int K.s,.tup (Dw.lU K.M),.tup (K.H.map Dw.qa)],ahT K.ah,.tup (Dw.lU K.G),.tup (K.F.map Dw.D.int)]) (ak (bh (ak bc (ak bc (ak (bh (im K.M)) (ak (bh (ig K.H)) aY))))) (ak (LU K.ah) (ak (bh (im K.G)) (ak (bh (dD K.F)) aY)))) (Z4 _) (Z4 _) ?_};k_is;calc{rfl,Fy c λl h=>?_};k_is;calc{rfl,Kg c ?_};k_is;calc{rfl,Bc c λn j=>?_};k_is;exact{rfl,Kh c λg f=>q g ((h.trans j).trans f)}
def FD{Q:RR->Sto->Prop}(c:SkOk K)(q:∀s,Sm S s->Q (.p .non) s):OkX (evX ae (k+8) 21 [skE K] S) Q:=by
 calc pH (d:=hV) (rs:=cY) (ρ:=[aw (skE K)]) rfl rfl rfl ?_;delta cY;calc Fw ?_;k_is;calc{rfl,Uy c λs sm=>?_};k_is;exact Fv (q s sm)
end Lw
namespace Sn
open Ev PySem
abbrev jnd(m x:Int):Int:=if x > m then x else m
abbrev o3(c:List (Int×List Int)):Option (Int×List Int):=c[argBest (nS c) (c.length - 1)]?
abbrev rst(left:List Int)(g:Int):List Int:=left.filter λx=>!decide (x=g)
abbrev bb(K:Sky):Nat->Option (Int×Int)->List Int->Option (Int×List Int)
 |0,_,_=>aw (0,[])
 | n+1,ah,left=>o3 (left.filterMap λg=>match step K ah g (~~~K - (n+1)) with
  |none=>aD
  | some m=>(bb K n (aw (gi K.G g 0,m)) (rst left g)).map λz=>(jnd m z.1,g::z.2))
abbrev bw(K:Sky)(n:Nat)(ah:Option (Int×Int))(left:List Int)(g:Int):Option (Int×List Int):=match step K ah g (~~~K - (n+1)) with
 |none=>aD
 |some m=>(bb K n (aw (gi K.G g 0,m)) (rst left g)).map λz=>(jnd m z.1,g::z.2)
def sH{K:Sky}{n:Nat}{ah:Option (Int×Int)}{left:List Int}:bb K (n+1) ah left=o3 (left.filterMap (bw K n ah left)):=rfl
def Be{ws:List (Int×List Int)}{z:Int×List Int}(h:o3 ws=aw z):z∈ws:=Zj h
def xD{K:Sky}:∀ (n:Nat) (ah:Option (Int×Int)) (left:List Int) (z:Int×List Int),bb K n ah left=aw z->z.2.length=n
 |0,_,_,z,h=>by cases h;rfl
 |n+1,ah,left,z,h=>by
  rw[sH]at h;let{g,_,e}:=Yq.mp (Be h);delta bw at e;split at e
  .cases e
  .let{y,E,rfl}:=ZP.mp e;rw[Zr,xD n _ _ y E]
end Sn
namespace Lw
open PySem Ev Sn L2
variable {p:Nat} {S t:Sto} {k:Nat} {Q:D->Sto->Prop} {K:Sky}
abbrev eI:D:=.str "last"
abbrev bF:Option (Int×List Int)->D
 |none=>.non
 |some z=>.tup [.int z.1,.tup (z.2.map D.int)]
abbrev Uz:Option (Int×Int)->NK
 |none=>.non
 |some z=>.tup [.inl z.1,.inl z.2]
abbrev iT(ah:Option (Int×Int))(left:List Int):List NK:=[Uz ah,.tup (left.map Sum.inl)]
def o4:∀ (xs:List Int),fA (xs.map D.int)=aw (xs.map Sum.inl)
 |[]=>rfl
 |x::xs=>by rw[Zw,fA,o4 xs];rfl
def fL{ah:Option (Int×Int)}{left:List Int}:pq (.tup [ahE ah,.tup (left.map D.int)])=aw (iT ah left):=by
 let e:CB (.tup (left.map D.int))=aw (.tup (left.map Sum.inl)):=by show(fA _).map _=_;rw[o4];rfl
 let E:CB (ahE ah)=aw (Uz ah):=by cases ah <;> rfl
 show qd _=_;simp![qd,e,E,iT]
def zm:∀ {xs Y:List Int},xs.map (Sum.inl:Int->Key)=Y.map Sum.inl->xs=Y
 |[],[],_=>rfl
 |[],_::_,e=>by cases e
 |_::_,[],e=>by cases e
 |x::xs,y::Y,e=>by
  let{a,b}:=Xh.inj e;cases a;rw[zm b]
def u3{a b:Option (Int×Int)}{xs ys:List Int}(h:iT a xs=iT b ys):a=b/\xs=ys:=by
 delta iT at h;let{h1,h2}:=Xh.inj h;let{h2,_}:=Xh.inj h2;calc{?_,zm (NK.tup.inj h2)};cases a with
 |none=>cases b with
  |none=>rfl
  |some z=>cases h1
 |some z=>cases b with
  |none=>cases h1
  |some w=>
   let{c,Z}:=z;let{d,w2}:=w;cases h1;rfl
abbrev KI(K:Sky)(c:List (List NK))(f:List D):Prop:=c.length=f.length/\∀ah left d,atD c f (iT ah left)=aw d->d=bF (bb K left.length ah left)
structure Kn(K:Sky)(p c:Nat)(S:Sto):Prop where
 ex:∃kss ds,S[p]?=aw (.dct kss ds)/\KI K kss ds/\kss.length<=c
abbrev cnt:Nat->Nat
 |0=>0
 |n+1=>(n+1) * cnt n+1
def vf:∀ {c:List (List NK)} {f:List D} {k:List NK} {v:D},(atD c f k).isSome=aN->atD c (gL k v c f) k=aw v
 |[],_,_,_,h=>by simp[atD]at h
 |_::_,[],_,_,h=>by simp[atD]at h
 |a::c,d::f,k,v,h=>by
  simp![gL,atD]at h ⊢;split
  .rfl
  .rename_i e;rw[if_neg e]at h;exact vf h
def sI:∀ {c:List (List NK)} {g:List D} {k f:List NK} {v:D},c.length=g.length->atD (c++[k]) (g++[v]) f=match atD c g f with |some d=>aw d |none=>if k=f then aw v else aD
 |[],[],k,f,v,_=>rfl
 |[],_::_,_,_,_,h=>by simp at h
 |_::_,[],_,_,_,h=>by simp at h
 |a::c,d::g,k,f,v,h=>by
  simp![X9,atD];split
  .rfl
  .exact sI (by simpa using h)
def zo:∀ {c:List (List NK)} {g:List D} {k f:List NK} {v d:D},atD c (gL k v c g) f=aw d->(k=f/\d=v)\/(atD c g f=aw d)
 |[],_,_,_,_,_,h=>by simp[gL,atD]at h
 |_::_,[],_,_,_,_,h=>by simp[gL,atD]at h
 |a::c,e::g,k,f,v,d,h=>by
  simp![gL,atD]at h ⊢;split at h
  .rename_i E;subst E;cases h;split
   .rename_i j;exact .inl ⟨j.symm,rfl⟩
   .exact .inr (if_pos rfl)
  .rename_i E;rw[if_neg E];exact zo h
def qJ{r:D}{m x:Int}(q:Q (.int (jnd m x)) S):Ok (evC ae (k+2) 35 [eI,r,.int m,.int x] S) Q:=by
 calc az (d:=oO) (ρ:=[aw eI,aw r,aw (.int m),aw (.int x)]) rfl rfl ?_;dsimp![oO,uG];delta jnd at q;k_is;calc aa (show am .eq eI (.str "last") S=aw (.bl aN,S) from rfl) ?_;k_is;exact q
def xE{left:List Int}{g:Int}(hl:left.length<=100)(q:∀t,Sm S t->Q (.tup ((rst left g).map D.int)) t):Ok (evC ae (k+1) 6 [.tup (left.map D.int),.int g] S) Q:=by
 calc az (d:=kN) (ρ:=[aw (.tup (left.map D.int)),aw (.int g)]) rfl rfl ?_;dsimp![kN,qA];k_is;refine bK left D.int (λx=>if (!decide (x=g))=aN then [D.int x] else []) (by lia) (λa _=>by split <;> simp) cg (λi x t j sm=>{_,rfl,?_}) λf h=>?_
 .k_is;cases c:!decide (x=g) with
  |true=>exact{rfl,Sm.refl _}
  |false=>exact{rfl,Sm.refl _}
 .rw[bH];exact aa (show df aS (((rst left g)).map D.int) f=aw (.tup ((rst left g).map D.int),f) from rfl) (q f h)
structure Lf(K:Sky)(n:Nat)(ah:Option (Int×Int))(left:List Int):Prop where
 nd:left.Nodup
 bd:∀g∈left,0<=g/\g < K.G.length
 ln:left.length=n
 le:n<=K.G.length
 ah:∀q,ah=aw q->0<=q.1/\q.1 < K.M.length
def sJ:∀ {left:List Int} {g:Int},left.Nodup->g∈left->(rst left g).length+1=left.length
 |[],_,_,h=>by cases h
 |a::l,g,nd,h=>by
  rw[ZV]at nd;delta rst;by_cases e:a=g
  .subst e;rw[List.filter_cons_of_neg (by simp)]
   rw[XM.mpr λx c=>by
    let:¬ x=a:=λz=>nd.1 (z▸c);simp[this]]
   rw[Zr]
  .rw[List.filter_cons_of_pos (by simp[e]),Zr,Zr];let:=sJ nd.2 ((Zn.mp h).resolve_left λz=>e z.symm);delta rst at this
   lia
def Lf.rst{n:Nat}{ah:Option (Int×Int)}{left:List Int}{g m:Int}(h:Lf K (n+1) ah left)(f:g∈left)(j:0<=gi K.G g 0)(d:gi K.G g 0 < K.M.length):Lf K n (aw (gi K.G g 0,m)) (Sn.rst left g):=by
 let l:=sJ h.nd f;let:=h.ln;let:=h.le;exact{h.nd.filter _,λx c=>h.bd x (Z2.mp c).1,by lia,by lia,λq e=>by cases e;exact⟨j,d⟩}
abbrev BB(K:Sky)(p n k:Nat):Prop:=∀ (ah:Option (Int×Int)) (left:List Int) (S:Sto) (c:Nat) (Q:D->Sto->Prop),Lf K n ah left->Kn K p c S->c+cnt n<=99999->(∀t,Kp p S t->Kn K p (c+cnt n) t->Q (bF (bb K n ah left)) t)->Ok (evC ae k 36 [skE K,eI,ahE ah,.tup (left.map D.int),.ref p] S) Q
def Kn.kp{c:Nat}(h:Kn K p c S)(s:Sm S t):Kn K p c t:=let ⟨kss,ds,e,k⟩:=h.ex;{kss,ds,s _ _ e,k}
def Kn.up{c C:Nat}(h:Kn K p c S)(hc:c<=C):Kn K p C S:=let ⟨kss,ds,e,k,z⟩:=h.ex;{kss,ds,e,k,Zz z hc}
def Ki(O:SkOk K){n k:Nat}(X:BB K p n (k+5)){ah:Option (Int×Int)}{left:List Int}{g:Int}(L:Lf K (n+1) ah left)(T:g∈left){C:Nat}(J:Kn K p C S)(y:C+cnt n<=99999)(q:∀t,Kp p S t->Kn K p (C+cnt n) t->Q (bF (bw K n ah left g)) t):Ok (evC ae (k+6) 37 [skE K,eI,ahE ah,.tup (left.map D.int),.int g,.ref p] S) Q:=by
 calc az (d:=hX) (ρ:=[aw (skE K),aw eI,aw (ahE ah),aw (.tup (left.map D.int)),aw (.int g),aw (.ref p),aD,aD,aD]) rfl rfl ?_;dsimp![hX,lA];let V:=O.vd;let g7:=O.g7;let hb:=L.bd g T;let ln:=L.ln;let le:=L.le;let{a,b,c,d,e,f,h,Z,E,e1,e2,e3,e6,a0,U,c0}:=gl7 V hb.1 hb.2;k_is;calc aa sk2 (aa bz (aa bz ?_));k_is;rw[show((~~~K:Int) - left.length)=((~~~K - (n+1):Nat):Int) by lia];calc{rfl,qH (k:=k+2) V L.ah hb.1 hb.2 λu B=>?_};delta bw at q;cases hs:step K ah g (~~~K - (n+1)) with
 |none=>
  rw[hs]at q;rw[show kj aD = .non from rfl];k_is;calc aa (show am .is .non .non u=aw (.bl aN,u) from rfl) ?_;k_is;exact q u B.kp ((J.kp B).up (Wa _ _))
 |some m=>
  rw[hs]at q;rw[show kj (aw m) = .int m from rfl];k_is;calc aa (show am .is (.int m) .non u=aw (.bl aS,u) from rfl) ?_;k_is;calc aa sk2 (aa (eF hb.1 Z) ?_);k_is;calc aa (show ixS (aH [a,b,c,d,e,f,h]) (.int 0) u=aw (.int a,u) from rfl) ?_;k_is;refine{rfl,xE (k:=k+4) (by lia) λS2 s2=>?_}
  let Y:Lf K n (aw (a,m)) (Sn.rst left g):=by
   let:=L.rst (m:=m) T (by rw[E];exact a0) (by rw[E];exact U)
   rwa[E]at this
  let o:=B.trans s2;calc{rfl,X (aw (a,m)) (Sn.rst left g) S2 C _ Y (J.kp o) y λj I v=>?_};rw[E]at q;cases l:bb K n (aw (a,m)) (Sn.rst left g) with
  |none=>
   dsimp! at q;rw[l]at q;rw[show bF aD = .non from rfl];k_is;calc aa (show am .is .non .non j=aw (.bl aN,j) from rfl) ?_;k_is;exact q j (o.kp.trans I) v
  |some z=>
   dsimp! at q;rw[l]at q;rw[show bF (aw z) = .tup [.int z.1,.tup (z.2.map D.int)] from rfl];k_is;calc aa (show am .is (.tup [.int z.1,.tup (z.2.map D.int)]) .non j=aw (.bl aS,j) from rfl) ?_;k_is;calc aa (show ixS (.tup [.int z.1,.tup (z.2.map D.int)]) (.int 0) j=aw (.int z.1,j) from rfl) ?_;calc{rfl,qJ (k:=k+3) ?_};k_is;calc aa (show ixS (.tup [.int z.1,.tup (z.2.map D.int)]) (.int 1) j=aw (.tup (z.2.map D.int),j) from rfl) ?_;k_is;let lz:=xD n _ _ z l;exact{by rw[Za,Zl];lia,q j (o.kp.trans I) v}
def FE{k:Nat}:BB K p 0 (k+1):=λah left S c Q lf kn hc q=>by
 calc az (d:=b7) (ρ:=[aw (skE K),aw eI,aw (ahE ah),aw (.tup (left.map D.int)),aw (.ref p),aD,aD]) rfl rfl ?_;dsimp![b7,e8];let e:=Yk.mp lf.ln;subst e;k_is;exact q S (Kp.refl p S) kn
def QS{c:List (List NK)}{d:List D}{ah:Option (Int×Int)}{left:List Int}(h:S[p]?=aw (.dct c d)):am .o (.tup [ahE ah,.tup (left.map D.int)]) (.ref p) S=aw (.bl (!(atD c d (iT ah left)).isSome),S):=by
 let e:am .o (.tup [ahE ah,.tup (left.map D.int)]) (.ref p) S=inK aN (.tup [ahE ah,.tup (left.map D.int)]) (.ref p) S:=by
  simp![am,inS,aq,aU,h,Option.map_none]
 rw[e];simp![inK,fL,h];simp
def xF{c:List (List NK)}{f:List D}{ah:Option (Int×Int)}{left:List Int}{d:D}(g:S[p]?=aw (.dct c f))(h:atD c f (iT ah left)=aw d):ixS (.ref p) (.tup [ahE ah,.tup (left.map D.int)]) S=aw (d,S):=by
 show ixK _ _ _=_;simp![ixK,fL,g,h,ZE]
def zq:∀ (c:List (Int×List Int)),qj (c.map λz=>bF (aw z))=aw c
 |[]=>rfl
 |z::c=>by
  let e:Dk (bF (aw z))=aw z:=by
   show(dU (z.2.map D.int)).map _=_;rw[eS];rfl
  rw[Zw];simp![qj,e,zq c]
def QT(c:List (Int×List Int)):pB aS (c.map λz=>bF (aw z)) S=aw (bF (o3 c),S):=by
 delta pB;rw[zq];dsimp!;rw[Za,Z8,Zo];delta o3;cases c[argBest (nS c) (c.length - 1)]? <;> rfl
def QU{ah:Option (Int×Int)}{left:List Int}{c:Nat}(J:Kn K p c S)(hc:c < 99999):∃t,kG (.ref p) (.tup [ahE ah,.tup (left.map D.int)]) (bF (bb K left.length ah left)) S=aw t/\Kp p S t/\Kn K p (c+1) t/\ixS (.ref p) (.tup [ahE ah,.tup (left.map D.int)]) t=aw (bF (bb K left.length ah left),t):=by
 let{f,q,y,⟨j,B⟩,E}:=J.ex;let lt:p < S.length:=(Zb.mp y).1;let e:kG (.ref p) (.tup [ahE ah,.tup (left.map D.int)]) (bF (bb K left.length ah left)) S=CD (.ref p) (.tup [ahE ah,.tup (left.map D.int)]) (bF (bb K left.length ah left)) S:=rfl;rw[e];simp![CD,fL,y];rw[if_pos (by lia)];let kp:∀o,Kp p S (S.set p o):=λo i u I h=>by rw[Zq (Ne.symm I)];exact h
 by_cases C:(atD f q (iT ah left)).isSome=aN
 .rw[if_pos C];let g:(S.set p (Ob.dct f (gL (iT ah left) (bF (bb K left.length ah left)) f q)))[p]?=aw (.dct f (gL (iT ah left) (bF (bb K left.length ah left)) f q)):=ZL lt;refine{_,rfl,kp _,{_,_,g,{rG j,λn l d h=>?_},by lia},xF g ?_}
  .rcases zo h with ⟨h1,rfl⟩ |h1
   .let{rfl,rfl}:=u3 h1;rfl
   .exact B n l d h1
  .exact vf C
 .rw[if_neg C]
  let L:atD f q (iT ah left)=aD:=by
   cases h:atD f q (iT ah left) with
   |none=>rfl
   |some d=>rw[h]at C;exact absurd rfl C
  let g:(S.set p (Ob.dct (f++[iT ah left]) (q++[bF (bb K left.length ah left)])))[p]?=aw (.dct (f++[iT ah left]) (q++[bF (bb K left.length ah left)])):=ZL lt;refine{_,rfl,kp _,{_,_,g,{by rw[Ze,Ze,j];rfl,λn l d h=>?_},by rw[Ze,Zl];lia},xF g ?_}
  .rw[sI j]at h;split at h
   .rename_i O hd;cases h;exact B n l d hd
   .split at h
    .rename_i v;cases h;let{rfl,rfl}:=u3 v;rfl
    .cases h
  .rw[sI j,L];dsimp!;rw[if_pos rfl]
abbrev QV{c:Type}(w:c->D):Option c->List D
 |none=>[]
 |some z=>[w z]
def vg{d c:Type}(f:d->Option c)(w:c->D):∀ (l:List d),(l.flatMap λa=>QV w (f a))=(l.filterMap f).map w
 |[]=>rfl
 |a::l=>by
  rw[Y1,vg f w l,Yw];cases f a <;> rfl
def FF(U:SkOk K){n k:Nat}(ih:BB K p n (k+5)):BB K p (n+1) (k+7):=λah left S cc Q lf kn hcc q=>by
 calc az (d:=b7) (ρ:=[aw (skE K),aw eI,aw (ahE ah),aw (.tup (left.map D.int)),aw (.ref p),aD,aD]) rfl rfl ?_;dsimp![b7,e8];let g7:=U.g7;let ln:=lf.ln;let le:=lf.le;let{u,ds,X,ki,hcl}:=kn.ex;let l:cnt (n+1)=(n+1) * cnt n+1:=rfl
 let ne:(left.map D.int).isEmpty=aS:=by
  cases left with
  |nil=>simp at ln
  |cons _ _=>rfl
 k_is;rw[ne];k_is;calc aa (QS X) ?_;cases L:atD u ds (iT ah left) with
 |some d=>
  k_is;calc aa (xF X L) ?_;let e:=ki.2 ah left d L;rw[ln]at e;subst e;exact q S (Kp.refl p S) (kn.up (Wa _ _))
 |none=>
  k_is;refine kS left.length (λi=>D.int (left.getD i 0)) (λi f t=>Kp p S t/\Kn K p (cc+i * cnt n) t/\f=(left.take i).map λg=>bF (bw K n ah left g)) (λi f t j _=>?_) (by lia) (λi f t j C=>?_) (λes t E=>?_) {Kp.refl p S,by rw[WC];exact kn,rfl}
  .show aw (left.map D.int)[i]?=_;rw[Zo];split
   .rename_i h;rw[gEG h,Z8,gEG h];rfl
   .rename_i h;rw[Zx (by lia)];rfl
  .let{kp,c,rfl}:=C;let eg:left.getD i 0=left[i]:=by rw[Z8,gEG j];rfl
   rw[eg];calc{_,rfl,?_};k_is;let hi2:(i+1) * cnt n<=(n+1) * cnt n:=YN _ (by lia);let y:(i+1) * cnt n=i * cnt n+cnt n:=Xg _ _;calc{rfl,Ki (k:=k) U ih lf (ZS j) c (by lia) λS1 k1 B=>{kp.trans k1,by rw[y,<-YK];exact B,?_}};rw[Z6 j,ZD];rfl
  .let{kp,c,rfl}:=E;rw[Y8];calc{by rw[Za];lia,?_};let J:(t++[Ob.lst (left.map λg=>bF (bw K n ah left g))])[t.length]?=aw (.lst (left.map λg=>bF (bw K n ah left g))):=ay;let Z:Sm t (t++[Ob.lst (left.map λg=>bF (bw K n ah left g))]):=Sm.app _ _;generalize t++[Ob.lst (left.map λg=>bF (bw K n ah left g))]=S1 at *;generalize t.length=N at *;k_is;calc{by rw[aM J];rfl,?_};refine bK left (λg=>bF (bw K n ah left g)) (λg=>QV (λz=>bF (aw z)) (bw K n ah left g)) (by lia) (λg _=>by cases bw K n ah left g <;> simp[QV]) (ik J) (λi g S2 hg sm=>{_,rfl,?_}) λS2 Y=>?_
   .k_is;cases hb:bw K n ah left g with
    |none=>
     calc aa (show am .t (bF aD) .non S2=aw (.bl aS,S2) from rfl) ?_;k_is;exact{rfl,Sm.refl _}
    |some z=>
     calc aa (show am .t (bF (aw z)) .non S2=aw (.bl aN,S2) from rfl) ?_;k_is;exact{rfl,Sm.refl _}
   .rw[vg];calc aa (QT _) ?_;rw[<-sH]
    let k2:Kn K p (cc+(n+1) * cnt n) S2:=by
     let:=(c.kp Z).kp Y
     rwa[ln]at this
    let{O,T,o,v,I}:=QU (ah:=ah) (left:=left) k2 (by lia);rw[ln]at T I;calc{O,T,?_};k_is;calc aa I (q O ((kp.trans (Z.trans Y).kp).trans o) ?_);rw[l,<-YK];exact v
def qK(c:SkOk K){j:Nat}:∀n,BB K p n (2 * n+5+j)
 |0=>by rw[show 2 * 0+5+j=(4+j)+1 by lia];exact FE
 |n+1=>by
  let I:=qK c (j:=j) n;rw[show 2 * (n+1)+5+j=(2 * n+j)+7 by lia];exact FF c (by rw[show 2 * n+j+5=2 * n+5+j by lia];exact I)
def QW{n:Nat}:∀i t,Sm S t->nxR 0 n i t=aw (((Zm n)[i]?).map λ(j:Nat)=>D.int (0+(j:Int))):=λi t _=>by
 show aw (if i < n then aw (D.int (0+(i:Int))) else aD)=_;split
 .rename_i h;rw[YE h];rfl
 .rename_i h;rw[Zx (by rw[ZI];lia)];rfl
abbrev cJ(K:Sky):List Int:=((Zm K.G.length).filter λ(j:Nat)=>!decide ((j:Int)∈K.F)).map λ(j:Nat)=>(j:Int)
def Kj(V:Vd K)(q:∀t,Sm S t->Q (.tup ((cJ K).map D.int)) t):Ok (evC ae (k+1) 20 [skE K] S) Q:=by
 calc az (d:=hU) (ρ:=[aw (skE K)]) rfl rfl ?_;dsimp![hU,ly];let g7:=V.g7;k_is;calc aa sk2 (aa bz ?_);k_is;calc{io (by lia) (by lia),?_};rw[ZF];refine bK (Zm K.G.length) (λ(j:Nat)=>D.int (0+(j:Int))) (λ(j:Nat)=>if (!decide ((j:Int)∈K.F))=aN then [D.int (j:Int)] else []) (by rw[ZI];lia) (λa _=>by split <;> simp) QW (λi j t h sm=>{_,rfl,?_}) λf g=>?_
 .k_is;calc aa sk3 ?_;rw[X2];k_is;calc aa (show am .o (.int (j:Int)) (.tup (K.F.map D.int)) t=aw (.bl (aN != decide ((j:Int)∈K.F)),t) from kf aN K.F j t) ?_;rw[show(aN != decide ((j:Int)∈K.F)) = !decide ((j:Int)∈K.F) by cases decide ((j:Int)∈K.F) <;> rfl];k_is;cases c:!decide ((j:Int)∈K.F) with
  |true=>exact{rfl,Sm.refl _}
  |false=>exact{rfl,Sm.refl _}
 .rw[bH];calc aa (show df aS _ f=aw (.tup _,f) from rfl) ?_;let:=q f g;delta cJ at this
  rwa[Z1]at this
def FG(V:Vd K)(bd:∀g∈K.F,0<=g/\g < K.G.length)(v:K.F.length<=7)(y:∀j,rn K K.F K.ah [] = .inl j->∀t,Sm S t->Q .non t)(u:∀R,rn K K.F K.ah [] = .inr R->∀n t,Sm S t->t[n]?=aw (.lst (R.map aj))->S.length<=n->Q (.ref n) t):Ok (evC ae (k+6) 31 [skE K] S) Q:=by
 calc az (d:=cO) (ρ:=[aw (skE K),aD]) rfl rfl ?_;dsimp![cO,fH];k_is;calc aa sk3 ?_;calc{rfl,uW (k:=k) V bd v λn L o f l hN q=>?_};k_is;calc aa (gh l) (aa sk3 (aa bz ?_));k_is;rw[Za];cases h:rn K K.F K.ah [] with
 |inl j=>
  let c:=q.stuck j h;let E:=Fj K.F _ _ j h;rw[Z3,Xr]at E;rw[decide_eq_false (show ¬ (L.length:Int)=K.F.length by lia)];k_is;exact y j h o f
 |inr R=>
  let c:=q.lands R h;let E:=sG K.F _ _ R h;rw[Z3,Xr]at E;rw[decide_eq_true (show(L.length:Int)=K.F.length by rw[c,E])];k_is;exact u R h n o f (by rw[<-c];exact l) hN
abbrev lP(K:Sky):Option (Int×List Int):=match rn K K.F K.ah [] with
 |.inl _=>aD
 |.inr R=>(bb K (cJ K).length (bj K R) (cJ K)).map λz=>(R.foldr (λy x=>jnd y.2 x) z.1,K.F++z.2)
def LY:∀ (os:List Int) (a:Option (Int×Int)) (L R:List (Int×Int)),(∀g∈os,0<=g/\g < K.G.length)->InG K L->rn K os a L = .inr R->InG K R
 |[],_,L,R,_,hL,e=>by cases e;exact hL
 |g::os,a,L,R,ho,hL,e=>by
  rw[rn]at e;split at e
  .cases e
  .rename_i m _;split at e
   .cases e
   .exact LY os _ _ R (λx h=>ho x (Zf _ h)) (λz c=>(ZQ.mp c).elim (hL z) λZ=>by rw[Zy.mp Z];exact ho g Zh) e
def QX:∀n,n < 8->cnt n<=99999:=by decide
def Kk(l:SkOk K){ah:Option (Int×Int)}(f:∀q,ah=aw q->0<=q.1/\q.1 < K.M.length):Lf K (cJ K).length ah (cJ K):=by
 refine{?_,λg c=>?_,rfl,?_,f}
 .delta cJ;exact Xm.mpr ((Xq.filter _).imp λh z=>h (Int.ofNat.inj z))
 .delta cJ at c;let{j,d,rfl}:=ZJ.mp c;let:=ZZ.mp (Z2.mp d).1
  lia
 .delta cJ;rw[Za];let:=Y6 (λ(j:Nat)=>!decide ((j:Int)∈K.F)) (Zm K.G.length);rw[ZI]at this;exact this
def Kp.new{o:Ob}(h:Ev.Kp S.length (S++[o]) t):Sm S t:=λi u e=>by
 let c:=(Zb.mp e).1;exact h i u (by lia) (Sm.app _ _ _ _ e)
def UA{n:Nat}{ds:List D}{T:Tg}{b:XS}{c:Rho}{Q:Fl->Rho->Sto->Prop}(hl:ds.length<=100000)(I:Nat->Rho->Sto->Prop)(o:∀i c t,I i c t->t[n]?=aw (.lst ds))
  (step:∀ (i:Nat) d c t,ds[i]?=aw d->I i c t->∃f,aB T d c=aw f/\OkS (b f t) λy g j=>match y with |.nx=>I (i+1) g j |.ct=>I (i+1) g j |.bk=>Q .nx g j |.rt d=>Q (.rt d) g j)
  (q:∀c t,I ds.length c t->Q .nx c t) (v:I 0 c S):OkS (fO (nxS n) T b LF 0 c S) Q:=by
 refine kc ds.length I (by delta LF;lia) (λi c t u h=>?_) (λc t h=>{?_,q c t h}) v
 .let{f,E,z}:=step i ds[i] c t (gEG u) h;calc{ds[i],f,?_,E,z};show(aU t n).map (λds=>ds[i]?)=_;rw[aM (o i c t h),ZE,gEG u]
 .show(aU t n).map (λl=>l[ds.length]?)=_;rw[aM (o _ c t h),ZE,Zx (Zg _)]
def FH(l:SkOk K)(q:∀t,Sm S t->Q (bF (lP K)) t):Ok (evC ae (k+20) 34 [skE K,eI] S) Q:=by
 calc az (d:=fY) (ρ:=[aw (skE K),aw eI,aD,aD,aD,aD,aD,aD]) rfl rfl ?_;dsimp![fY,j8];let V:=l.vd;let g7:=l.g7;let lF:=Dw.bG K.G.length K.F l.nd l.bd;k_is;delta lP at q;refine{rfl,FG (k:=k+13) V l.bd (by lia) (λj C B O=>?_) (λR C n B O Y hN=>?_)}
 .rw[C]at q;k_is;calc aa (show am .is .non .non B=aw (.bl aN,B) from rfl) ?_;k_is;exact q B O
 .rw[C]at q;k_is;calc aa (show am .is (.ref n) .non B=aw (.bl aS,B) from rfl) ?_;k_is;let inR:InG K R:=LY K.F _ [] R l.bd (λz hz=>by cases hz) C;calc{rfl,uT (k:=k+18) V Y inR ?_};calc{rfl,Kj (k:=k+18) V λJ s2=>?_};k_is;let fl:=Kk l (kl V inR);let fle:=fl.le;let hc:=QX (cJ K).length (by lia);let kn:Kn K J.length 0 (J++[Ob.dct [] []]):={[],[],ay,{rfl,λ_ _ _ h=>by cases h},Zg _};let X:=qK (p:=J.length) l (j:=k+14 - 2 * (cJ K).length) (cJ K).length;rw[show 2 * (cJ K).length+5+(k+14 - 2 * (cJ K).length)=k+19 by lia]at X;calc{rfl,X _ _ _ 0 _ fl kn (by lia) λg U kn3=>?_};let Z:=(O.trans s2).trans (Kp.new U);let L:=(Kp.new U) _ _ (s2 _ _ Y);dsimp! at q;cases hb:bb K (cJ K).length (bj K R) (cJ K) with
  |none=>
   rw[hb]at q;rw[show bF aD = .non from rfl];k_is;calc aa (show am .is .non .non g=aw (.bl aN,g) from rfl) ?_;k_is;exact q g Z
  |some z=>
   rw[hb]at q;rw[show bF (aw z) = .tup [.int z.1,.tup (z.2.map D.int)] from rfl];k_is;calc aa (show am .is (.tup [.int z.1,.tup (z.2.map D.int)]) .non g=aw (.bl aS,g) from rfl) ?_;k_is;calc aa (show t0 (.ref n) g=aw (.ref g.length,g++[Ob.lst (R.map aj).reverse]) by simp![t0,aM L]) ?_;let a4:(g++[Ob.lst (R.map aj).reverse])[g.length]?=aw (.lst (R.map aj).reverse):=ay;let s4:=Z.trans (Sm.app g [Ob.lst (R.map aj).reverse]);generalize g++[Ob.lst (R.map aj).reverse]=S4 at *;generalize g.length=N at *;let lR:=sG K.F _ _ R C;rw[Z3,Xr]at lR;k_is;calc{by rw[aM a4];rfl,?_};refine UA (ds:=(R.map aj).reverse) (by rw[Yg,Za];lia) (λi E t=>t=S4/\∃u v,E=[aw (skE K),aw eI,aw (.ref n),aw (.tup [.int z.1,.tup (z.2.map D.int)]),aw (.int ((R.reverse.take i).foldl (λx y=>jnd y.2 x) z.1)),aw (.tup (z.2.map D.int)),u,v]) (λi E t I=>by rw[I.1];exact a4) (λi d E t hd I=>?_) (λE t I=>?_) ⟨rfl,_,_,rfl⟩
   .let{rfl,u,v,rfl}:=I;rw[<-Wb]at hd;let{y,T,rfl}:=oX hd;let o:=inR y (Wc.mp (Zj T));let{a,b,c,d,e,f,h,eg,e0,e1,e2,e3,e6,a0,a1,c0}:=gl7 V o.1 o.2;calc{_,show aB (.tup [.n 6,.n 7]) (.tup [.int y.1,.int y.2]) _=_ from fj (by simp) (by simp),?_};k_is;calc aa sk2 (aa (eF o.1 eg) ?_);calc{rfl,qJ (k:=k+17) ?_};k_is
    let e:(R.reverse.take (i+1)).foldl (λx y=>jnd y.2 x) z.1=jnd y.2 ((R.reverse.take i).foldl (λx y=>jnd y.2 x) z.1):=by
     rw[List.take_succ,T,List.foldl_append];rfl
    rw[e];exact⟨rfl,_,_,rfl⟩
   .let{rfl,u,v,rfl}:=I;rw[Yg,Za,<-Yg (as:=R),Y8,List.foldl_reverse];k_is;calc aa sk3 ?_;k_is;let lz:=xD _ _ _ z hb;calc{by rw[Za,Za];lia,?_};let:=q _ s4;dsimp![ZE,bF]at this
    rwa[ZD]at this
end Lw
namespace Sn
open Ev PySem Lw
def xG{c:List (Int×List Int)}(h:c≠[]):∃z,o3 c=aw z:=by
 let d:0 < c.length:=Xe.mpr h;exact{_,gEG (XW (yz _) (by lia))}
variable {K:Sky}
end Sn
namespace Sn
open Ev PySem Lw
abbrev gl(K:Sky)(x:Int):List Int:=(K.G[x.toNat]?).getD []
abbrev ixI(l:List Int)(x:Int):Int:=(l.idxOf x:Nat)
abbrev fxd(K:Sky)(l:List Int):List Int:=K.F.filter λx=>decide (x∈l)
abbrev nar(K:Sky)(l:List Int):Sky:={K with G:=l.map (gl K),F:=(fxd K l).map (ixI l)}
structure LotK(K:Sky)(lot:List Int):Prop where
 nd:lot.Nodup
 bd:∀x∈lot,0<=x/\x < K.G.length
abbrev lnd(K:Sky)(l:List Int):Bool:=(lP (nar K l)).isSome
def FI:∀ (a b:List Int),a.Nodup->(∀x∈a,x∈b)->a.length<=b.length
 |[],b,_,_=>YC _
 |x::a,b,h,hs=>by
  let d:=(List.perm_cons_erase (hs x Zh)).length_eq;let h:=ZV.mp h;let:=FI a (b.erase x) h.2 λy c=>(List.mem_erase_of_ne (λ(e:y=x)=>h.1 (e▸c))).mpr (hs y (Zf _ c));rw[Zr]at d ⊢
  lia
variable {K:Sky} {a b L:List Int}
def LotK.len(h:LotK K L):L.length<=K.G.length:=by
 let:=FI L ((Zm K.G.length).map Int.ofNat) h.nd λx c=>by
  let:=h.bd x c;exact ZJ.mpr {x.toNat,ZZ.mpr (by lia),by show((x.toNat:Nat):Int)=x;lia}
 rwa[Za,ZI]at this
def FJ{x:Int}(h:x∈L):L[(ixI L x).toNat]?=aw x:=by
 let c:=YV.mpr h;show L[((L.idxOf x:Nat):Int).toNat]?=_;rw[ZF,gEG c,XY c]
def LZ{x:Int}(h:x∈L):0<=ixI L x/\ixI L x < L.length:=by
 let:=YV.mpr h;delta ixI
 lia
def QY{x y:Int}(d:x∈L)(c:y∈L)(h:ixI L x=ixI L y):x=y:=by
 let:=FJ d;rw[h,FJ c]at this;exact(θ this).symm
def oV{i:Nat}{x:Int}(nd:L.Nodup)(h:L[i]?=aw x):ixI L x=i:=by
 let c:=Zj h;let h1:=FJ c;let I:=(Zb.mp h).1;let g:=(Zb.mp h1).1
 let e:(ixI L x).toNat=i:=by
  let f:=(Zb.mp h1).2;let d:=(Zb.mp h).2;exact(YO nd).mp (f.trans d.symm)
 let:=LZ c
 lia
def FK{d j:Type}{f:d->j}:∀ {l:List d},l.Nodup->(∀x∈l,∀y∈l,f x=f y->x=y)->(l.map f).Nodup
 |[],_,_=>YZ
 |x::l,h,i=>by
  let h:=ZV.mp h;rw[Zw];calc ZV.mpr {λz=>?_,FK h.2 λx g y c=>i x (Zf _ g) y (Zf _ c)};let{y,c,e}:=ZJ.mp z;exact h.1 (i _ (Zf _ c) _ Zh e▸c)
def xH{x:Int}(h:x∈fxd K L):x∈K.F/\x∈L:=by
 let{h1,h2}:=Z2.mp h;exact{h1,ω h2}
def sK(hl:LotK K L){x:Int}(h:x∈L):K.G[x.toNat]?=aw (gl K x):=by
 let:=hl.bd x h;let c:x.toNat < K.G.length:=by lia
 delta gl;rw[gEG c];rfl
def xI(d:SkOk K)(hl:LotK K L):SkOk (nar K L):=by
 refine{d.me,?_,λg f=>?_,FK (d.nd.sublist List.filter_sublist) λx c y l e=>QY (xH c).2 (xH l).2 e,λy l=>?_,λj g f=>?_,d.ah}
 .show(L.map (gl K)).length<=7;let:=hl.len;let:=d.g7;rw[Za];lia
 .let{x,c,rfl}:=ZJ.mp f;exact d.gb _ (Zj (sK hl c))
 .let{x,c,rfl}:=ZJ.mp l;show _/\_ < ((L.map (gl K)).length:Int);rw[Za];exact LZ (xH c).2
 .let f:(L.map (gl K))[j]?=aw g:=f;rw[Zo]at f;let{x,c,rfl}:=ZP.mp f;let k:=Zj c;let:=hl.bd x k;refine(d.rg x.toNat _ (sK hl k)).imp_right λh=>ZJ.mpr {x,Z2.mpr {?_,decide_eq_true k},oV hl.nd c}
  rwa[show((x.toNat:Nat):Int)=x by lia]at h
end Sn
namespace Sn
open Ev PySem Lw
variable {K:Sky} {os:List Int} {L:List (Int×Int)}
def Kl{c:Type}{P:List c->Prop}(h:P [])(h1:∀l x,P l->P (l++[x]))(l:List c):P l:=by
 rw[<-List.reverse_reverse l]
 induction l.reverse with
 |nil=>exact h
 |cons a l I=>rw[Yl];exact h1 _ _ I
abbrev dE(K:Sky):List Int:=(Zm K.G.length).map λ(j:Nat)=>(j:Int)
def ko:(dE K).length=K.G.length:=by delta dE;rw[Za,ZI]
def FL{g:Int}:g∈dE K ↔ 0<=g/\g < K.G.length:=by
 delta dE;rw[ZJ];constructor
 .rintro⟨j,c,rfl⟩;let:=ZZ.mp c
  lia
 .intro h;exact⟨g.toNat,ZZ.mpr (by lia),by lia⟩
abbrev lft(K:Sky)(os:List Int):List Int:=(dE K).filter λg=>!decide (g∈os)
structure Nd(K:Sky)(os:List Int)(L:List (Int×Int)):Prop where
 fs:L.map (·.1)=os
 nd:os.Nodup
 bd:∀g∈os,0<=g/\g < K.G.length
def UI{g:Int}:g∈lft K os ↔ (0<=g/\g < K.G.length)/\g∉os:=by
 delta lft;rw[Z2,FL];simp
def vh(K:Sky)(os:List Int)(g:Int):lft K (os++[g])=rst (lft K os) g:=by
 delta lft rst;rw[List.filter_filter];calc List.filter_congr λx _=>?_;simp[Y9]
def Nd.snoc{g m:Int}(nd:Nd K os L)(d:g∈lft K os):Nd K (os++[g]) (L++[(g,m)]):=by
 let{hb,h}:=UI.mp d;calc{by rw[ZD,nd.fs];rfl,Y0.mpr {nd.nd,by simp,λx hx y c z=>by rw[Zy.mp c]at z;exact h (z▸hx)},λx hx=>?_};rcases ZQ.mp hx with hx |hx
 .exact nd.bd x hx
 .rw[Zy.mp hx];exact hb
def gj{K:Sky}:∀ (os:List Int),os.Nodup->(∀g∈os,0<=g/\g < K.G.length)->(lft K os).length+os.length=K.G.length:=by
 refine Kl (λ_ _=>?_) λos g I nd bd=>?_
 .delta lft;rw[XM.mpr (λx _=>by simp),ko];rfl
 .let{n,k,d}:=Y0.mp nd;let h:=I n λx c=>bd x (Z7 _ c);let f:g∈lft K os:=UI.mpr {bd g (by simp),λc=>d g c g (by simp) rfl};let j:(lft K os).Nodup:=List.Pairwise.filter _ (Xm.mpr (Xq.imp λh z=>h (Int.ofNat.inj z)));let:=sJ j f;rw[vh,Ze,Zl]
  lia
abbrev chl(K:Sky)(os:List Int)(L:List (Int×Int))(gs:List Int):List (List Int×List (Int×Int)):=gs.filterMap λg=>if decide (g∈os)=aN then aD else (step K (bj K L) g os.length).map λm=>(os++[g],L++[(g,m)])
def o5{g:Int}{gs:List Int}:chl K os L (g::gs)=(if decide (g∈os)=aN then [] else match step K (bj K L) g os.length with |none=>[] |some m=>[(os++[g],L++[(g,m)])])++chl K os L gs:=by
 delta chl;rw[Yw];cases decide (g∈os) with
 |true=>rfl
 |false=>cases step K (bj K L) g os.length <;> rfl
abbrev lv(K:Sky)(z:List Int×List (Int×Int)):Bool:=(bb K (~~~K - z.1.length) (bj K z.2) (lft K z.1)).isSome
def FM{c:Type}{f:c->Option (Int×List Int)}:∀ (l:List c),(o3 (l.filterMap f)).isSome=l.any λa=>(f a).isSome
 |[]=>rfl
 |a::l=>by
  let I:=FM (f:=f) l;rw[Yw,Yx];cases f a with
  |none=>exact I
  |some z=>
   let{y,e}:=xG (List.cons_ne_nil z (l.filterMap f));dsimp!;rw[e];rfl
def zr{n:Nat}(h:K.G.length - (os.length+1)=n)(h1:K.G.length - (n+1)=os.length):∀ (gs:List Int),(chl K os L gs).any (lv K)=(gs.filter λg=>!decide (g∈os)).any λg=>(bw K n (bj K L) (lft K os) g).isSome
 |[]=>rfl
 |g::gs=>by
  rw[o5,Wm,zr h h1 gs,YR];cases decide (g∈os) with
  |true=>rfl
  |false=>
   rw[if_neg (by decide),if_pos (by decide),Yx]
   congr 1
   delta bw;rw[h1];cases step K (bj K L) g os.length with
   |none=>rfl
   |some m=>
    show(lv K (os++[g],L++[(g,m)]) || false)=_;delta lv;dsimp!;rw[YU,eG,vh,Ze,Zl,h,YL]
def mE:∀ (gs:List Int),(chl K os L gs).length<=(gs.filter λg=>!decide (g∈os)).length
 |[]=>Zg _
 |g::gs=>by
  let I:=mE gs;rw[o5,YR];cases decide (g∈os) with
  |true=>exact I
  |false=>
   rw[if_neg (by decide),if_pos (by decide),Ze,Zr];split
   .show 0+_<=_;lia
   .show 1+_<=_;lia
def Km(nd:Nd K os L)(h:os.length=K.G.length):chl K os L (dE K)=[]:=by
 let c:=gj os nd.nd nd.bd;let h1:(chl K os L (dE K)).length<=(lft K os).length:=mE _;exact List.eq_nil_of_length_eq_zero (by lia)
def QZ(nd:Nd K os L):lv K (os,L)=(decide (os.length=K.G.length) || (chl K os L (dE K)).any (lv K)):=by
 let d:=gj os nd.nd nd.bd;by_cases h:os.length=K.G.length
 .delta lv;dsimp!;rw[decide_eq_true h,h,Z5];rfl
 .obtain⟨n,c⟩:∃n,K.G.length - os.length=n+1:={K.G.length - os.length - 1,by lia};rw[decide_eq_false h,zr (n:=n) (by lia) (by lia)];delta lv;dsimp!;rw[c,sH,FM];rfl
def Ko(nd:Nd K os L):∀z∈chl K os L (dE K),z.1.length=os.length+1:=λz h=>by
 let{g,c,e}:=Yq.mp h;split at e
 .cases e
 .let{m,hs,rfl}:=ZP.mp e;rw[Ze,Zl]
abbrev sz:Nat->Nat
 |0=>1
 |n+1=>1+(n+1) * sz n
abbrev mu(K:Sky):List (List Int×List (Int×Int))->Nat
 |[]=>0
 |z::T=>sz (~~~K - z.1.length)+mu K T
def FN:∀ (A B:List (List Int×List (Int×Int))),mu K (A++B)=mu K A+mu K B
 |[],B=>by show mu K B=0+mu K B;lia
 |z::A,B=>by
  let:=FN A B;show sz _+mu K (A++B)=sz _+mu K A+mu K B
  lia
def zt{n:Nat}:∀ (T:List (List Int×List (Int×Int))),(∀z∈T,K.G.length - z.1.length=n)->mu K T=T.length * sz n
 |[],_=>(WC _).symm
 |z::T,h=>by
  let:=zt T λy c=>h y (Zf _ c);rw[mu,h z Zh,this,Zr,Xg];lia
def Q0(nd:Nd K os L):mu K (chl K os L (dE K)) < sz (~~~K - os.length):=by
 let f:=gj os nd.nd nd.bd;by_cases h:os.length=K.G.length
 .rw[Km nd h,h,Z5];exact Nat.zero_lt_one
 .obtain⟨n,c⟩:∃n,K.G.length - os.length=n+1:={K.G.length - os.length - 1,by lia};rw[zt (n:=n) _ λz d=>by let:=Ko nd z d;lia,c,sz];let h1:(chl K os L (dE K)).length<=(lft K os).length:=mE _;let:(chl K os L (dE K)).length * sz n<=(n+1) * sz n:=YN _ (by lia)
  lia
def L0:∀ (bs:List Int) (a:Option (Int×Int)) (os:List Int) (L R:List (Int×Int)),Nd K os L->(os++bs).Nodup->(∀g∈bs,0<=g/\g < K.G.length)->rn K bs a L = .inr R->Nd K (os++bs) R
 |[],_,os,L,R,nd,_,_,e=>by cases e;rw[ZU];exact nd
 |g::bs,a,os,L,R,nd,n2,bd,e=>by
  rw[rn]at e;split at e
  .cases e
  .split at e
   .cases e
   .let h:g∈lft K os:=UI.mpr {bd g Zh,λz=>(Y0.mp n2).2.2 g z g Zh rfl};let:=L0 bs _ (os++[g]) _ R (nd.snoc h) (by rw[Yv];exact n2) (λx c=>bd x (Zf _ c)) e
    rwa[Yv]at this
def Q1(c:SkOk K){R:List (Int×Int)}(h:rn K K.F K.ah [] = .inr R):Nd K K.F R:=L0 K.F K.ah [] [] R {rfl,YZ,λ_ h=>(by cases h)} c.nd c.bd h
def Kq(c:SkOk K):(lP K).isSome=match rn K K.F K.ah [] with |.inl _=>aS |.inr R=>lv K (K.F,R):=by
 let h:=gj K.F c.nd c.bd
 let e:cJ K=lft K K.F:=by
  delta cJ lft dE;rw[List.filter_map];rfl
 delta lP lv;cases rn K K.F K.ah [] with
 |inl j=>rfl
 |inr R=>
  dsimp!;rw[YL,e,show(lft K K.F).length=K.G.length - K.F.length by lia]
end Sn
namespace Lw
open PySem Ev Sn L2
variable {p:Nat} {S l:Sto} {k:Nat} {Q:D->Sto->Prop} {K:Sky}
def Bf{c:Int}{xs:List Int}:gq c aS (xs.map D.int) S=aw (.int (wg c xs),S):=by delta gq;rw[eS]
def Q2{os:List Int}{L:List (Int×Int)}(nd:Nd K os L):InG K L:=λz h=>nd.bd z.1 (nd.fs▸ZJ.mpr ⟨z,h,rfl⟩)
def FO{os:List Int}{L:List (Int×Int)}{n:Nat}(nd:Nd K os L)(lo:os.length<=7)(h:S[n]?=aw (.lst (L.map aj)))(q:∀x l,Sm S l->Q (.int x) l):Ok (evC ae (k+1) 55 [skE K,.ref n,eI] S) Q:=by
 calc az (d:=ic) (ρ:=[aw (skE K),aw (.ref n),aw eI]) rfl rfl ?_;dsimp![ic,lJ];let g:L.length<=1000:=by let:=congrArg Zi nd.fs;rw[Za]at this;lia
 k_is;calc aa (show am .eq eI (.str "last") S=aw (.bl aN,S) from rfl) ?_;k_is;calc{by rw[aM h];rfl,?_};refine bK L aj (λz=>[.int z.2]) g (λ_ _=>Zg _) (ik h) (λi z l o sm=>{_,show aB (.tup [.n 3,.n 4]) (.tup [.int z.1,.int z.2]) _=_ from fj (by simp) (by simp),?_}) λf j=>?_
 .k_is;exact{rfl,Sm.refl _}
 .rw[bT];let:=Bf (c:=0) (xs:=L.map (·.2)) (S:=f);rw[Z1]at this;calc aa this ?_;k_is;exact q _ f j
def UB{n:Nat}{hi:Int}{T:Tg}{b:XS}{c:Rho}{Q:Fl->Rho->Sto->Prop}(hl:n<=100000)(I:Nat->Rho->Sto->Prop)
  (step:∀ (i:Nat) c S,i < n->I i c S->∃f,aB T (.int (hi - i)) c=aw f/\OkS (b f S) λv g j=>match v with |.nx=>I (i+1) g j |.ct=>I (i+1) g j |.bk=>Q .nx g j |.rt d=>Q (.rt d) g j)
  (q:∀c l,I n c l->Q .nx c l) (u:I 0 c S):OkS (fO (nxD hi n) T b LF 0 c S) Q:=by
 refine kc n I (by delta LF;lia) (λi c l h o=>?_) (λc l o=>{?_,q c l o}) u
 .let{f,E,z}:=step i c l h o;exact{_,f,by show aw (if i < n then aw (D.int (hi - i)) else aD)=_;rw[if_pos h],E,z}
 .show aw (if n < n then aw (D.int (hi - n)) else aD)=_;rw[if_neg (ZO _)]
abbrev ndE(z:List Int×List (Int×Int)×Nat):D:=.tup [.tup (z.1.map D.int),.ref z.2.2]
abbrev prs(T:List (List Int×List (Int×Int)×Nat)):List (List Int×List (Int×Int)):=T.map λz=>(z.1,z.2.1)
structure Stk(K:Sky)(q:Nat)(S:Sto)(T:List (List Int×List (Int×Int)×Nat)):Prop where
 at_:S[q]?=aw (.lst (T.reverse.map ndE))
 ok:∀z∈T,z.2.2≠q/\S[z.2.2]?=aw (.lst (z.2.1.map aj))/\Nd K z.1 z.2.1
def Kr{n:Nat}{c:List D}{d:D}(h:S[n]?=aw (.lst (c++[d]))):wk (.ref n) [] S=aw (d,S.set n (.lst c)):=by
 simp![wk,chg,h];rw[Ze,Zl,Nat.add_sub_cancel,Zv (Zg _),Z5];show aw (d,S.set n (.lst (c++[d]).dropLast))=_;rw[List.dropLast_concat]
abbrev Ks:List CS:=match bC with
 |[_,_,.g _ b,_]=>b.drop 3
 |_=>[]
def Kt{i:Nat}(h:i < K.G.length):(dE K).drop (~~~K - (i+1))=((~~~K:Int) - 1 - i)::(dE K).drop (~~~K - i):=by
 let c:K.G.length - (i+1) < (dE K).length:=by rw[ko];lia
 rw[YT c,show K.G.length - (i+1)+1=K.G.length - i by lia]
 congr 1
 rw[show(dE K)[K.G.length - (i+1)]=((~~~K - (i+1):Nat):Int) by simp[dE]]
 lia
def Stk.keep{q:Nat}{T:List (List Int×List (Int×Int)×Nat)}(h:Stk K q S T)(s:Sm S l):Stk K q l T:={s _ _ h.at_,λz d=>let ⟨a,b,c⟩:=h.ok z d;{a,s _ _ b,c}}
def Stk.put{q:Nat}{T:List (List Int×List (Int×Int)×Nat)}{d:List D}(h:∀z∈T,z.2.2≠q/\S[z.2.2]?=aw (.lst (z.2.1.map aj))/\Nd K z.1 z.2.1)(f:q < S.length)(e:d=T.reverse.map ndE):Stk K q (S.set q (.lst d)) T:=by
 subst e;exact{eD f,λz g=>let ⟨a,b,c⟩:=h z g;{a,by rw[Zq λe=>a e.symm];exact b,c}}
def Kp.set{q:Nat}{o:Ob}(h:Ev.Kp q S l):Ev.Kp q S (l.set q o):=λi u n e=>by rw[Zq (λz=>n z.symm)];exact h i u n e
def Q4{i:Int}(h:-1<=i/\i < 9):lim i=aN:=by delta lim;simp;lia
def FP(sk:SkOk K){q n:Nat}{os:List Int}{L:List (Int×Int)}{T:List (List Int×List (Int×Int)×Nat)}{ad I Z:D}{u8 u9 U:Option D}{Qf:Fl->Rho->Sto->Prop}(st:Stk K q S T)(nd:Nd K os L)(hL:S[n]?=aw (.lst (L.map aj)))(hn:n≠q)(hT:T.length<=20000)
  (qf:∀C l u v,Ev.Kp q S l->Stk K q l (C++T)->prs C=chl K os L (dE K)->Qf .nx [aw (skE K),aw ad,aw I,aw Z,aw (.ref q),aw (.tup (os.map D.int)),aw (.ref n),aw (ahE (bj K L)),u8,u,v] l) :
  rW (wSs (evC ae (k+3)) (cM ae) 53 Ks) [aw (skE K),aw ad,aw I,aw Z,aw (.ref q),aw (.tup (os.map D.int)),aw (.ref n),aw (ahE (bj K L)),u8,u9,U] S Qf:=by
 dsimp![Ks,bC,Ys];let V:=sk.vd;let g7:=sk.g7;let lo:=gj os nd.nd nd.bd;k_is;calc aa sk2 (aa bz ?_);k_is;calc{Q4 (by lia),?_};rw[show((~~~K:Int) - 1+1).toNat=K.G.length by lia];refine UB (by lia) (λi O l=>∃C u v,O=[aw (skE K),aw ad,aw I,aw Z,aw (.ref q),aw (.tup (os.map D.int)),aw (.ref n),aw (ahE (bj K L)),u8,u,v]/\Ev.Kp q S l/\Stk K q l (C++T)/\prs C=chl K os L ((dE K).drop (~~~K - i))) (λi O y hi iv=>?_) (λO y iv=>?_) {[],u9,U,rfl,Ev.Kp.refl _ _,st,by rw[Nat.sub_zero,Y2 (Wz ko)];rfl}
 .let{C,u,v,rfl,o,d,E}:=iv;rw[Kt hi,o5,<-E];let g0:0<=(~~~K:Int) - 1 - i:=by lia
  let g1:(~~~K:Int) - 1 - i < K.G.length:=by lia
  let hL1:=o _ _ hn hL;generalize (~~~K:Int) - 1 - i=g at *;calc{_,rfl,?_};k_is;calc aa (show am .o (.int g) (.tup (os.map D.int)) y=aw (.bl (aN != decide (g∈os)),y) from kf aN os g y) ?_;k_is;cases c:decide (g∈os) with
  |true=>
   rw[show(aN != aN)=aS from rfl];k_is;exact⟨C,_,_,rfl,o,d,rfl⟩
  |false=>
   rw[show(aN != aS)=aN from rfl,if_neg (by decide)];k_is;calc aa bz ?_;calc{rfl,uX (k:=k+1) V (kl V (Q2 nd)) g0 g1 λf B=>?_};k_is;cases hs:Sn.step K (bj K L) g os.length with
   |none=>
    calc aa (show am .t (kj aD) .non f=aw (.bl aS,f) from rfl) ?_;k_is;exact{C,_,_,rfl,o.trans B.kp,d.keep B,rfl}
   |some m=>
    calc aa (show am .t (kj (aw m)) .non f=aw (.bl aN,f) from rfl) ?_;rw[show kj (aw m) = .int m from rfl];k_is;let j:=d.keep B;let Y:=B _ _ hL1;calc{cA j.at_,?_};refine{by rw[Za];show os.length+1<=1000;lia,?_}
    let cl:C.length<=7:=by
     let J:=congrArg Zi E;let e2:=mE (K:=K) (os:=os) (L:=L) ((dE K).drop (~~~K - i));let e3:=Y6 (λg=>!decide (g∈os)) ((dE K).drop (~~~K - i));rw[Yy,ko]at e3;rw[prs,Za]at J
     lia
    let X:=Sm.app f [Ob.lst [D.tup [D.int g,D.int m]]];calc aa (mz (X _ _ Y) ay (by let J:=congrArg Zi nd.fs;rw[Za]at J ⊢;show L.length+1<=100000;lia)) ?_;let lq:q < f.length:=(Zb.mp j.at_).1;let lN:(f++[Ob.lst [D.tup [D.int g,D.int m]]]).length≠q:=by rw[Ze];lia
    generalize f++[Ob.lst [D.tup [D.int g,D.int m]]]=S3 at *;let s4:=Sm.app S3 [Ob.lst (L.map aj++[D.tup [D.int g,D.int m]])];let a4:(S3++[Ob.lst (L.map aj++[D.tup [D.int g,D.int m]])])[S3.length]?=aw (.lst ((L++[(g,m)]).map aj)):=by rw[ay,ZD];rfl
    let h:=(j.keep X).keep s4;let lq4:q < (S3++[Ob.lst (L.map aj++[D.tup [D.int g,D.int m]])]).length:=(Zb.mp h.at_).1;rw[jA h.at_ (by rw[Za,Yg,Ze];lia)];generalize S3++[Ob.lst (L.map aj++[D.tup [D.int g,D.int m]])]=S4 at *;generalize S3.length=N4 at *;k_is;let nz:=nd.snoc (m:=m) (UI.mpr {⟨g0,g1⟩,λz=>by rw[decide_eq_true z]at c;cases c});refine{(os++[g],L++[(g,m)],N4)::C,_,_,rfl,Kp.set (((o.trans B.kp).trans X.kp).trans s4.kp),Stk.put (λz hz=>?_) lq4 ?_,rfl}
    .rcases Zn.mp hz with rfl |hz
     .exact⟨lN,a4,nz⟩
     .exact h.ok z hz
    .rw[X9,Yl,ZD];show _++[D.tup [D.tup (os.map D.int++[D.int g]),D.ref N4]]=_++[D.tup [D.tup ((os++[g]).map D.int),D.ref N4]];rw[ZD];rfl
 .let{C,u,v,rfl,o,d,E}:=iv;rw[Z5]at E;exact qf C y u v o d E
def FQ{d:List D}{e:D}:ixS (.tup (d++[e])) (.int (-1)) S=aw (e,S):=by
 let:atI (d++[e]) (-1:Int)=aw e:=by
  delta atI ixN;rw[if_neg (by decide),if_pos (by rw[Ze,Zl];lia)];show(d++[e])[((-1:Int)+((d++[e]).length:Int)).toNat]?=aw e;rw[Ze,Zl,show((-1:Int)+((d.length+1:Nat):Int)).toNat=d.length by lia,Zv (Zg _),Z5];rfl
 simp![ixS,aq,ZE,this]
def Q5:∀n,1<=sz n
 |0=>Zg _
 |n+1=>by rw[sz];lia
def UC:∀n,n < 8->sz n<=13700:=by decide
def FR:∀ (T:List (List Int×List (Int×Int))),T.length<=mu K T
 |[]=>Zg _
 |z::T=>by
  let:=FR T;let:=Q5 (~~~K - z.1.length);rw[mu,Zr];lia
abbrev bIf:List CS:=match bC with
 |[_,_,.g _ b,_]=>b.drop 2
 |_=>[]
def Ku(I:SkOk K){q n:Nat}{os:List Int}{L:List (Int×Int)}{T:List (List Int×List (Int×Int)×Nat)}{o:D}{f:Option (Int×List Int)}{U E j:Option D}{Qf:Fl->Rho->Sto->Prop}(st:Stk K q S T)(nd:Nd K os L)(J:S[n]?=aw (.lst (L.map aj)))(Y:n≠q)(hT:T.length<=20000)
  (O:∀g C l U u v,g.isSome=(f.isSome || decide (os.length=K.G.length))->Ev.Kp q S l->Stk K q l (C++T)->prs C=chl K os L (dE K)->Qf .nx [aw (skE K),aw eI,aw o,aw (bF g),aw (.ref q),aw (.tup (os.map D.int)),aw (.ref n),aw (ahE (bj K L)),U,u,v] l) :
  rW (wSs (evC ae (k+3)) (cM ae) 54 bIf) [aw (skE K),aw eI,aw o,aw (bF f),aw (.ref q),aw (.tup (os.map D.int)),aw (.ref n),aw (ahE (bj K L)),U,E,j] S Qf:=by
 let g7:=I.g7;let lo:=gj os nd.nd nd.bd;let fin:∀g d U,Sm S d->g.isSome=(f.isSome || decide (os.length=K.G.length))->rW (wSs (evC ae (k+3)) (cM ae) 53 Ks) [aw (skE K),aw eI,aw o,aw (bF g),aw (.ref q),aw (.tup (os.map D.int)),aw (.ref n),aw (ahE (bj K L)),U,E,j] d Qf:=λg d U h Z=>FP I (st.keep h) nd (h _ _ J) Y hT λC l u v X B e=>O g C l U u v Z (h.kp.trans X) B e;dsimp![Ks,bC,Ys]at fin;dsimp![bIf,bC,Ys];k_is;calc aa bz (aa sk2 (aa bz ?_));k_is;by_cases c:os.length=K.G.length
 .rw[decide_eq_true c]at fin;rw[decide_eq_true (show(os.length:Int)=K.G.length by lia)];k_is;calc{rfl,FO (k:=k+2) nd (by lia) J λx d h=>?_};k_is;cases f with
  |none=>
   calc aa (show am .is (bF aD) .non d=aw (.bl aN,d) from rfl) ?_;k_is;exact fin (aw (x,os)) d _ h rfl
  |some y=>
   rw[show bF (aw y) = .tup [.int y.1,.tup (y.2.map D.int)] from rfl];calc aa (show am .is (.tup [.int y.1,.tup (y.2.map D.int)]) .non d=aw (.bl aS,d) from rfl) ?_;k_is;calc aa (show ixS (.tup [.int y.1,.tup (y.2.map D.int)]) (.int 0) d=aw (.int y.1,d) from rfl) ?_;k_is;cases decide (x < y.1) with
   |true=>
    k_is;exact fin (aw (x,os)) d _ h rfl
   |false=>
    k_is;exact fin (aw y) d _ h rfl
 .rw[decide_eq_false c]at fin;rw[decide_eq_false (show ¬ (os.length:Int)=K.G.length by lia)];k_is;exact fin f S _ (Sm.refl S) (YU _).symm
abbrev WI(K:Sky)(q:Nat)(r:Bool)(g:D)(S:Sto)(n:Nat)(d:Rho)(l:Sto):Prop:=∃T f o c h j U u,d=[aw (skE K),aw eI,aw g,aw (bF f),aw (.ref q),o,c,h,j,U,u]/\Stk K q l T/\Ev.Kp q S l/\(f.isSome || (prs T).any (lv K))=r/\n=mu K (prs T)/\n<=13700
def xJ(sk:SkOk K){q:Nat}{T:List (List Int×List (Int×Int)×Nat)}{B:D}{r:Bool}(st:Stk K q S T)(J:(prs T).any (lv K)=r)(hm:mu K (prs T)<=13700)(qf:∀f l,f.isSome=r->Ev.Kp q S l->Q (bF f) l) :
  rW (wSs (evC ae (k+3)) (cM ae) 58 (bC.drop 2)) [aw (skE K),aw eI,aw B,aw (bF aD),aw (.ref q),aD,aD,aD,aD,aD,aD] S (out Q):=by
 dsimp![bC,Ys];let V:=sk.vd;let g7:=sk.g7;k_is;refine o0 (WI K q r B S) (λn ρ Z iv=>?_) LF (mu K (prs T)) _ S ?_ {T,aD,_,_,_,_,_,_,rfl,st,Ev.Kp.refl _ _,J,rfl,hm}
 .let{T,f,u5,u6,u7,u8,u9,u10,rfl,st,k1,J,rfl,hm}:=iv;calc(oT _).t _ _ _ ?_;k_is;let lq:q < Z.length:=(Zb.mp st.at_).1;let s2:=Sm.app Z [Ob.lst []];calc aa (Ex (s2 _ _ st.at_) ay (by lia)) ?_;let o:=st.keep s2;let k2:=k1.trans s2.kp;generalize Z++[Ob.lst []]=S2 at *;k_is;cases T with
  |nil=>
   rw[show(!(([]:List (List Int×List (Int×Int)×Nat)).reverse.map ndE).isEmpty)=aS from rfl,if_neg (by decide)];k_is;exact qf f S2 (by rw[<-J];exact(YU _).symm) k2
  |cons z T=>
   let{os,L,n}:=z;let g:=o.at_;rw[Yl,ZD]at g;rw[Yl,ZD,show(!((T.reverse.map ndE)++[(os,L,n)].map ndE).isEmpty)=aN by simp,if_pos rfl];let{n1,n2,nd}:=o.ok _ Zh;dsimp! at n1 n2 nd;let lo:=gj os nd.nd nd.bd;k_is;calc{cA g,?_};calc aa (Kr g) ?_;let X:q < S2.length:=(Zb.mp g).1;let O:Stk K q (S2.set q (.lst (T.reverse.map ndE))) T:=Stk.put (λz hz=>o.ok z (Zf _ hz)) X rfl;let k3:Ev.Kp q S (S2.set q (.lst (T.reverse.map ndE))):=Kp.set k2;let Y:(S2.set q (.lst (T.reverse.map ndE)))[n]?=aw (.lst (L.map aj)):=by rw[Zq λe=>n1 e.symm];exact n2
   generalize S2.set q (.lst (T.reverse.map ndE))=S3 at *;rw[show ndE (os,L,n) = .tup [.tup (os.map D.int),.ref n] from rfl];k_is
   let tl:T.length<=20000:=by
    let h1:=FR (K:=K) (prs ((os,L,n)::T));let h2:(prs ((os,L,n)::T)).length=T.length+1:=Za ..
    lia
   let I:rW (wSs (evC ae (k+3)) (cM ae) 54 bIf) [aw (skE K),aw eI,aw B,aw (bF f),aw (.ref q),aw (.tup (os.map D.int)),aw (.ref n),aw (ahE (bj K L)),u8,u9,u10] S3 λfl j S2=>match fl with
     |.nx=>∃m,m < mu K (prs ((os,L,n)::T))/\WI K q r B S m j S2
     |.ct=>∃m,m < mu K (prs ((os,L,n)::T))/\WI K q r B S m j S2
     |.bk=>rW (wSs (evC ae (k+3)) (cM ae) 57 [CS.ret (CE.v 3)]) j S2 (out Q)
     |.rt d=>Q d S2:=Ku sk O nd Y n1 tl λf' C l u8 u v hf k' st' ec=>by
    let e1:prs (C++T)=chl K os L (dE K)++prs T:=by rw[<-ec];exact ZD
    let e2:=Q0 nd;let e3:mu K (prs ((os,L,n)::T))=sz (~~~K - os.length)+mu K (prs T):=rfl;let e4:mu K (prs (C++T)) < mu K (prs ((os,L,n)::T)):=by rw[e1,FN,e3];lia
    calc{_,e4,C++T,_,_,_,_,_,_,_,rfl,st',k3.trans k',?_,rfl,by lia};rw[e1,<-J,hf,Wm];show _=(f.isSome || (lv K (os,L) || (prs T).any (lv K)));rw[QZ nd,Ww,Ww]
   dsimp![bIf,bC,Ys]at I;rcases Xx L with eL |⟨L',y,eL⟩
   .let E:os=[]:=by let:=nd.fs;rw[eL]at this;exact this.symm
    rw[E,eL]at I;rw[E];exact aa sk1 I
   .rw[Xy]at eL;let E:os=L'.map (·.1)++[y.1]:=by let:=nd.fs;rw[eL,ZD]at this;exact this.symm
    let U:=nd.bd y.1 (by rw[E];simp);let{a,b,c,d,e,f',h,eg,e0,_}:=gl7 V U.1 U.2;let em:os.map D.int=(L'.map (·.1)).map D.int++[.int y.1]:=by rw[E,ZD];rfl
    rw[eL,eG,e0]at I;rw[eL,ZD]at Y;rw[show(os.map D.int).isEmpty=aS by rw[em];simp];calc aa sk2 (aa (show ixS (.tup (os.map D.int)) (.int (-1)) S3=aw (.int y.1,S3) by rw[em];exact FQ) (aa (eF U.1 eg) (aa (show ixS (aH [a,b,c,d,e,f',h]) (.int 0) S3=aw (.int a,S3) from rfl) (aa (mw Y) (aa (show ixS (aj y) (.int 1) S3=aw (.int y.2,S3) from rfl) ?_)))));exact I
 .let:13700 < LF:=by decide
  lia
def FS(h:SkOk K)(q:∀f l,f.isSome=(lP K).isSome->Sm S l->Q (bF f) l):Ok (evC ae (k+4) 56 [skE K,eI] S) Q:=by
 calc az (d:=jx) (ρ:=[aw (skE K),aw eI,aD,aD,aD,aD,aD,aD,aD,aD,aD]) rfl rfl ?_;let w:=λS=>@xJ S k Q K h;dsimp![bC,Ys]at w;dsimp![jx,bC];let V:=h.vd;let g7:=h.g7;let L:=Dw.bG K.G.length K.F h.nd h.bd;k_is;calc aa sk3 ?_;calc{rfl,uY (k:=k) V h.bd (by lia) λd g C c=>?_};k_is;rw[Kq h]at q;delta Res at c;cases v:rn K K.F K.ah [] with
 |inl j=>
  rw[v]at c q;dsimp! at c;subst c;calc aa (show ixS (.tup [.str "stuck",.int (j:Int)]) (.int 0) g=aw (.str "stuck",g) from rfl) ?_;calc aa (show am .eq (.str "stuck") (.str "lands") g=aw (.bl aS,g) from rfl) ?_;k_is;exact w _ (T:=[]) {ay,λz u=>by cases u} rfl (YC _) λf l o y=>q f l o (C.trans (Kp.new y))
 |inr R=>
  rw[v]at c q;dsimp! at c q;let{n,rfl,B,hb}:=c;calc aa (show ixS (.tup [.str "lands",.ref n]) (.int 0) g=aw (.str "lands",g) from rfl) ?_;calc aa (show am .eq (.str "lands") (.str "lands") g=aw (.bl aN,g) from rfl) ?_;k_is;calc aa sk3 (aa (show ixS (.tup [.str "lands",.ref n]) (.int 1) g=aw (.ref n,g) from rfl) ?_);let E:n < g.length:=(Zb.mp B).1;calc w _ (T:=[(K.F,R,n)]) {ay,λz u=>?_} (YU _) (UC _ (by lia)) λf l o y=>q f l o (C.trans (Kp.new y));rw[Zy.mp u];exact{by dsimp!;lia,Sm.app _ _ _ _ B,Q1 h v}
end Lw
namespace Lw
open PySem Ev Sn L2
variable {p:Nat} {S s:Sto} {k:Nat} {Q:D->Sto->Prop} {K:Sky} {l:List Int}
def FT{x:Int}(h:x∈l):wu (aH l) [.int x] S=aw (.int (ixI l x),S):=by
 delta aH wu;dsimp!;rw[eS];dsimp!;rw[if_pos h];rfl
def zu(c:SkOk K):K.F.length<=K.G.length:=by
 let:=FI K.F ((Zm K.G.length).map Int.ofNat) c.nd λx h=>by
  let:=c.bd x h;exact ZJ.mpr {x.toNat,ZZ.mpr (by lia),by show((x.toNat:Nat):Int)=x;lia}
 rwa[Za,ZI]at this
def qL(n:SkOk K)(hl:LotK K l)(q:∀s,Sm S s->Q (skE (nar K l)) s):Ok (evC ae (k+1) 41 [skE K,aH l] S) Q:=by
 calc az (d:=fe) (ρ:=[aw (skE K),aw (aH l),aD,aD,aD,aD,aD]) rfl rfl ?_;dsimp![fe,iZ];let L:=hl.len;let g7:=n.g7;k_is;show wTp _ (.tup [meE K,ahE K.ah,.tup (K.G.map aH),.tup (K.F.map D.int)]) _ _;k_is;show xk (.tup (l.map D.int)) S _;k_is;refine bK l D.int (λx=>[aH (gl K x)]) (by lia) (λa _=>by simp) cg (λi x g h o=>{_,rfl,?_}) λg o=>?_
 .let j:=Zj h;k_is;exact aa (eF (hl.bd x j).1 (sK hl j)) {rfl,Sm.refl _}
 .rw[bT];calc aa (show df aS _ g=aw (.tup _,g) from rfl) ?_;k_is;refine bK K.F D.int (λx=>if decide (x∈l)=aN then [.int (ixI l x)] else []) ?_ (λa _=>by split <;> simp) cg (λi x f h u=>{_,rfl,?_}) λf u=>?_
  .exact Zz (zu n) (by lia)
  .k_is;calc aa (show am .s (.int x) (aH l) f=aw (.bl (aS != decide (x∈l)),f) from kf aS l x f) ?_;rw[Wr];k_is;by_cases c:x∈l
   .rw[decide_eq_true c];k_is;calc{rfl,?_};k_is;exact aa (FT c) {by rw[if_pos rfl],Sm.refl _}
   .rw[decide_eq_false c];exact{by rw[if_neg Zd],Sm.refl _}
  .rw[bH];calc aa (show df aS _ f=aw (.tup _,f) from rfl) ?_;k_is;let:=q f (o.trans u);delta skE nar at this;rw[Z1,Z1]at this;exact this
def FV(f:SkOk K)(q:∀s,Sm S s->Q (.bl (lP K).isSome) s):Ok (evC ae (k+21) 42 [skE K] S) Q:=by
 calc az (d:=sj) (ρ:=[aw (skE K)]) rfl rfl ?_;dsimp![sj,yW];k_is;calc{rfl,FH (k:=k) f λc g=>?_};let:=q c g;cases h:lP K with
 |none=>rw[h]at this;exact aa (show am .t .non .non c=aw (.bl aS,c) from rfl) this
 |some z=>rw[h]at this;exact aa (show am .t (.tup _) .non c=aw (.bl aN,c) from rfl) this
def o6(n:SkOk K)(hl:LotK K l)(q:∀s,Sm S s->Q (skE (nar K l)) s):Ok (evC ae (k+1) 57 [skE K,aH l] S) Q:=by
 calc az (d:=eB) (ρ:=[aw (skE K),aw (aH l),aD,aD,aD,aD,aD]) rfl rfl ?_;dsimp![eB,gR];let L:=hl.len;let g7:=n.g7;k_is;show wTp _ (.tup [meE K,ahE K.ah,.tup (K.G.map aH),.tup (K.F.map D.int)]) _ _;k_is;refine bK K.F D.int (λx=>if decide (x∈l)=aN then [.int (ixI l x)] else []) ?_ (λa _=>by split <;> simp) cg (λi x f h u=>{_,rfl,?_}) λf u=>?_
 .exact Zz (zu n) (by lia)
 .k_is;calc aa (show am .s (.int x) (aH l) f=aw (.bl (aS != decide (x∈l)),f) from kf aS l x f) ?_;rw[Wr];k_is;by_cases c:x∈l
  .rw[decide_eq_true c];k_is;calc{rfl,?_};k_is;exact aa (FT c) {by rw[if_pos rfl],Sm.refl _}
  .rw[decide_eq_false c];exact{by rw[if_neg Zd],Sm.refl _}
 .rw[bH];calc aa (show df aS _ f=aw (.tup _,f) from rfl) ?_;k_is;show xk (.tup (l.map D.int)) f _;k_is;refine bK l D.int (λx=>[aH (gl K x)]) (by lia) (λa _=>by simp) cg (λi x g h o=>{_,rfl,?_}) λg o=>?_
  .let j:=Zj h;k_is;exact aa (eF (hl.bd x j).1 (sK hl j)) {rfl,Sm.refl _}
  .rw[bT];calc aa (show df aS _ g=aw (.tup _,g) from rfl) ?_;k_is;let:=q g (u.trans o);delta skE nar at this;rw[Z1,Z1]at this;exact this
def Bg(g:SkOk K)(hl:LotK K l)(q:∀s,Sm S s->Q (.bl (lnd K l)) s):Ok (evC ae (k+5) 58 [skE K,aH l] S) Q:=by
 calc az (d:=ie) (ρ:=[aw (skE K),aw (aH l)]) rfl rfl ?_;dsimp![ie,lK];k_is;calc{rfl,o6 (k:=k+3) g hl λn s0=>?_};k_is;calc{rfl,FS (k:=k) (xI g hl) λf c h j=>?_};let:=q c (s0.trans j);delta lnd at this;rw[<-h]at this;cases f with
 |none=>exact aa (show am .t .non .non c=aw (.bl aS,c) from rfl) this
 |some z=>exact aa (show am .t (.tup _) .non c=aw (.bl aN,c) from rfl) this
end Lw
namespace Lw
open PySem Ev L2
variable {p:Nat} {S:Sto} {k:Nat} {Q:D->Sto->Prop}
def FY{c:Nat}:∀ {ts:List Dw.D},(∀t∈ts,Dw.sz t<=c)->Dw.szL ts<=ts.length * (c+2)
 |[],_=>by simp[Dw.szL]
 |t::ts,h=>by
  let h1:=h t Zh;let h2:=FY (ts:=ts) λT d=>h T (Zf _ d);rw[Dw.szL,Zr,Xg]
  lia
structure Shw(t:Dw.D):Prop where
 sh:Dw.Shn t
 de:Dw.dep t<=50
 wi:Dw.wid t<=1000
def FZ{n m B s:Nat}{t:Dw.D}(f:Dw.Fit n m t)(b:Dw.Bd B s t)(c:n<=50)(d:m<=1000)(h:B<=10 ^ 50)(hs:s<=16000000):Shw t:=
 {b.shn h (by rw[Za0];lia) (Zz f.de (by lia)),Zz f.de c,Zz f.wi d}
mutual
theorem zv{S:Sto}:∀ (n:Nat) {t:Dw.D} {d:D},Dw.dep t < n->TD p S t d->dg n S d=aw t
 |n+1,.non,_,_,h=>by rw[h.non];simp![dg]
 |n+1,.bl _,_,_,h=>by rw[h.bl];simp![dg]
 |n+1,.int _,_,_,h=>by rw[h.int];simp![dg]
 |n+1,.str _,_,_,h=>by rw[h.str];simp![dg]
 |n+1,.tup ts,_,hd,h=>by
  let{c,rfl,q}:=h.tup;rw[Dw.dep]at hd;simp![dg,kq n (by lia) q,ZE]
 |n+1,.lst ts,_,hd,h=>by
  rw[TD]at h;let{m,c,rfl,_,e,q}:=h;rw[Dw.dep]at hd;simp![dg,e,kq n (by lia) q,ZE]
 |n+1,.dic ks ts,_,hd,h=>by
  rw[TD]at h;let{m,c,rfl,_,e,q}:=h;rw[Dw.dep]at hd;simp![dg,e,kq n (by lia) q,ZE]
theorem kq{S:Sto}:∀ (n:Nat) {T:List Dw.D} {c:List D},Dw.jJ T < n->TDs p S T c->cH (dg n S) c=aw T
 |n,[],_,_,h=>by rw[h.nil];simp![cH]
 |n,t::T,_,hd,h=>by
  let{d,r,rfl,a,q}:=h.cons;rw[Dw.jJ]at hd;simp![cH,zv n (by lia) a,kq n (by lia) q]
end
def kr{t:Dw.D}{d:D}(h:TD p S t d)(s:Shw t):k9 d S=aw (.str (Dw.aX t).shown,S):=by
 delta k9;rw[zv 100 (by let:=s.de;lia) h];dsimp!;rw[if_pos s.sh]
def zw(x y:Str)(S:Sto):am .ne (.str x) (.str y) S=aw (.bl (!(x == y)),S):=mM rfl
end Lw
namespace Lw
open PySem Ev Sn L2
variable {p:Nat} {S s:Sto} {k:Nat} {Q:D->Sto->Prop} {K:Sky}
abbrev cC(w:Nat):Nat->Nat
 |0=>100
 |n+1=>w * (cC w n+2)+100
structure PB(w n:Nat)(t:Dw.D):Prop where
 ft:Dw.Fit n w t
 bd:Dw.Bd (10 ^ 31) (cC w n) t
variable {w:Nat}
def UD{n:Nat}(hw:1<=w):cC w n<=cC w (n+1):=by rw[cC];exact Zz (by lia) (Nat.add_le_add_right (YN _ hw) _)
def PB.up{n:Nat}{t:Dw.D}(h:PB w n t)(hw:1<=w:=by decide):PB w (n+1) t:={h.ft.up (YI _) (Zg _),h.bd.bn,Zz h.bd.sz (UD hw)}
def PB.tup{n:Nat}{T:List Dw.D}(hl:T.length<=w)(h:∀t∈T,PB w n t):PB w (n+1) (.tup T):=by
 calc{Dw.Fit.tup hl λt d=>(h t d).ft,Dw.Cv (λt d=>(h t d).bd.bn) ?_};let:=FY (c:=cC w n) λt d=>(h t d).bd.sz;let h2:T.length * (cC w n+2)<=w * (cC w n+2):=YN _ hl;rw[cC]
 lia
def mF(hd:Dw.dep t=0)(hw:Dw.wid t=0)(hb:Dw.bnd (10 ^ 31) t)(hs:Dw.sz t<=100):PB w 0 t:=⟨{by lia,by lia},hb,hs⟩
def cD{i:Int}(h:i.natAbs < 10 ^ 31):PB w 0 (.int i):=mF (by simp![Dw.dep]) (by simp![Dw.wid]) (by simp![Dw.bnd];exact h) (by simp![Dw.sz];decide)
def Vu:PB w 0 .non:=mF (by simp![Dw.dep]) (by simp![Dw.wid]) (by simp![Dw.bnd]) (by simp![Dw.sz];decide)
def PB.shw{n:Nat}{t:Dw.D}(h:PB w n t)(c:n<=50:=by decide)(hw:w<=1000:=by decide)(hc:cC w n<=16000000:=by decide):Shw t:=FZ h.ft h.bd c hw (by decide) hc
def sL{l:List Int}(h:∀x∈l,0<=x/\x<=9999)(hl:l.length<=w):PB w 1 (.tup (l.map Dw.D.int)):=PB.tup (by rw[Za];exact hl) λt c=>by
 let{x,d,rfl}:=ZJ.mp c;exact cD (by let:=h x d;lia)
def F0{M:List (List Int)}(hl:M.length<=w)(h:∀r∈M,r.length<=w/\∀x∈r,0<=x/\x<=9999):PB w 2 (.tup (Dw.lU M)):=PB.tup (by delta Dw.lU;rw[Za];exact hl) λt d=>by
 delta Dw.lU at d;let{r,c,rfl}:=ZJ.mp d;exact sL (h r c).2 (h r c).1
def F1{a b:Int}(h1:0<=a/\a<=9999)(h2:0<=b/\b<=9999):PB 14 1 (.tup [.int a,.int b]):=sL (l:=[a,b]) (λx hx=>by
 rcases Zn.mp hx with rfl |hx
 .exact h1
 .rw[Zy.mp hx];exact h2) (by show 2<=14;decide)
def eT{n:Nat}{t:Dw.D}{T:List Dw.D}(h:PB w n t)(q:∀t∈T,PB w n t):∀u∈t::T,PB w n u:=λu hu=>by
 rcases Zn.mp hu with rfl |hu
 .exact h
 .exact q u hu
def F2{n:Nat}:∀u∈([]:List Dw.D),PB w n u:=λu h=>by cases h
def xK(h:SkOk K):PB 14 4 (skT K):=by
 let g7:=h.g7;let m4:=h.me.m4;let h4:=h.me.h4;let r8:=h.me.r8;let r0:=h.me.r0;let s60:=h.me.s60;let s0:=h.me.s0;let C:=Dw.bG K.G.length K.F h.nd h.bd;let d:PB 14 2 (.tup (Dw.lU K.M)):=F0 (by lia) λr j=>{by rw[h.me.mat.row r j];lia,λx c=>by let:=h.me.mat.ent r j x c;lia}
 let g:PB 14 2 (.tup (Dw.lU K.G)):=F0 (by lia) λr j=>by
  let{E,J,y,L,B,I,v,rfl,hb}:=h.gb r j;calc{by show 7<=14;decide,λx c=>?_};simp![Zn,ZX,or_false]at c;omega
 let f:PB 14 2 (.tup (K.H.map Dw.qa)):=PB.tup (by rw[Za];lia) λt u=>by
  let{z,o,rfl}:=ZJ.mp u;let a:=mB h.me.ris o;let b:=h.me.hb z o;exact F1 (by lia) (by lia)
 let l:PB 14 1 (.tup (K.F.map Dw.D.int)):=sL (λx c=>by let:=h.bd x c;lia) (by lia)
 let ah:PB 14 1 (ahT K.ah):=by
  cases q:K.ah with
  |none=>exact Vu.up
  |some z=>
   let:=h.ah z q;exact F1 (by lia) (by lia)
 exact PB.tup (n:=3) (by show 4<=14;decide) (eT (PB.tup (by show 4<=14;decide) (eT (cD (by lia)).up.up (eT (cD (by lia)).up.up (eT d (eT f F2))))) (eT ah.up.up (eT g.up (eT l.up.up F2))))
def PB.lst{n:Nat}(h:PB w n (.tup T)):PB w n (.lst T):={h.ft.lst,Dw.MM h.bd}
def UE{b:Bool}:PB w 0 (.bl b):=mF (by simp![Dw.dep]) (by simp![Dw.wid]) (by simp![Dw.bnd]) (by simp![Dw.sz];decide)
def F3{x:Str}(h:(reprText x).length<=100):PB w 0 (.str x):=mF (by simp![Dw.dep]) (by simp![Dw.wid]) (by simp![Dw.bnd]) (by simp![Dw.sz];exact h)
def Kv:PB 24 1 (.dic [] []):={{by simp[Dw.dep,Dw.jJ],by simp[Dw.wid,Dw.rm]},by simp[Dw.bnd,Dw.gK],by simp![Dw.sz,Dw.szL,Z3];decide}
def Kw{n:Nat}{t:Dw.D}(h:PB 24 n t):PB 24 (n+1) (.dic [pE 0] [t]):=by
 let a:=h.ft.de;let b:=h.ft.wi;let c:=h.bd.sz;refine{{by simp![Dw.dep,Dw.jJ];lia,by simp![Dw.wid,Dw.rm,Zl];lia},?_,?_}
 .simp![Dw.bnd,Dw.gK];exact{λk d=>{0,Zy.mp d,by decide},rfl,h.bd.bn,trivial}
 .simp![Dw.sz,Dw.szL,Zl];rw[cC];lia
end Lw
namespace Lw
open PySem Ev Sn L2
variable {p:Nat} {S v:Sto} {k:Nat} {Q:D->Sto->Prop} {K:Sky}
structure LotR(K:Sky)(xs:List Int):Prop where
 up:xs.Pairwise (· < ·)
 bd:∀x∈xs,0<=x/\x < K.G.length
def LotR.lk{xs:List Int}(h:LotR K xs):LotK K xs:={h.up.imp λh=>WD h,h.bd}
abbrev IsL(K:Sky)(t:Dw.D):Prop:=∃xs,LotR K xs/\t = .tup (xs.map Dw.D.int)
abbrev xL(K:Sky)(t:Dw.D):Bool:=@decide (IsL K t) (Classical.propDecidable _)
def kW{t:Dw.D}(h:¬ IsL K t):xL K t=aS:=@decide_eq_false _ (Classical.propDecidable _) h
def mG{t:Dw.D}(h:IsL K t):xL K t=aN:=@decide_eq_true _ (Classical.propDecidable _) h
def zx{t:Dw.D}{A:Prop}[Decidable A](h:A ↔ IsL K t):xL K t=decide A:=by
 by_cases a:A
 .rw[mG (h.mp a),decide_eq_true a]
 .rw[kW λz=>a (h.mpr z),decide_eq_false a]
def mH:∀ {xs Y:List Int},xs.map Dw.D.int=Y.map Dw.D.int->xs=Y
 |[],[],_=>rfl
 |[],_::_,e=>by cases e
 |_::_,[],e=>by cases e
 |x::xs,y::Y,e=>by
  let{a,b}:=Xh.inj e;rw[Dw.D.int.inj a,mH b]
def vm:∀ (xs Y:List Int),eqL eqB (xs.map D.int) (Y.map D.int)=aw (decide (xs=Y))
 |[],[]=>rfl
 |[],_::_=>rfl
 |_::_,[]=>rfl
 |x::xs,y::Y=>by
  let e:eqB (D.int x) (D.int y)=aw (x == y):=rfl;rw[Zw,Zw,eqL,e,vm xs Y];simp[Xh.injEq,Bool.decide_and];rfl
def Kx{a b:Nat}{xs ys:List Int}(c:S[a]?=aw (.lst (xs.map D.int)))(hb:S[b]?=aw (.lst (ys.map D.int)))(n:a≠b):am .eq (.ref a) (.ref b) S=aw (.bl (decide (xs=ys)),S):=by
 let e:eqD 60 S (.ref a) (.ref b)=match aU S a,aU S b with
   |some xs,aw ys=>if a=b then aw aN else if xs.length=ys.length then eqL eqB xs ys else aw aS
   |_,_=>aD:=rfl
 simp![am,eqS];rw[e,aM c,aM hb];dsimp!;rw[if_neg n,Za,Za];split
 .rw[vm];rfl
 .rename_i h;rw[decide_eq_false λz=>h (by rw[z])];rfl
def F4{T:List Dw.D}(h:T.all Dw.isW=aN):∃xs:List Int,T=xs.map Dw.D.int:=by
 induction T with
 |nil=>exact⟨[],rfl⟩
 |cons t T I=>
  rw[Yc,bAE]at h;let{xs,rfl}:=I h.2;cases t with
  |int i=>exact⟨i::xs,rfl⟩
  |_=>cases h.1
def xM{n:Nat}{t:Dw.D}(h:Dw.eX n t=aN):∃xs:List Int,t = .tup (xs.map Dw.D.int)/\xs.Nodup/\∀x∈xs,0<=x/\x < n:=by
 cases t with
 |tup T=>
  simp![Dw.eX,bAE]at h;let{_,h2,c}:=h
  let{xs,rfl}:=F4 (ZM.mpr λt d=>by
   let{i,rfl,_}:=Dw.dP (ZM.mp h2 t d);rfl)
  let E:Dw.b9 (xs.map Dw.D.int)=xs:=by delta Dw.b9;rw[Z1];exact(YD λx _=>rfl).trans (Wd xs)
  rw[E]at c;calc{xs,rfl,ω c,λx f=>?_};let{i,e,g,h1}:=Dw.dP (ZM.mp h2 _ (List.mem_map_of_mem f));cases e
  lia
 |_=>cases h
def mI{xs:List Int}{c:List D}(h:TDs p S (xs.map Dw.D.int) c):c=xs.map D.int:=by
 induction xs generalizing c with
 |nil=>exact h.nil
 |cons x xs I=>
  let{d,r,rfl,a,q}:=h.cons;rw[a.int,I q];rfl
def xN{xs:List Int}{n:Nat}(nd:xs.Nodup)(bd:∀x∈xs,0<=x/\x < n):Dw.eX n (.tup (xs.map Dw.D.int))=aN:=by
 let E:Dw.b9 (xs.map Dw.D.int)=xs:=by delta Dw.b9;rw[Z1];exact(YD λx _=>rfl).trans (Wd xs)
 calc Dw.tM ?_ (by rw[E];exact nd);rw[Yu,ZM];intro x h;let:=bd x h;show(decide (0<=x) && decide (x<=(n:Int) - 1))=aN;rw[bAE,decide_eq_true_eq,decide_eq_true_eq]
 lia
def Bh{xs:List Int}(h:xs.length < 64):cU aN (xs.map D.int)=aw ((cp xs).map D.int):=by
 let e:cU aN (xs.map D.int)=Aj (xs.map D.int):=rfl;rw[e];delta Aj;rw[eS];dsimp!;rw[if_pos h]
def F5{xs:List Int}(nd:xs.Nodup):xs=cp xs ↔ xs.Pairwise (· < ·):=by
 constructor
 .intro h;let s:=cq xs;rw[<-h]at s;exact(s.and nd).imp λ⟨a,b⟩=>by lia
 .intro h;exact(fN (bP xs) (cq xs) (h.imp λa=>Int.le_of_lt a)).symm
def F6{xs:List Int}{n:Nat}(nd:xs.Nodup)(bd:∀x∈xs,0<=x/\x < n):xs.length<=n:=Dw.bG n xs nd bd
def Bi(g7:K.G.length<=7){t:Dw.D}{d:D}(T:TD p S t d)(q:∀v,Sm S v->Q (.bl (xL K t)) v):Ok (evC ae (k+4) 5 [d,.int K.G.length] S) Q:=by
 calc az (d:=fV) (ρ:=[aw d,aw (.int K.G.length)]) rfl rfl ?_;dsimp![fV,jZ];k_is;calc{rfl,A8 T (by lia) λc g=>?_};cases f:Dw.eX K.G.length t with
 |false=>
  k_is;let:=q c g
  rwa[kW λ⟨xs,h,e⟩=>by rw[e,xN h.lk.nd h.bd]at f;cases f]at this
 |true=>
  let{xs,rfl,nd,bd}:=xM f;let{j,rfl,hs}:=T.tup;let E:=mI hs;subst E;let l:=F6 nd bd;k_is;calc aa (show XR (λr=>(r.snd,c)) (aq (.tup (xs.map D.int)) c)=aw (xs.map D.int,c) from rfl) ?_;calc{_,_,rfl,Bh (by lia),?_};calc aa (Kx (xs:=xs) (ys:=cp xs) (Sm.app _ _ _ _ ay) ay (by rw[Ze,Zl];lia)) ?_;let:=q _ (g.trans ((Sm.app c [Ob.lst (xs.map D.int)]).trans (Sm.app _ [Ob.lst ((cp xs).map D.int)])))
  rwa[zx (A:=xs=cp xs) ⟨λh=>⟨xs,{(F5 nd).mp h,bd},rfl⟩,λ⟨y,h,e⟩=>by
   let e:=mH (Dw.D.tup.inj e);subst e;exact(F5 nd).mpr h.up⟩]at this
def Bj{t:Dw.D}{d:D}(h:TD p S t d)(q:Q (.bl (Dw.isW t)) S):Ok (evC ae (k+1) 46 [d] S) Q:=by
 calc az (d:=hZ) (ρ:=[aw d]) rfl rfl ?_;dsimp![hZ,lB];k_is;calc aa (iO h) ?_;k_is;cases t <;> first |exact q |(k_is;rw[iO h,aC];exact q)
abbrev inN(n:Nat):Dw.D->Bool
 |.int i=>decide (0<=i) && decide (i < n)
 |_=>aS
def vn{n:Nat}:∀ {T:List Dw.D},T.all (inN n)=aN->∃xs:List Int,T=xs.map Dw.D.int/\∀x∈xs,0<=x/\x < n
 |[],_=>{[],rfl,λ_ h=>by cases h}
 |t::T,h=>by
  rw[Yc,bAE]at h;let{xs,rfl,c}:=vn h.2;cases t with
  |int i=>
   let h1:=h.1;delta inN at h1;rw[bAE,decide_eq_true_eq,decide_eq_true_eq]at h1;calc{i::xs,rfl,λx h=>?_};rcases Zn.mp h with rfl |h
   .exact h1
   .exact c x h
  |_=>cases h.1
def Ky{xs y:List Int}:∀i v,Sm S v->nxZ (xs.map D.int) (y.map D.int) i v=aw (((xs.zip y)[i]?).map λz=>D.tup [.int z.1,.int z.2]):=λi v _=>by
 show aw (zp _ _ i)=_;delta zp List.zip;rw[Zo,Zo,List.getElem?_zipWith];cases xs[i]? <;> cases y[i]? <;> rfl
def xO:∀ (xs:List Int),((xs.zip (xs.drop 1)).all λz=>decide (z.1 < z.2))=aN ↔ xs.Pairwise (· < ·)
 |[]=>{λ_=>.nil,λ_=>rfl}
 |[x]=>{λ_=>.cons (λ_ h=>by cases h) .nil,λ_=>rfl}
 |x::y::xs=>by
  let I:=xO (y::xs);let e:((x::y::xs).zip ((x::y::xs).drop 1))=(x,y)::(y::xs).zip ((y::xs).drop 1):=rfl;rw[e,Yc,bAE,decide_eq_true_eq,I];constructor
  .rintro⟨h1,h2⟩;calc .cons (λz hz=>?_) h2;rcases Zn.mp hz with rfl |hz
   .exact h1
   .exact Int.lt_trans h1 ((Yj.mp h2).1 z hz)
  .intro h;exact⟨(Yj.mp h).1 y Zh,(Yj.mp h).2⟩
def Bk{t:Dw.D}{d:D}(T:TD p S t d)(hw:Dw.wid t<=50)(q:∀v,Sm S v->Q (.bl (xL K t)) v):Ok (evC ae (k+2) 61 [skE K,d] S) Q:=by
 calc az (d:=f8) (ρ:=[aw (skE K),aw d]) rfl rfl ?_;dsimp![f8,ka];k_is;calc aa (iO T) ?_;cases t with
 |tup f=>
  let{I,rfl,hs}:=T.tup;let C:f.length<=50:=by rw[Dw.wid]at hw;lia
  k_is;refine sr hs (by lia) (inN K.G.length) (λi t d v _ sm T=>{_,rfl,?_}) λl g=>?_
  .k_is;calc{rfl,Bj T ?_};cases t with
   |int x=>
    rw[T.int];k_is;by_cases h:0<=x
    .rw[decide_eq_true h];k_is;calc aa sk2 (aa bz ?_);k_is;exact{by show _=[D.bl (decide (0<=x) && decide (x < K.G.length))];rw[decide_eq_true h];rfl,Sm.refl _}
    .rw[decide_eq_false h];k_is;exact{by show _=[D.bl (decide (0<=x) && decide (x < K.G.length))];rw[decide_eq_false h];rfl,Sm.refl _}
   |_=>k_is;exact{rfl,Sm.refl _}
  .rw[f9,aC];k_is;cases c:f.all (inN K.G.length) with
   |false=>
    k_is;let:=q l g
    rwa[kW λ⟨xs,h,e⟩=>by
     rw[Dw.D.tup.inj e,Yu]at c
     let:xs.all (inN K.G.length ∘ Dw.D.int)=aN:=ZM.mpr λx n=>by
      let:=h.bd x n;show(decide (0<=x) && decide (x < K.G.length))=aN;rw[decide_eq_true this.1,decide_eq_true this.2];rfl
     rw[this]at c;cases c]at this
   |true=>
    let{xs,rfl,bd}:=vn c;let u:=mI hs;subst u;rw[Za]at C;k_is
    let B:gw (xs.map D.int) (aw 1) aD=(xs.drop 1).map D.int:=by
     delta gw;rw[Za,<-Wx,<-Xp];let y:HT.sIx xs.length xs.length aD=xs.length:=rfl;rw[y];cases xs with
     |nil=>rfl
     |cons x xs=>
      let E:HT.sIx (x::xs).length 0 (aw 1)=1:=by delta HT.sIx;dsimp![Zr];split <;> lia
      rw[E,Ym (by rw[Yy];lia)]
    rw[B];calc{_,_,rfl,rfl,?_};refine bK (xs.zip (xs.drop 1)) (λz=>D.tup [.int z.1,.int z.2]) (λz=>[D.bl (decide (z.1 < z.2))]) (by rw[Wh];lia) (λ_ _=>Zg _) Ky (λi z v J sm=>{_,fj (by simp) (by simp),?_}) λo j=>?_
    .k_is;exact{rfl,Sm.refl _}
    .rw[bT];calc aa (f9 _ _ _) ?_;let:=q o (g.trans j)
     rwa[zx (A:=((xs.zip (xs.drop 1)).all λz=>decide (z.1 < z.2))=aN) ⟨λh=>⟨xs,{(xO xs).mp h,bd},rfl⟩,λ⟨Y,h,e⟩=>by
      let e:=mH (Dw.D.tup.inj e);subst e;exact(xO xs).mpr h.up⟩,Bool.decide_eq_true]at this
 |_=>k_is;let:=q S (Sm.refl S);rwa[kW λ⟨xs,h,e⟩=>by cases e]at this
abbrev Gd(p:Nat)(S:Sto)(d:D):Prop:=∃t,TD p S t d/\PB 24 3 t
def Gd.keep{d:D}(h:Gd p S d)(kp:Kp p S v):Gd p v d:=let ⟨t,a,b⟩:=h;{t,a.keep kp,b}
structure IL(xs:List Int):Prop where
 ln:xs.length<=7
 bd:∀x∈xs,0<=x/\x < 7
def sM{xs:List Int}(h:IL xs)(lo hi:Option Int):∃ys,gw (xs.map D.int) lo hi=ys.map D.int/\IL ys:=by
 delta gw;rw[Za,<-Wx,<-Xp];calc{_,rfl,?_,λx c=>h.bd x (List.mem_of_mem_drop (XF c))};let:=h.ln;rw[ZT,Yy]
 lia
def UF{xs:List Int}(h:IL xs):∀t∈xs.map Dw.D.int,PB 24 2 t:=λt c=>by
 let{x,d,rfl}:=ZJ.mp c;let:=h.bd x d;exact(cD (by lia)).up.up
def F7{T:List Dw.D}{d:List D}(h:TDs p S T d)(hl:T.length<=24)(hb:∀t∈T,PB 24 2 t):Gd p S (.tup d):={.tup T,bh h,PB.tup hl hb}
structure Tp(p:Nat)(S:Sto)(n:Nat)(ds:List D):Prop where
 ex:∃ts,TDs p S ts ds/\ts.length<=n/\∀t∈ts,PB 24 2 t
def qM{xs:List Int}(h:IL xs):Tp p S 7 (xs.map D.int):={_,dD xs,by rw[Za];exact h.ln,UF h}
def Tp.app{n m:Nat}{d E:List D}(a:Tp p S n d)(b:Tp p S m E):Tp p S (n+m) (d++E):=by
 let{T,c,l1,B}:=a.ex;let{u,g,l2,f}:=b.ex;exact{T++u,c.app g,by rw[Ze];lia,λt h=>(ZQ.mp h).elim (B t) (f t)}
def Tp.gd{n:Nat}{d:List D}(a:Tp p S n d)(h:n<=24):Gd p S (.tup d):=by
 let{c,T,l1,B}:=a.ex;exact F7 T (by lia) B
def Q6{L:List D}{i:Int}(c:0<=i)(h1:i < L.length):∃d,atI L i=aw d/\d∈L:=by
 let h:i.toNat < L.length:=by lia
 calc{L[i.toNat],?_,ZS h};delta atI ixN;rw[if_pos c,if_pos h1];exact gEG h
abbrev trD(x:Int):D:=if x < 2 then .bl (decide (x=1)) else .int x
abbrev trT(x:Int):Dw.D:=if x < 2 then .bl (decide (x=1)) else .int x
def UG{x:Int}:TD p S (trT x) (trD x):=by
 delta trT trD;split
 .exact yY
 .exact bc
def F8:∀ {xs:List Int},TDs p S (xs.map trT) (xs.map trD)
 |[]=>aY
 |_::_=>ak UG F8
theorem Sm.len{S S':Sto}(h:Sm S S'):S.length<=S'.length:=Nat.le_of_not_lt λz=>by
 let e:=h _ _ (List.getElem?_eq_getElem z)
 rw[List.getElem?_eq_none (Nat.le_refl _)]at e
 cases e
def Kz{xs:List Int}(h:Pot p S)(il:IL xs)(q:∀d v,Dr p S v->Gd p v d->Q d v):Ok (evC ae (k+2) 62 [.ref p,.tup (xs.map D.int)] S) Q:=by
 calc az (d:=jz) (ρ:=[aw (.ref p),aw (.tup (xs.map D.int)),aD,aD,aD,aD]) rfl rfl ?_;dsimp![jz,oK];let l7:=il.ln;k_is;calc aa bz ?_;k_is;calc{rfl,aE h (by lia) (by lia) λa S1 a0 a1 d1=>?_};k_is;calc{by decide,rfl,aE d1.pot (by decide) (by decide) λr u r0 r1 d2=>?_};let r1:r < 1000000000000000000000000000000:=r1;k_is;let d3:Dr p S ((u++[Ob.lst [D.int 0]])++[Ob.dic [] []]):=((d1.trans d2).thenSm (Sm.app _ _)).thenSm (Sm.app _ _);let p2:=(d1.trans d2).pot.lt;let a1':((u++[Ob.lst [D.int 0]])++[Ob.dic [] []])[u.length]?=aw (.lst [D.int 0]):=Sm.app _ _ _ _ ay;let a2:((u++[Ob.lst [D.int 0]])++[Ob.dic [] []])[(u++[Ob.lst [D.int 0]]).length]?=aw (.dic [] []):=ay;let n1:u.length≠p:=by lia
 let n2:(u++[Ob.lst [D.int 0]]).length≠p:=by rw[Ze];lia
 generalize (u++[Ob.lst [D.int 0]])++[Ob.dic [] []]=S3 at *;generalize (u++[Ob.lst [D.int 0]]).length=b at *;generalize u.length=c at *;calc{rfl,aE d3.pot (by decide) (by decide) λi g i0 i1 d4=>?_};k_is;let{o,eo,ho}:=Q6 (L:=[D.int 0,D.int 1,D.int 6,D.int 7,D.int (-1),D.int (7+r),D.int (0 - (7+r)),D.bl aN,D.bl aS,D.non,D.str (Str.ofString "0"),D.tup [],D.ref c,D.ref b]) i0 i1
 let go:∃t,TD p S3 t o/\PB 24 1 t:=by
  revert o
  let z:∀o∈[D.int 0,D.int 1,D.int 6,D.int 7,D.int (-1),D.int (7+r),D.int (0 - (7+r)),D.bl aN,D.bl aS,D.non,D.str (Str.ofString "0"),D.tup [],D.ref c,D.ref b],∃t,TD p S3 t o/\PB 24 1 t:=by
   simp![Xb,ZX,false_imp_iff,implies_true,and_true];calc⟨{_,bc,(cD (by lia)).up},{_,bc,(cD (by lia)).up},{_,bc,(cD (by lia)).up},{_,bc,(cD (by lia)).up},{_,bc,(cD (by lia)).up},{_,bc,(cD (by lia)).up},{_,bc,(cD (by lia)).up},⟨_,yY,UE.up⟩,⟨_,yY,UE.up⟩,⟨_,wY,Vu.up⟩,{_,Es,(F3 (by decide +kernel)).up},{_,bh aY,PB.tup (n:=0) (by decide) λ_ h=>by cases h},{_,EA n1 a1' (ak bc aY),PB.lst (PB.tup (n:=0) (by decide) λt h=>?_)},{_,EB n2 a2 aY,Kv}⟩;rw[Zy.mp h];exact cD (by decide)
  exactλo _ ho=>z o ho
 let{to,Z,J}:=go;calc{o,eo,?_};k_is;let{l1,e1,U}:=sM il aD (aw a);let{l2,e2,I}:=sM il (aw a) aD;let{l3,e3,Y}:=sM il (aw (a+1)) aD;let{l4,e4,il4}:=sM il (aw a) (aw (a+1));rw[e1,e2,e3];let k1:=U.ln;let k2:=I.ln;let k3:=Y.ln;let k4:=il4.ln
 iterate 5 refine{by simp![Ze,Zl,Za];lia,?_}
 calc aa (show XR (λr=>(r.snd,g)) (aq (D.tup (xs.map D.int)) g)=aw (xs.map D.int,g) from rfl) ?_;let E:=d3.trans d4;let p4:=E.pot.lt;let T:∀S,Tp p S 7 (l1.map D.int):=λ_=>qM U;let t2:∀S,Tp p S 7 (l2.map D.int):=λ_=>qM I;let t3:∀S,Tp p S 7 (l3.map D.int):=λ_=>qM Y;let t4:∀S,Tp p S 7 (l4.map D.int):=λ_=>qM il4
 let pO:PB 24 1 (.tup (xs.map Dw.D.int)):=PB.tup (by rw[Za];lia) λt y=>by
  let{x,l,rfl}:=ZJ.mp y;let:=il.bd x l;exact cD (by lia)
 let to1:∀v,Kp p g v->Tp p v 1 [o]:=λv kp=>{[to],ak (Z.keep (d4.kp.trans kp)) aY,Zg _,λt y=>by rw[Zy.mp y];exact J.up};let go:∀v,Kp p g v->Gd p v o:=λv kp=>{to,Z.keep (d4.kp.trans kp),J.up.up}
 obtain⟨f,e4',n4,g4⟩:∃f,[D.tup (l1.map D.int++[o]++l2.map D.int),D.tup (l1.map D.int++[o]++l3.map D.int),D.tup (l1.map D.int++l3.map D.int),D.ref g.length]=f/\f.length=4/\∀v,Kp p (g++[Ob.lst (xs.map D.int)]) v->∀d∈f,Gd p v d:=by
  calc{_,rfl,rfl,λv kp=>?_};let k5:Kp p g v:=(Sm.app _ _).kp.trans kp;simp![Xb,ZX,false_imp_iff,implies_true,and_true];exact{(((T v).app (to1 v k5)).app (t2 v)).gd (by decide),(((T v).app (to1 v k5)).app (t3 v)).gd (by decide),((T v).app (t3 v)).gd (by decide),{_,EA (by lia) (kp _ _ (by lia) ay) (dD xs),pO.lst.up.up}}
 rw[e4'];let d5:Dr p S (g++[Ob.lst (xs.map D.int)]++[Ob.lst f]):=E.thenSm ((Sm.app _ _).trans (Sm.app _ _));let a5:(g++[Ob.lst (xs.map D.int)]++[Ob.lst f])[(g++[Ob.lst (xs.map D.int)]).length]?=aw (.lst f):=ay;let B:Sm (g++[Ob.lst (xs.map D.int)]) (g++[Ob.lst (xs.map D.int)]++[Ob.lst f]):=Sm.app _ _;generalize g++[Ob.lst (xs.map D.int)]++[Ob.lst f]=S5 at *;generalize O:(g++[Ob.lst (xs.map D.int)]).length=n5 at *;k_is;rw[e1,e2,e4]
 iterate 2 refine{by simp![Ze,Za];lia,?_}
 calc aa (show t0 (.tup (xs.map D.int)) S5=aw (.tup (xs.map D.int).reverse,S5) from rfl) {by simp![Za];lia,_,rfl,?_};let l5:=Sm.len B;rw[O]at l5;let ln4:n5=g.length+1:=by rw[<-O,Ze,Zl]
 let p5:=d5.pot.lt;let lt5:=(Zb.mp a5).1
 obtain⟨X,e7,n7,g7⟩:∃X,[D.tup (l1.map D.int++l4.map D.int++l2.map D.int),D.tup (xs.map D.int).reverse,D.tup (l2.map D.int++l1.map D.int),D.tup [D.tup (xs.map D.int)],o,D.ref S5.length,D.non]=X/\X.length=7/\∀v,Kp p (S5++[Ob.dic [pE 0] [D.tup (xs.map D.int)]]) v->∀d∈X,Gd p v d:=by
  calc{_,rfl,rfl,λv kp=>?_};let kk:Kp p g v:=((Sm.app _ _).trans (B.trans (Sm.app _ _))).kp.trans kp;let ilr:IL xs.reverse:={by rw[Yg];exact l7,λx l=>il.bd x (Wc.mp l)};let tO:TD p v (.tup (xs.map Dw.D.int)) (.tup (xs.map D.int)):=bh (dD xs);simp![Xb,ZX,false_imp_iff,implies_true,and_true];refine{(((T v).app (t4 v)).app (t2 v)).gd (by decide),?_,((t2 v).app (T v)).gd (by decide),{_,bh (ak tO aY),(PB.tup (n:=1) (by show 1<=24;decide) λt y=>?_).up},go v kk,{_,EB (by lia) (kp _ _ (by lia) ay) (ak tO aY),(Kw pO).up},⟨_,wY,Vu.up.up.up⟩}
  .rw[<-Wb];exact(qM ilr).gd (by decide)
  .rw[Zy.mp y];exact pO
 let ez:(S5++[Ob.dic [pE 0] [D.tup (xs.map D.int)]]).length=S5.length+1:=by rw[Ze,Zl]
 let sA:Sm S5 (S5++[Ob.dic [pE 0] [D.tup (xs.map D.int)]]):=Sm.app _ _;rw[e7];generalize S5++[Ob.dic [pE 0] [D.tup (xs.map D.int)]]=S6 at *;calc aa (mz (Sm.app _ _ _ _ (sA _ _ a5)) ay (by lia)) ?_;let d8:Dr p S (S6++[Ob.lst X]++[Ob.lst (f++X)]):=(d5.thenSm sA).thenSm ((Sm.app _ _).trans (Sm.app _ _));let k68:Sm S6 (S6++[Ob.lst X]++[Ob.lst (f++X)]):=(Sm.app _ _).trans (Sm.app _ _);let a8:(S6++[Ob.lst X]++[Ob.lst (f++X)])[(S6++[Ob.lst X]).length]?=aw (.lst (f++X)):=ay;let n8:(S6++[Ob.lst X]).length=S5.length+2:=by rw[Ze,Zl,ez]
 generalize S6++[Ob.lst X]++[Ob.lst (f++X)]=S8 at *;generalize (S6++[Ob.lst X]).length=m8 at *;k_is;refine{cA a8,bK xs D.int (λx=>[trD x]) (by lia) (λ_ _=>Zg _) cg (λi x v l sm=>{_,rfl,?_}) λC s9=>?_}
 .k_is;delta trD;by_cases l:x < 2
  .rw[decide_eq_true l,if_pos l];k_is;exact{rfl,Sm.refl _}
  .rw[decide_eq_false l,if_neg l];k_is;exact{rfl,Sm.refl _}
 rw[bT];calc aa (show df aS (xs.map trD) C=aw (.tup (xs.map trD),C) from rfl) ?_;k_is;let a9:=s9 _ _ a8;let lx:(f++X).length=11:=by rw[Ze,n4,n7]
 rw[jA a9 (by lia)];let lt9:=(Zb.mp a9).1
 let d9:Dr p S (C.set m8 (.lst (f++X++[.tup (xs.map trD)]))):=by
  let z:=d8.thenSm s9;exact{z.kp.setNew (by let:=Kp.len d5.kp d5.pot.lt;lia),z.pot.setNe (by lia)}
 let aA:(C.set m8 (.lst (f++X++[.tup (xs.map trD)])))[m8]?=aw (.lst (f++X++[.tup (xs.map trD)])):=eD lt9;let kA:Kp p S6 (C.set m8 (.lst (f++X++[.tup (xs.map trD)]))):=(k68.trans s9).kp.setNew (by lia);let nA:m8≠p:=by lia
 generalize C.set m8 (.lst (f++X++[.tup (xs.map trD)]))=SA at *;let ln:(f++X++[D.tup (xs.map trD)]).length=12:=by rw[Ze,lx];rfl
 k_is;calc aa (gh aA) ?_;rw[ln];calc{rfl,aE d9.pot (by decide) (by decide) λj SB j0 j1 dB=>?_};k_is;let hj:j.toNat < (f++X++[D.tup (xs.map trD)]).length:=by lia
 calc aa (gg (dB.kp _ _ nA aA) j0 (gEG hj)) (q _ SB (d9.trans dB) ?_);let kB:Kp p S6 SB:=kA.trans dB.kp;rcases ZQ.mp (ZS hj) with hm |hm
 .rcases ZQ.mp hm with hm |hm
  .exact g4 SB (B.kp.trans (sA.kp.trans kB)) _ hm
  .exact g7 SB kB _ hm
 .rw[Zy.mp hm];calc F7 F8 (by rw[Za];lia) λt y=>?_;let{x,l,rfl}:=ZJ.mp y;let:=il.bd x l;delta trT;split
  .exact UE.up.up
  .exact(cD (by lia)).up.up
def sN{Qx:RR->Sto->Prop}(c:SkOk K){t:Dw.D}{d:D}(T:TD p S t d)(q:∀v,Sm S v->Qx (if xL K t=aN then .p .non else .exc 4) v):OkX (evX ae (k+9) 40 [skE K,d] S) Qx:=by
 calc pH (d:=hY) (rs:=cZ) (ρ:=[aw (skE K),aw d]) rfl rfl rfl ?_;delta cZ;calc qI (ds:=[skE K]) (S1:=S) rfl rfl (FD (k:=k) c λl f=>?_);calc Fw ?_;k_is;calc aa sk2 (aa bz ?_);calc{rfl,Bi (k:=k+4) c.g7 (T.keep f.kp) λg j=>?_};let:=q g (f.trans j);cases h:xL K t with
 |true=>rw[h,if_pos rfl]at this;k_is;rw[if_neg (by decide)];exact Fv this
 |false=>rw[h,if_neg (by decide)]at this;k_is;rw[if_pos (by decide)];exact{by decide,this}
def F9{n:Nat}{d e:D}{w:Str}(c:Bool)(hi:si n=aw w)(no:∀h:RR->Sto->Prop,(∀v,Sm S v->h (.exc n) v)->OkX (evX ae (k+28) 40 [d,e] S) h)(q:∀v,Sm S v->Q (.str w) v):Ok (evC ae (k+30) 60 [.int (if c=aN then 1 else 0),d,e] S) Q:=by
 calc Fu (pH (d:=jy) (rs:=eA) (ρ:=[aw (.int (if c=aN then 1 else 0)),aw d,aw e,aD]) rfl rfl rfl ?_);delta eA;refine LX (c:=c) (ds:=[d,e]) (S1:=S) rfl rfl (by cases c <;> rfl) ?_;cases c with
 |false=>exact pH (d:=jp) (rs:=fR) (ρ:=[aw d,aw e]) rfl rfl rfl (qI (ds:=[d,e]) (S1:=S) rfl rfl (no _ λf g=>{w,hi,q f g}))
 |true=>exact pH (d:=jq) (rs:=fS) (ρ:=[aw d,aw e]) rfl rfl rfl (qI (ds:=[d,e]) (S1:=S) rfl rfl (no _ λf g=>{w,hi,q f g}))
abbrev Bl(K:Sky)(xs:List Int)(c:Bool):D:=if c=aN then .bl (lnd K xs) else skE (nar K xs)
def zy(f:SkOk K){t:Dw.D}{d:D}(T:TD p S t d)(c:Bool)(B:¬ IsL K t->∀v,Sm S v->Q (.str "lot") v)(q:∀xs v,t = .tup (xs.map Dw.D.int)->LotR K xs->Sm S v->Q (Bl K xs c) v):Ok (evC ae (k+30) 60 [.int (if c=aN then 1 else 0),skE K,d] S) Q:=by
 by_cases n:IsL K t
 .let{xs,h,rfl}:=n;let{C,rfl,hs}:=T.tup;let E:=mI hs;subst E;let q:=λv=>q xs v rfl h;calc Fu (pH (d:=jy) (rs:=eA) (ρ:=[aw (.int (if c=aN then 1 else 0)),aw (skE K),aw (.tup (xs.map D.int)),aD]) rfl rfl rfl ?_);delta eA;refine LX (c:=c) (ds:=[skE K,.tup (xs.map D.int)]) (S1:=S) rfl rfl (by cases c <;> rfl) ?_;cases c with
  |false=>
   rw[if_neg (by decide)];calc pH (d:=jp) (rs:=fR) (ρ:=[aw (skE K),aw (.tup (xs.map D.int))]) rfl rfl rfl ?_;delta fR;calc qI (ds:=[skE K,.tup (xs.map D.int)]) (S1:=S) rfl rfl (sN (k:=k+19) f T λj g=>?_);rw[if_pos (mG ⟨xs,h,rfl⟩)];calc LW ?_;k_is;exact{rfl,qL (k:=k+27) f h.lk λo l=>q o (g.trans l)}
  |true=>
   rw[if_pos rfl];calc pH (d:=jq) (rs:=fS) (ρ:=[aw (skE K),aw (.tup (xs.map D.int))]) rfl rfl rfl ?_;delta fS;calc qI (ds:=[skE K,.tup (xs.map D.int)]) (S1:=S) rfl rfl (sN (k:=k+19) f T λj g=>?_);rw[if_pos (mG ⟨xs,h,rfl⟩)];calc LW ?_;k_is;calc{rfl,qL (k:=k+27) f h.lk λo l=>?_};k_is;exact{rfl,FV (k:=k+7) (xI f h.lk) λy u=>q y ((g.trans l).trans u)}
 .exact F9 c rfl (λI z=>sN (k:=k+19) f T λj g=>by rw[kW n,if_neg (by decide)];exact z j g) (B n)
def KA{t:Dw.D}{d e:D}(T:TD p S t d)(h:Dw.isT t 4 4=aS)(c:Bool)(q:∀v,Sm S v->Q (.str "sky") v):Ok (evC ae (k+30) 60 [.int (if c=aN then 1 else 0),d,e] S) Q:=by
 calc F9 (n:=1) c rfl (λf q=>?_) q;calc pH (d:=hY) (rs:=cZ) (ρ:=[aw d,aw e]) rfl rfl rfl ?_;delta cZ;calc qI (ds:=[d]) (S1:=S) rfl rfl ?_;calc pH (d:=hV) (rs:=cY) (ρ:=[aw d]) rfl rfl rfl ?_;delta cY;calc Fw ?_;k_is;calc{rfl,az (d:=gZ) (ρ:=[aw d,aD,aD,aD,aD]) rfl rfl ?_};dsimp![gZ,oD];k_is;calc{rfl,oU T ?_};rw[h];k_is;exact{by decide,q S (Sm.refl S)}
abbrev meL(r s:Int)(M:List (List Int))(H:List (Int×Int)):D:=.tup [.int r,.int s,.tup (M.map aH),.tup (H.map aj)]
def KB{r s:Int}{N n hi:Nat}(h:Pot p S)(gs:Gs p N hi S B G)(Z:S[n]?=aw (.lst (F.map D.int)))(I:n≠p)(me:MeOk r s M H)(g7:G.length<=7)
  (q:∀a v,Dr p S v->(∀z:Int×Int,a=aw z->0<=z.1/\z.1 < M.length/\0<=z.2/\z.2<=9999)->Q (skE ⟨r,s,M,H,a,G,F⟩) v) :
  rW (wSs (evC ae (k+3)) (cM ae) 55 (iM.drop 5)) [aw (.ref p),aw (.int 6),aw (meL r s M H),aw (.ref N),u4,u5,u6,u7,u8,u9,u10,u11,aw (.ref n),u13,aD] S (out Q):=by
 dsimp![iM,Ys];let m1:=me.m1;let m4:=me.m4;k_is;calc aa (show ixS (meL r s M H) (.int 2) S=aw (.tup (M.map aH),S) from rfl) ?_;calc aa (show au dS (.tup (M.map aH)) S=aw (.int M.length,S) by simp![au,aq,dS,Za]) ?_;calc{rfl,aE h (by lia) (by lia) λx S1 J X u=>?_};calc{rfl,aE u.pot (by decide) (by decide) λy S2 Y y2 o=>?_};calc{rfl,aE o.pot (by decide) (by decide) λz C z1 z2 d3=>?_};k_is;let d:=(u.trans o).trans d3
 obtain⟨a,T,O⟩:∃a:Option (Int×Int),atI [D.non,D.tup [D.int x,D.int y]] z=aw (ahE a)/\∀q,a=aw q->0<=q.1/\q.1 < M.length/\0<=q.2/\q.2<=9999:=by
  let:z=0\/z=1:=by lia
  rcases this with rfl |rfl
  .exact{aD,rfl,λq e=>by cases e}
  .exact{aw (x,y),rfl,λq e=>by cases e;exact{J,X,Y,by lia}}
 calc{_,T,?_};k_is;let g:=gs.keep d.kp;let l:=d.kp _ _ I Z;calc{by rw[aM g.at_];rfl,?_};let le:=g.len;refine kS B.length (λi=>(B[i]?).getD .non) (λi f v=>v=C/\f=(G.take i).map aH) (λi f v hi ⟨e,_⟩=>by subst e;exact Ez g.at_ _ LV) (by lia) (λi f c hi ⟨j,E⟩=>?_) (λes' c ⟨j,E⟩=>{by rw[E,Za,ZT];lia,?_}) ⟨rfl,rfl⟩
 .subst j;let L:i < G.length:=by lia
  let{b,U,_,_,zb}:=g.row i G[i] (gEG L);simp![U,Yd];calc{_,rfl,?_};k_is;calc aa (show au df (.ref b) c=aw (.tup (G[i].map D.int),c) by simp![au,aq,aM zb,ZE,df]) ?_;calc{rfl,?_};rw[E,Z6 L,ZD];rfl
 .subst j;rw[Ym (by lia)]at E;subst E;calc aa (show df aS (G.map aH) c=aw (.tup (G.map aH),c) from rfl) ?_;calc aa (show au df (.ref n) c=aw (.tup (F.map D.int),c) by simp![au,aq,aM l,ZE,df]) ?_;k_is;exact q a c d O
def xP{j:Nat}(h:j < l.length):(l[j]::l.eraseIdx j).Perm l:=by
 induction l generalizing j with
 |nil=>simp at h
 |cons a l I=>
  cases j with
  |zero=>exact List.Perm.refl _
  |succ j=>
   rw[Zr]at h;let:=I (j:=j) (by lia);rw[List.getElem_cons_succ,YG];exact(List.Perm.swap _ _ _).trans (this.cons a)
def qN:∀ (l:List Int) (j:Nat),(l.map D.int).eraseIdx j=(l.eraseIdx j).map D.int
 |[],_=>rfl
 |a::l,0=>rfl
 |a::l,j+1=>by rw[Zw,YG,YG,Zw,qN l j]
def Ga{n:Nat}{l:List Int}{j:Nat}(d:S[n]?=aw (.lst (l.map D.int)))(c:j < l.length):jf (.ref n) [.int (j:Int)] S=aw (.int l[j],S.set n (.lst ((l.eraseIdx j).map D.int))):=by
 let h:ixN (l.map D.int).length (j:Int)=aw j:=by
  delta ixN;rw[if_pos (by lia),if_pos (by rw[Za];lia),ZF]
 let f:(l.map D.int)[j]?=aw (.int l[j]):=by rw[Zo,gEG c];rfl
 let g:(l.map D.int).eraseIdx j=(l.eraseIdx j).map D.int:=qN l j;simp![jf,chg,d,h,f,ZE,g]
def o7{n:Nat}{l:List Int}(h:l.Perm ((Zm n).map λi=>Int.ofNat i)):l.Nodup/\(∀x∈l,0<=x/\x < n)/\l.length=n:=by
 calc{h.nodup_iff.mpr (Xm.mpr (Xq.imp λh z=>h (Int.ofNat.inj z))),λx d=>?_,by rw[h.length_eq,Za,ZI]};let{i,c,rfl}:=ZJ.mp (h.mem_iff.mp d);let:=ZZ.mp c;show 0<=(i:Int)/\(i:Int) < n
 lia
structure Fxs(p N Nl Nf:Nat)(S:Sto)(es:List D)(G:List (List Int))(l F:List Int):Prop where
 gs:Gs p N Nl S es G
 al:S[Nl]?=aw (.lst (l.map D.int))
 af:S[Nf]?=aw (.lst (F.map D.int))
 nn:Nl < Nf
 pm:(F++l).Perm ((Zm G.length).map λi=>Int.ofNat i)
 rg:∀ (j:Nat) g,G[j]?=aw g->g.getD 6 0=0\/(j:Int)∈F
def Fxs.keep{N n c:Nat}(h:Fxs p N n c S E G l F)(kp:Ev.Kp p S v)(hN:N < n):Fxs p N n c v E G l F:=by
 let:=h.gs.pN;let:=h.nn;exact{h.gs.keep kp,kp _ _ (by lia) h.al,kp _ _ (by lia) h.af,h.nn,h.pm,h.rg}
def KC{r s:Int}{M G:List (List Int)}{H:List (Int×Int)}{O:List D}{N hi:Nat}{E:Sto}{u4 u5 u6 u7 u8 u9 J:Option D}(h:Dr p E S)(l0:E.length<=N)(gs:Gs p N S.length S O G)(me:MeOk r s M H)(g7:G.length<=6)(gb:∀g∈G,GB M.length r s g)(g0:∀g∈G,g.getD 6 0=0)
  (q:∀K v,Dr p E v->SkOk K->(∀g∈K.G,GB K.M.length K.r K.s g)->K.G.length<=6->Q (skE K) v) :
  rW (wSs (evC ae (k+3)) (cM ae) 57 (iM.drop 3)) [aw (.ref p),aw (.int 6),aw (meL r s M H),aw (.ref N),u4,u5,u6,u7,u8,u9,J,aD,aD,aD,aD] S (out Q):=by
 let T:=λ(u11 U:Option D) (f:List (List Int)) (es':List D) (F:List Int) (C hi:Nat) (S1:Sto) (d:Dr p E S1) (gs':Gs p N hi S1 es' f) (hf:S1[C]?=aw (.lst (F.map D.int))) (nf:C≠p) (Z:f.length<=6) (n:∀g∈f,GB M.length r s g) (nd:F.Nodup) (bd:∀x∈F,0<=x/\x < f.length) (rg:∀ (j:Nat) g,f[j]?=aw g->g.getD 6 0=0\/(j:Int)∈F)=>
  KB (k:=k) (Q:=Q) (u4:=u4) (u5:=u5) (u6:=u6) (u7:=u7) (u8:=u8) (u9:=u9) (u10:=J) (u11:=u11) (u13:=U) d.pot gs' hf nf me (by lia) λa S2 d2 ha=>q _ S2 (d.trans d2) {me,Zz Z (by decide),λg hg=>(n g hg).up (by decide),nd,bd,rg,ha} n Z
 dsimp![iM,Ys]at T ⊢;let pN:=gs.pN;let le:=gs.len;let Y:N < S.length:=(Zb.mp gs.at_).1;k_is;calc aa (gh gs.at_) ?_;calc{O.length,rfl,by lia,?_};k_is;rw[le]
 let al:(S++[Ob.lst ((Zm G.length).map λj=>D.int (Int.ofNat j))]++[Ob.lst []])[S.length]?=aw (.lst (((Zm G.length).map λj=>Int.ofNat j).map D.int)):=by
  rw[ZB (by simp),ay,Z1];rfl
 let af:(S++[Ob.lst ((Zm G.length).map λj=>D.int (Int.ofNat j))]++[Ob.lst []])[Zi (S++[Ob.lst ((Zm G.length).map λj=>D.int (Int.ofNat j))])]?=aw (.lst (([]:List Int).map D.int)):=ay;let L:Sm S (S++[Ob.lst ((Zm G.length).map λj=>D.int (Int.ofNat j))]++[Ob.lst []]):=(Sm.app _ _).trans (Sm.app _ _);let nn:S.length < Zi (S++[Ob.lst ((Zm G.length).map λj=>D.int (Int.ofNat j))]):=by simp
 generalize Zi (S++[Ob.lst ((Zm G.length).map λj=>D.int (Int.ofNat j))])=C at *;generalize S++[Ob.lst ((Zm G.length).map λj=>D.int (Int.ofNat j))]++[Ob.lst []]=S1 at *;let d1:Dr p E S1:=h.thenSm L;let fx1:Fxs p N S.length C S1 O G ((Zm G.length).map λj=>Int.ofNat j) []:={gs.keep L.kp,al,af,nn,List.Perm.refl _,λj g e=>.inl (g0 g (Zj e))};let sl:E.length<=S.length:=by lia
 generalize S.length=Nl at *;calc aa (gh (L _ _ gs.at_)) ?_;k_is;rw[le];calc{rfl,aE d1.pot (by lia) (by lia) λt S2 t1 t2 d2=>?_};calc{rfl,aE d2.pot (by decide) (by decide) λz S3 z1 z2 d3=>?_};k_is
 obtain⟨c,ec,hc⟩:∃c:Nat,atI [D.int 0,D.int t] z=aw (D.int c)/\c<=G.length:=by
  let:z=0\/z=1:=by lia
  rcases this with rfl |rfl
  .exact{0,rfl,YC _}
  .obtain⟨m,rfl⟩:∃m:Nat,t=(m:Int):={t.toNat,by lia};exact{m,rfl,by lia}
 calc{_,ec,?_};k_is;calc{io (by lia) (by lia),?_};rw[ZF];refine kg (by lia) (λi ρ v=>Dr p E v/\∃f l F U,ρ=[aw (.ref p),aw (.int 6),aw (meL r s M H),aw (.ref N),u4,u5,u6,u7,u8,u9,J,aw (.ref Nl),aw (.ref C),U,aD]/\Fxs p N Nl C v O f l F/\F.length=i/\f.length=G.length/\∀g∈f,GB M.length r s g) (λi ρ S4 hi ⟨d4,f,l,F,U,er,u,lF,lG,n⟩=>?_) (λρ S4 ⟨d4,f,l,F,U,er,u,lF,lG,n⟩=>?_) {(d1.trans d2).trans d3,G,_,[],aD,rfl,fx1.keep (d2.trans d3).kp Y,rfl,rfl,gb}
 .subst er;calc{_,rfl,?_};k_is;let pl:F.length+l.length=f.length:=by let:=u.pm.length_eq;rw[Ze,Za,ZI]at this;exact this
  calc{cA u.af,?_};calc{cA u.al,?_};calc aa (gh u.al) ?_;rw[Za];calc{rfl,aE d4.pot (by lia) (by lia) λj0 X j1 j2 d5=>?_};obtain⟨j,rfl⟩:∃j:Nat,j0=(j:Int):={j0.toNat,by lia};let hj:j < l.length:=by lia
  let B:=u.keep d5.kp Y;calc aa (Ga B.al hj) ?_;let I:=B.nn;let lt5:Nl < X.length:=(Zb.mp B.al).1;let ltf:C < X.length:=(Zb.mp B.af).1;let af6:(X.set Nl (.lst ((l.eraseIdx j).map D.int)))[C]?=aw (.lst (F.map D.int)):=by rw[Zq (by lia)];exact B.af
  rw[jA af6 (by rw[Za];lia)];k_is;let ef:F.map D.int++[D.int l[j]]=(F++[l[j]]).map D.int:=by rw[ZD];rfl
  rw[ef]
  let pm7:((F++[l[j]])++l.eraseIdx j).Perm ((Zm f.length).map λi=>Int.ofNat i):=by
   rw[Yv];exact((xP hj).append_left F).trans u.pm
  let fx7:Fxs p N Nl C ((X.set Nl (.lst ((l.eraseIdx j).map D.int))).set C (.lst ((F++[l[j]]).map D.int))) O f (l.eraseIdx j) (F++[l[j]]):=by
   refine{(B.gs.other (Zg _) Y).other (by lia) Y,?_,eD (by rw[Yb];exact ltf),I,pm7,λj' g e=>?_}
   .rw[Zq (by lia),eD lt5]
   .rcases u.rg j' g e with z |z
    .exact .inl z
    .exact .inr (Z7 _ z)
  let d7:Dr p E ((X.set Nl (.lst ((l.eraseIdx j).map D.int))).set C (.lst ((F++[l[j]]).map D.int))):={((d4.kp.trans d5.kp).setNew (by lia)).setNew (by lia),(d5.pot.setNe (by lia)).setNe (by lia)};generalize (X.set Nl (.lst ((l.eraseIdx j).map D.int))).set C (.lst ((F++[l[j]]).map D.int))=S7 at *;let xb:=(o7 u.pm).2.1 l[j] (ZK _ (ZS hj));generalize l[j]=x at *;calc aa (show ixS (meL r s M H) (.int 0) S7=aw (.int r,S7) from rfl) ?_;k_is;refine dH (λh1=>?_) λh1=>?_
  .k_is;let r0:=ω h1;let r8:=me.r8;calc{rfl,aE d7.pot (by decide) (by decide) λy S8 y1 y2 d8=>?_};k_is;let fx8:=fx7.keep d8.kp Y;refine dH (λh2=>?_) λh2=>?_
   .k_is;calc aa (show ixS (meL r s M H) (.int 0) S8=aw (.int r,S8) from rfl) ?_;calc{rfl,aE d8.pot r0 (by lia) λw S9 w1 w2 d9=>?_};k_is;let o:=fx8.keep d9.kp Y;calc aa (mw (ds:=F.map D.int) (e:=.int x) (by rw[o.af,ZD];rfl)) ?_;let hx:x.toNat < f.length:=by lia
    let{a,ea,n1,n2,za}:=o.gs.row x.toNat f[x.toNat] (gEG hx);calc aa (gg o.gs.at_ xb.1 ea) ?_;k_is;let{kd,jo,fi,la,du,we,ri,eg,hb}:=n f[x.toNat] (ZS hx);rw[eg]at za;calc{_,zl (i:=6) za (by decide) (by show 6 < 7;decide),?_};k_is;let es9:(([kd,jo,fi,la,du,we,ri]:List Int).map D.int).set (6:Int).toNat (.int (1+w))=([kd,jo,fi,la,du,we,1+w]:List Int).map D.int:=rfl;rw[es9];refine{{((d7.kp.trans d8.kp).trans d9.kp).setNew (by lia),d9.pot.setNe (by lia)},f.set x.toNat [kd,jo,fi,la,du,we,1+w],_,_,_,rfl,{o.gs.setRow hx ea,?_,?_,I,by rw[Yb];exact o.pm,λj' g e=>?_},by rw[Ze,Zl];lia,by rw[Yb];exact lG,λg hg=>?_}
    .rw[Zq (by lia)];exact o.al
    .rw[Zq (by lia)];exact o.af
    .by_cases hjj:j'=x.toNat
     .subst hjj;right;let:((x.toNat:Nat):Int)=x:=by lia
      rw[this];exact ZK _ (Zy.mpr rfl)
     .rw[Zq (Ne.symm hjj)]at e;exact o.rg j' g e
    .rcases List.mem_or_eq_of_mem_set hg with hg |rfl
     .exact n g hg
     .exact{kd,jo,fi,la,du,we,1+w,rfl,by omega}
   .k_is;exact{d7.trans d8,f,_,_,_,rfl,fx8,by rw[Ze,Zl];lia,lG,n}
  .k_is;exact{d7,f,_,_,_,rfl,fx7,by rw[Ze,Zl];lia,lG,n}
 .subst er;k_is;let pr:=o7 u.pm;let I:=u.nn;exact T _ _ f O F C Nl S4 d4 u.gs u.af (by lia) (by lia) n (List.Nodup.sublist (List.sublist_append_left F l) pr.1) (λy hy=>pr.2.1 y (Z7 _ hy)) u.rg
def KD(h:Pot p S)(q:∀K v,Dr p S v->SkOk K->(∀g∈K.G,GB K.M.length K.r K.s g)->K.G.length<=6->Q (skE K) v):Ok (evC ae (k+4) 49 [.ref p,.int 6] S) Q:=by
 calc az (d:=kR) (ρ:=[aw (.ref p),aw (.int 6),aD,aD,aD,aD,aD,aD,aD,aD,aD,aD,aD,aD,aD]) rfl rfl ?_;let C:=@KC p;dsimp![kR];dsimp![iM,Ys]at C ⊢;k_is;calc{rfl,xu h λr s M H y d1 me=>?_};rw[show(D.tup [.int r,.int s,.tup (M.map aH),.tup (H.map aj)])=meL r s M H from rfl];k_is;let L:=d1.pot.lt;let m1:=me.m1;let m4:=me.m4;let s0:=me.s0;let s60:=me.s60;let sl:S.length<=y.length:=Kp.len d1.kp L;let d2:Dr p S (y++[Ob.lst []]):=d1.thenSm (Sm.app _ _);let g2:Gs p y.length (Zi (y++[Ob.lst []])) (y++[Ob.lst []]) [] []:={L,ay,rfl,λi g e=>by simp at e,λi j a e=>by simp at e};generalize y++[Ob.lst []]=S2 at *;generalize y.length=N at *;calc{rfl,aE d2.pot (by decide) (by decide) λT S3 j3 k3 d3=>?_};k_is
 obtain⟨wd,at3,h3⟩:∃e:Int,atI [D.int 5,D.int 20,D.int 60] T=aw (D.int e)/\0 < e/\e<=60:=by
  let:T=0\/T=1\/T=2:=by lia
  rcases this with rfl |rfl |rfl
  .exact{5,rfl,by decide,by decide}
  .exact{20,rfl,by decide,by decide}
  .exact{60,rfl,by decide,by decide}
 calc{_,at3,?_};calc{rfl,aE d3.pot (by decide) (by decide) λI S4 j4 k4 d4=>?_};k_is
 obtain⟨lg,at4,h4⟩:∃e:Int,atI [D.int 4,D.int 30,D.int 90,D.int 400] I=aw (D.int e)/\0 < e/\e<=400:=by
  let:I=0\/I=1\/I=2\/I=3:=by lia
  rcases this with rfl |rfl |rfl |rfl
  .exact{4,rfl,by decide,by decide}
  .exact{30,rfl,by decide,by decide}
  .exact{90,rfl,by decide,by decide}
  .exact{400,rfl,by decide,by decide}
 calc{_,at4,?_};k_is;calc{rfl,aE d4.pot (by decide) (by decide) λn0 S5 n1 n2 d5=>?_};k_is;obtain⟨n,rfl⟩:∃n:Nat,n0=(n:Int):={n0.toNat,by lia};calc{io (by lia) (by lia),?_};rw[ZF];let f:=(d3.trans d4).trans d5;refine kg (by lia) (λi ρ v=>Dr p S v/\∃E G u6 u7 u8 u9 u,ρ=[aw (.ref p),aw (.int 6),aw (meL r s M H),aw (.ref N),aw (.int wd),aw (.int lg),u6,u7,u8,u9,u,aD,aD,aD,aD]/\Gs p N v.length v E G/\G.length=i/\∀g∈G,GB M.length r s g/\g.getD 6 0=0) (λi ρ S6 hi ⟨Y,E,G,u6,u7,u8,u9,u,er,gs,lG,gb⟩=>?_) (λρ S6 ⟨Y,E,G,u6,u7,u8,u9,u,er,gs,lG,gb⟩=>?_) {d2.trans f,[],[],aD,aD,aD,aD,aD,rfl,(g2.keep f.kp).up (Kp.len f.kp f.pot.lt),rfl,λg hg=>by simp at hg}
 .subst er;calc{_,rfl,?_};k_is;calc{rfl,aE Y.pot h3.1 (by lia) λJ S7 o1 o2 d7=>?_};k_is;calc aa (show ixS (meL r s M H) (.int 1) S7=aw (.int s,S7) from rfl) ?_;k_is;calc{rfl,aE d7.pot (by decide) (by decide) λx S8 x1 x2 d8=>?_};calc{rfl,aE d8.pot (by decide) (by decide) λz S9 z1 z2 d9=>?_};k_is
  obtain⟨e,ate,he⟩:∃e:Int,atI [D.int 0,D.int x] z=aw (D.int e)/\0<=e/\e<=9:=by
   let:z=0\/z=1:=by lia
   rcases this with rfl |rfl
   .exact{0,rfl,by decide,by decide}
   .exact{x,rfl,by lia,by lia}
  calc{_,ate,?_};k_is;calc{rfl,aE d9.pot h4.1 (by lia) λa Sa a1 a2 da=>?_};k_is;calc{rfl,aE da.pot h4.1 (by lia) λb X b1 b2 db=>?_};k_is;let o:=(((d7.trans d8).trans d9).trans da).trans db;let gsb:=gs.keep o.kp;calc{cA gsb.at_,?_};calc aa (show ixS (meL r s M H) (.int 2) X=aw (.tup (M.map aH),X) from rfl) ?_;calc aa (show au dS (.tup (M.map aH)) X=aw (.int M.length,X) by simp![au,aq,dS,Za]) ?_;calc{rfl,aE db.pot (by lia) (by lia) λO Sc c1 c2 dc=>?_};calc{rfl,aE dc.pot (by decide) (by decide) λw Sd w1 w2 dd=>?_};k_is
  obtain⟨U,Z,hw⟩:∃e:Int,atI [D.int 0,D.int 1,D.int 7,D.int 99] w=aw (D.int e)/\0<=e/\e<=99:=by
   let:w=0\/w=1\/w=2\/w=3:=by lia
   rcases this with rfl |rfl |rfl |rfl
   .exact{0,rfl,by decide,by decide}
   .exact{1,rfl,by decide,by decide}
   .exact{7,rfl,by decide,by decide}
   .exact{99,rfl,by decide,by decide}
  calc{_,Z,?_};k_is;let c:=o.trans (dc.trans dd);let l:=(gs.keep c.kp).up (Kp.len c.kp c.pot.lt);let atN:=Sm.app Sd [Ob.lst [D.int O,D.int J,D.int (J+s+e),D.int (J+s+e+a),D.int (J+b),D.int U,D.int 0]] _ _ l.at_;rw[jA atN (by rw[l.len];lia)];k_is;let sn:=l.snoc (g:=[O,J,J+s+e,J+s+e+a,J+b,U,0]);let B:=Y.trans c;refine{{(B.kp.trans (Sm.app _ _).kp).setNew (by lia),((Dr.sm B.pot (Sm.app _ _)).pot).setNe (by let:=l.pN;lia)},E++[D.ref (Zi Sd)],G++[[O,J,J+s+e,J+s+e+a,J+b,U,0]],_,_,_,_,_,rfl,?_,by rw[Ze,Zl];lia,λg hg=>?_}
  .rw[Yb,Ze,Zl];exact sn
  .rcases ZQ.mp hg with hg |hg
   .exact gb g hg
   .rw[Zy.mp hg];exact⟨{O,J,J+s+e,J+s+e+a,J+b,U,0,rfl,by let:=me.r0;omega},rfl⟩
 .subst er;exact C (hi:=0) Y (by lia) gs me (by lia) (λg hg=>(gb g hg).1) (λg hg=>(gb g hg).2) q
def vq{a b:Dw.D}(h:PB 14 4 a)(g:PB 24 3 b):Shw (.tup [a,b]):=by
 let c:cC 14 4=4219840:=by decide
 let E:cC 24 3=1471348:=by decide
 let h1:=h.bd.sz;let h2:=g.bd.sz;rw[c]at h1;rw[E]at h2;refine FZ (n:=5) (m:=24) (B:=10 ^ 31) (s:=8000000) (Dw.Fit.tup (by show 2<=24;decide) λt ht=>?_) (Dw.Cv (λt ht=>?_) ?_) (by decide) (by decide) (by decide) (by decide)
 .rcases Zn.mp ht with rfl |ht
  .exact h.ft.up (by decide) (by decide)
  .rw[Zy.mp ht];exact g.ft.up (by decide) (by decide)
 .rcases Zn.mp ht with rfl |ht
  .exact h.bd.bn
  .rw[Zy.mp ht];exact g.bd.bn
 .simp![Dw.szL];lia
abbrev inL:List CS:=match oM with
 |[.f _ _ [_,_,_,.f _ _ [_,.f _ _ l,_]],_]=>l
 |_=>[]
def KF(hp:Pot p S){i t m:Int}{h:Dw.D}{j I:D}{n:Nat}{E:Bool->D}{ww:Bool->Str}(Y:PB 24 3 h)(Z:SkOk K)(U:TD p S h j)(np:n≠p)(X:S[n]?=aw (.lst [E aS,E aN]))
  (T:∀ (c:Bool) (g:Sto) (L:D->Sto->Prop),Kp p S g->(∀v,Sm g v->L (E c) v)->Ok (evC ae 39 60 [.int (if c=aN then 1 else 0),skE K,j] g) L) (shw:∀c g,k9 (E c) g=aw (.str (ww c),g))
  {u:Option D} {Qf:Fl->Rho->Sto->Prop} (q:∀a v,Dr p S v->Qf .nx [aw (.ref 0),aw (.int i),aw (.ref p),aw (skE K),aw (.int m),aw (.int t),aw I,aw j,aw (.str (Dw.aX (.tup [skT K,h])).shown),aw (.ref n),a] v) :
  rW (wSs (evC ae 39) (cM ae) 47 (inL.drop 3)) [aw (.ref 0),aw (.int i),aw (.ref p),aw (skE K),aw (.int m),aw (.int t),aw I,aw j,aw (.str (Dw.aX (.tup [skT K,h])).shown),aw (.ref n),u] S Qf:=by
 dsimp![inL,oM,Ys];k_is;calc{by decide,?_};refine kg (by decide) (λw y v=>Dr p S v/\∃a,y=[aw (.ref 0),aw (.int i),aw (.ref p),aw (skE K),aw (.int m),aw (.int t),aw I,aw j,aw (.str (Dw.aX (.tup [skT K,h])).shown),aw (.ref n),a]) (λw y B hw f=>?_) (λy B f=>?_) {Dr.refl hp,_,rfl}
 .let{l,a,C}:=f;subst C;calc{_,rfl,?_};k_is
  obtain⟨c,O⟩:∃c:Bool,(0+(w:Int))=(if c=aN then 1 else 0):=by
   let:w=0\/w=1:=by lia
   rcases this with rfl |rfl
   .exact⟨aS,rfl⟩
   .exact⟨aN,rfl⟩
  rw[O];calc{rfl,T c B _ l.kp λJ s2=>?_};calc aa (shw c J) ?_;k_is;let o:=l.thenSm s2;refine aa (gg (d:=E c) (i:=if c=aN then 1 else 0) (o.kp _ _ np X) (by cases c <;> decide) (by cases c <;> rfl)) ?_;calc aa (shw c J) ?_;k_is;calc aa (zw _ _ _) ?_;rw[beq_self_eq_true];k_is;calc aa (kr (bh (ak zk (ak (U.keep o.kp) aY))) (vq (xK Z) Y)) ?_;k_is;calc aa (zw _ _ _) ?_;rw[beq_self_eq_true];k_is;exact⟨o,_,rfl⟩
 .let{l,a,C}:=f;subst C;k_is;exact q a B l
def KG(X:Pot p S){i t m:Int}{B:Dw.D}{I ri:D}(l:PB 24 3 B)(d:SkOk K)(T:TD p S B I)
  {u8 u9 U:Option D} {Qf:Fl->Rho->Sto->Prop} (q:∀a b c v,Dr p S v->Qf .nx [aw (.ref 0),aw (.int i),aw (.ref p),aw (skE K),aw (.int m),aw (.int t),aw ri,aw I,a,b,c] v) :
  rW (wSs (evC ae 39) (cM ae) 50 inL) [aw (.ref 0),aw (.int i),aw (.ref p),aw (skE K),aw (.int m),aw (.int t),aw ri,aw I,u8,u9,U] S Qf:=by
 let fin:=@KF p;dsimp![inL,oM,Ys]at fin;dsimp![inL,oM];k_is;calc aa (kr (bh (ak zk (ak T aY))) (vq (xK d) l)) ?_;k_is;let lp:=X.lt;calc{rfl,Bk (k:=37) (T.keep (Sm.app S [Ob.lst [.str "lot",.str "lot"]]).kp) (Zz l.ft.wi (by decide)) λS1 s1=>?_};let g:Dr p S S1:=Dr.sm X ((Sm.app _ _).trans s1);let a1:=s1 _ _ (ay (S:=S) (o:=Ob.lst [.str "lot",.str "lot"]));by_cases j:IsL K B
 .let{xs,C,rfl}:=id j;rw[mG j];k_is;let{ds,rfl,hs}:=T.tup;let ed:=mI hs;subst ed;calc{rfl,o6 (k:=38) d C.lk λS2 Z=>?_};calc{rfl,Bg (k:=34) d C.lk λy O=>?_};k_is;let u:Dr p S (y++[Ob.lst [Bl K xs aS,Bl K xs aN]]):=g.thenSm (Z.trans (O.trans (Sm.app _ _)));let f:=g.thenSm (Z.trans O);refine fin (K:=K) (S:=y++[Ob.lst [Bl K xs aS,Bl K xs aN]]) (n:=y.length) (E:=Bl K xs) (ww:=λc=>if c=aN then (Dw.aX (.bl (lnd K xs))).shown else (Dw.aX (skT (nar K xs))).shown) u.pot l d (T.keep u.kp) (by let:=f.pot.lt;let:=Kp.len f.kp f.pot.lt;lia) ay (λc J Qx kp q=>?_) (λc J=>?_) λa v E=>q _ _ _ v (u.trans E)
  .exact zy (k:=9) d (T.keep (u.kp.trans kp)) c (λh=>absurd j h) λY v e L sm=>by
    let e:=mH (Dw.D.tup.inj e);subst e;exact q v sm
  .cases c with
   |true=>exact kr (p:=p) yY (UE (w:=14)).shw
   |false=>exact kr (p:=p) zk (xK (xI d C.lk)).shw
 .rw[kW j];k_is;refine fin (K:=K) (S:=S1) (n:=S.length) (E:=λ_=>.str "lot") (ww:=λ_=>(Dw.aX (.str "lot")).shown) g.pot l d (T.keep g.kp) (by lia) a1 (λc J Qx kp q=>?_) (λc J=>?_) λa v E=>q _ _ _ v (g.trans E)
  .exact zy (k:=9) d (T.keep (g.kp.trans kp)) c (λ_ v sm=>q v sm) λY v e L sm=>absurd ⟨Y,L,e⟩ j
  .exact kr (p:=p) Es (F3 (w:=14) (by decide +kernel)).shw
abbrev Sub(n:Nat)(xs:List Int):Prop:=xs.Pairwise (· < ·)/\∀x∈xs,0<=x/\x < n
def Sub.snoc{n:Nat}{xs:List Int}(h:Sub n xs):Sub (n+1) (xs++[(n:Int)]):=by
 refine{List.pairwise_append.mpr {h.1,List.pairwise_singleton _ _,λa c b hb=>?_},λx hx=>?_}
 .rw[Zy.mp hb];exact(h.2 a c).2
 .rcases ZQ.mp hx with hx |hx
  .let:=h.2 x hx;lia
  .rw[Zy.mp hx];lia
def Sub.up{n:Nat}{xs:List Int}(h:Sub n xs):Sub (n+1) xs:={h.1,λx c=>by let:=h.2 x c;lia}
def Sub.il{n:Nat}{xs:List Int}(h:Sub n xs)(c:n<=7):IL xs:={Zz (F6 (h.1.imp λh=>WD h) h.2) c,λx d=>by let:=h.2 x d;lia}
def IL.gd{xs:List Int}(h:IL xs):Gd p S (.tup (xs.map D.int)):=(qM h).gd (by decide)
def UH{n:Nat}(h:n<=7):IL ((Zm n).map λj=>Int.ofNat j):=⟨by rw[Za,ZI];exact h,λx d=>by
 let{j,c,rfl}:=ZJ.mp d;let:=ZZ.mp c;show 0<=(j:Int)/\(j:Int) < 7
 lia⟩
def Gb(S:Sto){a b:Nat}(h:S[a]?=aw (.lst [.str "sky",.str "sky"]))(hb:S[b]?=aw (.lst [.str "sky",.str "sky"])):am .ne (.ref a) (.ref b) S=aw (.bl aS,S):=by
 let e:eqD 60 S (.ref a) (.ref b)=aw aN:=by
  let e:eqD 60 S (.ref a) (.ref b)=match aU S a,aU S b with
   |some xs,aw ys=>if a=b then aw aN else if xs.length=ys.length then eqL eqB xs ys else aw aS
   |_,_=>aD:=rfl
  rw[e,aM h,aM hb];dsimp!;split
  .rfl
  .rfl
 exact mM e
def KH{xs:List D}{n:Nat}(h:S[n]?=aw (.lst xs))(hl:xs.length<=10):bU .mul (.ref n) (.int 2) S=aw (.ref (Zi S),S++[.lst (Zp 2 xs).flatten]):=by
 simp![bU,rH,h];rw[if_pos {by decide,by show xs.length * 2<=1000;lia,by decide}];rfl
def main(ns:List Int)(hn:ns.length<=63):∃v,evC ae 40 63 [.ref 0] [.frz (ns.map D.int)]=aw (.bl aN,v):=by
 let key:Ok (evC ae (39+1) 63 [.ref 0] [.frz (ns.map D.int)]) λd _=>d = .bl aN:=by
  calc az (d:=yX) (ρ:=[aw (.ref 0),aD,aD,aD,aD,aD,aD,aD,aD,aD,aD]) rfl rfl ?_;dsimp![yX,oM];k_is;let lq:au dS (.ref 0) [Ob.frz (ns.map D.int)]=aw (.int ns.length,[Ob.frz (ns.map D.int)]):=by simp![au,aq,aU,List.getElem?_cons_zero,ZE,dS,Za]
  calc aa lq ?_;k_is
  obtain⟨c,hc,c8⟩:∃c:Nat,(if (if (6:Int) < ns.length then (6:Int) else ns.length) > 1 then (if (6:Int) < ns.length then (6:Int) else ns.length) else 1)=(c:Int)/\c<=6:=by
   refine{(if (if (6:Int) < ns.length then (6:Int) else ns.length) > 1 then (if (6:Int) < ns.length then (6:Int) else ns.length) else 1).toNat,?_,?_}
   .split <;> split <;> lia
   .split <;> split <;> lia
  rw[hc];calc{io (by lia) (by lia),?_};rw[ZF];refine kg (by lia) (λi u v=>v[0]?=aw (Ob.frz (ns.map D.int))/\∃a b c d e f g h j l,u=[aw (.ref 0),a,b,c,d,e,f,g,h,j,l]) (λi u S1 hi q=>?_) (λu S1 q=>?_) ⟨rfl,aD,aD,aD,aD,aD,aD,aD,aD,aD,aD,rfl⟩
  .let{L,a,b,c',d,e,f,g,h,j,l,E}:=q;subst E;calc{_,rfl,?_};k_is;rw[X2];calc{rfl,J1 (k:=38) L λx=>?_};calc{rfl,QK (k:=38) λn=>?_};k_is;let pt:Pot (Zi S1) (S1++[Ob.lst [D.int n]]):=⟨n,ay⟩;let n0:0≠Zi S1:=λz=>by rw[Yk.mp z.symm]at L;simp at L
   let h1:(S1++[Ob.lst [D.int n]])[0]?=aw (Ob.frz (ns.map D.int)):=Sm.app _ _ _ _ L;generalize S1++[Ob.lst [D.int n]]=S2 at *;generalize Zi S1=p at *;calc{rfl,KD (k:=35) pt λK S3 d3 sk _ g6=>?_};k_is;calc aa sk2 (aa bz ?_);k_is;calc{by decide,?_};refine kg (by decide) (λt u v=>Dr p S2 v/\∃f g h j l m,u=[aw (.ref 0),aw (.int (i:Int)),aw (.ref p),aw (skE K),aw (.int K.G.length),f,g,h,j,l,m]) (λt u S7 ht q=>?_) (λu S7 q=>?_) ⟨d3,_,_,_,_,_,_,rfl⟩
   .let{X,f,g,h,j,l,m,E}:=q;subst E;calc{_,rfl,?_};k_is;calc{io (by lia) (by lia),?_};rw[ZF];refine kS K.G.length (λi=>D.int (0+(i:Int))) (λi o v=>Dr p S7 v/\∃xs,Sub i xs/\o=xs.map D.int) (λi o v hi _=>rfl) (by lia) (λi o v hi I=>?_) (λes v I=>?_) {Dr.refl X.pot,[],{.nil,λ_ h=>by cases h},rfl}
    .let{J,xs,T,rfl}:=I;calc{_,rfl,?_};k_is;calc{rfl,aE J.pot (by decide) (by decide) λr S9 r0 r1 U=>?_};k_is;by_cases hr:r > 0
     .rw[decide_eq_true hr];k_is;exact{J.trans U,xs++[(i:Int)],T.snoc,by rw[X2,ZD];rfl}
     .rw[decide_eq_false hr];exact{J.trans U,xs,T.up,by rw[ZU]}
    .let{J,xs,T,rfl}:=I;let il:=T.il (by lia);let l7:=il.ln;calc{by rw[Za];lia,aa (show df aS (xs.map D.int) v=aw (.tup (xs.map D.int),v) from rfl) ?_};k_is;calc{{by lia,by lia},by decide,?_};rw[ZF];let e0:(Zm K.G.length).map (λj=>D.int (Int.ofNat j))=((Zm K.G.length).map λj=>Int.ofNat j).map D.int:=by rw[Z1];rfl
     rw[e0]
     obtain⟨y,ey,gy⟩:∃y,atI [D.tup [],D.tup (((Zm K.G.length).map λj=>Int.ofNat j).map D.int)] ((0+(t:Int)) % 2)=aw y/\∀B,Gd p B y:=by
      let:(0+(t:Int)) % 2=0\/(0+(t:Int)) % 2=1:=by lia
      rcases this with h |h <;> rw[h]
      .exact{_,rfl,λB=>IL.gd (xs:=[]) {by decide,λ_ h=>by cases h}}
      .exact{_,rfl,λB=>(UH (by lia)).gd}
     calc{y,ey,rfl,Kz (k:=37) J.pot il λz S9 U gz=>?_};let dA:=J.trans U;refine Ff (by show 3<=100000;decide) (λ_ u B=>Dr p S9 B/\∃a b c e,u=[aw (.ref 0),aw (.int (i:Int)),aw (.ref p),aw (skE K),aw (.int K.G.length),aw (.int (0+(t:Int))),aw (.tup (xs.map D.int)),a,b,c,e]) (λw d u B hw C=>?_) (λu B C=>?_) {Dr.refl dA.pot,_,_,_,_,rfl}
     .let{O,Y,a2,a3,a4,E}:=C;subst E
      let gd:Gd p B d:=by
       let hm:=Zj hw;simp![Zn,ZX,or_false]at hm;rcases hm with rfl |rfl |rfl
       .exact il.gd
       .exact gy B
       .exact gz.keep O.kp
      let{tt,td,pb}:=gd;calc{_,rfl,?_};calc xn ?_;let fin:=@KG p;dsimp![inL,oM]at fin;exact fin (K:=K) O.pot pb sk td λb1 b2 b3 v dd=>{O.trans dd,_,_,_,_,rfl}
     .let{O,Y,a2,a3,a4,E}:=C;subst E;k_is;let dB:=dA.trans O;refine{by decide,kS 2 (λi=>D.int (0+(i:Int))) (λw o v=>Dr p B v/\o=Zp w (.str "sky")) (λ_ _ _ _ _=>rfl) (by decide) (λw o v hw I=>?_) (λes v I=>?_) {Dr.refl dB.pot,rfl}}
      .let{Z,rfl}:=I;calc{_,rfl,?_};k_is
       obtain⟨c,ec⟩:∃c:Bool,(0+(w:Int))=(if c=aN then 1 else 0):=by
        let:w=0\/w=1:=by lia
        rcases this with rfl |rfl
        .exact⟨aS,rfl⟩
        .exact⟨aN,rfl⟩
       rw[ec];calc{rfl,KA (k:=9) (p:=p) (t:=.tup [skT K]) (bh (ak zk aY)) rfl c λS'' s2=>?_};exact{Z.thenSm s2,by rw[List.replicate_succ']}
      .let{Z,rfl}:=I;calc{by decide,?_};let Y:(v++[Ob.lst (Zp 2 (D.str "sky"))]++[Ob.lst [D.str (Str.ofString "sky")]])[(v++[Ob.lst (Zp 2 (D.str "sky"))]).length]?=aw (.lst [.str "sky"]):=ay;let a2:(v++[Ob.lst (Zp 2 (D.str "sky"))]++[Ob.lst [D.str (Str.ofString "sky")]])[v.length]?=aw (.lst [.str "sky",.str "sky"]):=Sm.app _ _ _ _ ay;let dC:=Z.thenSm ((Sm.app v [Ob.lst (Zp 2 (D.str "sky"))]).trans (Sm.app _ [Ob.lst [D.str (Str.ofString "sky")]]));generalize v++[Ob.lst (Zp 2 (D.str "sky"))]++[Ob.lst [D.str (Str.ofString "sky")]]=SC at *;calc aa (KH Y (by show 1<=10;decide)) ?_;calc aa (Gb _ (Sm.app _ _ _ _ a2) ay) ?_;k_is;exact{(X.trans dB).trans (dC.thenSm (Sm.app _ _)),_,_,_,_,_,_,rfl}
   .let{X,f,g,h,j,l,m,E}:=q;subst E;k_is;exact{X.kp _ _ n0 h1,_,_,_,_,_,_,_,_,_,_,rfl}
  .let{L,a,b,c',d,e,f,g,h,j,l,E}:=q;subst E;k_is
 let{d,v,e,rfl}:=key;exact⟨v,e⟩
end Lw
theorem PySem.Challenge.cw_downrings_k51_lots_narrowed_and_landed_holds : PySem.Challenge.rw_downrings_k51_lots_narrowed_and_landed.Holds :=
 Lw.head Lw.main
