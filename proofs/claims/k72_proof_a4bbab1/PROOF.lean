import PyProof.Rows.All
import KE.KIntText
import KE.KIsAll
import KE.KSortTup
import KE.KUnpackStar
import PySem.Challenge.RW_downrings_k72_texts_bent_anywhere
set_option Elab.async false
set_option linter.all false
set_option maxRecDepth 100000
set_option maxHeartbeats 4000000
local macro_rules|`(abbrev $n:declId $s:optDeclSig $v:declVal)=>`(noncomputable def $n $s:optDeclSig $v:declVal)
local macro_rules|`(def $n:declId $s:optDeclSig $v:declVal)=>do let d:=⟨Lean.mkNode `Lean.Parser.Command.declSig #[s.raw[0],s.raw[1][0]]⟩;`(theorem $n $d $v:declVal)
open Option renaming some → aD,none → aT,some.inj->θ
open Bool renaming true → a8,false → a9
def ω[Decidable p](h:decide p=true):p:=of_decide_eq_true h
namespace Xobt
variable{P:Prop}
def ex1{p:A→Prop}(h:∃a,p a)(k:∀a,p a→P):P:=let⟨a,h⟩:=h;k a h
def ex2{p:A→B→Prop}(h:∃a b,p a b)(k:∀a b,p a b→P):P:=let⟨a,b,h⟩:=h;k a b h
def ex3{p:A→B→C→Prop}(h:∃a b c,p a b c)(k:∀a b c,p a b c→P):P:=let⟨a,b,c,h⟩:=h;k a b c h
def ex4{p:A→B→C→D→Prop}(h:∃a b c d,p a b c d)(k:∀a b c d,p a b c d→P):P:=let⟨a,b,c,d,h⟩:=h;k a b c d h
def ex5{p:A→B→C→D→E→Prop}(h:∃a b c d e,p a b c d e)(k:∀a b c d e,p a b c d e→P):P:=let⟨a,b,c,d,e,h⟩:=h;k a b c d e h
def ex6{p:A→B→C→D→E→F→Prop}(h:∃a b c d e f,p a b c d e f)(k:∀a b c d e f,p a b c d e f→P):P:=let⟨a,b,c,d,e,f,h⟩:=h;k a b c d e f h
def ex7{p:A→B→C→D→E→F→G→Prop}(h:∃a b c d e f g,p a b c d e f g)(k:∀a b c d e f g,p a b c d e f g→P):P:=let⟨a,b,c,d,e,f,g,h⟩:=h;k a b c d e f g h
def ex8{p:A→B→C→D→E→F→G→I→Prop}(h:∃a b c d e f g i,p a b c d e f g i)(k:∀a b c d e f g i,p a b c d e f g i→P):P:=let⟨a,b,c,d,e,f,g,i,h⟩:=h;k a b c d e f g i h
def ex9{p:A→B→C→D→E→F→G→I→J→Prop}(h:∃a b c d e f g i j,p a b c d e f g i j)(k:∀a b c d e f g i j,p a b c d e f g i j→P):P:=let⟨a,b,c,d,e,f,g,i,j,h⟩:=h;k a b c d e f g i j h
def ex10{p:A→B→C→D→E→F→G→I→J→L→Prop}(h:∃a b c d e f g i j l,p a b c d e f g i j l)(k:∀a b c d e f g i j l,p a b c d e f g i j l→P):P:=let⟨a,b,c,d,e,f,g,i,j,l,h⟩:=h;k a b c d e f g i j l h
def ex16{p:A→B→C→D→E→F→G→I→J→L→M→N→O→Q→R→T→Prop}(h:∃a b c d e f g i j l m n o q r s,p a b c d e f g i j l m n o q r s)(k:∀a b c d e f g i j l m n o q r s,p a b c d e f g i j l m n o q r s→P):P:=let⟨a,b,c,d,e,f,g,i,j,l,m,n,o,q,r,s,h⟩:=h;k a b c d e f g i j l m n o q r s h
def an2(h:a∧b)(k:a→b→P):P:=k h.1 h.2
def an3(h:a∧b∧c)(k:a→b→c→P):P:=k h.1 h.2.1 h.2.2
def an4(h:a∧b∧c∧d)(k:a→b→c→d→P):P:=k h.1 h.2.1 h.2.2.1 h.2.2.2
def an5(h:a∧b∧c∧d∧e)(k:a→b→c→d→e→P):P:=k h.1 h.2.1 h.2.2.1 h.2.2.2.1 h.2.2.2.2
def an6(h:a∧b∧c∧d∧e∧f)(k:a→b→c→d→e→f→P):P:=k h.1 h.2.1 h.2.2.1 h.2.2.2.1 h.2.2.2.2.1 h.2.2.2.2.2
def an7(h:a∧b∧c∧d∧e∧f∧g)(k:a→b→c→d→e→f→g→P):P:=k h.1 h.2.1 h.2.2.1 h.2.2.2.1 h.2.2.2.2.1 h.2.2.2.2.2.1 h.2.2.2.2.2.2
def an8(h:a∧b∧c∧d∧e∧f∧g∧i)(k:a→b→c→d→e→f→g→i→P):P:=k h.1 h.2.1 h.2.2.1 h.2.2.2.1 h.2.2.2.2.1 h.2.2.2.2.2.1 h.2.2.2.2.2.2.1 h.2.2.2.2.2.2.2
def an10(h:a∧b∧c∧d∧e∧f∧g∧i∧j∧l)(k:a→b→c→d→e→f→g→i→j→l→P):P:=k h.1 h.2.1 h.2.2.1 h.2.2.2.1 h.2.2.2.2.1 h.2.2.2.2.2.1 h.2.2.2.2.2.2.1 h.2.2.2.2.2.2.2.1 h.2.2.2.2.2.2.2.2.1 h.2.2.2.2.2.2.2.2.2
def an12(h:a∧b∧c∧d∧e∧f∧g∧i∧j∧l∧m∧n)(k:a→b→c→d→e→f→g→i→j→l→m→n→P):P:=k h.1 h.2.1 h.2.2.1 h.2.2.2.1 h.2.2.2.2.1 h.2.2.2.2.2.1 h.2.2.2.2.2.2.1 h.2.2.2.2.2.2.2.1 h.2.2.2.2.2.2.2.2.1 h.2.2.2.2.2.2.2.2.2.1 h.2.2.2.2.2.2.2.2.2.2.1 h.2.2.2.2.2.2.2.2.2.2.2
def in2{p:A→B→Prop}(a:A)(b:B)(h:p a b):∃a b,p a b:=⟨a,b,h⟩
def in3{p:A→B→C→Prop}(a:A)(b:B)(c:C)(h:p a b c):∃a b c,p a b c:=⟨a,b,c,h⟩
def in4{p:A→B→C→D→Prop}(a:A)(b:B)(c:C)(d:D)(h:p a b c d):∃a b c d,p a b c d:=⟨a,b,c,d,h⟩
def in5{p:A→B→C→D→E→Prop}(a:A)(b:B)(c:C)(d:D)(e:E)(h:p a b c d e):∃a b c d e,p a b c d e:=⟨a,b,c,d,e,h⟩
def in6{p:A→B→C→D→E→F→Prop}(a:A)(b:B)(c:C)(d:D)(e:E)(f:F)(h:p a b c d e f):∃a b c d e f,p a b c d e f:=⟨a,b,c,d,e,f,h⟩
def in7{p:A→B→C→D→E→F→G→Prop}(a:A)(b:B)(c:C)(d:D)(e:E)(f:F)(g:G)(h:p a b c d e f g):∃a b c d e f g,p a b c d e f g:=⟨a,b,c,d,e,f,g,h⟩
def in8{p:A→B→C→D→E→F→G→I→Prop}(a:A)(b:B)(c:C)(d:D)(e:E)(f:F)(g:G)(i:I)(h:p a b c d e f g i):∃a b c d e f g i,p a b c d e f g i:=⟨a,b,c,d,e,f,g,i,h⟩
def in10{p:A→B→C→D→E→F→G→I→J→L→Prop}(a:A)(b:B)(c:C)(d:D)(e:E)(f:F)(g:G)(i:I)(j:J)(l:L)(h:p a b c d e f g i j l):∃a b c d e f g i j l,p a b c d e f g i j l:=⟨a,b,c,d,e,f,g,i,j,l,h⟩
def in12{p:A→B→C→D→E→F→G→I→J→L→M→N→Prop}(a:A)(b:B)(c:C)(d:D)(e:E)(f:F)(g:G)(i:I)(j:J)(l:L)(m:M)(n:N)(h:p a b c d e f g i j l m n):∃a b c d e f g i j l m n,p a b c d e f g i j l m n:=⟨a,b,c,d,e,f,g,i,j,l,m,n,h⟩
end Xobt
local macro_rules
|`(tactic|obtain⟨$ps,*⟩:=$e:term)=>do
 let ps:=ps.getElems
 let n:=ps.size
 if n<2 then Lean.Macro.throwUnsupported
 let I (s:String):Lean.MacroM (Lean.TSyntax `ident):=return Lean.mkIdent (Lean.Name.mkSimple s)
 let mut vs:Array (Lean.TSyntax `ident):=#[]
 let mut sb:Array (Lean.TSyntax `tactic):=#[]
 for p in ps do
  let y ← I s!"ξ{vs.size}"
  match p with
  |`(Lean.Parser.Tactic.rcasesPatLo|$x:ident)=>
   if x.getId==`rfl then
    vs:=vs.push y
    sb:=sb.push (← `(tactic|subst $y))
   else vs:=vs.push x
  |`(Lean.Parser.Tactic.rcasesPatLo|_)=>vs:=vs.push y
  |_=>Lean.Macro.throwUnsupported
 let z ← I "ξ"
 let w ← I "ζ"
 let N (s:String):=Lean.mkIdent (`Xobt++Lean.Name.mkSimple s)
 let mk (e:Lean.TSyntax `term)(c:Array (Lean.TSyntax `tactic)):Lean.MacroM (Lean.TSyntax `tactic):=do
  let mut al:=#[]
  for i in [0:n] do
   let k:=n-1-i
   let m:=n-k
   if k>16||m>18 then continue
   let a:=vs.extract 0 k
   let b:=vs.extract k n
   let E:=N s!"ex{k}"
   let A:=N s!"an{m}"
   al:=al.push (← if k==0 then `(tacticSeq|(refine $A $e λ$b*=>?_;$[$c]*)) else if m==1 then `(tacticSeq|(refine $E $e λ$vs*=>?_;$[$c]*)) else `(tacticSeq|(refine $E $e λ$a* $z=>$A $z λ$b*=>?_;clear $z;$[$c]*)))
  al:=al.push (← `(tacticSeq|fail))
  `(tactic|first $[| $al]*)
 let t ← mk e sb
 if e.raw.isIdent then
  let i:Lean.TSyntax `ident:=⟨e.raw⟩
  let s ← mk w (#[← `(tactic|clear $w)]++sb)
  `(tactic|first|(revert $i;intro $w:ident;$s:tactic)|$t:tactic)
 else return t
|`(tactic|exact⟨$ps,*⟩)=>do
 let ps:=ps.getElems
 let n:=ps.size
 if n<3 then Lean.Macro.throwUnsupported
 let mut al:=#[]
 for i in [1:n-1] do
  let k:=n-i
  if k>12 then continue
  let a:=ps.extract 0 k
  let b:=ps.extract k n
  let E:=Lean.mkIdent (`Xobt++Lean.Name.mkSimple s!"in{k}")
  let r ← if b.size==1 then pure b[0]! else `(⟨$b,*⟩)
  al:=al.push (← `(tacticSeq|exact $E $a* $r))
 `(tactic|first $[| $al]*)
|`(tactic|refine⟨$ps,*⟩)=>do
 let ps:=ps.getElems
 let n:=ps.size
 if n<3 then Lean.Macro.throwUnsupported
 let mut al:=#[]
 for i in [1:n-1] do
  let k:=n-i
  if k>12 then continue
  let a:=ps.extract 0 k
  let b:=ps.extract k n
  let E:=Lean.mkIdent (`Xobt++Lean.Name.mkSimple s!"in{k}")
  let r ← if b.size==1 then pure b[0]! else `(⟨$b,*⟩)
  al:=al.push (← `(tacticSeq|refine $E $a* $r))
 `(tactic|first $[| $al]*)
local macro_rules
|`(tactic|let $d:letDecl)=>do
 let q:=d.raw[0]
 let p:=q[0]
 let p:=if p.isOfKind Lean.choiceKind then p.getArgs.back! else p
 let rec go(x:Lean.Syntax):Nat->Lean.MacroM (Lean.TSyntax `rcasesPat)
  |0=>Lean.Macro.throwUnsupported
  |n+1=>do
   if x.isIdent then `(rcasesPat|$(⟨x⟩):ident) else
   if x.isOfKind `Lean.Parser.Term.hole then `(rcasesPat|_) else
   let s:=if x.isOfKind `Lean.Parser.Term.structInst then x[2][0].getSepArgs.map (·[0][0]) else x[1].getSepArgs
   if s.size==0 then Lean.Macro.throwUnsupported
   let a ← s.mapM λy=>do `(Lean.Parser.Tactic.rcasesPatLo|$(← go y n):rcasesPat)
   `(rcasesPat|⟨$a,*⟩)
 if p[0].isToken "{" then
  let r ← go p 9
  `(tactic|obtain $r:rcasesPat:=$(⟨q[4]⟩))
 else `(tactic|have $d:letDecl)
local macro_rules(kind:=«term{_}»)|x=>do let p:Array (Lean.TSyntax `term):=x[1].getSepArgs.map (⟨·⟩);`(⟨$p,*⟩)
local macro_rules|`(tactic|exact $t)=>do
 let x:=t.raw
 if x.isOfKind `«term{_}» then let p:Array (Lean.TSyntax `term):=x[1].getSepArgs.map (⟨·⟩);`(tactic|exact⟨$p,*⟩) else Lean.Macro.throwUnsupported
local macro_rules|`(tactic|refine $t)=>do
 let x:=t.raw
 if x.isOfKind `«term{_}» then let p:Array (Lean.TSyntax `term):=x[1].getSepArgs.map (⟨·⟩);`(tactic|refine⟨$p,*⟩) else Lean.Macro.throwUnsupported
local macro_rules(kind:=Lean.calcTactic)|x=>do let t:Lean.TSyntax `term:=⟨x[1][0][0]⟩;`(tactic|refine $t)
local macro_rules|`(~~~$s)=>`(($s).G.length)
local macro_rules|`($s⁻¹)=>`(($s).heap.objs.size)
local macro_rules|`(tactic|delta $[$x]*$[$l]?)=>`(tactic|unfold $[$x]*$[$l]?)
local macro_rules|`(tactic|simp!$[[$a,*]]?$[$l]?)=>`(tactic|simp only$[[$a,*]]?$[$l]?)
local macro_rules|`(tactic|dsimp!$[[$a,*]]?$[$l]?)=>`(tactic|dsimp only$[[$a,*]]?$[$l]?)
open List renaming length_map->Za,getElem?_eq_some_iff->Zb,length->Zd,mem_cons_self->Zf,all_eq_true->Zg,mem_cons_of_mem->Zh,length_append->Zi,size_toArray->Zj,mem_cons->Zl,range->Zm,getElem?_map->Zn,getElem?_append_right->Zo,getElem?_set_self->Zq,replicate->Zr,mem_of_getElem?->Zs,length_cons->Zt,map_append->Zu,mem_singleton->Zw,map_cons->Zx,getElem?_append_left->Zz,getElem?_set_ne->ZA,mem_append->ZC,length_take->ZD,mem_append_right->ZE,mem_map->ZF,getElem_mem->ZG,getElem?_eq_none->ZH,append_assoc->ZK,not_mem_nil->ZM,append_nil->ZN,length_singleton->ZO,take_succ_eq_append_getElem->ZQ,lookup_cons->ZT,mem_range->ZU,mem_append_left->ZV,map_nil->ZX,all_map->ZY,mem_flatMap->ZZ,all_cons->Z0,cons_append->Z3,take_length->Z4,length_range->Z7,contains_cons->Z9,nil_append->Yb,take_of_length_le->Yg,replicate_succ->Yi,range_succ->Yk,map_map->Yl,length_drop->Yn,length_eq_zero_iff->Yo,cons_ne_nil->Yp,eraseIdx_cons_succ->Yq,getElem_of_mem->Yr,getElem?_eq_none_iff->Ys,take_append_drop->Yt,prefix_refl->Yv,getElem?_replicate->Yx,flatMap_cons->Yy,nodup_cons->Yz,length_set->YA,getD_eq_getElem?_getD->YB,mem_or_eq_of_mem_set->YC,drop->YD,flatten_cons->YE,any_cons->YF,map_congr_left->YG,drop_succ_cons->YH,drop_zero->YI,mem_filterMap->YJ,prefix_append->YK,pairwise_cons->YL,foldl_cons->YM,find?_cons->YN,getElem?_set->YR,mem_of_mem_take->YT,getElem_inj->YU,any_eq_true->YV,of_mem_zip->YW,length_nil->YX,nodup_append->Y0,length_replicate->Y1,countP_cons->Y2,set->Y3,filterMap_cons->Y6,toList_toArray->Y7,flatMap_append->Y8,getElem?_range->Y9,forIn_nil->Xa,zip_cons_cons->Xb,filter_append->Xc,foldl_append->Xe,map_inj_left->Xf,getElem_take->Xg,set_comm->Xi,getElem?_take_of_lt->Xj,mem_of_mem_eraseIdx->Xm,filter_cons->Xr,getElem?_cons_succ->Xs,all_nil->Xy,range_succ_eq_map->Xz,toArray->XB,forIn_cons->XD,singleton_append->XM,contains_iff_mem->XN,lookup->XR,mem_iff_getElem->XU,getElem?_of_mem->XV,replicate_zero->XX,length_pos_iff->XZ,map_take->X1,sum_cons->X2,set_cons_zero->X5,set_cons_succ->X6,any_eq_false->X9,take_sublist->Wa,flatten_nil->Wg,mem_filter->Wj,length_zip->Wk,countP_map->Wl,foldl->Wo,nodup_nil->Wp,count->Ws,take_succ->Wu,take_add->Wx,take_nil->Wy,drop_nil->Wz,cons->WB,any_map->WF,map_set->WH
open Nat renaming le_refl->Zc,le_trans->Zy,lt_of_lt_of_le->ZB,ne_of_lt->ZI,lt_irrefl->ZS,zero_le->Z5,not_lt_zero->Yc,sub_self->Ye,le_succ->Yw,le_of_succ_le->YZ,add_le_add_right->Y4,le_add_left->Y5,succ_le_succ->Xn,lt_succ_self->Xq,le_max_right->Xu,le_of_lt->Xv,succ_mul->Xx,min_eq_left->XF,le_max_left->XG,add_sub_add_right->XJ,ne_of_gt->X8,lt_succ_of_lt->Wd,succ_ne_self->Wf,succ_ne_zero->Wh,log2_lt->Wi,mul_le_mul->Wr,max_le->Wv,max_assoc->WA,lt_trans->WC,sub_zero->WD,zero_add->WE
open Bool renaming false_ne_true->Ze,false_and->ZP,true_and->ZR,and_false->ZW,eq_iff_iff->Z1,and_true->Z2,eq_false_iff->Z8,false_eq_true->Ym,or_eq_true->YO,and_comm->Xh,or_false->Xk,and_self->Xl,and_eq_true_iff->XW,and_assoc->Wq,false_bne->Wt,false_or->Ww
open PySem.Heap renaming get?_push_of_some->Zk,lt_size->Zv,get?_push_size->ZJ,size_push->YY,size_update->Xo,get?_update_other->Xw,get?_update_self->XH,get?_update_ne->XY,get?_push_ne->Wc
open Option renaming map_some->Zp,map_eq_some_iff->Yd,isSome_iff_exists->Yj,getD_some->Yu,isSome_map->Xd,isSome_some->X4,getD_none->We,map_none->Wn,bind->WI,map->WJ
open Int renaming toNat_natCast->ZL,emod_lt_of_pos->X7,emod_nonneg->Wm,add_zero->WG
open Array renaming toList_append->Z6,length_toList->Yh,getElem?_toList->YQ,getElem?_eq_some_iff->YS,toList_inj->Xp,getElem?_eq_none->XC,mem_toList_iff->XQ,append_assoc->X3,size_append->Wb
open PyProof.Rows renaming boot_enumerate->WK,boot_int->WL,boot_isinstance->WM,boot_list->WN,boot_sorted->WO,boot_str->WQ,boot_tuple->WR,callWith_type1->WT,slot_tuple_getitem->WU
open PySem.Calls renaming Constant_str->WV,Name_function_global->WW,callWith_builtin->WX,call_len_list->WY,evalArgs_plain->WZ,spliced_cons->W0,spliced_nil->W1
open PySem renaming Comprehension->W2,FuncData->VN,GenState->VO,NameKind->VP,Operator->VQ,Spec->V5,assignEach->Zaf,assignInOrder->Zag,attributeBase->Zah,backToKw->Zai,behindInMarks->Zaj,binaryOp->Zak,bindName->Zal,bootBuiltins->Zam,boot_len->Zan,builtinsNs->Zao,call_meets->Zap,cellsFrom->Zaq,codeAny_call_builtin->Zar,codeAny_call_function->Zas,codeAny_mono->Zat,compareOp->Zau,comprehension->Zav,concat_meets->Zaw,excClassObj->Zax,foldedSetIterable->Zay,importedModules->Zaz,inplaceOp->ZaA,intText_digits->ZaB,keywordEach->ZaC,letOwnedTupleGo->ZaD,lookupAlong->ZaE,mainGlobals->ZaF,mem_of_lookup->ZaG,newFunctionEnv->ZaH,noFill_tuple_add->ZaI,pushCells->ZaJ,pushCells_keeps->ZaK,seqIndex_neg->ZaL,seqIndex_of->ZaM,seq_tuple_add->ZaN,sizeLine_eq->ZaO,sliceBounds->ZaP,starEach->ZaQ,swappedStores->ZaR,swapsWith->ZaS,swapsWithSole->ZaT,sysModules->ZaU,treeTable->ZaV,tupleKind->ZaW,tupleKind_room_in1->ZaX,typeIs_str->ZaY,typeLookup->ZaZ,unpackItems->Za0,wpAny_Call_Name_kw->Za1,wpAny_Call_method_late->Za2,wpAny_Return_some->Za3,wpAny_bind->Za4,wpAny_bindName->Za5,wpAny_call_entry->Za6,wpAny_comprehension_free->Za7,wpAny_eqBool_int->Za8,wpAny_execs_cons->Za9,wpAny_execs_nil->Zba,wpAny_field->Zbb,wpAny_holding->Zbc,wpAny_isSubtype_exc->Zbd,wpAny_letOwnedTupleGo_enum->Zbe,wpAny_loadName_local->Zbf,wpAny_loadPart'->Zbg,wpAny_loadPart_at->Zbh,wpAny_mono->Zbi,wpAny_newFunctionEnv_cells->Zbj,wpAny_newList->Zbk,wpAny_newObj_type->Zbl,wpAny_passesOwn->Zbm,wpAny_pure->Zbn,wpAny_pyIter_enum->Zbo,wpAny_pyIter_list->Zbp,wpAny_pyIter_tuple->Zbq,wpAny_pyNext_enum_endD->Zbr,wpAny_pyNext_enum_itemD->Zbs,wpAny_rule->Zbt,wpAny_standAt->Zbu,wpAny_truthy_bool->Zbv,wpAny_typeOf->Zbw
open PySem.F renaming args_tuple_add_2->W3,args_tuple_iterator_next_1->W4,entry_tuple_add->W5,entry_tuple_iterator_next->W6,plainAttrs_list->W7,plainAttrs_str->W8,slot_list_append->W9,slot_list_count->VC,slot_list_index->VE,slot_list_insert->VF,slot_list_pop->VG,slot_str_split->VH,slot_tuple_add->VI,slot_tuple_count->VJ,slot_tuple_iterator_next->VL,typeOf_object_class->VM
open PySem.PyData renaming depth->VR,depthAll->VS,hasDict->VT,hasDictAll->VU,leavesShort->VW,leavesShortAll->VX,showable->VY,showableAll->VZ,shown->V0,weight->V1,weightAll->V2
open PySem.SeqAt renaming EqAt->V3,RcNeAt->V4
open PySem.W renaming Frag->V6,callWith_K->V7,cellsFrom_some->V8,clsIn->V9,codeIn->Up,codeRec_of->UP,findIn->Rw,fnOf->Pi,hideAll_get->Of,instObj->On,kas_sort->Os,keepIn->OF,kia_one->ON,kitCls->OR,kitOne->OS,kitx_dict->No,kitx_list->NE,lookIn->NO,methodObj->Zaa,mroIn->Zab,of_hideAll->Zac,plainGet->Zad,subIn->Zae
namespace Cut
open PySem PySem.W
abbrev tQ(T:String->Option Builtin)(p:Program)(w:World)(b:Nat)(c:Option Value):Nat->Shared->Thread->Option (Shared×Thread)
 |0,s,t=>aD (s,t)
 |n+1,s,t=>match through t with
  |true=>aT
  |false=>match stepOk b c t with
   |false=>aT
   |true=>match step (denote T) p w s t with
    |.go s' t'=>tQ T p w b c n s' t'
    |.halt _ _=>aT
def Cs{T:String->Option Builtin}{p:Program}{w:World}{b:Nat}{c:Option Value}{m:Nat}:∀ {n:Nat} {s f:Shared} {t t':Thread},tQ T p w b c n s t=aD (f,t')->topRun T p w b c (m+n) s t=topRun T p w b c m f t'
 |0,s,f,t,t',h=>by cases h;rfl
 |n+1,s,f,t,t',h=>by
  rw[<-Nat.add_assoc];delta tQ at h
  conv=>lhs;unfold topRun
  cases g:through t with
  |true=>rw[g]at h;cases h
  |false=>
   rw[g]at h;dsimp! at h ⊢;cases E:stepOk b c t with
   |false=>rw[E]at h;cases h
   |true=>
    rw[E]at h;dsimp! at h ⊢;cases j:step (denote T) p w s t with
    |halt o q=>rw[j]at h;cases h
    |go q u=>
     rw[j]at h;exact Cs h
section
variable (p:Program) (w:World)
abbrev s0:Shared:=(fencedOpening ZaV p w 20000).getD {}
abbrev n0:Nat:=(s0 p w).heap.objs.size
abbrev an:Option Value:=(s0 p w).heap.nsMap ZaF "__annotations__"
abbrev st(n:Nat):Shared×Thread:=(tQ ZaV p w (n0 p w) (an p w) n (s0 p w) (topStub p)).getD (s0 p w,topStub p)
abbrev ent(n:String)(t:Nat)(v:Value):DictEntry:={reduceHash (w.params.strHash (Str.ofString n).cps),.str (Str.ofString n) t,v}
abbrev nm:List String:=["NoMeadow","NoSky","NoLandings","NoOrder","NoLot","NoText","NoName","NoGlider","NoMinute","NoAim","TooMany","Bound","NoDeed","NoRow"]
abbrev cls(x:String×Nat):List Obj:=
 let n:=Str.ofString x.1;let b:=28+12 * x.2;let t:=207+16 * x.2;let l:Int:=4+2 * x.2
 let m:=Value.str (Str.ofString "downrings.errors") 187
 let f:=λt=>Value.str p.main.file t
 [{.type "tuple",aT,.seq #[.ref 24] 0,#[]},
   {.type "builtin_function_or_method",aT,.fields #[.builtin "type.__prepare__",.type "type"],#[]},
   {.type "dict",aT,.dict #[ent w "__module__" (t+7) m,ent w "__qualname__" (t+9) (.str n (t+8)),ent w "__firstlineno__" (t+11) (.int l (t+10)),ent w "__static_attributes__" (t+12) (.ref (b+7))] 4,#[]},
   {.type "tuple",aT,.seq #[] 0,#[]},
   {.none,aT,.fields #[],#[]},
   {.type "code",aT,.fields #[.str n (t+2),.str n (t+3),f (t+4),.int l 0,.int 0 0,.int 0 0,.int 0 0,.int 0 0,.ref (b+3),.bool a9,.int 181 0,.ref (b+4),.none,.none,.none,.none,.int (t+5:Nat) 0,.int l 0,f (t+6)],#[]},
   {.type "frame",aT,.plain,#[aD (.ref (b+5)),aD (.ref 3),aD (.ref (b+2)),aT,aD m,aT,aD (.ref 0)]},
   {.type "tuple",aT,.seq #[] 0,#[]},
   {.type "dict",aT,.dict #[ent w "__module__" (t+7) m,ent w "__firstlineno__" (t+11) (.int l (t+10)),ent w "__static_attributes__" (t+12) (.ref (b+7)),ent w "__doc__" (t+13) .none] 2,#[]},
   {.type "type",aT,.cls {name:=n,bases:=[.ref 24],mro:=[.ref (b+9),.ref 24,.type "ValueError",.type "Exception",.type "BaseException",.type "object"],ns:=b+8,qualname:=n},#[aD (.ref b),aT,aD (.str n t),aD (.str n (t+8)),aD (.builtin "ValueError.__new__"),aD (.bool a8)]},
   {.type "super",aT,.fields #[.ref (b+9),.ref (b+9),.ref (b+9)],#[]},
   {.type "builtin_function_or_method",aT,.fields #[.builtin "object.__init_subclass__",.ref (b+9)],#[]}]
abbrev UM(o:Obj):Obj:=match o with
 |{c,d,.dict es n,s}=>{c,d,.dict (es++(nm.zipIdx.map λx=>ent w x.1 (222+16 * x.2) (.ref (37+12 * x.2))).toArray) (n+14),s}
 |o=>o
abbrev Rc(o:Obj):Obj:=match o with
 |{c,d,.fields vs,s}=>{c,d,.fields (vs++(nm.zipIdx.flatMap λx=>[Value.int (4+2 * x.2:Nat) 0,.int 0 0,.ref (33+12 * x.2)]).toArray),s}
 |o=>o
abbrev Re(o:Obj):Obj:=match o with
 |{c,d,.cls k,s}=>{c,d,.cls {k with subclasses:=nm.zipIdx.map λx=>.ref (37+12 * x.2)},s}
 |o=>o
abbrev mid:Shared:=match (st p w 208).1 with
 |⟨⟨os,l⟩,g,d,_,o⟩=>⟨{((((os.toList.modify 3 (UM w)).modify 12 Rc).modify 24 Re)++(nm.zipIdx.flatMap (cls p w))).toArray,l},g,d,431,o⟩
abbrev Rf:Thread:=match (st p w 208).2 with
 |{_,.body ss env,_,k}=>{do return .done (<-(execs (ss.drop 16) env).onRaise (leaving env)),.body ss env,⟨30,0,31,8⟩,k}
 |t=>t
abbrev L1(s:Shared)(o:Option Shared):Option Shared:=bif s.gens.size == 0 && s.heap.isNs ZaF then (o.bind λu=>bif laidKept s.heap u.heap && (gensDone u && (namesBound p u.heap && staticsOk (Zaz p.main.body) s.heap u.heap)) then aD u else aT) else aT
end
def Rg{T:String->Option Builtin}{p:Program}{w:World}{N:Nat}{s:Shared}:topFrom T p w N s=L1 p s (topRun T p w s⁻¹ (s.heap.nsMap ZaF "__annotations__") N s (topStub p)):=by
 delta topFrom L1;rw[Xh];cases s.gens.size == 0 && s.heap.isNs ZaF with
 |false=>rfl
 |true=>
  show WI _ _=WI _ _
  congr 1
  funext u
  rw[Xh,Xh (_ && _) (gensDone u),Xh _ (namesBound p u.heap)];cases laidKept s.heap u.heap && (gensDone u && (namesBound p u.heap && staticsOk (Zaz p.main.body) s.heap u.heap)) <;> rfl
@[inline]abbrev PartA(p:Program):Prop:=∀w,tQ ZaV p w (n0 p w) (an p w) 3189 (s0 p w) (topStub p)=aD (mid p w,Rf p w)
abbrev fin(p:Program)(w:World):Option Shared:=L1 p (s0 p w) (topRun ZaV p w (n0 p w) (an p w) 16811 (mid p w) (Rf p w))
@[inline]abbrev PartB(p q:Program)(loose:List Str)(X:Shared->Bool):Prop:=∀w,(fin p w).map (openSeen q loose (Zaz p.main.body) X a8)=aD (openGood q loose)
@[inline]abbrev PartC(p:Program){b:Type}(y:Shared->b)(Y:World->b):Prop:=∀w,(fin p w).map y=aD (Y w)
def two{p:Program}{c j q:Type}{f:Shared->c}{g:Shared->j}{a:World->c}{b:World->j}(k:c->j->q)(h:PartC p f a)(i:PartC p g b):PartC p (λs=>k (f s) (g s)) (λw=>k (a w) (b w)):=λw=>by
 let{u,H,o}:=Yd.mp (h w);let E:=i w;rw[H]at E ⊢;let E:=θ E;show aD (k (f u) (g u))=_;rw[o,E]
def left_cut{p q:Program}{loose:List Str}{X:Shared->Bool}{b:Type}{Y:Shared->b}{y:World->b}(g:∀w,(fencedOpening ZaV p w 20000).isSome=a8)(H:PartA p)(j:PartB p q loose X)(hC:PartC p Y y):LeftO p q loose X Y y 20000:=λw=>by
 let{s,hs}:=Yj.mp (g w);let f:s0 p w=s:=by delta s0;rw[hs];rfl
 let{u,h,c}:=Yd.mp (j w);let E:=hC w;rw[h]at E;let E:Y u=y w:=θ E;let a:=Cs (m:=16811) (H w);delta fin at h;delta n0 an at a h;rw[<-a,f]at h;delta openEnds;rw[hs];show WJ _ (topFrom ZaV p w 20000 s)=_;rw[Rg];calc(congrArg _ h).trans ?_;show aD (openSeen q loose (Zaz p.main.body) X a8 u,Y u)=_;rw[c,E]
end Cut
namespace Ev
open PySem
inductive CV where
 |i (i:Int) |s (x:Str) |w (ws:List Str)
deriving DecidableEq
abbrev pQ:List Value->Option (List Str)
 |[]=>aD []
 |.str x _::l=>(pQ l).map (x::·)
 |_=>aT
end Ev
def gEG{b:Type _}{l:List b}{i:Nat}(h:i < l.length):l[i]?=aD l[i]:=List.getElem?_eq_getElem h
def bAE(a b:Bool):((a && b)=a8)=(a=a8/\b=a8):=Bool.and_eq_true a b
namespace L2
open PySem PySem.Spec PyProof.Rows
abbrev eD(s:Stmt):Arguments:=match s with
 |.FunctionDef _ a _ _ _ _ _ _ _ _=>a
 |_=>{posonlyargs:=[],args:=[],vararg:=aT,kwonlyargs:=[],kw_defaults:=[],kwarg:=aT,defaults:=[]}
abbrev bx(s:Stmt):List Stmt:=match s with
 |.FunctionDef _ _ b _ _ _ _ _ _ _=>b
 |_=>[]
abbrev av(s:Stmt):Scope:=match s with
 |.FunctionDef _ _ _ _ _ _ sc _ _ _=>sc
 |_=>{kind:=.function,names:=[],isGenerator:=false,isCoroutine:=false}
end L2
namespace Ev
open PySem PySem.Spec PyProof.Rows L2
abbrev gy:List Str:=["len","isinstance","all","any","tuple","list","max","min","repr","range","enumerate","int","bool","str","sorted","zip"]
abbrev bmV:List Value:=[.type "ValueError",.type "Exception",.type "BaseException",.type "object"]
abbrev quN:List Str:=["__init__","__getattribute__","__getattr__","__class__"]
abbrev lW:List Str:=["NoMeadow","NoSky","NoLandings","NoOrder","NoLot","NoText","NoName","NoGlider","NoMinute","NoAim","TooMany","Bound","NoDeed","NoRow","NoWay"]
@[inline]abbrev tR:=(Str×Str)×(Arguments×List Stmt)×(Scope×Addr)×(List (Str×Addr)×Value)×(Addr×Option Str)
abbrev KP(h:Heap):Value->Option Str
 | .ref c=>(match h.get? c with
  |some {_,_,.fields vs,_}=>(match vs.toList with |_ :: .str n _::_=>aD n |_=>aT)
  | _=>aT)
 |_=>aT
abbrev Rh(h:Heap):Option Obj->Option tR
 |some {_,_,.func ⟨nm,qn,ps,.stmts b,sc,gl,cl,dv,_,_,_,_,cd,_,bi⟩,_}=>aD ((nm,qn),(ps,b),(sc,gl),(cl,dv),(bi,KP h cd))
 |_=>aT
abbrev vZ(h:Heap)(x:Str):Option tR:=match h.nsMap ZaF x with
 |some (.ref f)=>Rh h (h.get? f)
 |_=>aT
abbrev G0(h:Heap)(x:Str):Option CV:=match h.nsMap ZaF x with
 |some (.int v _)=>aD (.i v)
 |some (.str v _)=>aD (.s v)
 | some (.ref a)=>(match h.get? a with
  |some {.type "tuple",_,.seq its _,_}=>if its.size<=1000 then (pQ its.toList).map .w else aT
  | _=>aT)
 |_=>aT
abbrev adX(h:Heap)(x:Str):Addr:=match h.nsMap ZaF x with
 |some (.ref C)=>C
 |_=>0
abbrev G1(h:Heap)(b:List Value)(x:Str):Bool:=match h.nsMap ZaF x with
 | some (.ref C)=>(match h.get? C with
  | some {.type "type",_,.cls cd,sl}=>(match cd.mro,sl.toList with
   |.ref C'::bm',[_,_,_,_,aD (.builtin n),_]=>C' == C && bm' == b && n == "ValueError.__new__" && !cd.hasDel && h.isNs cd.ns && quN.all λq=>(h.nsMap cd.ns q).isNone
   | _,_=>a9)
  | _=>a9)
 |_=>a9
abbrev L3(h:Heap)(x:Str):Bool:=match h.nsMap ZaF x with
 | some (.ref C)=>(match h.get? C with
  |some {.type "type",_,.cls _,_}=>a8
  | _=>a9)
 |_=>a9
abbrev L4:List Nat->Bool
 |[]=>a8
 |a::l=>!(l.contains a) && L4 l
abbrev Ct(h:Heap):Bool:=G1 h bmV "RingError" && (lW.take 14).all (G1 h (.ref (adX h "RingError")::bmV)) && lW.all (L3 h) && L4 (adX h "RingError" :: lW.map (adX h)) && (h.nsMap ZaF "ValueError").isNone
end Ev
namespace Lw
open PySem
abbrev con:List (Str×Ev.CV):=[("LAST_MINUTE",.i 9999),("FIGURES",.s "0123456789"),("MOST_FIGURES",.i 40),("MOST_RINGS",.i 8),("MOST_SINK",.i 60),("MOST_KINDS",.i 4),("MOST_GAP",.i 99),("MOST_SHUTS",.i 4),("MOST_GLIDERS",.i 7),("MOST_WEIGHT",.i 99),("WORDS",.w ["meadow","gaps","shut","ahead","glider","fixed"])]
abbrev nx:List (String×Nat):=[("is_whole",21),("is_within",22),("is_minute",23),("is_tuple",24),("are_unlike",25),("number_in",26),("is_meadow",33),("are_gaps",34),("is_gap_row",35),("no_glider_between_helps",36),("are_shuts",37),("is_stretch",38),("is_kind",39),("is_sky",43),("is_ahead",44),("are_gliders",45),("is_glider",46),("are_fixed",47),("read",50),("text_of",51),("row_of",52),("sky_in",53),("first_row",54),("_law_cell_at",56),("_law_pot",57),("_law_take",58),("_law_whole",59),("_law_within",60),("_law_gaps",61),("_law_shuts",62),("_law_meadow",63),("_law_glider",64),("_law_mixed",65),("_law_sky",66),("_law_word",67),("_law_is_meadow",68),("_law_is_glider",69),("_law_is_sky",70),("_law_text",71),("_law_told",72),("_law_number",73),("_law_reads",74),("_law_row_turned",75),("_law_sign_turned",76),("law",77)]
abbrev top(i:Nat):Stmt:=PySem.Challenge.pw_downrings_k72_texts_bent_anywhere.main.body.getD i (.Pass ⟨0,0,0,0⟩)
end Lw
section
open PySem PySem.W PyProof.Rows
noncomputable abbrev Lw.view:Program:={PySem.Challenge.pw_downrings_k72_texts_bent_anywhere with main:={PySem.Challenge.pw_downrings_k72_texts_bent_anywhere.main with body:=[Lw.top 77]}}
noncomputable abbrev Lw.loose:List PySem.Str:=(Lw.nx.take 44).map (λx=>.ofString x.1)++Lw.con.map (·.1)++("RingError" : PySem.Str)::Ev.lW
set_option maxHeartbeats 0 in
def Lw.said:PySem.Challenge.rw_downrings_k72_texts_bent_anywhere.wellSaid=a8:=by kernel_rfl
set_option maxHeartbeats 0 in
def Lw.opn:∀w,(fencedOpening ZaV PySem.Challenge.rw_downrings_k72_texts_bent_anywhere.row.toRowW.prog w 20000).isSome=a8:=λw=>by kernel_rfl
set_option maxHeartbeats 0 in
def Lw.partA:Cut.PartA PySem.Challenge.rw_downrings_k72_texts_bent_anywhere.row.toRowW.prog:=λw=>by kernel_rfl
set_option maxHeartbeats 0 in
def Lw.partB:Cut.PartB PySem.Challenge.rw_downrings_k72_texts_bent_anywhere.row.toRowW.prog Lw.view Lw.loose (λs=>xlAt Lw.view [] s && recOk (RowW.records PySem.Challenge.rw_downrings_k72_texts_bent_anywhere.row.toRowW) s):=λw=>by kernel_rfl
end
namespace Lw
open PySem
abbrev ob(l:List (String×Nat))(s:Shared):=l.map λx=>Ev.vZ s.heap (.ofString x.1)
abbrev vb(l:List (String×Nat)):List (Option Ev.tR):=l.map λx=>let n:=Str.ofString x.1;aD ((n,n),(L2.eD (top x.2),L2.bx (top x.2)),(L2.av (top x.2),ZaF),([],.none),(Zao,aD n))
set_option maxHeartbeats 0 in
def L5:Cut.PartC PySem.Challenge.rw_downrings_k72_texts_bent_anywhere.row.toRowW.prog (ob (nx.take 30)) (λ_=>vb (nx.take 30)):=λw=>by kernel_rfl
set_option maxHeartbeats 0 in
def L6:Cut.PartC PySem.Challenge.rw_downrings_k72_texts_bent_anywhere.row.toRowW.prog (λs=>(s.heap.isNs ZaF,ob (nx.drop 30) s,con.map (λc=>Ev.G0 s.heap c.1),(Ev.gy.map λx=>(s.heap.nsMap ZaF x).isNone),Ev.Ct s.heap)) (λ_=>(a8,vb (nx.drop 30),con.map (λc=>aD c.2),(Ev.gy.map λ_=>a8),a8)):=λw=>by kernel_rfl
end Lw
namespace L2
open PySem PySem.Spec PyProof.Rows
@[inline]abbrev Key:=Sum Int Str
abbrev pS:Key->Value->Bool
 |.inl k,v=>Value.isInt k v
 |.inr x,v=>Value.isStrOf x v
abbrev UN(w:World):Key->Int
 |.inl k=>hashInt k
 |.inr x=>hashStr w x
def bz:∀ {k:Key} {v:Value},pS k v=a8->(∃i t,k=Sum.inl i/\v=Value.int i t)\/(∃x t,k=Sum.inr x/\v=Value.str x t)
 |.inl i,v,h=>by
  let{t,e}:=Value.isInt_shape (k:=i) (v:=v) h;exact .inl ⟨i,t,rfl,e⟩
 |.inr x,v,h=>by
  let{t,e}:=Value.isStrOf_shape (x:=x) (v:=v) h;exact .inr ⟨x,t,rfl,e⟩
def AJ(i:Int)(t:Tok):pS (.inl i) (.int i t)=a8:=by simp[pS,Value.isInt]
def AK(x:Str)(t:Tok):pS (.inr x) (.str x t)=a8:=by simp[pS,Value.isStrOf]
def L7(a b:Int):decide ((Sum.inl a:Key)=Sum.inl b)=(a == b):=by
 by_cases e:a=b
 .subst e;simp
 .let h:¬ (Sum.inl a:Key)=Sum.inl b:=λq=>e (Sum.inl.inj q);rw[decide_eq_false h];exact(beq_eq_false_iff_ne.mpr e).symm
def L8(a b:Str):decide ((Sum.inr a:Key)=Sum.inr b)=decide (a=b):=by
 by_cases e:a=b
 .subst e;simp
 .let h:¬ (Sum.inr a:Key)=Sum.inr b:=λq=>e (Sum.inr.inj q);rw[decide_eq_false h,decide_eq_false e]
def L9(a:Int)(b:Str):decide ((Sum.inl a:Key)=Sum.inr b)=a9:=decide_eq_false (λq=>nomatch q)
def Ma(a:Str)(b:Int):decide ((Sum.inr a:Key)=Sum.inl b)=a9:=decide_eq_false (λq=>nomatch q)
abbrev bE(prog:Program)(w:World):PySem.KeyKind prog w Key where
 is:=pS
 hash:=UN w
 inj:=λv a b f c=>by
  rcases bz f with ⟨i,t,rfl,rfl⟩ |⟨x,t,rfl,rfl⟩
  .rcases bz c with ⟨j,u,rfl,e⟩ |⟨y,u,rfl,e⟩
   .injection e with e1 _;rw[e1]
   .exact nomatch e
  .rcases bz c with ⟨j,u,rfl,e⟩ |⟨y,u,rfl,e⟩
   .exact nomatch e
   .injection e with e1 _;rw[e1]
 byValue:=λk v h=>by
  rcases bz h with ⟨i,t,rfl,rfl⟩ |⟨x,t,rfl,rfl⟩ <;> rfl
 pyHash:=λH h=>by
  rcases bz H with ⟨i,t,rfl,rfl⟩ |⟨x,t,rfl,rfl⟩
  .exact wpAny_pyHash_int h
  .exact wpAny_pyHash_str h
 eqBool:=λg H h=>by
  rcases bz g with ⟨i,t,rfl,rfl⟩ |⟨x,t,rfl,rfl⟩
  .rcases bz H with ⟨j,u,rfl,rfl⟩ |⟨y,u,rfl,rfl⟩
   .rw[L7]at h;exact Za8 h
   .rw[L9]at h;exact SeqAt.EqAt.int_str i t y u _ _ _ _ h
  .rcases bz H with ⟨j,u,rfl,rfl⟩ |⟨y,u,rfl,rfl⟩
   .rw[Ma]at h;exact SeqAt.EqAt.str_int x t j u _ _ _ _ h
   .rw[L8]at h;exact wpAny_eqBool_str h
 «strs»:=λk x t v h=>by
  rcases bz h with ⟨i,u,rfl,e⟩ |⟨y,u,rfl,e⟩
  .exact nomatch e
  .injection e with e1 _;subst e1;cases v <;> rfl
def tS(prog:Program)(w:World)(i:Int)(t:Tok):(bE prog w).is (.inl i) (.int i t)=a8:=AJ i t
def tU(prog:Program)(w:World)(x:Str)(t:Tok):(bE prog w).is (.inr x) (.str x t)=a8:=AK x t
inductive V where
 |non |bl (b:Bool) |int (i:Int) |str (x:Str) |byt (b:Array UInt8) |flt (b:UInt64) |ref (a:Addr) |ty (n:String)
 deriving DecidableEq
abbrev aJ:V->Value->Prop
 |.non,u=>u=Value.none
 |.bl b,u=>u=Value.bool b
 |.int i,u=>∃t,u=Value.int i t
 |.str x,u=>∃t,u=Value.str x t
 |.byt b,u=>∃t,u=Value.bytes b t
 |.flt b,u=>∃t,u=Value.float b t
 |.ref a,u=>u=Value.ref a
 |.ty n,u=>u=Value.type n
@[inline]abbrev aP:List V->List Value->Prop:=Paired aJ
def aP.length{xs:List V}{u:List Value}(r:aP xs u):xs.length=u.length:=Paired.length r
def aP.get:∀ {xs:List V} {U:List Value} {i:Nat} {x:V},aP xs U->xs[i]?=aD x->∃u,U[i]?=aD u/\aJ x u
 |_,_,_,_,.nil,e=>by simp at e
 |_,_,0,_,.cons r _,e=>by simp at e;subst e;exact⟨_,rfl,r⟩
 |_,_,i+1,x,.cons _ t,e=>by
  let{u,H,h}:=aP.get (i:=i) (x:=x) t (by simpa using e);exact{u,by simpa using H,h}
def aP.set{x:V}{u:Value}(r:aJ x u):∀ {xs:List V} {U:List Value} (i:Nat),aP xs U->aP (xs.set i x) (U.set i u)
 |_,_,_,.nil=>.nil
 |_,_,0,.cons _ t=>.cons r t
 |_,_,i+1,.cons q t=>.cons q (aP.set r i t)
def aP.append:∀ {xs ys:List V} {u b:List Value},aP xs u->aP ys b->aP (xs++ys) (u++b)
 |_,_,_,_,.nil,s=>s
 |_,_,_,_,.cons r t,s=>.cons r (aP.append t s)
def aP.take:∀ {xs:List V} {u:List Value} (n:Nat),aP xs u->aP (xs.take n) (u.take n)
 |_,_,0,_=>.nil
 |_,_,_+1,.nil=>.nil
 |_,_,n+1,.cons r t=>.cons r (aP.take n t)
def aP.drop:∀ {xs:List V} {u:List Value} (n:Nat),aP xs u->aP (xs.drop n) (u.drop n)
 |_,_,0,r=>r
 |_,_,_+1,.nil=>.nil
 |_,_,n+1,.cons _ t=>aP.drop n t
abbrev v5:Option V->Option Value->Prop
 |some v,aD u=>aJ v u
 |none,aT=>True
 |_,_=>False
abbrev KV{b:Type}:List (b×V)->List (b×Value)->Prop:=Paired λ(p:b×V) (q:b×Value)=>p.1=q.1/\aJ p.2 q.2
abbrev kV:Key->V
 |.inl i=>.int i
 |.inr x=>.str x
abbrev qW(h:Heap)(a:Addr)(I:Array Value):Prop:=∃o,h.get? a=aD o/\o.cls = .type "tuple"/\∃n,o.data = .seq I n/\o.dict=aT
def qW.isTup(x:qW h a items):IsTup h a items:=let ⟨o,e,c,n,d,_⟩:=x;⟨o,e,c,n,d⟩
def qW.lt(x:qW h a I):a < h.objs.size:=x.isTup.lt
def qW.new(h:Heap)(items:Array Value):qW (h.push {cls:=.type "tuple",data:=.seq items}) h.objs.size items:={_,ZJ _ rfl,rfl,_,rfl,rfl}
inductive HO where
  |lst (xs:List V)
  |tup (xs:List V)
  |dK (kvs:List (Key×V)) |dT (kvs:List (List Key×V))
  |set (S:Int->Bool) (n:Nat)
  |ins (C dx:Addr) (fs:List (Str×V))
  |own (x:Addr)
  |xd (fs:List (Str×V))
  |met (f x:Addr)
  |rng (lo hi:Int)
  |frz (o:Obj) (u:HO)
  |tbl (ps:Array Value)
  |ext (φ:Heap->Prop)
@[inline]abbrev Hp:=Addr->Option HO
abbrev upd(H:Hp)(a:Addr)(o:HO):Hp:=λb=>if b=a then aD o else H b
def aF{H:Hp}{a:Addr}{o:HO}:upd H a o a=aD o:=by delta upd;rw[if_pos rfl]
def aA{H:Hp}{a b:Addr}{o:HO}(h:b≠a):upd H a o b=H b:=by delta upd;rw[if_neg h]
def yR:upd (upd H a o) a u=upd H a u:=by
 funext b;delta upd;split <;> rfl
def tV{H:Hp}{a b:Addr}{o u:HO}(h:H a=aD o)(h':H b=aD u)(d:o≠u):a≠b:=by
 intro e;subst e;rw[h]at h';exact d (θ h')
def aW{H:Hp}{a b:Addr}{o:HO}(h:H a=aD o)(h':H b=aT):a≠b:=by
 intro e;subst e;rw[h]at h';cases h'
section
variable (P:Program) (w:World)
abbrev bD(H:Hp)(h:Heap)(a:Addr):HO->Prop
 |.lst xs=>xs.length<=sizeLine/\∃ (I:List Value) (n:Nat),aP xs I/\h.get? a=aD {cls:=.type "list",data:=.seq I.toArray n}
 |.tup xs=>xs.length<=sizeLine/\∃I:List Value,aP xs I/\qW h a I.toArray
 |.dK kvs=>kvs.length<=sizeLine/\(a == ZaU)=a9/\∃g,KV kvs g/\h.DictOf (bE P w) a g
 |.dT kvs=>kvs.length<=sizeLine/\(a == ZaU)=a9/\∃xs:List (List Key×Addr×Value),
   Paired (λ(p:List Key×V) (q:List Key×Addr×Value)=>p.1=q.1/\H q.2.1=aD (.tup (p.1.map kV))/\aJ p.2 q.2.2) kvs xs ∧
   ∃o E j,h.get? a=aD o/\o.ExactDict/\o.data = .dict E j/\E.toList=xs.map (entryOfKey (ZaW (bE P w)))/\(xs.map (·.1)).Nodup
 |.set S n=>h.SetOf (intKind P w) a S n
 |.ins C dx fs=>H dx=aD (.own a)/\fs.length<=1000/\dx≠a/\h.get? a=aD (On C dx) ∧
   ∃M,h.Ns1 dx M/\(∀f,v5 (fs.lookup f) (M f))/\PySem.Within M (fs.map (·.1))
 |.own _=>∃o,h.get? a=aD o
 |.xd fs=>∃M,h.Ns1 a M/\∀f,v5 (fs.lookup f) (M f)
 |.rng lo hi=>∃t u v,h.get? a=aD {cls:=.type "range",data:=.fields #[.int lo t,.int hi u,.int 1 v]}
 |.frz o u=>h.get? a=aD o/\bD H h a u
 |.tbl ps=>h.get? a=aD {cls:=.none,data:=.fields ps}
 |.met f x=>h.get? a=aD (Zaa (.ref f) (.ref x))
 |.ext φ=>φ h/\(∃o,h.get? a=aD o)/\∀b c:Heap,φ b->(∀o,b.get? a=aD o->c.get? a=aD o)->φ c
abbrev HOk(H:Hp)(h:Heap):Prop:=∀a o,H a=aD o->bD P w H h a o
end
section
variable {P:Program} {w:World} {H g:Hp} {h h':Heap} {a:Addr} {o:HO}
def bD.lt(x:bD P w H h a o):a < h.objs.size:=by
 cases o with
 |lst xs=>let{_,_,_,_,e}:=x;exact Zv e
 |tup xs=>let{_,_,_,p}:=x;exact p.lt
 |dK b=>let{_,_,_,_,o,_,_,e,_}:=x;exact Zv e
 |dT b=>let{_,_,_,_,o,_,_,e,_}:=x;exact Zv e
 |set S n=>let{o,_,_,_,e,_}:=x;exact Zv e
 |ins C j fs=>let{_,_,_,e,_}:=x;exact Zv e
 |own y=>let{_,e}:=x;exact Zv e
 |xd fs=>let{_,⟨_,_,_,e,_⟩,_}:=x;exact Zv e
 |rng lo c=>let{_,_,_,e}:=x;exact Zv e
 |frz ob u=>let{e,_}:=x;exact Zv e
 |tbl ps=>exact Zv (show h.get? a=aD _ from x)
 |met f y=>exact Zv (show h.get? a=aD _ from x)
 |ext q=>let{_,⟨_,e⟩,_}:=x;exact Zv e
def Paired.mapP{j p:Type}{F G:j->p->Prop}:∀ {L:List j} {c:List p},Paired F L c->(∀a b,F a b->G a b)->Paired G L c
 |_,_,.nil,_=>.nil
 |_,_,.cons r t,f=>.cons (f _ _ r) (Paired.mapP t f)
def bD.stay(x:bD P w H h a o)(k:∀b u,(b=a\/H b=aD (.own a))->h.get? b=aD u->h'.get? b=aD u)
  (L:∀b,H b=aD (.own a)->g b=aD (.own a)) (T:∀b xs,H b=aD (.tup xs)->g b=aD (.tup xs)):bD P w g h' a o:=by
 induction o with
 |lst xs=>let{z,I,n,r,e}:=x;exact{z,I,n,r,k _ _ (.inl rfl) e}
 |tup xs=>let{z,I,r,ob,e,c}:=x;exact{z,I,r,ob,k _ _ (.inl rfl) e,c}
 |dK B=>let{z,y,U,r,ob,E,j,e,c}:=x;exact{z,y,U,r,ob,E,j,k _ _ (.inl rfl) e,c}
 |dT B=>
  let{z,y,xs,r,ob,E,j,e,c}:=x;exact{z,y,xs,Paired.mapP r λp q z=>{z.1,T _ _ z.2.1,z.2.2},ob,E,j,k _ _ (.inl rfl) e,c}
 |set S n=>let{ob,E,j,t,e,c}:=x;exact{ob,E,j,t,k _ _ (.inl rfl) e,c}
 |ins C Y fs=>
  let{d,z,ne,e,M,⟨O,E,j,J,c⟩,r}:=x;exact{L _ d,z,ne,k _ _ (.inl rfl) e,M,{O,E,j,k _ _ (.inr d) J,c},r}
 |own y=>let{ob,e}:=x;exact{ob,k _ _ (.inl rfl) e}
 |xd fs=>let{M,⟨O,E,j,e,c⟩,r}:=x;exact⟨M,{O,E,j,k _ _ (.inl rfl) e,c},r⟩
 |rng lo X=>let{t,u,v,e}:=x;exact{t,u,v,k _ _ (.inl rfl) e}
 |frz ob u Q=>let{e,q}:=x;exact{k _ _ (.inl rfl) e,Q q}
 |tbl ps=>
  let e:h.get? a=aD {cls:=.none,data:=.fields ps}:=x;show h'.get? a=aD {cls:=.none,data:=.fields ps};exact k a _ (.inl rfl) e
 |met f y=>
  let e:h.get? a=aD (Zaa (.ref f) (.ref y)):=x;show h'.get? a=aD (Zaa (.ref f) (.ref y));exact k a _ (.inl rfl) e
 |ext Z=>let{p,⟨o,e⟩,st}:=x;exact{st _ _ p λo q=>k _ _ (.inl rfl) q,{o,k _ _ (.inl rfl) e},st}
def HOk.lt(x:HOk P w H h)(e:H a=aD o):a < h.objs.size:=(x a o e).lt
def HOk.fresh(x:HOk P w H h)(e:h.objs.size<=a):H a=aT:=by
 cases q:H a with
 |none=>rfl
 |some u=>exact absurd (ZB (x.lt q) e) (ZS _)
def HOk.kept(x:HOk P w H h)(k:∀b u,h.get? b=aD u->h'.get? b=aD u):HOk P w H h':=λa o e=>
 (x a o e).stay (λb u _ q=>k b u q) (λ_ q=>q) λ_ _ q=>q
def HOk.laid(x:HOk P w H h)(k:∀b u,h.get? b=aD u->h'.get? b=aD u)(p:h.objs.size<=a)(new:bD P w (upd H a o) h' a o):HOk P w (upd H a o) h':=λb u e=>by
 let f:=x.fresh p;by_cases j:b=a
 .subst j;rw[aF]at e;cases e;exact new
 .rw[aA j]at e;exact(x b u e).stay (λc v _ q=>k c v q) (λc q=>by rw[aA (aW q f)];exact q) λc xs q=>by rw[aA (aW q f)];exact q
end
abbrev Rd(H:Hp)(a:Addr)(u:HO):Prop:=H a=aD u\/∃o,H a=aD (.frz o u)
def Rd.ok{P:Program}{w:World}{H:Hp}{h:Heap}{a:Addr}{u:HO}(r:Rd H a u)(x:HOk P w H h):bD P w H h a u:=by
 rcases r with r |⟨o,r⟩
 .exact x a u r
 .let{_,q}:=x a _ r;exact q
abbrev Mut:Option HO->Prop
 |some (.lst _)=>True
 |some (.dK _)=>True
 |some (.dT _)=>True
 |some (.set _ _)=>True
 |some (.ins _ _ _)=>True
 |some (.ext _)=>True
 |_=>False
section
variable {P:Program} {w:World} {H:Hp} {h h':Heap} {x e:Addr} {o:HO}
def HOk.write(ok:HOk P w H h)(M:Mut (H x))(C:e=x\/H e=aD (.own x))(k:∀b u,b≠e->h.get? b=aD u->h'.get? b=aD u)(B:∃u,h'.get? e=aD u)
  (new:bD P w (upd H x o) h' x o):HOk P w (upd H x o) h':=λb u q=>by
 let g:∀c y,H c=aD (.own y)->c≠x:=λc y r z=>by subst z;rw[r]at M;exact M
 let j:∀c xs,H c=aD (.tup xs)->c≠x:=λc xs r z=>by subst z;rw[r]at M;exact M
 by_cases p:b=x
 .subst p;rw[aF]at q;cases q;exact new
 .rw[aA p]at q;by_cases f:b=e
  .let Q:H b=aD (.own x):=by
    rcases C with z |z
    .exact absurd (f.trans z) p
    .rw[f];exact z
   rw[q]at Q;cases Q;let{v,E}:=B;exact{v,by rw[f];exact E}
  .refine(ok b u q).stay (λc v hc r=>k c v ?_ r) (λc r=>by rw[aA (g c b r)];exact r) λc xs r=>by rw[aA (j c xs r)];exact r
   rcases hc with rfl |hc
   .exact f
   .rintro rfl;rcases C with z |z
    .exact g c b hc z
    .rw[hc]at z;cases z;exact p rfl
end
structure Un(fs ex:List Addr)(H H':Hp)(h h':Heap):Prop where
 keep:∀b o,h.get? b=aD o->H b=aT->b∉fs->b∉ex->h'.get? b=aD o
 slot:∀b o,h.get? b=aD o->H b=aT->b∈fs->b∉ex->∃sl,h'.get? b=aD {o with slots:=sl}
 free:∀b o,h.get? b=aD o->H b=aT->b∉ex->H' b=aT
 there:∀b o,h.get? b=aD o->b∉ex->∃o',h'.get? b=aD o'
 tups:∀b xs,H b=aD (.tup xs)->H' b=aD (.tup xs)
 frzs:∀b o u,H b=aD (.frz o u)->H' b=aD (.frz o u)
 tbls:∀b ps,H b=aD (.tbl ps)->∃more,H' b=aD (.tbl (ps++more))
section
variable {fs f ex E:List Addr} {H c d:Hp} {h g i h':Heap} {a x e:Addr} {o:HO}
def Un.any(u:Un fs ex H c h g){b:Addr}{ob:Obj}(q:h.get? b=aD ob)(n:H b=aT)(j:b∉ex):∃sl,g.get? b=aD {ob with slots:=sl}:=by
 by_cases p:b∈fs
 .exact u.slot b ob q n p j
 .exact{ob.slots,u.keep b ob q n p j}
def Un.kept(k:∀b u,h.get? b=aD u->h'.get? b=aD u):Un fs ex H H h h':=
 {λb ob q _ _ _=>k b ob q,λb ob q _ _ _=>{ob.slots,k b ob q},λ_ _ _ n _=>n,λb ob q _=>{ob,k b ob q},λ_ _ q=>q,λ_ _ _ q=>q,λ_ ps q=>{#[],by rw[q];simp}}
def Un.refl:Un fs ex H H h h:=Un.kept λ_ _ q=>q
def Un.laid(k:∀b u,h.get? b=aD u->h'.get? b=aD u)(p:h.objs.size<=a)(j:H a=aT):Un fs ex H (upd H a o) h h' where
 keep:=λb u q _ _ _=>k b u q
 slot:=λb u q _ _ _=>{u.slots,k b u q}
 free:=λb u q n _=>by rw[aA (ZI (ZB (Zv q) p))];exact n
 there:=λb u q _=>{u,k b u q}
 tups:=λb xs q=>by rw[aA (aW q j)];exact q
 frzs:=λb u xs q=>by rw[aA (aW q j)];exact q
 tbls:=λb ps q=>{#[],by rw[aA (aW q j),q];simp}
def Un.write(M:Mut (H x))(C:e=x\/H e=aD (.own x))(k:∀b u,b≠e->h.get? b=aD u->h'.get? b=aD u)(p:∃u,h'.get? e=aD u):Un fs ex H (upd H x o) h h':=by
 let B:∀b,H b=aT->b≠x:=λb n z=>by subst z;rw[n]at M;exact M
 let y:∀b,H b=aT->b≠e:=λb n z=>by
  subst z;rcases C with r |r
  .exact B b n r
  .rw[n]at r;cases r
 let v:∀b u,H b=aD u->¬ Mut (aD u)->b≠x:=λb u q nm z=>by subst z;rw[q]at M;exact nm M
 refine⟨λb u q n _ _=>k b u (y b n) q,λb u q n _ _=>{u.slots,k b u (y b n) q},λb u q n _=>by rw[aA (B b n)];exact n,λb u q _=>?_,
  λb xs q=>by rw[aA (v b _ q λz=>z)];exact q,λb u xs q=>by rw[aA (v b _ q λz=>z)];exact q,λb ps q=>{#[],by rw[aA (v b _ q λz=>z),q];simp}⟩
 by_cases j:b=e
 .subst j;exact p
 .exact{u,k b u j q}
end
abbrev trk(h:Heap)(H:Hp):List Addr:=(Zm h.objs.size).filter λa=>(H a).isSome
abbrev qX(h:Heap)(H:Hp):Heap:=PySem.W.hideAll h (trk h H)
def AL(h:Heap)(H:Hp):(qX h H).objs.size=h.objs.size:=PySem.W.hideAll_size _ _
def Cu(e:h.get? b=aD o)(n:H b=aT):(qX h H).get? b=aD o:=
 Of _ e λc=>by
  let q:(H b).isSome=a8:=(Wj.mp c).2;rw[n]at q;simp at q
def G2(e:(qX h H).get? b=aD o):h.get? b=aD o/\H b=aT:=by
 let E:h.get? b=aD o:=Zac (trk h H) e;calc{E,?_};cases q:H b with
 |none=>rfl
 |some x=>
  let c:b∈trk h H:=Wj.mpr {ZU.mpr (Zv E),by simp[q]};let z:(qX h H).get? b=aT:=PySem.W.hideAll_none (trk h H) c;rw[z]at e;cases e
structure Mod(K:V6)(mg:Str->Option Value)(base:Heap):Prop where
 kin:K.In base
 glob:base.Ns ZaF mg
 blt:∃mb,base.Ns Zao mb/\∀x:Str,x≠"__name__"->mb x=Zam x
 nolimit:base.NoLimit
structure Cx where
 prog:Program
 w:World
 K:V6
 mg:Str->Option Value
 base:Heap
 A:Around
 N:List Str
 s₀:Shared
 H₀:Hp
 env:Env
 outer:List Env
 stack:List Env
 ex:List Addr
 fn:Str->Bool
 calm:Bool
 pn:List (Addr×Obj)
 xe:Value->Shared->Prop
abbrev frs(l:List Env):List Addr:=l.filterMap (·.frame)
noncomputable abbrev Cx.fs(X:Cx):List Addr:=frs X.outer
abbrev Vis(sc:Scope)(x:Str):Prop:=sc.names.lookup x=aD .local\/sc.names.lookup x=aD .cell\/sc.names.lookup x=aD .free
abbrev Loc(sc:Scope)(x:Str):Prop:=sc.names.lookup x=aD .local\/sc.names.lookup x=aD .cell
abbrev UO(env:Env)(h:Heap)(m:Str->Option Value)(x:Str)(u:Value):Prop:=
 (env.kindOf x=aD .local/\m x=aD u)\/((env.kindOf x=aD .cell\/env.kindOf x=aD .free)/\∃c,env.cells.lookup x=aD c/\h.IsCell c (aD u))
structure Cx.Ok(X:Cx):Prop where
 mod:Mod X.K X.mg X.base
 kind:X.env.scope.kind = .function
 glob:X.env.globals=ZaF
 blt:X.env.builtins=Zao
 above:X.s₀.heap.objs.size<=X.env.locals
 inj:∀x y c,X.env.cells.lookup x=aD c->X.env.cells.lookup y=aD c->x=y
 has:∀x,(X.env.kindOf x=aD .cell\/X.env.kindOf x=aD .free)->∃c,X.env.cells.lookup x=aD c
 cab:∀x c,X.fn x=a8->X.env.cells.lookup x=aD c->X.s₀.heap.objs.size<=c
 hd:X.calm=a8->X.A.handled=aT
 frames:X.A.frames=aD X.stack
 stk:X.stack=X.outer\/(X.stack=X.env::X.outer/\X.env.frame=aD X.env.locals)
 exf:∀b∈X.ex,b≠X.env.locals/\∀x c,X.env.cells.lookup x=aD c->c≠b
 bs:∀b o,X.base.get? b=aD o->X.s₀.heap.get? b=aD o/\X.H₀ b=aT
 bsz:X.base.objs.size<=X.s₀.heap.objs.size
 noex:∀b o,X.base.get? b=aD o->b∉X.ex
 exfs:∀b∈X.ex,b∉X.fs
 funs:X.s₀.heap.FunFrames X.base X.outer
 frf:∀b∈X.fs,X.H₀ b=aT
structure Inv(X:Cx)(pins:List (Addr×Obj))(σ:List (Option V))(H:Hp)(s:Shared):Prop where
 ok:X.Ok
 os:s.os=X.s₀.os
 bare:AllBare s.gens
 base:Un X.fs X.ex X.H₀ H X.s₀.heap s.heap
 loc:∃m,s.heap.Ns X.env.locals m/\∀ (i:Nat) (x:Str) (v:V),X.N[i]?=aD x->σ[i]?=aD (aD v)->Vis X.env.scope x->∃u,aJ v u/\UO X.env s.heap m x u
 cell:∀x c,X.env.cells.lookup x=aD c->∃v,s.heap.IsCell c v
 free:H X.env.locals=aT
 freeC:∀x c,X.env.cells.lookup x=aD c->H c=aT
 pin:∀p∈X.pn++pins,s.heap.get? p.1=aD p.2/\H p.1=aT/\p.1≠X.env.locals/\p.1∉X.fs/\∀v,p.2.data≠.cell v
 hok:HOk X.prog X.w H s.heap
 len:σ.length=X.N.length
section
variable {X:Cx} {f:List (Addr×Obj)} {g:List (Option V)} {H w:Hp} {s:Shared} {h':Heap}
def Cx.Ok.nofr(ok:X.Ok)(e:X.base.get? b=aD o):b∉X.fs:=λh=>by
 let:=(ok.funs.mem h).1;rw[e]at this;cases this
def Inv.bs(I:Inv X f g H s):∀b o,X.base.get? b=aD o->s.heap.get? b=aD o/\H b=aT:=λb o e=>
 {I.base.keep b o (I.ok.bs b o e).1 (I.ok.bs b o e).2 (I.ok.nofr e) (I.ok.noex b o e),I.base.free b o (I.ok.bs b o e).1 (I.ok.bs b o e).2 (I.ok.noex b o e)}
def Inv.bk(I:Inv X f g H s):∀b o,X.base.get? b=aD o->s.heap.get? b=aD o:=λb o e=>(I.bs b o e).1
def Inv.mod(I:Inv X f g H s):Mod X.K X.mg X.base:=I.ok.mod
def Inv.kIn(I:Inv X f g H s):X.K.In s.heap:=I.ok.mod.kin.keeps I.bk
def Inv.lt(I:Inv X f g H s):X.env.locals < s⁻¹:=let ⟨_,hn,_⟩:=I.loc;hn.lt
def Inv.sz(I:Inv X f g H s):X.s₀.heap.objs.size<=s⁻¹:=Zy I.ok.above (Xv I.lt)
def Inv.nofs(I:Inv X f g H s)(h:s⁻¹<=a):a∉X.fs:=λc=>by
 let{_,o,b,_}:=I.ok.funs.mem c;exact absurd (ZB (Zv b) (Zy I.sz h)) (ZS _)
def Inv.cne(I:Inv X f g H s):∀x c,X.env.cells.lookup x=aD c->c≠X.env.locals:=λx c e z=>by
 let{v,o,j,hd}:=I.cell x c e;let{m,⟨O,p,E,b,h,_⟩,_}:=I.loc;rw[z,b]at j;cases j;rw[h]at hd;cases hd
def Inv.funs(I:Inv X f g H s):s.heap.FunFrames X.base X.outer:=by
 let all:∀ (l:List Env),(∀b∈frs l,b∈X.fs)->X.s₀.heap.FunFrames X.base l->s.heap.FunFrames X.base l:=by
  intro l
  induction l with
  |nil=>intro _ _;trivial
  |cons env r y=>
   intro hs B;let{q,⟨L,o,j,p,u,hd⟩,v}:=B;let h:L∈X.fs:=hs L (by delta frs;rw[Y6,j];exact Zf);let{sl,e}:=I.base.slot L o u (I.ok.frf L h) h λz=>I.ok.exfs L z h;exact{q,⟨L,_,j,p,e,hd⟩,y (λb c=>hs b (by delta frs;rw[Y6,j];exact Zh _ c)) v}
 exact all X.outer (λ_ c=>c) I.ok.funs
def Inv.stack(I:Inv X f g H s):s.heap.FunFrames X.base X.stack:=by
 rcases I.ok.stk with e |⟨e,hf⟩
 .rw[e];exact I.funs
 .rw[e];let{m,h,_}:=I.loc;calc .cons (by rw[I.ok.kind];decide) hf h ?_ I.funs;exact Heap.get?_none_of_le (Zy I.ok.bsz I.ok.above)
def Inv.stkSub(I:Inv X f g H s):∀b∈frs X.stack,b∈X.env.locals::X.fs:=λb h=>by
 rcases I.ok.stk with e |⟨e,hf⟩
 .rw[e]at h;exact Zh _ h
 .rw[e]at h;delta frs at h;rw[Y6,hf]at h;exact h
def Inv.stkFree(I:Inv X f g H s):∀b∈frs X.stack,H b=aT:=λb hb=>by
 rcases Zl.mp (I.stkSub b hb) with e |hb
 .rw[e];exact I.free
 .let{_,o,h,_}:=I.ok.funs.mem hb;exact I.base.free b o h (I.ok.frf b hb) λz=>I.ok.exfs b z hb
def Inv.step{g':Array VO}{t':Nat}{d':Drawn}{ch:List Addr}(I:Inv X f g H s)
  (y:∀b∈ch,(b∈X.ex\/X.s₀.heap.objs.size<=b)/\b≠X.env.locals/\(∀x c,X.env.cells.lookup x=aD c->c≠b)/\∀p∈X.pn++f,p.1≠b)
  (keep:∀b o,b≠X.env.locals->b∉X.fs->b∉ch->s.heap.get? b=aD o->H b=aT->h'.get? b=aD o)
  (slot:∀b o,b≠X.env.locals->b∈X.fs->b∉ch->s.heap.get? b=aD o->H b=aT->∃sl,h'.get? b=aD {o with slots:=sl}) (free:∀b o,b∉ch->s.heap.get? b=aD o->H b=aT->w b=aT)
  (there:∀b o,b∉ch->s.heap.get? b=aD o->∃O,h'.get? b=aD O)
  (tups:∀b xs,H b=aD (.tup xs)->w b=aD (.tup xs)) (frzs:∀b o u,H b=aD (.frz o u)->w b=aD (.frz o u)) (tbls:∀b ps,H b=aD (.tbl ps)->∃more,w b=aD (.tbl (ps++more)))
  (ns:∀m,s.heap.Ns X.env.locals m->h'.Ns X.env.locals m) (hok:HOk X.prog X.w w h') (hg:AllBare g') :
  Inv X f g w {s with heap:=h',gens:=g',drawn:=d',toks:=t'}:=by
 let M:∀b o,X.s₀.heap.get? b=aD o->b≠X.env.locals:=λb o e=>ZI (ZB (Zv e) I.ok.above)
 let B:∀b o,X.s₀.heap.get? b=aD o->b∉X.ex->b∉ch:=λb o e h J=>by
  rcases (y b J).1 with z |z
  .exact h z
  .exact absurd (ZB (Zv e) z) (ZS _)
 let C:∀x c,X.env.cells.lookup x=aD c->∀v,s.heap.IsCell c v->h'.IsCell c v:=λx c e v ⟨o,L,hd⟩=>by
  let j:c∉ch:=λz=>(y c z).2.2.1 x c e rfl;by_cases Z:c∈X.fs
  .let{sl,q}:=slot c o (I.cne x c e) Z j L (I.freeC x c e);exact⟨_,q,hd⟩
  .exact{o,keep c o (I.cne x c e) Z j L (I.freeC x c e),hd}
 refine{I.ok,I.os,hg,{λb o e n J h=>?_,λb o e n J h=>?_,λb o e n h=>?_,λb o e h=>?_,λb xs e=>tups b xs (I.base.tups b xs e),λb o xs e=>frzs b o xs (I.base.frzs b o xs e),λb ps e=>?_},?_,λx c e=>?_,?_,λx c e=>?_,λp Y=>?_,hok,I.len}
 .exact keep b o (M b o e) J (B b o e h) (I.base.keep b o e n J h) (I.base.free b o e n h)
 .let{sl,E}:=I.base.slot b o e n J h;let{T,Q}:=slot b _ (M b o e) J (B b o e h) E (I.base.free b o e n h);exact⟨T,Q⟩
 .let{O,E}:=I.base.there b o e h;exact free b O (B b o e h) E (I.base.free b o e n h)
 .let{O,E}:=I.base.there b o e h;exact there b O (B b o e h) E
 .let{m1,E}:=I.base.tbls b ps e;let{m2,Q}:=tbls b _ E;exact{m1++m2,by rw[Q,X3]}
 .let{m,hn,hl}:=I.loc;calc{m,ns m hn,λi x v E Q e3=>?_};let{u,r,l}:=hl i x v E Q e3;calc{u,r,?_};rcases l with l |⟨k,c,e,z⟩
  .exact .inl l
  .exact .inr {k,c,e,C x c e _ z}
 .let{v,z}:=I.cell x c e;exact{v,C x c e v z}
 .let{m,⟨o,_,_,L,_⟩,_}:=I.loc;exact free _ o (λz=>(y _ z).2.1 rfl) L I.free
 .let{v,o,L,hd}:=I.cell x c e;exact free c o (λz=>(y c z).2.2.1 x c e rfl) L (I.freeC x c e)
 .let{e,n,ne,U,d}:=I.pin p Y;let j:p.1∉ch:=λz=>(y p.1 z).2.2.2 p Y rfl;exact{keep p.1 p.2 ne U j e n,free p.1 p.2 j e n,ne,U,d}
def Inv.un{t':Nat}(I:Inv X f g H s)(u:Un X.fs [] H w s.heap h')(hok:HOk X.prog X.w w h'):Inv X f g w {s with heap:=h',toks:=t'}:=by
 let{m,⟨o,C,B,p,r⟩,_}:=id I.loc;let{sl,q}:=u.any p I.free (by simp)
 exact I.step (g':=s.gens) (d':=s.drawn) (ch:=[]) (λ_ z=>nomatch z) (λb o _ c _ e n=>u.keep b o e n c (by simp)) (λb o _ c _ e n=>u.slot b o e n c (by simp)) (λb o _ e n=>u.free b o e n (by simp)) (λb o _ e=>u.there b o e (by simp)) u.tups u.frzs u.tbls (λM y=>by
  let{O,j,E,h,v}:=y;rw[p]at h;cases h;exact⟨_,j,E,q,v⟩) hok I.bare
def Inv.call{g':Array VO}{t':Nat}{d':Drawn}{ch:List Addr}(I:Inv X f g H s)(u:Un (frs X.stack) ch H w s.heap h')(hok:HOk X.prog X.w w h')(L:AllBare g')
  (q:∀b∈ch,(b∈X.ex\/X.s₀.heap.objs.size<=b)/\b≠X.env.locals/\(∀x c,X.env.cells.lookup x=aD c->c≠b)/\∀p∈X.pn++f,p.1≠b) :
  Inv X f g w {s with heap:=h',gens:=g',drawn:=d',toks:=t'}:=by
 let{m,⟨o,T,U,B,r⟩,_}:=id I.loc;let{sl,v}:=u.any B I.free λz=>(q _ z).2.1 rfl
 exact I.step (ch:=ch) q (λb o v J h e n=>u.keep b o e n (λz=>(Zl.mp (I.stkSub b z)).elim v J) h) (λb o _ _ h e n=>u.any e n h) (λb o h e n=>u.free b o e n h) (λb o h e=>u.there b o e h) u.tups u.frzs u.tbls (λQ C=>by
  let{O,y,E,j,M}:=C;rw[B]at j;cases j;exact⟨_,y,E,v,M⟩) hok L
def Inv.turned{t':Nat}{it:Addr}(I:Inv X f g H s)(k:∀b o,b≠it->s.heap.get? b=aD o->h'.get? b=aD o)(B:H it=aT)(y:it≠X.env.locals)
  (C:it∈X.ex\/X.s₀.heap.objs.size<=it) (L:∀x c,X.env.cells.lookup x=aD c->c≠it) (O:∀p∈X.pn++f,p.1≠it):Inv X f g H {s with heap:=h',toks:=t'}:=by
 let j:∀b u,H b=aD u->b≠it:=λb u e z=>by rw[z,B]at e;cases e
 refine I.step (g':=s.gens) (d':=s.drawn) (ch:=[it]) (λb J=>?_) (λb o _ _ h e _=>k b o (λz=>h (by simp[z])) e) (λb o _ _ h e _=>{o.slots,k b o (λz=>h (by simp[z])) e}) (λ_ _ _ _ n=>n)
  (λb o h e=>{o,k b o (λz=>h (by simp[z])) e}) (λ_ _ e=>e) (λ_ _ _ e=>e) (λb ps e=>{#[],by rw[e];simp}) (λm Q=>?_) (λb u e=>?_) I.bare
 .let e:b=it:=by simpa using J
  subst e;exact⟨C,y,L,O⟩
 .let{o,T,M,E,r}:=Q;exact{o,T,M,k _ o (Ne.symm y) E,r}
 .calc(I.hok b u e).stay (λc v h q=>k c v ?_ q) (λ_ q=>q) λ_ _ q=>q;rcases h with z |z
  .rw[z];exact j b u e
  .exact j c _ z
def Inv.tok(I:Inv X f g H s)(t:Nat):Inv X f g H {s with toks:=t}:=I.un (h':=s.heap) (t':=t) Un.refl I.hok
def Inv.kept{t':Nat}(I:Inv X f g H s)(k:∀b u,s.heap.get? b=aD u->h'.get? b=aD u):Inv X f g H {s with heap:=h',toks:=t'}:=I.un (Un.kept k) (I.hok.kept k)
def Inv.laid{a:Addr}{o:HO}{t':Nat}(I:Inv X f g H s)(k:∀b u,s.heap.get? b=aD u->h'.get? b=aD u)(h:s⁻¹<=a)(new:bD X.prog X.w (upd H a o) h' a o) :
  Inv X f g (upd H a o) {s with heap:=h',toks:=t'}:=I.un (Un.laid k h (I.hok.fresh h)) (I.hok.laid k h new)
def Inv.write{t':Nat}(I:Inv X f g H s)(M:Mut (H x))(c:e=x\/H e=aD (.own x))(k:∀b u,b≠e->s.heap.get? b=aD u->h'.get? b=aD u)(h:∃u,h'.get? e=aD u)
  (new:bD X.prog X.w (upd H x o) h' x o):Inv X f g (upd H x o) {s with heap:=h',toks:=t'}:=I.un (Un.write M c k h) (I.hok.write M c k h new)
def Inv.pins_of(I:Inv X f g H s)(h:∀p∈b,s.heap.get? p.1=aD p.2/\H p.1=aT/\p.1≠X.env.locals/\p.1∉X.fs/\∀v,p.2.data≠.cell v):Inv X b g H s:=
 {I.ok,I.os,I.bare,I.base,I.loc,I.cell,I.free,I.freeC,λp c=>(ZC.mp c).elim (λz=>I.pin p (ZV _ z)) (h p),I.hok,I.len}
def mW{N:List Str}(hN:N.Nodup){i j:Nat}{x:Str}(a:N[i]?=aD x)(b:N[j]?=aD x):i=j:=by
 let{o,E}:=Zb.mp a;let{h,c}:=Zb.mp b;exact(YU hN).mp (E.trans c.symm)
def pT{M:Model}{A:Around}{E:Value->Shared->Prop}{i:Nat}{x:Str}{v:V}{u:Value}{Q:Unit->Shared->Prop}(I:Inv X f g H s)(hN:X.N.Nodup)(hi:X.N[i]?=aD x)(C:Loc X.env.scope x)(r:aJ v u)
  (h:∀s',Inv X f (g.set i (aD v)) H s'->(∃a,Heap.SameBut a s.heap s'.heap/\(a=X.env.locals\/X.env.cells.lookup x=aD a))->Q () s') (hf:X.fn x=a8\/X.env.scope.names.lookup x=aD .local:=by first |exact .inl rfl |exact .inr rfl |assumption):wpAny M A (storeName X.env x u) Q E s:=by
 let{m,hn,hl}:=id I.loc;let hcls:(X.env.scope.kind == .class || (X.env.scope.kind == .module && X.env.locals != X.env.globals))=a9:=by rw[I.ok.kind];rfl
 let O:i < g.length:=by rw[I.len];exact(Zb.mp hi).1
 let cne:=I.cne
 let T:∀ {a:Addr} {h':Heap},(∃o,s.heap.get? a=aD o/\H a=aT)->Heap.SameBut a s.heap h'->HOk X.prog X.w H h':=λ{a h'} ha hs b ob e=>by
  let{_,_,J}:=ha;calc(I.hok b ob e).stay (λc w' hc q=>(hs.2 c ?_).trans q) (λ_ q=>q) λ_ _ q=>q;rintro rfl;rcases hc with rfl |hc
  .rw[J]at e;cases e
  .rw[J]at hc;cases hc
 rcases C with hk |hk
 .calc wpAny_storeName_local hk hn (λh' hn' hs=>?_) hcls;let{oL,_,_,hoL,_}:=id hn;refine h _ {I.ok,I.os,I.bare,{λb o e n U C=>?_,λb o e n U C=>?_,I.base.free,λb o e C=>?_,I.base.tups,I.base.frzs,I.base.tbls},{_,hn',λj y v' B L e3=>?_},λy c e=>?_,I.free,I.freeC,λp hp=>?_,T ⟨oL,hoL,I.free⟩ hs,by simpa using I.len} {_,hs,.inl rfl}
  .exact(hs.2 b (ZI (ZB (Zv e) I.ok.above))).trans (I.base.keep b o e n U C)
  .let{sl,B}:=I.base.slot b o e n U C;exact{sl,(hs.2 b (ZI (ZB (Zv e) I.ok.above))).trans B}
  .let{o',B}:=I.base.there b o e C;exact{o',(hs.2 b (ZI (ZB (Zv e) I.ok.above))).trans B}
  .by_cases Z:j=i
   .subst Z;rw[hi]at B;cases B;rw[Zq O]at L;cases L;exact{u,r,.inl {hk,by simp}}
   .rw[ZA (Ne.symm Z)]at L;let{u',r',q}:=hl j y v' B L e3;calc{u',r',?_};rcases q with ⟨k,e⟩ |⟨k,c,e,z⟩
    .calc .inl {k,?_};let:y≠x:=λe=>Z (mW hN B (e▸hi));simp[this,e]
    .exact .inr {k,c,e,z.sameBut hs (cne y c e)}
  .let{w',z}:=I.cell y c e;exact{w',z.sameBut hs (cne y c e)}
  .let{e,n,ne,nf,d}:=I.pin p hp;exact{(hs.2 p.1 ne).trans e,n,ne,nf,d}
 .let Y:X.fn x=a8:=by
   rcases hf with z |z
   .exact z
   .rw[z]at hk;cases hk
  let{c,hc}:=I.ok.has x (.inl hk);let{w',z}:=I.cell x c hc;calc wpAny_storeName_cell I.ok.kind hk hc z (λh' hc' hs=>?_);let{oc,hoc,hocd}:=id z;refine h {s with heap:=h'} {I.ok,I.os,I.bare,{λb o e n U C=>?_,λb o e n U C=>?_,I.base.free,λb o e C=>?_,I.base.tups,I.base.frzs,I.base.tbls},{m,hn.sameBut hs (Ne.symm (cne x c hc)),λj y v' B L e3=>?_},λy c' e=>?_,I.free,I.freeC,λp hp=>?_,T {oc,hoc,I.freeC x c hc} hs,by simpa using I.len} {c,hs,.inr hc}
  .exact(hs.2 b (ZI (ZB (Zv e) (I.ok.cab x c Y hc)))).trans (I.base.keep b o e n U C)
  .let{sl,B}:=I.base.slot b o e n U C;exact{sl,(hs.2 b (ZI (ZB (Zv e) (I.ok.cab x c Y hc)))).trans B}
  .let{o',B}:=I.base.there b o e C;exact{o',(hs.2 b (ZI (ZB (Zv e) (I.ok.cab x c Y hc)))).trans B}
  .by_cases Z:j=i
   .subst Z;rw[hi]at B;cases B;rw[Zq O]at L;cases L;exact{u,r,.inr {.inl hk,c,hc,hc'}}
   .rw[ZA (Ne.symm Z)]at L;let{u',r',q}:=hl j y v' B L e3;calc{u',r',?_};rcases q with q |⟨k,c',e,z'⟩
    .exact .inl q
    .calc .inr {k,c',e,z'.sameBut hs ?_};rintro rfl;exact Z (mW hN B (I.ok.inj _ _ _ e hc▸hi))
  .by_cases hcc:c'=c
   .subst hcc;exact⟨_,hc'⟩
   .let{w2,z2}:=I.cell y c' e;exact{w2,z2.sameBut hs hcc}
  .let{e,n,ne,nf,d}:=I.pin p hp;calc{(hs.2 p.1 ?_).trans e,n,ne,nf,d};intro q;rw[q,hoc]at e;let q':oc=p.2:=θ e;exact d w' (by rw[<-q'];exact hocd)
def cm{i:Nat}(I:Inv X f g H s)(hN:X.N.Nodup)(j:X.N[i]?=aD x)(o:Loc X.env.scope x)(r:aJ v u)
  (h:∀b,Inv X f (g.set i (aD v)) H b->Q () b) (p:X.fn x=a8\/X.env.scope.names.lookup x=aD .local:=by first |exact .inl rfl |exact .inr rfl |assumption):wpAny M A (storeName X.env x u) Q E s:=
 pT I hN j o r (λb c _=>h b c) p
def Inv.call'(I:Inv X f g H s)(j:s'.os=s.os)(u:Un (frs X.stack) ch H w s.heap s'.heap)(hok:HOk X.prog X.w w s'.heap)(o:AllBare s'.gens)
  (h:∀b∈ch,(b∈X.ex\/X.s₀.heap.objs.size<=b)/\b≠X.env.locals/\(∀x c,X.env.cells.lookup x=aD c->c≠b)/\∀p∈X.pn++f,p.1≠b):Inv X f g w s':=by
 let{h',q,v,T,O}:=s';let e:O=s.os:=j;subst e;exact I.call (g':=q) (t':=T) (d':=v) u hok o h
end
@[inline]abbrev XK:=Value->Option Addr->Hp->Prop
@[inline]abbrev St:=List (Option V)
@[inline]abbrev VK:=V->Hp->Prop
@[inline]abbrev TE:=St->Hp->VK->Prop
@[inline]abbrev TT:=St->Hp->(Bool->Hp->Prop)->Prop
@[inline]abbrev TA:=St->Hp->(List V->Hp->Prop)->Prop
structure Ends where
 nx:St->Hp->Prop
 rt:VK
 bk:St->Hp->Prop:=λ_ _=>False
 ct:St->Hp->Prop:=λ_ _=>False
@[inline]abbrev TS:=Ends->St->Hp->Prop
abbrev EP(X:Cx)(p:List (Addr×Obj))(b:St)(Q:VK)(u:Value)(c:Shared):Prop:=∃v H,Inv X p b H c/\aJ v u/\Q v H
abbrev TP(X:Cx)(p:List (Addr×Obj))(c:St)(Q:Bool->Hp->Prop)(b:Bool)(f:Shared):Prop:=∃H,Inv X p c H f/\Q b H
abbrev AP(X:Cx)(p:List (Addr×Obj))(b:St)(Q:List V->Hp->Prop)(u:List Value)(c:Shared):Prop:=∃v H,Inv X p b H c/\aP v u/\Q v H
abbrev SP(X:Cx)(p:List (Addr×Obj))(D:Ends)(f:Flow)(c:Shared):Prop:=
 match f with
 |.next=>∃b H,Inv X p b H c/\D.nx b H
 |.brk=>∃b H,Inv X p b H c/\D.bk b H
 |.cont=>∃b H,Inv X p b H c/\D.ct b H
 |.ret u=>∃v b H,Inv X p b H c/\aJ v u/\D.rt v H
abbrev PE(X:Cx)(e:Expr)(t:TE):Prop:=
 ∀ (p:List (Addr×Obj)) (s:Shared) (b:St) (H:Hp) (Q:VK),Inv X p b H s->t b H Q->wpAny (model X.prog X.w) X.A (eval e X.env) (EP X p b Q) X.xe s
abbrev PT(X:Cx)(e:Expr)(t:TT):Prop:=
 ∀ (p:List (Addr×Obj)) (s:Shared) (b:St) (H:Hp) (Q:Bool->Hp->Prop),Inv X p b H s->t b H Q->wpAny (model X.prog X.w) X.A (isTrue e X.env (eval e X.env)) (TP X p b Q) X.xe s
abbrev PW(X:Cx)(e:Expr)(t:TT):Prop:=
 ∀ (b:Sem Value) (p:List (Addr×Obj)) (s:Shared) (c:St) (H:Hp) (Q:Bool->Hp->Prop),Inv X p c H s->t c H Q->wpAny (model X.prog X.w) X.A (isTrue e X.env b) (TP X p c Q) X.xe s
def PW.pt(h:PW X e t):PT X e t:=h _
abbrev PA(X:Cx)(E:List Expr)(t:TA):Prop:=
 ∀ (pos:Pos) (p:List (Addr×Obj)) (s:Shared) (b:St) (H:Hp) (Q:List V->Hp->Prop),Inv X p b H s->t b H Q->wpAny (model X.prog X.w) X.A (spliced (backTo pos (ZaQ E X.env))) (AP X p b Q) X.xe s
abbrev PS(X:Cx)(st:Stmt)(t:TS):Prop:=
 ∀ (p:List (Addr×Obj)) (s:Shared) (b:St) (H:Hp) (D:Ends),Inv X p b H s->t D b H->wpAny (model X.prog X.w) X.A (exec st X.env) (SP X p D) X.xe s
abbrev PSs(X:Cx)(st:List Stmt)(t:TS):Prop:=
 ∀ (p:List (Addr×Obj)) (s:Shared) (b:St) (H:Hp) (D:Ends),Inv X p b H s->t D b H->wpAny (model X.prog X.w) X.A (execs st X.env) (SP X p D) X.xe s
def thn{b:Type}{t:Sem b}{Q q:b->Shared->Prop}{M:Model}{A:Around}{E:Value->Shared->Prop}{s:Shared}(h:wpAny M A t Q E s)(H:∀a s,Q a s->q a s):wpAny M A t q E s:=Zbi h H λ_ _ x=>x
section
variable {X:Cx}
abbrev G3(i:Nat):TE:=λb H Q=>∃v,b[i]?=aD (aD v)/\Q v H
abbrev tC(v:V):TE:=λ_ H Q=>Q v H
def mX{i:Nat}(hN:X.N[i]?=aD x)(z:Vis X.env.scope x)(hd:(x == ("__debug__" : Str))=a9:=by decide)(f:(x == ("__classdict__" : Str))=a9:=by decide):PE X (.Name x pos) (G3 i):=by
 intro p s o H Q I h;let{v,e,h}:=h;let{m,j,y}:=I.loc;let{u,r,l}:=y i x v hN e z;let fin:EP X p o Q u s:=⟨v,H,I,r,h⟩;rcases l with ⟨hk,q⟩ |⟨hk,c,g,b⟩
 .exact wpAny_Name (Zbf I.ok.kind hk j q fin) hd
 .rcases hk with hk |hk
  .exact wpAny_Name (wpAny_loadName_cell I.ok.kind hk g b fin) hd
  .exact wpAny_Name (wpAny_loadName_free I.ok.kind hk g b fin f) hd
def v7{i j pos}:PE X (.Constant (.int i) j pos) (tC (.int i)):=λ_ _ _ H _ I h=>wpAny_Constant_int {.int i,H,I.tok _,⟨_,rfl⟩,h}
def Cv{b j pos}:PE X (.Constant (.bool b) j pos) (tC (.bl b)):=λ_ _ _ H _ I h=>Constant_bool {.bl b,H,I,rfl,h}
def Mb{j pos}:PE X (.Constant .none j pos) (tC .non):=λ_ _ _ H _ I h=>Constant_none ⟨.non,H,I,rfl,h⟩
def qY{x j pos}:PE X (.Constant (.str x) j pos) (tC (.str x)):=λ_ _ _ H _ I h=>WV {.str x,H,I.tok _,⟨_,rfl⟩,h}
abbrev Gl(X:Cx)(x:Str):Prop:=X.env.kindOf x=aD .globalImplicit
def ip(I:Inv X p f H s)(b:Gl X x)(c:X.mg x=aD u)(h:Q u s)
  (hd:(x == ("__debug__" : Str))=a9:=by decide):wpAny (model X.prog X.w) X.A (eval (.Name x pos) X.env) Q E s:=
 WW I.ok.kind b (Calls.loadGlobal_global (by rw[I.ok.glob];exact I.mod.glob.keeps I.bk) c h) hd
def i8(I:Inv X p q H s)(g:Gl X x)(j:X.mg x=aT)(o:Zam x=aD u)(h:Q u s)
  (b:x≠"__name__" := by decide) (hd:(x == ("__debug__" : Str))=a9:=by decide):wpAny (model X.prog X.w) X.A (eval (.Name x pos) X.env) Q E s:=by
 let{M,c,f}:=I.mod.blt;exact WW I.ok.kind g (Calls.loadGlobal_builtin (by rw[I.ok.glob];exact I.mod.glob.keeps I.bk) j (by rw[I.ok.blt];exact c.keeps I.bk) ((f x b).trans o) h) hd
def iq(b:Gl X x)(c:X.mg x=aD u)(r:aJ v u)(hd:(x == ("__debug__" : Str))=a9:=by decide):PE X (.Name x pos) (tC v):=
 λ_ _ _ H _ I h=>ip I b c ⟨v,H,I,r,h⟩ hd
def ir(c:Gl X x)(f:X.mg x=aT)(g:Zam x=aD u)(r:aJ v u)(b:x≠"__name__" := by decide)(hd:(x == ("__debug__" : Str))=a9:=by decide):PE X (.Name x pos) (tC v):=
 λ_ _ _ H _ I h=>i8 I c f g ⟨v,H,I,r,h⟩ b hd
variable {a b:Expr} {T f:TE} {pos:Pos}
abbrev tB(t:TE):TT:=λg H Q=>t g H λx h=>∃c,x = .bl c/\Q c h
def Mc{e:Expr}{t:TE}(h:PE X e t)(g:∀c,isTrue e X.env c=(do let v <-c;standAt e.pos;holding [v] (truthy v)):=by intro _;rfl):PT X e (tB t):=by
 intro p s y H Q I u;calc isTrue_plain (thn (h p s y H _ I u) λv B ⟨x,j,z,r1,o⟩=>?_) (g _);let{d,rfl,q}:=o;cases r1;exact Zbv ⟨j,z,q⟩
variable {g i:TT} {r:List Expr}
abbrev Ri(t u:TT):TT:=λj H Q=>t j H λc h=>if c=a8 then u j h Q else Q a9 h
abbrev tOr(t u:TT):TT:=λj H Q=>t j H λc h=>if c=a8 then Q a8 h else u j h Q
abbrev Rj(t:TT):TT:=λj H Q=>t j H λc h=>Q (!c) h
def G4(j:PT X a g):PW X (.BoolOp .And [a] pos) g:=by
 intro q p s o H Q I h;calc isTrue_and (thn (j p s o H Q I h) λc u e=>?_);cases c with
 |true=>exact isTrue_and_nil e
 |false=>exact e
def Cw(j:PT X a g):PW X (.BoolOp .Or [a] pos) g:=by
 intro q p s o H Q I h;calc isTrue_or (thn (j p s o H Q I h) λc u e=>?_);cases c with
 |false=>exact isTrue_or_nil e
 |true=>exact e
def Cy(v:PT X a g)(B:PW X (.BoolOp .And (b::r) pos) i):PW X (.BoolOp .And (a::b::r) pos) (Ri g i):=by
 intro y p s o H Q I h;calc isTrue_and (thn (v p s o H _ I h) λc z ⟨j,u,q⟩=>?_);cases c with
 |true=>exact B y p z o j Q u q
 |false=>exact⟨j,u,q⟩
def Cz(v:PT X a g)(B:PW X (.BoolOp .Or (b::r) pos) i):PW X (.BoolOp .Or (a::b::r) pos) (tOr g i):=by
 intro y p s o H Q I h;calc isTrue_or (thn (v p s o H _ I h) λc z ⟨j,u,q⟩=>?_);cases c with
 |true=>exact⟨j,u,q⟩
 |false=>exact B y p z o j Q u q
def CA(j:PT X a g):PT X (.UnaryOp .Not a pos) (Rj g):=by
 intro p s q H Q I h;exact isTrue_not (j p s q H (λc o=>Q (!c) o) I h)
abbrev KQ(T f:TE):TE:=λj H Q=>T j H λx h=>∃c,x = .bl c/\if c=a8 then f j h Q else Q (.bl a9) h
abbrev Rk(T f:TE):TE:=λj H Q=>T j H λx h=>∃c,x = .bl c/\if c=a8 then Q (.bl a8) h else f j h Q
abbrev KR(T:TE):TE:=λj H Q=>T j H λx h=>∃c,x = .bl c/\Q (.bl (!c)) h
def CB{op}(h:PE X a t):PE X (.BoolOp op [a] pos) t:=λp s c H Q I j=>BoolOp_one (h p s c H Q I j)
def CC(y:PE X a T)(B:PE X (.BoolOp .And (b::r) pos) f):PE X (.BoolOp .And (a::b::r) pos) (KQ T f):=by
 intro p s o H Q I h;calc BoolOp_and (thn (y p s o H _ I h) λv z ⟨x,j,u,r1,q⟩=>?_);let{c,rfl,q}:=q;cases r1;calc Zbv ?_;cases c with
 |true=>exact B p z o j Q u q
 |false=>exact{.bl a9,j,u,rfl,q}
def KS(y:PE X a T)(B:PE X (.BoolOp .Or (b::r) pos) f):PE X (.BoolOp .Or (a::b::r) pos) (Rk T f):=by
 intro p s o H Q I h;calc BoolOp_or (thn (y p s o H _ I h) λv z ⟨x,j,u,r1,q⟩=>?_);let{c,rfl,q}:=q;cases r1;calc Zbv ?_;cases c with
 |false=>exact B p z o j Q u q
 |true=>exact{.bl a8,j,u,rfl,q}
def Md(j:PE X a T):PE X (.UnaryOp .Not a pos) (KR T):=by
 intro p s u H Q I h;calc UnaryOp_ (thn (j p s u H _ I h) λv z ⟨x,o,y,r1,q⟩=>?_);let{c,rfl,q}:=q;cases r1;exact not_of (Zbv {.bl (!c),o,y,rfl,q})
abbrev tIf(t:TT)(T f:TE):TE:=λh H Q=>t h H λc j=>if c=a8 then T h j Q else f h j Q
def CD{c:Expr}(hc:PT X c g)(y:PE X a T)(z:PE X b f):PE X (.IfExp c a b pos) (tIf g T f):=by
 intro p s j H Q I h;calc wpAny_IfExp (thn (hc p s j H _ I h) λd o ⟨q,v,u⟩=>?_);cases d with
 |true=>exact y p o j q Q v u
 |false=>exact z p o j q Q v u
end
abbrev SqL(K:V6)(H:Hp)(a:Addr)(xs:List V):Prop:=
 Rd H a (.lst xs) ∨
  ∃ (o:Obj) (I:Array Value) (n:Nat),K.lookup a=aD o/\o.cls = .type "list"/\o.dict=aT/\o.data = .seq I n/\I.size<=sizeLine/\aP xs I.toList
abbrev SqT(K:V6)(H:Hp)(a:Addr)(xs:List V):Prop:=
 Rd H a (.tup xs) ∨
  ∃ (o:Obj) (I:Array Value) (n:Nat),K.lookup a=aD o/\o.cls = .type "tuple"/\o.data = .seq I n/\I.size<=sizeLine/\aP xs I.toList
abbrev UQ:Value->Option V
 |.none=>aD .non
 |.bool b=>aD (.bl b)
 |.int i _=>aD (.int i)
 |.str x _=>aD (.str x)
 |.bytes b _=>aD (.byt b)
 |.float b _=>aD (.flt b)
 |.ref a=>aD (.ref a)
 |.type n=>aD (.ty n)
 |_=>aT
def aJ.abs(r:aJ x u):UQ u=aD x:=by
 cases x with
 |non=>cases r;rfl
 |bl _=>cases r;rfl
 |int _=>let{t,rfl}:=r;rfl
 |str _=>let{t,rfl}:=r;rfl
 |byt _=>let{t,rfl}:=r;rfl
 |flt _=>let{t,rfl}:=r;rfl
 |ref _=>cases r;rfl
 |ty _=>cases r;rfl
def aJ.inj{x y:V}{u:Value}(r:aJ x u)(q:aJ y u):x=y:=θ (r.abs.symm.trans q.abs)
def aP.inj:∀ {xs ys:List V} {u:List Value},aP xs u->aP ys u->xs=ys
 |_,_,_,.nil,.nil=>rfl
 |_,_,_,.cons r t,.cons r' t'=>by rw[r.inj r',aP.inj t t']
section
variable {X:Cx} {b:List (Addr×Obj)} {c:St} {H:Hp} {s:Shared} {a:Addr} {xs ys:List V}
def SqL.of{K:V6}(h:H a=aD (.lst xs)):SqL K H a xs:=.inl (.inl h)
def SqT.of{K:V6}(h:H a=aD (.tup xs)):SqT K H a xs:=.inl (.inl h)
def Inv.list(I:Inv X b c H s)(h:SqL X.K H a xs):∃its:List Value,aP xs its/\PlainL s.heap a its.toArray/\xs.length<=sizeLine:=by
 rcases h with h |⟨o,its,n,hk,hc,hd,hs,hz,r⟩
 .let{z,its,n,r,e}:=h.ok I.hok;exact⟨its,r,⟨_,n,e,rfl,rfl,rfl⟩,z⟩
 .calc{its.toList,r,{o,n,I.kIn a o hk,hc,hd,by simpa using hs},?_};let e:=r.length;simp![Yh]at e
  lia
def Inv.tuple(I:Inv X b c H s)(h:SqT X.K H a xs):∃its:List Value,aP xs its/\IsTup s.heap a its.toArray/\xs.length<=sizeLine:=by
 rcases h with h |⟨o,its,n,hk,hc,hs,hz,r⟩
 .let{z,its,r,p}:=h.ok I.hok;exact⟨its,r,p.isTup,z⟩
 .calc{its.toList,r,{o,I.kIn a o hk,hc,n,by simpa using hs},?_};let e:=r.length;simp![Yh]at e
  lia
def Inv.list_inj(I:Inv X b c H s)(h:SqL X.K H a xs)(h':SqL X.K H a ys):xs=ys:=by
 let{f,r,⟨o,n,e,_,_,d⟩,_}:=I.list h;let{its',j,⟨O,p,E,_,_,g⟩,_}:=I.list h';rw[e]at E;cases E;rw[d]at g;injection g with d1 _;let:f=its':=by simpa using congrArg Array.toList d1
 subst this;exact r.inj j
def Inv.tuple_inj(I:Inv X b c H s)(h:SqT X.K H a xs)(h':SqT X.K H a ys):xs=ys:=by
 let{f,r,⟨o,e,_,n,d⟩,_}:=I.tuple h;let{its',j,⟨O,E,_,p,g⟩,_}:=I.tuple h';rw[e]at E;cases E;rw[d]at g;injection g with d1 _;let:f=its':=by simpa using congrArg Array.toList d1
 subst this;exact r.inj j
end
noncomputable abbrev Cx.wish(X:Cx)(E:Value->Shared->Prop):Cx:={X with xe:=E}
noncomputable abbrev Cx.nox(X:Cx):Cx:=X.wish λ_ _=>False
def Cx.Ok.wish{X:Cx}(ok:X.Ok)(E:Value->Shared->Prop):(X.wish E).Ok:=
 ⟨ok.mod,ok.kind,ok.glob,ok.blt,ok.above,ok.inj,ok.has,ok.cab,ok.hd,ok.frames,ok.stk,ok.exf,ok.bs,ok.bsz,ok.noex,ok.exfs,ok.funs,ok.frf⟩
def Cx.Ok.unwish{X:Cx}{E:Value->Shared->Prop}(ok:(X.wish E).Ok):X.Ok:=
 ⟨ok.mod,ok.kind,ok.glob,ok.blt,ok.above,ok.inj,ok.has,ok.cab,ok.hd,ok.frames,ok.stk,ok.exf,ok.bs,ok.bsz,ok.noex,ok.exfs,ok.funs,ok.frf⟩
section
variable {X:Cx} {p:List (Addr×Obj)} {a:St} {H:Hp} {s:Shared} {E:Value->Shared->Prop}
def Inv.wish(I:Inv X p a H s)(E:Value->Shared->Prop):Inv (X.wish E) p a H s:={I.ok.wish E,I.os,I.bare,I.base,I.loc,I.cell,I.free,I.freeC,I.pin,I.hok,I.len}
def Inv.unwish(I:Inv (X.wish E) p a H s):Inv X p a H s:=⟨I.ok.unwish,I.os,I.bare,I.base,I.loc,I.cell,I.free,I.freeC,I.pin,I.hok,I.len⟩
def SP.unwish{D:Ends}{f:Flow}{s':Shared}(h:SP (X.wish E) p D f s'):SP X p D f s':=by
 cases f with
 |next=>let{b,c,I,q}:=h;exact⟨b,c,I.unwish,q⟩
 |brk=>let{b,c,I,q}:=h;exact⟨b,c,I.unwish,q⟩
 |cont=>let{b,c,I,q}:=h;exact⟨b,c,I.unwish,q⟩
 |ret u=>let{v,b,c,I,r,q}:=h;exact⟨v,b,c,I.unwish,r,q⟩
def PT.nox(h:PT X.nox e t):PT X e t:=λp s a H Q I f=>
 Zbi (h p s a H Q (I.wish _) f) (λ_ _ ⟨c,b,q⟩=>⟨c,b.unwish,q⟩) λ_ _ z=>False.elim z
def PSs.nox{st:List Stmt}{t:TS}(h:PSs X.nox st t):PSs X st t:=λp s a H D I b=>
 Zbi (h p s a H D (I.wish _) b) (λ_ _ q=>q.unwish) λ_ _ z=>False.elim z
end
section
variable {X:Cx} {st:Stmt} {r:List Stmt} {t u:TS} {e:Expr} {T:TE} {pos:Pos}
abbrev KU:TS:=λD b H=>D.nx b H
abbrev v8(t u:TS):TS:=λD b H=>t {D with nx:=u D} b H
def jA:PSs X [] KU:=λ_ _ b H _ I h=>Zba ⟨b,H,I,h⟩
def cn(g:PS X st t)(y:PSs X r u):PSs X (st::r) (v8 t u):=by
 intro p s z H D I h;calc Za9 (thn (g p s z H {D with nx:=u D} I h) λf j q=>?_);cases f with
 |next=>
  let{b,o,c,q}:=q;exact y p j b o D c q
 |ret v=>exact q
 |brk=>exact q
 |cont=>exact q
def jB(b:PS X st t):PSs X [st] t:=by
 intro p s c H D I h;calc Za9 (thn (b p s c H D I h) λf g q=>?_);cases f with
 |next=>exact Zba q
 |ret v=>exact q
 |brk=>exact q
 |cont=>exact q
abbrev KW:TS:=λD b H=>D.ct b H
def tW:PS X (.Continue pos) KW:=λ_ _ b H _ I h=>wpAny_Continue ⟨b,H,I,h⟩
def Inv.quiet{p:List (Addr×Obj)}{b:St}{H:Hp}{s:Shared}(I:Inv X p b H s):interactive X.env=a9:=by simp[interactive,I.ok.kind]
abbrev KY(T:TE):TS:=λD b H=>T b H λ_ h=>D.nx b h
def G5(c:PE X e T)(hs:ZaS e aT pos.line X.env=pure a9:=by rfl):PS X (.Expr e pos) (KY T):=by
 intro p s b H D I h;exact wpAny_Expr_any (thn (c p s b H _ I h) λv j ⟨x,f,g,r1,q⟩=>⟨b,f,g,q⟩) I.quiet hs
abbrev Rm(T:TE):TS:=λD b H=>T b H D.rt
def v9(c:PE X e T):PS X (.Return (aD e) pos) (Rm T):=by
 intro p s b H D I h;exact Za3 (thn (c p s b H _ I h) λv j ⟨x,f,g,r1,q⟩=>⟨x,b,f,g,r1,q⟩)
abbrev Rn(c:TT)(t u:TS):TS:=λD f H=>c f H λb h=>if b=a8 then t D f h else u D f h
def yS{c:Expr}{a b:List Stmt}{j:TT}(hc:PT X c j)(y:PSs X a t)(z:PSs X b u):PS X (.If c a b pos) (Rn j t u):=by
 intro p s f H D I h;calc wpAny_If (thn (hc p s f H _ I h) λd g ⟨o,v,q⟩=>?_);cases d with
 |true=>exact y p g f o D v q
 |false=>exact z p g f o D v q
abbrev Me:TS:=λ_ _ _=>False
def tX:PS X st Me:=λ_ _ _ _ _ _ h=>h.elim
end
@[inline]abbrev TG:=V->St->Hp->(St->Hp->Prop)->Prop
@[inline]abbrev TGs:=List V->St->Hp->(St->Hp->Prop)->Prop
abbrev PG(X:Cx)(T:Expr)(t:TG):Prop:=
 ∀ (p:List (Addr×Obj)) (s:Shared) (c:St) (H:Hp) (v:V) (u:Value) (Q:St->Hp->Prop),Inv X p c H s->aJ v u->t v c H Q ->
  wpAny (model X.prog X.w) X.A (assign T X.env u) (λ_ f=>∃b h,Inv X p b h f/\Q b h) X.xe s
abbrev PGs(X:Cx)(T:List Expr)(t:TGs):Prop:=
 ∀ (p:List (Addr×Obj)) (s:Shared) (c:St) (H:Hp) (v:List V) (u:List Value) (Q:St->Hp->Prop),Inv X p c H s->aP v u->t v c H Q ->
  wpAny (model X.prog X.w) X.A (Zag ((Zaf T X.env).map (·.2)) u) (λ_ f=>∃b h,Inv X p b h f/\Q b h) X.xe s
@[inline]abbrev G6:=V->V->V->Hp->(Hp->Prop)->Prop
abbrev Mf(X:Cx)(t:G6):Prop:=
 ∀ (p:List (Addr×Obj)) (s:Shared) (b:St) (H:Hp) (o i v:V) (O I u:Value) (Q:Hp->Prop),Inv X p b H s->aJ o O->aJ i I->aJ v u->t o i v H Q ->
  wpAny (model X.prog X.w) X.A (setItem O I u) (λ_ c=>∃h,Inv X p b h c/\Q h) X.xe s
@[inline]abbrev TIp:=V->V->Hp->VK->Prop
abbrev PIp(X:Cx)(op:VQ)(t:TIp):Prop:=
 ∀ (p:List (Addr×Obj)) (s:Shared) (b:St) (H:Hp) (x y:V) (v u:Value) (Q:VK),Inv X p b H s->aJ x v->aJ y u->t x y H Q ->
  wpAny (model X.prog X.w) X.A (ZaA op v u) (EP X p b Q) X.xe s
section
variable {X:Cx} {pos:Pos}
abbrev iV(i:Nat):TG:=λv b H Q=>Q (b.set i (aD v)) H
def mi{i:Nat}(hN:X.N.Nodup)(c:X.N[i]?=aD x)(f:Loc X.env.scope x)(g:X.fn x=a8\/X.env.scope.names.lookup x=aD .local:=by first |exact .inl rfl |exact .inr rfl |assumption):PG X (.Name x pos) (iV i):=by
 intro p s j H v u Q I r h;exact wpAny_assign_Name (cm I hN c f r (λo b=>⟨_,H,b,h⟩) g)
abbrev Mg:TGs:=λv b H Q=>v=[]/\Q b H
abbrev yT(t:TG)(u:TGs):TGs:=λf c H Q=>∃v r,f=v::r/\t v c H λb h=>u r b h Q
def yU:PGs X [] Mg:=by
 intro p s b H v u Q I r h;let{e,h}:=h;subst e;cases r;exact assignInOrder_nil ⟨b,H,I,h⟩
def mY{e:Expr}{E:List Expr}{t:TG}{u:TGs}(c:PG X e t)(j:PGs X E u)
  (hs:(Zaf (e::E) X.env).map (·.2)=assign e X.env::(Zaf E X.env).map (·.2):=by rfl):PGs X (e::E) (yT t u):=by
 intro p s z H J U Q I r h;let{v,C,o,h}:=h;subst o;cases r with
 |cons r B=>
  rw[hs];calc assignInOrder_cons (thn (c p s z H _ _ _ I r h) λ_ y ⟨b,f,g,q⟩=>?_);exact j p y b f _ _ Q g B q
abbrev Mh(K:V6)(n:Nat)(t:TGs):TG:=λv b H Q=>∃a xs,v = .ref a/\SqT K H a xs/\xs.length=n/\t xs b H Q
def CF{k:Nat}{n:Nat}(hc:X.calm=a8)(h:PGs X E t)
  (B:(Zaf E X.env).length=n:=by rfl) (f:(Zaf E X.env).findIdx? (·.1)=aT:=by rfl):PG X (.Tuple E k pos) (Mh X.K n t):=by
 intro p s j H v u Q I r c;let{a,xs,C,M,z,c}:=c;subst C;cases r;let{L,g,J,T}:=I.tuple M;calc assign_Tuple_tuple (I.ok.hd hc) J (by simp[B,<-z,g.length]) f λq O=>?_;let y:Inv X p j H {s with heap:=q}:=I.kept (t':=s.toks) λb o e=>O b o (ZI (Zv e)) e;exact h p _ j H xs _ Q y (by simpa using g) c
abbrev CG(T c:TE)(t:G6):TG:=λv b H Q=>T b H λo h=>c b h λi g=>t o i v g λf=>Q b f
def wb{o i:Expr}{T f:TE}{t:G6}(L:PE X o T)(j:PE X i f)(hs:Mf X t)
  (g:∀v,assign (.Subscript o i pos) X.env v=(do
   let O <-holding [v] (eval o X.env)
   let b <-holding [v,O] (eval i X.env)
   standAt pos
   holding [v,O,b] (setItem O b v)
   release [v,O,b] []):=by intro _;rfl):PG X (.Subscript o i pos) (CG T f t):=by
 intro p s c H v u Q I r h;rw[g];calc Za4 (Zbc (thn (L p s c H _ I h) λO Y ⟨x,B,E,r1,M⟩=>?_));calc Za4 (Zbc (thn (j p Y c B _ E M) λb Z ⟨y,H2,J,r2,U⟩=>?_));calc Za4 (Zbu (Za4 (Zbc (thn (hs p Z c H2 x y v O b u _ J r1 r2 r U) λ_ s3 ⟨q,C,z⟩=>?_))));exact wpAny_release ⟨c,q,C,z⟩
abbrev qZ(T:TE)(g:TG):TS:=λD b H=>T b H λx h=>g x b h D.nx
def i9{T e:Expr}{c:TE}{g:TG}(f:PE X e c)(y:PG X T g)(hs:ZaT [T] e pos.line X.env=pure a9:=by rfl)(hw:ZaR [T] e X.env=pure aT:=by rfl)
  (j:(Zaf [T] X.env).map (·.2)=[assign T X.env]:=by rfl):PS X (.Assign [T] e pos) (qZ c g):=by
 intro p s b H D I h;calc wpAny_Assign_stores (thn (f p s b H _ I h) λv o ⟨x,u,z,r1,Q⟩=>?_) hs hw;rw[j];exact thn (y p o b u x v _ z r1 Q) λ_ B q=>q
def CH{i:Nat}{x:Str}{e:Expr}{T:TE}{p:Pos}(hN:X.N.Nodup)(c:X.N[i]?=aD x)(u:Loc X.env.scope x)(o:PE X e T)(hs:ZaS e (aD (.Name x p)) pos.line X.env=pure a9:=by rfl)(z:X.fn x=a8\/X.env.scope.names.lookup x=aD .local:=by first |exact .inl rfl |exact .inr rfl |assumption) :
  PS X (.Assign [.Name x p] e pos) (qZ T (iV i)):=by
 intro b s B H D I h;calc wpAny_Assign_Name (thn (o b s B H _ I h) λv C ⟨y,f,g,r1,q⟩=>?_) hs;exact cm g hN c u r1 (λE j=>⟨_,f,j,q⟩) z
abbrev Ro(i j:Nat)(T:TA):TS:=λD b H=>T b H λc h=>∃v w,c=[v,w]/\D.nx ((b.set i (aD v)).set j (aD w)) h
def Mi{i j:Nat}{x y:Str}{a b:Expr}{U:TA}{L J pt:Pos}{E C f}(hc:X.calm=a8)(hN:X.N.Nodup)(hi:X.N[i]?=aD x)(hj:X.N[j]?=aD y)(M:i≠j)
  (hx:X.env.scope.names.lookup x=aD .local) (T:X.env.scope.names.lookup y=aD .local) (ha:PA X [a,b] U)
  (hw:ZaR [.Tuple [.Name x L,.Name y J] E pt] (.Tuple [a,b] C f) X.env=pure (aD [x,y]))
  (hs:ZaT [.Tuple [.Name x L,.Name y J] E pt] (.Tuple [a,b] C f) pos.line X.env=pure a9:=by rfl) :
  PS X (.Assign [.Tuple [.Name x L,.Name y J] E pt] (.Tuple [a,b] C f) pos) (Ro i j U):=by
 intro c s σ H D I h;rw[exec_Assign_arm];calc Za4 (Zbu ?_);rw[hs];calc Za4 (Zbn ?_);rw[if_neg (by decide)];calc Za4 (Tuple_ (thn (ha _ c s σ H _ I h) λus z ⟨vs,Y,I1,r1,Q⟩=>?_));let{v,w,e1,Q}:=Q;subst e1
 obtain⟨u,u2,rfl,rv,B⟩:∃u u2,us=[u,u2]/\aJ v u/\aJ w u2:=by
  cases r1 with
  |cons p q=>
   cases q with
   |cons p' q'=>
    cases q';exact⟨_,_,rfl,p,p'⟩
 calc Zbl ?_ (by show 2<=sizeLine;decide);let I2:Inv X c σ Y {z with heap:=z.heap.push {cls:=.type "tuple",data:=.seq [u,u2].toArray}}:=I1.kept (t':=z.toks) λb o e=>Zk _ e;rw[hw];calc Za4 (Zbn ?_);show wpAny (model X.prog X.w) X.A (do rule "assign.swapped-stores"; let g <-Za0 (.ref z.heap.objs.size) 2 aT;Zag [λv=>Zal X.env y v,λv=>Zal X.env x v] g.reverse;pure Flow.next) _ _ _;calc Za4 (Zbt (Za4 (unpackItems_tuple (items:=#[u,u2]) (I.ok.hd hc) (IsTup.new z.heap _) λh' O=>?_)));let I3:=I2.kept (h':=h') (t':=z.toks) λb o e=>O b o (ZI (Zv e)) e;show wpAny _ _ (Zag [λv=>Zal X.env y v,λv=>Zal X.env x v] [u2,u] >>= λ_=>pure Flow.next) _ _ _;calc Za4 (assignInOrder_cons (Za5 (cm I3 hN hj (.inl T) B (λs2 I4=>?_) (.inr T))));calc assignInOrder_cons (Za5 (cm I4 hN hi (.inl hx) rv (λs3 Z=>assignInOrder_nil (Zbn ?_)) (.inr hx)));rw[Xi _ _ (Ne.symm M)]at Z;exact⟨_,Y,Z,Q⟩
abbrev Rp(i:Nat)(T:TE)(c:TIp):TS:=λD b H=>∃x,b[i]?=aD (aD x)/\T b H λy h=>c x y h λz f=>D.nx (b.set i (aD z)) f
def Mj{i:Nat}{x:Str}{e:Expr}{T:TE}{op:VQ}{C:TIp}{f:Pos}(hN:X.N.Nodup)(q:X.N[i]?=aD x)(o:Loc X.env.scope x)(he:PE X e T)(Z:PIp X op C)(hf:X.fn x=a8\/X.env.scope.names.lookup x=aD .local:=by first |exact .inl rfl |exact .inr rfl |assumption) :
  PS X (.AugAssign (.Name x f) op e pos) (Rp i T C):=by
 intro p s B H D I h;let{v,e1,h}:=h;let{m,Y,Q}:=I.loc;let vis:Vis X.env.scope x:=by rcases o with k |k;exact .inl k;exact .inr (.inl k)
 let{u,r,l}:=Q i x v q e1 vis;refine wpAny_AugAssign_Name ?_
 let go:wpAny (model X.prog X.w) X.A (eval e X.env) (λw j=>wpAny (model X.prog X.w) X.A (ZaA op u w) (λr g=>wpAny (model X.prog X.w) X.A (storeName X.env x r) (λ_=>SP X p D .next) X.xe g) X.xe j) X.xe s:=by
  calc thn (he p s B H _ I h) λw s1 ⟨y,L,O,r1,q1⟩=>?_;calc thn (Z p s1 B L v y u w _ O r r1 q1) λz s2 ⟨zv,H2,U,r2,q2⟩=>?_;exact cm U hN q o r2 (λs3 M=>⟨_,H2,M,q2⟩) hf
 rcases l with ⟨hk,E⟩ |⟨hk,c,J,b⟩
 .exact Zbf I.ok.kind hk Y E go
 .rcases hk with hk |hk
  .exact wpAny_loadName_cell I.ok.kind hk J b go
  .rcases o with k |k
   .let:X.env.scope.names.lookup x=aD .free:=hk;rw[k]at this;cases this
   .let:X.env.scope.names.lookup x=aD .free:=hk;rw[k]at this;cases this
end
structure It where
 go:Nat->Hp->Prop
 yld:Nat->Hp->V->Hp->Prop
 stop:Nat->Hp->Prop
abbrev iQ(X:Cx)(f:List (Addr×Obj))(H:Hp)(b:Addr):Prop:=
 H b=aT/\b≠X.env.locals/\b∉X.fs/\(b∈X.ex\/X.s₀.heap.objs.size<=b)/\(∀x c,X.env.cells.lookup x=aD c->c≠b)/\∀p∈X.pn++f,p.1≠b
def Inv.fpOk(I:Inv X f u H s)(h:s⁻¹<=b)(g:j b=aT):iQ X f j b:=by
 refine{g,X8 (ZB I.lt h),I.nofs h,.inr (Zy I.sz h),λx c e z=>?_,λp o z=>?_}
 .let{v,q}:=I.cell x c e;exact absurd (ZB q.lt (by rw[z];exact h)) (ZS _)
 .exact absurd (ZB (Zv (I.pin p o).1) (by rw[z];exact h)) (ZS _)
structure Turn(P:Program)(w:World)(K:V6)(tg:Expr)(J:It)(fp:List Addr)(it:Addr)(tn:Nat->Heap->Prop):Prop where
 mem:it∈fp
 obj:∀i h,tn i h->∀b∈fp,∃o,h.get? b=aD o/\∀v,o.data≠.cell v
 keep:∀i h h',tn i h->(∀b∈fp,∀o,h.get? b=aD o->h'.get? b=aD o)->tn i h'
 item:∀ (X:Cx),X.prog=P->X.w=w->X.K=K->X.calm=a8->∀ (i:Nat) (pins:List (Addr×Obj)) (s:Shared) (σ:St) (H:Hp) (E:Value->Shared->Prop),Inv X pins σ H s->(∀b∈fp,iQ X pins H b)->tn i s.heap->J.go i H ->
  wpAny (model P w) X.A (pyNext (.ref it)) (λr s1=>∃u,r=aD u ∧
   wpAny (model P w) X.A (ZaD tg (.ref it) u) (λ_ s2=>∃x H',Inv X pins σ H' s2/\aJ x u/\J.yld i H x H'/\tn (i+1) s2.heap/\∀b∈fp,H' b=aT) E s1) E s
 done:∀ (X:Cx),X.prog=P->X.w=w->X.K=K->X.calm=a8->∀ (i:Nat) (pins:List (Addr×Obj)) (s:Shared) (σ:St) (H:Hp) (E:Value->Shared->Prop),Inv X pins σ H s->(∀b∈fp,iQ X pins H b)->tn i s.heap->J.stop i H ->
  wpAny (model P w) X.A (pyNext (.ref it)) (λr s1=>r=aT/\Inv X pins σ H s1) E s
 self:∀ (A:Around) (i:Nat) (s:Shared) (Q:Value->Shared->Prop) (E:Value->Shared->Prop),tn i s.heap->Q (.ref it) s->wpAny (model P w) A (pyIter (.ref it)) Q E s
@[inline]abbrev TI:=St->Hp->(It->Hp->Prop)->Prop
abbrev PIE(X:Cx)(p:List (Addr×Obj))(j:St)(h:Expr)(R:It->Hp->Prop)(I:Value)(c:Shared):Prop:=
 ∃ (f:Addr) (g:List Addr) (T:Nat->Heap->Prop) (J:It) (H:Hp),I = .ref f/\Inv X p j H c/\Turn X.prog X.w X.K h J g f T/\T 0 c.heap/\(∀b∈g,iQ X p H b)/\R J H
abbrev PI(X:Cx)(T I:Expr)(f:TI):Prop:=
 ∀ (p:List (Addr×Obj)) (s:Shared) (b:St) (H:Hp) (R:It->Hp->Prop),Inv X p b H s->f b H R ->
  wpAny (model X.prog X.w) X.A (eval I X.env) (λv c=>wpAny (model X.prog X.w) X.A (pyIter v) (PIE X p b T R) X.xe c) X.xe s
def yV(c:s.heap.get? I=aD o)(hc:o.cls = .type n)(hd:o.data = .fields v)
  (b:["enumerate","zip","dict_itemiterator","dict_reverseitemiterator","odict_iterator","itertools.zip_longest","itertools.pairwise"].contains n=a9) (H:Q () s):wpAny M A (ZaD T (.ref I) u) Q E s:=by
 delta ZaD
 cases T <;> first
  |exact Zbn H
  | (cases u <;> first
    |exact Zbn H
    | (refine Za4 (wpAny_load c ?_)
       rw[hc,hd];show wpAny M A (if (["enumerate","zip","dict_itemiterator","dict_reverseitemiterator","odict_iterator","itertools.zip_longest","itertools.pairwise"].contains n && v[0]? == aD (rawInt _))=a8 then _ else _) Q E s;rw[if_neg (by intro h;rw[b,ZP]at h;cases h)];exact Zbn H))
abbrev Itl(K:V6)(a:Addr):It:=
 {λi H=>∃xs x,SqL K H a xs/\xs[i]?=aD x,λi H x h=>h=H/\∀xs,SqL K H a xs->xs[i]?=aD x,λi H=>∃xs,SqL K H a xs/\xs.length<=i}
abbrev Itt(K:V6)(a:Addr):It:=
 {λi H=>∃xs x,SqT K H a xs/\xs[i]?=aD x,λi H x h=>h=H/\∀xs,SqT K H a xs->xs[i]?=aD x,λi H=>∃xs,SqT K H a xs/\xs.length<=i}
abbrev Itr(lo:Int)(n:Nat):It:={λi _=>i < n,λi H x h=>h=H/\x = .int (lo+i),λi _=>n<=i}
def AM{P:Program}{w:World}{K:V6}{tg:Expr}(a it:Addr):Turn P w K tg (Itl K a) [it] it (λi h=>h.IsListIter it a i) where
 mem:=by simp
 obj:=λi h st b g=>by
  let e:b=it:=by simpa using g
  subst e;let{o,e,c,d}:=st;exact{o,e,λv z=>by rw[d]at z;cases z}
 keep:=λi h q st k=>st.at λo e=>k it (by simp) o e
 item:=by
  intro X J Y M hc i f s σ H E I B st O;subst J Y M;let{xs,x,y,Z}:=O;let{U,Q,p,hz}:=I.list y;let{u,hu,ru}:=Q.get Z;let{f0,T,f2,C,f4,L}:=B it (by simp);calc wpAny_pyNext_list_item st p.isList (x:=u) (by simpa using hu) λq j sb=>?_;let I1:Inv X f σ H {s with heap:=q}:=I.turned (t':=s.toks) (λb o g e=>(sb.2 b g).trans e) f0 T C f4 L;let{o,e,c,d}:=id j;exact{u,rfl,yV (s:={s with heap:=q}) e c d (by decide) {x,H,I1,ru,{rfl,λys hy=>by rw[I.list_inj hy y];exact Z},j,λb g=>(B b g).1}}
 done:=by
  intro X J Y M hc i f s σ H E I B st O;subst J Y M;let{xs,y,Z}:=O;let{U,Q,p,hz}:=I.list y;let{f0,T,f2,C,f4,L}:=B it (by simp);let hl:=Q.length;exact wpAny_pyNext_list_end (I.ok.hd hc) st p.isList (by simp;lia) λq eb=>{rfl,I.turned (t':=s.toks) (λb o g e=>eb b o g e) f0 T C f4 L}
 self:=λ_ _ _ _ _ st h=>wpAny_pyIter_listiter st h
def wd{P:Program}{w:World}{K:V6}{tg:Expr}(a it:Addr):Turn P w K tg (Itt K a) [it] it (λi h=>h.IsTupleIter it a i) where
 mem:=by simp
 obj:=λi h st b g=>by
  let e:b=it:=by simpa using g
  subst e;let{o,e,c,d}:=st;exact{o,e,λv z=>by rw[d]at z;cases z}
 keep:=λi h y st k=>st.at λo e=>k it (by simp) o e
 item:=by
  intro X L Y O hc i f s σ H E I C st Q;subst L Y O;let{xs,x,B,Z}:=Q;let{j,T,p,hz}:=I.tuple B;let{u,hu,ru}:=T.get Z;let{f0,U,f2,J,f4,M}:=C it (by simp);calc wpAny_pyNext_tuple_item st (show s.heap.IsTuple a j.toArray from p) (x:=u) (by simpa using hu) λy q sb=>?_;let I1:Inv X f σ H {s with heap:=y}:=I.turned (t':=s.toks) (λb o g e=>(sb.2 b g).trans e) f0 U J f4 M;let{o,e,c,d}:=id q;exact{u,rfl,yV (s:={s with heap:=y}) e c d (by decide) {x,H,I1,ru,{rfl,λys hy=>by rw[I.tuple_inj hy B];exact Z},q,λb g=>(C b g).1}}
 done:=by
  intro X L Y O hc i f s σ H E I C st Q;subst L Y O;let{xs,B,Z}:=Q;let{j,T,p,hz}:=I.tuple B;let{f0,U,f2,J,f4,M}:=C it (by simp);let hl:=T.length;exact wpAny_pyNext_tuple_end (I.ok.hd hc) st (show s.heap.IsTuple a j.toArray from p) (by simp;lia) λy eb=>{rfl,I.turned (t':=s.toks) (λb o g e=>eb b o g e) f0 U J f4 M}
 self:=λ_ _ _ _ _ st h=>wpAny_pyIter_tupleiter st h
def wg{P:Program}{w:World}{K:V6}{Y:Expr}(it:Addr)(lo:Int)(n:Nat):Turn P w K Y (Itr lo n) [it] it (λi h=>IsRangeIter h it (lo+(i:Nat) * 1) ((n:Int) - (i:Nat)) 1) where
 mem:=by simp
 obj:=λi h st b c=>by
  let e:b=it:=by simpa using c
  subst e
  exact⟨_,st,λv z=>by
   let Z:Data.fields _=Data.cell v:=z;cases Z⟩
 keep:=λi h g st k=>k it (by simp) _ st
 item:=by
  intro X y M B C i p s U H E I j st J;subst y M B;let{O,L,f2,q,Q,u}:=j it (by simp);let W:=Walks.range (prog:=X.prog) (w:=X.w) (I.ok.hd C) it lo 1 n;calc W.item i s _ _ J st λv g T hv f kk=>?_;let{t,rfl}:=hv;let I1:Inv X p U H {s with heap:=g,toks:=T}:=I.turned (λb o c e=>kk b o (by simpa using c) e) O L q Q u;calc{_,rfl,yV (s:={s with heap:=g,toks:=T}) (n := "range_iterator") f rfl rfl (by decide) {.int (lo+i),H,I1,{t,?_},⟨rfl,rfl⟩,f,λb c=>(j b c).1}};rw[Int.mul_one]
 done:=by
  intro X y M B C i p s U H E I j st J;subst y M B;let{O,L,f2,q,Q,u}:=j it (by simp);exact wpAny_pyNext_range_end (I.ok.hd C) st (by let:n<=i:=J;lia) λg eb=>{rfl,I.turned (t':=s.toks) (λb o c e=>eb b o c e) O L q Q u}
 self:=λ_ _ _ _ _ st h=>wpAny_pyIter_rangeiter st h
section
variable {X:Cx} {c:Expr}
abbrev CJ(K:V6)(T:TE):TI:=λb H R=>T b H λx h=>∃a,x = .ref a/\(∃xs,SqL K h a xs)/\R (Itl K a) h
abbrev Ml(K:V6)(T:TE):TI:=λb H R=>T b H λx h=>∃a,x = .ref a/\(∃xs,SqT K h a xs)/\R (Itt K a) h
def yW{l:Expr}{T:TE}(hl:PE X l T):PI X c l (CJ X.K T):=by
 intro f s C H R I h;calc thn (hl f s C H _ I h) λv j ⟨x,u,g,r1,Q⟩=>?_;let{a,e,⟨xs,B⟩,q}:=Q;subst e;cases r1;let{z,E,p,J}:=g.list B;calc Zbp p.isList ?_;calc{j.heap.objs.size,[j.heap.objs.size],_,_,u,rfl,g.kept (t':=j.toks) λb o e=>Zk _ e,AM a _,{_,ZJ _ rfl,rfl,rfl},λb y=>?_,q};let e:b=j.heap.objs.size:=by simpa using y
 subst e;exact g.fpOk (Zc _) (g.hok.fresh (Zc _))
def CK{l:Expr}{T:TE}(hl:PE X l T):PI X c l (Ml X.K T):=by
 intro f s C H R I h;calc thn (hl f s C H _ I h) λv g ⟨x,y,j,r1,Q⟩=>?_;let{a,e,⟨xs,B⟩,q}:=Q;subst e;cases r1;let{u,E,p,J}:=j.tuple B;calc Zbq (show g.heap.IsTuple a u.toArray from p) ?_;calc{g.heap.objs.size,[g.heap.objs.size],_,_,y,rfl,j.kept (t':=g.toks) λb o e=>Zk _ e,wd a _,{_,ZJ _ rfl,rfl,rfl},λb z=>?_,q};let e:b=g.heap.objs.size:=by simpa using z
 subst e;exact j.fpOk (Zc _) (j.hok.fresh (Zc _))
def tY{lo h:Int}{T:Nat}(I:Inv X p g H s)(j:-(2 ^ 62)<=lo)(y:lo < 2 ^ 62)(J:-(2 ^ 62)<=h)(C:h < 2 ^ 62)
  (q:R (Itr lo (h - lo).toNat) H):wpAny (model X.prog X.w) X.A (pyIter (.ref s⁻¹)) (PIE X p g c R) E {s with heap:=s.heap.push {cls:=.type "range",data:=.fields #[.int lo t,.int h u,.int 1 v]},toks:=T}:=by
 calc wpAny_pyIter_range (IsRange.new ..) (small_one j y J C) ?_;let f:Inv X p g H {s with heap:=s.heap.push {cls:=.type "range",data:=.fields #[.int lo t,.int h u,.int 1 v]},toks:=T}:=I.kept λb o e=>Zk _ e
 refine⟨(s.heap.push {cls:=.type "range",data:=.fields #[.int lo t,.int h u,.int 1 v]}).objs.size,[(s.heap.push {cls:=.type "range",data:=.fields #[.int lo t,.int h u,.int 1 v]}).objs.size],_,_,H,rfl,
  f.kept (t':=T) λb o e=>Zk _ e,wg _ lo (h - lo).toNat,?_,λb z=>?_,q⟩
 .let B:lo+((0:Nat):Int) * 1=lo:=by simp
  let L:(((h - lo).toNat:Nat):Int) - ((0:Nat):Int)=Builtin.Range.rangeSize lo h 1:=by rw[rangeSize_one];split <;> lia
  show IsRangeIter _ _ (lo+((0:Nat):Int) * 1) ((((h - lo).toNat:Nat):Int) - ((0:Nat):Int)) 1;rw[B,L];exact ZJ _ rfl
 .let e:b=(s.heap.push {cls:=.type "range",data:=.fields #[.int lo t,.int h u,.int 1 v]}).objs.size:=by simpa using z
  subst e;exact f.fpOk (Zc _) (f.hok.fresh (Zc _))
abbrev KZ(T:TA):TI:=λb H R=>T b H λv h=>∃j:Int,v=[.int j]/\-(2 ^ 62)<=j/\j < 2 ^ 62/\R (Itr 0 j.toNat) h
abbrev K0(T:TA):TI:=λb H R=>T b H λv h=>∃i j:Int,v=[.int i,.int j]/\(-(2 ^ 62)<=i/\i < 2 ^ 62/\-(2 ^ 62)<=j/\j < 2 ^ 62)/\R (Itr i (j - i).toNat) h
def AN(o:Gl X "range")(g:X.mg "range" = aT)(f:PA X [a] T)(hs:ZaQ [a] X.env=[(a9,eval a X.env)]:=by rfl):PI X c (.Call (.Name "range" p) [a] [] pos) (KZ T):=by
 intro b s y H R I h;calc Call_ (i8 I o g boot_range (WT (thn (f pos b s y H _ I h) λU C ⟨E,B,u,r1,Q⟩=>?_) hs rfl));let{j,e,Q,v,q}:=Q;subst e;cases r1 with
 |cons r z=>
  cases z;let{t,rfl}:=r;exact call_range_1 (tY u (by lia) (by lia) Q v (by simpa using q))
def AO(z:Gl X "range")(v:X.mg "range" = aT)(u:PA X [a,b] T)(hs:ZaQ [a,b] X.env=[(a9,eval a X.env),(a9,eval b X.env)]:=by rfl)(g:ZaQ [b] X.env=[(a9,eval b X.env)]:=by rfl) :
  PI X c (.Call (.Name "range" p) [a,b] [] pos) (K0 T):=by
 intro f s L H R I h;calc Call_ (i8 I z v boot_range (WT (thn (u pos f s L H _ I h) λZ U ⟨Y,M,B,r1,Q⟩=>?_) (by rw[hs,g]) (by rw[g];rfl)));let{i,j,e,⟨Q,E,y,C⟩,q}:=Q;subst e;cases r1 with
 |cons r o=>
  cases o with
  |cons J o=>
   cases o;let{t,rfl}:=r;let{O,rfl}:=J;exact call_range_2 (tY B Q E y C q)
abbrev Rq(p:TI)(g:TG)(T:TS):TS:=λD b H=>p b H λJ o=>∃W:Nat->Nat->St->Hp->Prop,(∃m,W 0 m b o)/\∀i m b H,W i m b H ->
 (J.stop i H/\D.nx b H)\/(J.go i H/\∃N:St->Hp->Prop,(∀f h,N f h->∃M,M < m/\W (i+1) M f h)/\∀x h,J.yld i H x h->g x b h λj q=>T {D with nx:=N,ct:=N,bk:=D.nx} j q)
abbrev mZ(f:List Addr)(h:Heap):List (Addr×Obj):=f.filterMap λb=>(h.get? b).map λo=>(b,o)
def fM(H:b∈f)(e:h.get? b=aD o):(b,o)∈mZ f h:=YJ.mpr {b,H,by rw[e];rfl}
def AQ(g:p∈mZ f h):p.1∈f/\h.get? p.1=aD p.2:=by
 let{b,H,e}:=YJ.mp g;cases q:h.get? b with
 |none=>rw[q]at e;cases e
 |some o=>
  rw[q]at e;let E:(b,o)=p:=θ e;subst E;exact⟨H,q⟩
def Inv.pinned(I:Inv X f y H s)(B:∀b∈g,iQ X f H b)(j:∀b∈g,∃o,s.heap.get? b=aD o/\∀v,o.data≠.cell v):Inv X (f++mZ g s.heap) y H s:=
 I.pins_of λp J=>(ZC.mp J).elim (λz=>I.pin p (ZE _ z)) λz=>by
  let{h,e}:=AQ z;let{q,u,C,_}:=B p.1 h;let{o,E,d}:=j p.1 h;rw[e]at E;cases E;exact⟨e,q,u,C,d⟩
def Inv.unpinned(I:Inv X (b++pl) f H s):Inv X b f H s:=I.pins_of λp h=>I.pin p (ZE _ (ZV _ h))
def Mm(Y:PassesOwn (model X.prog X.w) X.A X.env X.xe)(hc:X.calm=a8)(hi:PI X c L wi)(hg:PG X c g)(y:PSs X body tb)
  (hs:∀x,Zay L X.env x=pure x:=by intro _;rfl):PS X (.For c L body [] pos) (Rq wi g tb):=by
 intro p s σ H D I h;calc wpAny_For (thn (hi p s σ H _ I h) λv s1 h1=>thn h1 λitv s2 h2=>?_) hs;let{it,Z,tn,J,H2,e,I2,T,st2,f2,W,⟨m0,w0⟩,U}:=h2;subst e;let q:∀ {H':Hp},(∀b∈Z,H' b=aT)->∀b∈Z,iQ X p H' b:=λhn b y=>{hn b y,(f2 b y).2};calc codeAny_forLoop_any (λn s'=>∃i z H',Inv X p z H' s'/\tn i s'.heap/\(∀b∈Z,H' b=aT)/\W i n z H') ?_ m0 {0,σ,H2,I2,st2,λb y=>(f2 b y).1,w0};rintro n s3 ⟨i,B,H3,I3,st3,O,w3⟩;rcases U i n B H3 w3 with ⟨stop,qn⟩ |⟨go,N,hN,step⟩
 .calc Zbm Y (thn (T.done X rfl rfl rfl hc i p s3 B H3 X.xe I3 (q O) st3 stop) λr s4 ⟨hr,I4⟩=>?_);subst hr;exact Zba ⟨B,H3,I4,qn⟩
 .calc Zbm Y (thn (T.item X rfl rfl rfl hc i p s3 B H3 X.xe I3 (q O) st3 go) λr s4 ⟨u,hr,h4⟩=>?_);subst hr;calc Zbm Y (thn h4 λ_ s5 ⟨x,H5,I5,r5,y5,M,fr5⟩=>?_);let I5':=I5.pinned (q fr5) (T.obj _ _ M);calc Zbm Y (thn (hg _ s5 B H5 x u _ I5' r5 (step x H5 y5)) λ_ s6 ⟨σ6,H6,I6,q6⟩=>?_);refine Zbm Y (thn (y _ s6 σ6 H6 _ I6 q6) λf s7 Q=>?_)
  let again:∀ {j:St} {C:Hp},Inv X (p++mZ Z s5.heap) j C s7->N j C->∃m,m < n/\∃i z H',Inv X p z H' s7/\tn i s7.heap/\(∀b∈Z,H' b=aT)/\W i m z H':=λ{j C} E n7=>by
   let{m',hm,w7}:=hN j C n7;calc{m',hm,i+1,j,C,E.unpinned,T.keep _ _ _ M λb y o e=>(E.pin (b,o) (ZE _ (ZE _ (fM y e)))).1,λb y=>?_,w7};let{o,e,d}:=T.obj _ _ M b y;exact(E.pin (b,o) (ZE _ (ZE _ (fM y e)))).2.1
  cases f with
  |next=>let{j,C,E,n7}:=Q;exact again E n7
  |cont=>let{j,C,E,n7}:=Q;exact again E n7
  |brk=>let{j,C,E,Q}:=Q;exact⟨j,C,E.unpinned,Q⟩
  |ret v=>let{x7,j,C,E,r7,Q}:=Q;exact⟨x7,j,C,E.unpinned,r7,Q⟩
end
@[inline]abbrev R2:=V->V->Hp->VK->Prop
abbrev OpR(X:Cx)(f:Value->Value->Sem Value)(r:R2):Prop:=
 ∀ (p:List (Addr×Obj)) (s:Shared) (b:St) (H:Hp) (x y:V) (v u:Value) (Q:VK),Inv X p b H s->aJ x v->aJ y u->r x y H Q ->
  wpAny (model X.prog X.w) X.A (f v u) (EP X p b Q) X.xe s
abbrev UnR(X:Cx)(f:Value->Sem Value)(r:V->Hp->VK->Prop):Prop:=
 ∀ (p:List (Addr×Obj)) (s:Shared) (b:St) (H:Hp) (x:V) (v:Value) (Q:VK),Inv X p b H s->aJ x v->r x H Q ->
  wpAny (model X.prog X.w) X.A (f v) (EP X p b Q) X.xe s
abbrev bc(X:Cx)(f:Value)(r:List V->Hp->VK->Prop):Prop:=
 ∀ (p:List (Addr×Obj)) (s:Shared) (b:St) (H:Hp) (xs:List V) (u:List Value) (Q:VK),Inv X p b H s->aP xs u->r xs H Q ->
  wpAny (model X.prog X.w) X.A (call f u) (EP X p b Q) X.xe s
abbrev UR(X:Cx)(r:V->Hp->(Bool->Hp->Prop)->Prop):Prop:=
 ∀ (p:List (Addr×Obj)) (s:Shared) (b:St) (H:Hp) (x:V) (v:Value) (Q:Bool->Hp->Prop),Inv X p b H s->aJ x v->r x H Q ->
  wpAny (model X.prog X.w) X.A (truthy v) (TP X p b Q) X.xe s
abbrev tOp(r:R2)(T c:TE):TE:=λb H Q=>T b H λx h=>c b h λy f=>r x y f Q
abbrev tUn(r:V->Hp->VK->Prop)(T:TE):TE:=λb H Q=>T b H λx h=>r x h Q
abbrev rI(C:Int->Int->Prop)(g:Int->Int->V):R2:=λx y H Q=>∃i j,x = .int i/\y = .int j/\C i j/\Q (g i j) H
abbrev rI0(g:Int->Int->V):R2:=λx y H Q=>∃i j,x = .int i/\y = .int j/\Q (g i j) H
abbrev rU(g:Int->V):V->Hp->VK->Prop:=λx H Q=>∃i,x = .int i/\Q (g i) H
section
variable {X:Cx} {a b c:Expr} {T d e:TE} {pos:Pos}
def Mn(C:PE X a T)(E:PE X b d){p:List (Addr×Obj)}{s:Shared}{g:St}{H:Hp}{R:V->V->Hp->Prop}(I:Inv X p g H s)
  (h:T g H λx B=>d g B λy j=>R x y j) {Q:Value->Shared->Prop} {f:Value->Value->Sem Value}
  (Y:∀v u z x y j,Inv X p g j z->aJ x v->aJ y u->R x y j->wpAny (model X.prog X.w) X.A (f v u) Q X.xe z) :
  wpAny (model X.prog X.w) X.A (eval a X.env) (λv q=>wpAny (model X.prog X.w) X.A (eval b X.env) (λu o=>wpAny (model X.prog X.w) X.A (f v u) Q X.xe o) X.xe q) X.xe s:=by
 calc thn (C p s g H _ I h) λv U ⟨x,B,J,r1,M⟩=>?_;calc thn (E p U g B _ J M) λu z ⟨y,j,L,r2,O⟩=>?_;exact Y v u z x y j L r1 r2 O
def CL{op:VQ}{r:R2}(o:OpR X (Zak op) r)(j:PE X a T)(z:PE X b d):PE X (.BinOp a op b pos) (tOp r T d):=by
 intro p s C H Q I h;exact wpAny_BinOp (Mn j z I h λv u E x y J g f B q=>o p E C J x y v u Q g f B q)
def Rr(j:UnR X (unaryOp op) r)(g:PE X a T):PE X (.UnaryOp op a pos) (tUn r T):=by
 intro p s f H Q I h;exact UnaryOp_ (thn (g p s f H _ I h) λv o ⟨x,q,y,r1,u⟩=>j p o f q x v Q y r1 u)
def opI{f:Value->Value->Sem Value}{C:Int->Int->Prop}{g:Int->Int->Int}
  (rule:∀ (i j:Int) (t u:Tok) (s:Shared) (Q:Value->Shared->Prop) (E:Value->Shared->Prop),C i j->Q (.int (g i j) s.toks) {s with toks:=s.toks+1}->wpAny (model X.prog X.w) X.A (f (.int i t) (.int j u)) Q E s) :
  OpR X f (rI C λi j=>.int (g i j)):=by
 intro p s L H x y v u Q I o J h;let{i,j,rfl,rfl,z,q}:=h;let{t,rfl}:=o;let{B,rfl}:=J;exact rule i j t B s _ _ z {.int (g i j),H,I.tok _,⟨_,rfl⟩,q}
def Rs{f:Value->Value->Sem Value}{g:Int->Int->Int}
  (rule:∀ (i j:Int) (t u:Tok) (s:Shared) (Q:Value->Shared->Prop) (E:Value->Shared->Prop),Q (.int (g i j) s.toks) {s with toks:=s.toks+1}->wpAny (model X.prog X.w) X.A (f (.int i t) (.int j u)) Q E s) :
  OpR X f (rI0 λi j=>.int (g i j)):=by
 intro p s C H x y v u Q I o B h;let{i,j,rfl,rfl,q}:=h;let{t,rfl}:=o;let{z,rfl}:=B;exact rule i j t z s _ _ {.int (g i j),H,I.tok _,⟨_,rfl⟩,q}
def G7{f:Value->Value->Sem Value}{g:Int->Int->Bool}
  (rule:∀ (i j:Int) (t u:Tok) (s:Shared) (Q:Value->Shared->Prop) (E:Value->Shared->Prop),Q (.bool (g i j)) s->wpAny (model X.prog X.w) X.A (f (.int i t) (.int j u)) Q E s) :
  OpR X f (rI0 λi j=>.bl (g i j)):=by
 intro p s C H x y v u Q I o B h;let{i,j,rfl,rfl,q}:=h;let{t,rfl}:=o;let{z,rfl}:=B;exact rule i j t z s _ _ {.bl (g i j),H,I,rfl,q}
abbrev US(i j:Int):Prop:=0<=j/\j<=1000000/\i.natAbs < 2 ^ 64
abbrev Rt(i j:Int):Prop:=(-(2 ^ 64) < i/\i < 2 ^ 64)\/(-(2 ^ 64) < j/\j < 2 ^ 64)
def Rt.ok{i j:Int}(h:Rt i j):IntMulOk i j:=by
 rcases h with ⟨f,H⟩ |⟨f,H⟩
 .exact .of_left (intBits_le_64 f H)
 .exact .of_right (intBits_le_64 f H)
def Mo:OpR X (Zak .Add) (rI0 λi j=>.int (i+j)):=Rs λ_ _ _ _ _ _ _ q=>add_int q
def Mq:OpR X (Zak .Sub) (rI0 λi j=>.int (i - j)):=Rs λ_ _ _ _ _ _ _ q=>sub_int q
def Mr:OpR X (Zak .Mult) (rI Rt λi j=>.int (i * j)):=opI λ_ _ _ _ _ _ _ h q=>mul_int q h.ok
def Mu:OpR X (Zak .Mod) (rI (λ_ j=>0 < j) λi j=>.int (i % j)):=opI λi j _ _ _ _ _ h q=>by
 let H:(0:Int) < j:=h;exact mod_int' (by lia) (by rw[Int.fmod_eq_emod_of_nonneg i (by lia)];exact q)
def Mv:OpR X (Zak .Pow) (rI US λi j=>.int (i ^ j.toNat)):=opI λ_ _ _ _ _ _ _ h q=>pow_int_small h.1 h.2.1 h.2.2 q
def unI{f:Value->Sem Value}{g:Int->Int}
  (rule:∀ (i:Int) (t:Tok) (s:Shared) (Q:Value->Shared->Prop) (E:Value->Shared->Prop),Q (.int (g i) s.toks) {s with toks:=s.toks+1}->wpAny (model X.prog X.w) X.A (f (.int i t)) Q E s) :
  UnR X f (rU λi=>.int (g i)):=by
 intro p s o H x v Q I j h;let{i,rfl,q}:=h;let{t,rfl}:=j;exact rule i t s _ _ {.int (g i),H,I.tok _,⟨_,rfl⟩,q}
def Mw:UnR X (unaryOp .USub) (rU λi=>.int (-i)):=unI λ_ _ _ _ _ q=>neg_int q
end
abbrev UT:V->V->Bool
 |.non,.non=>a8 |.non,.int _=>a8 |.int _,.non=>a8 |.non,.bl _=>a8 |.bl _,.non=>a8 |.non,.str _=>a8 |.str _,.non=>a8
 |.int _,.int _=>a8 |.bl _,.bl _=>a8 |.str _,.str _=>a8 |.byt _,.byt _=>a8
 |.int _,.str _=>a8 |.str _,.int _=>a8 |.bl _,.str _=>a8 |.str _,.bl _=>a8
 |_,_=>a9
abbrev rNe:R2:=λx y H Q=>UT x y=a8/\Q (.bl (!decide (x=y))) H
def G8{i j:Int}:decide (V.int i=V.int j)=(i == j):=by
 rw[Z1];simp
def Mx:decide (V.bl i=V.bl j)=(i == j):=by
 rw[Z1];simp
def G9:decide (V.str i=V.str j)=(i == j):=by
 rw[Z1];simp
def Ha:decide (V.byt i=V.byt j)=(i.toList == j.toList):=by
 rw[Z1];cases i;cases j;simp
section
variable {X:Cx} {a b c:Expr} {T f g:TE} {pos:Pos}
def bJ(I:Inv X p h H s)(q:Q (.bl k) H)(e:k=j):EP X p h Q (.bool j) s:=by
 subst e;exact{.bl k,H,I,rfl,q}
def Ru:OpR X (Zau .NotEq) rNe:=by
 intro B s C H x y v u Q I z o h;let{hs,q}:=h;cases x with
 |non=>
  cases z;cases y with
  |non=>cases o;exact PySem.EqNone.ne_none_none (bJ I q (by simp))
  |bl j=>cases o;exact PySem.EqNone.ne_none_bool (bJ I q (by simp))
  |int j=>let{p,rfl}:=o;exact PySem.EqNone.ne_none_int (bJ I q (by simp))
  |str j=>let{p,rfl}:=o;exact PySem.EqNone.ne_none_str (bJ I q (by simp))
  |_=>exact absurd (show a9=a8 from hs) Ze
 |bl i=>
  cases z;cases y with
  |non=>cases o;exact PySem.EqNone.ne_bool_none (bJ I q (by simp))
  |bl j=>cases o;exact ne_bool (bJ I q (congrArg not Mx))
  |str j=>let{p,rfl}:=o;exact PySem.EqMixed.ne_bool_str (bJ I q (by simp))
  |_=>exact absurd (show a9=a8 from hs) Ze
 |int i=>
  let{t,rfl}:=z;cases y with
  |non=>cases o;exact PySem.EqNone.ne_int_none (bJ I q (by simp))
  |int j=>let{p,rfl}:=o;exact ne_int (bJ I q (congrArg not G8))
  |str j=>let{p,rfl}:=o;exact PySem.EqMixed.ne_int_str (bJ I q (by simp))
  |_=>exact absurd (show a9=a8 from hs) Ze
 |str i=>
  let{t,rfl}:=z;cases y with
  |non=>cases o;exact PySem.EqNone.ne_str_none (bJ I q (by simp))
  |bl j=>cases o;exact PySem.EqMixed.ne_str_bool (bJ I q (by simp))
  |int j=>let{p,rfl}:=o;exact PySem.EqMixed.ne_str_int (bJ I q (by simp))
  |str j=>let{p,rfl}:=o;exact ne_str (bJ I q (congrArg not G9))
  |_=>exact absurd (show a9=a8 from hs) Ze
 |byt i=>
  let{t,rfl}:=z;cases y with
  |byt j=>let{p,rfl}:=o;exact PySem.W.ne_bytes (bJ I q (congrArg not Ha))
  |_=>exact absurd (show a9=a8 from hs) Ze
 |_=>cases y <;> exact absurd (show a9=a8 from hs) Ze
def Rv:OpR X (Zau .Lt) (rI0 λi j=>.bl (decide (i < j))):=G7 λ_ _ _ _ _ _ _ q=>lt_int q
def Rx:OpR X (Zau .LtE) (rI0 λi j=>.bl (decide (i<=j))):=G7 λ_ _ _ _ _ _ _ q=>le_int q
def Ry:OpR X (Zau .Gt) (rI0 λi j=>.bl (decide (j < i))):=G7 λ_ _ _ _ _ _ _ q=>gt_int q
def Rz:OpR X (Zau .GtE) (rI0 λi j=>.bl (decide (j<=i))):=G7 λ_ _ _ _ _ _ _ q=>ge_int q
def AR:OpR X (Zau .In) (λx y H Q=>∃i j,x = .str i/\y = .str j/\Q (.bl (!(Builtin.Str.occurrences j i 0 j.length 1).isEmpty)) H):=by
 intro p s C H x y v u Q I o z h;let{i,j,rfl,rfl,q}:=h;let{t,rfl}:=o;let{B,rfl}:=z;exact in_str (bJ I q rfl)
def My:OpR X (Zau .Is) (λx y H Q=>y = .non/\Q (.bl (decide (x = .non))) H):=by
 intro p s z H x y v u Q I j o h;let{rfl,q}:=h;cases o;refine is_none_gen (bJ I q ?_)
 cases x <;> first
  |(cases j;rfl)
  |(let{t,rfl}:=j;rfl)
def Hb:OpR X (Zau .IsNot) (λx y H Q=>y = .non/\Q (.bl (!decide (x = .non))) H):=by
 intro p s z H x y v u Q I j o h;let{rfl,q}:=h;cases o;refine isnot_none_gen (bJ I q ?_)
 cases x <;> first
  |(cases j;rfl)
  |(let{t,rfl}:=j;rfl)
def re:OpR X (Zau .NotIn) (λx y H Q=>∃i j,x = .str i/\y = .str j/\Q (.bl (!(!(Builtin.Str.occurrences j i 0 j.length 1).isEmpty))) H):=by
 intro p s C H x y v u Q I o z h;let{i,j,rfl,rfl,q}:=h;let{t,rfl}:=o;let{B,rfl}:=z;exact notIn_str (bJ I q rfl)
def Hc{op:CmpOp}{r:R2}(J:OpR X (Zau op) r)(j:PE X a T)(B:PE X b f)(o:Zaj op b=a9):PE X (.Compare a [op] [b] pos) (tOp r T f):=by
 intro p s L H Q I h;exact wpAny_Compare1 (Mn j B I h λv u M x y O E z C q=>J p M L O x y v u Q E z C q) o
abbrev K1(t:TE):TT:=λh H Q=>t h H λx j=>∃k,x = .bl k/\Q k j
def yX(U:OpR X (Zau op) r)(o:PE X a T)(E:PE X b f)(q:Zaj op b=a9):PT X (.Compare a [op] [b] pos) (K1 (tOp r T f)):=by
 intro p s j H Q I h
 refine wpAny_isTrue_Compare1 (thn (o p s j H _ I h) λv s1 ⟨x,J,M,r1,Y⟩=>thn (E p s1 j J _ M Y) λu s2 ⟨y,H2,O,r2,q2⟩=>
  thn (U p s2 j H2 x y v u _ O r1 r2 q2) λc s3 ⟨z,B,L,Z,k,e,C⟩=>?_) q
 subst e;cases Z;exact Zbv ⟨B,L,C⟩
abbrev wk(r p:R2)(T f g:TE):TE:=λh H Q=>T h H λx q=>f h q λy v=>r x y v λz j=>∃k,z = .bl k ∧
 (if k=a8 then g h j λu o=>p y u o Q else Q (.bl a9) j)
def CM(ho:OpR X (Zau op) r)(q:OpR X (Zau o) r')(L:PE X a T)(U:PE X b f)(hc:PE X c g)
  (M:lastMarks [op,o] [b,c]=a9:=by with_unfolding_all rfl):PE X (.Compare a [op,o] [b,c] pos) (wk r r' T f g):=by
 intro p s j H Q I h
 refine Compare_chain (thn (L p s j H _ I h) λv s1 ⟨x,Y,I1,r1,q1⟩=>chain_link (thn (U p s1 j Y _ I1 q1) λu s2 ⟨y,H2,I2,r2,q2⟩=>
  thn (ho p s2 j H2 x y v u _ I2 r1 r2 q2) λd J ⟨z,B,E,r3,k,e,C⟩=>?_)) M
 subst e;cases r3;calc Zbv ?_;cases k with
 |false=>exact ite_ff {.bl a9,B,E,rfl,C}
 |true=>exact ite_tt (chain_last (thn (hc p J j B _ E C) λw' s4 ⟨Z,H4,O,r4,q4⟩=>q p s4 j H4 y Z u w' Q O r2 r4 q4))
def CN(ho:OpR X (Zau op) r)(q:OpR X (Zau o) r')(L:PE X a T)(hb:PE X b f)(hc:PE X c g)
  (M:lastMarks [op,o] [b,c]=a9:=by with_unfolding_all rfl):PT X (.Compare a [op,o] [b,c] pos) (K1 (wk r r' T f g)):=by
 intro p s j H Q I h
 refine isTrue_chain (thn (L p s j H _ I h) λv s1 ⟨x,H1,I1,r1,q1⟩=>test_link (thn (hb p s1 j H1 _ I1 q1) λu s2 ⟨y,H2,I2,r2,q2⟩=>
  thn (ho p s2 j H2 x y v u _ I2 r1 r2 q2) λd J ⟨z,B,E,r3,k,e,C⟩=>?_)) M
 subst e;cases r3;calc Zbv ?_;cases k with
 |false=>
  let{k',O,q'}:=C;cases O;exact ite_ff ⟨B,E,q'⟩
 |true=>
  calc ite_tt (test_last (thn (hc p J j B _ E C) λw' s4 ⟨Z,H4,Y,r4,q4⟩=>thn (q p s4 j H4 y Z u w' _ Y r2 r4 q4) λd' s5 ⟨z2,H5,I5,U,k2,e2,q5⟩=>?_));subst e2;cases U;exact Zbv ⟨H5,I5,q5⟩
abbrev Hd(K:V6)(x:V)(H:Hp)(k:Bool):Prop:=
 match x with
 |.non=>k=a9
 |.bl b=>k=b
 |.int i=>k=(i != 0)
 |.str y=>y.length<=sizeLine/\k=((y.length:Int) != 0)
 |.byt y=>y.size<=sizeLine/\k=((y.size:Int) != 0)
 |.ref p=>(∃xs,SqL K H p xs/\k = !xs.isEmpty)\/(∃xs,SqT K H p xs/\k = !xs.isEmpty)\/∃h,H p=aD (.dK h)/\k = !h.isEmpty
 |_=>False
def wo{j:Type}{h:List (j×V)}{v:List (j×Value)}(r:KV h v):(!v.isEmpty) = !h.isEmpty:=by
 cases r <;> rfl
def m6{xs:List V}{its:List Value}(r:aP xs its):(!its.toArray.isEmpty) = !xs.isEmpty:=by
 cases r <;> simp
def ja:(sizeLine:Nat) < 2 ^ 63:=by rw[ZaO];decide
def Mz:UR X (λx H Q=>∃k,Hd X.K x H k/\Q k H):=by
 intro C s U H x v Q I u h;let{k,e,q}:=h;let O:=ja;let hs:sizeLine=16777216:=ZaO;cases x with
 |non=>
  cases u;let E:k=a9:=e;subst E;exact truthy_none ⟨H,I,q⟩
 |bl b=>
  cases u;let E:k=b:=e;subst E;exact Zbv ⟨H,I,q⟩
 |int i=>
  let{t,rfl}:=u;let E:k=(i != 0):=e;subst E;exact PySem.P.truthy_int ⟨H,I,q⟩
 |str y=>
  let{t,rfl}:=u;obtain⟨L,E⟩:y.length<=sizeLine/\k=((y.length:Int) != 0):=e;subst E;exact PySem.P.truthy_str (by lia) {H,I.tok _,q}
 |byt y=>
  let{t,rfl}:=u;obtain⟨L,E⟩:y.size<=sizeLine/\k=((y.size:Int) != 0):=e;subst E;exact PySem.W.truthy_bytes (by lia) {H,I.tok _,q}
 |ref p=>
  cases u;let E:(∃xs,SqL X.K H p xs/\k = !xs.isEmpty)\/(∃xs,SqT X.K H p xs/\k = !xs.isEmpty)\/∃j,H p=aD (.dK j)/\k = !j.isEmpty:=e;rcases E with ⟨xs,z,E⟩ |⟨xs,z,E⟩ |⟨j,z,E⟩
  .subst E;let{B,r,pl,J}:=I.list z;let o:=r.length;exact wpAny_truthy_list pl.isList (by simp![Zj];lia) {H,I.tok _,by rw[m6 r];exact q}
  .subst E;let{B,r,pl,J}:=I.tuple z;let o:=r.length;exact truthy_tuple pl (by simp![Zj];lia) {H,I.tok _,by rw[m6 r];exact q}
  .subst E;obtain⟨J,M,vs,r,m⟩:j.length<=sizeLine/\(p == ZaU)=a9/\∃vs,KV j vs/\s.heap.DictOf (bE X.prog X.w) p vs:=I.hok p _ z;let o:j.length=vs.length:=Paired.length r;exact wpAny_truthy_dict M m (by lia) {H,I.tok _,by rw[wo r];exact q}
 |_=>exact(show False from e).elim
def CO(y:PE X a T)(u:∀j,isTrue a X.env j=(do let v <-j;standAt a.pos;holding [v] (truthy v))) :
  PT X a (λo H Q=>T o H λx q=>∃k,Hd X.K x q k/\Q k q):=by
 intro p s o H Q I h;exact isTrue_plain (thn (y p s o H _ I h) λv z ⟨x,B,E,r1,C⟩=>Mz p z o B x v Q E r1 C) (u _)
def wr:OpR X (Zak .Add) (λx y H Q=>∃i j,x = .str i/\y = .str j/\i.length+j.length<=sizeLine/\Q (.str (i++j)) H):=by
 intro p s J H x y v u Q I o C h;let{i,j,rfl,rfl,B,q}:=h;let{t,rfl}:=o;let{z,rfl}:=C;exact add_str (λz E=>{.str (i++j),H,I.tok _,⟨_,rfl⟩,q}) B
def dr(r:aP [x] U):∃u,U=[u]/\aJ x u:=by
 cases r with
 |cons r1 r2=>cases r2;exact⟨_,rfl,r1⟩
def yY(r:aP [x,y] U):∃u w',U=[u,w']/\aJ x u/\aJ y w':=by
 cases r with
 |cons r1 r2=>
  cases r2 with
  |cons j h=>cases h;exact⟨_,_,rfl,r1,j⟩
def AS(hc:X.calm=a8):bc X (.builtin "max") (λxs H Q=>∃i j,xs=[.int i,.int j]/\Q (.int (if j > i then j else i)) H):=by
 intro p s B H xs U Q I r h;let{i,j,rfl,q}:=h;let{u,C,rfl,⟨t,rfl⟩,⟨z,rfl⟩}:=yY r;calc max_two_ints (I.ok.hd hc) λv y k=>{_,H,I.kept k,?_,q};by_cases o:j > i
 .rw[if_pos o,if_pos o];exact⟨_,rfl⟩
 .rw[if_neg o,if_neg o];exact⟨_,rfl⟩
def AU(hc:X.calm=a8):bc X (.builtin "min") (λxs H Q=>∃i j,xs=[.int i,.int j]/\Q (.int (if j < i then j else i)) H):=by
 intro p s B H xs U Q I r h;let{i,j,rfl,q}:=h;let{u,C,rfl,⟨t,rfl⟩,⟨z,rfl⟩}:=yY r;calc min_two_ints (I.ok.hd hc) λv y k=>{_,H,I.kept k,?_,q};by_cases o:j < i
 .rw[if_pos o,if_pos o];exact⟨_,rfl⟩
 .rw[if_neg o,if_neg o];exact⟨_,rfl⟩
def rf:bc X (.type "str") (λxs H Q=>∃i,xs=[.int i]/\i.natAbs.log2 < 1920/\Q (.str (toString i)) H):=by
 intro p s o H xs U Q I r h;let{i,rfl,j,q}:=h;let{u,rfl,t,rfl}:=dr r;exact PySem.P.str_of_int j {.str _,H,I.tok _,⟨_,rfl⟩,q}
abbrev UU(K:V6)(x:V)(H:Hp)(n:Nat):Prop:=
 match x with
 |.str y=>y.length<=sizeLine/\n=y.length
 |.byt y=>y.size<=sizeLine/\n=y.size
 |.ref p=>(∃xs,SqL K H p xs/\n=xs.length)\/∃xs,SqT K H p xs/\n=xs.length
 |_=>False
def CP:bc X (.builtin "len") (λxs H Q=>∃x n,xs=[x]/\UU X.K x H n/\Q (.int n) H):=by
 intro C s O H xs U Q I r h;let{x,n,rfl,e,q}:=h;let{u,rfl,o}:=dr r;let M:=ja;let hs:sizeLine=16777216:=ZaO;cases x with
 |str y=>
  let{t,rfl}:=o;obtain⟨J,E⟩:y.length<=sizeLine/\n=y.length:=e;subst E;exact len_str (by lia) {.int _,H,I.tok _,⟨_,rfl⟩,q}
 |byt y=>
  let{t,rfl}:=o;obtain⟨J,E⟩:y.size<=sizeLine/\n=y.size:=e;subst E;exact PySem.W.len_bytes (by lia) {.int _,H,I.tok _,⟨_,rfl⟩,q}
 |ref p=>
  cases o;let E:(∃xs,SqL X.K H p xs/\n=xs.length)\/∃xs,SqT X.K H p xs/\n=xs.length:=e;rcases E with ⟨xs,B,E⟩ |⟨xs,B,E⟩
  .subst E;let{v,z,pl,L}:=I.list B;let j:=z.length;exact WY pl.isList (by simp![Zj];lia) {.int xs.length,H,I.tok _,{_,by simp![Zj];rw[j]},q}
  .subst E;let{v,z,pl,L}:=I.tuple B;let j:=z.length;exact len_tuple pl (by simp![Zj];lia) {.int xs.length,H,I.tok _,{_,by simp![Zj];rw[j]},q}
 |_=>exact(show False from e).elim
end
structure ObjM(h:Heap)(x dx C:Addr)(mA:Str->Option Value):Prop where
 obj:h.get? x=aD (On C dx)
 ns:h.Ns1 dx mA
 ne:dx≠x
def AV{h:Heap}{b:Addr}{M:Str->Option Value}(n:h.Ns1 b M):∃O,h.get? b=aD O/\∀name,NO name O=aD (M name):=by
 let{o,E,u,j,hd,g,_,p}:=n;calc{o,j,λname=>?_};let e:=p name;delta nsFind findBy at e;rw[<-Array.find?_toList]at e;delta NO;rw[hd];dsimp!;split
 .rename_i y q;rw[q]at e;exact congrArg aD e
 .rename_i q;rw[q]at e
  let a:E.toList.any (·.refKey)=a9:=by
   rw[X9];intro y f;let{z,t,H}:=g y (XQ.mp f);simp[DictEntry.refKey,H]
  let c:¬ E.toList.any (·.refKey)=a8:=by rw[a];exact Ze
  rw[if_neg c];exact congrArg aD e
def ObjM.look(I:ObjM h x b C M):∃o,PySem.W.InstAt h x (On C b) C (aD o)/\∀name,NO name o=aD (M name):=
 let ⟨o,ho,hl⟩:=AV I.ns
 ⟨o,⟨I.obj,rfl,rfl,ho⟩,hl⟩
def v5.some_of(r:v5 (aD v) o):∃u,o=aD u/\aJ v u:=by
 cases o with
 |none=>exact(show False from r).elim
 |some u=>exact⟨u,rfl,r⟩
section
variable {P:Program} {w:World} {H b:Hp} {h h':Heap} {a C c:Addr} {fs g:List (Str×V)}
def He(hok:HOk P w H h)(e:H a=aD (.ins C c fs)):∃M,ObjM h a c C M/\(∀f,v5 (fs.lookup f) (M f))/\PySem.Within M (fs.map (·.1))/\fs.length<=1000/\H c=aD (.own a):=by
 let{d,z,ne,ob,M,n,r,q}:=(show bD P w H h a (.ins C c fs) from hok a _ e);exact⟨M,⟨ob,n,ne⟩,r,q,z,d⟩
end
structure Cls(K:V6)(C:Addr):Prop where
 pg:Zad K C Str.empty=a8
 hd:PySem.W.hasDictIn K C=a8
 po:PySem.W.plainOver K C=a8
 sa:Rw K (.ref C) "__setattr__" = aD (aD (.builtin "object.__setattr__"))
def Cls.get{K:V6}{C:Addr}(c:Cls K C)(f:Str):Zad K C f=a8:=c.pg
section
variable {X:Cx} {d:List (Addr×Obj)} {f:St} {H:Hp} {s:Shared} {A:Around} {E:Value->Shared->Prop} {Q:Value->Shared->Prop} {c:Value} {b:Bool}
inductive TyOf(K:V6)(H:Hp):V->Value->Prop where
 |non:TyOf K H .non (.type "NoneType")
 |bl (x:Bool):TyOf K H (.bl x) (.type "bool")
 |int (i:Int):TyOf K H (.int i) (.type "int")
 |str (x:Str):TyOf K H (.str x) (.type "str")
 |flt (x:UInt64):TyOf K H (.flt x) (.type "float")
 |lst {a:Addr} {xs:List V} (e:H a=aD (.lst xs)):TyOf K H (.ref a) (.type "list")
 |frz {a:Addr} {o:Obj} {xs:List V} (e:H a=aD (.frz o (.lst xs))):TyOf K H (.ref a) (.type "list")
 |tup {a:Addr} {xs:List V} (e:H a=aD (.tup xs)):TyOf K H (.ref a) (.type "tuple")
 |dK {a:Addr} {kvs:List (Key×V)} (e:H a=aD (.dK kvs)):TyOf K H (.ref a) (.type "dict")
 |dT {a:Addr} {kvs:List (List Key×V)} (e:H a=aD (.dT kvs)):TyOf K H (.ref a) (.type "dict")
 |ins {a C dx:Addr} {fs:List (Str×V)} (e:H a=aD (.ins C dx fs)) (cl:Cls K C) (ha:Rw K (.ref C) "__class__" = aD (aD (.builtin "object.__class__")))
   (hn:PySem.W.specialIn K (.builtin "object.__class__") "__get__" = aD (aD (.builtin "getset_descriptor.__get__"))) (htk:PySem.W.takesIn K (.builtin "object.__class__")=aD a8)
   (hm:Zab K C (.type "object")=aD a8):TyOf K H (.ref a) (.ref C)
def AW(I:Inv X d f H s)(g:aJ x u)(ty:TyOf X.K H x t)(e:OS X.K t c=aD b)(h:∀T,Q (.bool b) {s with toks:=T}) :
  wpAny (model X.prog X.w) A (call (.builtin "isinstance") [u,c]) Q E s:=by
 cases ty with
 |non=>cases (show u=Value.none from g);exact ON PySem.W.kitx_none I.kIn True.intro e (λz=>nomatch z) h
 |bl y=>cases (show u=Value.bool y from g);exact ON PySem.W.kitx_bool I.kIn True.intro e (λz=>nomatch z) h
 |int i=>let{t,q}:=(show ∃t,u=Value.int i t from g);cases q;exact ON PySem.W.kitx_int I.kIn True.intro e (λz=>nomatch z) h
 |str y=>let{t,q}:=(show ∃t,u=Value.str y t from g);cases q;exact ON PySem.W.kitx_str I.kIn True.intro e (λz=>nomatch z) h
 |flt y=>let{t,q}:=(show ∃t,u=Value.float y t from g);cases q;exact ON PySem.W.kitx_float I.kIn True.intro e (λz=>nomatch z) h
 |@lst a xs ea=>
  cases (show u=Value.ref a from g);let{_,_,n,_,j}:=(show bD X.prog X.w H s.heap a (.lst xs) from I.hok a _ ea);exact ON NE I.kIn ⟨_,j,rfl⟩ e (λz=>nomatch z) h
 |@frz a ob xs ea=>
  cases (show u=Value.ref a from g);let{_,_,_,n,_,j}:=(show bD X.prog X.w H s.heap a (.frz ob (.lst xs)) from I.hok a _ ea);exact ON NE I.kIn ⟨_,j,rfl⟩ e (λz=>nomatch z) h
 |@tup a xs ea=>
  cases (show u=Value.ref a from g);let{_,_,_,p}:=(show bD X.prog X.w H s.heap a (.tup xs) from I.hok a _ ea);let{o,j,v,_}:=p;exact ON PySem.W.kitx_tuple I.kIn ⟨o,j,v⟩ e (λz=>nomatch z) h
 |@dK a kvs ea=>
  cases (show u=Value.ref a from g);let{_,_,Y,_,p}:=(show bD X.prog X.w H s.heap a (.dK kvs) from I.hok a _ ea);let{o,B,L,j,v,_}:=p;exact ON No I.kIn ⟨o,j,v.1⟩ e (λz=>nomatch z) h
 |@dT a kvs ea=>
  cases (show u=Value.ref a from g);let{_,_,xs,_,o,B,L,j,v,_}:=(show bD X.prog X.w H s.heap a (.dT kvs) from I.hok a _ ea);exact ON No I.kIn ⟨o,j,v.1⟩ e (λz=>nomatch z) h
 |@ins a C dx fs ea cl ha hn htk hm=>
  cases (show u=Value.ref a from g);let{U,O,_}:=He I.hok ea;let{M,J,_}:=O.look;exact ON (PySem.W.kitx_own (cl.get _) cl.hd ha hn htk hm) I.kIn J e (λz=>nomatch z) h
end
structure Room(k:Nat)(A:Around):Prop where
 hd:A.handled=aT
 dp:A.depth+3 * k+5 < recursionLimit
 un:A.units+16 * k+200 < cLine
 gd:A.guards=aD []
def Room.deeper{k:Nat}(r:Room (k+1) A)(env:Env):Room k (A.deeper env):=
 {r.hd,by let:=r.dp;show A.depth+1+3 * k+5 < _;lia,by let:=r.un;show A.units+3+16 * k+200 < _;lia,r.gd}
def Room.depth{k:Nat}(r:Room k A):A.depth < recursionLimit:=by let:=r.dp;lia
def Room.units{k:Nat}(r:Room k A):A.units+64 < cLine:=by let:=r.un;lia
abbrev lX:TA:=λ_ H Q=>Q [] H
abbrev dz(T:TE)(tr:TA):TA:=λb H Q=>T b H λx h=>tr b h λxs c=>Q (x::xs) c
section
variable {X:Cx} {e:Expr} {es:List Expr} {T:TE} {t:TA} {pos:Pos}
def ki:PA X [] lX:=λ_ _ _ _ H Q I h=>W1 ⟨[],H,I,.nil,h⟩
def rg(f:PE X e T)(g:PA X es t)(hs:ZaQ (e::es) X.env=(a9,eval e X.env)::ZaQ es X.env:=by rfl):PA X (e::es) (dz T t):=by
 intro pos p s b H Q I h;rw[hs];show wpAny _ _ (spliced ((a9,eval e X.env)::backTo pos (ZaQ es X.env))) _ _ s;calc W0 (thn (f p s b H _ I h) λu j ⟨x,o,y,r1,v⟩=>?_);exact thn (g pos p j b o _ y v) λU B ⟨xs,z,c,r2,q⟩=>{x::xs,z,c,.cons r1 r2,q}
abbrev RA(t:TA):TE:=λb H Q=>t b H λxs h=>xs.length<=sizeLine/\∀p,h p=aT->Q (.ref p) (upd h p (.tup xs))
abbrev MA(t:TA):TE:=λb H Q=>t b H λxs h=>xs.length<=sizeLine/\∀p,h p=aT->Q (.ref p) (upd h p (.lst xs))
def MB{y}(h:PA X es t):PE X (.Tuple es y pos) (RA t):=by
 intro p s o H Q I j;calc wpAny_Tuple_spliced (thn (h pos p s o H _ I j) λU c ⟨xs,f,g,r,z,q⟩=>{by rw[<-r.length];exact z,?_});let v:f c.heap.objs.size=aT:=g.hok.fresh (Zc _);calc{.ref c.heap.objs.size,upd f c.heap.objs.size (.tup xs),g.laid (t':=c.toks) (λb u e=>Zk _ e) (Zc _) ?_,rfl,q _ v};exact{z,U,r,qW.new _ _}
def kj(h:PA X es t):PE X (.List es pos) (MA t):=by
 intro p s o H Q I j;calc wpAny_List_spliced (thn (h pos p s o H _ I j) λU c ⟨xs,f,g,r,z,q⟩=>{by rw[<-r.length];exact z,?_});let v:f c.heap.objs.size=aT:=g.hok.fresh (Zc _);calc{.ref c.heap.objs.size,upd f c.heap.objs.size (.lst xs),g.laid (t':=c.toks) (λb u e=>Zk _ e) (Zc _) ?_,rfl,q _ v};exact{z,U,0,r,ZJ _ rfl}
end
@[inline]abbrev Sp:=List V->Hp->VK->XK->Prop
@[inline]abbrev CXT:=List Env->Hp->Shared->XK->Value->Shared->Prop
structure Env0(P:Program)(w:World)(K:V6)(mg:Str->Option Value)(base:Heap)(A:Around)(outer:List Env)(s:Shared)(H:Hp):Prop where
 frames:A.frames=aD outer
 mod:Mod K mg base
 bs:∀b o,base.get? b=aD o->s.heap.get? b=aD o/\H b=aT
 bsz:base.objs.size<=s⁻¹
 funs:s.heap.FunFrames base outer
 frf:∀b∈frs outer,H b=aT
 hok:HOk P w H s.heap
 bare:AllBare s.gens
abbrev CE(outer:List Env)(P:Program)(w:World)(H:Hp)(s:Shared)(Q:VK)(u:Value)(b:Shared):Prop:=
 ∃v h,b.os=s.os/\AllBare b.gens/\Un (frs outer) [] H h s.heap b.heap/\HOk P w h b.heap/\aJ v u/\Q v h
abbrev CR(C:CXT)(outer:List Env)(P:Program)(w:World)(H:Hp)(s:Shared)(Q:VK)(E:XK)(r:Result)(b:Shared):Prop:=
 match r with
 |.ok (.ret u)=>CE outer P w H s Q u b
 |.ok _=>False
 |.error e=>C outer H s E e b
structure FnOk(P:Program)(w:World)(K:V6)(mg:Str->Option Value)(base:Heap)(CX:CXT)(k:Nat)(f:Addr)(fd:VN)(ps:List Str)(sp:Sp):Prop where
 len:∀vs H Q E,sp vs H Q E->vs.length=ps.length
 run:∀ (A:Around) (outer:List Env) (s:Shared) (H:Hp) (args:Args) (us:List Value) (vs:List V) (Q:VK) (E:XK),Room k A->Env0 P w K mg base A outer s H->BindsTo s fd args (ps.zip us)->aP vs us->sp vs H Q E ->
  codeAny (model P w) A (.call (.ref f) args) (CR CX outer P w H s Q E) s
def FnOk.imp{P:Program}{w:World}{K:V6}{mg:Str->Option Value}{base:Heap}{C:CXT}{k:Nat}{f:Addr}{c:VN}{ps:List Str}{g sp':Sp}(F:FnOk P w K mg base C k f c ps g)
  (h:∀v H Q E,sp' v H Q E->g v H Q E):FnOk P w K mg base C k f c ps sp':=
 {λv H Q E q=>F.len v H Q E (h _ _ _ _ q),λA outer s H b u v Q E o j p y hs=>F.run A outer s H b u v Q E o j p y (h _ _ _ _ hs)}
section
variable {X:Cx} {p:List (Addr×Obj)} {a:St} {H:Hp} {s c:Shared}
def Inv.env0(I:Inv X p a H s):Env0 X.prog X.w X.K X.mg X.base X.A X.stack s H:=
 {I.ok.frames,I.ok.mod,I.bs,Zy I.ok.bsz I.sz,I.stack,I.stkFree,I.hok,I.bare}
def Inv.after(I:Inv X p a H s)(h:CE X.stack X.prog X.w H s Q u c):EP X p a Q u c:=by
 let{v,j,os,bare,un,hok,r,q}:=h;let{f,g,d,t,o}:=c;obtain rfl:o=s.os:=os;exact{v,j,I.call (h':=f) (g':=g) (d':=d) (t':=t) (ch:=[]) un hok bare (λb z=>absurd z (by simp)),r,q}
end
abbrev pU(f:Sp)(b:List V)(E:XK)(t:TA):TE:=λc H Q=>t c H λv h=>f (v++b) h Q E
abbrev dN(K:V6)(f:VN)(ps:List Str)(ds:List Value):Prop:=
 ∀ (s:Shared) (u:List Value),K.In s.heap->(u++ds).length=ps.length->BindsTo s f ⟨u,[]⟩ (ps.zip (u++ds))
def dN.all{K:V6}{f:VN}{ps:List Str}(h:∀u:List Value,u.length=ps.length->bindArgs f ⟨u,[]⟩=pure (ps.zip u)):dN K f ps []:=λs u _ H=>by
 rw[ZN]at H ⊢;exact .of_eq (h u H)
abbrev m7(C:CXT)(X:Cx)(E:XK):Prop:=∀ (p:List (Addr×Obj)) (c:St) (H:Hp) (s:Shared) (e:Value) (b:Shared),Inv X p c H s->C X.stack H s E e b->X.xe e b
section
variable {X:Cx} {CX:CXT} {k:Nat} {f C:Addr} {a:VN} {ps:List Str} {sp:Sp} {dvs:List V} {ds:List Value} {E:XK} {x m:Str} {p pos A:Pos} {e o:Expr} {es:List Expr} {T:TE} {t:TA}
def CQ(F:FnOk X.prog X.w X.K X.mg X.base CX k f a ps sp)(j:Room k X.A)(q:dN X.K a ps ds)(hd:aP dvs ds)(y:m7 CX X E)
  (I:Inv X b g H s) (r:aP v U) (h:sp (v++dvs) H Q E):wpAny (model X.prog X.w) X.A (call (.ref f) U) (EP X b g Q) X.xe s:=by
 let r2:aP (v++dvs) (U++ds):=r.append hd;let z:(U++ds).length=ps.length:=by rw[<-r2.length];exact F.len _ _ _ _ h
 calc wpAny_call (Zat (F.run X.A X.stack s H ⟨U,[]⟩ (U++ds) (v++dvs) Q E j I.env0 (q s U I.kIn z) r2 h) λr B c=>?_);cases r with
 |error e=>exact y b g H s e B I c
 |ok J=>
  cases J with
  |ret u=>exact I.after c
  |next=>exact False.elim c
  |brk=>exact False.elim c
  |cont=>exact False.elim c
def Hf(F:FnOk X.prog X.w X.K X.mg X.base CX k f a ps sp)(J:Room k X.A)(B:Gl X x)(v:X.mg x=aD (.ref f))(y:OF X.K (.ref f)=a8)(z:dN X.K a ps ds)(hd:aP dvs ds)(M:m7 CX X E)
  (u:PA X (e::es) t) (c:(x == ("__debug__" : Str))=a9:=by decide) (L:ZaQ (e::es) X.env=(a9,eval e X.env)::ZaQ es X.env:=by rfl) (g:(backTo pos (ZaQ es X.env)).any (·.1)=a9:=by rfl) :
  PE X (.Call (.Name x p) (e::es) [] pos) (pU sp dvs E t):=by
 intro b s O H Q I h;calc Za1 (ip I B v ?_ c);calc V7 (h₀:=X.base) I.ok.mod.kin y (thn (u pos b s O H _ I h) λus Y ⟨Z,U,j,r,q⟩=>{j.kIn,?_}) L g;exact CQ F J z hd M j r q
end
structure FnScope(N P:List Str)(sc:Scope):Prop where
 kind:sc.kind = .function
 co:sc.isCoroutine=a9
 gen:sc.isGenerator=a9
 nd:N.Nodup
 pre:N.take P.length=P
 par:∀x∈P,sc.names.lookup x=aD .local\/sc.names.lookup x=aD .cell
 nofree:∀y∈sc.names,y.2≠.free
def pV{kindOf:Str->Option VP}{x:Str}:∀ {binds:List (Str×Value)} {m:Str->Option Value},(∀v,(x,v)∉binds)->bindL kindOf binds m x=m x
 |[],_,_=>rfl
 |(n,v)::r,m,h=>by
  delta bindL;rw[pV λw H=>h w (Zh _ H)];split
  .let:x≠n:=by rintro rfl;exact h v Zf
   simp[this]
  .rfl
def pX{kindOf:Str->Option VP}{x:Str}:∀ {binds:List (Str×Value)} {m:Str->Option Value},(∀v,(x,v)∉binds)->bindC kindOf binds m x=m x
 |[],_,_=>rfl
 |(n,v)::r,m,h=>by
  delta bindC;rw[pX λw H=>h w (Zh _ H)];split
  .rfl
  .let:x≠n:=by rintro rfl;exact h v Zf
   simp[this]
def pY{kindOf:Str->Option VP}{x:Str}{v:Value}:∀ {P:List Str} {b:List Value} {i:Nat} {m:Str->Option Value},P.Nodup->P[i]?=aD x->b[i]?=aD v->kindOf x=aD .local ->
  bindL kindOf (P.zip b) m x=aD v
 |[],_,_,_,_,h,_,_=>by simp at h
 |_::_,[],_,_,_,_,h,_=>by simp at h
 |p::P,w::b,0,m,nd,h1,h2,hk=>by
  simp at h1 h2;subst h1;subst h2;show bindL kindOf ((p,w)::P.zip b) m p=_;delta bindL;rw[pV λv H=>(Yz.mp nd).1 (YW H).1,if_pos hk];simp
 |p::P,w::b,i+1,m,nd,h1,h2,hk=>by
  show bindL kindOf ((p,w)::P.zip b) m x=_;delta bindL;exact pY (i:=i) (Yz.mp nd).2 (by simpa using h1) (by simpa using h2) hk
def pZ{kindOf:Str->Option VP}{x:Str}{v:Value}:∀ {P:List Str} {b:List Value} {i:Nat} {m:Str->Option Value},P.Nodup->P[i]?=aD x->b[i]?=aD v->kindOf x≠aD .local ->
  bindC kindOf (P.zip b) m x=aD v
 |[],_,_,_,_,h,_,_=>by simp at h
 |_::_,[],_,_,_,_,h,_=>by simp at h
 |p::P,w::b,0,m,nd,h1,h2,hk=>by
  simp at h1 h2;subst h1;subst h2;show bindC kindOf ((p,w)::P.zip b) m p=_;delta bindC;rw[pX λv H=>(Yz.mp nd).1 (YW H).1,if_neg hk];simp
 |p::P,w::b,i+1,m,nd,h1,h2,hk=>by
  show bindC kindOf ((p,w)::P.zip b) m x=_;delta bindC;exact pZ (i:=i) (Yz.mp nd).2 (by simpa using h1) (by simpa using h2) hk
abbrev eF(N:List Str)(v:List V):St:=v.map aD++Zr (N.length - v.length) aT
abbrev pA(g:CXT)(P:Program)(w:World)(K:V6)(mg:Str->Option Value)(base:Heap)(N:List Str)(q:Str)(b:Scope)(f:Addr)(C:Value)(A:Around)(outer:List Env)(s:Shared)(H:Hp)(E:XK):Cx where
 prog:=P
 w:=w
 K:=K
 mg:=mg
 base:=base
 A:=A.deeper (envOfC q b s⁻¹ f C)
 N:=N
 s₀:=s
 H₀:=H
 env:=envOfC q b s⁻¹ f C
 outer:=outer
 stack:=envOfC q b s⁻¹ f C::outer
 ex:=[]
 calm:=true
 fn:=λ_=>a8
 pn:=[]
 xe:=λe j=>wpAny (model P w) (A.deeper (envOfC q b s⁻¹ f C)) (leaving (envOfC q b s⁻¹ f C) e) (λ_ c=>g outer H s E e c) (λh c=>g outer H s E h c) j
def tZ{sc:Scope}{n:Nat}{x:Str}(h:sc.names.lookup x=aD .cell):∃c,(Zaq n sc.names []).lookup x=aD c:=by
 let q:=V8 sc.names n [] (.inl h);exact Yj.mp q
def p9{T:CXT}{P:Program}{w:World}{K:V6}{mg:Str->Option Value}{base:Heap}{N ps:List Str}{Q:Str}{g:Scope}{f:Addr}{O:Value}{A:Around}{outer:List Env}{s s1:Shared}{H:Hp}{E:XK}{U:List Value}{C:List V}
  (S:FnScope N ps g) (hd:A.handled=aT) (o:Env0 P w K mg base A outer s H) (hl:C.length=ps.length) (r:aP C U)
  (x:InCallC s s⁻¹ (bindL (envOfC Q g s⁻¹ f O).kindOf (ps.zip U) λ_=>aT) (Zaq (s⁻¹+1) g.names []) (bindC (envOfC Q g s⁻¹ f O).kindOf (ps.zip U) λ_=>aT) s1) :
  Inv (pA T P w K mg base N Q g f O A outer s H E) [] (eF N C) H s1:=by
 let hpl:ps.length<=N.length:=by let:=congrArg Zd S.pre;rw[ZD]at this;lia
 let{M,tk,rfl,X}:=x.done;let B:∀b:Addr,b∉(pA T P w K mg base N Q g f O A outer s H E).ex:=λb z=>absurd (show b∈([]:List Addr) from z) (by simp)
 refine⟨{o.mod,S.kind,rfl,rfl,Zc _,λy z c M j=>?_,λy hy=>?_,λy c _ h=>?_,λ_=>hd,Around.frames_deeper o.frames,.inr ⟨rfl,rfl⟩,λb z=>absurd z (B b),o.bs,o.bsz,λb _ _=>B b,λb z=>absurd z (B b),o.funs,o.frf},
  rfl,o.bare,Un.kept X,{_,x.toInCall.ns,λi y v M j h3=>?_},λy c h=>{_,x.cell y c h},o.hok.fresh (Zc _),λy c h=>?_,λp I=>absurd (show p∈([]:List (Addr×Obj)) from I) (by simp),o.hok.kept X,?_⟩
 .exact name_of_addr x.apart (ZaG M) (ZaG j)
 .let hy:g.names.lookup y=aD .cell\/g.names.lookup y=aD .free:=hy;rcases hy with hy |hy
  .exact tZ hy
  .exact absurd rfl (S.nofree _ (ZaG hy))
 .exact Xv (x.above y c (ZaG h))
 .let L:i < C.length:=by
   delta eF at j;by_cases L:i < C.length
   .exact L
   .rw[Zo (by simpa using L)]at j;rw[Yx]at j;split at j <;> cases j
  let Z:C[i]?=aD v:=by
   delta eF at j;rw[Zz (by simpa using L),Zn]at j;cases e:C[i]? with
   |none=>rw[e]at j;cases j
   |some a=>rw[e]at j;cases j;rfl
  let{u,Y,rv}:=r.get Z
  let I:ps[i]?=aD y:=by
   rw[<-S.pre,Xj (by lia)];exact M
  let J:ps.Nodup:=by rw[<-S.pre];exact S.nd.sublist (Wa _ _)
  calc{u,rv,?_};rcases S.par y (Zs I) with k |k
  .exact .inl {k,pY J I Y k}
  .let{c,e}:=tZ (n:=s⁻¹+1) k;calc .inr {.inl k,c,e,?_};let q:=x.cell y c e;rw[pZ J I Y (by show g.names.lookup y≠_;rw[k];decide)]at q;exact q
 .exact o.hok.fresh (Xv (x.above y c (ZaG h)))
 .delta eF;show _=N.length;rw[Zi,Za,Y1]
  lia
def RB{U:CXT}{P:Program}{w:World}{K:V6}{mg:Str->Option Value}{base:Heap}{k:Nat}{f:Addr}{name g:Str}{p:Arguments}{body:List Stmt}{c:Scope}{dV kV M pm C ct oc:Value}{an od:Option Addr}
  {osl:Array (Option Value)} {N ps:List Str} {sp:Sp} (lk:K.lookup f=aD {oc,od,.func (Pi name g p body c dV kV M pm an C ct),osl}) (X:Up K C g=a8) (S:FnScope N ps c)
  (len:∀j H Q E,sp j H Q E->j.length=ps.length)
  (L:∀ (A:Around) (outer:List Env) (s:Shared) (H:Hp) (j:List V) (Q:VK) (E:XK),Room k (A.deeper (envOfC g c s⁻¹ f C))->sp j H Q E ->
   ∃t,PSs (pA U P w K mg base N g c f C A outer s H E) body t/\t {nx:=λ_ z=>Q .non z,rt:=Q} (eF N j) H) :
  FnOk P w K mg base U (k+1) f (Pi name g p body c dV kV M pm an C ct) ps sp:=by
 calc{len,λA outer s H args us j Q E Z T hb r O=>?_};let hl:=len _ _ _ _ O;let KX:K.In s.heap:=T.mod.kin.keeps λb o e=>(T.bs b o e).1;let lim:s.heap.NoLimit:=T.mod.nolimit.keeps λb o e=>(T.bs b o e).1
 let B:∀y∈ps.zip us,c.names.lookup y.1=aD .local\/(c.names.lookup y.1=aD .cell/\((Zaq (s⁻¹+1) c.names []).lookup y.1).isSome=a8):=λ⟨n,v⟩ hy=>by
  rcases S.par n (YW hy).1 with q |q
  .exact .inl q
  .exact .inr {q,V8 _ _ _ (.inl q)}
 calc Zas Z.depth (KX _ _ lk) rfl S.co S.gen rfl (UP KX X) (hb _ _ _ _ ?_);calc Zbj S.kind B λenv he s1 x=>?_;subst he;calc{lim.keeps x.toInCall.keep,codeAny_func ?_};let{t,ht,hq}:=L A outer s H j Q E (Z.deeper _) O;let I:Inv (pA U P w K mg base N g c f C A outer s H E) [] (eF N j) H s1:=p9 S Z.hd T hl r x;refine Zbi (ht [] s1 (eF N j) H _ I hq) (λfl s' hs=>?_) λe s' hs=>hs
 let fin:∀ {h:St} {z:Hp} {v:V} {u:Value},Inv (pA U P w K mg base N g c f C A outer s H E) [] h z s'->aJ v u->Q v z->CE outer P w H s Q u s':=
  λ{h z v u} J Y q=>⟨v,z,J.os,J.bare,J.base,J.hok,Y,q⟩
 cases fl with
 |ret u=>
  let{v,h,z,J,Y,q}:=hs;exact fin J Y q
 |next=>
  let{h,z,J,q}:=hs;exact fin (v:=V.non) (u:=Value.none) J rfl q
 |brk=>
  let{_,_,_,q}:=hs;exact False.elim q
 |cont=>
  let{_,_,_,q}:=hs;exact False.elim q
section
variable {X:Cx} {x:Str} {p pos:Pos} {e:Expr} {es:List Expr} {t:TA} {i T:String} {r:List V->Hp->VK->Prop}
abbrev tCB(r:List V->Hp->VK->Prop)(t:TA):TE:=λb H Q=>t b H λv h=>r v h Q
def fm(hc:bc X (.builtin i) r)(u:Gl X x)(o:X.mg x=aT)(J:Zam x=aD (.builtin i))(j:PA X (e::es) t)(y:x≠"__name__" := by decide)(c:(x == ("__debug__" : Str))=a9:=by decide)
  (B:ZaQ (e::es) X.env=(a9,eval e X.env)::ZaQ es X.env:=by rfl) (f:(backTo pos (ZaQ es X.env)).any (·.1)=a9:=by rfl):PE X (.Call (.Name x p) (e::es) [] pos) (tCB r t):=by
 intro b s g H Q I h;calc Za1 (i8 I u o J ?_ y c);exact PyProof.Rows.callWith_builtin1 (thn (j pos b s g H _ I h) λU C ⟨E,q,v,r1,z⟩=>hc b C g q E U Q v r1 z) B f
def kl(hc:bc X (.type T) r)(u:Gl X x)(o:X.mg x=aT)(J:Zam x=aD (.type T))(j:PA X (e::es) t)(y:x≠"__name__" := by decide)(c:(x == ("__debug__" : Str))=a9:=by decide)
  (B:ZaQ (e::es) X.env=(a9,eval e X.env)::ZaQ es X.env:=by rfl) (f:(backTo pos (ZaQ es X.env)).any (·.1)=a9:=by rfl):PE X (.Call (.Name x p) (e::es) [] pos) (tCB r t):=by
 intro b s g H Q I h;calc Za1 (i8 I u o J ?_ y c);exact WT (thn (j pos b s g H _ I h) λU C ⟨E,q,v,r1,z⟩=>hc b C g q E U Q v r1 z) B f
end
end L2
namespace HT
open PySem PyProof.Rows
section
open PySem.SeqAt
open PySem.AutoSeq1 (wpAny_loadPart')
open PySem.MeetsSeq PySem.MeetsSeq2 PySem.MeetsSeq3
end
section
variable {prog:Program} {w:World} {A:Around} {E:Value->Shared->Prop} {s:Shared}
def Hg(M:IsTup s.heap t v.toArray)(J:IsTup s.heap b c.toArray)(B:v≠[])
  (I:c=[]->Q (.ref t) s) (L:c≠[]->Q (.ref s⁻¹) {s with heap:=s.heap.push {cls:=.type "tuple",data:=.seq (v++c).toArray}})
  (q:v.length+c.length<=sizeLine):wpAny (model prog w) A (Zak .Add (.ref t) (.ref b)) Q E s:=by
 let{⟨cls,z,data,sl⟩,o,y,n,hd}:=id M;let{⟨C,j,data2,f⟩,h,H,u,g}:=id J;simp! at y hd H g;subst y hd H g;let e:v.toArray++c.toArray=(v++c).toArray:=by simp
 by_cases p:c=[]
 .exact Zaw ⟨_,o,rfl⟩ ⟨_,h,rfl⟩ ZaI ZaN VI W5 (W3 _ _)
   (tuple_addW1 t b v.toArray c.toArray n u z j sl f (by simpa using B) (by simp[p])) {o,h,I p}
 .refine Zaw ⟨_,o,rfl⟩ ⟨_,h,rfl⟩ ZaI ZaN VI W5 (W3 _ _)
   (tuple_addW2 t b v.toArray c.toArray n u z j sl f (by simpa using B) (by simpa using p) (by rw[Zj,Zj];exact q)) {o,h,?_}
  rw[e];exact L p
abbrev sIx(n d:Nat):Option Int->Nat
 |none=>d
 |some v=>if v < 0 then (v+(n:Int)).toNat else min v.toNat n
def MC(n d:Nat)(hd:d<=n)(o:Option Int):sIx n d o<=n:=by
 cases o with
 |none=>exact hd
 |some v=>
  show(if v < 0 then (v+(n:Int)).toNat else min v.toNat n)<=n;by_cases h:v < 0
  .rw[if_pos h];lia
  .rw[if_neg h];exact Nat.min_le_right _ _
def yZ(v:Int)(n d:Nat):(if v < 0 then max (v+(n:Int)) 0 else min v (n:Int))=((sIx n d (aD v):Nat):Int):=by
 show(if v < 0 then max (v+(n:Int)) 0 else min v (n:Int))=(((if v < 0 then (v+(n:Int)).toNat else min v.toNat n):Nat):Int);by_cases h:v < 0
 .simp![if_pos h];lia
 .simp![if_neg h];lia
def wt(lo h:Option Int)(n:Nat):Builtin.Slice.sliceAdjust lo h 1 (n:Int)=(((sIx n 0 lo:Nat):Int),((sIx n n h:Nat):Int)):=by
 let H:¬ ((1:Int) < 0):=by lia
 delta Builtin.Slice.sliceAdjust;simp![H,if_false];refine Prod.ext ?_ ?_
 .cases lo with
  |none=>rfl
  |some v=>exact yZ v n 0
 .cases h with
  |none=>rfl
  |some v=>exact yZ v n n
def wx(i j:Nat):Builtin.Slice.slicePlaces (i:Int) (j:Int) 1=j - i:=by
 delta Builtin.Slice.slicePlaces;let h:(1:Int) > 0:=by lia
 simp![h,if_true,Int.ediv_one];split <;> lia
def m8(p:IsPart v o)(h:Q o s):wpAny (model prog w) A (Builtin.Slice.slicePartIndex v) Q E s:=by
 cases p with
 |none=>exact slicePart_none h
 |int i t=>exact slicePart_int h
def fo{sl:Addr}{v f:Value}{lo H:Option Int}{n:Nat}{Q:Int×Int×Nat->Shared->Prop}(hs:s.heap.IsSliceOf sl v f .none)(pl:IsPart v lo)(pu:IsPart f H)
  (h:Q (((sIx n 0 lo:Nat):Int),1,sIx n n H - sIx n 0 lo) s):wpAny (model prog w) A (Builtin.Slice.sliceApplied (.ref sl) (pure (n:Int))) Q E s:=by
 let{os,b,g,c}:=id hs;delta Builtin.Slice.sliceApplied Builtin.Slice.sliceFields;calc Za4 (Za4 (Zbb b c (x:=v) rfl (Za4 (Zbb b c (x:=f) rfl (Za4 (Zbb b c (x:=.none) rfl (Zbn ?_)))))));calc Za4 (slicePart_none ?_);show wpAny _ _ (if ((1:Int) == 0)=a8 then _ else _) _ _ s;rw[if_neg (by decide)];calc Za4 (m8 pl (Za4 (m8 pu (Za4 (Zbn ?_)))));show wpAny _ _ (match Builtin.Slice.sliceAdjust lo H 1 (n:Int) with |(lo,H)=>pure (lo,(1:Int),Builtin.Slice.slicePlaces lo H 1)) _ _ s;rw[wt lo H n];show wpAny _ _ (pure (((sIx n 0 lo:Nat):Int),(1:Int),Builtin.Slice.slicePlaces ((sIx n 0 lo:Nat):Int) ((sIx n n H:Nat):Int) 1)) _ _ s;rw[wx];exact Zbn h
def CT(xs:Array Value)(i k:Nat):((Zm k).filterMap λ(m:Nat)=>xs[((i:Int)+(m:Int) * 1).toNat]?).toArray=((xs.toList.drop i).take k).toArray:=by
 let e:(λ(m:Nat)=>xs[((i:Int)+(m:Int) * 1).toNat]?)=λm=>xs[i+m]?:=by
  funext m
  let:((i:Int)+(m:Int) * 1).toNat=i+m:=by lia
  rw[this]
 rw[e];let:=pick_run xs i k;rw[List.filterMap_map]at this;let b:((λx=>xs[x]?) ∘ λx=>i+x)=λm=>xs[i+m]?:=rfl;rw[b]at this;rw[this]
def jC{t sl:Addr}{I:Array Value}{v p:Value}{lo b:Option Int}{Q:Value->Shared->Prop}(c:IsTup s.heap t I)(hs:s.heap.IsSliceOf sl v p .none)(pl:IsPart v lo)(pu:IsPart p b)
  (hw:¬ (sIx I.size 0 lo=0/\sIx I.size I.size b=I.size))
  (h:Q (.ref s⁻¹) {s with heap:=s.heap.push {cls:=.type "tuple",data:=.seq ((I.toList.drop (sIx I.size 0 lo)).take (sIx I.size I.size b - sIx I.size 0 lo)).toArray}})
  (u:I.size<=sizeLine):wpAny (model prog w) A (getItem (.ref t) (.ref sl)) Q E s:=by
 let H:sizeOk (.seq ((I.toList.drop (sIx I.size 0 lo)).take (sIx I.size I.size b - sIx I.size 0 lo)).toArray):=by
  show((I.toList.drop (sIx I.size 0 lo)).take (sIx I.size I.size b - sIx I.size 0 lo)).toArray.size<=sizeLine;rw[Zj,ZD,Yn,Yh]
  lia
 let B:sIx I.size I.size b<=I.size:=MC _ _ (Zc _) b;let{os,j,g,y}:=id hs;let f:s.TypeIs (.ref sl) "slice" := ⟨os,j,g⟩;delta getItem
 try with_reducible refine Zbc ?_
 first |refine Za4 (Zbn ?_) |skip
 refine Za4 (wpAny_sequenceKey c.typeIs (by decide) ?_)
 refine Za4 (wpAny_callSpecial?_slot (name:=Str.ofString "__getitem__") c.typeIs WU
  (Za6 WU c.typeIs entry_tuple_getitem ?_ (args_tuple_getitem _ _)))
 show wpAny _ _ (Builtin.Tuple.tupleItemsOf (.ref t) >>= _) _ _ s;calc Za4 (tupleItemsOf_ c ?_);calc Za4 (Zbw f ?_);rw[if_pos (by decide)];refine Za4 (fo hs pl pu ?_)
 let o:¬ ((((sIx I.size 0 lo:Nat):Int) == 0 && (1:Int) == 1 && (sIx I.size I.size b - sIx I.size 0 lo) == I.size)=a8):=by
  intro q;rw[bAE,bAE]at q;let C:((sIx I.size 0 lo:Nat):Int)=0:=eq_of_beq q.1.1;let z:sIx I.size I.size b - sIx I.size 0 lo=I.size:=eq_of_beq q.2;exact hw {by lia,by lia}
 show wpAny _ _ (if (((sIx I.size 0 lo:Nat):Int) == 0 && (1:Int) == 1 && (sIx I.size I.size b - sIx I.size 0 lo) == I.size)=a8 then _ else _) _ _ s;rw[if_neg o,CT]
 first
  |exact Za4 (m:=Builtin.Tuple.tupleExact _) (Zbl (Zbn {_,rfl,Zbn h}) H)
  |exact Za4 (m:=Builtin.Tuple.tupleExact _) (Zbl (Za4 (Zbn (Zbn {_,rfl,Zbn h}))) H)
  |exact Za4 (Za4 (m:=Builtin.Tuple.tupleExact _) (Zbl (Zbn (Zbn {_,rfl,Zbn h})) H))
  |exact Za4 (Za4 (m:=Builtin.Tuple.tupleExact _) (Zbl (Zbn {_,rfl,Zbn h}) H))
end
end HT
namespace L2
open PySem PySem.Spec PyProof.Rows
@[inline]abbrev TO:=St->Hp->(Option Int->Hp->Prop)->Prop
abbrev PO(X:Cx)(e:Option Expr)(t:TO):Prop:=
 ∀ (p:List (Addr×Obj)) (s:Shared) (b:St) (H:Hp) (Q:Option Int->Hp->Prop),Inv X p b H s->t b H Q ->
  wpAny (model X.prog X.w) X.A (evalPart e X.env) (λu c=>∃o h,Inv X p b h c/\IsPart u o/\Q o h) X.xe s
abbrev y6:TO:=λ_ H Q=>Q aT H
abbrev K2(t:TE):TO:=λb H Q=>t b H λx h=>∃i,x = .int i/\Q (aD i) h
section
variable {X:Cx} {e:Expr} {c:TE} {L d:Option Expr} {f th:TO} {pos p2:Pos}
def Hh:PO X aT y6:=by
 intro p s b H Q I h;rw[evalPart_none];exact Zbn ⟨aT,H,I,.none,h⟩
def Hi(h:PE X e c):PO X (aD e) (K2 c):=by
 intro p s o H Q I j;rw[evalPart_some];calc thn (h p s o H _ I j) λu y ⟨x,b,v,r1,g⟩=>?_;let{i,rfl,q}:=g;let{t,rfl}:=r1;exact{aD i,b,v,.int i t,q}
abbrev SlR(X:Cx)(r:V->Option Int->Option Int->Hp->VK->Prop):Prop:=
 ∀ (p:List (Addr×Obj)) (s:Shared) (h:St) (H:Hp) (x:V) (v b g:Value) (L d:Option Int) (sl:Addr) (Q:VK),Inv X p h H s->aJ x v->s.heap.IsSliceOf sl b g .none->IsPart b L->IsPart g d->r x L d H Q ->
  ∃T id,ZaZ (.type T) "__getitem__" = pure (aD (.builtin id))/\s.TypeIs v T/\wpAny (model X.prog X.w) X.A (getItem v (.ref sl)) (EP X p h Q) X.xe s
def SlR.or{r g:V->Option Int->Option Int->Hp->VK->Prop}(h:SlR X r)(h':SlR X g):SlR X (λx L d H Q=>r x L d H Q\/g x L d H Q):=by
 intro p s u H x v j o L d sl Q I b hs pl pu q;rcases q with q |q
 .exact h p s u H x v j o L d sl Q I b hs pl pu q
 .exact h' p s u H x v j o L d sl Q I b hs pl pu q
abbrev tSl(r:V->Option Int->Option Int->Hp->VK->Prop)(c:TE)(f th:TO):TE:=λb H Q=>c b H λx h=>f b h λl j=>th b j λu g=>r x l u g Q
def CU(Y:SlR X r)(he:PE X e c)(hl:PO X L f)(Z:PO X d th):PE X (.Subscript e (.Slice L d aT p2) pos) (tSl r c f th):=by
 intro p s j H Q I h;calc Subscript_ (thn (he p s j H _ I h) λv s1 ⟨x,E,O,r1,q1⟩=>?_);calc wpAny_Slice (thn (hl p s1 j E _ O q1) λo s2 ⟨l,H2,U,pl,q2⟩=>thn (Z p s2 j H2 _ U q2) λy g ⟨u,z,M,pu,C⟩=>?_);rw[evalPart_none];calc Zbn ?_;let B:Inv X p j z {g with heap:=g.heap.push {cls:=.type "slice",data:=.fields #[o,y,.none]}}:=M.kept (t':=g.toks) λb ob q=>Zk _ q;let{T,id,hT,ht,J}:=Y p {g with heap:=g.heap.push {cls:=.type "slice",data:=.fields #[o,y,.none]}} j z x v o y l u g.heap.objs.size Q B r1 (Heap.IsSliceOf.new ..) pl pu C;show wpAny (model X.prog X.w) X.A (subscriptTail e (.Slice L d aT p2) v (.ref g.heap.objs.size)) (EP X p j Q) X.xe {g with heap:=g.heap.push {cls:=.type "slice",data:=.fields #[o,y,.none]}};exact tail_any (ops:=[.ref g.heap.objs.size,v]) ht hT J (by with_unfolding_all rfl)
abbrev m9(xs:List V)(L d:Option Int):List V:=(xs.drop (HT.sIx xs.length 0 L)).take (HT.sIx xs.length xs.length d - HT.sIx xs.length 0 L)
def kZ(xs:List V)(L d:Option Int):(m9 xs L d).length<=xs.length:=by
 delta m9;rw[ZD,Yn]
 lia
abbrev UV(K:V6):V->Option Int->Option Int->Hp->VK->Prop:=λx L d H Q=>∃a xs,x = .ref a/\SqT K H a xs ∧
 ¬ (HT.sIx xs.length 0 L=0/\HT.sIx xs.length xs.length d=xs.length)/\∀p,H p=aT->Q (.ref p) (upd H p (.tup (m9 xs L d)))
def MD:SlR X (UV X.K):=by
 intro p s M H x v E J L d sl Q I z hs pl pu h;let{a,xs,rfl,C,B,q}:=h;cases z;let{j,r,y,u}:=I.tuple C;let g:j.toArray.size=xs.length:=by rw[Zj];exact r.length.symm
 calc{"tuple",_,PyProof.Rows.slot_tuple_getitem.lookup,y.typeIs,?_};calc HT.jC y hs pl pu (by rw[g];exact B) ?_ (by rw[g];exact u);rw[g];calc{.ref s⁻¹,_,I.laid (t':=s.toks) (o:=.tup (m9 xs L d)) (λb ob q=>Zk _ q) (Zc _) ?_,rfl,q _ (I.hok.fresh (Zc _))};exact{Zy (kZ xs L d) u,_,(r.drop (HT.sIx xs.length 0 L)).take (HT.sIx xs.length xs.length d - HT.sIx xs.length 0 L),qW.new _ _}
abbrev RC(K:V6):R2:=λx y H Q=>∃a b xs Y,x = .ref a/\y = .ref b/\SqT K H a xs/\SqT K H b Y/\xs≠[]/\xs.length+Y.length<=sizeLine ∧
 (Y=[]->Q (.ref a) H)/\(Y≠[]->∀p,H p=aT->Q (.ref p) (upd H p (.tup (xs++Y))))
def aP.nil_iff(r:aP xs u):u=[] ↔ xs=[]:=by
 cases r with
 |nil=>simp
 |cons _ _=>simp
def Hj:OpR X (Zak .Add) (RC X.K):=by
 intro p s σ H x y v u Q I C J h;let{a,b,xs,Y,rfl,rfl,B,E,Z,g,O,U}:=h;cases C;cases J;let{T,r1,M,_}:=I.tuple B;let{j,r2,p2,_}:=I.tuple E;calc HT.Hg M p2 (λz=>Z (r1.nil_iff.mp z)) (λz=>{.ref a,H,I,rfl,O (r2.nil_iff.mp z)}) (λz=>?_) (by rw[<-r1.length,<-r2.length];exact g);calc{.ref s⁻¹,_,I.laid (t':=s.toks) (o:=.tup (xs++Y)) (λb ob q=>Zk _ q) (Zc _) ?_,rfl,U (λw=>z (r2.nil_iff.mpr w)) _ (I.hok.fresh (Zc _))};exact{by rw[Zi];exact g,_,r1.append r2,qW.new _ _}
end
abbrev ixN(n:Nat)(i:Int):Option Nat:=if 0<=i then (if i < n then aD i.toNat else aT) else if -(n:Int)<=i then aD (i+n).toNat else aT
abbrev atI{α:Type}(xs:List α)(i:Int):Option α:=(ixN xs.length i).bind λj=>xs[j]?
def rh{n:Nat}{i:Int}{j:Nat}(h:ixN n i=aD j):seqIndex? i n=aD j/\j < n/\-(n:Int)<=i/\i < n:=by
 delta ixN at h;by_cases b:0<=i
 .rw[if_pos b]at h;by_cases H:i < n
  .rw[if_pos H]at h;let e:i.toNat=j:=θ h;exact{by rw[ZaM b H,e],by lia,by lia,H}
  .rw[if_neg H]at h;cases h
 .rw[if_neg b]at h;by_cases H:-(n:Int)<=i
  .rw[if_pos H]at h;let e:(i+n).toNat=j:=θ h;exact{by rw[ZaL (by lia) H,e],by lia,H,by lia}
  .rw[if_neg H]at h;cases h
def rj{b:Type}{xs:List b}{i:Int}{v:b}(h:atI xs i=aD v):∃j,seqIndex? i xs.length=aD j/\xs[j]?=aD v/\j < xs.length/\-(xs.length:Int)<=i/\i < xs.length:=by
 delta atI at h;cases e:ixN xs.length i with
 |none=>rw[e]at h;cases h
 |some j=>
  rw[e]at h;let{H,c,g,f}:=rh e;exact⟨j,H,h,c,g,f⟩
def ml{b:Type}{xs:List b}{j:Nat}{v:b}(h:xs[j]?=aD v):atI xs (j:Int)=aD v:=by
 let H:j < xs.length:=(Zb.mp h).1
 let e:ixN xs.length (j:Int)=aD j:=by
  delta ixN;rw[if_pos (by lia),if_pos (by lia)];simp
 delta atI;rw[e];exact h
abbrev rm(b:Expr):Prop:=∀o i,subscripted b a9 o i=operate [o,i] (getItem o i)
abbrev IxR(X:Cx)(r:R2):Prop:=
 ∀ (c b:Expr) (p:List (Addr×Obj)) (s:Shared) (f:St) (H:Hp) (x y:V) (v u:Value) (Q:VK),Inv X p f H s->aJ x v->aJ y u->r x y H Q ->
  subscripted b a9 v u=operate [v,u] (getItem v u)->wpAny (model X.prog X.w) X.A (subscriptTail c b v u) (EP X p f Q) X.xe s
abbrev MtR(X:Cx)(id:String)(r:V->List V->Hp->VK->Prop):Prop:=
 ∀ (p:List (Addr×Obj)) (s:Shared) (b:St) (H:Hp) (x:V) (xs:List V) (v:Value) (u:List Value) (Q:VK),Inv X p b H s->aJ x v->aP xs u->r x xs H Q ->
  wpAny (model X.prog X.w) X.A (call (.builtin id) (v::u)) (EP X p b Q) X.xe s
section
variable {X:Cx} {a b:Expr} {d g:TE} {pos:Pos}
def IxR.or{r o:R2}(h:IxR X r)(h':IxR X o):IxR X (λx y H Q=>r x y H Q\/o x y H Q):=by
 intro c f p s B H x y v u Q I j z q hs;rcases q with q |q
 .exact h c f p s B H x y v u Q I j z q hs
 .exact h' c f p s B H x y v u Q I j z q hs
def y7(o:IxR X r)(j:PE X a d)(z:PE X b g)(hs:rm b):PE X (.Subscript a b pos) (tOp r d g):=by
 intro p s C H Q I h;exact Subscript_ (Mn j z I h λv u E x y J f c B q=>o a b p E C J x y v u Q f c B q (hs _ _))
abbrev ME(K:V6):R2:=λx y H Q=>∃p xs i v,x = .ref p/\y = .int i/\SqL K H p xs/\atI xs i=aD v/\Q v H
abbrev RD(K:V6):R2:=λx y H Q=>∃p xs i v,x = .ref p/\y = .int i/\SqT K H p xs/\atI xs i=aD v/\Q v H
abbrev RE:R2:=λx y H Q=>∃z i c,x = .str z/\y = .int i/\z.length<=sizeLine/\atI z.cps.toList i=aD c/\Q (.str ⟨#[c]⟩) H
def y8:IxR X (ME X.K):=by
 intro o B c s O H x y v u Q I T Y h hs;let{p,xs,i,z,rfl,rfl,hq,he,q}:=h;cases T;let{t,rfl}:=Y;let{E,r,pl,hz}:=I.list hq;let{j,f,h2,h3,h4,U}:=rj he;let{w,M,C}:=r.get h2;let Z:=r.length;let hn:=ja;let fin:EP X c O Q w s:=⟨z,H,I,C,q⟩;by_cases L:0<=i
 .let J:i.toNat=j:=by
   rw[ZaM L U]at f;exact θ f
  exact item_listR pl.isList L (by lia) (by rw[J];simpa using M) fin hs
 .let J:(i+(E.toArray.size:Int)).toNat=j:=by
   rw[ZaL (by lia) h4]at f;rw[Zj,<-Z];exact θ f
  exact subscriptTail_builtinR (x:=w) pl.isList.typeIs slot_list_getitem.lookup
   (wpAny_getItem_list_neg (Q:=λr s'=>r=w/\EP X c O Q r s') pl.isList (by lia) (by rw[Zj] <;> lia) (by lia) (by rw[J];simpa using M) ⟨rfl,fin⟩) hs
def UW:IxR X (RD X.K):=by
 intro f o c s C H x y v u Q I E L h hs;let{p,xs,i,z,rfl,rfl,hq,Y,q}:=h;cases E;let{t,rfl}:=L;let{U,r,pl,hz}:=I.tuple hq;let{j,J,T,h3,h4,h5}:=rj Y;let{w,Z,B}:=r.get T;let M:=r.length;let hn:=ja;let fin:EP X c C Q w s:=⟨z,H,I,B,q⟩
 exact subscriptTail_builtinR (x:=w) pl.typeIs slot_tuple_getitem.lookup
  (getItem_tuple (j:=j) (Q:=λr O=>r=w/\EP X c C Q r O) pl (by lia) (by lia) (by rw[Zj,<-M];exact J) (by simpa using Z) ⟨rfl,fin⟩) hs
def MF:IxR X RE:=by
 intro f o p s σ H x y v u Q I C J h hs;let{z,i,c,rfl,rfl,hz,Y,q}:=h;let{t,rfl}:=C;let{t',rfl}:=J;let{j,B,O,h3,U,E}:=rj Y;let L:z.cps.toList.length=z.length:=by simp[Str.length]
 rw[L]at B U E;let Z:=ja
 exact tail_any (ZaY s z t) slot_str_getitem.lookup (getItem_str (c:=c) (by
  let T:decide (i < -(2 ^ 63:Int))=a9:=decide_eq_false (by lia);let M:decide (i ≥ 2 ^ 63)=a9:=decide_eq_false (by lia);rw[T,M,Xk]) (by rw[B];simpa using O) {.str ⟨#[c]⟩,H,I.tok _,⟨_,rfl⟩,q}) hs
abbrev rIx(K:V6):R2:=λx y H Q=>ME K x y H Q\/RD K x y H Q\/RE x y H Q
def CW:IxR X (rIx X.K):=y8.or (UW.or MF)
def wy(its:List Value)(n j:Nat)(u:Value):Obj.mapSeq (·.setIfInBounds j u) {cls:=.type "list",data:=.seq its.toArray n}={cls:=.type "list",data:=.seq (its.set j u).toArray n}:=by
 simp[Obj.mapSeq]
def Inv.lst{c:List (Addr×Obj)}{f:St}{H:Hp}{s:Shared}{p:Addr}{xs:List V}(I:Inv X c f H s)(h:H p=aD (.lst xs)) :
  ∃ (its:List Value) (n:Nat),aP xs its/\s.heap.get? p=aD {cls:=.type "list",data:=.seq its.toArray n}/\xs.length<=sizeLine:=by
 let{z,its,n,r,e}:=I.hok p _ h;exact⟨its,n,r,e,z⟩
def Inv.lstUpd{c:List (Addr×Obj)}{o:St}{H:Hp}{s:Shared}{p:Addr}{xs ys:List V}{its its':List Value}{n j:Nat}{f:Obj->Obj}(I:Inv X c o H s)(h:H p=aD (.lst xs))
  (y:s.heap.get? p=aD {cls:=.type "list",data:=.seq its.toArray n}) (v:f {cls:=.type "list",data:=.seq its.toArray n}={cls:=.type "list",data:=.seq its'.toArray j}) (r:aP ys its') (B:ys.length<=sizeLine) (t:Nat) :
  Inv X c o (upd H p (.lst ys)) {s with heap:=s.heap.update p f,toks:=t}:=by
 let e:(s.heap.update p f).get? p=aD {cls:=.type "list",data:=.seq its'.toArray j}:=by
  rw[XH f y (by rw[v] <;> rfl),v]
 calc I.write (x:=p) (e:=p) (by rw[h];trivial) (.inl rfl) (λb u z q=>(Xw _ _ (Ne.symm z)).trans q) ⟨_,e⟩ ?_;exact⟨B,its',j,r,e⟩
abbrev RF:V->V->V->Hp->(Hp->Prop)->Prop:=λo i v H Q=>∃p xs k j,o = .ref p/\i = .int k/\H p=aD (.lst xs)/\ixN xs.length k=aD j/\Q (upd H p (.lst (xs.set j v)))
def CY:Mf X RF:=by
 intro c s σ H o i v ov iv u Q I ro U T h;let{p,xs,k,j,rfl,rfl,E,Z,q}:=h;cases ro;let{t,rfl}:=U;let{f,n,r,C,Y}:=I.lst E;let{y,h2,O,J}:=rh Z;let B:=r.length;let hn:=ja
 let M:Inv X c σ (upd H p (.lst (xs.set j v))) {s with heap:=s.heap.update p (Obj.mapSeq (·.setIfInBounds j u))}:=
  I.lstUpd E C (wy f n j u) (r.set T j) (by rw[YA];exact Y) s.toks
 by_cases L:0<=k
 .let z:k.toNat=j:=by
   rw[ZaM L J]at y;exact θ y
  exact PySem.W.ki_setAt C L (by lia) (by rw[Zj,<-B];exact J) (by rw[z];exact⟨_,M,q⟩)
 .let z:(k+(f.toArray.size:Int)).toNat=j:=by
   rw[ZaL (by lia) O]at y;rw[Zj,<-B];exact θ y
  exact PySem.W.ki_setBack C (by lia) (by rw[Zj,<-B];exact O) (by lia) (by rw[z];exact⟨_,M,q⟩)
def rq(lo H:Option Int)(n:Nat):(ZaP lo H aT n).1=((HT.sIx n 0 lo:Nat):Int)/\(ZaP lo H aT n).2.1=((HT.sIx n n H:Nat):Int)/\(ZaP lo H aT n).2.2=1:=by
 refine{?_,?_,rfl}
 .cases lo with
  |none=>simp[ZaP,HT.sIx]
  |some i=>
   simp![ZaP,HT.sIx,We,show(1:Int) > 0 by decide,if_true];by_cases h:i < 0
   .simp![h,if_true] <;> lia
   .simp![h,if_false] <;> lia
 .cases H with
  |none=>simp[ZaP,HT.sIx]
  |some i=>
   simp![ZaP,HT.sIx,We,show(1:Int) > 0 by decide,if_true];by_cases h:i < 0
   .simp![h,if_true] <;> lia
   .simp![h,if_false] <;> lia
def pB(its:List Value)(lo h:Option Int):slicePick its.toArray lo h aT=((its.drop (HT.sIx its.length 0 lo)).take (HT.sIx its.length its.length h - HT.sIx its.length 0 lo)).toArray:=by
 let{c,H,f}:=rq lo h its.toArray.size;delta slicePick;rw[c,H,f];simp![sliceRange_one,pick_run,Zj] <;> rfl
abbrev UX(K:V6):V->Option Int->Option Int->Hp->VK->Prop:=λx lo h H Q=>∃a xs,x = .ref a/\SqL K H a xs/\∀p,H p=aT->Q (.ref p) (upd H p (.lst (m9 xs lo h)))
def Hk:SlR X (UX X.K):=by
 intro p s J H x v C E lo f sl Q I u hs pl pu h;let{a,xs,rfl,z,q}:=h;cases u;let{B,r,j,y}:=I.list z;let c:=r.length;calc{"list",_,slot_list_getitem.lookup,j.isList.typeIs,?_};refine wpAny_getItem_list_slice j.isList hs pl pu .none (by simp) ?_ (by rw[Zj] <;> lia);rw[pB,<-c];calc{.ref s⁻¹,_,I.laid (t':=s.toks) (o:=.lst (m9 xs lo f)) (λb ob q=>Zk _ q) (Zc _) ?_,rfl,q _ (I.hok.fresh (Zc _))};exact{Zy (kZ xs lo f) y,_,0,(r.drop (HT.sIx xs.length 0 lo)).take (HT.sIx xs.length xs.length f - HT.sIx xs.length 0 lo),ZJ _ rfl}
abbrev cf:V->Bool
 |.non=>a8
 |.bl _=>a8
 |.int _=>a8
 |.str _=>a8
 |_=>a9
abbrev eqV:V->V->Bool
 |.non,.non=>a8
 |.bl a,.bl b=>a == b
 |.bl a,.int b=>(if a then 1 else 0) == b
 |.int a,.bl b=>a == (if b then 1 else 0)
 |.int a,.int b=>a == b
 |.str a,.str b=>a == b
 |_,_=>a9
def MG(h:aJ y u)(c:aJ x v)(j:cf y=a8)(f:cf x=a8):V3 A s u v (eqV y x):=by
 cases y with
 |non=>
  cases h;cases x with
  |non=>cases c;exact SeqAt.EqAt.same _
  |bl b=>cases c;exact SeqAt.EqAt.none_bool b
  |int b=>let{t,rfl}:=c;exact SeqAt.EqAt.none_int b t
  |str b=>let{t,rfl}:=c;exact SeqAt.EqAt.none_str b t
  |_=>exact absurd (show a9=a8 from f) Ze
 |bl a=>
  cases h;cases x with
  |non=>cases c;exact SeqAt.EqAt.bool_none a
  |bl b=>cases c;exact SeqAt.EqAt.bool_bool a b
  |int b=>let{t,rfl}:=c;exact SeqAt.EqAt.bool_int a b t
  |str b=>let{t,rfl}:=c;exact SeqAt.EqAt.bool_str a b t
  |_=>exact absurd (show a9=a8 from f) Ze
 |int a=>
  let{T,rfl}:=h;cases x with
  |non=>cases c;exact SeqAt.EqAt.int_none a T
  |bl b=>cases c;exact SeqAt.EqAt.int_bool a T b
  |int b=>let{t,rfl}:=c;exact SeqAt.EqAt.int_int a T b t
  |str b=>let{t,rfl}:=c;exact SeqAt.EqAt.int_str a T b t
  |_=>exact absurd (show a9=a8 from f) Ze
 |str a=>
  let{T,rfl}:=h;cases x with
  |non=>cases c;exact SeqAt.EqAt.str_none a T
  |bl b=>cases c;exact SeqAt.EqAt.str_bool a T b
  |int b=>let{t,rfl}:=c;exact SeqAt.EqAt.str_int a T b t
  |str b=>let{t,rfl}:=c;exact SeqAt.EqAt.str_str a T b t
  |_=>exact absurd (show a9=a8 from f) Ze
 |_=>exact absurd (show a9=a8 from j) Ze
abbrev eqU(x:V)(u:Value):Bool:=match u with
 |.none=>eqV .non x
 |.bool b=>eqV (.bl b) x
 |.int i _=>eqV (.int i) x
 |.str z _=>eqV (.str z) x
 |_=>a9
def rA(r:aJ y u)(f:cf y=a8):eqU x u=eqV y x:=by
 cases y with
 |non=>cases r;rfl
 |bl b=>cases r;rfl
 |int i=>let{t,rfl}:=r;rfl
 |str z=>let{t,rfl}:=r;rfl
 |_=>exact absurd (show a9=a8 from f) Ze
def jD:∀ {xs:List V} {U:List Value},aP xs U->xs.all cf=a8->U.any (eqU x)=xs.any λy=>eqV y x
 |_,_,.nil,_=>rfl
 |y::xs,u::U,.cons r t,f=>by
  rw[Z0,bAE]at f;rw[YF,YF,rA r f.1,jD t f.2]
def cS(c:aJ x v)(h:cf x=a8):∀ {xs:List V} {U:List Value},aP xs U->xs.all cf=a8->∀u∈U,V3 A s u v (eqU x u)
 |_,_,.nil,_=>λu hu=>by cases hu
 |y::xs,u::U,.cons r t,f=>λj hu=>by
  rw[Z0,bAE]at f;rcases Zl.mp hu with rfl |hu
  .rw[rA r f.1];exact MG r c f.1 h
  .exact cS c h t f.2 j hu
abbrev inV(x:V)(xs:List V):Bool:=xs.any λy=>eqV y x
abbrev rIn(K:V6)(neg:Bool):R2:=λx y H Q=>∃p xs,y = .ref p/\(SqL K H p xs\/SqT K H p xs)/\cf x=a8/\xs.all cf=a8/\Q (.bl (if neg then !inV x xs else inV x xs)) H
def AX:OpR X (Zau .In) (rIn X.K a9):=by
 intro z s E H x y v u Q I o C h;let{p,xs,rfl,hq,j,fs,q}:=h;cases C;rcases hq with hq |hq
 .let{c,r,pl,B}:=I.list hq;calc SeqAt.in_listAt (eqU x) pl.isList (λw f=>cS o j r fs w (by simpa using f)) {.bl _,H,I,rfl,?_};rw[show c.toArray.any (eqU x)=c.any (eqU x) by simp,jD r fs];exact q
 .let{c,r,pl,B}:=I.tuple hq;calc SeqAt.in_tupleAt (eqU x) pl (λw f=>cS o j r fs w (by simpa using f)) {.bl _,H,I,rfl,?_};rw[show c.toArray.any (eqU x)=c.any (eqU x) by simp,jD r fs];exact q
def rB:OpR X (Zau .NotIn) (rIn X.K a8):=by
 intro z s E H x y v u Q I o C h;let{p,xs,rfl,hq,j,fs,q}:=h;cases C;rcases hq with hq |hq
 .let{c,r,pl,B}:=I.list hq;calc SeqAt.notIn_listAt (eqU x) pl.isList (λw f=>cS o j r fs w (by simpa using f)) {.bl _,H,I,rfl,?_};rw[show c.toArray.any (eqU x)=c.any (eqU x) by simp,jD r fs];exact q
 .let{c,r,pl,B}:=I.tuple hq;calc SeqAt.notIn_tupleAt (eqU x) pl (λw f=>cS o j r fs w (by simpa using f)) {.bl _,H,I,rfl,?_};rw[show c.toArray.any (eqU x)=c.any (eqU x) by simp,jD r fs];exact q
def rC:bc X (.builtin "len") (λxs H Q=>∃p ys,xs=[.ref p]/\(SqL X.K H p ys\/SqT X.K H p ys)/\Q (.int ys.length) H):=by
 intro o s B H xs U Q I r h;let{p,ys,rfl,hq,q}:=h;let{u,rfl,v}:=dr r;cases v;let z:=ja;rcases hq with hq |hq
 .let{j,f,pl,y}:=I.list hq;let c:=f.length;exact WY pl.isList (by simp![Zj] <;> lia) {.int ys.length,H,I.tok _,{s.toks+1,by rw[Zj,c]},q}
 .let{j,f,pl,y}:=I.tuple hq;let c:=f.length;exact len_tuple pl (by simp![Zj] <;> lia) {.int ys.length,H,I.tok _,{s.toks+1,by rw[Zj,c]},q}
def rD:bc X (.type "list") (λxs H Q=>∃p ys,xs=[.ref p]/\(SqL X.K H p ys\/SqT X.K H p ys)/\∀l,H l=aT->Q (.ref l) (upd H l (.lst ys))):=by
 intro y s L H xs U Q I r h;let{p,ys,rfl,hq,q}:=h;let{u,rfl,J}:=dr r;cases J
 let fin:∀ (c:List Value),aP ys c->ys.length<=sizeLine->∀ (f:Heap) (C:Nat),(∀b O,s.heap.get? b=aD O->f.get? b=aD O) ->
   f.get? s⁻¹=aD {cls:=.type "list",dict:=aT,data:=.seq c.toArray C,slots:=#[]}->EP X y L Q (.ref s⁻¹) {s with heap:=f}:=λc j z f C kp e=>
  {.ref s⁻¹,_,I.laid (t':=s.toks) kp (Zc _) (show bD X.prog X.w _ f _ (.lst ys) from ⟨z,c,C,j,e⟩),rfl,q _ (I.hok.fresh (Zc _))}
 rcases hq with hq |hq
 .let{c,j,pl,z}:=I.list hq;let v:=j.length;let{o,E,B,n,hd}:=pl.isList;exact call_list_seq p (.inl rfl) E B hd (λf C kp e=>fin c j z f C kp e) (by simp![Zj] <;> lia)
 .let{c,j,pl,z}:=I.tuple hq;let v:=j.length;let{o,E,B,n,hd}:=pl;exact call_list_seq p (.inr rfl) E B hd (λf C kp e=>fin c j z f C kp e) (by simp![Zj] <;> lia)
def pC:bc X (.type "tuple") (λxs H Q=>∃p ys,xs=[.ref p]/\((SqL X.K H p ys/\∀l,H l=aT->Q (.ref l) (upd H l (.tup ys)))\/(SqT X.K H p ys/\Q (.ref p) H))):=by
 intro c s E H xs U Q I r h;let{p,ys,rfl,h}:=h;let{u,rfl,J}:=dr r;cases J;rcases h with ⟨v,q⟩ |⟨v,q⟩
 .let{f,y,pl,C}:=I.list v;let z:=y.length;refine call_tuple_list pl.isList (λj kp=>?_) (by simp![Zj] <;> lia);let B:Inv X c E H {s with heap:=j}:=I.kept (t':=s.toks) kp
  let L:Inv X c E (upd H j.objs.size (.tup ys)) {s with heap:=j.push {cls:=.type "tuple",data:=.seq f.toArray}}:=
   B.laid (t':=s.toks) (λb o e=>Zk _ e) (Zc _) (show bD X.prog X.w _ _ _ (.tup ys) from {C,f,y,qW.new _ _})
  exact{.ref j.objs.size,_,L,rfl,q _ (B.hok.fresh (Zc _))}
 .let{f,y,pl,C}:=I.tuple v;exact call_tuple_same pl {.ref p,H,I,rfl,q}
abbrev tyV(K:V6)(T:String)(x:V)(H:Hp):Prop:=match x with
 |.str _=>T = "str"
 |.int _=>T = "int"
 |.ref p=>(T = "list"/\∃xs,SqL K H p xs)\/(T = "tuple"/\((∃o,K.lookup p=aD o/\o.cls = .type "tuple"/\o.dict=aT)\/∃xs,H p=aD (.tup xs))) ∨
   (T = "dict"/\((∃c,H p=aD (.dK c))\/∃c,H p=aD (.dT c)))\/(T = "set"/\∃S n,H p=aD (.set S n))
 |_=>False
def MH(I:Inv X u B H s)(r:aJ x v)(ty:tyV X.K T x H) :
  s.TypeIs v T/\∀a,v = .ref a->∃ob,s.heap.get? a=aD ob/\ob.dict=aT:=by
 cases x with
 |str z=>
  let{t,rfl}:=r;cases (show T = "str" from ty);exact{ZaY s z t,λ_ e=>nomatch e}
 |int i=>
  let{t,rfl}:=r;cases (show T = "int" from ty);exact{typeIs_int s i t,λ_ e=>nomatch e}
 |ref p=>
  cases r;rcases ty with ⟨rfl,xs,y⟩ |⟨rfl,⟨o,h,f,hd⟩ |⟨xs,h⟩⟩ |⟨rfl,h⟩ |⟨rfl,S,n,h⟩
  .let{q,_,pl,_}:=I.list y;calc{pl.isList.typeIs,λa e=>?_};cases e;let{o,n,e,c,hd,_}:=pl;exact⟨o,e,hd⟩
  .calc{{o,I.kIn p o h,f},λa e=>?_};cases e;exact{o,I.kIn _ o h,hd}
  .let{_,q,_,o,e,f,_,_,hd}:=I.hok p _ h;calc{⟨o,e,f⟩,λa E=>?_};cases E;exact⟨o,e,hd⟩
  .let z:∃o,s.heap.get? p=aD o/\o.ExactDict:=by
    rcases h with ⟨j,h⟩ |⟨j,h⟩
    .let{_,_,_,_,o,_,_,e,ex,_}:=I.hok p _ h;exact⟨o,e,ex⟩
    .let{_,_,_,_,o,_,_,e,ex,_}:=I.hok p _ h;exact⟨o,e,ex⟩
   let{o,e,ex}:=z;calc{⟨o,e,ex.1⟩,λa E=>?_};cases E;exact⟨o,e,ex.2.1⟩
  .let{o,_,_,_,e,ex,_}:=I.hok p _ h;calc{⟨o,e,ex.1⟩,λa E=>?_};cases E;exact⟨o,e,ex.2.1⟩
 |_=>exact False.elim ty
abbrev tBM(K:V6)(T:String)(r:V->List V->Hp->VK->Prop)(f:TE)(t:TA):TE:=λc H Q=>f c H λx h=>tyV K T x h/\t c h λxs j=>r x xs j Q
variable {o e:Expr} {es:List Expr} {a:TE} {t:TA} {name:Str} {A c:Pos} {T i:String} {r:V->List V->Hp->VK->Prop}
def k8(J:PlainAttrs T)(slot:Slot T name i)(z:typeOf (.builtin i)=pure (.type "method_descriptor"))(L:MtR X i r)(Y:PE X o a)(E:PA X (e::es) t)
  (j:Zah o name X.env (eval o X.env)=eval o X.env:=by rfl)
  (u:((backTo c (ZaQ (e::es) X.env)).all (λx=>!x.1) && (Zai c (ZaC [] X.env)).all (λx=>x.1.isSome)
   && decide ((e::es).length+([]:List Keyword).length+(if ([]:List Keyword).isEmpty then 0 else 1) < 30))=a8:=by rfl)
  (q:(A.endLine == c.line)=a8:=by rfl) (hs:ZaQ (e::es) X.env=(a9,eval e X.env)::ZaQ es X.env:=by rfl) (f:(backTo c (ZaQ es X.env)).any (·.1)=a9:=by rfl) :
  PE X (.Call (.Attribute o name A) (e::es) [] c) (tBM X.K T r a t):=by
 intro p s y H Q I h;calc Za2 j u q rfl (thn (Y p s y H _ I h) λv s1 ⟨x,O,B,r1,ty,q1⟩=>?_);let{M,Z}:=MH B r1 ty;calc{T,i,J,slot,z,M,Z,?_};let C:=E c p s1 y O _ B q1;rw[hs]at C ⊢;refine WX (by show(a9 || (backTo c (ZaQ es X.env)).any (·.1))=a9;rw[f] <;> rfl) (WZ ?_);exact thn C λus s2 ⟨vs,H2,U,r2,q2⟩=>L p s2 y H2 x vs v us Q U r1 r2 q2
end
abbrev MtM(X:Cx)(id:String)(r:V->List V->Hp->VK->Prop):Prop:=
 ∀ (p:List (Addr×Obj)) (s:Shared) (b:St) (H:Hp) (x:V) (xs:List V) (v:Value) (u:List Value) (Q:VK),Inv X p b H s->aJ x v->aP xs u->r x xs H Q ->
  wpAny (model X.prog X.w) X.A (call (.builtin id) (v::u)) (EP X p b Q) X.xe s
def aP.one:∀ {x:V} {U:List Value},aP [x] U->∃u,U=[u]/\aJ x u
 |_,_,.cons r .nil=>⟨_,rfl,r⟩
def aP.eraseIdx:∀ {xs:List V} {u:List Value} (i:Nat),aP xs u->aP (xs.eraseIdx i) (u.eraseIdx i)
 |_,_,_,.nil=>.nil
 |_,_,0,.cons _ t=>t
 |_,_,i+1,.cons r t=>.cons r (aP.eraseIdx i t)
def aP.rep(h:aP xs u):∀k:Nat,aP (Zr k xs).flatten (Zr k u).flatten
 |0=>.nil
 |k+1=>by
  rw[Yi,Yi,YE,YE];exact aP.append h (aP.rep h k)
def qa{b:Type}:∀ (l:List b) (i:Nat),(l.eraseIdx i).length<=l.length
 |[],_=>Zc _
 |_::_,0=>Yw _
 |_::r,i+1=>Xn (qa r i)
def qb(its:List Value):∀ (k:Nat) (b:List Value),
  Wo (λc X=>c++X) b.toArray (Zr k its.toArray)=(b++(Zr k its).flatten).toArray
 |0,b=>by simp
 |k+1,b=>by
  let e:b.toArray++its.toArray=(b++its).toArray:=by simp
  let E:(b++its)++(Zr k its).flatten=b++(Zr (k+1) its).flatten:=by
   rw[Yi,YE,ZK]
  rw[<-E,<-qb its k (b++its),<-e,Yi,YM]
section
variable {X:Cx} {p:List (Addr×Obj)} {a:St} {H:Hp} {s:Shared} {l b:Addr} {xs ys zs:List V}
def Inv.lset{its its':List Value}{n:Nat}{f:Array Value->Array Value}{t':Nat}(I:Inv X p a H s)(h:H l=aD (.lst xs))
  (e:s.heap.get? l=aD {cls:=.type "list",data:=.seq its.toArray n}) (o:f its.toArray=its'.toArray) (v:aP ys its') (j:ys.length<=sizeLine) :
  Inv X p a (upd H l (.lst ys)) {s with heap:=s.heap.update l (Obj.mapSeq f),toks:=t'}:=by
 let q:=PySem.IsL.update e f;rw[o]at q;calc I.write (x:=l) (e:=l) (by rw[h];exact trivial) (.inl rfl) (λB u g c=>(Xw s.heap (Obj.mapSeq f) (Ne.symm g)).trans c) ⟨_,q⟩ ?_;exact⟨j,its',_,v,q⟩
def Inv.lnew{t':Nat}(I:Inv X p a H s)(c:aP ys its)(h:ys.length<=sizeLine) :
  Inv X p a (upd H s⁻¹ (.lst ys)) {s with heap:=s.heap.push {cls:=.type "list",data:=.seq its.toArray},toks:=t'}:=
 I.laid (λ_ _ q=>Zk _ q) (Zc _) {h,its,0,c,ZJ _ rfl}
def Inv.fresh(I:Inv X p a H s):H s⁻¹=aT:=I.hok.fresh (Zc _)
def Inv.lstM(I:Inv X p a H s)(h:H l=aD (.lst xs)):xs.length<=sizeLine/\∃ (its:List Value) (n:Nat),aP xs its/\xs.length=its.length/\s.heap.get? l=aD {cls:=.type "list",data:=.seq its.toArray n}:=by
 let{z,its,n,r,e}:=I.hok l _ h;exact⟨z,its,n,r,r.length,e⟩
def t6{n:Nat}(h:n<=sizeLine):Builtin.List.listTooLong n=a9:=by
 delta Builtin.List.listTooLong;exact decide_eq_false (by lia)
end
section
variable {X:Cx}
abbrev Hl:V->List V->Hp->VK->Prop:=λx v H Q=>∃l xs y,x = .ref l/\v=[y]/\H l=aD (.lst xs)/\xs.length < sizeLine/\Q .non (upd H l (.lst (xs++[y])))
def qc:MtM X "list.append" Hl:=by
 intro p s C H x E v U Q I f g h;let{l,xs,y,rfl,rfl,c,B,q}:=h;cases f;let{u,rfl,j}:=g.one;let{z,b,n,r,o,e}:=I.lstM c;calc Zap W9 ⟨_,e,rfl⟩ F.entry_list_append (F.args_list_append_2 _ _) (PySem.list_append l b.toArray n u (by rw[Zj];lia)) {e,?_};calc{.non,_,I.lset (its':=b++[u]) c e (by simp) (r.append (.cons j .nil)) ?_,rfl,q};rw[Zi,ZO]
 lia
abbrev MI:V->List V->Hp->VK->Prop:=λx v H Q=>∃l xs i k y,x = .ref l/\v=[.int i]/\H l=aD (.lst xs)/\-(2 ^ 63)<=i/\i < 2 ^ 63/\seqIndex? i xs.length=aD k/\xs[k]?=aD y/\Q y (upd H l (.lst (xs.eraseIdx k)))
def CZ:MtM X "list.pop" MI:=by
 intro p s O H x T v U Q I j C h;let{l,xs,i,k,y,rfl,rfl,f,o,J,B,g,q}:=h;cases j;let{u,rfl,L}:=C.one;let{t,rfl}:=L;let{z,b,n,r,E,e}:=I.lstM f;let{w,M,c}:=r.get g
 refine Zap VG ⟨_,e,rfl⟩ F.entry_list_pop (F.args_list_pop_2 _ _)
  (MeetsSeq.list_pop_at l b.toArray n i t k w (fitsIndex_both o J) (by rw[Zj,<-E];exact B) (by rw[<-YQ];exact M) (by rw[Zj];lia)) {e,?_}
 refine{y,_,I.lset (its':=b.eraseIdx k) f e ?_ (r.eraseIdx k) ?_,c,q}
 .show b.toArray.eraseIdxIfInBounds k=(b.eraseIdx k).toArray;rw[List.eraseIdxIfInBounds_toArray]
 .let:=qa xs k
  lia
abbrev UY:R2:=λx y H Q=>∃l b xs z,x = .ref l/\y = .ref b/\H l=aD (.lst xs)/\H b=aD (.lst z)/\xs.length+z.length<=sizeLine/\∀p,H p=aT->Q (.ref p) (upd H p (.lst (xs++z)))
def wz:OpR X (Zak .Add) UY:=by
 intro p s U H x y v u Q I j o h;let{l,b,xs,Z,rfl,rfl,B,C,T,q}:=h;cases j;cases o;let{z,f,n,r,O,e}:=I.lstM B;let{L,c,M,r2,g,E}:=I.lstM C;calc PySem.P.add_list e E ?_ (by rw[Zj,Zj];lia);let J:f.toArray++c.toArray=(f++c).toArray:=by simp
 rw[J];exact{.ref _,_,I.lnew (t':=s.toks) (r.append r2) (by rw[Zi];lia),rfl,q _ I.fresh}
abbrev UZ:R2:=λx y H Q=>∃l k xs,x = .ref l/\y = .int k/\H l=aD (.lst xs)/\-(2 ^ 63)<=k/\k < 2 ^ 63/\xs.length * k.toNat<=sizeLine ∧
 ∀p,H p=aT->Q (.ref p) (upd H p (.lst (Zr k.toNat xs).flatten))
def Hm{b:Type}(xs:List b)(k:Nat):(Zr k xs).flatten.length=k * xs.length:=by
 induction k with
 |zero=>simp
 |succ k I=>rw[Yi,YE,Zi,I,Xx,Nat.add_comm]
def MJ:OpR X (Zak .Mult) UZ:=by
 intro C s σ H x y v u Q I J M h;let{l,k,xs,rfl,rfl,Z,L,h2,E,q}:=h;cases J;let{t,rfl}:=M;let{z,b,n,r,O,e}:=I.lstM Z;let f:b.toArray.size * k.toNat<=sizeLine:=by rw[Zj,<-O];exact E
 let o:¬ b.toArray.size * k.toNat > (2 ^ 63 - 1) / 8:=by
  let:(sizeLine:Nat)<=(2 ^ 63 - 1) / 8:=by decide
  lia
 let g:¬ (!Builtin.List.listFitsIndex k)=a8:=by
  rw[fitsIndex_both L h2];exact Ze
 let c:¬ Builtin.List.listTooLong (b.toArray.size * k.toNat)=a8:=by
  rw[t6 f];exact Ze
 let j:Wo (λB p=>B++p) #[] (Zr (if b.toArray.isEmpty=a8 then 0 else k.toNat) b.toArray)=(Zr k.toNat b).flatten.toArray:=by
  let f0:∀m:Nat,Wo (λB p=>B++p) #[] (Zr m b.toArray)=(Zr m b).flatten.toArray:=λm=>by
   let:=qb b m [];rw[Yb]at this;exact this
  rw[f0];cases b with
  |nil=>simp
  |cons a r'=>rw[if_neg (by simp)]
 refine wpAny_binaryOp_repeat_ref (T := "list") (U := "int") (by decide) ⟨_,e,rfl⟩ (λY=>typeIs_int Y k t) noFill_list_mul F.fills_int_mul F.slot_int_rmul repeat_list F.slot_int_index.lookup
  (Zap F.slot_int_rmul (typeIs_int s k t) F.entry_int_rmul (F.args_int_rmul_2 _ _) (int___rmul___int_list k t l b.toArray n)
   {e,rfl,⟨_,e,rfl⟩,Zap F.slot_list_mul ⟨_,e,rfl⟩ F.entry_list_mul (F.args_list_mul_2 _ _) (AutoListH.list___mul___list_int_3 l b.toArray n k t g o c) {e,?_}})
 rw[j];exact{.ref _,_,I.lnew (t':=s.toks) (r.rep k.toNat) (by rw[Hm,Nat.mul_comm];exact E),rfl,q _ I.fresh}
end
end L2
namespace Att
open PySem PySem.W PySem.Calls PyProof.Rows
def lY:∀ (ns:List Int) (v:List Value),WellAll P h v (ns.map WData.int)->IntsAre v ns:=by
 intro ns
 induction ns with
 |nil=>
  intro v w;rw[ZX]at w;cases w;exact .nil
 |cons n ns I=>
  intro v w;rw[Zx]at w;cases w with
  |cons a b=>
   cases a;exact .cons _ _ (I _ b)
def AY{l:OpenLaw}{n:Nat}(B:l.most=aD n){P:Params}{h:Heap}{args:List WData}{v:List Value}
  (H:l.row.toRowW.claim.pre args=a8) (j:WellAll P h v args) :
  ∃a u ns,v=[Value.ref a]/\args=[WData.list (ns.map WData.int)]/\h.get? a=aD {cls:=.type "list",data:=.seq u.toArray}/\IntsAre u ns/\ns.length<=n:=by
 let o:WShape.hasAll [] args [.list .int]=a8:=(pre_splitW H).1;let p:l.pre.holds [] {args:=args}=a8:=(pre_splitW H).2;let{d,r,rfl,y,E}:=hasAllW_cons o;obtain rfl:=hasAllW_nil E;let{xs,rfl,I}:=hasW_list y;let{ns,rfl}:=items_int I
 let b:ns.length<=n:=by
  delta OpenLaw.pre at p
  let g:(WTm.not (.lt (.lit (.int (n:Int))) (.len (.arg 0)))).holds [] {args:=[.list (ns.map .int)]}=a8:=by
   let g:=(holds_andW p).1;rw[B]at g;exact g
  let f:=condW_of g (w_not (w_lt w_lit (w_len_list (w_arg rfl))));rw[Za]at f;calc Nat.le_of_not_lt λq=>?_;let Q:(n:Int) < ((ns.length:Nat):Int):=by lia
  first
   |(rw[decide_eq_true Q]at f;exact absurd f (by decide))
   |(simp at f;lia)
 cases j with
 |cons z w2=>
  cases w2;cases z with
  |list C c=>exact{_,_,ns,rfl,rfl,C,lY ns _ c,b}
def AZ(l:OpenLaw)(args:List WData):l.row.toRowW.claim.post args (.bool a8) args=a8:=
 postW_of (r:=l.row.toRowW) (X:=(a8 == a8))
  (show WShape.has [] (.bool a8) .bool=a8 by first |rfl |decide |simp[WShape.has,WShape.arms,WShape.armsAll])
  (show(WTm.eq .res (.lit (.bool a8))).value [] {args:=args,res:=aD (.bool a8),after:=args}=aD (.bool (a8 == a8)) from w_eq_bool (w_res rfl) w_lit) rfl
def attach_call{l:OpenLaw}{n:Nat}{q:Program}{loose:List Str}{X:(Str->Option Value)->Heap->Prop}{J:World->Heap->Prop}{d:DefRec}
  (hn:l.most=aD n) (I:d.params.defaults=[])
  (call:∀ (w:World) (s₀ b:Shared) (mg M:Str->Option Value) (p:Addr) (o:Obj) (E C c:Value) (a:Addr) (v:List Value) (ns:List Int),
   Ground q loose [] X w s₀ mg M b.heap->J w b.heap ->
   b.heap.get? p=aD o->o.data = .func (docDef d.name d.params d.body d.scope E C c)->b.heap.CodeRec C d.name->mg d.name=aD (.ref p) ->
   b.heap.get? a=aD {cls:=.type "list",data:=.seq v.toArray}->IntsAre v ns->ns.length<=n->b.gens=#[] ->
   codeAny (model l.prog w) callerA (.call (.ref p) ⟨[.ref a],[]⟩) (λr u=>r = .ok (.ret (.bool a8))/\OldK b.heap u.heap/\u.os=b.os/\AllBare u.gens) b) :
  WalkO q loose X J l.row.toRowW d [] (λf v=>PySem.call f v):=by
 intro w s₀ b mg M G Y p o E C c dV kV ho hd y O z hg Q L as j T U B hlo;obtain rfl:dV = .none:=Dflts.none O I;obtain rfl:kV = .none:=Dflts.noKw O;let{a,v,ns,rfl,rfl,g,h,H}:=AY hn j B;calc enter_call (Zat (call w s₀ b mg M p o E C c a v ns G Y ho (fd_plain hd) y z g h H hg) λr u hq=>?_);let{rfl,h2,h3,h4}:=hq;exact{.inl {.bool a8,.bool a8,[],rfl,λ_=>rfl,.bool a8,AZ l _,λ_=>{List.Pairwise.nil,λ_ Z=>(nomatch Z)}},h2,h3,h4}
end Att
namespace L2
open PySem PySem.Spec PyProof.Rows
def km:∀ {v:List Value} {ns:List Int},IntsAre v ns->aP (ns.map V.int) v
 |_,_,.nil=>.nil
 |_,_,.cons n t h=>.cons ⟨t,rfl⟩ (km h)
abbrev RG(H:Hp):Prop:=∀b,H b=aT\/∃o xs,H b=aD (.frz o (.lst xs))
def C0{P:Program}{w:World}{K:V6}{mg T:Str->Option Value}{CX:CXT}{k:Nat}{fa a:Addr}{fd:VN}{x:Str}{sp:Sp}{s₁:Shared}{j:List Value}{ns:List Int}
  (KX:K.In s₁.heap) (y:s₁.heap.Ns ZaF mg) (c:s₁.heap.Ns Zao T) (hbb:∀x:Str,x≠"__name__"->T x=Zam x) (I:s₁.heap.NoLimit) (hg:s₁.gens=#[])
  (O:s₁.heap.get? a=aD {cls:=.type "list",data:=.seq j.toArray}) (hi:IntsAre j ns) (hl:ns.length<=sizeLine) (hr:Room k callerA)
  (F:∀base:Heap,K.In base->base.Ns ZaF mg->FnOk P w K mg base CX k fa fd [x] sp) (p:∀ (s:Shared) (u:Value),BindsTo s fd ⟨[u],[]⟩ [(x,u)])
  (U:∀H:Hp,RG H->SqL K H a (ns.map V.int)->sp [.ref a] H (λv _=>v = .bl a8) λ_ _ _=>False)
  (hCX:∀H e f,CX [] H s₁ (λ_ _ _=>False) e f->False) :
  codeAny (model P w) callerA (.call (.ref fa) ⟨[.ref a],[]⟩) (λr f=>r = .ok (.ret (.bool a8))/\OldK s₁.heap f.heap/\f.os=s₁.os/\AllBare f.gens) s₁:=by
 let rv:=km hi;let M:=hi.length
 let C:∀H:Hp,RG H->SqL K H a (ns.map V.int)->HOk P w H s₁.heap->(∀b,H b≠aT->b=a)->(H a≠aT->K.lookup a=aT) ->
   codeAny (model P w) callerA (.call (.ref fa) ⟨[.ref a],[]⟩) (λr f=>r = .ok (.ret (.bool a8))/\OldK s₁.heap f.heap/\f.os=s₁.os/\AllBare f.gens) s₁:=by
  intro H hO hS hok hA hK;let B:∀ {b:Addr} {o:Obj},s₁.heap.get? b=aD o->H b=aT->(qX s₁.heap H).get? b=aD o:=λe n=>Cu e n
  let Y:∀ {b:Addr} {o:Obj} {J:Array DictEntry} {ep:Nat},s₁.heap.get? b=aD o->o.data = .dict J ep->H b=aT:=λ{b o J ep} e d=>by
   cases q:H b with
   |none=>rfl
   |some u=>
    let Q:b=a:=hA b (by rw[q];simp);subst Q;rw[O]at e;cases e;let d':Data.seq j.toArray _=Data.dict J ep:=d;cases d'
  let g:∀ {b:Addr} {m:Str->Option Value},s₁.heap.Ns b m->(qX s₁.heap H).Ns b m:=λ{b m} ⟨o,J,ep,e,d,r⟩=>{o,J,ep,B e (Y e d),d,r}
  let L:K.In (qX s₁.heap H):=λb o e=>B (KX b o e) (by
   cases q:H b with
   |none=>rfl
   |some u=>
    let Q:b=a:=hA b (by rw[q];simp);subst Q;rw[hK (by rw[q];simp)]at e;cases e)
  let hM:Mod K mg (qX s₁.heap H):={L,g y,{T,g c,hbb},let ⟨mc,h1,h2⟩:=I;{mc,g h1,h2}};let e0:Env0 P w K mg (qX s₁.heap H) callerA [] s₁ H:={rfl,hM,λb o e=>G2 e,Nat.le_of_eq (AL _ _),trivial,λb c=>absurd (show b∈([]:List Addr) from c) (by simp),hok,.of_eq hg};calc Zat ((F _ L (g y)).run callerA [] s₁ H ⟨[.ref a],[]⟩ [.ref a] [.ref a] _ _ hr e0 (p s₁ (.ref a)) (.cons rfl .nil) (U H hO hS)) λr f h=>?_;cases r with
  |error e=>exact(hCX H e f h).elim
  |ok fl=>
   cases fl with
   |next=>exact False.elim h
   |brk=>exact False.elim h
   |cont=>exact False.elim h
   |ret u=>
    let{v,H',os,bare,un,E,r',q}:=h;let q':v = .bl a8:=q;subst q';obtain rfl:u=Value.bool a8:=r';calc{rfl,OldK.of_keep λb o e=>?_,os,bare};cases q:H b with
    |none=>exact un.keep b o e q (by intro z;exact absurd (show b∈([]:List Addr) from z) (by simp)) (by simp)
    |some u=>
     rcases hO b with z |⟨ob,xs,z⟩
     .rw[q]at z;cases z
     .let z2:=un.frzs b ob _ z;let{e1,_}:=hok b _ z;let{e2,_}:=E b _ z2;rw[e]at e1;cases e1;exact e2
 cases X:K.lookup a with
 |some o=>
  let e:=KX a o X;rw[O]at e;cases e;refine C (λ_=>aT) (λ_=>.inl rfl) (.inr {_,j.toArray,_,X,rfl,rfl,rfl,by rw[Zj,M];exact hl,by simpa using rv}) (λb u z=>by let Z:(aT:Option HO)=aD u:=z;cases Z) (λb z=>absurd rfl z) λz=>absurd rfl z
 |none=>
  refine C (λb=>if b=a then aD (.frz {cls:=.type "list",data:=.seq j.toArray} (.lst (ns.map V.int))) else aT) (λb=>?_) (.inl (.inr {{cls:=.type "list",data:=.seq j.toArray},if_pos rfl})) (λb u z=>?_) (λb z=>?_) λ_=>X
  .by_cases c:b=a
   .exact .inr {_,_,if_pos c}
   .exact .inl (if_neg c)
  .by_cases c:b=a
   .let Z:=(if_pos c).symm.trans z;cases Z;subst c;exact{O,by rw[Za];exact hl,j,_,rv,O}
   .let Z:=(if_neg c).symm.trans z;cases Z
  .by_cases c:b=a
   .exact c
   .exact absurd (if_neg c) z
@[inline]abbrev CX0:CXT:=λ_ _ _ _ _ _=>False
@[inline]abbrev E0:XK:=λ_ _ _=>False
structure Fun(K:V6)(x qual:Str)(st:Stmt)(f:Addr)(fd:VN):Prop where
 ex:∃ (oc:Value) (od:Option Addr) (kV doc pm:Value) (an:Option Addr) (cdv ct:Value) (osl:Array (Option Value)),
  fd=Pi x qual (eD st) (bx st) (av st) .none kV doc pm an cdv ct/\K.lookup f=aD {oc,od,.func fd,osl}/\Up K cdv qual=a8
 kp:OF K (.ref f)=a8
section
variable {P:Program} {w:World} {K:V6} {m:Str->Option Value} {base:Heap}
def Fun.binds{x q:Str}{st:Stmt}{f:Addr}{g:VN}{ps:List Str}(F:Fun K x q st f g)
  (h:∀ (kV b p:Value) (an:Option Addr) (c ct:Value) (u:List Value),u.length=ps.length->bindArgs (Pi x q (eD st) (bx st) (av st) .none kV b p an c ct) ⟨u,[]⟩=pure (ps.zip u)):dN K g ps []:=by
 let{O,j,kV,b,p,an,c,ct,o,rfl,L,H}:=F.ex;exact .all (h kV b p an c ct)
def ML{x qual:Str}{st:Stmt}{f:Addr}{O:Value}{g an:Option Addr}{o:Array (Option Value)}{kV b p C ct:Value}(l:K.lookup f=aD {O,g,.func (Pi x qual (eD st) (bx st) (av st) .none kV b p an C ct),o})
  (c:Up K C qual=a8) (k:OF K (.ref f)=a8):Fun K x qual st f (Pi x qual (eD st) (bx st) (av st) .none kV b p an C ct):=⟨⟨O,g,kV,b,p,an,C,ct,o,rfl,l,c⟩,k⟩
end
def A0{n:Nat}(h:n<=1000):n < sizeLine:=Nat.lt_of_le_of_lt h (by decide)
abbrev rE(ifs:List Expr)(env:Env):Sem Bool:=
 forIn ifs a8 λc r=>if r=a8 then do let ok <-isTrue c env (eval c env);pure (ForInStep.yield ok) else pure (ForInStep.yield r)
inductive CmK where
 |l (elt:Expr) |d (k v:Expr)
abbrev cmE:CmK->List W2->Scope->Pos->Expr
 |.l e=>.ListComp e
 |.d k v=>.DictComp k v
abbrev cmP:CmK->Env->Value->Sem Unit
 |.l e,env,acc=>do let _ <-call (.builtin "list.append") [acc,<-eval e env]
 |.d k v,env,acc=>do
  let a <-eval k env
  let b <-holding [a] (eval v env)
  match acc with
  |.ref d=>do
   standAt {k.pos with endLine:=v.pos.endLine,endCol:=v.pos.endCol}
   holding [a,b] (dictSet d a b)
  |_=>unsupported "internal:dictcomp"
abbrev cmN:CmK->Sem Value
 |.l _=>newList []
 |.d _ _=>newDict
abbrev cmO:CmK->HO
 |.l _=>.lst []
 |.d _ _=>.dK []
def Hn{d:Nat}{c:CmK}
  (hg:g[d]?=aD ⟨T,B,ifs,0⟩)
  (h:wpAny M A (pyNext I) (λr y=>match r with
   |none=>Q (.done .next) y
   | some v=>wpAny M A (ZaD T I v) (λ_ O=>wpAny M A (assign T env v) (λ_ z=>wpAny M A (rE ifs env) (λok p=>if ok=a8 then (match g[d+1]? with
     |none=>wpAny M A (cmP c env f) (λ_ o=>Q (.again (.compLoop (cmE c g b pos) d I f env)) o) E p
     | some g'=>g'.is_async=0/\wpAny M A (eval g'.iter env) (λx u=>wpAny M A (Zay g'.iter env x) (λX o=>wpAny M A (pyIter X) (λj U=>
       wpAny M A (runOwn (.compStart (cmE c g b pos) (d+1) j f env) env) (λ_ J=>Q (.again (.compLoop (cmE c g b pos) d I f env)) J) E U) E o) E u) E p)
    else Q (.again (.compLoop (cmE c g b pos) d I f env)) p) E z) E O) E y) E s) :
  wpAny M A (compTurn (cmE c g b pos) d I f env) Q E s:=by
 cases c <;>
 .delta compTurn;simp![cmE,hg];calc Za4 (Zbu ?_);show wpAny M A (pyNext I >>= _) Q E s;calc Za4 (Zbi h (λr y C=>?_) λ_ _ x=>x);cases r with
  |none=>exact Zbn C
  |some v=>
   calc Za4 (Zbi C (λ_ O h2=>?_) λ_ _ x=>x);calc Za4 (Zbi h2 (λ_ z h3=>?_) λ_ _ x=>x);calc Za4 (Zbi h3 (λok p H=>?_) λ_ _ x=>x);cases ok with
   |false=>exact Zbn H
   |true=>
    simp![if_true]at H ⊢;cases L:g[d+1]? with
    |none=>
     rw[L]at H;exact Za4 (m:=cmP _ env f) (Zbi H (λ_ o q=>Zbn q) λ_ _ x=>x)
    |some g'=>
     rw[L]at H;let{Z,H}:=H;calc Za4 (Zbi H (λx u h5=>Za4 (Zbu ?_)) λ_ _ x=>x);rw[Z];show wpAny M A (Zay g'.iter env x >>= _) Q E u;calc Za4 (Zbi h5 (λX o q=>?_) λ_ _ x=>x);calc Za4 (Zbc (Zbi q (λj U h7=>?_) λ_ _ x=>x));exact Za4 (Zbi h7 (λ_ J Y=>Zbn Y) λ_ _ x=>x)
abbrev cA(c:List (Str×Addr)):List (Str×VP)->List (Str×Addr)->List (Str×Addr)
 |[],acc=>acc
 |(n,k)::r,acc=>if k == .free then cA c r ((n,(c.lookup n).getD 0)::acc) else cA c r acc
def jb:∀ (b:List (Str×VP)) (f:List (Str×Addr)),(∀y∈b,y.2 = .free->∃c,env.cells.lookup y.1=aD c) ->
  (forIn b f λ(x:Str×VP) (C:List (Str×Addr))=>(match x with |(name,kind)=>if kind == .free then (do let a <-cellOf env name;pure (ForInStep.yield ((name,a)::C))) else pure (ForInStep.yield C):Sem (ForInStep (List (Str×Addr)))))
   = (pure (cA env.cells b f):Sem (List (Str×Addr)))
 |[],f,_=>by rw[Xa];rfl
 |(n,k)::r,f,h=>by
  rw[XD];let g:∀y∈r,y.2 = .free->∃c,env.cells.lookup y.1=aD c:=λy o=>h y (Zh _ o);cases H:(k == NameKind.free) with
  |true=>
   let{c,j}:=h (n,k) Zf (by simpa using H);let e:cellOf env n=pure c:=by delta cellOf;rw[show env.cells.lookup n=aD c from j]
   simp![H,if_true,e,pure_bind];rw[jb r _ g]
   conv=>rhs;rw[cA]
   simp![H,if_true];rw[show env.cells.lookup n=aD c from j];rfl
  |false=>
   simp![H,Ym,if_false,pure_bind];rw[jb r _ g]
   conv=>rhs;rw[cA]
   simp![H,Ym,if_false]
def y9(h:∀y∈b.names,y.2 = .free->∃c,env.cells.lookup y.1=aD c):closureFor b env=pure (cA env.cells b.names []):=by
 let e:=jb (env:=env) b.names [] h;delta closureFor;refine Eq.trans ?_ e
 first
  |rfl
  |(rw[bind_pure])
  |(simp![bind_pure])
def kn:∀ {b:List (Str×VP)} {f:List (Str×Addr)} {x:Str} {c:Addr},(x,c)∈cA C b f->(x,c)∈f\/((x,NameKind.free)∈b/\c=(C.lookup x).getD 0)
 |[],_,_,_,h=>.inl h
 |(n,k)::r,f,x,c,h=>by
  delta cA at h;split at h
  .rename_i g;let H:k = .free:=by simpa using g
   rcases kn h with e |⟨e,q⟩
   .rcases Zl.mp e with e |e
    .cases e;exact .inr {by rw[H];exact Zf,rfl}
    .exact .inl e
   .exact .inr {Zh _ e,q}
  .rcases kn h with e |⟨e,q⟩
   .exact .inl e
   .exact .inr {Zh _ e,q}
def gz:∀ {l:List (Str×Addr)},(∃c,(x,c)∈l)->∃c,l.lookup x=aD c
 |[],⟨_,h⟩=>nomatch h
 |(n,c)::r,⟨c',h⟩=>by
  rw[ZT];cases H:x == n with
  |true=>exact⟨c,rfl⟩
  |false=>
   rcases Zl.mp h with e |e
   .cases e;simp at H
   .exact gz ⟨c',e⟩
def iu:∀ {b:List (Str×VP)} {acc:List (Str×Addr)},(x,NameKind.free)∈b\/(∃c,(x,c)∈acc)->∃c,(x,c)∈cA cells b acc
 |[],_,h=>h.elim (λe=>nomatch e) id
 |(n,k)::r,acc,h=>by
  delta cA;split
  .rename_i H;calc iu ?_;rcases h with h |⟨c,h⟩
   .rcases Zl.mp h with e |e
    .cases e;exact .inr ⟨_,Zf⟩
    .exact .inl e
   .exact .inr {c,Zh _ h}
  .rename_i H;calc iu ?_;rcases h with h |⟨c,h⟩
   .rcases Zl.mp h with e |e
    .cases e;exact absurd rfl H
    .exact .inl e
   .exact .inr ⟨c,h⟩
def cP:∀ (b:List (Str×VP)) (n:Nat) (c:List (Str×Addr)),Zaq n b c=Zaq n b []++c
 |[],_,_=>rfl
 |(y,k)::r,n,c=>by
  delta Zaq;split
  .rw[cP r (n+1) ((y,n)::c),cP r (n+1) [(y,n)],ZK];rfl
  .exact cP r n c
def eW:∀ (b:List (Str×VP)) (n:Nat) (f:List (Str×Addr)) (x:Str) (c:Addr),(x,c)∈Zaq n b f->(x,c)∈f\/(x,NameKind.cell)∈b
 |[],_,_,_,_,h=>.inl h
 |(y,k)::r,n,f,x,c,h=>by
  delta Zaq at h;split at h
  .rename_i g;let H:k = .cell:=by simpa using g
   rcases eW r _ _ x c h with e |e
   .rcases Zl.mp e with e |e
    .cases e;exact .inr (by rw[H];exact Zf)
    .exact .inl e
   .exact .inr (Zh _ e)
  .rcases eW r _ _ x c h with e |e
   .exact .inl e
   .exact .inr (Zh _ e)
abbrev pD(sc:Scope)(n:Str)(k:VP):VP:=if (k == .free && sc.kind == .function && sc.names.lookup n == aD .cell) then .cell else k
abbrev gA(b sc:Scope):Scope:={b with names:=b.names.map λy=>(y.1,pD sc y.1 y.2)}
def Ho(b:Scope)(env:Env):relabel b env=gA b env.scope:=by
 delta relabel gA
 congr 1
 calc YG λy _=>?_;let{n,k}:=y;delta pD;dsimp!;show(if (k == NameKind.free && env.scope.kind == ScopeKind.function && XR n env.scope.names == aD NameKind.cell)=a8 then (n,NameKind.cell) else (n,k))=_;split <;> rfl
def gB(sc:Scope)(x:Str):∀b:List (Str×VP),(b.map λy=>(y.1,pD sc y.1 y.2)).lookup x=(b.lookup x).map (pD sc x)
 |[]=>rfl
 |(n,k)::r=>by
  rw[Zx,ZT,ZT];dsimp!;cases h:x == n with
  |true=>
   let q:x=n:=by simpa using h
   subst q;rfl
  |false=>exact gB sc x r
abbrev wD(scope:Scope)(C:Addr)(env:Env):Env:=
 {scope:=gA scope env.scope,locals:=C,globals:=env.globals,cells:=Zaq (C+1) scope.names (cA env.cells scope.names []),qual:=env.qual,func:=aT,code:=env.code,frame:=env.frame,builtins:=env.builtins}
def A6
  (h:Q {scope:=scope,locals:=s⁻¹,globals:=env.globals,cells:=Zaq (s⁻¹+1) scope.names cl,qual:=env.qual,func:=aT,code:=env.code,frame:=env.frame,builtins:=env.builtins}
   {s with heap:=ZaJ (s.heap.push {cls:=.type "dict",data:=.dict #[]}) scope.names}) :
  wpAny M A (ZaH scope env.globals cl [] env.qual aT .none (aD env)) Q E s:=by
 simp![ZaH,X4,if_true];calc Za4 (wpAny_alloc ?_);refine Za4 (wpAny_layCells _ (λname kind cells=>by cases H:kind == NameKind.cell <;> simp[H]) _ _ _ _ ?_);rw[show({s with heap:=s.heap.push {cls:=.type "dict",data:=.dict #[]}}:Shared).heap.objs.size=s⁻¹+1 from YY ..];simp![Xa]
 first
  |exact Za4 (Zbn (Zbn h))
  |exact Zbn h
abbrev C1(i:Nat):Str:=⟨#[i]⟩
abbrev dP:List Nat->List Str->List Str
 |[],N=>N
 |i::hs,N=>dP hs (N.set i (C1 i))
def ko:∀ (hs:List Nat) (N:List Str),(dP hs N).length=N.length
 |[],_=>rfl
 |i::hs,N=>by rw[dP,ko hs,YA]
def qd:∀ (hs:List Nat) (N:List Str) {i:Nat} {x:Str},(dP hs N)[i]?=aD x->N[i]?=aD x\/∃j∈hs,x=C1 j
 |[],_,_,_,h=>.inl h
 |k::hs,N,i,x,h=>by
  rw[dP]at h;rcases qd hs (N.set k (C1 k)) h with e |⟨j,hj,e⟩
  .rw[YR]at e;split at e
   .split at e
    .exact .inr {k,Zf,(θ e).symm}
    .cases e
   .exact .inl e
  .exact .inr {j,Zh _ hj,e}
structure CmScope(own:List Str)(hs:List Nat)(N:List Str)(scope sc:Scope):Prop where
 kind:scope.kind = .function
 nd:(dP hs N++own).Nodup
 uniq:(scope.names.map (·.1)).Nodup
 dis:∀x∈dP hs N,scope.names.lookup x≠aD .local/\scope.names.lookup x≠aD .cell
 fr:∀y∈scope.names,y.2 = .free->sc.names.lookup y.1=aD .cell\/sc.names.lookup y.1=aD .free
 hd:∀i∈hs,scope.names.lookup (C1 i)=aT
def dG:∀ {l:List (Str×VP)} {x:Str} {k:VP},(l.map (·.1)).Nodup->(x,k)∈l->l.lookup x=aD k
 |(n,k')::r,x,k,nd,h=>by
  rw[Zx,Yz]at nd;rw[ZT];rcases Zl.mp h with e |e
  .cases e;simp
  .let ne:(x == n)=a9:=by
    cases H:x == n with
    |false=>rfl
    |true=>
     let q:x=n:=by simpa using H
     subst q;exact absurd (ZF.mpr {(x,k),e,rfl}) nd.1
   rw[ne];exact dG nd.2 e
abbrev cxC(X:Cx)(own:List Str)(hs:List Nat)(b:Scope)(C:Addr)(ex:List Addr)(s:Shared)(H:Hp):Cx where
 prog:=X.prog
 w:=X.w
 K:=X.K
 mg:=X.mg
 base:=X.base
 A:=X.A
 N:=dP hs X.N++own
 s₀:=s
 H₀:=H
 env:=wD b C X.env
 outer:=X.stack
 stack:=X.stack
 ex:=ex
 fn:=λx=>b.names.lookup x == aD .cell
 calm:=X.calm
 pn:=[]
 xe:=λ_ _=>False
section
variable {X:Cx} {d:List (Addr×Obj)} {f:St} {H:Hp} {s:Shared} {own:List Str} {g:List Nat} {scope:Scope} {n:List Addr}
def Inv.compStart(I:Inv X d f H s)(S:CmScope own g X.N scope X.env.scope)(hf:∀b∈n,iQ X d H b)(hfo:∀b∈n,b < s⁻¹) :
  Inv (cxC X own g scope s⁻¹ n s H) [] (f++Zr own.length aT) H {s with heap:=ZaJ (s.heap.push {cls:=.type "dict",data:=.dict #[]}) scope.names}:=by
 let keep:∀b o,s.heap.get? b=aD o->(ZaJ (s.heap.push {cls:=.type "dict",data:=.dict #[]}) scope.names).get? b=aD o:=λb o e=>ZaK _ _ b o (Zk _ e);let ok:=cellsFrom_ok scope.names (s.heap.push {cls:=.type "dict",data:=.dict #[]}) (s⁻¹+1) [] {λ_ _ hm=>(nomatch hm),List.Pairwise.nil} (by rw[YY];exact Zc _);rw[YY]at ok;let E:(wD scope s⁻¹ X.env).cells=Zaq (s⁻¹+1) scope.names []++cA X.env.cells scope.names []:=cP _ _ _;let hasX:∀x,(x,NameKind.free)∈scope.names->∃c,X.env.cells.lookup x=aD c:=λx h=>I.ok.has x (S.fr (x,.free) h rfl)
 let old:∀x c,(x,c)∈cA X.env.cells scope.names []->X.env.cells.lookup x=aD c/\(x,NameKind.free)∈scope.names:=λx c h=>by
  rcases kn h with e |⟨e,q⟩
  .exact nomatch e
  .let{c',Z}:=hasX x e;rw[Z]at q;exact{by rw[Z,q];rfl,e}
 let O:∀x c,X.env.cells.lookup x=aD c->c < s⁻¹:=λx c h=>let ⟨_,z⟩:=I.cell x c h;z.lt
 let B:∀x c,(wD scope s⁻¹ X.env).cells.lookup x=aD c->((x,c)∈Zaq (s⁻¹+1) scope.names [])\/(X.env.cells.lookup x=aD c/\(x,NameKind.free)∈scope.names):=λx c h=>by
  let m:=ZaG h;rw[E]at m;rcases ZC.mp m with e |e
  .exact .inl e
  .exact .inr (old x c e)
 let J:∀x c,(x,c)∈Zaq (s⁻¹+1) scope.names []->s⁻¹+1<=c:=λx c h=>(ok.empty x c h).2
 let noFs:∀b∈n,b∉frs X.stack:=λb T z=>by
  rcases Zl.mp (I.stkSub b z) with e |e
  .exact(hf b T).2.1 e
  .exact(hf b T).2.2.1 e
 let xok:(cxC X own g scope s⁻¹ n s H).Ok:=by
  refine{I.ok.mod,S.kind,I.ok.glob,I.ok.blt,Zc _,?_,?_,?_,I.ok.hd,I.ok.frames,.inl rfl,?_,I.bs,Zy I.ok.bsz I.sz,?_,noFs,I.stack,I.stkFree}
  .intro x y c U Y;rcases B x c U with a |⟨a,_⟩ <;> rcases B y c Y with b |⟨b,_⟩
   .exact name_of_addr ok.apart a b
   .exact absurd (ZB (O y c b) (YZ (J x c a))) (ZS _)
   .exact absurd (ZB (O x c a) (YZ (J y c b))) (ZS _)
   .exact I.ok.inj x y c a b
  .intro x hx;let hx':(gA scope X.env.scope).names.lookup x=aD .cell\/(gA scope X.env.scope).names.lookup x=aD .free:=hx;let e:=gB X.env.scope x scope.names
   let key:(x,NameKind.cell)∈scope.names\/(x,NameKind.free)∈scope.names:=by
    cases L:scope.names.lookup x with
    |none=>rw[L]at e;rcases hx' with z |z <;> (rw[show(gA scope X.env.scope).names.lookup x=aT from e]at z;cases z)
    |some k=>
     let m:=ZaG L;rw[L]at e;cases k with
     |cell=>exact .inl m
     |free=>exact .inr m
     |_=>rcases hx' with z |z <;> (rw[show(gA scope X.env.scope).names.lookup x=_ from e]at z;simp[pD]at z)
   rcases key with h |h
   .let q:=V8 scope.names (s⁻¹+1) (cA X.env.cells scope.names []) (x:=x) (.inl (dG S.uniq h));exact Yj.mp q
   .let{c,Z}:=iu (cells:=X.env.cells) (acc:=[]) (.inl h);let q:∃c,(x,c)∈(wD scope s⁻¹ X.env).cells:={c,by rw[E];exact ZE _ Z};exact gz q
  .intro x c hfn L
   let Q:scope.names.lookup x=aD .cell:=by
    let z:(scope.names.lookup x == aD NameKind.cell)=a8:=hfn
    simpa using z
   rcases B x c L with a |⟨_,b⟩
   .exact Zy (Yw _) (J x c a)
   .rw[dG S.uniq b]at Q;cases Q
  .intro b T;calc⟨ZI (hfo b T),λx c h z=>?_⟩;rcases B x c h with a |⟨a,_⟩
   .exact absurd (ZB (z▸hfo b T) (YZ (J x c a))) (ZS _)
   .exact(hf b T).2.2.2.2.1 x c a z
  .intro b o e T;rcases (hf b T).2.2.2.1 with z |z
   .exact I.ok.noex b o e z
   .let U:=Zv e;exact absurd (ZB U (Zy I.ok.bsz z)) (ZS _)
 let m0:(ZaJ (s.heap.push {cls:=.type "dict",data:=.dict #[]}) scope.names).Ns s⁻¹ (λ_=>aT):=(Heap.Ns.new s.heap (.type "dict")).keeps (ZaK _ _);refine{xok,rfl,I.bare,Un.kept keep,{_,m0,?_},?_,I.hok.fresh (Zc _),?_,λp hp=>absurd (show p∈([]:List (Addr×Obj)) from hp) (by simp),I.hok.kept keep,?_}
 .intro i x v U Y h3
  let hi:i < f.length:=by
   by_cases hi:i < f.length
   .exact hi
   .rw[Zo (by lia),Yx]at Y;split at Y <;> cases Y
  rw[Zz hi]at Y;let hN:i < X.N.length:=by rw[<-I.len];exact hi
  let h1h:(dP g X.N)[i]?=aD x:=by
   let U:(dP g X.N++own)[i]?=aD x:=U
   rwa[Zz (by rw[ko];exact hN)]at U
  let dx:=S.dis x (Zs h1h);let e:=gB X.env.scope x scope.names;let h3':(gA scope X.env.scope).names.lookup x=aD .local\/(gA scope X.env.scope).names.lookup x=aD .cell\/(gA scope X.env.scope).names.lookup x=aD .free:=h3
  let C:scope.names.lookup x=aD .free:=by
   cases L:scope.names.lookup x with
   |none=>rw[L]at e;rcases h3' with z |z |z <;> (rw[show(gA scope X.env.scope).names.lookup x=aT from e]at z;cases z)
   |some k=>
    rw[L]at e dx;cases k with
    |free=>rfl
    |«local»=>exact absurd rfl dx.1
    |cell=>exact absurd rfl dx.2
    |_=>rcases h3' with z |z |z <;> (rw[show(gA scope X.env.scope).names.lookup x=_ from e]at z;simp[pD]at z)
  let h1':X.N[i]?=aD x:=by
   rcases qd g X.N h1h with z |⟨j,hj,z⟩
   .exact z
   .rw[z,S.hd j hj]at C;cases C
  let M:=ZaG C;let kX:=S.fr (x,.free) M rfl;let{m,hn,L}:=I.loc;let{u,r,l}:=L i x v h1' Y (kX.elim (λz=>.inr (.inl z)) λz=>.inr (.inr z));refine{u,r,.inr {?_,?_}}
  .let k3:(gA scope X.env.scope).names.lookup x=aD (pD X.env.scope x .free):=by rw[C]at e;exact e
   let k4:pD X.env.scope x .free = .cell\/pD X.env.scope x .free = .free:=by delta pD;split <;> simp
   rcases k4 with z |z
   .exact .inl (by show(gA scope X.env.scope).names.lookup x=_;rw[k3,z])
   .exact .inr (by show(gA scope X.env.scope).names.lookup x=_;rw[k3,z])
  .rcases l with ⟨lk,_⟩ |⟨_,c,Z,z⟩
   .let lk':X.env.scope.names.lookup x=aD .local:=lk;rcases kX with q |q <;> (rw[q]at lk';cases lk')
   .calc{c,?_,z.keeps keep};let{c',hc'}:=iu (cells:=X.env.cells) (acc:=[]) (.inl M);let{c2,hl2}:=gz (l:=(wD scope s⁻¹ X.env).cells) {c',by rw[E];exact ZE _ hc'};rcases B x c2 hl2 with a |⟨a,_⟩
    .rcases eW _ _ _ _ _ a with q |q
     .exact nomatch q
     .rw[dG S.uniq q]at C;cases C
    .rw[Z]at a;cases a;exact hl2
 .intro x c h;rcases B x c h with a |⟨a,_⟩
  .exact{_,(ok.empty x c a).1}
  .let{v,z}:=I.cell x c a;exact{v,z.keeps keep}
 .intro x c h;rcases B x c h with a |⟨a,_⟩
  .exact I.hok.fresh (Zy (Yw _) (J x c a))
  .exact I.freeC x c a
 .show(f++Zr own.length aT).length=(dP g X.N++own).length;rw[Zi,Zi,Y1,ko,I.len]
end
section
variable {κ:Type} [DecidableEq κ]
abbrev jc(b:List (κ×V))(k:κ):Option V:=(b.find? λc=>decide (c.1=k)).map (·.2)
abbrev eB(b:List (κ×V))(k:κ)(v:V):List (κ×V):=
 if (b.any λc=>decide (c.1=k))=a8 then b.map (λc=>if c.1=k then (c.1,v) else c) else b++[(k,v)]
def gC{p:κ×V}{r:List (κ×V)}{k:κ}(e:p.1=k):jc (p::r) k=aD p.2:=by simp[jc,YN,e]
def gD{p:κ×V}{r:List (κ×V)}{k:κ}(e:¬ p.1=k):jc (p::r) k=jc r k:=by simp[jc,YN,e]
def nc(k:κ):∀b:List (κ×V),(b.any λc=>decide (c.1=k))=(jc b k).isSome
 |[]=>rfl
 |p::r=>by
  rw[YF];by_cases e:p.1=k
  .simp![gC e,decide_eq_true e,Bool.true_or,X4]
  .rw[gD e,decide_eq_false e,Ww];exact nc k r
def eG(b:List (κ×V))(k:κ)(v:V):(eB b k v).length<=b.length+1:=by
 delta eB;split
 .rw[Za];omega
 .rw[Zi,Zt,YX];omega
def ng{b:List (κ×V)}{k:κ}(v:V)(h:jc b k=aT):eB b k v=b++[(k,v)]:=by
 delta eB;rw[nc,h];exact if_neg (by decide)
def v5.isSome_eq(r:v5 o u):o.isSome=u.isSome:=by
 cases o with
 |none=>cases u with
  |none=>rfl
  |some _=>exact(show False from r).elim
 |some _=>cases u with
  |none=>exact(show False from r).elim
  |some _=>rfl
def KV.val{c:List (κ×V)}{v:List (κ×Value)}(r:KV c v)(k:κ):v5 (jc c k) (valueAt v k):=by
 delta KV at r
 induction r with
 |nil=>exact True.intro
 |@cons p q ps qs h t ih=>
  let{H,f}:=h;by_cases e:p.1=k
  .let E:q.1=k:=H.symm.trans e;let b:valueAt (q::qs) k=aD q.2:=by simp[valueAt,YN,E]
   rw[gC e,b];exact f
  .let E:¬ q.1=k:=λz=>e (H.trans z);let b:valueAt (q::qs) k=valueAt qs k:=by simp[valueAt,YN,E]
   rw[gD e,b];exact ih
def KV.any{b:List (κ×V)}{v:List (κ×Value)}(r:KV b v)(k:κ):(b.any λc=>decide (c.1=k))=v.any λc=>decide (c.1=k):=by
 delta KV at r
 induction r with
 |nil=>rfl
 |cons h t I=>rw[YF,YF,I,h.1]
def KV.repl(r:KV c v)(k:κ)(g:aJ y u) :
  KV (c.map λb=>if b.1=k then (b.1,y) else b) (v.map λb=>if b.1=k then (b.1,u) else b):=by
 delta KV at r ⊢
 induction r with
 |nil=>exact .nil
 |@cons p q ps qs h t ih=>
  rw[Zx,Zx];calc .cons ?_ ih;let{H,f}:=h;by_cases e:p.1=k
  .rw[if_pos e,if_pos (H.symm.trans e)];exact⟨H,g⟩
  .rw[if_neg e,if_neg (λz=>e (H.trans z))];exact⟨H,f⟩
def KV.put(r:KV b v)(k:κ)(c:aJ y u):KV (eB b k y) (stored v k u):=by
 delta eB stored;rw[r.any k];by_cases e:(v.any λf=>decide (f.1=k))=a8
 .rw[if_pos e,if_pos e];exact r.repl k c
 .rw[if_neg e,if_neg e];exact Paired.snoc r ⟨rfl,c⟩
def KV.length(r:KV b v):b.length=v.length:=Paired.length r
end
def nh(r:aJ (kV k) u):(bE P w).is k u=a8:=by
 cases k with
 |inl i=>let{t,e}:=(show ∃t,u=Value.int i t from r);subst e;exact tS P w i t
 |inr x=>let{t,e}:=(show ∃t,u=Value.str x t from r);subst e;exact tU P w x t
def qe:∀ {b:List Key} {u:List Value},aP (b.map kV) u->ItemsAre (bE P w) b u
 |[],_,r=>by rw[ZX]at r;cases r;exact .nil
 |k::b,_,r=>by
  rw[Zx]at r;cases r with
  |cons h t=>exact .cons (nh h) (qe t)
@[inline]abbrev KT(H:Hp):List (List Key×V)->List (List Key×Addr×Value)->Prop:=Paired λp q=>p.1=q.1/\H q.2.1=aD (.tup (p.1.map kV))/\aJ p.2 q.2.2
def KT.val{H:Hp}{c:List (List Key×V)}{xs:List (List Key×Addr×Value)}(r:KT H c xs)(k:List Key):v5 (jc c k) ((atKey xs k).map (·.2)):=by
 induction r with
 |nil=>exact True.intro
 |@cons p q ps qs h t ih=>
  let{f,_,g}:=h;by_cases e:p.1=k
  .let E:q.1=k:=f.symm.trans e;let b:atKey (q::qs) k=aD q.2:=by simp[atKey,YN,E]
   rw[gC e,b];exact g
  .let E:¬ q.1=k:=λz=>e (f.trans z);let b:atKey (q::qs) k=atKey qs k:=by simp[atKey,YN,E]
   rw[gD e,b];exact ih
def KT.repl(r:KT H f xs)(k:List Key)(j:aJ y u) :
  KT H (f.map λc=>if c.1=k then (c.1,y) else c) (xs.map (putAt k u)):=by
 induction r with
 |nil=>exact .nil
 |@cons p q ps qs h t ih=>
  rw[Zx,Zx];calc .cons ?_ ih;let{b,g,o}:=h;delta putAt;by_cases e:p.1=k
  .rw[if_pos e,if_pos (b.symm.trans e)];exact⟨b,g,j⟩
  .rw[if_neg e,if_neg (λz=>e (b.trans z))];exact⟨b,g,o⟩
def KT.put(r:KT H c xs)(k:List Key)(h:H b=aD (.tup (k.map kV)))(f:aJ y u) :
  KT H (eB c k y) (storedH xs k b u):=by
 let e:(c.any λg=>decide (g.1=k))=(atKey xs k).isSome:=by
  rw[nc,(r.val k).isSome_eq,Xd]
 delta eB storedH;rw[e];by_cases q:(atKey xs k).isSome=a8
 .rw[if_pos q,if_pos q];exact r.repl k f
 .rw[if_neg q,if_neg q];exact Paired.snoc r ⟨rfl,h,f⟩
def KT.keeps(r:KT H c xs)(f:∀b ys,H b=aD (.tup ys)->h b=aD (.tup ys)):KT h c xs:=
 Paired.mapP r λ_ _ z=>{z.1,f _ _ z.2.1,z.2.2}
section
variable {P:Program} {w:World} {H:Hp} {h:Heap} {a:Addr}
def K3(ok:HOk P w H h)(e:Rd H a u):bD P w H h a u:=e.ok ok
def t7(ok:HOk P w H h)(e:Rd H a (.dK b)):b.length<=sizeLine/\(a == ZaU)=a9/\∃vs,KV b vs/\h.DictOf (bE P w) a vs:=
 show bD P w H h a (.dK b) from K3 ok e
def C2(ok:HOk P w H h)(e:H a=aD (.dK b)):b.length<=sizeLine/\(a == ZaU)=a9/\∃vs,KV b vs/\h.DictOf (bE P w) a vs:=t7 ok (.inl e)
def ni(ok:HOk P w H h)(e:H a=aD (.tup (b.map kV))):(ZaW (bE P w)).is h b a:=by
 let{_,I,r,o,c,f,n,g,_}:=(show bD P w H h a (.tup (b.map kV)) from ok a _ e);exact{o,I.toArray,n,c,f,g,by simpa using qe r}
def t8(ok:HOk P w H h)(e:Rd H a (.dT b)):b.length<=sizeLine/\(a == ZaU)=a9 ∧
  ∃xs,KT H b xs/\h.DictOfH (ZaW (bE P w)) a xs:=by
 let{z,y,xs,r,o,j,E,f,g,v,u,c}:=(show bD P w H h a (.dT b) from K3 ok e);refine{z,y,xs,r,o,j,E,f,g,v,u,λx hx=>?_,c}
 let all:∀ {l:List (List Key×V)} {m:List (List Key×Addr×Value)},KT H l m->∀x∈m,(ZaW (bE P w)).is h x.1 x.2.1:=by
  intro l m q
  induction q with
  |nil=>intro x hx;exact nomatch hx
  |@cons p q ps qs hq t ih=>
   intro x hx;rcases Zl.mp hx with e |hx
   .subst e;exact ni ok (by rw[<-hq.1];exact hq.2.1)
   .exact ih x hx
 exact all r x hx
def RH(ok:HOk P w H h)(e:H a=aD (.dT b)):b.length<=sizeLine/\(a == ZaU)=a9 ∧
  ∃xs,KT H b xs/\h.DictOfH (ZaW (bE P w)) a xs:=t8 ok (.inl e)
end
abbrev wG(H:Hp)(a:Addr)(y:V)(r:Option V):Prop:=
 (∃c k,Rd H a (.dK c)/\y=kV k/\r=jc c k)\/∃c k b,Rd H a (.dT c)/\y = .ref b/\H b=aD (.tup (k.map kV))/\r=jc c k
abbrev MM(H:Hp)(a:Addr)(y v:V)(h:Hp):Prop:=
 (∃c k,H a=aD (.dK c)/\y=kV k/\c.length < sizeLine/\h=upd H a (.dK (eB c k v))) ∨
 ∃c k b,H a=aD (.dT c)/\y = .ref b/\H b=aD (.tup (k.map kV))/\c.length < sizeLine/\h=upd H a (.dT (eB c k v))
def wG.k{H:Hp}{a:Addr}{b:List (Key×V)}{k:Key}(e:H a=aD (.dK b)):wG H a (kV k) (jc b k):=.inl {b,k,.inl e,rfl,rfl}
def MM.k{H:Hp}{a:Addr}{b:List (Key×V)}{k:Key}{v:V}(e:H a=aD (.dK b))(hl:b.length < sizeLine):MM H a (kV k) v (upd H a (.dK (eB b k v))):=.inl ⟨b,k,e,rfl,hl,rfl⟩
section
variable {X:Cx} {d:List (Addr×Obj)} {f:St} {H:Hp} {s:Shared} {a:Addr} {y v:V} {u r:Value} {o:Option V} {A:Around} {E:Value->Shared->Prop}
def Inv.big(I:Inv X d f H s):ZaU < s⁻¹:=by
 let h:ZaF < s⁻¹:=(I.mod.glob.keeps I.bk).lt;exact WC (by decide) h
def A7(Y:A.units+1 < cLine)(I:Inv X d f H s)(g:wG H a y (aD v))(M:aJ y u)(h:∀j O,Inv X d f H O->aJ v j->Q j O) :
  wpAny (model X.prog X.w) A (getItem (.ref a) u) Q E s:=by
 rcases g with ⟨q,k,e,J,l⟩ |⟨q,k,b,e,J,U,l⟩
 .subst J;let{z,hd,Z,rel,B}:=t7 I.hok e;let{j,C,c}:=v5.some_of (v:=v) (o:=valueAt Z k) (by rw[l];exact rel.val k);exact wpAny_getItem_of (nh M) B.mapOf C (h j _ (I.tok _) c)
 .subst J;cases (show u=Value.ref b from M);let{z,hd,xs,rel,B}:=t8 I.hok e;let{j,C,c}:=v5.some_of (v:=v) (o:=(atKey xs k).map (·.2)) (by rw[l];exact rel.val k);let{p,T,L}:=Yd.mp C;calc wpAny_getItem_heap (ZaX Y) (ni I.hok U) B T ?_;rw[L];exact h j _ (I.tok _) c
def U0(L:A.units+1 < cLine)(I:Inv X d f H s)(g:wG H a y o)(B:aJ y u)(h:∀C,Inv X d f H C->Q (.bool o.isSome) C) :
  wpAny (model X.prog X.w) A (Zau .In u (.ref a)) Q E s:=by
 rcases g with ⟨c,k,e,j,l⟩ |⟨c,k,b,e,j,J,l⟩
 .subst j;let{z,hd,M,rel,p}:=t7 I.hok e;calc wpAny_in_of (nh B) hd p.mapOf ?_;rw[<-(rel.val k).isSome_eq,<-l];exact h _ (I.tok _)
 .subst j;cases (show u=Value.ref b from B);let{z,hd,xs,rel,p}:=t8 I.hok e;calc wpAny_in_heap (ZaX L) (ni I.hok J) hd p ?_;let q:=(rel.val k).isSome_eq;rw[Xd]at q;rw[<-q,<-l];exact h _ (I.tok _)
def Hq(L:A.units+1 < cLine)(I:Inv X d f H s)(g:wG H a y o)(B:aJ y u)(h:∀C,Inv X d f H C->Q (.bool (!o.isSome)) C) :
  wpAny (model X.prog X.w) A (Zau .NotIn u (.ref a)) Q E s:=by
 rcases g with ⟨c,k,e,j,l⟩ |⟨c,k,b,e,j,J,l⟩
 .subst j;let{z,hd,M,rel,p}:=t7 I.hok e;calc wpAny_notIn_of (nh B) hd p.mapOf ?_;rw[<-(rel.val k).isSome_eq,<-l];exact h _ (I.tok _)
 .subst j;cases (show u=Value.ref b from B);let{z,hd,xs,rel,p}:=t8 I.hok e;calc wpAny_notIn_heap (ZaX L) (ni I.hok J) hd p ?_;let q:=(rel.val k).isSome_eq;rw[Xd]at q;rw[<-q,<-l];exact h _ (I.tok _)
def mo{t':Nat}(I:Inv X d f H s)(M:Mut (H a))(hs:Heap.SameBut a s.heap h')(h:∃q,h'.get? a=aD q)(new:bD X.prog X.w (upd H a ob) h' a ob) :
  Inv X d f (upd H a ob) {s with heap:=h',toks:=t'}:=
 I.write (x:=a) (e:=a) M (.inl rfl) (λb q c z=>(hs.2 b c).trans z) h new
def wH(z:b.length<=sizeLine)(hd:(a == ZaU)=a9)(rel:KV b c)(g:h'.DictOf (bE P w) a c) :
  bD P w h h' a (.dK b):=⟨z,hd,c,rel,g⟩
def A8(hu:A.units+1 < cLine)(I:Inv X d f H s)(g:MM H a y v H')(Y:aJ y u)(U:aJ v r)(h:∀Z,Inv X d f H' Z->Q () Z) :
  wpAny (model X.prog X.w) A (setItem (.ref a) u r) Q E s:=by
 rcases g with ⟨j,k,e,O,l,C⟩ |⟨j,k,b,e,O,eb,l,C⟩
 .subst O C;let{z,hd,vs,rel,M}:=C2 I.hok e;let L:vs.length<=sizeLine:=by rw[<-rel.length];exact z
  let J:(eB j k v).length<=sizeLine:=by let:=eG j k v;omega
  calc wpAny_setItem_pairs (hsz:=L) (nh Y) M λT p hs=>h _ ?_;let he:∃q,T.get? a=aD q:=let ⟨q,_,_,B,_⟩:=p;⟨q,B⟩;exact mo I (by rw[e];exact True.intro) hs he (wH J hd (rel.put k U) p)
 .subst O C;cases (show u=Value.ref b from Y);let{z,hd,xs,rel,M}:=RH I.hok e;let L:xs.length<=sizeLine:=by rw[<-Paired.length rel];exact z
  let J:(eB j k v).length<=sizeLine:=by let:=eG j k v;omega
  calc wpAny_setItem_heap (hsz:=L) (ZaX hu) (ni I.hok eb) M λT p hs=>h _ ?_;let{q,es,ep,B,h2,h3,h4,_,h5}:=p;calc mo I (by rw[e];exact True.intro) hs ⟨q,B⟩ {J,hd,_,(rel.put k eb U).keeps λc ys ec=>?_,q,es,ep,B,h2,h3,h4,h5};rw[aA (tV ec e (λz=>nomatch z))];exact ec
def A9{b:List (Key×V)}{k:Key}(I:Inv X d f H s)(e:H a=aD (.dK b))(l:b.length < sizeLine)(C:aJ (kV k) u)(B:aJ v r)(h:∀g,Inv X d f (upd H a (.dK (eB b k v))) g->Q () g) :
  wpAny (model X.prog X.w) A (dictSet a u r) Q E s:=by
 let{z,hd,L,rel,O}:=C2 I.hok e;let J:L.length<=sizeLine:=by rw[<-rel.length];exact z
 let M:(eB b k v).length<=sizeLine:=by let:=eG b k v;omega
 calc wpAny_dictSet_pairs (hsz:=J) (nh C) O λp c hs=>h _ ?_;let j:∃q,p.get? a=aD q:=let ⟨q,_,_,hq,_⟩:=c;⟨q,hq⟩;exact mo I (by rw[e];exact True.intro) hs j (wH M hd (rel.put k B) c)
end
def t9(I:Inv X p h H s)(g:wG H a y o):s.TypeIs (.ref a) "dict" := by
 rcases g with ⟨c,k,e,_,_⟩ |⟨c,k,b,e,_,_,_⟩
 .let{_,_,v,_,f}:=t7 I.hok e;exact f.typeIs
 .let{_,_,xs,_,f}:=t8 I.hok e;exact f.typeIs
def nj(h:Heap)(b:ZaU < h.objs.size):bD P w H (h.push {cls:=.type "dict",data:=.dict #[]}) h.objs.size (.dK []):=
 {Z5 _,beq_eq_false_iff_ne.mpr (Ne.symm (ZI b)),[],.nil,Heap.DictOf.new h}
abbrev C3:TE:=λ_ H Q=>∀p,H p=aT->Q (.ref p) (upd H p (.dK []))
section
variable {X:Cx} {pos:Pos}
def C4:PE X (.Dict [] [] pos) C3:=λp s b H Q I h=>
 wpAny_Dict_empty {.ref s⁻¹,_,I.laid (a:=s⁻¹) (o:=.dK []) (t':=s.toks) (λ_ _ q=>Zk _ q) (Zc _) (nj s.heap I.big),rfl,h _ (I.hok.fresh (Zc _))}
end
abbrev wJ:List (TE×TE)->St->Hp->(List (V×V)->Hp->Prop)->Prop
 |[],_,H,Q=>Q [] H
 |(tk,tv)::r,σ,H,Q=>tk σ H λx h=>tv σ h λy b=>wJ r σ b λps c=>Q ((x,y)::ps) c
@[inline]abbrev VV:List (V×V)->List (Value×Value)->Prop:=Paired λp q=>aJ p.1 q.1/\aJ p.2 q.2
abbrev PPs(X:Cx)(pos:Pos)(b:List (Option Expr))(v:List Expr)(T:List (TE×TE)):Prop:=
 ∀ (p:List (Addr×Obj)) (s:Shared) (c:St) (H:Hp) (Q:List (V×V)->Hp->Prop),Inv X p c H s->wJ T c H Q ->
  wpAny (model X.prog X.w) X.A (evalPairs (pairTrees b v X.env pos)) (λf g=>∃ps h,Inv X p c h g/\VV ps f/\Q ps h) X.xe s
def Hr:PPs X pos [] [] []:=λp s b H Q I h=>pairTrees_nil_walk ⟨[],H,I,.nil,h⟩
def C5(j:PE X k c)(hv:PE X v E)(M:PPs X pos L vs T) :
  PPs X pos (aD k::L) (v::vs) ((c,E)::T):=λp s b H Q I h=>
 pairTrees_cons_walk (thn (j p s b H _ I h) λu Y ⟨x,o,C,g,O⟩=>thn (hv p Y b o _ C O) λw2 Z ⟨y,H2,J,z,U⟩=>
  thn (M p Z b H2 _ J U) λws s3 ⟨ps,f,B,rel,q⟩=>{(x,y)::ps,f,B,.cons ⟨g,z⟩ rel,q})
abbrev nq(b more:List (Key×V)):List (Key×V):=more.foldl (λc f=>eB c f.1 f.2) b
def KV.merge:∀ {more:List (Key×V)} {rs:List (Key×Value)} {b:List (Key×V)} {v:List (Key×Value)},KV more rs->KV b v->KV (nq b more) (merged v rs):=by
 intro more rs b v r;delta KV at r
 induction r generalizing b v with
 |nil=>intro q;exact q
 |@cons p q ps qs h t ih=>
  intro c
  let e:KV (eB b p.1 p.2) (stored v q.1 q.2):=by
   let:=c.put p.1 h.2;rw[<-h.1];exact this
  exact ih e
def iW:∀ (more b:List (Key×V)),(nq b more).length<=b.length+more.length
 |[],b=>by show b.length<=b.length+0;omega
 |p::r,b=>by
  let H:=iW r (eB b p.1 p.2);let h:=eG b p.1 p.2;show(nq (eB b p.1 p.2) r).length<=_;rw[Zt];omega
def nt:∀ {f:List (Key×V)} {j:List (Value×Value)},VV (f.map λg=>(kV g.1,g.2)) j->∃rs,Carries (bE P w) j rs/\KV f rs
 |[],_,r=>by rw[ZX]at r;cases r;exact⟨[],True.intro,.nil⟩
 |p::f,_,r=>by
  rw[Zx]at r;cases r with
  |@cons a b as bs h t=>
   let{rs,c,q}:=nt (P:=P) (w:=w) t;let{o,B}:=b;exact{(p.1,B)::rs,{nh h.1,rfl,c},.cons ⟨rfl,h.2⟩ q}
abbrev C6(T:List (TE×TE)):TE:=λf H Q=>∀p,H p=aT->wJ T f (upd H p (.dK [])) λps h=>h p=aD (.dK [])/\∃b:List (Key×V),ps=b.map (λc=>(kV c.1,c.2))/\b.length<=15/\Q (.ref p) (upd h p (.dK (nq [] b)))
def Hs(h:PPs X pos b v T)(g:b.all (·.isSome)=a8)(hl:b.length=v.length)(Y:b≠[])
  (u:b.length<=15):PE X (.Dict b v pos) (C6 T):=by
 intro p s σ H Q I q;let M:=I.hok.fresh (Zc s⁻¹);let L:=I.laid (a:=s⁻¹) (o:=.dK []) (h':=s.heap.push {cls:=.type "dict",data:=.dict #[]}) (t':=s.toks) (λ_ _ q=>Zk _ q) (Zc _) (nj s.heap I.big);calc wpAny_Dict_walk (knd:=bE X.prog X.w) g hl Y u (thn (h p _ σ _ _ L (q _ M)) λws s2 ⟨ps,H2,y,rel,e,f,ep,lk,q2⟩=>?_);subst ep;let{rs,c,C}:=nt (P:=X.prog) (w:=X.w) rel;let{z,hd,E,O,Z}:=C2 y.hok e;cases O;refine{rs,c,Z,λB j hs=>{.ref s⁻¹,_,?_,rfl,q2}}
 let U:(nq [] f).length<=sizeLine:=by
  let J:=iW f [];rw[YX]at J;rw[ZaO];omega
 let he:∃q,B.get? s⁻¹=aD q:=let ⟨q,_,_,hq,_⟩:=j;⟨q,hq⟩;exact mo y (by rw[e];exact True.intro) hs he (wH U hd (C.merge .nil) j)
abbrev ua(J:It)(g:TG)(T:TS)(D:Ends)(b:St)(H:Hp):Prop:=∃W:Nat->Nat->St->Hp->Prop,(∃m,W 0 m b H)/\∀i m b H,W i m b H ->
 (J.stop i H/\D.nx b H)\/(J.go i H/\∃N:St->Hp->Prop,(∀c h,N c h->∃M,M < m/\W (i+1) M c h)/\∀x h,J.yld i H x h->g x b h λf j=>T {D with nx:=N,ct:=N,bk:=D.nx} f j)
abbrev PTs(Y:Cx)(ifs:List Expr)(t:TT):Prop:=
 ∀ (p:List (Addr×Obj)) (s:Shared) (b:St) (H:Hp) (Q:Bool->Hp->Prop),Inv Y p b H s->t b H Q->wpAny (model Y.prog Y.w) Y.A (rE ifs Y.env) (TP Y p b Q) Y.xe s
abbrev wK:TT:=λ_ H Q=>Q a8 H
def rF:PTs Y [] wK:=λ_ _ _ H _ I h=>by
 delta rE;rw[Xa];exact Zbn ⟨H,I,h⟩
def Ht(hc:PT Y c t):PTs Y [c] t:=λp s f H Q I h=>by
 delta rE;rw[XD];simp![if_true,Xa];calc Za4 (Za4 (thn (hc p s f H Q I h) λb g q=>Zbn ?_));exact Zbn q
abbrev PTl(Y:Cx)(c:CmK)(g:List W2)(f:Scope)(pos:Pos)(j:Addr)(d:Nat)(t:TS):Prop:=
 ∀ (p:List (Addr×Obj)) (s:Shared) (u:St) (H:Hp) (D:Ends),Inv Y p u H s->t D u H ->
  match g[d+1]? with
  |none=>wpAny (model Y.prog Y.w) Y.A (cmP c Y.env (.ref j)) (λ_ o=>∃b h,Inv Y p b h o/\D.nx b h) (λ_ _=>False) s
  | some q=>q.is_async=0/\wpAny (model Y.prog Y.w) Y.A (eval q.iter Y.env) (λx v=>wpAny (model Y.prog Y.w) Y.A (Zay q.iter Y.env x) (λX o=>wpAny (model Y.prog Y.w) Y.A (pyIter X) (λI z=>
    wpAny (model Y.prog Y.w) Y.A (runOwn (.compStart (cmE c g f pos) (d+1) I (.ref j) Y.env) Y.env) (λ_ y=>∃b h,Inv Y p b h y/\D.nx b h) (λ_ _=>False) z) (λ_ _=>False) o) (λ_ _=>False) v) (λ_ _=>False) s
abbrev fq(T:TT)(t:TS):TS:=λD b H=>T b H λc h=>if c=a8 then t D b h else D.nx b h
abbrev K4(b:Addr)(T:TE):TS:=λD c H=>T c H λx h=>∃xs,h b=aD (.lst xs)/\xs.length < sizeLine/\D.nx c (upd h b (.lst (xs++[x])))
def C7{c:CmK}{gens:List W2}{b:Scope}{pos:Pos}:clausesOf (cmE c gens b pos)=gens:=by
 cases c <;> rfl
abbrev C8(c:Addr)(T j:TE):TS:=λD f H=>T f H λx g=>j f g λy h=>∃b k,h c=aD (.dK b)/\x=kV k/\b.length < sizeLine/\D.nx f (upd h c (.dK (eB b k y)))
section
variable {Y:Cx} {a:Expr} {c:CmK} {gens:List W2} {scope:Scope} {pos:Pos} {acc:Addr} {d:Nat}
def C9(g:Y.xe=λ_ _=>False)(E:gens[d+1]?=aT)(T:PE Y a U):PTl Y (.l a) gens scope pos acc d (K4 acc U):=by
 intro p s b H D I h;rw[E];let f:=T p s b H _ I h;rw[g]at f;calc Za4 (thn f λx C ⟨v,u,O,j,xs,o,L,q⟩=>?_);let z:=qc p C b u (.ref acc) [v] (.ref acc) [x] (λy M=>y = .non/\D.nx b M) O rfl (.cons j .nil) ⟨acc,xs,v,rfl,rfl,o,L,rfl,q⟩;rw[g]at z;exact Za4 (thn z λy s6 ⟨v6,J,B,Z,X,Q⟩=>Zbn ⟨b,J,B,Q⟩)
def zc(j:Y.xe=λ_ _=>False)(M:gens[d+1]?=aT)(B:PE Y k T)(hv:PE Y v C):PTl Y (.d k v) gens scope pos acc d (C8 acc T C):=by
 intro p s b H D I h;rw[M];let g:=B p s b H _ I h;rw[j]at g;calc Za4 (thn g λx L ⟨vk,E,U,u,X⟩=>?_);let f:=hv p L b E _ U X;rw[j]at f;calc Za4 (Zbc (thn f λy s6 ⟨vv,H6,J,o,q,kk,z,O,Z,Q⟩=>?_));subst O;exact Za4 (Zbu (Zbc (A9 J z Z u o λs7 I7=>⟨b,_,I7,Q⟩)))
def Ba{prog:Program}{w:World}{I acc:Value}{env:Env}:(model prog w).den (.compStart (cmE c gens scope pos) d I acc env)=((compStart (cmE c gens scope pos) d I acc env).onRaise λx=>do noteFrame x env;standAt theWindowsPlace):=by
 cases c <;> rfl
def Da{prog:Program}{w:World}{I acc:Value}{env:Env}:(model prog w).den (.compLoop (cmE c gens scope pos) d I acc env)=((compTurn (cmE c gens scope pos) d I acc env).onRaise λx=>do noteFrame x env;theTreesLotGoes x):=by
 cases c <;> rfl
def Bb{A:Around}{I acc:Value}{env:Env}:A.under (.compStart (cmE c gens scope pos) d I acc env)=A:=by
 cases c <;> rfl
def Db{A:Around}{I acc:Value}{env:Env}:A.under (.compLoop (cmE c gens scope pos) d I acc env)=A:=by
 cases c <;> rfl
def nu{A:Around}{R:Result->Shared->Prop}{prog:Program}{w:World}{s:Shared}{T I:Expr}{ifs:List Expr}{g acc:Value}{env:Env}(p:gens[d]?=aD ⟨T,I,ifs,0⟩)
  (o:codeAny (model prog w) A (.compLoop (cmE c gens scope pos) d g acc env) R s)
  (h:wpAny (model prog w) A (pyIter g) (λb f=>codeAny (model prog w) A (.compLoop (cmE c gens scope pos) d b acc env) R f) (notedBy (model prog w) A env λx f=>R (.error x) f) s) :
  codeAny (model prog w) A (.compStart (cmE c gens scope pos) d g acc env) R s:=by
 calc codeAny_of_tree ?_;rw[Ba,Bb];calc wpAny_notedAt ?_;delta compStart;let j:(clausesOf (cmE c gens scope pos))[d]?=aD ⟨T,I,ifs,0⟩:=by rw[C7];exact p
 simp![j,Option.elim];show wpAny _ _ (ask >>= _) _ _ s;calc Za4 (wpAny_askSetting (wpAny_ite ?_));split
 .first
   |exact Za4 (Zbn (Zbn (And.intro rfl o)))
   |exact Zbn (And.intro rfl o)
 .first
   |exact Za4 (Zbt (Za4 (Zbu (Za4 (Zbi h (λb f H=>Zbn (And.intro rfl H)) λ_ _ x=>x)))))
   |(calc Za4 (Zbt ?_);show wpAny _ _ (standAt I.pos >>= _) _ _ s;exact Za4 (Zbu (Za4 (Zbi h (λb f H=>Zbn (And.intro rfl H)) λ_ _ x=>x))))
def qf
  (hx:Y.xe=λ_ _=>False) (hc:Y.calm=a8) (hg:gens[d]?=aD ⟨tg,iter,ifs,0⟩) (T:Turn Y.prog Y.w Y.K tg J I it tn) (I2:Inv Y p σ H s) (st2:tn 0 s.heap) (f2:∀b∈I,iQ Y p H b)
  (hgt:PG Y tg g) (hts:PTs Y ifs ti) (htl:PTl Y c gens scope pos acc d t) (hW:ua J g (fq ti t) D σ H) :
  codeAny (model Y.prog Y.w) Y.A (.compLoop (cmE c gens scope pos) d (.ref it) (.ref acc) Y.env) (λr s'=>r = .ok .next/\∃f H',Inv Y p f H' s'/\D.nx f H') s:=by
 let{W,⟨m0,w0⟩,U}:=hW;let v:∀ {H':Hp},(∀b∈I,H' b=aT)->∀b∈I,iQ Y p H' b:=λhn b y=>{hn b y,(f2 b y).2};calc codeAny_loop rfl (λn s'=>∃i f H',Inv Y p f H' s'/\tn i s'.heap/\(∀b∈I,H' b=aT)/\W i n f H') (λn s3 hI=>?_) m0 {0,σ,H,I2,st2,λb y=>(f2 b y).1,w0};let{i,h,H3,I3,Z,Q,w3}:=hI;rw[Da,Db];calc wpAny_noted (Zbi (E:=λ_ _=>False) ?_ (λ_ _ q=>q) λ_ _ z=>z.elim);calc Hn hg ?_;rcases U i n h H3 w3 with ⟨stop,qn⟩ |⟨go,N,hN,step⟩
 .calc thn (T.done Y rfl rfl rfl hc i p s3 h H3 _ I3 (v Q) Z stop) λr s4 ⟨hr,I4⟩=>?_;subst hr;exact⟨rfl,h,H3,I4,qn⟩
 .calc thn (T.item Y rfl rfl rfl hc i p s3 h H3 _ I3 (v Q) Z go) λr s4 ⟨u,hr,h4⟩=>?_;subst hr;calc thn h4 λ_ s5 ⟨x,H5,I5,r5,y5,C,fr5⟩=>?_;let I5':=I5.pinned (v fr5) (T.obj _ _ C)
  let again:∀ {j:St} {B:Hp} {M:Shared},Inv Y (p++mZ I s5.heap) j B M->N j B->∃m,m < n/\∃i f H',Inv Y p f H' M/\tn i M.heap/\(∀b∈I,H' b=aT)/\W i m f H':=λ{j B M} L n7=>by
   let{m',hm,w7}:=hN j B n7;calc{m',hm,i+1,j,B,L.unpinned,T.keep _ _ _ C λb y o e=>(L.pin (b,o) (ZE _ (ZE _ (fM y e)))).1,λb y=>?_,w7};let{o,e,dd}:=T.obj _ _ C b y;exact(L.pin (b,o) (ZE _ (ZE _ (fM y e)))).2.1
  let hG:=hgt _ s5 h H5 x u _ I5' r5 (step x H5 y5);rw[hx]at hG;calc thn hG λ_ s6 ⟨X,H6,I6,q6⟩=>?_;let hT:=hts _ s6 X H6 _ I6 q6;rw[hx]at hT;calc thn hT λok M ⟨B,L,q7⟩=>?_;cases ok with
  |false=>
   simp![Ym,if_false]at q7 ⊢;exact{by trivial,again L q7}
  |true=>
   simp![if_true]at q7 ⊢;let O:=htl _ M X B _ L q7;cases hn:gens[d+1]? with
   |none=>
    rw[hn]at O;exact thn O λ_ s9 ⟨σ9,H9,I9,q9⟩=>{by trivial,again I9 q9}
   |some g'=>
    rw[hn]at O;let{ha,O}:=O;exact{ha,thn O λx s8 h8=>thn h8 λx' s9 h9=>thn h9 λit' s10 h10=>thn h10 λ_ s11 ⟨σ9,H9,I9,q9⟩=>{by trivial,again I9 q9}}
abbrev Dc(f:TI)(g:TG)(T:TT)(t:TS):TS:=λD b H=>f b H λJ h=>ua J g (fq T t) D b h
def Hu(y:gens[d+1]?=aD ⟨z,b,ifs,0⟩)
  (E:PI Y z b wi) (o:PG Y z g) (j:PTs Y ifs ti) (u:PTl Y c gens scope pos acc (d+1) t) (C:Y.xe=λ_ _=>False:=by rfl) (hc:Y.calm=a8:=by rfl) (hs:∀x,Zay b Y.env x=pure x:=by intro _;rfl) :
  PTl Y c gens scope pos acc d (Dc wi g ti t):=by
 intro p s σ H D I h;rw[y];calc⟨rfl,?_⟩;let B:=E p s σ H _ I h;rw[C]at B;calc thn B λv s5 M=>wpAny_of_eq (hs v) (thn M λU s6 O=>?_);let{it,fp,tn,J,H6,e,Q,T,f,Z,W}:=O;subst e;let L:=qf (c:=c) (gens:=gens) (scope:=scope) (pos:=pos) (acc:=acc) C hc y T Q f Z o j u W;calc wpAny_runOwn (Zat (nu y L (T.self _ 0 s6 _ _ f L)) λr s8 X=>?_);let{rfl,q}:=X;exact q
end
abbrev rG(o:HO)(own:Nat)(j:TI)(g:TG)(T:Addr->TS):TE:=λc H Q=>j c H λJ h=>∀b,h b=aT ->
 ua J g (T b) {nx:=λ_ f=>Q (.ref b) f,rt:=λ_ _=>False} (c++Zr own aT) (upd h b o)
@[inline]abbrev RI:=rG (.lst [])
section
variable {X:Cx} {c:CmK} {f j n:Expr} {u:List Expr} {w:List W2} {scope:Scope} {pos:Pos} {own:List Str} {A:List Nat} {B:TI} {g:TG} {ti:TT} {t:Addr->TS}
def MN{p:List (Addr×Obj)}{b:St}{H:Hp}{s:Shared}{E:Value->Shared->Prop}{Q:Value->Shared->Prop}(I:Inv X p b H s)(h:∀o,Inv X p b (upd H s⁻¹ (cmO c)) {s with heap:=s.heap.push o}->Q (.ref s⁻¹) {s with heap:=s.heap.push o}):wpAny (model X.prog X.w) X.A (cmN c) Q E s:=by
 cases c with
 |l e=>exact Zbl (h _ (I.lnew (its:=[]) (t':=s.toks) .nil (Z5 _)))
 |d k v=>exact Zbl (h _ (I.laid (a:=s⁻¹) (o:=.dK []) (t':=s.toks) (λ_ _ q=>Zk _ q) (Zc _) (nj s.heap I.big)))
def nv{z:List (Addr×Obj)}{σ:St}{Q:VK}{itv:Value}{s2:Shared}{E:Value->Shared->Prop}(hc:X.calm=a8)(S:CmScope own A X.N scope X.env.scope)
  (hgt:∀C ex s H,PG (cxC X own A scope C ex s H) j g) (hts:∀C ex s H,PTs (cxC X own A scope C ex s H) u ti)
  (htl:∀C ex s H h,PTl (cxC X own A scope C ex s H) c (⟨j,n,u,0⟩::w) scope pos h 0 (t h))
  (h2:PIE X z σ j (λJ H1=>∀h,H1 h=aT->ua J g (fq ti (t h)) {nx:=λ_ I=>Q (.ref h) I,rt:=λ_ _=>False} (σ++Zr own.length aT) (upd H1 h (cmO c))) itv s2)
  {RR:Value->Addr->Result->Shared->Prop} (hRR:∀h C I s',Inv X z σ I s'->iQ X z I C->(∃m,s'.heap.Ns C m)->Q (.ref h) I->RR (.ref h) C (.ok .next) s') :
  wpAny (model X.prog X.w) X.A (cmN c) (λh v=>wpAny (model X.prog X.w) X.A (ZaH scope X.env.globals (cA X.env.cells scope.names []) [] X.env.qual aT .none (aD X.env)) (λM Z=>
   codeAny (model X.prog X.w) X.A (.compStart (cmE c (⟨j,n,u,0⟩::w) scope pos) 0 itv h {M with scope:=relabel scope X.env}) (RR h M.locals) Z) E v) E s2:=by
 let{it,U,tn,J,H2,e,I2,T,st2,f2,R}:=h2;subst e;calc MN I2 λob I3=>?_;let W:=R s2⁻¹ (I2.hok.fresh (Zc _));generalize hs3:({s2 with heap:=s2.heap.push ob}:Shared)=v at I3 ⊢;let e3:v.heap=s2.heap.push ob:=by rw[<-hs3]
 let k3:∀b o,s2.heap.get? b=aD o->v.heap.get? b=aD o:=λb o e=>by rw[e3];exact Zk _ e
 let st3:tn 0 v.heap:=T.keep _ _ _ st2 λb _ o e=>k3 b o e;let fne:∀b∈U,b < s2⁻¹:=λb y=>let ⟨o,e,_⟩:=T.obj _ _ st2 b y;Zv e;let O:∀b∈U,iQ X z (upd H2 s2⁻¹ (cmO c)) b:=λb y=>{by rw[aA (ZI (fne b y))];exact(f2 b y).1,(f2 b y).2};let fo3:∀b∈U,b < v.heap.objs.size:=λb y=>let ⟨o,e,_⟩:=T.obj _ _ st3 b y;Zv e;calc A6 ?_;let I4:=I3.compStart S O fo3;generalize hH3:upd H2 s2⁻¹ (cmO c)=H3 at I3 I4 O W
 let eE:({scope:=relabel scope X.env,locals:=v.heap.objs.size,globals:=X.env.globals,cells:=Zaq (v.heap.objs.size+1) scope.names (cA X.env.cells scope.names []),qual:=X.env.qual,func:=aT,code:=X.env.code,frame:=X.env.frame,builtins:=X.env.builtins}:Env)=wD scope v.heap.objs.size X.env:=by
  delta wD;rw[Ho]
 generalize hs4:({v with heap:=ZaJ (v.heap.push {cls:=.type "dict",data:=.dict #[]}) scope.names}:Shared)=Z at I4 ⊢;let k4:∀b o,v.heap.get? b=aD o->Z.heap.get? b=aD o:=λb o e=>by rw[<-hs4];exact ZaK _ _ b o (Zk _ e)
 let st4:tn 0 Z.heap:=T.keep _ _ _ st3 λb _ o e=>k4 b o e
 let f4:∀b∈U,iQ (cxC X own A scope v.heap.objs.size U v H3) [] H3 b:=λb y=>by
  refine{(O b y).1,ZI (fo3 b y),I4.ok.exfs b y,.inl y,λx c hl=>(I4.ok.exf b y).2 x c hl,λp hp=>absurd (show p∈([]:List (Addr×Obj)) from hp) (by simp)}
 let L:=qf (Y:=cxC X own A scope v.heap.objs.size U v H3) (c:=c) (gens:=⟨j,n,u,0⟩::w) (d:=0) (scope:=scope) (pos:=pos) (acc:=s2⁻¹) rfl hc rfl T I4 st4 f4 (hgt _ _ _ _) (hts _ _ _ _) (htl _ _ _ _ _) W;let C:=nu (c:=c) (gens:=⟨j,n,u,0⟩::w) (d:=0) (scope:=scope) (pos:=pos) rfl L (T.self _ 0 Z _ _ st4 L);show codeAny (model X.prog X.w) X.A (.compStart (cmE c (⟨j,n,u,0⟩::w) scope pos) 0 (.ref it) (.ref s2⁻¹) {scope:=relabel scope X.env,locals:=v.heap.objs.size,globals:=X.env.globals,cells:=Zaq (v.heap.objs.size+1) scope.names (cA X.env.cells scope.names []),qual:=X.env.qual,func:=aT,code:=X.env.code,frame:=X.env.frame,builtins:=X.env.builtins}) (RR (.ref s2⁻¹) v.heap.objs.size) Z;rw[eE];calc Zat C λr s' hr=>?_;let{rfl,σ',I,I',q}:=hr;let{mC,nC,_}:=id I'.loc;let freeC:I v.heap.objs.size=aT:=I'.free;calc hRR _ _ I s' ?_ (I3.fpOk (Zc _) freeC) ⟨mC,nC⟩ q;exact I3.call' (ch:=U) I'.os I'.base I'.hok I'.bare λb y=>{(O b y).2.2.2.1,(O b y).2.1,(O b y).2.2.2.2.1,(O b y).2.2.2.2.2}
def Hv{env:Env}:eval (cmE c (⟨j,n,u,0⟩::w) scope pos) env=Zav (cmE c (⟨j,n,u,0⟩::w) scope pos) scope env (firstIterPos (⟨j,n,u,0⟩::w) pos) (cmN c) a9 (eval n env):=by
 cases c with
 |l e=>exact eval_ListComp ..
 |d k v=>delta cmE;rw[eval];rfl
def zd(hc:X.calm=a8)(S:CmScope own A X.N scope X.env.scope)(Y:PI X j n B)
  (M:∀C ex s H,PG (cxC X own A scope C ex s H) j g) (J:∀C ex s H,PTs (cxC X own A scope C ex s H) u ti)
  (T:∀C ex s H p,PTl (cxC X own A scope C ex s H) c (⟨j,n,u,0⟩::w) scope pos p 0 (t p))
  (A:∀x,Zay n X.env x=pure x:=by intro _;rfl) :
  PE X (cmE c (⟨j,n,u,0⟩::w) scope pos) (rG (cmO c) own.length B g λp=>fq ti (t p)):=by
 intro z s U H Q I h;rw[Hv];calc Za7 (use:=aT) (cl:=cA X.env.cells scope.names []) C7 A (y9 λy L O=>I.ok.has y.1 (S.fr y L O)) S.kind (λy L O=>dG S.uniq (by rw[<-O];exact L)) ?_;calc thn (Y z s U H _ I h) λv s1 h1=>thn h1 λitv s2 h2=>?_;calc nv (c:=c) hc S M J T h2 (RR:=λp C=>compPost (model X.prog X.w) X.A X.xe aT (EP X z U Q) p C) λp C H' s' I' E Z q=>?_;let{m,nm}:=Z;calc{m,nm,λh' sb=>{.ref p,H',?_,rfl,q}};exact I'.turned (t':=s'.toks) (λb o hb e=>(sb.2 b hb).trans e) E.1 E.2.1 E.2.2.2.1 E.2.2.2.2.1 E.2.2.2.2.2
def MO{env:Env}{use:Value->Sem Unit}:evalThenUse (cmE c (⟨j,n,u,0⟩::w) scope pos) env use=(do let _ <-Zav (cmE c (⟨j,n,u,0⟩::w) scope pos) scope env (firstIterPos (⟨j,n,u,0⟩::w) pos) (cmN c) a9 (eval n env) (aD use)):=by
 cases c <;> rfl
def ze{i:Nat}(hc:X.calm=a8)(S:CmScope own A X.N scope X.env.scope)(hN:X.N.Nodup)(hix:X.N[i]?=aD x)(hx:X.env.scope.names.lookup x=aD .local)(hi:PI X j n B)
  (Y:∀C ex s H,PG (cxC X own A scope C ex s H) j g) (T:∀C ex s H,PTs (cxC X own A scope C ex s H) u ti)
  (htl:∀C ex s H p,PTl (cxC X own A scope C ex s H) c (⟨j,n,u,0⟩::w) scope pos p 0 (t p))
  (hsw:ZaS (cmE c (⟨j,n,u,0⟩::w) scope pos) (aD (.Name x E)) M.line X.env=pure a8:=by rfl)
  (A:∀x,Zay n X.env x=pure x:=by intro _;rfl) :
  PS X (.Assign [.Name x E] (cmE c (⟨j,n,u,0⟩::w) scope pos) M) (qZ (rG (cmO c) own.length B g λp=>fq ti (t p)) (iV i)):=by
 intro J s σ H D I h;rw[exec_Assign_Name_used _ _ _ _ hsw];rw[MO];calc Za4 (Zbu (Za4 ?_));show wpAny _ X.A (do let _ <-Zav (cmE c (⟨j,n,u,0⟩::w) scope pos) scope X.env _ (cmN c) a9 (eval n X.env) (aD (assign (.Name x E) X.env))) _ _ s
 refine Za4 (Zbi (Za7 (use:=aD (assign (.Name x E) X.env)) (Q:=λ_ O=>SP X J D .next O) (cl:=cA X.env.cells scope.names []) C7 A (y9 λy U hk=>I.ok.has y.1 (S.fr y U hk)) S.kind (λy U hk=>dG S.uniq (by rw[<-hk];exact U))
  ?_) (λ_ O hq=>Zbn (Zbn hq)) λ_ _ e=>e)
 calc thn (hi J s σ H _ I h) λv s1 h1=>thn h1 λitv s2 h2=>?_;calc nv (c:=c) (Q:=λy H'=>iV i y σ H' D.nx) hc S Y T htl h2 (RR:=λp C=>compPost (model X.prog X.w) X.A X.xe (aD (assign (.Name x E) X.env)) (λ_ O=>SP X J D .next O) p C) λp C H' O I' L m' q=>?_;let{m,nm}:=m';show wpAny _ X.A (assign (.Name x E) X.env (.ref p)) _ _ _;calc wpAny_assign_Name (pT (v:=.ref p) I' hN hix (.inl hx) rfl (λs'' I'' hch=>?_) (.inr hx));let{a,Z,ha}:=hch
 let ne:C≠a:=by
  rcases ha with e |e
  .rw[e];exact L.2.1
  .exactλz=>L.2.2.2.2.1 x a e z.symm
 calc{m,nm.sameBut Z ne,λh' sb=>{_,H',?_,q}};exact I''.turned (t':=s''.toks) (λb o hb e=>(sb.2 b hb).trans e) L.1 L.2.1 L.2.2.2.1 L.2.2.2.2.1 L.2.2.2.2.2
end
end L2
namespace HT
open PySem PyProof.Rows
section
variable {prog:Program} {w:World} {A:Around} {E:Value->Shared->Prop} {s:Shared}
def Dd{t b:Addr}{q:List Value}{Q:Value->Shared->Prop}(z:IsTup s.heap t ([]:List Value).toArray)(y:IsTup s.heap b q.toArray)(h:Q (.ref b) s):wpAny (model prog w) A (Zak .Add (.ref t) (.ref b)) Q E s:=by
 let{⟨cls,B,u,sl⟩,o,p,n,hd}:=id z;let{⟨C,g,data2,j⟩,c,H,v,f}:=id y;simp! at p hd H f;subst p hd H f
 exact Zaw ⟨_,o,rfl⟩ ⟨_,c,rfl⟩ ZaI ZaN VI W5 (W3 _ _)
   (tuple_addW0 t b _ q.toArray n v B g sl j (by simp)) ⟨o,c,h⟩
def iR{t sl:Addr}{I:Array Value}{v p:Value}{lo c:Option Int}{Q:Value->Shared->Prop}(H:IsTup s.heap t I)(hs:s.heap.IsSliceOf sl v p .none)(pl:IsPart v lo)(pu:IsPart p c)
  (hw:sIx I.size 0 lo=0/\sIx I.size I.size c=I.size) (h:Q (.ref t) s):wpAny (model prog w) A (getItem (.ref t) (.ref sl)) Q E s:=by
 let{os,j,g,q}:=id hs;let f:s.TypeIs (.ref sl) "slice" := ⟨os,j,g⟩;let{o,u,y,n,hd}:=id H;delta getItem
 try with_reducible refine Zbc ?_
 first |refine Za4 (Zbn ?_) |skip
 refine Za4 (wpAny_sequenceKey H.typeIs (by decide) ?_)
 refine Za4 (wpAny_callSpecial?_slot (name:=Str.ofString "__getitem__") H.typeIs WU
  (Za6 WU H.typeIs entry_tuple_getitem ?_ (args_tuple_getitem _ _)))
 show wpAny _ _ (Builtin.Tuple.tupleItemsOf (.ref t) >>= _) _ _ s;calc Za4 (tupleItemsOf_ H ?_);calc Za4 (Zbw f ?_);rw[if_pos (by decide)];refine Za4 (fo hs pl pu ?_)
 let b:((((sIx I.size 0 lo:Nat):Int) == 0 && (1:Int) == 1 && (sIx I.size I.size c - sIx I.size 0 lo) == I.size)=a8):=by
  rw[hw.1,hw.2];simp
 show wpAny _ _ (if (((sIx I.size 0 lo:Nat):Int) == 0 && (1:Int) == 1 && (sIx I.size I.size c - sIx I.size 0 lo) == I.size)=a8 then _ else _) _ _ s;rw[if_pos b];let hT:s.TypeIs (.ref t) "tuple" := H.typeIs
 first
  | (refine Za4 (m:=Builtin.Tuple.tupleIsExact _) ?_
     delta Builtin.Tuple.tupleIsExact;calc Za4 (Zbw hT (Zbn ?_));rw[if_pos (by decide)];exact Za4 (Zbt (Zbn {_,rfl,Zbn h})))
end
end HT
namespace L2
open PySem PySem.Spec PyProof.Rows
def De{s:Shared}{h':Heap}{o:Obj}(h:∀b x,b∉[s⁻¹]->(s.heap.push o).get? b=aD x->h'.get? b=aD x):∀b x,s.heap.get? b=aD x->h'.get? b=aD x:=
 λb x e=>h b x (λH=>by rw[Zw.mp H]at e;exact ZS _ (Zv e)) (Zk _ e)
section
variable {X:Cx}
abbrev RJ(K:V6):R2:=λx y H Q=>∃a b xs Y,x = .ref a/\y = .ref b/\SqT K H a xs/\SqT K H b Y/\xs.length+Y.length<=sizeLine ∧
 (xs=[]->Q (.ref b) H)/\(xs≠[]->Y=[]->Q (.ref a) H)/\(xs≠[]->Y≠[]->∀p,H p=aT->Q (.ref p) (upd H p (.tup (xs++Y))))
def Hw:OpR X (Zak .Add) (RJ X.K):=by
 intro p s O H x y v u Q I g o h;let{a,b,xs,Y,rfl,rfl,f,j,C,J,E,M}:=h;by_cases c:xs=[]
 .subst c;cases g;cases o;let{L,r1,z,_}:=I.tuple f;let{q,r2,B,_}:=I.tuple j;cases r1;exact HT.Dd z B {.ref b,H,I,rfl,J rfl}
 .exact Hj p s O H _ _ v u Q I g o {a,b,xs,Y,rfl,rfl,f,j,c,C,E c,M c}
abbrev U1(K:V6):V->Option Int->Option Int->Hp->VK->Prop:=λx lo h H Q=>∃a xs,x = .ref a/\SqT K H a xs ∧
 ((HT.sIx xs.length 0 lo=0/\HT.sIx xs.length xs.length h=xs.length)->Q (.ref a) H) ∧
 (¬ (HT.sIx xs.length 0 lo=0/\HT.sIx xs.length xs.length h=xs.length)->∀p,H p=aT->Q (.ref p) (upd H p (.tup (m9 xs lo h))))
def Hx:SlR X (U1 X.K):=by
 intro p s C H x v u y lo g sl Q I j hs pl pu h;let{a,xs,rfl,q,z,B}:=h;by_cases c:(HT.sIx xs.length 0 lo=0/\HT.sIx xs.length xs.length g=xs.length)
 .cases j;let{f,r,o,E}:=I.tuple q;let b:f.toArray.size=xs.length:=by rw[Zj];exact r.length.symm
  calc{"tuple",_,PyProof.Rows.slot_tuple_getitem.lookup,o.typeIs,?_};exact HT.iR o hs pl pu (by rw[b];exact c) {.ref a,H,I,rfl,z c}
 .exact MD p s C H _ v u y lo g sl Q I j hs pl pu {a,xs,rfl,q,c,B c}
def ub:bc X (.builtin "isinstance") (λxs H Q=>∃x n t b,xs=[x,.ty n]/\TyOf X.K H x t/\OS X.K t (.type n)=aD b/\Q (.bl b) H):=by
 intro p s g H xs U Q I r h;let{x,n,t,b,rfl,ty,e,q}:=h;let{u,j,rfl,c,f}:=yY r;cases f;exact AW I c ty e λT=>{.bl b,H,I.tok T,rfl,q}
def nw:∀ {bs:List Bool} {u:List Value},aP (bs.map V.bl) u->u=bs.map Value.bool
 |[],_,.nil=>rfl
 |_::_,_,.cons r t=>by rw[Zx,nw t];cases r;rfl
def Bc(hc:X.calm=a8):bc X (.builtin "all") (λxs H Q=>∃ (l:Addr) (bs:List Bool),xs=[.ref l]/\SqL X.K H l (bs.map V.bl)/\Q (.bl (bs.all id)) H):=by
 intro y s σ H xs us Q I r h;let{l,bs,rfl,J,q}:=h;let{u,rfl,M}:=dr r;cases M;let{O,E,p,hz}:=I.list J;let e:=nw E;subst e;let j:=p.isList;let o:l < s⁻¹:=by let{_,e,_}:=j;exact Zv e
 refine call_all_walk (Zbp j ?_)
 refine⟨s⁻¹,[s⁻¹,l],[s⁻¹],_,_,_,λi=>(bs[i]?).getD a8,rfl,Walks.list (A:=X.A.in1) (I.ok.hd hc) _ l (ZI o) _,
  {{_,ZJ _ rfl,rfl,rfl},j.push _},λi v s' Y Z B z=>?_,λU T C=>?_⟩
 .let c:(bs.map Value.bool)[i]?=aD v:=by simpa using B
  rw[Zn]at c;cases g:bs[i]? with
  |none=>rw[g]at c;cases c
  |some b=>
   rw[g]at c;let L:Value.bool b=v:=θ c;subst L;simp![g,Yu]at z;exact Zbv z
 .let e:((Zm (bs.map Value.bool).toArray.size).all λi=>(bs[i]?).getD a8)=bs.all id:=by
   rw[Zj,Za,Z1];simp![Zg,ZU,id];constructor
   .intro h b g;let{i,f,rfl}:=XU.mp g;let:=h i f
    rwa[gEG f,Yu]at this
   .intro h i f;rw[gEG f,Yu];exact h _ (ZG f)
  rw[e];exact{.bl (bs.all id),H,I.kept (t':=T) (De C),rfl,q}
def MP:OpR X (Zau .Is) (λx y H Q=>∃b c,x = .bl b/\y = .bl c/\Q (.bl (b == c)) H):=by
 intro p s j H x y v u Q I f g h;let{b,c,rfl,rfl,q}:=h;cases f;cases g;exact is_bool {.bl _,H,I,rfl,q}
def Bd:OpR X (Zau .IsNot) (λx y H Q=>∃b c,x = .bl b/\y = .bl c/\Q (.bl (b != c)) H):=by
 intro p s j H x y v u Q I f g h;let{b,c,rfl,rfl,q}:=h;cases f;cases g;exact isnot_bool {.bl _,H,I,rfl,q}
def ny(hc:X.calm=a8):∀ {p:List (Addr×Obj)} {s:Shared} {C:St} {H:Hp} {Q:VK} {r:Addr} {n:Nat} {t u v:Tok},Inv X p C H s->IsRange s.heap r 0 n 1 t u v->n<=1000->(∀l,H l=aT->Q (.ref l) (upd H l (.lst ((Zm n).map λ(i:Nat)=>V.int i)))) ->
  wpAny (model X.prog X.w) X.A (call (.type "list") [.ref r]) (EP X p C Q) X.xe s:=by
 intro p s C H Q r n t u v I U O q;let E:Builtin.Range.small 0 n 1=a8:=small_one (by lia) (by lia) (by lia) (by lia);refine call_list_range (n:=n) (I.ok.hd hc) U E (by rw[rangeSize_one];split <;> lia) (by lia) λh' T b c' M g h=>?_;calc{.ref s⁻¹,_,I.laid (t':=T) (o:=.lst ((Zm n).map λ(i:Nat)=>V.int i)) M (Zc _) ?_,rfl,q _ (I.hok.fresh (Zc _))};let z:b.size=n:=h.1;refine{by rw[Za,Z7];exact Xv (A0 O),b.toList,c',?_,by simpa using g}
 let go:∀ (m:Nat) (k:Nat) (l:List Value),l.length=m->(∀j x,l[j]?=aD x->∃T,x=Value.int (((k+j:Nat):Nat):Int) T)->aP ((List.range' k m).map λ(i:Nat)=>V.int i) l:=by
  intro m
  induction m with
  |zero=>intro k l c _;cases l with |nil=>exact .nil |cons _ _=>cases c
  |succ m Z=>
   intro k l c f;cases l with
   |nil=>cases c
   |cons x l=>
    rw[List.range'_succ,Zx];let{t,e}:=f 0 x rfl;calc .cons {t,by simpa using e} (Z (k+1) l (by simpa using c) λj y J=>?_);let{Y,L}:=f (j+1) y (by simpa using J);exact{Y,by rw[L,show((k+(j+1):Nat):Int)=((k+1+j:Nat):Int) from by lia]}
 rw[List.range_eq_range'];calc go n 0 b.toList (by simpa using z) λj x f=>?_;let{B,e}:=h.2 j x (by simpa using f);exact{B,by rw[e,show(0:Int)+(j:Nat) * 1=((0+j:Nat):Int) from by lia]}
end
end L2
namespace HT
open PySem PyProof.Rows
open AutoSeq1 (wpAny_loadPart')
section
variable {prog:Program} {w:World} {A:Around} {E:Value->Shared->Prop} {s:Shared}
def lZ{i:Nat}(h:s.heap.IsTupleIter b t i)(p:s.heap.IsTuple t I)(j:I[i]?=aD x)
  (q:∀h',h'.IsTupleIter b t (i+1)->Heap.SameBut b s.heap h'->Q x {s with heap:=h'}):wpAny (model prog w) A (Builtin.SmallTypes.nextOf (.ref b)) Q E s:=by
 let{o,H,g,hd}:=id h;let{O,c,_,u,f}:=p;delta Builtin.SmallTypes.nextOf
 refine Za4 (wpAny_callSpecial?_slot (name:=Str.ofString "__next__") h.typeIs VL
  (Za6 VL h.typeIs W6 ?_ (W4 _)))
 show wpAny _ _ (field (.ref b) 0 >>= _) _ _ s;calc Za4 (Zbb H hd (x:=.ref t) rfl ?_);show wpAny _ _ (if (Value.ref t == Value.none)=a8 then _ else _) _ _ s;rw[if_neg (show ¬ ((Value.ref t == Value.none)=a8) from Ze)];show wpAny _ _ (field (.ref b) 1 >>= _) _ _ s;calc Za4 (Zbb H hd (x:=.int i 0) rfl ?_);show wpAny _ _ (seqItems? (.ref t) >>= _) _ _ s;calc Za4 (wpAny_seqItems c f ?_);simp![ZL,j];refine Za4 (wpAny_setField H hd (by simp) (Zbn {x,rfl,Zbn (q _ ?_ (Heap.SameBut.update ..))}))
 exact⟨_,XH _ H (Obj.isFreed_of_fields (Obj.data_mapFields hd _)),(Obj.cls_mapFields ..).trans g,by
  rw[Obj.data_mapFields hd];simp[rawInt]⟩
def nz{i:Nat}(g:A.handled=aT)(h:s.heap.IsTupleIter b t i)(q:s.heap.IsTuple t I)(p:I[i]?=aT)
  (j:∀h' e,Heap.ExtBut b s.heap h'->(∃o,h'.get? e=aD o/\o.cls = .type "StopIteration")->E (.ref e) {s with heap:=h'}):wpAny (model prog w) A (Builtin.SmallTypes.nextOf (.ref b)) Q E s:=by
 let{o,H,u,hd}:=id h;let{O,c,_,v,f}:=q;delta Builtin.SmallTypes.nextOf
 refine Za4 (wpAny_callSpecial?_slot (name:=Str.ofString "__next__") h.typeIs VL
  (Za6 VL h.typeIs W6 ?_ (W4 _)))
 show wpAny _ _ (field (.ref b) 0 >>= _) _ _ s;calc Za4 (Zbb H hd (x:=.ref t) rfl ?_);show wpAny _ _ (if (Value.ref t == Value.none)=a8 then _ else _) _ _ s;rw[if_neg (show ¬ ((Value.ref t == Value.none)=a8) from Ze)];show wpAny _ _ (field (.ref b) 1 >>= _) _ _ s;calc Za4 (Zbb H hd (x:=.int i 0) rfl ?_);show wpAny _ _ (seqItems? (.ref t) >>= _) _ _ s;calc Za4 (wpAny_seqItems c f ?_);simp![ZL,p];calc Za4 (Zbt (Za4 (wpAny_setField H hd (by simp) ?_)));show wpAny _ _ (newExc (.type "StopIteration") [] >>= _) _ _ _;calc Za4 ?_;simp![newExc,newTuple];calc Za4 (Zbl ?_ (by size_fits));calc Za4 (m:=firstArgMember _ _) (wpAny_of_eq (a:=Value.none) (by first |rfl |(simp![firstArgMember];rfl)) ?_);calc Zbl ?_ (by size_fits);simp![raiseNew];refine Za4 (wpAny_handled ?_)
 first |rw[show A.in1.handled=aT from g] |rw[g]
 calc Za4 (Zbn (wpAny_throw ?_));exact j _ _ (((Heap.SameBut.update ..).extBut.push _).push _) {_,ZJ _ rfl,rfl}
end
def Df(q:A.handled=aT)(b l:Addr)(f:l≠b)(I:Array Value) :
  Draws prog w A b [b,l] I.size (λi v=>I[i]?=aD v) (λi h=>h.IsTupleIter b l i/\h.IsTuple l I) where
 live:=λ_ _ st=>let ⟨o,ho,_⟩:=st.1;⟨o,ho⟩
 frame:=λ_ _ _ st g=>{st.1.at λo e=>g b (by simp) o e,let ⟨o,e,r⟩:=st.2;{o,g l (by simp) o e,r}}
 item:=λi s Q E j st y=>by
  calc lZ st.1 st.2 (x:=I[i]) (by simp[j]) λp H c=>?_;exact y _ p s.toks (by simp[j]) {H,let ⟨o,e,r⟩:=st.2;{o,c.extBut l o f e,r}} c
 done:=λs Q E st u=>nz q st.1 st.2 (by simp) u
def uc(l:Addr)(items:Array Value)(n:Nat)(f:Option Addr)(sl:Array (Option Value)) :
  Meets (Builtin.«enumerate.__new__» ⟨[.type "enumerate",.ref l],[]⟩) (λ_ R s=>s.heap.get? l=aD {cls:=.type "tuple",dict:=f,data:=.seq items n,slots:=sl} ∧
   R (.ok (.ret (.ref (s.heap.push {cls:=.type "tuple_iterator",data:=.fields #[.ref l,.int 0 0]}).objs.size)))
    {s with heap:=(s.heap.push {cls:=.type "tuple_iterator",data:=.fields #[.ref l,.int 0 0]}).push {cls:=.type "enumerate",data:=.fields #[.none,.bool a9,.ref s⁻¹,rawInt 0,.none,.none]}}):=
 .of_wp λprog w A R s h=>by
  let{o,g,d,T,os}:=s;let{H,h}:=h;let j:=sub_enumerate;let b:Heap.IsTuple (Shared.heap ⟨o,g,d,T,os⟩) l items:=⟨_,H,rfl,n,rfl⟩
  wp_walk using Zbg H
  calc wpAny_stack_any λst=>Zbn ?_;split
  .rename_i c _ _ _ _ _;cases (c == Value.type "enumerate")
   .wp_walk using Zbg H,Zbq b
    exact⟨_,rfl,h⟩
   .wp_walk using Zbg H,Zbq b
    exact⟨_,rfl,h⟩
  .wp_walk using Zbg H,Zbq b
   exact⟨_,rfl,h⟩
def wL(p:IsTup s.heap l I)
  (h:∀h',IsEnum h' (s⁻¹+1) s⁻¹ 0 .none->h'.IsTupleIter s⁻¹ l 0->h'.objs.size=s⁻¹+2 ->
   (∀b o,s.heap.get? b=aD o->h'.get? b=aD o)->Q (.ref (s⁻¹+1)) {s with heap:=h'}) :
  wpAny (model prog w) A (call (.type "enumerate") [.ref l]) Q E s:=by
 let{⟨c,g,q,sl⟩,u,H,n,hd}:=p;replace H:c = .type "tuple" := H;replace hd:q = .seq I n:=hd;subst H hd
 refine callType_new PySem.F.called_enumerate (by decide) (PySem.F.typeCall_enumerate_1 _) (PySem.F.newCall_enumerate_1 _) (λobj=>PySem.F.args_object_init_2 obj _) PySem.F.entry_enumerate_new
  (uc l I n g sl) {u,?_}
 let f:(s.heap.push {cls:=.type "tuple_iterator",data:=.fields #[.ref l,.int 0 0]}).objs.size=s⁻¹+1:=YY ..;show _/\_;rw[f]
 let j:IsEnum ((s.heap.push {cls:=.type "tuple_iterator",data:=.fields #[.ref l,.int 0 0]}).push
   {cls:=.type "enumerate",data:=.fields #[.none,.bool a9,.ref s⁻¹,rawInt 0,.none,.none]}) (s⁻¹+1) s⁻¹ 0 .none:=by
  let:=ZJ (s.heap.push {cls:=.type "tuple_iterator",data:=.fields #[.ref l,.int 0 0]})
   (o:={cls:=.type "enumerate",data:=.fields #[.none,.bool a9,.ref s⁻¹,rawInt 0,.none,.none]}) rfl
  rw[f]at this;exact this
 exact{⟨_,j,rfl⟩,h _ j {_,Zk _ (ZJ _ rfl),rfl,rfl} (by rw[YY,f]) λb o x=>Zk _ (Zk _ x)}
end HT
namespace L2
open PySem PySem.Spec PyProof.Rows
abbrev Ite(K:V6)(a:Addr)(b:V6->Hp->Addr->List V->Prop):It:=
 {λi H=>∃xs x,b K H a xs/\xs[i]?=aD x,λi H x h=>∃T,H T=aT/\x = .ref T/\∀xs v,b K H a xs->xs[i]?=aD v->h=upd H T (.tup [.int i,v]),λi H=>∃xs,b K H a xs/\xs.length=i}
def Inv.turnedLaid{X:Cx}{p:List (Addr×Obj)}{B:St}{H:Hp}{s:Shared}{h':Heap}{T:Addr}{o:HO}{t':Nat}{ch:List Addr}(I:Inv X p B H s)(g:∀b∈ch,iQ X p H b)
  (k:∀b ob,b∉ch->s.heap.get? b=aD ob->h'.get? b=aD ob) (y:s⁻¹<=T) (new:bD X.prog X.w (upd H T o) h' T o):Inv X p B (upd H T o) {s with heap:=h',toks:=t'}:=by
 let fr:=I.hok.fresh y;let neT:∀b ob,s.heap.get? b=aD ob->b≠T:=λb ob e=>ZI (ZB (Zv e) y)
 refine I.step (g':=s.gens) (d':=s.drawn) (ch:=ch) (λb f=>{(g b f).2.2.2.1,(g b f).2.1,(g b f).2.2.2.2.1,(g b f).2.2.2.2.2}) (λb ob _ _ h e _=>k b ob h e) (λb ob _ _ h e _=>{ob.slots,k b ob h e})
  (λb ob _ e n=>by rw[aA (neT b ob e)];exact n) (λb ob h e=>{ob,k b ob h e}) (λb xs q=>by rw[aA (aW q fr)];exact q) (λb u xs q=>by rw[aA (aW q fr)];exact q)
  (λb ps q=>{#[],by rw[aA (aW q fr),q];simp}) (λm C=>?_) (λb u q=>?_) I.bare
 .let{ob,E,L,j,J}:=C;exact{ob,E,L,k _ ob (λz=>(g _ z).2.1 rfl) j,J}
 .by_cases f:b=T
  .subst f;rw[aF]at q;cases q;exact new
  .rw[aA f]at q;refine(I.hok b u q).stay (λc v h Q=>k c v (λz=>?_) Q) (λc q=>by rw[aA (aW q fr)];exact q) λc xs q=>by rw[aA (aW q fr)];exact q
   let n:=(g c z).1;rcases h with w |w
   .rw[w,q]at n;cases n
   .rw[w]at n;cases n
def Inv.turnedAll{X:Cx}{p:List (Addr×Obj)}{o:St}{H:Hp}{s:Shared}{h':Heap}{t':Nat}{ch:List Addr}(I:Inv X p o H s)(f:∀b∈ch,iQ X p H b)
  (k:∀b ob,b∉ch->s.heap.get? b=aD ob->h'.get? b=aD ob):Inv X p o H {s with heap:=h',toks:=t'}:=by
 refine I.step (g':=s.gens) (d':=s.drawn) (ch:=ch) (λb g=>{(f b g).2.2.2.1,(f b g).2.1,(f b g).2.2.2.2.1,(f b g).2.2.2.2.2}) (λb ob _ _ h e _=>k b ob h e) (λb ob _ _ h e _=>{ob.slots,k b ob h e})
  (λb ob _ e n=>n) (λb ob h e=>{ob,k b ob h e}) (λb xs q=>q) (λb u xs q=>q)
  (λb ps q=>{#[],by rw[q];simp}) (λm y=>?_) (λb u q=>?_) I.bare
 .let{ob,E,C,j,B}:=y;exact{ob,E,C,k _ ob (λz=>(f _ z).2.1 rfl) j,B}
 .calc(I.hok b u q).stay (λc v h Q=>k c v (λz=>?_) Q) (λc q=>q) λc xs q=>q;let n:=(f c z).1;rcases h with w |w
  .rw[w,q]at n;cases n
  .rw[w]at n;cases n
def wM{P:Program}{w:World}{K:V6}{elts:List Expr}{x1:Nat}{tp:Pos}(a e it:Addr)(U:e≠it) :
  Turn P w K (.Tuple elts x1 tp) (Ite K a SqL) [e,it] e (λi h=>(∃O,IsEnum h e it i O)/\h.IsListIter it a i) where
 mem:=by simp
 obj:=λi h st b J=>by
  let{⟨O,B⟩,o,M,c,d}:=st;rcases Zl.mp J with z |z
  .subst z;exact{_,B,λv z=>by let z':Data.fields _=Data.cell v:=z;cases z'}
  .let z':=Zw.mp z;subst z';exact{o,M,λv z=>by rw[d]at z;cases z}
 keep:=λi h h' st k=>{let ⟨O,B⟩:=st.1;{O,k e (by simp) _ B},st.2.at λo M=>k it (by simp) o M}
 item:=by
  intro X hP hw hK hc i pins s σ H E I hf st hg;subst hP hw hK;let{xs,x,hq,hx}:=hg;let{f,rv,p,hz}:=I.list hq;let{u,hu,ru}:=rv.get hx;let{⟨O,B⟩,j}:=st;let Z:s.heap.IsList a f.toArray:=p.isList
  let hae:e≠a:=λz=>by
   subst z;let{o,C,hc',n,g}:=id Z;rw[B]at C;cases C;let z':Data.fields _=Data.seq f.toArray n:=g;cases z'
  let Y:a≠it:=λz=>by
   subst z;let{o,C,hc',n,g}:=id Z;let{o',T,c',d'}:=id j;rw[T]at C;cases C;rw[d']at g;cases g
  let hi:i < f.toArray.size:=by
   let:=(Zb.mp hu).1
   simpa using this
  refine Zbs (Draws.list (A:=X.A.in1) (I.ok.hd hc) it a Y f.toArray) B ⟨j,Z⟩ hi U (by simp[U,hae]) λy h' tk hP C hs' hT hsz hk=>?_
  let ey:y=u:=by
   let z:f.toArray[i]?=aD u:=by simpa using hu
   rw[z]at hP;exact(θ hP).symm
  subst ey;calc{_,rfl,?_};calc Zbe C λh2 he2 Q=>?_;let L:e < s⁻¹:=Zv B;let hilt:it < s⁻¹:=by let{o,M,_}:=j;exact Zv M
  let hT2:h2.get? s⁻¹=aD {cls:=.type "tuple",data:=.seq #[.int i tk,y]}:=(Q.2 _ (X8 L)).trans hT;let fresh:=I.hok.fresh (Zc s⁻¹);refine{.ref s⁻¹,upd H s⁻¹ (.tup [.int i,x]),?_,rfl,{_,fresh,rfl,λys v hy hv=>?_},{{y,by simpa using he2},hs'.1.at λo M=>(Q.2 it (Ne.symm U)).trans M},λb J=>?_}
  .exact I.turnedLaid (t':=tk+1) hf (λb ob J eb=>(Q.2 b λz=>J (by simp[z])).trans (hk b ob (λz=>J (by simp[z])) (λz=>J (by simp[z])) eb)) (Zc _)
    {by show 2<=sizeLine;decide,[.int i tk,y],.cons ⟨tk,rfl⟩ (.cons ru .nil),⟨_,hT2,rfl,_,rfl,rfl⟩}
  .rw[I.list_inj hy hq,hx]at hv;cases hv;rfl
  .rcases Zl.mp J with z |z
   .rw[z,aA (ZI L)];exact(hf e (by simp)).1
   .rw[Zw.mp z,aA (ZI hilt)];exact(hf it (by simp)).1
 done:=by
  intro X hP hw hK hc i pins s σ H E I hf st hg;subst hP hw hK;let{xs,hq,hx}:=hg;let{f,rv,p,hz}:=I.list hq;let{⟨O,B⟩,j}:=st;let Z:s.heap.IsList a f.toArray:=p.isList
  let Y:a≠it:=λz=>by
   subst z;let{o,C,hc',n,g}:=id Z;let{o',T,c',d'}:=id j;rw[T]at C;cases C;rw[d']at g;cases g
  let hn:f.toArray.size=i:=by rw[Zj,<-rv.length,hx]
  subst hn;calc Zbr (Draws.list (A:=X.A.in1) (I.ok.hd hc) it a Y f.toArray) B ⟨j,Z⟩ λh' eb=>{rfl,?_};exact I.turnedAll (t':=s.toks) hf λb ob J q=>eb b ob (λz=>J (by simp[z])) q
 self:=λ_ _ _ _ _ st h=>let ⟨⟨O,B⟩,_⟩:=st;Zbo B h
def wN{P:Program}{w:World}{K:V6}{elts:List Expr}{x1:Nat}{tp:Pos}(a e it:Addr)(U:e≠it) :
  Turn P w K (.Tuple elts x1 tp) (Ite K a SqT) [e,it] e (λi h=>(∃O,IsEnum h e it i O)/\h.IsTupleIter it a i) where
 mem:=by simp
 obj:=λi h st b J=>by
  let{⟨O,B⟩,o,M,c,d}:=st;rcases Zl.mp J with z |z
  .subst z;exact{_,B,λv z=>by let z':Data.fields _=Data.cell v:=z;cases z'}
  .let z':=Zw.mp z;subst z';exact{o,M,λv z=>by rw[d]at z;cases z}
 keep:=λi h h' st k=>{let ⟨O,B⟩:=st.1;{O,k e (by simp) _ B},st.2.at λo M=>k it (by simp) o M}
 item:=by
  intro X hP hw hK hc i pins s σ H E I hf st hg;subst hP hw hK;let{xs,x,hq,hx}:=hg;let{f,rv,p,hz}:=I.tuple hq;let{u,hu,ru}:=rv.get hx;let{⟨O,B⟩,j}:=st;let Z:s.heap.IsTuple a f.toArray:=p
  let hae:e≠a:=λz=>by
   subst z;let{o,C,hc',n,g}:=id Z;rw[B]at C;cases C;let z':Data.fields _=Data.seq f.toArray n:=g;cases z'
  let Y:a≠it:=λz=>by
   subst z;let{o,C,hc',n,g}:=id Z;let{o',T,c',d'}:=id j;rw[T]at C;cases C;rw[d']at g;cases g
  let hi:i < f.toArray.size:=by
   let:=(Zb.mp hu).1
   simpa using this
  refine Zbs (HT.Df (A:=X.A.in1) (I.ok.hd hc) it a Y f.toArray) B ⟨j,Z⟩ hi U (by simp[U,hae]) λy h' tk hP C hs' hT hsz hk=>?_
  let ey:y=u:=by
   let z:f.toArray[i]?=aD u:=by simpa using hu
   rw[z]at hP;exact(θ hP).symm
  subst ey;calc{_,rfl,?_};calc Zbe C λh2 he2 Q=>?_;let L:e < s⁻¹:=Zv B;let hilt:it < s⁻¹:=by let{o,M,_}:=j;exact Zv M
  let hT2:h2.get? s⁻¹=aD {cls:=.type "tuple",data:=.seq #[.int i tk,y]}:=(Q.2 _ (X8 L)).trans hT;let fresh:=I.hok.fresh (Zc s⁻¹);refine{.ref s⁻¹,upd H s⁻¹ (.tup [.int i,x]),?_,rfl,{_,fresh,rfl,λys v hy hv=>?_},{{y,by simpa using he2},hs'.1.at λo M=>(Q.2 it (Ne.symm U)).trans M},λb J=>?_}
  .exact I.turnedLaid (t':=tk+1) hf (λb ob J eb=>(Q.2 b λz=>J (by simp[z])).trans (hk b ob (λz=>J (by simp[z])) (λz=>J (by simp[z])) eb)) (Zc _)
    {by show 2<=sizeLine;decide,[.int i tk,y],.cons ⟨tk,rfl⟩ (.cons ru .nil),⟨_,hT2,rfl,_,rfl,rfl⟩}
  .rw[I.tuple_inj hy hq,hx]at hv;cases hv;rfl
  .rcases Zl.mp J with z |z
   .rw[z,aA (ZI L)];exact(hf e (by simp)).1
   .rw[Zw.mp z,aA (ZI hilt)];exact(hf it (by simp)).1
 done:=by
  intro X hP hw hK hc i pins s σ H E I hf st hg;subst hP hw hK;let{xs,hq,hx}:=hg;let{f,rv,p,hz}:=I.tuple hq;let{⟨O,B⟩,j}:=st;let Z:s.heap.IsTuple a f.toArray:=p
  let Y:a≠it:=λz=>by
   subst z;let{o,C,hc',n,g}:=id Z;let{o',T,c',d'}:=id j;rw[T]at C;cases C;rw[d']at g;cases g
  let hn:f.toArray.size=i:=by rw[Zj,<-rv.length,hx]
  subst hn;calc Zbr (HT.Df (A:=X.A.in1) (I.ok.hd hc) it a Y f.toArray) B ⟨j,Z⟩ λh' eb=>{rfl,?_};exact I.turnedAll (t':=s.toks) hf λb ob J q=>eb b ob (λz=>J (by simp[z])) q
 self:=λ_ _ _ _ _ st h=>let ⟨⟨O,B⟩,_⟩:=st;Zbo B h
abbrev MQ(K:V6)(T:TA):TI:=λb H R=>T b H λv h=>∃a xs,v=[.ref a]/\SqL K h a xs/\R (Ite K a SqL) h
abbrev RK(K:V6)(T:TA):TI:=λb H R=>T b H λv h=>∃a xs,v=[.ref a]/\SqT K h a xs/\R (Ite K a SqT) h
section
variable {X:Cx} {E:List Expr} {x:Nat} {t:Pos}
def Dg{a:Expr}{T:TA}{p pos:Pos}(Q:Gl X "enumerate")(L:X.mg "enumerate" = aT)(C:PA X [a] T)(hs:ZaQ [a] X.env=[(a9,eval a X.env)]:=by rfl):PI X (.Tuple E x t) (.Call (.Name "enumerate" p) [a] [] pos) (MQ X.K T):=by
 intro c s B H R I h;calc Call_ (i8 I Q L WK (WT (thn (C pos c s B H _ I h) λus f ⟨vs,v,j,r1,q1⟩=>?_) hs rfl));let{l,xs,e,U,q}:=q1;subst e;let{u,rfl,Z}:=dr r1;cases Z;let{its,rv,pl,hz}:=j.list U;calc call_enumerate_list pl.isList λJ y o M O=>Zbo y ?_;let Y:Inv X c B v {f with heap:=J}:=j.kept (t':=f.toks) O;let fr:∀b,f.heap.objs.size<=b->iQ X c v b:=λb g=>j.fpOk g (j.hok.fresh g);calc{_,[f.heap.objs.size+1,f.heap.objs.size],_,_,v,rfl,Y,wM l _ _ (Wf _),⟨⟨_,y⟩,o⟩,λb g=>?_,q};rcases Zl.mp g with z |z
 .rw[z];exact fr _ (Yw _)
 .rw[Zw.mp z];exact fr _ (Zc _)
def MR{a:Expr}{T:TA}{p pos:Pos}(Q:Gl X "enumerate")(L:X.mg "enumerate" = aT)(C:PA X [a] T)(hs:ZaQ [a] X.env=[(a9,eval a X.env)]:=by rfl):PI X (.Tuple E x t) (.Call (.Name "enumerate" p) [a] [] pos) (RK X.K T):=by
 intro c s B H R I h;calc Call_ (i8 I Q L WK (WT (thn (C pos c s B H _ I h) λus f ⟨vs,v,j,r1,q1⟩=>?_) hs rfl));let{l,xs,e,U,q}:=q1;subst e;let{u,rfl,Z}:=dr r1;cases Z;let{its,rv,pl,hz}:=j.tuple U;calc HT.wL pl λJ y o M O=>Zbo y ?_;let Y:Inv X c B v {f with heap:=J}:=j.kept (t':=f.toks) O;let fr:∀b,f.heap.objs.size<=b->iQ X c v b:=λb g=>j.fpOk g (j.hok.fresh g);calc{_,[f.heap.objs.size+1,f.heap.objs.size],_,_,v,rfl,Y,wN l _ _ (Wf _),⟨⟨_,y⟩,o⟩,λb g=>?_,q};rcases Zl.mp g with z |z
 .rw[z];exact fr _ (Yw _)
 .rw[Zw.mp z];exact fr _ (Zc _)
end
section
variable {X:Cx}
def ud:bc X (.type "range") (λxs H Q=>∃j:Int,xs=[.int j]/\∀p,H p=aT->Q (.ref p) (upd H p (.rng 0 j))):=by
 intro c s g H xs U Q I r h;let{j,rfl,q}:=h;let{u,rfl,f}:=dr r;let{t,rfl}:=f;exact call_range_1 {.ref s⁻¹,_,I.laid (t':=s.toks+1+1) (o:=.rng 0 j) (λb o e=>Zk _ e) (Zc _) {_,_,_,ZJ _ rfl},rfl,q _ (I.hok.fresh (Zc _))}
def rH(hc:X.calm=a8):bc X (.type "list") (λxs H Q=>∃ (p:Addr) (n:Nat),xs=[.ref p]/\H p=aD (.rng 0 n)/\n<=1000/\∀l,H l=aT->Q (.ref l) (upd H l (.lst ((Zm n).map λ(i:Nat)=>V.int i)))):=by
 intro b s j H xs U Q I r h;let{p,n,rfl,g,c,q}:=h;let{u,rfl,f}:=dr r;cases f;let{t,u,v,e}:=(show bD X.prog X.w H s.heap p (.rng 0 n) from I.hok p _ g);exact ny hc I e c q
end
section
variable {X:Cx}
abbrev K5(i j k:Nat)(T:TA):TS:=λD b H=>T b H λc h=>∃v w z,c=[v,w,z]/\D.nx (((b.set i (aD v)).set j (aD w)).set k (aD z)) h
def Hy{i j k:Nat}{L J g}(hc:X.calm=a8)(hN:X.N.Nodup)(hi:X.N[i]?=aD x)(hj:X.N[j]?=aD y)(hk:X.N[k]?=aD z)(T:i≠j)(Y:i≠k)(hjk:j≠k)
  (hx:X.env.scope.names.lookup x=aD .local) (hy:X.env.scope.names.lookup y=aD .local) (hz:X.env.scope.names.lookup z=aD .local) (ha:PA X [a,b,c] ta)
  (hw:ZaR [.Tuple [.Name x px,.Name y py,.Name z pz] L pt] (.Tuple [a,b,c] J g) X.env=pure (aD [x,y,z]))
  (hs:ZaT [.Tuple [.Name x px,.Name y py,.Name z pz] L pt] (.Tuple [a,b,c] J g) pos.line X.env=pure a9:=by rfl) :
  PS X (.Assign [.Tuple [.Name x px,.Name y py,.Name z pz] L pt] (.Tuple [a,b,c] J g) pos) (K5 i j k ta):=by
 intro f s σ H D I h;rw[exec_Assign_arm];calc Za4 (Zbu ?_);rw[hs];calc Za4 (Zbn ?_);rw[if_neg (by decide)];calc Za4 (Tuple_ (thn (ha _ f s σ H _ I h) λus C ⟨vs,H1,I1,r1,O⟩=>?_));let{v,w,z',e1,O}:=O;subst e1
 obtain⟨U,B,u3,rfl,rv,E,rz⟩:∃U B u3,us=[U,B,u3]/\aJ v U/\aJ w B/\aJ z' u3:=by
  cases r1 with
  |cons p q=>
   cases q with
   |cons p' q'=>
    cases q' with
    |cons M Q=>
     cases Q;exact⟨_,_,_,rfl,p,p',M⟩
 calc Zbl ?_ (by show 3<=sizeLine;decide);let I2:Inv X f σ H1 {C with heap:=C.heap.push {cls:=.type "tuple",data:=.seq [U,B,u3].toArray}}:=I1.kept (t':=C.toks) λb o e=>Zk _ e;rw[hw];calc Za4 (Zbn ?_);show wpAny (model X.prog X.w) X.A (do rule "assign.swapped-stores"; let u <-Za0 (.ref C.heap.objs.size) 3 aT;Zag [λv=>Zal X.env z v,λv=>Zal X.env y v,λv=>Zal X.env x v] u.reverse;pure Flow.next) _ _ _;calc Za4 (Zbt (Za4 (unpackItems_tuple (items:=#[U,B,u3]) (I.ok.hd hc) (IsTup.new C.heap _) λh' Z=>?_)));let I3:=I2.kept (h':=h') (t':=C.toks) λb o e=>Z b o (ZI (Zv e)) e;show wpAny _ _ (Zag [λv=>Zal X.env z v,λv=>Zal X.env y v,λv=>Zal X.env x v] [u3,B,U] >>= λ_=>pure Flow.next) _ _ _;calc Za4 (assignInOrder_cons (Za5 (cm I3 hN hk (.inl hz) rz (λs2 I4=>?_) (.inr hz))));calc assignInOrder_cons (Za5 (cm I4 hN hj (.inl hy) E (λs3 I5=>?_) (.inr hy)));calc assignInOrder_cons (Za5 (cm I5 hN hi (.inl hx) rv (λs4 I6=>assignInOrder_nil (Zbn ?_)) (.inr hx)));calc{_,H1,?_,O};rw[Xi _ _ (Ne.symm hjk),Xi _ _ (Ne.symm Y),Xi (aD w) (aD v) (Ne.symm T)]at I6;exact I6
end
abbrev jd:List Str->Bool
 |[]=>a8
 |x::r=>!r.contains x && jd r
def gF:∀ {l:List Str},jd l=a8->l.Nodup
 |[],_=>Wp
 |x::r,h=>by
  delta jd at h;rw[bAE]at h;calc Yz.mpr {λm=>?_,gF h.2};let:=h.1;simp[m]at this
abbrev cmB(own:List Str)(hs:List Nat)(N:List Str)(b sc:Scope):Bool:=
 (b.kind == .function) && jd (dP hs N++own) && jd (b.names.map (·.1)) && ((dP hs N).all λx=>b.names.lookup x != aD .local && b.names.lookup x != aD .cell) &&
 (b.names.all λy=>y.2 != .free || (sc.names.lookup y.1 == aD .cell || sc.names.lookup y.1 == aD .free)) && hs.all λi=>(b.names.lookup (C1 i)).isNone
def wP(hs:List Nat)(h:cmB own hs N b sc=a8):CmScope own hs N b sc:=by
 delta cmB at h;simp![bAE,Zg]at h;let{⟨⟨⟨⟨c,o⟩,v⟩,q⟩,H⟩,u}:=h;refine{by simpa using c,gF o,gF v,λx p=>?_,λy f g=>?_,λi j=>by simpa using u i j}
 .let:=q x p
  simpa using this
 .let:=H y f;rw[g]at this
  simpa using this
section
variable {X:Cx} {T l a:Expr} {c:TE} {d:TA} {es:List Expr} {t:TGs} {p pos:Pos} {n k:Nat} {E:List Expr} {f:Nat} {g:Pos} {o e:Expr} {h:TE} {i:TA} {name:Str} {A C:Pos}
abbrev K6(K:V6):List V->Hp->VK->Prop:=λxs H Q=>∃x n t b,xs=[x,.ty n]/\TyOf K H x t/\OS K t (.type n)=aD b/\Q (.bl b) H
def rJ(K:V6)(H:X.K=K:=by rfl):bc X (.builtin "isinstance") (K6 K):=H▸ub
end
def Dh(h:PE X k T)(H:PE X v b):PE X (.Dict [aD k] [v] pos) (C6 [(T,b)]):=Hs (C5 h H Hr) rfl rfl (by simp) (by simp)
def je:∀ {xs:List V} {U:List Value},aP xs U->xs.all cf=a8->U.countP (eqU x)=xs.countP λy=>eqV y x
 |_,_,.nil,_=>rfl
 |y::xs,u::U,.cons r t,f=>by
  rw[Z0,bAE]at f;rw[Y2,Y2,rA r f.1,je t f.2]
section
variable {X:Cx}
abbrev Hz(K:V6):V->List V->Hp->VK->Prop:=λx v H Q=>∃p xs y,x = .ref p/\v=[y]/\SqT K H p xs/\cf y=a8/\xs.all cf=a8/\Q (.int ((xs.countP λz=>eqV z y:Nat):Int)) H
def Be(K:V6)(o:X.K=K:=by rfl):MtR X "tuple.count" (Hz K):=by
 subst o;intro c s T H x U v Y Q I j B h;let{p,xs,y,rfl,rfl,L,C,fs,q}:=h;cases j;let{u,rfl,E}:=B.one;let{b,r,⟨⟨cls,J,f,sl⟩,e,g,n,hd⟩,O}:=I.tuple L;simp! at g hd;subst g hd;calc Zap VJ ⟨_,e,rfl⟩ F.entry_tuple_count (F.args_tuple_count_2 _ _) (SeqAt.tuple_countAt p b.toArray n J sl u (eqU y)) {e,λw M=>cS E C r fs w (by simpa using M),?_};refine{.int _,H,I.tok _,⟨_,rfl⟩,?_}
 let z:(b.toArray.toList.countP (eqU y))=xs.countP λz=>eqV z y:=by
  rw[Y7];exact je r fs
 rw[z];exact q
end
end L2
namespace Dw
open PySem PySem.Spec PyProof.Rows L2
inductive D where
 |non |bl (b:Bool) |int (i:Int) |str (x:Str) |tup (ds:List D) |lst (ds:List D) |dic (ks:List Key) (ds:List D)
mutual
noncomputable def dep:D->Nat
 |.tup ds=>HA ds+1
 |.lst ds=>HA ds+1
 |.dic _ ds=>HA ds+1
 |_=>0
noncomputable def HA:List D->Nat
 |[]=>0
 |d::ds=>max (dep d) (HA ds)
end
mutual
noncomputable def wid:D->Nat
 |.tup ds=>max ds.length (rK ds)
 |.lst ds=>max ds.length (rK ds)
 |.dic _ ds=>max ds.length (rK ds)
 |_=>0
noncomputable def rK:List D->Nat
 |[]=>0
 |d::ds=>max (wid d) (rK ds)
end
abbrev isB:D->Bool |.bl _=>a8 |_=>a9
abbrev isW(d:D):Bool:=match d with |.int _=>a8 |_=>a9
abbrev ag(d:D)(a b:Int):Bool:=match d with |.int i=>decide (a<=i) && decide (i<=b) |_=>a9
abbrev isT(d:D)(a b:Int):Bool:=match d with |.tup ds=>decide (a<=(ds.length:Int)) && decide ((ds.length:Int)<=b) |_=>a9
abbrev bS(n:Nat)(d:D):Bool:=match d with |.tup ds=>decide (ds.length=n) && ds.all (λe=>ag e 1 99) |_=>a9
abbrev nA(rows:List D)(a b:Nat):Int:=match rows[a]? with
 |some (.tup r)=>(match r[b]? with |some (.int i)=>i |_=>0)
 |_=>0
abbrev gw(rows:List D)(a b c:Nat):Bool:=decide (nA rows a b<=nA rows a c+nA rows c b)
abbrev pE(rows:List D)(n:Nat):List Bool:=(Zm n).flatMap λa=>(Zm n).flatMap λb=>(Zm n).map λc=>gw rows a b c
abbrev aR(d:D):Bool:=match d with
 |.tup rows=>(decide (1<=rows.length) && decide (rows.length<=4)) && (rows.all (bS rows.length) && (pE rows rows.length).all id)
 |_=>a9
abbrev ltD(x y:D):Bool:=match x,y with |.int i,.int j=>decide (i < j) |_,_=>a9
abbrev aB(d:D):Bool:=match d with |.tup [b,e]=>ag b 0 9999 && (ag e 0 9999 && ltD b e) |_=>a9
abbrev ft(ds:List D)(i:Nat):Int:=match ds[i]? with |some (.tup [.int b,_])=>b |_=>0
abbrev eI(ds:List D)(i:Nat):Int:=match ds[i]? with |some (.tup [_,.int e])=>e |_=>0
abbrev kq(ds:List D):List Bool:=(Zm (ds.length - 1)).map λi=>decide (eI ds i < ft ds (i+1))
abbrev aN(d:D):Bool:=match d with |.tup ds=>decide (ds.length<=4) && (ds.all aB && (kq ds).all id) |_=>a9
abbrev be(d:D):Bool:=match d with
 |.tup [r,s,g,h]=>ag r 0 8 && (ag s 0 60 && (aR g && aN h))
 |_=>a9
def rL(ds:List D)(n:Nat):isT (.tup ds) n n=decide (ds.length=n):=by
 delta isT;rw[Z1];simp;omega
def ak{a b:Int}(h:ag d a b=a8):∃i,d = .int i/\a<=i/\i<=b:=by
 cases d with
 |int i=>simp[ag]at h;exact⟨i,rfl,h.1,h.2⟩
 |_=>simp[ag]at h
def fN{n a b:Nat}(h:rows.all (bS n)=a8)(f:a < rows.length)(o:b < n):∃r i,rows[a]?=aD (.tup r)/\r[b]?=aD (.int i)/\nA rows a b=i/\1<=i/\i<=99:=by
 let c:=Zg.mp h rows[a] (ZG f);let E:rows[a]?=aD rows[a]:=gEG f;generalize hd:rows[a]=d at c E;cases d with
 |tup r=>
  simp![bS,bAE,decide_eq_true_eq]at c;let H:b < r.length:=by omega
  let{i,j,l,u}:=ak (Zg.mp c.2 r[b] (ZG H));let g:r[b]?=aD (.int i):=by rw[gEG H,j]
  exact{r,i,E,g,by delta nA;rw[E];dsimp!;rw[g],l,u}
 |_=>simp[bS]at c
def iw{b:Type}(n:Nat)(f:Nat->List b):(Zm (n+1)).flatMap f=(Zm n).flatMap f++f n:=by
 rw[Yk,Y8];simp
def rN{b:Type}{n m:Nat}{f:Nat->List b}(h:∀i,i < n->(f i).length<=m):((Zm n).flatMap f).length<=n * m:=by
 induction n with
 |zero=>simp
 |succ n I=>
  rw[iw,Zi];let:=I λi H=>h i (by omega);let:=h n (by omega);rw[Xx];omega
def MS(ds:List D):isT (.tup ds) 1 4=(decide (1<=ds.length) && decide (ds.length<=4)):=by
 delta isT;rw[Z1];simp;omega
def MU(ds:List D):isT (.tup ds) 0 4=decide (ds.length<=4):=by
 delta isT;rw[Z1];simp;omega
def Di(ds:List D):isT (.tup ds) 2 2=decide (ds.length=2):=rL ds 2
def Dj(ds:List D):isT (.tup ds) 4 4=decide (ds.length=4):=rL ds 4
def rO(h:ds.length=2):∃b e,ds=[b,e]:=by
 match ds,h with
 |[b,e],_=>exact⟨b,e,rfl⟩
def mq(h:ds.length=4):∃a b c d,ds=[a,b,c,d]:=by
 match ds,h with
 |[a,b,c,d],_=>exact⟨a,b,c,d,rfl⟩
def nB(h:aB d=a8):∃b e,d = .tup [.int b,.int e]/\0<=b/\b<=9999/\0<=e/\e<=9999/\b < e:=by
 delta aB at h;split at h
 .rename_i b e;simp![bAE]at h;let{c,f,H}:=h;let{i,rfl,l1,u}:=ak c;let{j,rfl,l2,U}:=ak f;simp[ltD]at H;exact⟨i,j,rfl,l1,u,l2,U,H⟩
 .cases h
def zf{i:Nat}(h:ds.all aB=a8)(H:i < ds.length):∃b e,ds[i]?=aD (.tup [.int b,.int e])/\ft ds i=b/\eI ds i=e:=by
 let{b,e,q,_}:=nB (Zg.mp h ds[i] (ZG H));let E:ds[i]?=aD (.tup [.int b,.int e]):=by rw[gEG H,q]
 exact{b,e,E,by delta ft;rw[E],by delta eI;rw[E]}
abbrev eX(ds:List D)(lo h:Option Int):List D:=(ds.drop (HT.sIx ds.length 0 lo)).take (HT.sIx ds.length ds.length h - HT.sIx ds.length 0 lo)
def ue:∀ {ds:List D},d∈ds->wid d<=rK ds
 |e::ds,h=>by
  rw[rK];rcases Zl.mp h with z |z
  .rw[z];omega
  .let:=ue z;omega
def wQ(n:Nat)(a:Int)(h:0<=a):HT.sIx n n (aD a)=min a.toNat n:=by
 show(if a < 0 then (a+(n:Int)).toNat else min a.toNat n)=_;rw[if_neg (by omega)]
abbrev gG(q:Int×Int):D:=.tup [.int q.1,.int q.2]
structure Good(es:List (Int×Int))(b:Int):Prop where
 each:∀q∈es,0<=q.1/\q.1 < q.2/\q.2<=b
 rise:∀ (i:Nat) q q',es[i]?=aD q->es[i+1]?=aD q'->q.2 < q'.1
def Good.nil{b:Int}:Good [] b:={(λ_ h=>nomatch h),λi q Q h _=>by simp at h}
def Good.more{b x y:Int}(h:Good f b)(v:0<=b)(p:b < x)(u:x < y):Good (f++[(x,y)]) y:=by
 refine{λq g=>?_,λi q Q c E=>?_}
 .rcases ZC.mp g with z |z
  .let:=h.each q z;omega
  .rw[Zw.mp z];show 0<=x/\x < y/\y<=y;omega
 .by_cases j:i+1 < f.length
  .rw[Zz (by omega)]at c;rw[Zz j]at E;exact h.rise i q Q c E
  .let o:=(Zb.mp E).1;rw[Zi,ZO]at o;let H:i+1=f.length:=by omega
   rw[Zo (by omega),H,Ye]at E;cases E;rw[Zz (by omega)]at c;let:=h.each q (Zs c);show q.2 < x;omega
def Good.shuts{b:Int}(h:Good E b)(u:b<=9999)(hl:E.length<=4):aN (.tup (E.map gG))=a8:=by
 let hs:(E.map gG).all aB=a8:=by
  rw[ZY,Zg];intro q g;let:=h.each q g;show aB (gG q)=a8;simp![gG,aB,ag,ltD,bAE,decide_eq_true_eq];omega
 delta aN;rw[bAE,bAE];calc{decide_eq_true (by rw[Za];exact hl),hs,?_};rw[Zg];intro x H;delta kq at H;let{i,j,rfl}:=ZF.mp H;rw[ZU,Za]at j;let c:E[i]?=aD E[i]:=gEG (by omega);let f:E[i+1]?=aD E[i+1]:=gEG (by omega);let r:=h.rise i _ _ c f;let o:eI (E.map gG) i=E[i].2:=by delta eI;rw[Zn,c];rfl
 let p:ft (E.map gG) (i+1)=E[i+1].1:=by delta ft;rw[Zn,f];rfl
 show decide (eI (E.map gG) i < ft (E.map gG) (i+1))=a8;rw[o,p];exact decide_eq_true r
abbrev mg2(M:List (List Int))(i j:Nat):Int:=(((M[i]?).getD [])[j]?).getD 0
structure Mat(n:Nat)(M:List (List Int)):Prop where
 len:M.length=n
 row:∀r∈M,r.length=n
 ent:∀r∈M,∀x∈r,1<=x/\x<=99
def Mat.at{n:Nat}(h:Mat n M){i j:Nat}(c:i < n)(o:j < n):∃r,M[i]?=aD r/\r.length=n/\r[j]?=aD (mg2 M i j)/\1<=mg2 M i j/\mg2 M i j<=99:=by
 let H:i < M.length:=by rw[h.len];exact c
 let E:M[i]?=aD M[i]:=gEG H;let f:=h.row _ (ZG H);let b:j < M[i].length:=by omega
 let g:mg2 M i j=M[i][j]:=by delta mg2;rw[E,Yu,gEG b,Yu]
 let:=h.ent _ (ZG H) _ (ZG b);exact{M[i],E,f,by rw[g,gEG b],by omega,by omega}
abbrev zg(n k:Nat)(M:List (List Int)):Prop:=∀a b q,a < n->b < n->q < k->mg2 M a b<=mg2 M a q+mg2 M q b
def Dk{n k:Nat}(h:Mat n M)(c:k < n)(u:zg n k M)(p:∀i j,i < n->j < n->mg2 M' i j=min (mg2 M i j) (mg2 M i k+mg2 M k j)):zg n (k+1) M':=by
 intro a b q f g E;let H:q < n:=by omega
 let{_,_,_,_,y,_}:=h.at f g;let{_,_,_,_,B,_}:=h.at f c;let{_,_,_,_,C,_}:=h.at c g;let{_,_,_,_,v,_}:=h.at c c;let{_,_,_,_,Q,_}:=h.at f H;let{_,_,_,_,J,_}:=h.at H g;let{_,_,_,_,O,_}:=h.at c H;let{_,_,_,_,z,_}:=h.at H c;rw[p a b f g,p a q f H,p q b H g];by_cases e:q=k
 .subst e;omega
 .let o:q < k:=by omega
  let T:=u a b q f g o;let I:=u k b q c g o;let L:=u a k q f c o;omega
abbrev fu(M:List (List Int)):List D:=M.map λr=>.tup (r.map .int)
def rP{n:Nat}(h:Mat n M){i j:Nat}(b:i < n)(H:j < n):nA (fu M) i j=mg2 M i j:=by
 let{r,E,_,c,_,_}:=h.at b H;delta nA fu;rw[Zn,E];show(match (r.map D.int)[j]? with |some (.int i)=>i |_=>0)=_;rw[Zn,c];rfl
def Dm{n:Nat}(h:Mat n M)(p:1<=n)(q:n<=4)(u:zg n n M):aR (.tup (fu M))=a8:=by
 let v:(fu M).length=n:=by delta fu;rw[Za,h.len]
 delta aR;dsimp!;rw[v];simp![bAE,decide_eq_true_eq];refine{⟨p,q⟩,?_,?_}
 .rw[Zg];intro d hd;let{r,o,rfl}:=ZF.mp hd;delta bS;dsimp!;rw[bAE];calc{decide_eq_true (by rw[Za];exact h.row r o),?_};rw[ZY,Zg];intro x H;let:=h.ent r o x H;show ag (.int x) 1 99=a8;simp![ag,bAE,decide_eq_true_eq];omega
 .rw[Zg];intro x H;delta pE at H;let{a,f,H}:=ZZ.mp H;let{b,j,H}:=ZZ.mp H;let{c,g,rfl}:=ZF.mp H;rw[ZU]at f j g;show gw (fu M) a b c=a8;delta gw;rw[rP h f j,rP h f g,rP h g j];exact decide_eq_true (u a b c f j g)
abbrev bQ(M:List (List Int))(n c i:Nat):List Int:=(Zm n).map λj=>if mg2 M i c+mg2 M c j < mg2 M i j then mg2 M i c+mg2 M c j else mg2 M i j
def nD(M:List (List Int))(n c i:Nat):(bQ M n c i).length=n:=by delta bQ;rw[Za,Z7]
def uf(M:List (List Int)){n c i j:Nat}(h:j < n):(bQ M n c i)[j]?=aD (if mg2 M i c+mg2 M c j < mg2 M i j then mg2 M i c+mg2 M c j else mg2 M i j):=by
 delta bQ;rw[Zn,Y9 h];rfl
def HB{n c:Nat}(h:Mat n M)(hc:c < n):∀i j,i < n->j < n->mg2 ((Zm n).map (bQ M n c)) i j=min (mg2 M i j) (mg2 M i c+mg2 M c j):=λi j H b=>by
 let e:mg2 ((Zm n).map (bQ M n c)) i j=if mg2 M i c+mg2 M c j < mg2 M i j then mg2 M i c+mg2 M c j else mg2 M i j:=by
  show((((Zm n).map (bQ M n c))[i]?.getD [])[j]?).getD 0=_;rw[Zn,Y9 H];show((bQ M n c i)[j]?).getD 0=_;rw[uf M b];rfl
 rw[e];split <;> omega
def Dn{n c:Nat}(h:Mat n M)(hc:c < n):Mat n ((Zm n).map (bQ M n c)):=by
 refine{by rw[Za,Z7],λr b=>?_,λr b x g=>?_}
 .let{u,_,rfl}:=ZF.mp b;exact nD M n c u
 .let{u,f,rfl}:=ZF.mp b;rw[ZU]at f;delta bQ at g;let{j,H,rfl}:=ZF.mp g;rw[ZU]at H;let{_,_,_,_,p,y}:=h.at f H;let{_,_,_,_,v,q}:=h.at f hc;let{_,_,_,_,o,Q}:=h.at hc H;split <;> omega
def zh(r s g h:D):be (.tup [r,s,g,h])=(ag r 0 8 && (ag s 0 60 && (aR g && aN h))):=rfl
def rQ(h:¬ (1<=rows.length/\rows.length<=4)):aR (.tup rows)=a9:=by
 let:(decide (1<=rows.length) && decide (rows.length<=4))=a9:=by
  rw[Z8];intro z;simp at z;exact h ⟨z.1,z.2⟩
 simp![aR,this,ZP]
def rR{i:Nat}(h:rows[i]?=aD d)(H:bS rows.length d=a9):aR (.tup rows)=a9:=by
 let:rows.all (bS rows.length)=a9:=by
  rw[Z8];intro z;let:=Zg.mp z d (Zs h);rw[H]at this;cases this
 simp![aR,this,ZP,ZW]
def UL{n:Nat}:x∈pE rows n ↔ ∃a b c,a < n/\b < n/\c < n/\x=gw rows a b c:=by
 delta pE;simp![ZZ,ZF,ZU];constructor
 .rintro⟨a,f,b,H,c,h,rfl⟩;exact⟨a,b,c,f,H,h,rfl⟩
 .rintro⟨a,b,c,f,H,h,rfl⟩;exact⟨a,f,b,H,c,h,rfl⟩
def rT{a b c:Nat}(f:a < rows.length)(H:b < rows.length)(hc:c < rows.length)(h:gw rows a b c=a9):aR (.tup rows)=a9:=by
 let:(pE rows rows.length).all id=a9:=by
  rw[Z8];intro z;let:=Zg.mp z _ (UL.mpr ⟨a,b,c,f,H,hc,rfl⟩);rw[id,h]at this;cases this
 simp![aR,this,ZW]
def Bf(h:1<=rows.length)(p:rows.length<=4)(f:rows.all (bS rows.length)=a8)(q:∀a b c,a < rows.length->b < rows.length->c < rows.length->gw rows a b c=a8):aR (.tup rows)=a8:=by
 let:(pE rows rows.length).all id=a8:=by
  rw[Zg];intro x o;let{a,b,c,H,j,g,rfl}:=UL.mp o;exact q a b c H j g
 simp![aR,this,f,decide_eq_true h,decide_eq_true p,Z2]
def pF(h:¬ hs.length<=4):aN (.tup hs)=a9:=by
 simp![aN,decide_eq_false h,ZP]
def Bg{i:Nat}(h:hs[i]?=aD d)(H:aB d=a9):aN (.tup hs)=a9:=by
 let:hs.all aB=a9:=by
  rw[Z8];intro z;let:=Zg.mp z d (Zs h);rw[H]at this;cases this
 simp![aN,this,ZP,ZW]
def nI{i:Nat}(h:i+1 < hs.length)(H:¬ eI hs i < ft hs (i+1)):aN (.tup hs)=a9:=by
 let:(kq hs).all id=a9:=by
  rw[Z8];intro z;let:=Zg.mp z _ (ZF.mpr {i,ZU.mpr (by omega),rfl});exact H (ω this)
 simp![aN,this,ZW]
def wR(f:hs.length<=4)(b:∀ (j:Nat) d,hs[j]?=aD d->aB d=a8)(g:∀ (j:Nat),j+1 < hs.length->eI hs j < ft hs (j+1)):aN (.tup hs)=a8:=by
 let H:hs.all aB=a8:=by
  rw[Zg];intro d hd;let{i,h,rfl}:=XU.mp hd;exact b i _ (gEG h)
 let:(kq hs).all id=a8:=by
  rw[Zg];intro x c;let{i,h,rfl}:=ZF.mp c;rw[ZU]at h;exact decide_eq_true (g i (by omega))
 simp![aN,this,H,decide_eq_true f,Z2]
def nJ(h:¬ ds.length=2):aB (.tup ds)=a9:=by
 delta aB;split
 .rename_i b e H;cases H;exact absurd rfl h
 .rfl
abbrev Dp(d:D):Int:=match d with |.int i=>i |_=>0
abbrev aL(fs:List D):List Int:=fs.map Dp
def fO(fs:List D):(aL fs).length=fs.length:=by delta aL;rw[Za]
def eJ:∀ (n:Nat) (l:List Int),l.Nodup->(∀x∈l,0<=x/\x < (n:Int))->l.length<=n
 |0,l,_,h=>by
  cases l with
  |nil=>exact Zc _
  |cons x l=>have:=h x Zf;lia
 |n+1,l,nd,h=>by
  by_cases b:(n:Int)∈l
  .let I:=eJ n (l.erase n) (nd.erase _) λx H=>by
    let c:=h x (List.mem_of_mem_erase H);let f:x≠(n:Int):=λe=>(List.Nodup.not_mem_erase nd) (e▸H)
    lia
   rw[List.length_erase_of_mem b]at I;let:=List.length_pos_of_mem b
   lia
  .let I:=eJ n l nd λx H=>by
    let c:=h x H;let f:x≠(n:Int):=λe=>b (e▸H)
    lia
   lia
abbrev iy(is:List Int):Bool:=decide is.Nodup
def ug(is:List Int):(is.map λi=>decide (((is.count i:Nat):Int)=1)).all id=iy is:=by
 rw[Z1,ZY];delta iy;rw[Zg,decide_eq_true_eq,List.nodup_iff_count];constructor
 .intro h a;by_cases H:a∈is
  .let:=ω (h a H)
   lia
  .rw[List.count_eq_zero_of_not_mem H];lia
 .intro h a b;let c:=h a;let f:=List.count_pos_iff.mpr b;exact decide_eq_true (by lia)
abbrev bT(n:Nat)(d:D):Bool:=match d with
 |.tup fs=>decide (fs.length<=n) && (fs.all (λe=>ag e 0 ((n:Int) - 1)) && iy (aL fs))
 |_=>a9
abbrev bF(n:Nat)(d:D):Bool:=match d with
 |.non=>a8
 |.tup [k,m]=>ag k 0 ((n:Int) - 1) && ag m 0 9999
 |_=>a9
abbrev leD(j:D)(s:Int)(f:D):Bool:=match j,f with |.int a,.int b=>decide (a+s<=b) |_,_=>a9
abbrev aO(n:Nat)(r s:Int)(d:D):Bool:=match d with
 |.tup [k,j,f,l,u,w,g]=>[j,f,l,u].all (λe=>ag e 0 9999) && ((leD j s f && leD f 0 l) && (ag k 0 ((n:Int) - 1) && (ag w 0 99 && ag g 0 r)))
 |_=>a9
abbrev aM(n:Nat)(r s:Int)(d:D):Bool:=match d with
 |.tup gs=>decide (gs.length<=7) && gs.all (aO n r s)
 |_=>a9
abbrev MV(d:D):Int:=match d with |.tup [_,_,_,_,_,_,.int g]=>g |_=>0
abbrev dQ(gs:List D)(i:Nat):Int:=match gs[i]? with |some d=>MV d |_=>0
abbrev Bh(gs:List D)(is:List Int):List Bool:=(Zm gs.length).map λ(i:Nat)=>decide (dQ gs i=0) || decide (((i:Nat):Int)∈is)
abbrev bO(gs:List D)(d:D):Bool:=match d with
 |.tup fs=>bT gs.length (.tup fs) && (Bh gs (aL fs)).all id
 |_=>a9
abbrev tupOf(d:D):List D:=match d with |.tup ds=>ds |_=>[]
abbrev eL(m:D):Nat:=match m with |.tup [_,_,.tup rows,_]=>rows.length |_=>0
abbrev iz(m:D):Int:=match m with |.tup [.int r,_,_,_]=>r |_=>0
abbrev kr(m:D):Int:=match m with |.tup [_,.int s,_,_]=>s |_=>0
abbrev bU(d:D):Bool:=match d with
 |.tup [m,a,g,f]=>be m && (bF (eL m) a && (aM (eL m) (iz m) (kr m) g && bO (tupOf g) f))
 |_=>a9
def fA(h:be m=a8):∃r s rows hs,m = .tup [.int r,.int s,.tup rows,.tup hs]/\0<=r/\r<=8/\0<=s/\s<=60/\aR (.tup rows)=a8/\aN (.tup hs)=a8:=by
 delta be at h;split at h
 .rename_i r s g j;simp![bAE]at h;let{c,o,b,H}:=h;let{r,rfl,p,r1}:=ak c;let{s,rfl,s0,f}:=ak o;cases g with
  |tup rows=>
   cases j with
   |tup hs=>exact⟨r,s,rows,hs,rfl,p,r1,s0,f,b,H⟩
   |_=>simp[aN]at H
  |_=>simp[aR]at b
 .cases h
def uh(h:ds.length=7):∃a b c d e f g,ds=[a,b,c,d,e,f,g]:=by
 match ds,h with
 |[a,b,c,d,e,f,g],_=>exact⟨a,b,c,d,e,f,g,rfl⟩
def qg{n:Nat}{r s:Int}(h:aO n r s d=a8):∃k j f l u w g:Int,d = .tup [.int k,.int j,.int f,.int l,.int u,.int w,.int g]/\0<=k/\k < n/\0<=j/\j<=9999/\0<=f/\f<=9999/\0<=l/\l<=9999/\0<=u/\u<=9999/\j+s<=f/\f<=l/\0<=w/\w<=99/\0<=g/\g<=r:=by
 delta aO at h;split at h
 .rename_i k j f l u w g;simp![bAE,Z0,Xy,Z2]at h;let{⟨p,Q,T,v⟩,⟨b,B⟩,q,C,H}:=h;let{j,rfl,M,J}:=ak p;let{f,rfl,X,O}:=ak Q;let{l,rfl,L,l1}:=ak T;let{u,rfl,U,y}:=ak v;let{k,rfl,z,Y}:=ak q;let{w,rfl,I,E}:=ak C;let{g,rfl,c,o}:=ak H;simp![leD,decide_eq_true_eq]at b B;exact{k,j,f,l,u,w,g,rfl,z,by lia,M,J,X,O,L,l1,U,y,b,by lia,I,E,c,o}
 .cases h
def qh{n:Nat}{r s:Int}(h:¬ ds.length=7):aO n r s (.tup ds)=a9:=by
 delta aO;split
 .rename_i H;cases H;exact absurd rfl h
 .rfl
def ui{n:Nat}(h:¬ ds.length=2):bF n (.tup ds)=a9:=by
 delta bF;split
 .rename_i H;cases H
 .rename_i H;cases H;exact absurd rfl h
 .rfl
def Dq(h:¬ ds.length=4):bU (.tup ds)=a9:=by
 delta bU;split
 .rename_i H;cases H;exact absurd rfl h
 .rfl
def MW(ds:List D):isT (.tup ds) 7 7=decide (ds.length=7):=rL ds 7
def Dt(ds:List D)(n:Nat):isT (.tup ds) 0 n=decide (ds.length<=n):=by
 delta isT;rw[Z1];simp
def rV(m a g f:D):bU (.tup [m,a,g,f])=(be m && (bF (eL m) a && (aM (eL m) (iz m) (kr m) g && bO (tupOf g) f))):=rfl
def Bi{n:Nat}:ag d 0 ((n:Int) - 1)=a8->∃i,d = .int i/\0<=i/\i < n:=λh=>by
 let{i,e,H,b}:=ak h;exact{i,e,H,by omega}
def wU{n:Nat}{i:Nat}(h:fs[i]?=aD d)(H:ag d 0 ((n:Int) - 1)=a9):bT n (.tup fs)=a9:=by
 let:fs.all (λe=>ag e 0 ((n:Int) - 1))=a9:=by
  rw[Z8];intro z;let:=Zg.mp z d (Zs h);rw[H]at this;cases this
 simp![bT,this,ZP,ZW]
def wW{n:Nat}(h:¬ (aL fs).Nodup):bT n (.tup fs)=a9:=by
 let:iy (aL fs)=a9:=decide_eq_false h;simp![bT,this,ZW]
def k9{n:Nat}(h:fs.all (λe=>ag e 0 ((n:Int) - 1))=a8)(nd:(aL fs).Nodup):bT n (.tup fs)=a8:=by
 let f:fs.length<=n:=by
  let:=eJ n (aL fs) nd λx b=>by
   let{d,hd,rfl}:=ZF.mp b;let{i,rfl,c,H}:=Bi (Zg.mp h d hd);exact⟨c,H⟩
  rwa[fO]at this
 let:iy (aL fs)=a8:=decide_eq_true nd;simp![bT,this,h,decide_eq_true f,Z2]
def uj{n:Nat}{r s:Int}{i:Nat}(h:gs[i]?=aD d)(H:aO n r s d=a9):aM n r s (.tup gs)=a9:=by
 let:gs.all (aO n r s)=a9:=by
  rw[Z8];intro z;let:=Zg.mp z d (Zs h);rw[H]at this;cases this
 simp![aM,this,ZW]
def rX{n:Nat}{r s:Int}(h:gs.all (aO n r s)=a8){i:Nat}(H:gs[i]?=aD d):∃k j f l u w g:Int,d = .tup [.int k,.int j,.int f,.int l,.int u,.int w,.int g]/\dQ gs i=g/\0<=g:=by
 let{k,j,f,l,u,w,g,rfl,b}:=qg (Zg.mp h d (Zs H));exact{k,j,f,l,u,w,g,rfl,by delta dQ;rw[H];rfl,by omega}
def Bj(fs:List D)(k:Nat):aL (fs.take k)=(aL fs).take k:=by delta aL;rw[X1]
def nK(ds:List D)(k:Nat)(h:k<=ds.length):eX ds aT (aD (k:Int))=ds.take k:=by
 delta eX;rw[wQ _ _ (by omega)];show(ds.drop 0).take (min ((k:Int).toNat) ds.length - 0)=_;rw[YI,WD,ZL,XF h]
mutual
noncomputable def bnd(B:Nat):D->Prop
 |.int i=>i.natAbs < B
 |.tup ds=>HC B ds
 |.lst ds=>HC B ds
 |.dic ks ds=>(∀k∈ks,∃i,k=Sum.inl i/\i.natAbs < B)/\ks.length=ds.length/\HC B ds
 |_=>True
noncomputable def HC(B:Nat):List D->Prop
 |[]=>True
 |d::ds=>bnd B d/\HC B ds
end
end Dw
namespace Ev
open PySem PySem.Spec PyProof.Rows L2
inductive D where
 |non |bl (b:Bool) |int (i:Int) |str (x:Str) |tup (ds:List D) |ref (n:Nat)
inductive Ob where
 |lst (ds:List D) |frz (ds:List D) |dic (ks:List Key) (ds:List D)
@[inline]abbrev Sto:=List Ob
@[inline]abbrev Rho:=List (Option D)
mutual
noncomputable def VD(K:V6)(m:List Addr)(H:Hp):D->V->Prop
 |.non,v=>v = .non
 |.bl b,v=>v = .bl b
 |.int i,v=>v = .int i
 |.str x,v=>v = .str x
 |.tup ds,v=>∃a xs,v = .ref a/\H a=aD (.tup xs)/\VDs K m H ds xs
 |.ref n,v=>∃a,m[n]?=aD a/\v = .ref a
noncomputable def VDs(K:V6)(m:List Addr)(H:Hp):List D->List V->Prop
 |[],xs=>xs=[]
 |d::ds,xs=>∃x r,xs=x::r/\VD K m H d x/\VDs K m H ds r
end
structure Ext(m:List Addr)(H:Hp)(m':List Addr)(H':Hp):Prop where
 pre:m <+: m'
 keep:∀a o,H a=aD o->a∉m->H' a=aD o
 new:∀a,a∈m'->a∉m->H a=aT
abbrev ObR(K:V6)(m:List Addr)(H:Hp)(a:Addr):Ob->Prop
 |.lst ds=>∃v,H a=aD (.lst v)/\VDs K m H ds v
 |.frz ds=>∃o v,H a=aD (.frz o (.lst v))/\VDs K m H ds v
 |.dic ks ds=>∃v,H a=aD (.dK (ks.zip v))/\ks.length=ds.length/\VDs K m H ds v
structure Rel(K:V6)(m:List Addr)(S:Sto)(H:Hp):Prop where
 len:m.length=S.length
 nd:m.Nodup
 ob:∀ (i:Nat) (o:Ob),S[i]?=aD o->∃a,m[i]?=aD a/\ObR K m H a o
structure EnvR(K:V6)(m:List Addr)(H:Hp)(ρ:Rho)(σ:L2.St):Prop where
 len:ρ.length=σ.length
 at_:∀ (i:Nat) (d:D),ρ[i]?=aD (aD d)->∃v,σ[i]?=aD (aD v)/\VD K m H d v
def Ext.refl(m:List Addr)(H:Hp):Ext m H m H:={Yv m,λ_ _ h _=>h,λ_ h n=>absurd h n}
def Ext.trans(x:Ext m H m1 c)(y:Ext m1 c M H2):Ext m H M H2:=by
 refine{x.pre.trans y.pre,λa o h n=>?_,λa h n=>?_}
 .let f:a∉m1:=λz=>by let:=x.new a z n;rw[this]at h;cases h
  exact y.keep a o (x.keep a o h n) f
 .by_cases b:a∈m1
  .exact x.new a b n
  .cases e:H a with
   |none=>rfl
   |some o=>
    let:=x.keep a o e n;rw[y.new a h b]at this;cases this
section
variable {K:V6} {m M:List Addr} {S s:Sto} {H c:Hp} {a:Addr}
def Rel.ex(R:Rel K m S H)(y:a∈m):∃o ob,H a=aD o/\ObR K m H a ob:=by
 let{i,p,e}:=Yr y;let j:i < S.length:=by rw[<-R.len];exact p
 let{b,u,r}:=R.ob i S[i] (gEG j);let:b=a:=by rw[gEG p]at u;rw[<-e];exact(θ u).symm
 subst this;cases g:S[i] with
 |lst f=>rw[g]at r;let{v,h,q}:=r;exact{_,.lst f,h,v,h,q}
 |frz f=>rw[g]at r;let{o,v,h,q}:=r;exact{_,.frz f,h,o,v,h,q}
 |dic z f=>rw[g]at r;let{v,h,q}:=r;exact{_,.dic z f,h,v,h,q}
def Rel.no(R:Rel K m S H)(h:H a=aT):a∉m:=λz=>by
 let{o,_,e,_}:=R.ex z;rw[h]at e;cases e
def Rel.notTup(R:Rel K m S H)(h:H a=aD (.tup xs)):a∉m:=λz=>by
 let{o,ob,e,r}:=R.ex z;cases ob with
 |lst b=>let{v,q,_}:=r;rw[q]at h;cases h
 |frz b=>let{o,v,q,_}:=r;rw[q]at h;cases h
 |dic f b=>let{v,q,_}:=r;rw[q]at h;cases h
def Tup.ext(R:Rel K m S H)(x:Ext m H M c)(h:H a=aD (.tup xs)):c a=aD (.tup xs):=x.keep _ _ h (R.notTup h)
def cB{i:Nat}(h:m <+: M)(e:m[i]?=aD a):M[i]?=aD a:=by
 let{t,rfl}:=h;let b:i < m.length:=(Zb.mp e).1;rw[Zz b];exact e
mutual
theorem VD.mono0(pre:m <+: M)(T:∀a xs,H a=aD (.tup xs)->c a=aD (.tup xs)):∀ {d:D} {v:V},VD K m H d v->VD K M c d v
 |.non,v,h=>by rw[VD]at h ⊢;exact h
 |.bl _,v,h=>by rw[VD]at h ⊢;exact h
 |.int _,v,h=>by rw[VD]at h ⊢;exact h
 |.str _,v,h=>by rw[VD]at h ⊢;exact h
 |.tup ds,v,h=>by
  rw[VD]at h ⊢;let{a,xs,e,q,r}:=h;exact{a,xs,e,T a xs q,VDs.mono0 pre T r}
 |.ref n,v,h=>by
  rw[VD]at h ⊢;let{a,q,e}:=h;exact{a,cB pre q,e}
theorem VDs.mono0(pre:m <+: M)(T:∀a xs,H a=aD (.tup xs)->c a=aD (.tup xs)):∀ {ds:List D} {v:List V},VDs K m H ds v->VDs K M c ds v
 |[],v,h=>by rw[VDs]at h ⊢;exact h
 |d::ds,v,h=>by
  rw[VDs]at h ⊢;let{y,r,e,p,q}:=h;exact{y,r,e,VD.mono0 pre T p,VDs.mono0 pre T q}
end
def VD.mono(R:Rel K m S H)(x:Ext m H M c)(h:VD K m H d v):VD K M c d v:=VD.mono0 x.pre (λ_ _=>Tup.ext R x) h
def VDs.mono(R:Rel K m S H)(x:Ext m H M c)(h:VDs K m H ds vs):VDs K M c ds vs:=VDs.mono0 x.pre (λ_ _=>Tup.ext R x) h
def EnvR.mono(R:Rel K m S H)(x:Ext m H M c)(h:EnvR K m H b σ):EnvR K M c b σ:=
 {h.len,λi d e=>let ⟨v,p,q⟩:=h.at_ i d e;{v,p,VD.mono R x q}}
def VDs.length:∀ {ds:List D} {v:List V},VDs K m H ds v->ds.length=v.length
 |[],v,h=>by rw[VDs]at h;rw[h];rfl
 |d::ds,v,h=>by
  rw[VDs]at h;let{y,r,e,_,q}:=h;rw[e,Zt,Zt,VDs.length q]
def VDs.nil:VDs K m H [] []:=by rw[VDs]
def VDs.cons(h:VD K m H d v)(t:VDs K m H ds b):VDs K m H (d::ds) (v::b):=by rw[VDs];exact⟨v,b,rfl,h,t⟩
def VDs.get:∀ {ds:List D} {b:List V} {i:Nat} {d:D},VDs K m H ds b->ds[i]?=aD d->∃v,b[i]?=aD v/\VD K m H d v
 |[],_,_,_,_,e=>by simp at e
 |d::ds,b,0,d',h,e=>by
  rw[VDs]at h;let{y,r,rfl,p,q}:=h;simp at e;subst e;exact⟨y,rfl,p⟩
 |d::ds,b,i+1,d',h,e=>by
  rw[VDs]at h;let{y,r,rfl,p,q}:=h;let{v,f,g}:=VDs.get (i:=i) q (by simpa using e);exact{v,by simpa using f,g}
def VDs.append:∀ {ds E:List D} {v b:List V},VDs K m H ds v->VDs K m H E b->VDs K m H (ds++E) (v++b)
 |[],_,v,_,h,t=>by rw[VDs]at h;subst h;exact t
 |d::ds,E,v,b,h,t=>by
  rw[VDs]at h;let{y,r,rfl,p,q}:=h;exact .cons p (VDs.append q t)
def VDs.drop:∀ {ds:List D} {v:List V} (n:Nat),VDs K m H ds v->VDs K m H (ds.drop n) (v.drop n)
 |ds,v,0,h=>h
 |[],v,n+1,h=>by rw[VDs]at h;subst h;exact .nil
 |d::ds,v,n+1,h=>by
  rw[VDs]at h;let{y,r,rfl,p,q}:=h;exact VDs.drop n q
def VDs.take:∀ {ds:List D} {v:List V} (n:Nat),VDs K m H ds v->VDs K m H (ds.take n) (v.take n)
 |ds,v,0,h=>by simp![List.take_zero];exact .nil
 |[],v,n+1,h=>by rw[VDs]at h;subst h;exact .nil
 |d::ds,v,n+1,h=>by
  rw[VDs]at h;let{y,r,rfl,p,q}:=h;exact .cons p (VDs.take n q)
def VDs.set:∀ {ds:List D} {b:List V} {i:Nat} {d:D} {v:V},VDs K m H ds b->VD K m H d v->VDs K m H (ds.set i d) (b.set i v)
 |[],b,_,_,_,h,_=>by rw[VDs]at h;subst h;exact .nil
 |_::ds,b,0,d,v,h,p=>by
  rw[VDs]at h;let{y,r,rfl,_,q}:=h;exact .cons p q
 |_::ds,b,i+1,d,v,h,p=>by
  rw[VDs]at h;let{y,r,rfl,f,q}:=h;exact .cons f (VDs.set q p)
def Ext.beside(R:Rel K m S H)(h:H a=aT)(o:HO):Ext m H m (upd H a o):=
 {Yv m,λb u e _=>by rw[aA (aW e h)];exact e,λb z n=>absurd z n}
def Rel.ext_keep(R:Rel K m S H)(x:Ext m H m c)(k:∀b∈m,c b=H b):Rel K m S c:=by
 calc{R.len,R.nd,λi o e=>?_};let{b,f,r}:=R.ob i o e;let h:b∈m:=Zs f;calc{b,f,?_};cases o with
 |lst g=>let{v,p,q}:=r;exact{v,(k b h).trans p,VDs.mono R x q}
 |frz g=>let{o,v,p,q}:=r;exact{o,v,(k b h).trans p,VDs.mono R x q}
 |dic j g=>let{v,p,l,q}:=r;exact{v,(k b h).trans p,l,VDs.mono R x q}
def Rel.beside(R:Rel K m S H)(h:H a=aT)(o:HO):Rel K m S (upd H a o):=
 R.ext_keep (Ext.beside R h o) λb f=>aA λz=>R.no h (z▸f)
def Rel.adopt(R:Rel K m S H)(n:a∉m)(h:H a=aD (.lst v))(q:VDs K m H ds v):Rel K (m++[a]) (S++[.lst ds]) H:=by
 let p:=YK m [a];let g:∀ {E:List D} {ws:List V},VDs K m H E ws->VDs K (m++[a]) H E ws:=λz=>VDs.mono0 p (λ_ _ t=>t) z;calc{by simp[R.len],Y0.mpr {R.nd,by simp,λx C y f=>by simp at f;subst f;exactλz=>n (z▸C)},λi o e=>?_};by_cases u:i < S.length
 .rw[Zz u]at e;let{b,B,r}:=R.ob i o e;calc{b,cB p B,?_};cases o with
  |lst ds=>let{v,p,q}:=r;exact{v,p,g q}
  |frz ds=>let{o,v,p,q}:=r;exact{o,v,p,g q}
  |dic J ds=>let{v,p,l,q}:=r;exact{v,p,l,g q}
 .rw[Zo (by lia)]at e
  let j:i - S.length=0:=by
   let:=(Zb.mp e).1;simp at this;lia
  rw[j]at e;let I:Ob.lst ds=o:=by simpa using e
  subst I;calc{a,?_,v,h,g q};rw[Zo (by rw[R.len];lia),R.len,j];rfl
def Ext.adopt(x:Ext m H m c)(h:H a=aT):Ext m H (m++[a]) c:=
 ⟨YK m [a],x.keep,λb f nb=>by
  rcases ZC.mp f with z |z
  .exact absurd z nb
  .simp at z;subst z;exact h⟩
def Rel.writeO(R:Rel K m S H){i:Nat}(g:m[i]?=aD a)(u:HO)(ob:Ob)(q:Ext m H m (upd H a u)->ObR K m (upd H a u) a ob):Ext m H m (upd H a u)/\Rel K m (S.set i ob) (upd H a u):=by
 let C:a∈m:=Zs g;let x:Ext m H m (upd H a u):={Yv m,λb w e n=>by rw[aA (show b≠a fromλz=>n (by rw[z];exact C))];exact e,λb z n=>absurd z n};calc{x,by simp[R.len],R.nd,λj o e=>?_};rw[YR]at e;by_cases h:i=j
 .subst h;rw[if_pos rfl]at e;split at e
  .let I:=θ e;subst I;exact{a,g,q x}
  .cases e
 .rw[if_neg h]at e;let{b,v,r}:=R.ob j o e
  let ne:b≠a:=λz=>by
   subst z;let y:=Zb.mp g;let B:=Zb.mp v;exact h ((YU R.nd).mp (y.2.trans B.2.symm))
  calc{b,v,?_};cases o with
  |lst E=>let{f,p,q}:=r;exact{f,by rw[aA ne];exact p,VDs.mono R x q}
  |frz E=>let{o,f,p,q}:=r;exact{o,f,by rw[aA ne];exact p,VDs.mono R x q}
  |dic J E=>let{f,p,l,q}:=r;exact{f,by rw[aA ne];exact p,l,VDs.mono R x q}
def Rel.write(R:Rel K m S H){i:Nat}(h:m[i]?=aD a)(q:VDs K m H ds v):Ext m H m (upd H a (.lst v))/\Rel K m (S.set i (.lst ds)) (upd H a (.lst v)):=
 R.writeO h (.lst v) (.lst ds) λx=>{v,aF,VDs.mono R x q}
def Rel.lst(R:Rel K m S H){i:Nat}(e:S[i]?=aD (.lst ds)):∃a vs,m[i]?=aD a/\H a=aD (.lst vs)/\VDs K m H ds vs:=by
 let{a,h,vs,p,q}:=R.ob i _ e;exact⟨a,vs,h,p,q⟩
end
abbrev az(S:Sto)(n:Nat):Option (List D):=match S[n]? with
 |some (.lst ds)=>aD ds
 |some (.frz ds)=>aD ds
 |_=>aT
def Rel.seq{K:V6}{m:List Addr}{S:Sto}{H:Hp}(R:Rel K m S H){i:Nat}{ds:List D}(e:az S i=aD ds):∃a vs,m[i]?=aD a/\SqL K H a vs/\VDs K m H ds vs:=by
 delta az at e;cases h:S[i]? with
 |none=>rw[h]at e;cases e
 |some o=>
  rw[h]at e;cases o with
  |lst E=>cases e;let{a,b,vs,p,q}:=R.ob i _ h;exact{a,vs,b,.inl (.inl p),q}
  |frz E=>cases e;let{a,b,o,vs,p,q}:=R.ob i _ h;exact{a,vs,b,.inl (.inr ⟨o,p⟩),q}
  |dic c E=>cases e
@[inline]abbrev XE:=Rho->Sto->Option (D×Sto)
@[inline]abbrev XT:=Rho->Sto->Option (Bool×Sto)
@[inline]abbrev XA:=Rho->Sto->Option (List D×Sto)
abbrev bnd{b c:Type}(x:Option (b×Sto))(f:b->Sto->Option (c×Sto)):Option (c×Sto):=match x with
 |none=>aT
 |some (a,S)=>f a S
def ac{b c:Type}{x:Option (b×Sto)}{f:b->Sto->Option (c×Sto)}{r:c×Sto}(h:bnd x f=aD r):∃a S,x=aD (a,S)/\f a S=aD r:=by
 delta bnd at h;cases x with
 |none=>cases h
 |some p=>exact⟨p.1,p.2,rfl,h⟩
structure Aft(K:V6)(m:List Addr)(H:Hp)(S':Sto)(m':List Addr)(H':Hp):Prop where
 ext:Ext m H m' H'
 rel:Rel K m' S' H'
abbrev tE(K:V6)(x:XE):TE:=λf H Q=>∃m c S d b,EnvR K m H c f/\Rel K m S H/\x c S=aD (d,b)/\∀M h v,Aft K m H b M h->VD K M h d v->Q v h
abbrev tT(K:V6)(x:XT):TT:=λg H Q=>∃m f S b c,EnvR K m H f g/\Rel K m S H/\x f S=aD (b,c)/\∀M h,Aft K m H c M h->Q b h
abbrev tAr(K:V6)(x:XA):TA:=λg H Q=>∃m f S b c,EnvR K m H f g/\Rel K m S H/\x f S=aD (b,c)/\∀M h v,Aft K m H c M h->VDs K M h b v->Q v h
abbrev SqB(K:V6)(T:Bool)(H:Hp)(a:Addr)(v:List V):Prop:=if T=a8 then H a=aD (.tup v) else SqL K H a v
abbrev fP(K:V6)(x:XA):TE:=λj H Q=>∃m g S c f,EnvR K m H g j/\Rel K m S H/\x g S=aD (c,f)/\∀M h a v,Aft K m H f M h->h a=aD (.lst v)->a∉M->(∀b,b∈m->b≠a)->H a=aT->VDs K M h c v->Q (.ref a) h
section
variable {X:Cx} {e:Expr} {K:V6} {m M c:List Addr} {H j l:Hp} {S S1 A:Sto}
def PE.imp(h:PE X e t)(f:∀b H Q,t' b H Q->t b H Q):PE X e t':=λp s b H Q I q=>h p s b H Q I (f b H Q q)
def PT.imp(h:PT X e t)(f:∀b H Q,t' b H Q->t b H Q):PT X e t':=λp s b H Q I q=>h p s b H Q I (f b H Q q)
def PA.imp(h:PA X E t)(f:∀g H Q,t' g H Q->t g H Q):PA X E t':=λp b s g H Q I q=>h p b s g H Q I (f g H Q q)
def PS.imp{st:Stmt}{t t':TS}(h:PS X st t)(f:∀D b H,t' D b H->t D b H):PS X st t':=λp s b H D I q=>h p s b H D I (f D b H q)
def PSs.imp{st:List Stmt}{t t':TS}(h:PSs X st t)(f:∀D b H,t' D b H->t D b H):PSs X st t':=λp s b H D I q=>h p s b H D I (f D b H q)
def PI.imp(h:PI X T g t)(f:∀b H Q,t' b H Q->t b H Q):PI X T g t':=λp s b H Q I q=>h p s b H Q I (f b H Q q)
def PI.or(h:PI X T f t)(h':PI X T f t'):PI X T f (λb H Q=>t b H Q\/t' b H Q):=λp s b H Q I q=>q.elim (h p s b H Q I) (h' p s b H Q I)
def OpR.imp(h:OpR X f r)(g:∀x y H Q,r' x y H Q->r x y H Q):OpR X f r':=λp s z H x y v u Q I b o q=>h p s z H x y v u Q I b o (g _ _ _ _ q)
def OpR.or(h:OpR X f r)(h':OpR X f z):OpR X f (λx y H Q=>r x y H Q\/z x y H Q):=λp s o H x y v u Q I b g q=>
 q.elim (h p s o H x y v u Q I b g) (h' p s o H x y v u Q I b g)
def bc.imp(h:bc X f r)(g:∀x H Q,r' x H Q->r x H Q):bc X f r':=λp s o H xs u Q I b q=>h p s o H xs u Q I b (g _ _ _ q)
def bc.or(h:bc X f r)(h':bc X f o):bc X f (λx H Q=>r x H Q\/o x H Q):=λp s g H xs u Q I b q=>
 q.elim (h p s g H xs u Q I b) (h' p s g H xs u Q I b)
def Aft.refl(R:Rel K m S H):Aft K m H S m H:={Ext.refl m H,R}
def Aft.trans(x:Aft K m H S1 M j)(y:Aft K M j A c l):Aft K m H A c l:={x.ext.trans y.ext,y.rel}
abbrev rS(K:V6)(f:D->D->Sto->Option (D×Sto)):R2:=λv w H Q=>∃m S a b d o,Rel K m S H/\VD K m H a v/\VD K m H b w/\f a b S=aD (d,o)/\∀g h u,Aft K m H o g h->VD K g h d u->Q u h
abbrev rS1(K:V6)(f:D->Sto->Option (D×Sto)):V->Hp->VK->Prop:=λv H Q=>∃m S a d g,Rel K m S H/\VD K m H a v/\f a S=aD (d,g)/\∀b h u,Aft K m H g b h->VD K b h d u->Q u h
abbrev rSA(K:V6)(f:List D->Sto->Option (D×Sto)):List V->Hp->VK->Prop:=λv H Q=>∃m S o d g,Rel K m S H/\VDs K m H o v/\f o S=aD (d,g)/\∀b h u,Aft K m H g b h->VD K b h d u->Q u h
abbrev rSq(K:V6)(f:Bool->List D->Sto->Option (D×Sto)):V->Hp->VK->Prop:=λv H Q=>∃m S T g a o d p,Rel K m S H/\v = .ref a/\SqB K T H a o/\VDs K m H g o/\f T g S=aD (d,p)/\∀b h u,Aft K m H p b h->VD K b h d u->Q u h
abbrev cF(f:D->D->Sto->Option (D×Sto))(x y:XE):XE:=λg S=>bnd (x g S) λa S1=>bnd (y g S1) λb A=>f a b A
abbrev xUn(f:D->Sto->Option (D×Sto))(x:XE):XE:=λb S=>bnd (x b S) λa S1=>f a S1
abbrev md(f:List D->Sto->Option (D×Sto))(x:XA):XE:=λb S=>bnd (x b S) λa S1=>f a S1
abbrev Bk(f:Bool->List D->Sto->Option (D×Sto))(x:XA):XE:=λg S=>bnd (x g S) λb S1=>f a9 b S1
abbrev am(d:D)(S:Sto):Option (Bool×List D):=match d with
 |.tup b=>aD (a8,b)
 |.ref n=>(az S n).map λb=>(a9,b)
 |_=>aT
abbrev aC(f:Bool->List D->Sto->Option (D×Sto))(d:D)(S:Sto):Option (D×Sto):=match am d S with
 |some r=>f r.1 r.2 S
 |none=>aT
abbrev Bm(f:Bool->List D->Sto->Option (D×Sto))(x:XE):XE:=λb S=>bnd (x b S) λd S1=>aC f d S1
def ku{f:D->D->Sto->Option (D×Sto)}{x y:XE}{z:L2.St}{H:Hp}{Q:VK}(h:tE K (cF f x y) z H Q):tOp (rS K f) (tE K x) (tE K y) z H Q:=by
 let{m,p,S,d,C,E,R,e,q}:=h;let{a,S1,T,e}:=ac e;let{b,A,O,e}:=ac e;calc{m,p,S,a,S1,E,R,T,λM j v g J=>{M,p,S1,b,A,E.mono R g.ext,g.rel,O,λc l w o vb=>?_}};exact{c,A,a,b,d,C,o.rel,J.mono g.rel o.ext,vb,e,λI B u U L=>q I B u ((g.trans o).trans U) L}
def uk{f:D->Sto->Option (D×Sto)}{x:XE}{g:L2.St}{H:Hp}{Q:VK}(h:tE K (xUn f x) g H Q):tUn (rS1 K f) (tE K x) g H Q:=by
 let{m,I,S,d,J,E,R,e,q}:=h;let{a,S1,y,e}:=ac e;exact{m,I,S,a,S1,E,R,y,λM j v b z=>{M,S1,a,d,J,b.rel,z,e,λp o u C B=>q p o u (b.trans C) B}}
def Du{f:List D->Sto->Option (D×Sto)}{x:XA}{g:L2.St}{H:Hp}{Q:VK}(h:tE K (md f x) g H Q):tCB (rSA K f) (tAr K x) g H Q:=by
 let{m,I,S,d,J,E,R,e,q}:=h;let{a,S1,y,e}:=ac e;exact{m,I,S,a,S1,E,R,y,λM j v b z=>{M,S1,a,d,J,b.rel,z,e,λp o u C B=>q p o u (b.trans C) B}}
def MX{f:Bool->List D->Sto->Option (D×Sto)}{x:XA}{g:L2.St}{H:Hp}{Q:VK}(h:tE K (Bk f x) g H Q):tUn (rSq K f) (fP K x) g H Q:=by
 let{m,J,S,d,L,E,R,e,q}:=h;let{o,S1,C,e}:=ac e;exact{m,J,S,o,S1,E,R,C,λM j a p b z _ _ _ v=>{M,S1,a9,o,a,p,d,L,b.rel,rfl,show SqL K j a p from SqL.of z,v,e,λB y u I v=>q B y u (b.trans I) v}}
abbrev bn(i:Nat):XE:=λb S=>match b[i]? with
 |some (aD d)=>aD (d,S)
 |_=>aT
abbrev xC(d:D):XE:=λ_ S=>aD (d,S)
def Dv{i:Nat}(h:tE K (bn i) g H Q):G3 i g H Q:=by
 let{m,u,S,d,z,E,R,e,q}:=h;delta bn at e;cases b:u[i]? with
 |none=>rw[b]at e;cases e
 |some o=>
  rw[b]at e;cases o with
  |none=>cases e
  |some y=>
   cases e;let{v,f,p}:=E.at_ i d b;exact{v,f,q m H v (Aft.refl R) p}
def wX(f:∀m H,VD K m H d v)(h:tE K (xC d) b H Q):tC v b H Q:=by
 let{m,o,S,p,g,E,R,e,q}:=h;cases e;exact q m H v (Aft.refl R) (f m H)
def nM:VD K m H .non .non:=by rw[VD]
def cr:VD K m H (.bl b) (.bl b):=by rw[VD]
def bV{i:Int}:VD K m H (.int i) (.int i):=by rw[VD]
def cq:VD K m H (.str x) (.str x):=by rw[VD]
def rY(h:H a=aD (.tup v))(q:VDs K m H ds v):VD K m H (.tup ds) (.ref a):=by rw[VD];exact⟨a,v,rfl,h,q⟩
def VD.ints{i:Int}(h:VD K m H (.int i) v):v = .int i:=by rw[VD]at h;exact h
def VD.bls(h:VD K m H (.bl i) v):v = .bl i:=by rw[VD]at h;exact h
def VD.strs(h:VD K m H (.str i) v):v = .str i:=by rw[VD]at h;exact h
def VD.nons(h:VD K m H .non v):v = .non:=by rw[VD]at h;exact h
def VD.tups(h:VD K m H (.tup ds) v):∃a vs,v = .ref a/\H a=aD (.tup vs)/\VDs K m H ds vs:=by rw[VD]at h;exact h
def VD.refs{n:Nat}(h:VD K m H (.ref n) v):∃a,m[n]?=aD a/\v = .ref a:=by rw[VD]at h;exact h
abbrev iS:XA:=λ_ S=>aD ([],S)
abbrev aX(x:XE)(y:XA):XA:=λb S=>bnd (x b S) λa S1=>bnd (y b S1) λf A=>aD (a::f,A)
def MY(h:tAr K iS b H Q):lX b H Q:=by
 let{m,g,S,o,f,E,R,e,q}:=h;cases e;exact q m H [] (Aft.refl R) .nil
def rZ{x:XE}{y:XA}{o:L2.St}{H:Hp}{Q:List V->Hp->Prop}(h:tAr K (aX x y) o H Q):dz (tE K x) (tAr K y) o H Q:=by
 let{m,p,S,I,C,E,R,e,q}:=h;let{a,S1,u,e}:=ac e;let{b,A,B,e}:=ac e;cases e;calc{m,p,S,a,S1,E,R,u,λM j v f z=>{M,p,S1,b,_,E.mono R f.ext,f.rel,B,λc l w g vb=>?_}};exact q c l _ (f.trans g) (.cons (z.mono f.rel g.ext) vb)
abbrev me(ds:List D)(S:Sto):Option (D×Sto):=if ds.length<=1000 then aD (.tup ds,S) else aT
def um{n:Nat}(h:n<=1000):n<=sizeLine:=by rw[ZaO];lia
def mr{ds:List D}{v:List V}{Q:VK}(R:Rel K m S H)(g:VDs K m H ds v)(q:∀f h u,Aft K m H S f h->VD K f h (.tup ds) u->Q u h):∀p,H p=aT->Q (.ref p) (upd H p (.tup v)):=λp b=>
 q m _ _ {Ext.beside R b _,R.beside b _} (rY aF (g.mono R (Ext.beside R b _)))
def mv{ds:List D}{v:List V}{Q:VK}(R:Rel K m S H)(g:VDs K m H ds v)(q:∀f b u,Aft K m H (S++[.lst ds]) f b->VD K f b (.ref S.length) u->Q u b):∀p,H p=aT->Q (.ref p) (upd H p (.lst v)):=λp h=>by
 let x:=Ext.beside R h (.lst v);calc q (m++[p]) _ _ {x.adopt h,(R.beside h _).adopt (R.no h) aF (g.mono R x)} ?_;rw[VD];exact{p,by rw[Zo (by rw[R.len];exact Zc _),R.len,Ye];rfl,rfl}
def mB{ds:List D}{v:List V}{Q:VK}(R:Rel K m S H)(u:VDs K m H ds v)(q:∀g f a v,Aft K m H S g f->f a=aD (.lst v)->a∉g->(∀b,b∈m->b≠a)->H a=aT->VDs K g f ds v->Q (.ref a) f):∀p,H p=aT->Q (.ref p) (upd H p (.lst v)):=λp h=>
 q m _ _ _ {Ext.beside R h _,R.beside h _} aF (R.no h) (λb o z=>R.no h (z▸o)) h (u.mono R (Ext.beside R h _))
def MZ{x:XA}{b:L2.St}{H:Hp}{Q:VK}(h:tE K (md me x) b H Q):RA (tAr K x) b H Q:=by
 let{m,C,S,L,J,E,R,e,q}:=h;let{a,S1,g,e}:=ac e;delta me at e;split at e
 .rename_i z;cases e;exact{m,C,S,a,_,E,R,g,λM j I f v=>{um (by rw[<-v.length];exact z),mr f.rel v λB o u y p=>q B o u (f.trans y) p}}
 .cases e
abbrev cu(x:XA):XA:=λf S=>bnd (x f S) λb S1=>if b.length<=1000 then aD (b,S1) else aT
def r9{x:XA}{z:L2.St}{H:Hp}{Q:VK}(h:fP K (cu x) z H Q):MA (tAr K x) z H Q:=by
 let{m,C,S,ds,S',E,R,e,q}:=h;let{a,S1,U,e}:=ac e;split at e
 .rename_i O;cases e;refine{m,C,S,_,_,E,R,U,λM j vs f y=>{um (by rw[<-y.length];exact O),mB f.rel y λB Y u us A2 I L p v Z=>?_}}
  let T:H u=aT:=by
   cases e:H u with
   |none=>rfl
   |some o=>
    by_cases g:u∈m
    .exact absurd rfl (p u (f.ext.pre.subset g))
    .let:=f.ext.keep u o e g;rw[this]at v;cases v
  exact q B Y u us (f.trans A2) I L (λb J=>p b (f.ext.pre.subset J)) T Z
 .cases e
def fB{d:D}{v:V}{tu:Bool}{ds:List D}(R:Rel K m S H)(f:VD K m H d v)(e:am d S=aD (tu,ds)):∃a vs,v = .ref a/\SqB K tu H a vs/\VDs K m H ds vs:=by
 delta am at e;cases d with
 |tup E=>
  cases e;let{a,vs,e,q,r}:=f.tups;exact⟨a,vs,e,q,r⟩
 |ref n=>
  let{a,g,o}:=f.refs;cases hs:az S n with
  |none=>simp[hs]at e
  |some E=>
   simp[hs]at e;let{rfl,rfl}:=e;let{b,vs,h,q,r}:=R.seq hs;rw[g]at h;cases h;exact⟨a,vs,o,q,r⟩
 |_=>cases e
def M0{f:Bool->List D->Sto->Option (D×Sto)}{x:XE}{p:L2.St}{H:Hp}{Q:VK}(h:tE K (Bm f x) p H Q):tUn (rSq K f) (tE K x) p H Q:=by
 let{m,C,S,d,B,E,R,e,q}:=h;let{a,S1,U,e}:=ac e;calc{m,C,S,a,S1,E,R,U,λM j v o L=>?_};delta aC at e;split at e
 .rename_i r y;let{b,Y,T,I,g}:=fB (tu:=r.1) (ds:=r.2) o.rel L y;exact{M,S1,r.1,r.2,b,Y,d,B,o.rel,T,I,g,e,λJ z u Z O=>q J z u (o.trans Z) O}
 .cases e
abbrev bg(x:XA):XE:=λb S=>bnd (x b S) λf S1=>aD (.ref S1.length,S1++[.lst f])
def jE{x:XA}{g:L2.St}{H:Hp}{Q:VK}(h:tE K (bg x) g H Q):fP K x g H Q:=by
 let{m,I,S,d,O,E,R,e,q}:=h;let{B,S1,u,e}:=ac e;cases e;calc{m,I,S,B,S1,E,R,u,λM j a L f o y J p C=>?_};refine q (M++[a]) j _ {{f.ext.pre.trans (YK _ _),f.ext.keep,λb v nb=>?_},f.rel.adopt y o C} ?_
 .rcases ZC.mp v with z |z
  .exact f.ext.new b z nb
  .simp at z;subst z;exact p
 .rw[VD];exact{a,by rw[Zo (by rw[f.rel.len];exact Zc _),f.rel.len,Ye];rfl,rfl}
end
abbrev eqL(f:D->D->Option Bool):List D->List D->Option Bool
 |[],[]=>aD a8
 |x::xs,y::ys=>match f x y,eqL f xs ys with
  |some a,aD b=>aD (a && b)
  |_,_=>aT
 |_,_=>aD a9
abbrev eqB:D->D->Option Bool
 |.non,.non=>aD a8
 |.bl a,.bl b=>aD (a == b)
 |.int a,.int b=>aD (a == b)
 |.str a,.str b=>aD (a == b)
 |.bl a,.int b=>aD ((if a then 1 else 0) == b)
 |.int a,.bl b=>aD (a == (if b then 1 else 0))
 |_,_=>aT
abbrev eqD(_:Nat)(S:Sto)(x y:D):Option Bool:=match x,y with
 |.tup xs,.tup ys=>eqL eqB xs ys
 |.ref a,.ref b=>match az S a,az S b with
  |some xs,aD ys=>if a=b then aD a8 else if xs.length=ys.length then eqL eqB xs ys else aD a9
  |_,_=>aT
 |x,y=>eqB x y
section
variable {X:Cx} {K:V6} {m:List Addr} {H:Hp} {S:Sto}
def uo{f:D->D->Option Bool}:∀ {xs ys:List D} {b:Bool},eqL f xs ys=aD b->∃g:Nat->Bool,(∀j x y,xs[j]?=aD x->ys[j]?=aD y->f x y=aD (g j))/\b=((Zm (min xs.length ys.length)).all g && (xs.length == ys.length))
 |[],[],b,h=>by simp[eqL]at h;exact{λ_=>a8,λj x y e=>by simp at e,by simp[<-h]}
 |[],_::_,b,h=>by simp[eqL]at h;exact{λ_=>a8,λj x y e=>by simp at e,by simp[<-h]}
 |_::_,[],b,h=>by simp[eqL]at h;exact{λ_=>a8,λj x y _ e=>by simp at e,by simp[<-h]}
 |x::xs,y::ys,b,h=>by
  rw[eqL]at h;split at h
  .rename_i a c p u;cases h;let{g,z,v}:=uo u;refine⟨λj=>match j with |0=>a |j+1=>g j,λj q Y E o=>?_,?_⟩
   .cases j with
    |zero=>cases E;cases o;exact p
    |succ j=>exact z j q Y E o
   .rw[v];simp![Zt,Nat.succ_min_succ,Xz,Z0,ZY];rw[Wq,show(xs.length+1 == ys.length+1)=(xs.length == ys.length) by simp];rfl
  .cases h
def zi{c:List V}{its:List Value}{xs:List D}(p:VDs K m H xs c)(r:aP c its){j:Nat}(f:j < its.toArray.size):∃x v,xs[j]?=aD x/\VD K m H x v/\aJ v its.toArray[j]:=by
 let h:j < its.length:=by simpa using f
 let l1:=p.length;let l2:=r.length;let{v,q,o}:=p.get (i:=j) (d:=xs[j]'(by lia)) (gEG _);let{u,b,g}:=r.get q;rw[gEG h]at b;cases b;exact{_,v,gEG (by lia),o,g}
def Dx{A:Around}{s:Shared}{x y:D}{v w:V}{u U:Value}{b:Bool}(c:VD K m H x v)(f:VD K m H y w)(r1:aJ v u)(r2:aJ w U)(h:eqB x y=aD b):V3 A s u U b/\SeqAt.RcAt A s u U b/\V4 A s u U (!b):=by
 delta eqB at h;split at h
 .cases h;cases c.nons;cases f.nons;cases r1;cases r2;exact{.same _,.none_none,.none_none}
 .cases h;cases c.bls;cases f.bls;cases r1;cases r2;exact{.bool_bool _ _,.bool_bool _ _,.bool_bool _ _}
 .cases h;cases c.ints;cases f.ints;let{t,rfl}:=r1;let{T,rfl}:=r2;exact{.int_int _ _ _ _,.int_int _ _ _ _,.int_int _ _ _ _}
 .cases h;cases c.strs;cases f.strs;let{t,rfl}:=r1;let{T,rfl}:=r2;exact{.str_str _ _ _ _,.str_str _ _ _ _,.str_str _ _ _ _}
 .cases h;cases c.bls;cases f.ints;cases r1;let{T,rfl}:=r2;exact{.bool_int _ _ _,.bool_int _ _ _,.bool_int _ _ _}
 .cases h;cases c.ints;cases f.bls;let{t,rfl}:=r1;cases r2;exact{.int_bool _ _ _,.int_bool _ _ _,.int_bool _ _ _}
 .cases h
def uq{s:Shared}{A:Around}{xs ys:List D}{C u:List V}{I c:List Value}{b:Bool}(p:VDs K m H xs C)(q:VDs K m H ys u)(r1:aP C I)(r2:aP u c)(h:eqL eqB xs ys=aD b):∃g:Nat->Bool,(∀j (z:j < I.toArray.size) (B:j < c.toArray.size),V3 A.in1 s I.toArray[j] c.toArray[j] (g j))/\b=((Zm (min I.toArray.size c.toArray.size)).all g && (I.toArray.size == c.toArray.size)):=by
 let{g,J,E}:=uo h;calc{g,λj z B=>?_,by rw[E,Zj,Zj,<-r1.length,<-p.length,<-r2.length,<-q.length]};let{x,v,O,M,f}:=zi p r1 z;let{y,w,L,Q,o}:=zi q r2 B;exact(Dx M Q f o (J j x y O L)).1
def RL{A:Around}{J:List (Addr×Obj)}{σ:L2.St}{s:Shared}{x y:D}{v w:V}{u u':Value}{b:Bool}(I:Inv X J σ H s)(R:Rel X.K m S H)(n:Nat)(M:VD X.K m H x v)(Q:VD X.K m H y w)(r1:aJ v u)(r2:aJ w u')(h:eqD n S x y=aD b)(o:A.units < cLine) :
  SeqAt.RcAt A s u u' b/\V4 A s u u' (!b):=by
 delta eqD at h;split at h
 .let{a,vs,rfl,sq,p}:=M.tups;let{a',ws,rfl,E,q}:=Q.tups;cases r1;cases r2;let{L,Z,T,_}:=I.tuple (.of sq);let{i2,Y,C,_}:=I.tuple (.of E);let{g,O,rfl}:=uq (s:=s) (A:=A) p q Z Y h;exact{SeqAt.RcAt.tuples T C o O,PySem.SeqAt.RcNeAt.tuples T C o O}
 .rename_i k k';let{c,hc,rfl}:=M.refs;let{c',U,rfl}:=Q.refs;cases r1;cases r2;split at h
  .rename_i es es' hs hs';let{b1,vs,hb,sq,p}:=R.seq hs;rw[hb]at hc;cases hc;let{b2,ws,B,E,q}:=R.seq hs';rw[B]at U;cases U;let{L,Z,T,_}:=I.list sq;let{i2,Y,C,_}:=I.list E;split at h
   .rename_i hk;subst hk;rw[hb]at B;cases B;cases h;let z:=SeqAt.RcAt.lists (A:=A) (e:=λ_=>a8) T.isList T.isList rfl o λj M Q=>SeqAt.EqAt.same _;let z':=PySem.SeqAt.RcNeAt.lists (A:=A) (e:=λ_=>a8) T.isList T.isList rfl o λj M Q=>SeqAt.EqAt.same _;rw[show(Zm L.toArray.size).all (λ_=>a8)=a8 by simp]at z z';exact⟨z,z'⟩
   .let l1:L.toArray.size=es.length:=by rw[Zj,<-Z.length,<-p.length]
    let l2:i2.toArray.size=es'.length:=by rw[Zj,<-Y.length,<-q.length]
    split at h
    .rename_i hl;let{g,O,rfl}:=uq (s:=s) (A:=A) p q Z Y h;let f:L.toArray.size=i2.toArray.size:=by rw[l1,l2,hl]
     rw[<-f,Nat.min_self,beq_self_eq_true,Z2];exact{SeqAt.RcAt.lists T.isList C.isList f o O,PySem.SeqAt.RcNeAt.lists T.isList C.isList f o O}
    .rename_i hl;cases h;let f:(L.toArray.size != i2.toArray.size)=a8:=by rw[l1,l2];simpa using hl
     exact{SeqAt.RcAt.lists_lengths T.isList C.isList f o,PySem.SeqAt.RcNeAt.lists_lengths T.isList C.isList f o}
  .cases h
 .exact(Dx M Q r1 r2 h).2
abbrev eqS(x y:D)(S:Sto):Option (D×Sto):=(eqD 60 S x y).map λb=>(.bl b,S)
abbrev neS(x y:D)(S:Sto):Option (D×Sto):=(eqD 60 S x y).map λb=>(.bl (!b),S)
def tV{x y:D}{b:Bool}(h:eqD 60 S x y=aD b):neS x y S=aD (.bl (!b),S):=by delta neS;rw[h];rfl
def M1(z:X.A.units+64 < cLine):OpR X (Zau .Eq) (rS X.K eqS):=by
 intro p s B H x y v u Q I f o h;let{m,S,a,b,d,C,R,j,vb,e,q}:=h;let{c,g,e}:=Yd.mp e;cases e;exact(RL I R 60 j vb f o g (by lia)).1 _ _ _ _ {.bl c,H,I,rfl,q m H _ (Aft.refl R) cr}
def M2(z:X.A.units+64 < cLine):OpR X (Zau .NotEq) (rS X.K neS):=by
 intro p s B H x y v u Q I f o h;let{m,S,a,b,d,C,R,j,vb,e,q}:=h;let{c,g,e}:=Yd.mp e;cases e;exact(RL I R 60 j vb f o g (by lia)).2 _ _ _ _ {.bl (!c),H,I,rfl,q m H _ (Aft.refl R) cr}
end
section
variable {X:Cx}
abbrev U2:V->Option Int->Option Int->Hp->VK->Prop:=λv lo h H Q=>∃x,v = .str x/\x.length<=sizeLine/\Q (.str (Txt.slice x lo h)) H
def M3:SlR X U2:=by
 intro p s B H v u C L lo f sl Q I g hs pl pu h;let{x,rfl,z,q}:=h;let{t,rfl}:=g
 let fin:∀l r:Option (Int×Tok),s.heap.IsSlice sl l r aT->l.map (·.1)=lo->r.map (·.1)=f->∃T id,ZaZ (.type T) "__getitem__" = pure (aD (.builtin id))/\s.TypeIs (.str x t) T/\wpAny (model X.prog X.w) X.A (getItem (.str x t) (.ref sl)) (EP X p B Q) X.xe s:=λl r o y E=>by
  subst y E;calc{"str",_,PySem.F.slot_str_getitem.lookup,ZaY _ _ _,wpAny_getItem_str_slice o rfl ?_};calc post_val_or_str {Zy (Txt.slice_le x _ _) z,λJ k=>?_};exact{.str _,H,I.tok _,⟨_,rfl⟩,q}
 cases pl with
 |none=>cases pu with
  |none=>exact fin aT aT hs rfl rfl
  |int j b=>exact fin aT (aD (j,b)) hs rfl rfl
 |int i c=>cases pu with
  |none=>exact fin (aD (i,c)) aT hs rfl rfl
  |int j b=>exact fin (aD (i,c)) (aD (j,b)) hs rfl rfl
abbrev se(x:Str)(n:Nat):Str:={(Zr n x.cps).foldl (·++·) #[]}
def ur(a:Array Nat):∀ (n:Nat) (b:Array Nat),((Zr n a).foldl (·++·) b).size=b.size+n * a.size
 |0,b=>by simp
 |n+1,b=>by
  rw[Yi,YM,ur a n,Wb,Xx];omega
def wY:OpR X (Zak .Mult) (λv u H Q=>∃x n,v = .str x/\u = .int n/\(2<=n/\n<=1000)/\1<=x.length/\x.length<=1000/\Q (.str (se x n.toNat)) H):=by
 intro p s z H x y v u Q I c f h;let{x,n,rfl,rfl,j,o,b,q}:=h;let{t,rfl}:=c;let{T,rfl}:=f;let B:x.length * n.toNat<=1000 * 1000:=Wr b (by omega);let g:¬ n < 1:=by omega
 let C:¬ (n == 1 || x.length == 0)=a8:=by simp;omega
 refine P.mul_str (by rw[decide_eq_false (by omega),decide_eq_false (by omega)];rfl) (λ_ _=>?_) (λ_ _=>decide_eq_false (by rw[ZaO];omega)) ?_
 .let:(1000:Int)<=(2 ^ 63 - 1) / n:=Int.le_ediv_of_mul_le (by omega) (by omega);omega
 .rw[if_neg g,if_neg C];calc{?_,{.str _,H,I.tok _,⟨_,rfl⟩,q}};show((Zr n.toNat x.cps).foldl (·++·) #[]).size<=sizeLine;rw[ur,ZaO];let:n.toNat * x.cps.size<=1000 * 1000:=Wr (by omega) b;simp![Array.size_empty];omega
end
abbrev M4(a b:Nat)(S:Sto):Option (D×Sto):=match S[a]? with
 | some (.lst xs)=>(match S[b]? with
  |some (.lst ys)=>if xs.length+ys.length<=100000 then aD (.ref S.length,S++[.lst (xs++ys)]) else aT
  | _=>aT)
 |_=>aT
abbrev cJ:D->D->Sto->Option (D×Sto)
 |.int i,.int j,S=>aD (.int (i+j),S)
 |.tup xs,.tup ys,S=>if xs.length+ys.length<=9000 then aD (.tup (xs++ys),S) else aT
 |.ref a,.ref b,S=>M4 a b S
 |.str x,.str y,S=>if x.length+y.length<=100000 then aD (.str (x++y),S) else aT
 |_,_,_=>aT
abbrev RM:D->D->Sto->Option (D×Sto)
 |.int i,.int j,S=>aD (.int (i - j),S)
 |_,_,_=>aT
abbrev jF(i j:Int):Bool:=(decide (-(2 ^ 64) < i) && decide (i < 2 ^ 64)) || (decide (-(2 ^ 64) < j) && decide (j < 2 ^ 64))
abbrev mf:D->D->Sto->Option (D×Sto)
 |.int i,.int j,S=>if jF i j=a8 then aD (.int (i * j),S) else aT
 | .ref n,.int k,S=>(match S[n]? with
  |some (.lst xs)=>if 0<=k/\xs.length * k.toNat<=1000/\k<=1000 then aD (.ref S.length,S++[.lst (Zr k.toNat xs).flatten]) else aT
  | _=>aT)
 |.str x,.int k,S=>if (2<=k/\k<=1000)/\1<=x.length/\x.length<=1000 then aD (.str (se x k.toNat),S) else aT
 |_,_,_=>aT
abbrev M5:D->D->Sto->Option (D×Sto)
 |.int i,.int j,S=>if 0 < j then aD (.int (i % j),S) else aT
 |_,_,_=>aT
abbrev Dy:D->D->Sto->Option (D×Sto)
 |.int i,.int j,S=>if 0 < j/\j < 1298074214633706907132624082305024 then aD (.int (i / j),S) else aT
 |_,_,_=>aT
abbrev M6:D->D->Sto->Option (D×Sto)
 |.int i,.int j,S=>if 0<=j/\j<=1000000/\i.natAbs < 2 ^ 64 then aD (.int (i ^ j.toNat),S) else aT
 |_,_,_=>aT
inductive BOp where |add |sub |mul |mod |fdiv |pow
abbrev bv:BOp->D->D->Sto->Option (D×Sto)
 |.add=>cJ |.sub=>RM |.mul=>mf |.mod=>M5 |.fdiv=>Dy |.pow=>M6
abbrev BOp.op:BOp->VQ
 |.add=>.Add |.sub=>.Sub |.mul=>.Mult |.mod=>.Mod |.fdiv=>.FloorDiv |.pow=>.Pow
section
variable {X:Cx} {K:V6} {m:List Addr} {H:Hp} {S:Sto}
def iA{op:VQ}{f:D->D->Sto->Option (D×Sto)}{C:Int->Int->Prop}{g:Int->Int->Int}(p:OpR X (Zak op) (rI C λi j=>.int (g i j)))
  (u:∀a b S d o,f a b S=aD (d,o)->∃i j,a = .int i/\b = .int j/\C i j/\d = .int (g i j)/\o=S):OpR X (Zak op) (rS X.K f):=by
 calc OpR.imp p λx y H Q h=>?_;let{m,S,a,b,d,o,R,v,vb,e,q}:=h;let{i,j,rfl,rfl,c,rfl,rfl}:=u _ _ _ _ _ e;exact{i,j,v.ints,vb.ints,c,q m H _ (Aft.refl R) bV}
def wZ:OpR X (Zak .Add) (λx y H Q=>∃m S xs ys,Rel X.K m S H/\VD X.K m H (.tup xs) x/\VD X.K m H (.tup ys) y/\xs.length+ys.length<=9000/\∀M c u,Aft X.K m H S M c->VD X.K M c (.tup (xs++ys)) u->Q u c):=by
 calc OpR.imp Hw λx y H Q h=>?_;let{m,S,xs,ys,R,v,vb,z,q}:=h;let{a,o,rfl,sa,f}:=v.tups;let{b,j,rfl,p,g}:=vb.tups;let l1:=f.length;let l2:=g.length;refine{a,b,o,j,rfl,rfl,.of sa,.of p,(by rw[ZaO];lia),λe=>?_,λ_ e=>?_,λ_ _=>mr R (f.append g) q}
 .subst e;let e:xs=[]:=Yo.mp (by simpa using l1);subst e;exact q m H _ (Aft.refl R) vb
 .subst e;let e:ys=[]:=Yo.mp (by simpa using l2);subst e;rw[ZN]at q;exact q m H _ (Aft.refl R) v
def si:OpR X (Zak .Add) (rS X.K cJ):=by
 calc OpR.imp (OpR.or Mo (OpR.or wZ (OpR.or wr wz))) λx y H Q h=>?_;let{m,S,a,b,d,U,R,v,vb,e,q}:=h;cases a with
 |int i=>
  cases b with
  |int j=>cases e;exact .inl {i,j,v.ints,vb.ints,q m H _ (Aft.refl R) bV}
  |_=>simp[cJ]at e
 |tup xs=>
  cases b with
  |tup Y=>
   simp![cJ]at e;split at e
   .rename_i o;cases e;exact .inr (.inl ⟨m,S,xs,Y,R,v,vb,o,q⟩)
   .cases e
  |_=>simp[cJ]at e
 |str i=>
  cases b with
  |str j=>
   simp![cJ]at e;split at e
   .rename_i o;cases e;exact .inr (.inr (.inl {i,j,v.strs,vb.strs,by rw[ZaO];lia,q m H _ (Aft.refl R) cq}))
   .cases e
  |_=>simp[cJ]at e
 |ref i=>
  cases b with
  |ref j=>
   simp![cJ,M4]at e;split at e
   .rename_i xs O;split at e
    .rename_i Y z;split at e
     .rename_i o;cases e;let{a,T,B,L,p}:=R.lst O;let{c,C,E,I,u}:=R.lst z;let{Z,f,M}:=v.refs;let{c',g,J}:=vb.refs;rw[B]at f;cases f;rw[E]at g;cases g;exact .inr (.inr (.inr {a,c,T,C,M,J,L,I,by rw[ZaO,<-p.length,<-u.length];lia,mv R (p.append u) q}))
     .cases e
    .cases e
   .cases e
  |_=>simp[cJ]at e
 |_=>cases b <;> simp[cJ]at e
def zj(h:VDs K m H ds v):∀n:Nat,VDs K m H (Zr n ds).flatten (Zr n v).flatten
 |0=>by rw[XX,XX,Wg,Wg,VDs]
 |n+1=>by rw[Yi,Yi,YE,YE];exact h.append (zj h n)
def HD:OpR X (Zak .Mult) (rS X.K mf):=by
 calc OpR.imp (OpR.or MJ (OpR.or Mr wY)) λx y H Q h=>?_;let{m,S,a,b,d,B,R,v,vb,e,q}:=h;cases a with
 |int i=>
  cases b with
  |int j=>
   simp![mf]at e;split at e
   .rename_i c;cases e;simp![jF,YO,bAE,decide_eq_true_eq]at c;exact .inr (.inl {i,j,v.ints,vb.ints,c,q m H _ (Aft.refl R) bV})
   .cases e
  |_=>simp[mf]at e
 |ref n=>
  cases b with
  |int k=>
   simp![mf]at e;split at e
   .rename_i xs p;split at e
    .rename_i c;cases e;let{l,u,z,o,g}:=R.lst p;let{L,f,E}:=v.refs;rw[z]at f;cases f;exact .inl {l,k,u,E,vb.ints,o,by lia,by lia,by rw[ZaO,<-g.length];lia,mv R (zj g k.toNat) q}
    .cases e
   .cases e
  |_=>simp[mf]at e
 |str x=>
  cases b with
  |int k=>
   simp![mf]at e;split at e
   .rename_i c;cases e;exact .inr (.inr {x,k,v.strs,vb.ints,c.1,c.2.1,c.2.2,q m H _ (Aft.refl R) cq})
   .cases e
  |_=>simp[mf]at e
 |_=>cases b <;> simp[mf]at e
def Dz:OpR X (Zak .FloorDiv) (rI (λ_ j=>0 < j/\j < 1298074214633706907132624082305024) λi j=>.int (i / j)):=opI λi j _ _ _ _ _ h q=>by
 let c:(0:Int) < j:=h.1;let f:j < 1298074214633706907132624082305024:=h.2
 exact floordiv_int (by lia) (by rw[Int.fdiv_eq_ediv_of_nonneg i (by lia)];exact q) (.inl (PyProof.noPylong_of_log2 (by
  let b:j.natAbs≠0:=by lia
  let:j.natAbs.log2 < 110:=(Wi b).mpr (by lia)
  lia)))
def HE(o:BOp):OpR X (Zak o.op) (rS X.K (bv o)):=by
 cases o with
 |add=>exact si
 |sub=>
  calc iA (C:=λ_ _=>True) (g:=λi j=>i - j) (OpR.imp Mq λx y H Q ⟨i,j,a,b,_,q⟩=>⟨i,j,a,b,q⟩) λa b S d c e=>?_;cases a <;> cases b <;> simp[bv,RM]at e;exact⟨_,_,rfl,rfl,trivial,e.1.symm,e.2.symm⟩
 |mul=>exact HD
 |mod=>
  calc iA Mu λa b S d c e=>?_;cases a <;> cases b <;> simp[bv,M5]at e;rename_i i j;exact⟨i,j,rfl,rfl,e.1,e.2.1.symm,e.2.2.symm⟩
 |fdiv=>
  calc iA Dz λa b S d c e=>?_;cases a <;> cases b <;> simp[bv,Dy]at e;rename_i i j;exact⟨i,j,rfl,rfl,e.1,e.2.1.symm,e.2.2.symm⟩
 |pow=>
  calc iA Mv λa b S d c e=>?_;cases a <;> cases b <;> simp[bv,M6]at e;rename_i i j;exact⟨i,j,rfl,rfl,e.1,e.2.1.symm,e.2.2.symm⟩
abbrev Bn(p:Int->Int->Bool):D->D->Sto->Option (D×Sto)
 |.int i,.int j,S=>aD (.bl (p i j),S)
 |_,_,_=>aT
abbrev nP:D->Bool
 |.non=>a8
 |_=>a9
abbrev isB(neg:Bool):D->D->Sto->Option (D×Sto)
 |d,.non,S=>aD (.bl (neg != nP d),S)
 |.bl a,.bl b,S=>aD (.bl (neg != (a == b)),S)
 |_,_,_=>aT
abbrev cT:D->Bool
 |.non=>a8 |.bl _=>a8 |.int _=>a8 |.str _=>a8 |_=>a9
abbrev eqF:D->D->Bool
 |.non,.non=>a8
 |.bl a,.bl b=>a == b
 |.bl a,.int b=>(if a then 1 else 0) == b
 |.int a,.bl b=>a == (if b then 1 else 0)
 |.int a,.int b=>a == b
 |.str a,.str b=>a == b
 |_,_=>a9
abbrev inF(x:D)(ds:List D):Bool:=ds.any λy=>eqF y x
abbrev uu:D->Option Key
 |.int i=>aD (.inl i)
 |.str x=>aD (.inr x)
 |_=>aT
def zk{k:Key}(e:uu d=aD k)(h:VD K m H d v):v=kV k:=by
 cases d <;> simp[uu]at e
 .subst e;exact h.ints
 .subst e;exact h.strs
abbrev inK(neg:Bool)(x y:D)(S:Sto):Option (D×Sto):=match y with
 | .str z=>(match x with
  |.str i=>aD (.bl (neg != !(Builtin.Str.occurrences z i 0 z.length 1).isEmpty),S)
  | _=>aT)
 | .ref n=>(match S[n]?,uu x with
  |some (.dic ks _),aD k=>aD (.bl (neg != ks.any λa=>decide (a=k)),S)
  | _,_=>aT)
 |_=>aT
def nQ{k:Key}:∀ {b:List Key} {c:List V},b.length=c.length->(jc (b.zip c) k).isSome=b.any λa=>decide (a=k)
 |[],[],_=>rfl
 |a::b,v::c,h=>by
  rw[Xb,YF];by_cases z:a=k
  .rw[gC (p:=(a,v)) z,decide_eq_true z];rfl
  .rw[gD (p:=(a,v)) z,decide_eq_false z,nQ (by simpa using h)];rfl
def K7{P:Prop}{neg:Bool}(R:Rel K m S H)(c:VD K m H a x)(vb:VD K m H b y)(e:inK neg a b S=aD (d,f))(j:∀i z,x = .str i->y = .str z->f=S->d = .bl (neg != !(Builtin.Str.occurrences z i 0 z.length 1).isEmpty)->P)(C:∀p o,y = .ref p->wG H p x o->f=S->d = .bl (neg != o.isSome)->P):P:=by
 delta inK at e;split at e
 .split at e
  .cases e;exact j _ _ c.strs vb.strs rfl rfl
  .cases e
 .rename_i n;split at e
  .rename_i B M k g q;cases e;let{p,J,E,u,I,v}:=R.ob n _ g;let{L,h,rfl}:=vb.refs;rw[J]at h;cases h;calc C p (jc (B.zip E) k) rfl (by rw[zk q c];exact wG.k u) rfl ?_;rw[nQ (I.trans v.length)]
  .cases e
 .cases e
abbrev inS(neg:Bool)(x y:D)(S:Sto):Option (D×Sto):=match am y S with
 |some (_,ds)=>if cT x=a8/\ds.all cT=a8 then aD (.bl (neg != inF x ds),S) else aT
 |none=>inK neg x y S
inductive COp where |eq |ne |lt |le |gt |ge |is |t |s |o
abbrev ay:COp->D->D->Sto->Option (D×Sto)
 |.eq=>eqS |.ne=>neS
 |.lt=>Bn λi j=>decide (i < j) |.le=>Bn λi j=>decide (i<=j) |.gt=>Bn λi j=>decide (j < i) |.ge=>Bn λi j=>decide (j<=i)
 |.is=>isB a9 |.t=>isB a8 |.s=>inS a9 |.o=>inS a8
abbrev COp.op:COp->CmpOp
 |.eq=>.Eq |.ne=>.NotEq |.lt=>.Lt |.le=>.LtE |.gt=>.Gt |.ge=>.GtE |.is=>.Is |.t=>.IsNot |.s=>.In |.o=>.NotIn
def fQ(c:OpR X (Zau op) (rI0 λi j=>.bl (p i j))):OpR X (Zau op) (rS X.K (Bn p)):=by
 calc OpR.imp c λx y H Q h=>?_;let{m,S,a,b,d,f,R,v,vb,e,q}:=h;cases a <;> cases b <;> simp[Bn]at e;let{rfl,rfl}:=e;exact{_,_,v.ints,vb.ints,q m H _ (Aft.refl R) cr}
def mD(h:VD K m H x v)(f:cT x=a8):cf v=a8:=by
 cases x <;> simp[cT]at f
 .cases h.nons;rfl
 .cases h.bls;rfl
 .cases h.ints;rfl
 .cases h.strs;rfl
def DA(h:VD K m H x v)(f:cT x=a8)(h':VD K m H y w)(b:cT y=a8):eqV v w=eqF x y:=by
 cases x <;> simp[cT]at f <;> cases y <;> simp[cT]at b <;> simp[VD]at h h' <;> subst h <;> subst h' <;> rfl
def jG:∀ {ds:List D} {v:List V},VDs K m H ds v->ds.all cT=a8->v.all cf=a8
 |[],v,h,_=>by rw[VDs]at h;rw[h];rfl
 |d::ds,v,h,f=>by
  rw[VDs]at h;let{x,r,rfl,p,q}:=h;rw[Z0,bAE]at f;rw[Z0,mD p f.1,jG q f.2];rfl
def w8(h:VD K m H x v)(f:cT x=a8):∀ {ds:List D} {b:List V},VDs K m H ds b->ds.all cT=a8->inV v b=inF x ds
 |[],b,h,_=>by rw[VDs]at h;rw[h];rfl
 |d::ds,b,h',f'=>by
  rw[VDs]at h';let{y,r,rfl,p,q}:=h';rw[Z0,bAE]at f';let I:=w8 h f q f'.2;delta inV inF at I ⊢;rw[YF,YF,DA p f'.1 h f,I]
def qi(h:VD K m H x v)(f:cT x=a8):∀ {ds:List D} {b:List V},VDs K m H ds b->ds.all cT=a8->(b.countP λz=>eqV z v)=ds.countP λz=>eqF z x
 |[],b,h,_=>by rw[VDs]at h;rw[h];rfl
 |d::ds,b,h',f'=>by
  rw[VDs]at h';let{y,r,rfl,p,q}:=h';rw[Z0,bAE]at f';rw[Y2,Y2,DA p f'.1 h f,qi h f q f'.2]
def sj(h:SqB K T H a vs):SqL K H a vs\/SqT K H a vs:=by
 cases T with
 |false=>exact .inl h
 |true=>exact .inr (.of h)
def M7(hu:X.A.units+64 < cLine):OpR X (Zau .In) (rS X.K (inS a9)):=by
 intro c s O H x y v u Q I B J h;let{m,S,a,b,d,S',R,C,vb,e,q}:=h;delta inS at e;split at e
 .rename_i tu ds T;let{p,Z,rfl,U,f}:=fB R vb T;split at e
  .rename_i j;cases e;calc AX c s O H x _ v u Q I B J {p,Z,rfl,sj U,mD C j.1,jG f j.2,q m H _ (Aft.refl R) ?_};rw[if_neg (by decide),w8 C j.1 f j.2]
   simpa using cr
  .cases e
 .refine K7 R C vb e (λi z ex M L E=>?_) λp o M g L E=>?_
  .subst L E;exact AR c s O H x y v u Q I B J {i,z,ex,M,q m H _ (Aft.refl R) (by simpa using cr)}
  .subst L E M;cases J;exact U0 (show X.A.units+1 < cLine by lia) I g B λs' Y=>{.bl _,H,Y,rfl,q m H _ (Aft.refl R) (by simpa using cr)}
def Bo(hu:X.A.units+64 < cLine):OpR X (Zau .NotIn) (rS X.K (inS a8)):=by
 intro c s O H x y v u Q I B J h;let{m,S,a,b,d,S',R,C,vb,e,q}:=h;delta inS at e;split at e
 .rename_i tu ds T;let{p,Z,rfl,U,f}:=fB R vb T;split at e
  .rename_i j;cases e;calc rB c s O H x _ v u Q I B J {p,Z,rfl,sj U,mD C j.1,jG f j.2,q m H _ (Aft.refl R) ?_};rw[if_pos rfl,w8 C j.1 f j.2]
   simpa using cr
  .cases e
 .refine K7 R C vb e (λi z ex M L E=>?_) λp o M g L E=>?_
  .subst L E;exact re c s O H x y v u Q I B J {i,z,ex,M,q m H _ (Aft.refl R) (by simpa using cr)}
  .subst L E M;cases J;exact Hq (show X.A.units+1 < cLine by lia) I g B λs' Y=>{.bl _,H,Y,rfl,q m H _ (Aft.refl R) (by simpa using cr)}
def DB(h:VD K m H d v):decide (v=V.non)=nP d:=by
 cases d with
 |non=>cases h.nons;rfl
 |bl _=>cases h.bls;rfl
 |int _=>cases h.ints;rfl
 |str _=>cases h.strs;rfl
 |tup _=>let{_,_,e,_}:=h.tups;subst e;rfl
 |ref _=>let{_,_,e}:=h.refs;subst e;rfl
def M8:OpR X (Zau .Is) (rS X.K (isB a9)):=by
 calc OpR.imp (OpR.or My MP) λx y H Q h=>?_;let{m,S,a,b,d,c,R,v,vb,e,q}:=h;cases b with
 |non=>
  simp[isB]at e;let{rfl,rfl}:=e;exact .inl {vb.nons,q m H _ (Aft.refl R) (by rw[DB v];exact cr)}
 |bl j=>
  cases a with
  |bl i=>
   simp[isB]at e;let{rfl,rfl}:=e;exact .inr {i,j,v.bls,vb.bls,q m H _ (Aft.refl R) cr}
  |_=>simp[isB]at e
 |_=>cases a <;> simp[isB]at e
def Bp:OpR X (Zau .IsNot) (rS X.K (isB a8)):=by
 calc OpR.imp (OpR.or Hb Bd) λx y H Q h=>?_;let{m,S,a,b,d,c,R,v,vb,e,q}:=h;cases b with
 |non=>
  simp[isB]at e;let{rfl,rfl}:=e;exact .inl {vb.nons,q m H _ (Aft.refl R) (by rw[DB v];exact cr)}
 |bl j=>
  cases a with
  |bl i=>
   simp[isB]at e;let{rfl,rfl}:=e;exact .inr {i,j,v.bls,vb.bls,q m H _ (Aft.refl R) (by simpa[bne] using cr)}
  |_=>simp[isB]at e
 |_=>cases a <;> simp[isB]at e
def iB(h:X.A.units+64 < cLine)(o:COp):OpR X (Zau o.op) (rS X.K (ay o)):=by
 cases o with
 |eq=>exact M1 h
 |ne=>exact M2 h
 |lt=>exact fQ Rv
 |le=>exact fQ Rx
 |gt=>exact fQ Ry
 |ge=>exact fQ Rz
 |is=>exact M8
 |t=>exact Bp
 |s=>exact M7 h
 |o=>exact Bo h
end
section
variable {X:Cx} {K:V6} {m:List Addr} {H:Hp} {S:Sto}
abbrev pG:List Key->List D->Key->Option D
 |a::ks,d::ds,k=>if a=k then aD d else pG ks ds k
 |_,_,_=>aT
def zm{k:Key}:∀ {b:List Key} {ds:List D} {c:List V},VDs K m H ds c->pG b ds k=aD d->∃v,jc (b.zip c) k=aD v/\VD K m H d v
 |[],_,_,_,e=>by simp[pG]at e
 |_::_,[],_,_,e=>by simp[pG]at e
 |a::b,d'::ds,c,h,e=>by
  rw[VDs]at h;let{y,r,rfl,p,q}:=h;rw[pG]at e;rw[Xb];split at e
  .rename_i z;cases e;exact{y,gC (p:=(a,y)) z,p}
  .rename_i z;rw[gD (p:=(a,y)) z];exact zm q e
abbrev ixD(d:D)(k:Key)(S:Sto):Option (D×Sto):=match d with
 | .ref n=>(match S[n]? with
  |some (.dic ks ds)=>(pG ks ds k).map λx=>(x,S)
  | _=>aT)
 |_=>aT
def DC{k:Key}(e:ixD a k S=aD (d,c)):∃n b ds,a = .ref n/\S[n]?=aD (.dic b ds)/\pG b ds k=aD d/\c=S:=by
 delta ixD at e;split at e
 .rename_i n;split at e
  .rename_i b ds f;cases h:pG b ds k with
   |none=>rw[h]at e;cases e
   |some x=>rw[h]at e;cases e;exact⟨n,b,ds,rfl,f,h,rfl⟩
  .cases e
 .cases e
abbrev ixS(d i:D)(S:Sto):Option (D×Sto):=match i with
 | .int k=>(match d with
  |.str z=>if z.length<=100000 then (atI z.cps.toList k).map λc=>(.str ⟨#[c]⟩,S) else aT
  | d=>(match am d S with
   |some (_,ds)=>(atI ds k).map λx=>(x,S)
   | none=>ixD d (.inl k) S))
 |.str x=>ixD d (.inr x) S
 |_=>aT
def M9{k:Int}(h:VDs K m H ds c)(e:atI ds k=aD d):∃v,atI c k=aD v/\VD K m H d v:=by
 delta atI at e ⊢;rw[<-h.length];cases b:ixN ds.length k with
 |none=>rw[b]at e;cases e
 |some j=>
  rw[b]at e;exact h.get e
def DD{k:Int}(c:SqB K tu H a b)(g:VDs K m H ds b)(e:atI ds k=aD d)(q:∀v,VD K m H d v->Q v H):rIx K (.ref a) (.int k) H Q:=by
 let{v,E,f}:=M9 g e;cases tu with
 |false=>exact .inl {a,b,k,v,rfl,rfl,c,E,q v f}
 |true=>exact .inr (.inl {a,b,k,v,rfl,rfl,.of c,E,q v f})
def U3(hu:X.A.units+64 < cLine):IxR X (rS X.K ixS):=by
 intro f j o s Y H x y v u Q I rx ry h hs;let{m,S,a,b,d,Z,R,T,vb,e,q}:=h
 let B:∀U:Key,y=kV U->ixD a U S=aD (d,Z)->wpAny (model X.prog X.w) X.A (subscriptTail f j v u) (EP X o Y Q) X.xe s:=λU hy e=>by
  let{n,ks,ds,rfl,hn,hv,rfl}:=DC e;let{p,hp,vs,hH,hl,C}:=R.ob n _ hn;let{p',J,rfl}:=T.refs;rw[hp]at J;cases J;let{w,hw,vw}:=zm C hv;cases rx;let g:wG H p y (aD w):=by rw[<-hw,hy];exact wG.k hH
  exact tail_any (t9 I g) PySem.F.slot_dict_getitem.lookup (A7 (show X.A.units+1 < cLine by lia) I g ry λw' s' I' M=>{w,H,I',M,q m H _ (Aft.refl R) vw}) hs
 cases b with
 |int k=>
  let fin:rIx X.K x (.int k) H Q->wpAny (model X.prog X.w) X.A (subscriptTail f j v u) (EP X o Y Q) X.xe s:=λh=>by
   calc CW f j o s Y H x y v u Q I rx ry ?_ hs;rw[vb.ints];exact h
  let main:∀r,am a S=aD r->(atI r.2 k).map (λx=>(x,S))=aD (d,Z)->rIx X.K x (.int k) H Q:=by
   intro r E e;cases L:atI r.2 k with
   |none=>rw[L]at e;cases e
   |some z=>
    rw[L]at e;cases e;let{p,vs,rfl,sq,C}:=fB (tu:=r.1) (ds:=r.2) R T E;exact DD sq C L λv vv=>q m H v (Aft.refl R) vv
  cases a with
  |str z=>
   simp![ixS]at e;split at e
   .rename_i hl;cases O:atI z.cps.toList k with
    |none=>rw[O]at e;cases e
    |some c=>
     rw[O]at e;cases e;exact fin (.inr (.inr {z,k,c,T.strs,rfl,by rw[ZaO];lia,O,q m H _ (Aft.refl R) cq}))
   .cases e
  |tup ds=>exact fin (main (a8,ds) rfl e)
  |ref n=>
   simp![ixS]at e;cases E:am (.ref n) S with
   |none=>rw[E]at e;exact B (.inl k) vb.ints e
   |some r=>rw[E]at e;exact fin (main r E e)
  |_=>simp[ixS,am,ixD]at e
 |str x=>exact B (.inr x) vb.strs e
 |_=>simp[ixS]at e
abbrev w9(x:XA)(y:XE):XE:=λb S=>bnd (x b S) λg f=>bnd (y b f) λi c=>match i with
 |.int k=>(atI g k).map λd=>(d,c)
 |_=>aT
def Na(h:tE K (w9 x y) U H Q):tOp (rIx K) (fP K x) (tE K y) U H Q:=by
 let{m,j,S,d,Z,E,R,e,q}:=h;let{o,g,L,e}:=ac e;let{i,u,J,e}:=ac e;calc{m,j,S,o,g,E,R,L,λO H1 a Y b B C n2 n3 I=>{O,j,g,i,u,E.mono R b.ext,b.rel,J,λM p w f vb=>?_}};cases i with
 |int k=>
  cases vb.ints;dsimp! at e;cases c:atI o k with
  |none=>rw[c]at e;cases e
  |some z=>
   rw[c]at e;cases e;exact DD (tu:=false) (show SqL K p a Y from SqL.of (f.ext.keep _ _ B C)) (I.mono b.rel f.ext) c λv T=>q M p v (b.trans f) T
 |_=>cases e
abbrev eX(ds:List D)(lo h:Option Int):List D:=(ds.drop (HT.sIx ds.length 0 lo)).take (HT.sIx ds.length ds.length h - HT.sIx ds.length 0 lo)
def xa(h:VDs K m H ds v)(lo b:Option Int):VDs K m H (eX ds lo b) (m9 v lo b):=by
 delta eX m9;rw[<-h.length];exact(h.drop _).take _
abbrev slS(lo h:Option Int)(d:D)(S:Sto):Option (D×Sto):=match d with
 |.tup b=>aD (.tup (eX b lo h),S)
 | .ref n=>(match az S n with
  |some b=>aD (.ref S.length,S++[.lst (eX b lo h)])
  | none=>aT)
 |.str x=>if x.length<=100000 then aD (.str (Txt.slice x lo h),S) else aT
 |_=>aT
abbrev rSl(K:V6):V->Option Int->Option Int->Hp->VK->Prop:=λv lo c H Q=>∃m S a d b,Rel K m S H/\VD K m H a v/\slS lo c a S=aD (d,b)/\∀M h u,Aft K m H b M h->VD K M h d u->Q u h
def xc{vs:List V}{lo b:Option Int}(h:HT.sIx vs.length 0 lo=0/\HT.sIx vs.length vs.length b=vs.length):m9 vs lo b=vs:=by
 delta m9;rw[h.1,h.2];simp
def U4:SlR X (rSl X.K):=by
 intro c s M H x v E J lo g sl Q I C hs pl pu h;calc(SlR.or Hx (SlR.or Hk M3)) c s M H x v E J lo g sl Q I C hs pl pu ?_;let{m,S,a,d,T,R,o,e,q}:=h;cases a with
 |tup O=>
  cases e;let{p,y,rfl,j,b}:=o.tups;calc .inl {p,y,rfl,.of j,λL=>?_,λ_=>mr R (xa b lo g) q};let:=xa b lo g;rw[xc L]at this;exact q m H _ (Aft.refl R) (rY j this)
 |ref n=>
  simp![slS]at e;cases u:az S n with
  |none=>rw[u]at e;cases e
  |some O=>
   rw[u]at e;cases e;let{p,y,B,j,b}:=R.seq u;let{Y,f,rfl}:=o.refs;rw[B]at f;cases f;exact .inr (.inl {p,y,rfl,j,mv R (xa b lo g) q})
 |str z=>
  simp![slS]at e;split at e
  .rename_i U;cases e;exact .inr (.inr {z,o.strs,by rw[ZaO];lia,q m H _ (Aft.refl R) cq})
  .cases e
 |_=>cases e
@[inline]abbrev XO:=Rho->Sto->Option (Option Int×Sto)
abbrev tOI(K:V6)(x:XO):TO:=λf H Q=>∃m c S o b,EnvR K m H c f/\Rel K m S H/\x c S=aD (o,b)/\∀M h,Aft K m H b M h->Q o h
abbrev xg:XO:=λ_ S=>aD (aT,S)
abbrev xh(x:XE):XO:=λb S=>bnd (x b S) λd c=>match d with
 |.int i=>aD (aD i,c)
 |_=>aT
def HF(h:tOI K xg b H Q):y6 b H Q:=by
 let{m,f,S,o,c,E,R,e,q}:=h;cases e;exact q m H (Aft.refl R)
def HG(h:tOI K (xh x) j H Q):K2 (tE K x) j H Q:=by
 let{m,u,S,o,y,E,R,e,q}:=h;let{d,g,b,e}:=ac e;calc{m,u,S,d,g,E,R,b,λM c v f p=>?_};cases d with
 |int i=>cases e;exact{i,p.ints,q M c f}
 |_=>cases e
def PO.imp(h:PO X e t)(f:∀b H Q,t' b H Q->t b H Q):PO X e t':=λp s b H Q I q=>h p s b H Q I (f b H Q q)
abbrev xSl(x:XE)(lo c:XO):XE:=λb S=>bnd (x b S) λd g=>bnd (lo b g) λl f=>bnd (c b f) λh j=>slS l h d j
def RN{x:XE}{lo j:XO}{z:L2.St}{H:Hp}{Q:VK}(h:tE K (xSl x lo j) z H Q):tSl (rSl K) (tE K x) (tOI K lo) (tOI K j) z H Q:=by
 let{m,f,S,d,B,E,R,e,q}:=h;let{a,p,O,e}:=ac e;let{l,o,J,e}:=ac e;let{u,y,e3,e}:=ac e;calc{m,f,S,a,p,E,R,O,λU H1 v b I=>{U,f,p,l,o,E.mono R b.ext,b.rel,J,λL H2 c=>{L,f,o,u,y,E.mono R (b.trans c).ext,c.rel,e3,λM H3 g=>?_}}};exact{M,y,a,d,B,g.rel,I.mono b.rel (c.trans g).ext,e,λT Z w C Y=>q T Z w (((b.trans c).trans g).trans C) Y}
abbrev nS(d:D)(S:Sto):Option (Bool×Sto):=match d with
 |.non=>aD (a9,S)
 |.bl b=>aD (b,S)
 |.int i=>aD (i != 0,S)
 |.str y=>if y.length<=100000 then aD ((y.length:Int) != 0,S) else aT
 |.tup c=>aD (!c.isEmpty,S)
 | .ref n=>(match az S n with
  |some c=>aD (!c.isEmpty,S)
  | none=>aT)
def nT(h:VDs K m H ds v):ds.isEmpty=v.isEmpty:=by
 let:=h.length;cases ds <;> cases v <;> simp at this ⊢
def Nb(R:Rel K m S H)(f:VD K m H d v)(e:nS d S=aD (b,u)):u=S/\Hd K v H b:=by
 cases d with
 |non=>cases e;cases f.nons;exact⟨rfl,rfl⟩
 |bl _=>cases e;cases f.bls;exact⟨rfl,rfl⟩
 |int _=>cases e;cases f.ints;exact⟨rfl,rfl⟩
 |str y=>
  simp![nS]at e;split at e
  .rename_i C;cases e;cases f.strs;exact{rfl,by rw[ZaO];lia,rfl}
  .cases e
 |tup q=>
  cases e;let{a,o,rfl,g,c}:=f.tups;exact{rfl,.inr (.inl {o,.of g,by rw[nT c]})}
 |ref n=>
  simp![nS]at e;cases j:az S n with
  |none=>rw[j]at e;cases e
  |some q=>
   rw[j]at e;cases e;let{p,o,z,g,c}:=R.seq j;let{B,h,rfl}:=f.refs;rw[z]at h;cases h;exact{rfl,.inl {o,g,by rw[nT c]}}
abbrev HH(x:XE):XT:=λb S=>bnd (x b S) λd c=>nS d c
def Nc(h:tT K (HH x) o H Q):(tE K x) o H λv H'=>∃k,Hd K v H' k/\Q k H':=by
 let{m,u,S,b,y,E,R,e,q}:=h;let{d,j,f,e}:=ac e;calc{m,u,S,d,j,E,R,f,λM g v c p=>?_};let{rfl,t}:=Nb c.rel p e;exact{b,t,q M g c}
abbrev xB(x:XE):XT:=λc S=>bnd (x c S) λd f=>match d with
 |.bl b=>aD (b,f)
 |_=>aT
def RO(h:tT K (xB x) o H Q):(tE K x) o H λv H'=>∃k,v = .bl k/\Q k H':=by
 let{m,u,S,b,y,E,R,e,q}:=h;let{d,j,c,e}:=ac e;calc{m,u,S,d,j,E,R,c,λM f v g p=>?_};cases d with
 |bl k=>cases e;exact{b,p.bls,q M f g}
 |_=>cases e
abbrev dR(_:Bool)(ds:List D)(S:Sto):Option (D×Sto):=aD (.int ds.length,S)
abbrev gH(_:Bool)(ds:List D)(S:Sto):Option (D×Sto):=aD (.tup ds,S)
abbrev DE:D->Bool
 |.bl _=>a8
 |_=>a9
abbrev Bq:D->Bool
 |.bl b=>b
 |_=>a9
abbrev pH(T:Bool)(ds:List D)(S:Sto):Option (D×Sto):=if T=a9/\ds.all DE=a8 then aD (.bl (ds.all Bq),S) else aT
abbrev r1(r:V->Hp->VK->Prop):List V->Hp->VK->Prop
 |[x],H,Q=>r x H Q
 |_,_,_=>False
def dB(h:r1 r xs H Q):∃x,xs=[x]/\r x H Q:=by
 match xs,h with
 |[x],h=>exact⟨x,rfl,h⟩
def Br:bc X (.builtin "len") (r1 (rSq X.K dR)):=by
 calc bc.imp rC λxs H Q h=>?_;let{_,rfl,m,S,T,f,a,v,d,g,R,rfl,b,c,e,q}:=dB h;cases e;exact{a,v,rfl,sj b,q m H _ (Aft.refl R) (by rw[c.length];exact bV)}
def Bs:bc X (.type "tuple") (r1 (rSq X.K gH)):=by
 calc bc.imp pC λxs H Q h=>?_;let{_,rfl,m,S,T,f,a,v,d,g,R,rfl,b,c,e,q}:=dB h;cases e;cases T with
 |false=>exact{a,v,rfl,.inl {b,mr R c q}}
 |true=>exact{a,v,rfl,.inr {.of b,q m H _ (Aft.refl R) (rY b c)}}
def DF:∀ {ds:List D} {v:List V},VDs K m H ds v->ds.all DE=a8->v=(ds.map Bq).map V.bl
 |[],v,h,_=>by rw[VDs]at h;rw[h];rfl
 |d::ds,v,h,f=>by
  rw[VDs]at h;let{x,r,rfl,p,q}:=h;rw[Z0,bAE]at f;cases d with
  |bl b=>rw[p.bls,DF q f.2];rfl
  |_=>simp[DE]at f
def Nd(ds:List D):(ds.map Bq).all id=ds.all Bq:=by rw[ZY];rfl
def Bt(hc:X.calm=a8):bc X (.builtin "all") (r1 (rSq X.K pH)):=by
 calc bc.imp (Bc hc) λxs H Q h=>?_;let{_,rfl,m,S,T,f,a,g,d,j,R,rfl,c,v,e,q}:=dB h;delta pH at e;split at e
 .rename_i b;cases e;let{rfl,b}:=b;calc{a,f.map Bq,rfl,?_,q m H _ (Aft.refl R) (by rw[Nd];exact cr)};rw[<-DF v b];exact c
 .cases e
abbrev rTm(K:V6)(f:Bool->List D->Option (List D)):V->Hp->VK->Prop:=λv H Q=>∃m S T g a j E,Rel K m S H/\v = .ref a/\SqB K T H a j/\VDs K m H g j/\f T g=aD E ∧
 ∀M h p c,Aft K m H S M h->h p=aD (.lst c)->p∉M->(∀b,b∈m->b≠p)->H p=aT->VDs K M h E c->Q (.ref p) h
def nU:bc X (.type "list") (r1 (rTm X.K λ_ ds=>aD ds)):=by
 calc bc.imp rD λxs H Q h=>?_;let{_,rfl,m,S,T,ds,a,v,E,R,rfl,b,c,e,q}:=dB h;cases e;exact{a,v,rfl,sj b,mB R c q}
abbrev DG:D->D->Sto->Option (D×Sto)
 |.int i,.int j,S=>aD (.int (if j > i then j else i),S)
 |_,_,_=>aT
abbrev DH:D->D->Sto->Option (D×Sto)
 |.int i,.int j,S=>aD (.int (if j < i then j else i),S)
 |_,_,_=>aT
abbrev two(f:D->D->Sto->Option (D×Sto)):List D->Sto->Option (D×Sto)
 |[a,b],S=>f a b S
 |_,_=>aT
def xj(h:VDs K m H [a,b] f):∃v w,f=[v,w]/\VD K m H a v/\VD K m H b w:=by
 rw[VDs]at h;let{v,r,rfl,p,q}:=h;rw[VDs]at q;let{w,g,rfl,c,Q}:=q;rw[VDs]at Q;subst Q;exact⟨v,w,rfl,p,c⟩
def DI(h:VDs K m H [a] b):∃v,b=[v]/\VD K m H a v:=by
 rw[VDs]at h;let{v,r,rfl,p,q}:=h;rw[VDs]at q;subst q;exact⟨v,rfl,p⟩
def uv(h:two f c S=aD r):∃a b,c=[a,b]/\f a b S=aD r:=by
 match c,h with
 |[a,b],h=>exact⟨a,b,rfl,h⟩
def xk(hc:X.calm=a8):bc X (.builtin "max") (rSA X.K (two DG)):=by
 calc bc.imp (AS hc) λxs H Q h=>?_;let{m,S,g,d,j,R,f,e,q}:=h;let{a,b,rfl,E}:=uv e;let{v,w,rfl,p,c}:=xj f;cases a <;> cases b <;> simp[DG]at E;let{rfl,rfl}:=E;exact{_,_,by rw[p.ints,c.ints],q m H _ (Aft.refl R) bV}
def xm(hc:X.calm=a8):bc X (.builtin "min") (rSA X.K (two DH)):=by
 calc bc.imp (AU hc) λxs H Q h=>?_;let{m,S,g,d,j,R,f,e,q}:=h;let{a,b,rfl,E}:=uv e;let{v,w,rfl,p,c}:=xj f;cases a <;> cases b <;> simp[DH]at E;let{rfl,rfl}:=E;exact{_,_,by rw[p.ints,c.ints],q m H _ (Aft.refl R) bV}
inductive Ty where |int |bool |tuple |list |str
abbrev Ty.nm:Ty->String
 |.int => "int" |.bool => "bool" |.tuple => "tuple" |.list => "list" |.str => "str"
abbrev tyN(d:D)(S:Sto):Option String:=match d with
 |.non=>aD "NoneType" |.bl _=>aD "bool" |.int _=>aD "int" |.str _=>aD "str" |.tup _=>aD "tuple"
 | .ref n=>(match S[n]? with
  |some (.lst _)=>aD "list"
  |some (.frz _)=>aD "list"
  |some (.dic _ _)=>aD "dict"
  | none=>aT)
abbrev gI(t:Ty)(n:String):Bool:=n == t.nm || (match t with |.int=>n == "bool" |_=>a9)
abbrev dS(t:Ty)(d:D)(S:Sto):Option (D×Sto):=(tyN d S).map λn=>(.bl (gI t n),S)
def HI(K:V6)(t:Ty):(OS K (.type "NoneType") (.type t.nm)=aD (gI t "NoneType"))/\(OS K (.type "bool") (.type t.nm)=aD (gI t "bool"))/\(OS K (.type "int") (.type t.nm)=aD (gI t "int")) ∧
  (OS K (.type "str") (.type t.nm)=aD (gI t "str"))/\(OS K (.type "tuple") (.type t.nm)=aD (gI t "tuple"))/\(OS K (.type "list") (.type t.nm)=aD (gI t "list"))/\(OS K (.type "dict") (.type t.nm)=aD (gI t "dict")):=by
 cases t <;> exact{by kernel_rfl,by kernel_rfl,by kernel_rfl,by kernel_rfl,by kernel_rfl,by kernel_rfl,by kernel_rfl}
def RP(R:Rel K m S H)(b:VD K m H d v)(e:tyN d S=aD n):TyOf K H v (.type n):=by
 cases d with
 |non=>cases e;cases b.nons;exact .non
 |bl _=>cases e;cases b.bls;exact .bl _
 |int _=>cases e;cases b.ints;exact .int _
 |str _=>cases e;cases b.strs;exact .str _
 |tup g=>cases e;let{a,j,rfl,p,_}:=b.tups;exact .tup p
 |ref k=>
  simp![tyN]at e;let{a,q,rfl}:=b.refs;cases f:S[k]? with
  |none=>rw[f]at e;cases e
  |some o=>
   rw[f]at e;let{u,c,r}:=R.ob k o f;rw[q]at c;cases c;cases o with
   |lst g=>cases e;let{j,h,_}:=r;exact .lst h
   |frz g=>cases e;let{o,j,h,_}:=r;exact .frz h
   |dic y g=>cases e;let{j,h,_}:=r;exact .dK h
def DJ(e:tyN d S=aD n):n = "NoneType"\/n = "bool"\/n = "int"\/n = "str"\/n = "tuple"\/n = "list"\/n = "dict" := by
 cases d with
 |ref k=>
  simp![tyN]at e;cases h:S[k]? with
  |none=>rw[h]at e;cases e
  |some o=>rw[h]at e;cases o <;> cases e <;> simp
 |_=>cases e <;> simp
def Nf(K:V6)(t:Ty)(h:n = "NoneType"\/n = "bool"\/n = "int"\/n = "str"\/n = "tuple"\/n = "list"\/n = "dict"):OS K (.type n) (.type t.nm)=aD (gI t n):=by
 let{a,b,c,d,e,f,g}:=HI K t;rcases h with rfl |rfl |rfl |rfl |rfl |rfl |rfl <;> assumption
abbrev RQ(K:V6)(t:Ty)(T:TE):TE:=tCB (K6 K) (dz T (dz (tC (.ty t.nm)) lX))
def HJ(h:tE K (xUn (dS t) x) p H Q):RQ K t (tE K x) p H Q:=by
 let{m,u,S,d,y,E,R,e,q}:=h;let{a,f,g,e}:=ac e;calc{m,u,S,a,f,E,R,g,λM j v c o=>?_};delta dS at e;cases b:tyN a f with
 |none=>rw[b]at e;cases e
 |some n=>
  rw[b]at e;cases e;exact{v,t.nm,_,_,rfl,RP c.rel o b,Nf K t (DJ b),q M j _ c cr}
end
end Ev
namespace Ev
open PySem PySem.Spec PyProof.Rows L2
open PySem.W (KasT kas_sort kas_asc kas_desc kas_tail3 kas_descPart kas_count kas_place kas_bin kas_rev kas_ask KatTups)
abbrev fR{b:Type}(lt:Nat->Nat->Bool):KasT b->b
 |.ret a=>a
 |.ask i j k=>fR lt (k (lt i j))
abbrev KT{c:Type}(n:Nat)(P:c->Prop):KasT c->Prop
 |.ret a=>P a
 |.ask i j k=>i < n/\j < n/\∀b,KT n P (k b)
def KT.bind{c g:Type}{n:Nat}{P:c->Prop}{R:g->Prop}{f:c->KasT g}(H:∀a,P a->KT n R (f a)):∀ {t:KasT c},KT n P t->KT n R (t.bind f)
 |.ret a,h=>H a h
 |.ask i j k,h=>{h.1,h.2.1,λb=>KT.bind H (h.2.2 b)}
def KT.run{b:Type}{n:Nat}{P:b->Prop}{lt:Nat->Nat->Bool}:∀ {t:KasT b},KT n P t->P (fR lt t)
 |.ret a,h=>h
 |.ask i j k,h=>KT.run (t:=k (lt i j)) (h.2.2 (lt i j))
def uw{b:Type}{n:Nat}{P:b->Prop}{lt:Nat->Nat->Bool}{cmp:Nat->Nat->(Bool->Shared->Prop)->Shared->Prop}{s:Shared}(hc:∀i j,i < n->j < n->∀C:Bool->Shared->Prop,C (lt i j) s->cmp i j C s){Q:b->Shared->Prop} :
  ∀ {t:KasT b},KT n P t->Q (fR lt t) s->t.kasWp cmp Q s
 |.ret a,_,q=>q
 |.ask i j k,h,q=>hc i j h.1 h.2.1 _ (uw hc (h.2.2 (lt i j)) q)
abbrev Pm(n:Nat)(p:Array Nat):Prop:=p.Perm (XB (Zm n))
def Pm.at{n i:Nat}(h:Pm n p)(c:0 < n):p.getD i 0 < n:=by
 by_cases H:i < p.size
 .let e:p.getD i 0=p[i]:=by simp[Array.getD,H]
  rw[e];let b:p[i]∈p:=Array.getElem_mem H;let:=h.mem_iff.mp b
  simpa using this
 .let e:p.getD i 0=0:=by simp[Array.getD,H]
  omega
def Pm.rev{n i j:Nat}(h:Pm n p):Pm n (kas_rev p i j):=(mirror_perm p i j _).trans h
def xn{n:Nat}(h:Pm n p)(H:0 < n):∀f m,KT n (λ_=>True) (kas_asc p f m)
 |0,_=>trivial
 | f+1,m=>⟨h.at H,h.at H,λb=>by
  cases b with
  |true=>exact trivial
  | false=>exact xn h H f (m+1)⟩
def mE{n:Nat}(H:0 < n):∀f (p:Array Nat) m q,Pm n p->KT n (λr:Array Nat×Nat×Nat=>Pm n r.1) (kas_desc f p m q)
 |0,p,m,q,h=>h
 | f+1,p,m,q,h=>⟨h.at H,h.at H,λb=>by
  cases b with
  |true=>
   show KT n _ (if q > 0 then kas_desc f (kas_rev p (m - (q+1)) m) (m+1) 0 else kas_desc f p (m+1) 0);split
   .exact mE H f _ _ _ h.rev
   .exact mE H f _ _ _ h
  | false=>exact⟨h.at H,h.at H,λd=>by
   cases d with
   |true=>exact h
   | false=>exact mE H f _ _ _ h⟩⟩
def ux{n:Nat}{p:Array Nat}(H:0 < n)(h:Pm n p)(m r:Nat):KT n (λr:Nat×Array Nat=>Pm n r.2) (kas_tail3 m r p):=KT.bind (P:=λ_=>True) (f:=λm=>KasT.ret (m,kas_rev p 0 _)) (λ_ _=>(show KT n (λr:Nat×Array Nat=>Pm n r.2) (KasT.ret (_,kas_rev p 0 _)) from h.rev)) (xn h.rev H _ _)
def lu{n:Nat}{p:Array Nat}(H:0 < n)(h:Pm n p)(m r:Nat):KT n (λr:Nat×Array Nat=>Pm n r.2) (kas_descPart m r p):=KT.bind (λa b=>by
 show KT n _ (if a.2.2 > 0 then _ else _);split
 .exact ux H (Pm.rev b) _ _
 .exact ux H b _ _) (mE H _ _ _ _ h)
def DK{n:Nat}{p:Array Nat}(H:0 < n)(h:Pm n p)(r:Nat):KT n (λr:Nat×Array Nat=>Pm n r.2) (kas_count r p):=KT.bind (λa _=>by
 show KT n _ (if (a == r)=a8 then _ else if a > 1 then _ else _);split
 .exact h
 .split
  .exact⟨h.at H,h.at H,λb=>by
    cases b with
    |true=>exact h
    | false=>exact lu H h.rev _ _⟩
  .exact lu H h _ _) (xn h H _ _)
def nV{n:Nat}{p:Array Nat}(H:0 < n)(h:Pm n p)(m:Nat):∀f l r,KT n (λ_=>True) (kas_place p m f l r)
 |0,_,_=>trivial
 |f+1,l,r=>by
  show KT n _ (if l ≥ r then _ else _);split
  .exact trivial
  .exact⟨h.at H,h.at H,λb=>by
    cases b with
    |true=>exact nV H h m f _ _
    | false=>exact nV H h m f _ _⟩
def DM{n:Nat}(H:0 < n):∀f (p:Array Nat) m,Pm n p->KT n (Pm n) (kas_bin f p m)
 |0,p,_,h=>h
 |f+1,p,m,h=>KT.bind (λl _=>DM H f _ _ ((bubble_perm p m _).trans h)) (nV H h m _ _ _)
def sr{n:Nat}(H:0 < n):KT n (Pm n) (kas_sort n):=KT.bind (λr h=>by
 show KT n _ (if r.1 < n then _ else _);split
 .exact DM H _ _ _ h
 .exact h) (DK H (Array.Perm.refl _) n)
section
variable {prog:Program} {w:World} {A:Around} {E:Value->Shared->Prop} {s:Shared}
def su{a:Addr}{v:List Value}{n:Nat}{P:PySem.Fin->Shared->Prop}(y:s.heap.get? a=aD (seqObj "list" v.toArray n))(L:v.length < 64)(I:SortKind)(lt:Nat->Nat->Bool)
  (X:2<=v.length->∀ (Q:SortKind->Shared->Prop),Q I {s with heap:=((s.heap.update a (Obj.mapSeq λ_=>#[])).push (seqObj "tuple" v.toArray 0)).push (seqObj "list" #[] 0)}->wpAny (model prog w) A (keyKind' v.toArray) Q E {s with heap:=((s.heap.update a (Obj.mapSeq λ_=>#[])).push (seqObj "tuple" v.toArray 0)).push (seqObj "list" #[] 0)})
  (J:∀i j,i < v.length->j < v.length->∀C:Bool->Shared->Prop,C (lt i j) {s with heap:=((s.heap.update a (Obj.mapSeq λ_=>#[])).push (seqObj "tuple" v.toArray 0)).push (seqObj "list" #[] 0)} ->
   kas_ask prog w A I v i j C {s with heap:=((s.heap.update a (Obj.mapSeq λ_=>#[])).push (seqObj "tuple" v.toArray 0)).push (seqObj "list" #[] 0)})
  (h:P (.done (.ret .none)) {s with heap:=sortedHeap s.heap a v (if v.length < 2 then v.toArray else XB ((fR lt (kas_sort v.length)).toList.map λi=>v.getD i Value.none))}) :
  wpAny (model prog w) A (Builtin.«list.sort» ⟨[.ref a],[]⟩) P E s:=by
 rw[list_sort_plain];let T:a < s⁻¹:=Zv y;calc Za4 (listItems_at y rfl ?_);calc Za4 (listUpdate_at y rfl ?_);obtain⟨M,f⟩:∃M,(s.heap.update a (Obj.mapSeq λ_=>#[])).get? a=aD (seqObj "list" #[] M):={_,get?_update_seq y (λ_=>#[])};calc Za4 (seqEpoch_at f rfl ?_);calc Za4 (wpAny_newTuple ?_);calc Za4 (Zbk ?_);refine Zbc ?_
 let H:(((s.heap.update a (Obj.mapSeq λ_=>#[])).push (seqObj "tuple" v.toArray 0)).push (seqObj "list" #[] 0)).get? a=aD (seqObj "list" #[] M):=by
  rw[Wc _ _ _ (by rw[size_push',Xo];exact ZI (Wd T)),Wc _ _ _ (by rw[Xo];exact ZI T)];exact f
 show wpAny (model prog w) A _ P E {s with heap:=((s.heap.update a (Obj.mapSeq λ_=>#[])).push (seqObj "tuple" v.toArray 0)).push (seqObj "list" #[] 0)};dsimp!;let B:v.toArray.size=v.length:=by simp
 by_cases o:v.toArray.size < 2
 .rw[if_pos o,if_pos o];calc Za4 (Zbn ?_);rw[StateT.run_pure];calc Za4 (Zbn ?_);dsimp!;calc Za4 (seqEpoch_at H rfl ?_);calc Za4 (listUpdate_at H rfl ?_ (hsz2:=by rw[Array.size_map];show(pairsOf v).size<=_;rw[pairsOf_size,ZaO];omega));simp![bne_self_eq_false,Ym,if_false];rw[if_pos (by rw[<-B];exact o)]at h
  let e:Array.map (λx:Keyed=>x.2) (v.toArray.zip v.toArray)=v.toArray:=by
   apply Xp.mp;rw[Array.toList_map,Array.toList_zip,List.map_snd_zip (by simp)]
  calc Zbn ?_;show P _ {s with heap:=sortedHeap s.heap a v (Array.map (λx:Keyed=>x.2) (v.toArray.zip v.toArray))};rw[e];exact h
 .let q:2<=v.length:=by omega
  rw[if_neg o,if_neg o];rw[if_neg (by omega)]at h;refine Za4 (X q _ ?_)
  refine Za4 (Zbi (PySem.W.kat_run (κ:=I) (ks:=v) (Q:=λb g=>g={s with heap:=((s.heap.update a (Obj.mapSeq λ_=>#[])).push (seqObj "tuple" v.toArray 0)).push (seqObj "list" #[] 0)}/\arrOf b=(fR lt (kas_sort v.length)).map (PySem.W.kas_item (v.toArray.zip v.toArray))/\(fR lt (kas_sort v.length)).size=v.length/\failedOf b=aT)
   (G:=λp g=>g={s with heap:=((s.heap.update a (Obj.mapSeq λ_=>#[])).push (seqObj "tuple" v.toArray 0)).push (seqObj "list" #[] 0)}/\p=fR lt (kas_sort v.length)) rfl q L (λp b g U Y Z z=>{z.1,z.2▸Y,z.2▸U,Z}) (uw J (sr (by omega)) ⟨rfl,rfl⟩)) ?_ λ_ _ e=>e)
  rintro⟨⟨⟩,b⟩ g ⟨rfl,O,u,hf⟩;dsimp!;let c:=PySem.W.kat_snds rfl O;calc Za4 (seqEpoch_at H rfl ?_);rw[c];calc Za4 (listUpdate_at H rfl ?_ (hsz2:=by rw[Zj,Za,Yh,u,ZaO];omega));rw[hf];simp![bne_self_eq_false,Ym,if_false];exact Zbn h
end
section
variable {prog:Program} {w:World} {A:Around} {E:Value->Shared->Prop} {s:Shared}
def Bu(hl:s.heap.IsList l v.toArray)(y:v.length < 64)(u:SortKind)(lt:Nat->Nat->Bool)
  (I:2<=v.length->∀ (A:Around) (f:Shared),(∀b o,s.heap.get? b=aD o->f.heap.get? b=aD o)->∀ (E:Value->Shared->Prop) (Q:SortKind->Shared->Prop),Q u f->wpAny (model prog w) A (keyKind' v.toArray) Q E f)
  (H:∀ (A:Around) (f:Shared),(∀b o,s.heap.get? b=aD o->f.heap.get? b=aD o)->∀i j,i < v.length->j < v.length->∀C:Bool->Shared->Prop,C (lt i j) f->kas_ask prog w A u v i j C f)
  (h:Q (.ref (s⁻¹+1)) {s with heap:=sortedAll s.heap v (if v.length < 2 then v.toArray else XB ((fR lt (kas_sort v.length)).toList.map λi=>v.getD i Value.none))}) :
  wpAny (model prog w) A (call (.builtin "sorted") [.ref l]) Q E s:=by
 calc Calls.call_function_entry kind_sorted plain_sorted entry_sorted (args_sorted1 _) ?_;delta Builtin.«sorted»;calc Za4 (m:=checkCount "sorted" 1 1 _) (Zbn ?_);calc Za4 (collect_list hl ?_);refine Za4 (Zbk ?_)
 let p:((s.heap.push (seqObj "list" #[] 0)).update s⁻¹ (Obj.mapSeq (·++v.toArray))).objs.size=s⁻¹+1:=by
  rw[Xo,size_push']
 let g:(((s.heap.push (seqObj "list" #[] 0)).update s⁻¹ (Obj.mapSeq (·++v.toArray))).push (seqObj "list" v.toArray 0)).get? (s⁻¹+1)=aD (seqObj "list" v.toArray 0):=by
  rw[<-p];exact ZJ _ rfl
 let keep:∀b o,s.heap.get? b=aD o->(((((s.heap.push (seqObj "list" #[] 0)).update s⁻¹ (Obj.mapSeq (·++v.toArray))).push (seqObj "list" v.toArray 0)).update (s⁻¹+1) (Obj.mapSeq λ_=>#[])).push (seqObj "tuple" v.toArray 0)).get? b=aD o:=λb o q=>by
  let H:b < s⁻¹:=Zv q;calc Zk _ ?_;rw[XY _ _ _ _ (ZI (Wd H))];calc Zk _ ?_;rw[XY _ _ _ _ (ZI H)];exact Zk _ q
 show wpAny _ _ _ _ _ {s with heap:=((s.heap.push (seqObj "list" #[] 0)).update s⁻¹ (Obj.mapSeq (·++v.toArray))).push (seqObj "list" v.toArray 0)};rw[p];calc Za4 (Zbc (Za6 slot_list_sort ⟨_,g,rfl⟩ entry_list_sort (su g y u lt (λJ Q q=>I J _ _ (λb o z=>Zk _ (keep b o z)) _ Q q) (λi j B L C c=>H _ _ (λb o z=>Zk _ (keep b o z)) i j B L C c) {_,rfl,?_}) (args_list_sort _)));exact Zbn ⟨_,rfl,h⟩
abbrev xo(x y:Int×Int):Bool:=if x.1 == y.1 then (if x.2 == y.2 then a9 else decide (x.2 < y.2)) else decide (x.1 < y.1)
def DN{a b c d:Int}{n k:Nat}(p:s.heap.get? x=aD O)(q:O.data = .seq #[.int a z,.int b T] n)(j:s.heap.get? y=aD o)(g:o.data = .seq #[.int c v,.int d u] k)
  (h:C (xo (a,b) (c,d)) s):wpAny (model prog w) A (keyLt' (tuples' a8) (.ref x) (.ref y)) C E s:=by
 calc PySem.W.kat_lt p q j g ?_;show PySem.W.KatLex prog w A a8 _ C [(.int a z,.int c v),(.int b T,.int d u)] 0 s;delta xo at h;calc Za8 ?_;cases H:a == c with
 |true=>
  rw[if_pos rfl];simp![H,if_true]at h;calc Za8 ?_;cases f:b == d with
  |true=>rw[if_pos rfl];simp![f,if_true]at h;exact h
  |false=>
   rw[if_neg Ze];simp![f,Ym,if_false]at h;exact PySem.W.kat_one _ _ (lt_int h)
 |false=>
  rw[if_neg Ze];simp![H,Ym,if_false]at h;exact oneLt_int h
end
end Ev
namespace Ev
open PySem PySem.Spec PyProof.Rows L2
open PySem.W (kas_sort KatTups)
section
variable {X:Cx} {K:V6} {m:List Addr} {H:Hp} {S:Sto}
inductive PairsV(H:Hp):List V->List (Int×Int)->Prop where
 |nil:PairsV H [] []
 |cons {r:Addr} {x y:Int} {vs:List V} {ps:List (Int×Int)}:H r=aD (.tup [.int x,.int y])->PairsV H vs ps->PairsV H (.ref r::vs) ((x,y)::ps)
abbrev pJ(ps:List (Int×Int))(i j:Nat):Bool:=xo (ps.getD i (0,0)) (ps.getD j (0,0))
abbrev dU{α:Type}(ps:List (Int×Int))(d:α)(v:List α):List α:=if v.length < 2 then v else (fR (pJ ps) (kas_sort v.length)).toList.map λi=>v.getD i d
def PairsV.len{v:List V}{ps:List (Int×Int)}(h:PairsV H v ps):v.length=ps.length:=by
 induction h with
 |nil=>rfl
 |cons _ _ I=>simp[I]
abbrev K8(h:Heap)(v:Value)(q:Int×Int):Prop:=∃r o b T n,v = .ref r/\h.get? r=aD o/\o.cls = .type "tuple"/\o.data = .seq #[.int q.1 b,.int q.2 T] n
def PairsV.heap{p:List (Addr×Obj)}{s:Shared}{j:L2.St}(I:Inv X p j H s){v:List V}{ps:List (Int×Int)}(h:PairsV H v ps):∀ {its:List Value},aP v its->∀ (i:Nat),i < its.length->K8 s.heap (its.getD i Value.none) (ps.getD i (0,0)):=by
 induction h with
 |nil=>intro its r i c;cases r;simp at c
 |@cons r x y v ps hr _ ih=>
  intro its g i c;cases g with
  |@cons _ u _ us r1 r2=>
   cases i with
   |zero=>
    cases r1;let{q,z,⟨o,e,f,n,hd⟩,_}:=I.tuple (SqT.of (K:=X.K) hr);let{a,b,rfl,⟨B,rfl⟩,⟨T,rfl⟩}:=yY z;exact⟨r,o,B,T,n,rfl,e,f,hd⟩
   |succ i=>
    let:=ih r2 i (by simpa using c)
    simpa using this
def zn{h:Heap}:∀ {its:List Value} {ps:List (Int×Int)},(∀i,i < its.length->K8 h (its.getD i Value.none) (ps.getD i (0,0)))->∃fs:List Value,KatTups h its fs/\fs.length=its.length/\∀v∈fs,∃i t,v = .int i t
 |[],_,_=>{[],KatTups.nil,rfl,λv j=>by simp at j}
 |v::its,ps,hp=>by
  let{r,o,T,p,n,c,e,f,hd}:=hp 0 (by simp)
  let{fs,k,g,b}:=zn (its:=its) (ps:=ps.tail) λi b=>by
   let:=hp (i+1) (by simpa using b);cases ps with
   |nil=>simpa using this
   |cons _ _=>simpa using this
  let E:v = .ref r:=by simpa using c
  subst E
  exact⟨.int (ps.getD 0 (0,0)).1 T::fs,KatTups.cons e f hd rfl k,by simp[g],λw hw=>by
   rcases Zl.mp hw with rfl |hw
   .exact⟨_,_,rfl⟩
   .exact b w hw⟩
def HK(r:aP v its){i:Nat}(h:i < v.length):aJ (v.getD i .non) (its.getD i Value.none):=by
 let{u,e,b}:=r.get (gEG h);rw[YB,YB,gEG h,e];exact b
def qj{v:List V}{its:List Value}(r:aP v its):∀ (l:List Nat),(∀i∈l,i < v.length)->aP (l.map λi=>v.getD i .non) (l.map λi=>its.getD i Value.none)
 |[],_=>.nil
 |i::l,h=>.cons (HK r (h i Zf)) (qj r l λj b=>h j (Zh _ b))
def sv{n:Nat}{lt:Nat->Nat->Bool}(c:0 < n):(∀i∈(fR lt (kas_sort n)).toList,i < n)/\(fR lt (kas_sort n)).toList.length=n:=by
 let h:Pm n (fR lt (kas_sort n)):=(sr c).run;refine{λi b=>?_,?_}
 .let:=h.mem_iff.mp (XQ.mp b)
  simpa using this
 .let:=h.size_eq;rw[Yh,this];simp
def xq{b:Type}{ps:List (Int×Int)}{d:b}{v:List b}:(dU ps d v).length=v.length:=by
 delta dU;split
 .rfl
 .rw[Za,(sv (by lia)).2]
def xr:bc X (.builtin "sorted") (λxs H Q=>∃a y ps,xs=[.ref a]/\SqL X.K H a y/\PairsV H y ps/\y.length < 64/\∀p,H p=aT->Q (.ref p) (upd H p (.lst (dU ps .non y)))):=by
 intro O s σ H xs us Q I r h;let{a,y,ps,rfl,sq,Y,h64,q}:=h;let{u,rfl,ru}:=dr r;cases ru;let{c,B,pl,hz}:=I.list sq;let f:=B.length;let M:=Y.heap I B;let hl2:=Y.len;refine Bu pl.isList (by lia) (tuples' a8) (pJ ps) (λh2 A L kp E Q' hq=>?_) (λA L kp i j g hj C hC=>?_) ?_
 .let{fs,kt,hf,g}:=zn (h:=L.heap) λi g=>by
   let{r,o,U,Z,n,e1,e2,e3,e4}:=M i g;exact{r,o,U,Z,n,e1,kp _ _ e2,e3,e4}
  calc PySem.W.kat_kind (T:=.type "int") kt (by lia) (λv J=>?_) (by decide) hq;let{i,t,rfl}:=g v J;exact PySem.W.Looks.of_pure rfl
 .let{r1,o1,U,Z,n1,a1,a2,a3,a4}:=M i g;let{r2,o2,t3,t4,n2,b1,b2,b3,b4}:=M j hj;show wpAny _ A (keyLt' (tuples' a8) (c.getD i Value.none) (c.getD j Value.none)) C _ L;rw[a1,b1];exact DN (kp _ _ a2) a4 (kp _ _ b2) b4 hC
 .let J:aP (dU ps .non y) (if c.length < 2 then c else (fR (pJ ps) (kas_sort c.length)).toList.map λi=>c.getD i Value.none):=by
   delta dU;rw[f];split
   .exact B
   .exact qj B _ λi g=>by rw[f];exact(sv (by lia)).1 i g
  let eo:(if c.length < 2 then c.toArray else XB ((fR (pJ ps) (kas_sort c.length)).toList.map λi=>c.getD i Value.none))=(if c.length < 2 then c else (fR (pJ ps) (kas_sort c.length)).toList.map λi=>c.getD i Value.none).toArray:=by split <;> rfl
  rw[eo];let{e,he}:=sortedAll_at s.heap c (if c.length < 2 then c else (fR (pJ ps) (kas_sort c.length)).toList.map λi=>c.getD i Value.none).toArray;exact{.ref (s⁻¹+1),_,I.laid (t':=s.toks) (a:=s⁻¹+1) (o:=.lst (dU ps .non y)) (λb o z=>sortedAll_old z) (Yw _) {by rw[xq];exact hz,_,e,J,he},rfl,q _ (I.hok.fresh (Yw _))}
abbrev xt(x:Int):List Int->List Int
 |[]=>[x]
 |y::l=>if x<=y then x::y::l else y::xt x l
abbrev lv:List Int->List Int
 |[]=>[]
 |x::l=>xt x (lv l)
def kw(x:Int):∀l,(xt x l).Perm (x::l)
 |[]=>List.Perm.refl _
 |y::l=>by
  delta xt;split
  .exact List.Perm.refl _
  .exact((kw x l).cons y).trans (List.Perm.swap x y l)
def jg:∀l,(lv l).Perm l
 |[]=>List.Perm.refl _
 |x::l=>(kw x (lv l)).trans ((jg l).cons x)
def lx(x:Int):∀l:List Int,l.Pairwise (·<=·)->(xt x l).Pairwise (·<=·)
 |[],_=>by delta xt;simp
 |y::l,h=>by
  delta xt;rw[YL]at h;split
  .rename_i c;calc YL.mpr {λz hz=>?_,YL.mpr h};rcases Zl.mp hz with rfl |hz
   .exact c
   .let:=h.1 z hz;lia
  .rename_i c;calc YL.mpr {λz hz=>?_,lx x l h.2};rcases Zl.mp ((kw x l).mem_iff.mp hz) with rfl |hz
   .lia
   .exact h.1 z hz
def jH:∀l,(lv l).Pairwise (·<=·)
 |[]=>List.Pairwise.nil
 |x::l=>lx x _ (jH l)
def nW:∀ {a b:List Int},a.Perm b->a.Pairwise (·<=·)->b.Pairwise (·<=·)->a=b
 |[],b,p,_,_=>(List.Perm.nil_eq p)
 |x::a,[],p,_,_=>(List.Perm.nil_eq p.symm).symm
 |x::a,y::b,p,ha,hb=>by
  rw[YL]at ha hb
  let e:x=y:=by
   let h1:=p.mem_iff.mp (Zf (a:=x) (l:=a));let h2:=p.mem_iff.mpr (Zf (a:=y) (l:=b));rcases Zl.mp h1 with rfl |h1
   .rfl
   .rcases Zl.mp h2 with h2 |h2
    .exact h2.symm
    .let:=ha.1 y h2;let:=hb.1 x h1
     lia
  subst e;rw[nW (List.Perm.cons_inv p) ha.2 hb.2]
def jI:∀ {ns:List Int} {u:List Value},aP (ns.map V.int) u->IntsAre u ns
 |[],_,h=>by cases h;exact .nil
 |n::ns,_,h=>by
  cases h with
  |cons r1 r2=>let{t,rfl}:=r1;exact .cons n t (jI r2)
def xu:bc X (.builtin "sorted") (λxs H Q=>∃a ns,xs=[.ref a]/\SqL X.K H a (ns.map V.int)/\ns.length < 64/\∀p,H p=aT->Q (.ref p) (upd H p (.lst ((lv ns).map V.int)))):=by
 intro j s T H xs U Q I r h;let{a,ns,rfl,B,E,q}:=h;let{u,rfl,L}:=dr r;cases L;let{g,v,pl,y}:=I.list B;let c:=v.length;rw[Za]at c y;calc sorted_ints pl.isList (jI v) (by lia) λout f C J O=>?_;let e:f=lv ns:=nW (J.trans (jg ns).symm) O (jH ns);subst e;let{e,M}:=sortedAll_at s.heap g out;refine{.ref (s⁻¹+1),_,I.laid (t':=s.toks) (a:=s⁻¹+1) (o:=.lst ((lv ns).map V.int)) (λb o z=>sortedAll_old z) (Yw _) {by rw[Za,(jg ns).length_eq];exact y,out.toList,e,km C,by simpa using M},rfl,q _ (I.hok.fresh (Yw _))}
abbrev sx:D->Option (Int×Int)
 |.tup [.int a,.int b]=>aD (a,b)
 |_=>aT
abbrev gJ:List D->Option (List (Int×Int))
 |[]=>aD []
 |d::ds=>match sx d,gJ ds with
  |some p,aD ps=>aD (p::ps)
  |_,_=>aT
abbrev uy:List D->Option (List Int)
 |[]=>aD []
 |d::ds=>match d,uy ds with
  |.int i,aD ms=>aD (i::ms)
  |_,_=>aT
abbrev Bv(_:Bool)(ds:List D):Option (List D):=match gJ ds with
 |some ps=>if ds.length < 64 then aD (dU ps .non ds) else aT
 | none=>(match uy ds with
  |some ns=>if ns.length < 64 then aD ((lv ns).map D.int) else aT
  | none=>aT)
def uz:∀ {ds:List D} {ns:List Int},uy ds=aD ns->ds=ns.map D.int
 |[],_,e=>by cases e;rfl
 |d::ds,ns,e=>by
  simp![uy]at e;split at e
  .rename_i i M h;cases e;rw[uz h];rfl
  .cases e
def qk:∀ {ns:List Int} {b:List V},VDs K m H (ns.map D.int) b->b=ns.map V.int
 |[],_,h=>by rw[ZX,VDs]at h;exact h
 |n::ns,_,h=>by
  rw[Zx,VDs]at h;let{v,r,rfl,f,c}:=h;rw[f.ints,qk c];rfl
def ql:∀ (ns:List Int),VDs K m H (ns.map D.int) (ns.map V.int)
 |[]=>by rw[ZX,ZX,VDs]
 |n::ns=>by rw[Zx,Zx,VDs];exact{_,_,rfl,bV,ql ns}
def uA:∀ {ds:List D} {b:List V} {ps:List (Int×Int)},gJ ds=aD ps->VDs K m H ds b->PairsV H b ps
 |[],b,ps,e,h=>by rw[VDs]at h;subst h;cases e;exact .nil
 |d::ds,b,ps,e,h=>by
  rw[VDs]at h;let{v,r,rfl,g,o}:=h;simp![gJ]at e;cases hd:sx d with
  |none=>rw[hd]at e;cases e
  |some p=>
   cases c:gJ ds with
   |none=>rw[hd,c]at e;cases e
   |some Q=>
    rw[hd,c]at e;cases e;delta sx at hd;split at hd
    .cases hd;let{a,xs,rfl,f,q}:=g.tups;let{x,y,rfl,j,u}:=xj q;cases j.ints;cases u.ints;exact .cons f (uA c o)
    .cases hd
def zo(h:VDs K m H ds f):∀ (l:List Nat),(∀i∈l,i < ds.length)->VDs K m H (l.map λi=>ds.getD i .non) (l.map λi=>f.getD i .non)
 |[],_=>by rw[ZX,ZX,VDs]
 |i::l,hl=>by
  rw[Zx,Zx,VDs];let{v,e,b}:=h.get (gEG (hl i Zf));calc{_,_,rfl,?_,zo h l λj c=>hl j (Zh _ c)};rw[YB,YB,gEG (hl i Zf),e];exact b
def qo:bc X (.builtin "sorted") (r1 (rTm X.K λT ds=>if T=a9 then Bv T ds else aT)):=by
 calc bc.imp (bc.or xr xu) λxs H Q h=>?_;let{_,rfl,m,S,T,ds,a,o,es,R,rfl,g,v,e,q}:=dB h;cases T with
 |true=>cases e
 |false=>
  let e:Bv a9 ds=aD es:=by simpa using e
  delta Bv at e;cases f:gJ ds with
  |none=>
   rw[f]at e;dsimp! at e;cases c:uy ds with
   |none=>rw[c]at e;cases e
   |some ns=>
    rw[c]at e;dsimp! at e;split at e
    .rename_i j;cases e;let E:=uz c;subst E;let p:=qk v;subst p;exact .inr {a,ns,rfl,g,j,mB R (ql _) q}
    .cases e
  |some ps=>
   rw[f]at e;dsimp! at e;split at e
   .rename_i j;cases e;let b:=v.length;calc .inl {a,o,ps,rfl,g,uA f v,by lia,mB R ?_ q};delta dU;rw[<-b];split
    .exact v
    .exact zo v _ λi c=>(sv (by lia)).1 i c
   .cases e
end
end Ev
namespace Ev
open PySem PySem.Spec PyProof.Rows L2
section
variable {X:Cx} {K:V6} {m:List Addr} {H:Hp} {S:Sto}
abbrev xv(d:D)(S:Sto):Option (D×Sto):=match d with
 |.int i=>if i.natAbs < 10 ^ 40 then aD (.str (toString i),S) else aT
 |_=>aT
def Bw:bc X (.type "str") (r1 (rS1 X.K xv)):=by
 calc bc.imp rf λxs H Q h=>?_;let{x,rfl,m,S,a,d,f,R,v,e,q}:=dB h;delta xv at e;split at e
 .rename_i i;split at e
  .rename_i c;cases e;calc{i,by rw[v.ints],?_,q m H _ (Aft.refl R) cq};by_cases b:i.natAbs=0
   .rw[b];decide
   .exact ZB ((Wi b).mpr (ZB c (by decide:10 ^ 40<=2 ^ 133))) (by decide)
  .cases e
 .cases e
abbrev nX(d:D)(S:Sto):Option (D×Sto):=match d with
 |.str x=>if x.length<=100000 then aD (.int x.length,S) else aT
 |_=>aT
def xy:bc X (.builtin "len") (r1 (rS1 X.K nX)):=by
 calc bc.imp CP λxs H Q h=>?_;let{x,rfl,m,S,a,d,c,R,v,e,q}:=dB h;delta nX at e;split at e
 .rename_i z;split at e
  .rename_i b;cases e;exact{_,z.length,rfl,by rw[v.strs];exact{by rw[ZaO];lia,rfl},q m H _ (Aft.refl R) bV}
  .cases e
 .cases e
end
section
variable {X:Cx} {K:V6} {m:List Addr} {H:Hp} {S:Sto}
abbrev dW(d:D)(S:Sto):Bool:=match d with
 |.ref n=>(az S n).isSome
 |_=>a9
abbrev isTup:D->Bool
 |.tup _=>a8
 |_=>a9
abbrev uB(c:D->Sto->Bool)(f:D->List D->Sto->Option (D×Sto))(x:XE)(y:XA):XE:=λg S=>bnd (x g S) λd b=>if c d b=a8 then bnd (y g b) λj h=>f d j h else aT
abbrev rM(K:V6)(f:D->List D->Sto->Option (D×Sto)):V->List V->Hp->VK->Prop:=λv g H Q=>∃m S a c d b,Rel K m S H/\VD K m H a v/\VDs K m H c g/\f a c S=aD (d,b)/\∀M h u,Aft K m H b M h->VD K M h d u->Q u h
def ky(hT:∀ {m H S d v},Rel K m S H->VD K m H d v->c d S=a8->tyV K T v H)(h:tE K (uB c f x y) σ H Q):tBM K T (rM K f) (tE K x) (tAr K y) σ H Q:=by
 let{m,z,S,d,I,E,R,e,q}:=h;let{a,o,Y,e}:=ac e;split at e
 .rename_i J;let{p,j,O,e}:=ac e;calc{m,z,S,a,o,E,R,Y,λZ H1 v b B=>{hT b.rel B J,Z,z,o,p,j,E.mono R b.ext,b.rel,O,λU H2 vs g vb=>?_}};exact{U,j,a,p,d,I,g.rel,B.mono b.rel g.ext,vb,e,λM C u A3 L=>q M C u ((b.trans g).trans A3) L}
 .cases e
def xz(R:Rel K m S H)(j:VD K m H d v)(h:dW d S=a8):tyV K "list" v H:=by
 cases d with
 |ref n=>
  simp![dW]at h;let{u,hs}:=Yj.mp h;let{p,g,o,c,f}:=R.seq hs;let{q,b,rfl}:=j.refs;rw[o]at b;cases b;exact .inl ⟨rfl,g,c⟩
 |_=>cases h
def Ng(R:Rel K m S H)(f:VD K m H d v)(h:(λd (_:Sto)=>isTup d) d S=a8):tyV K "tuple" v H:=by
 cases d with
 |tup g=>
  let{a,c,rfl,b,_}:=f.tups;exact .inr (.inl {rfl,.inr ⟨c,b⟩})
 |_=>cases h
abbrev chg(n:Nat)(S:Sto)(f:List D->Option (D×List D)):Option (D×Sto):=match S[n]? with
 |some (.lst ds)=>(f ds).map λr=>(r.1,S.set n (.lst r.2))
 |_=>aT
def nY{n:Nat}(h:chg n S f=aD (d,g)):∃ds E,S[n]?=aD (.lst ds)/\f ds=aD (d,E)/\g=S.set n (.lst E):=by
 delta chg at h;cases c:S[n]? with
 |none=>rw[c]at h;cases h
 |some o=>
  rw[c]at h;cases o with
  |lst ds=>
   dsimp! at h;cases b:f ds with
   |none=>rw[b]at h;cases h
   |some r=>rw[b]at h;cases h;exact⟨ds,r.2,rfl,b,rfl⟩
  |_=>cases h
abbrev xD(d:D)(c:List D)(S:Sto):Option (D×Sto):=match d,c with
 |.ref n,[e]=>chg n S λb=>if b.length < 100000 then aD (.non,b++[e]) else aT
 |_,_=>aT
abbrev fS(d:D)(c:List D)(S:Sto):Option (D×Sto):=match d,c with
 |.ref n,[.int i]=>chg n S λb=>match ixN b.length i with
  |some k=>(b[k]?).map λx=>(x,b.eraseIdx k)
  |none=>aT
 |_,_=>aT
def sy{n:Nat}(R:Rel K m S H)(g:VD K m H (.ref n) v)(c:S[n]?=aD (.lst ds)):∃a vs,v = .ref a/\m[n]?=aD a/\H a=aD (.lst vs)/\VDs K m H ds vs:=by
 let{a,vs,b,f,q}:=R.lst c;let{j,h,e}:=g.refs;rw[b]at h;cases h;exact⟨a,vs,e,b,f,q⟩
def iC{n:Nat}(R:Rel K m S H)(h:m[n]?=aD a)(v:VDs K m H E b):Aft K m H (S.set n (.lst E)) m (upd H a (.lst b)):=let ⟨x,y⟩:=R.write h v;⟨x,y⟩
def Nh:MtR X "list.append" (rM X.K xD):=by
 intro c s J H x xs v U Q I u rs h;calc qc c s J H x xs v U Q I u rs ?_;let{m,S,a,M,d,O,R,B,L,e,q}:=h;delta xD at e;split at e
 .rename_i n z;let{Z,Y,C,f,rfl}:=nY e;split at f
  .rename_i T;cases f;let{p,j,rfl,o,E,b}:=sy R B C;let{y,rfl,g}:=DI L;refine{p,j,y,rfl,rfl,E,by rw[ZaO,<-b.length];lia,q m _ _ (iC R o (b.append (.cons g .nil))) nM}
  .cases f
 .cases e
def uC:∀ {ds:List D} {v:List V} (k:Nat),VDs K m H ds v->VDs K m H (ds.eraseIdx k) (v.eraseIdx k)
 |[],v,k,h=>by rw[VDs]at h;subst h;exact .nil
 |d::ds,v,0,h=>by
  rw[VDs]at h;let{y,r,rfl,p,q}:=h;exact q
 |d::ds,v,k+1,h=>by
  rw[VDs]at h;let{y,r,rfl,p,q}:=h;exact .cons p (uC k q)
def Bx:MtR X "list.pop" (rM X.K fS):=by
 intro f s Z H x xs v us Q I L rs h;calc CZ f s Z H x xs v us Q I L rs ?_;let{m,S,a,as,d,S',R,O,vs,e,q}:=h;delta fS at e;split at e
 .rename_i n i;let{u,es,T,c,rfl}:=nY e;cases g:ixN u.length i with
  |none=>rw[g]at c;cases c
  |some k=>
   rw[g]at c;dsimp! at c;cases j:u[k]? with
   |none=>rw[j]at c;cases c
   |some z=>
    rw[j]at c;cases c;let{p,E,rfl,J,o,b}:=sy R O T;let{y,rfl,vi}:=DI vs;cases vi.ints;let{y,C,B}:=b.get j;let A:=iC R J (uC k b);let{M,h2,h3,h4}:=rh g;let Y:=(I.lst o).choose_spec.choose_spec.2.2;let U:=b.length;rw[ZaO]at Y;exact{p,E,i,k,y,rfl,rfl,o,by lia,by lia,by rw[<-b.length];exact M,C,q m _ _ A (B.mono R A.ext)}
 .cases e
abbrev xE(d:D)(b:List D)(S:Sto):Option (D×Sto):=match d,b with
 |.tup ds,[x]=>if cT x=a8/\ds.all cT=a8 then aD (.int (ds.countP λz=>eqF z x:Nat),S) else aT
 |_,_=>aT
def HL:MtR X "tuple.count" (rM X.K xE):=by
 intro c s C H x xs v U Q I o rs h;calc Be X.K rfl c s C H x xs v U Q I o rs ?_;let{m,S,a,J,d,L,R,B,E,e,q}:=h;delta xE at e;split at e
 .rename_i M z;split at e
  .rename_i f;cases e;let{p,j,rfl,u,b}:=B.tups;let{y,rfl,g}:=DI E;exact{p,j,y,rfl,rfl,.of u,mD g f.1,jG b f.2,q m H _ (Aft.refl R) (by rw[qi g f.1 b f.2];exact bV)}
  .cases e
 .cases e
abbrev nZ:D->Bool
 |.str _=>a8
 |_=>a9
abbrev n4:List D->Option (List Str)
 |[]=>aD []
 |.str x::ds=>(n4 ds).map (x::·)
 |_=>aT
def zp{K:V6}{m:List Addr}{H:Hp}:∀ {ds:List D} {ys:List Str} {b:List V},n4 ds=aD ys->VDs K m H ds b->b=ys.map V.str
 |[],ys,b,e,h=>by
  cases e;let:=h.length;cases b with
  |nil=>rfl
  |cons _ _=>simp at this
 |.str x::ds,ys,b,e,h=>by
  simp![n4]at e;cases hs:n4 ds with
  |none=>rw[hs]at e;cases e
  |some z=>
   rw[hs]at e;cases e;rw[VDs]at h;let{v,f,rfl,c,h}:=h;rw[c.strs,zp hs h];rfl
abbrev gK(d:D)(b:List D)(S:Sto):Option (D×Sto):=match d,b with
 | .str x,[.ref n]=>(match S[n]? with
  | some (.lst ds)=>(match n4 ds with
   |some y=>if (y.map (·.length)).sum+y.length * x.length<=100000 then aD (.str (Txt.join x y),S) else aT
   | none=>aT)
  | _=>aT)
 |_,_=>aT
def DP(R:Rel K m S H)(b:VD K m H d v)(h:(λd (_:Sto)=>nZ d) d S=a8):tyV K "str" v H:=by
 cases d with
 |str x=>rw[b.strs];rfl
 |_=>cases h
def uD:∀ {ys:List Str} {u:List Value},aP (ys.map V.str) u->StrsAre u ys
 |[],u,h=>by cases h;exact .nil
 |y::ys,u,h=>by
  cases h with
  |cons a b=>let{t,rfl}:=a;exact .cons _ _ (uD b)
def DQ:MtR X "str.join" (rM X.K gK):=by
 intro g s σ H x xs v us Q I C rs h;let{m,S,a,Y,d,Z,R,J,T,e,q}:=h;delta gK at e;split at e
 .rename_i x0 n;split at e
  .rename_i ds L;split at e
   .rename_i ys o;split at e
    .rename_i hl;cases e;let ex:=J.strs;subst ex;let{t,rfl}:=C;let{y,rfl,j}:=DI T;let{p,B,rfl}:=j.refs;let{p',b,U,M,c}:=R.ob _ _ L;rw[B]at b;cases b;let E:=zp o c;subst E;let{u,rfl,O}:=dr rs;cases O;let{_,f,k,r,z}:=I.hok p _ M;refine join_list (items:=f.toArray) ⟨_,z,rfl,k,rfl⟩ (by rw[Y7];exact uD r) (by lia) λt' k=>{.str _,H,I.tok _,⟨_,rfl⟩,q m H _ (Aft.refl R) cq}
    .cases e
   .cases e
  .cases e
 .cases e
def uE{c f:Type}(x:c)(y:f):∀ {b:List c} {v:List f},b.length=v.length->(b++[x]).zip (v++[y])=b.zip v++[(x,y)]
 |[],[],_=>rfl
 |_::b,_::v,h=>by
  rw[Z3,Z3,Xb,uE x y (by simpa using h)];rfl
def ng{b:List Key}{c:List V}{k:Key}(v:V)(h:k∉b)(hl:b.length=c.length):eB (b.zip c) k v=(b++[k]).zip (c++[v]):=by
 delta eB;rw[if_neg,uE _ _ hl];intro z;let{q,f,e}:=YV.mp z;let e:q.1=k:=ω e;let g:=(YW (show(q.1,q.2)∈b.zip c from f)).1;exact h (e▸g)
abbrev fC(o i v:D)(S:Sto):Option Sto:=match o,i with
 | .ref n,.int k=>(match S[n]? with
  |some (.lst ds)=>(ixN ds.length k).map λj=>S.set n (.lst (ds.set j v))
  | _=>aT)
 | .ref n,.str k=>(match S[n]? with
  |some (.dic ks ds)=>if (ks.all λa=>decide (a≠.inr k))=a8/\ks.length < 1000 then aD (S.set n (.dic (ks++[.inr k]) (ds++[v]))) else aT
  | _=>aT)
 |_,_=>aT
abbrev DR(K:V6):G6:=λo i v H Q=>∃m S a b c f,Rel K m S H/\VD K m H a o/\VD K m H b i/\VD K m H c v/\fC a b c S=aD f/\∀M h,Aft K m H f M h->Q h
def DS(hu:X.A.units+64 < cLine):Mf X (DR X.K):=by
 intro B s σ H o i v ov iv u Q I ro ri U h;let{m,S,a,b,c,S',R,Y,vb,Z,e,q}:=h;delta fC at e;split at e
 .rename_i n k;cases y:S[n]? with
  |none=>rw[y]at e;cases e
  |some ob=>
   rw[y]at e;cases ob with
   |lst O=>
    dsimp! at e;cases M:ixN O.length k with
    |none=>rw[M]at e;cases e
    |some j=>
     rw[M]at e;cases e;let{p,ws,rfl,E,L,f}:=sy R Y y;cases vb.ints;calc CY B s σ H _ _ v ov iv u Q I ro ri U ?_;exact{p,ws,k,j,rfl,rfl,L,by rw[<-f.length];exact M,q m _ (iC R E (f.set Z))}
   |_=>cases e
 .rename_i n k;split at e
  .rename_i ks O y;split at e
   .rename_i hc;cases e;let{p,E,J,L,T,f}:=R.ob n _ y;let{p',C,rfl}:=Y.refs;rw[E]at C;cases C;cases ro;let hz:ks.length=J.length:=T.trans f.length;let y:(Sum.inr k:Key)∉ks:=λz=>ω (Zg.mp hc.1 _ z) rfl
    let g:MM H p i v (upd H p (.dK ((ks++[Sum.inr k]).zip (J++[v])))):=by
     let:=MM.k (k:=(Sum.inr k:Key)) (v:=v) L (by rw[ZaO,Wk];lia);rw[ng v y hz]at this;rw[vb.strs];exact this
    let w:=R.writeO E (.dK ((ks++[Sum.inr k]).zip (J++[v]))) (.dic (ks++[Sum.inr k]) (O++[c])) λx=>{J++[v],aF,by simp[T],VDs.mono R x (f.append (.cons Z .nil))};exact A8 (show X.A.units+1 < cLine by lia) I g ri U λs' I'=>{_,I',q m _ ⟨w.1,w.2⟩}
   .cases e
  .cases e
 .cases e
end
section
variable {X:Cx} {K:V6} {m:List Addr} {H:Hp} {S:Sto}
abbrev lA{α:Type}(xs:List α)(k:Nat)(y:α):List α:=xs.take k++y::xs.drop k
def Ni:MtM X "list.insert" (λx o H Q=>∃l xs i y,x = .ref l/\o=[.int i,y]/\H l=aD (.lst xs)/\0<=i/\i<=100000/\xs.length < sizeLine/\Q .non (upd H l (.lst (lA xs (min i.toNat xs.length) y)))):=by
 intro p s T H x o v U Q I B c h;let{l,xs,i,y,rfl,rfl,j,O,L,M,q}:=h;cases B;cases c with
 |cons E c=>
  let{u,rfl,J}:=aP.one (show aP [y] _ from c);let{t,rfl}:=E;let{z,b,n,r,C,e}:=I.lstM j
  let f:¬ (!Builtin.List.listFitsIndex i)=a8:=by
   delta Builtin.List.listFitsIndex;simp;omega
  calc Zap VF ⟨_,e,rfl⟩ F.entry_list_insert (F.args_list_insert_3 _ _ _) (PySem.AutoListH.list_insert_list_int_val_1 l b.toArray n i t u f (by rw[Zj];omega)) {e,?_};let g:xs.length=b.length:=C;refine{.non,_,I.lset (its':=lA b (min i.toNat b.length) u) j e ?_ ?_ ?_,rfl,q}
  .simp![if_neg (show ¬ i < 0 by omega),Zj];delta lA;simp[ZK];rw[Yg (by rw[Yn];omega)]
  .rw[g];exact aP.append (aP.take _ r) (.cons J (aP.drop _ r))
  .delta lA;rw[Zi,Zt,ZD,Yn];omega
abbrev xF(d:D)(c:List D)(S:Sto):Option (D×Sto):=match d,c with
 |.ref n,[.int i,e]=>if 0<=i/\i<=100000 then chg n S λb=>if b.length < 100000 then aD (.non,lA b (min i.toNat b.length) e) else aT else aT
 |_,_=>aT
def Nj(k:Nat)(h:VDs K m H ds v)(b:VD K m H x y):VDs K m H (lA ds k x) (lA v k y):=(h.take k).append (.cons b (h.drop k))
def HM:MtR X "list.insert" (rM X.K xF):=by
 intro c s J H x xs v U Q I u rs h;calc Ni c s J H x xs v U Q I u rs ?_;let{m,S,a,O,d,T,R,y,L,e,q}:=h;delta xF at e;split at e
 .rename_i n i z;split at e
  .rename_i g;let{ds,es,B,f,rfl}:=nY e;split at f
   .rename_i Z;cases f;let{p,j,rfl,o,C,b}:=sy R y B;let{y1,Y,rfl,E,M}:=xj L;cases E.ints;calc{p,j,i,Y,rfl,rfl,C,g.1,g.2,by rw[ZaO,<-b.length];omega,?_};rw[<-b.length];exact q m _ _ (iC R o (Nj _ b M)) nM
   .cases f
  .cases e
 .cases e
end
end Ev
namespace L2
open PySem PySem.Spec PyProof.Rows
abbrev Itx(x:Str):It:={λi _=>i < x.cps.size,λi H v h=>h=H/\∃c,x.cps[i]?=aD c/\v = .str ⟨#[c]⟩,λi _=>x.cps.size<=i}
def DT{P:Program}{w:World}{K:V6}{Z:Expr}(it:Addr)(x:Str)(t:Tok):Turn P w K Z (Itx x) [it] it (λi h=>h.IsStrIter it "str_ascii_iterator" x t i) where
 mem:=by simp
 obj:=λi h st b f=>by
  let e:b=it:=by simpa using f
  subst e;let{o,e,c,d}:=st;exact{o,e,λv z=>by rw[d]at z;cases z}
 keep:=λi h j st k=>by
  let{o,e,c,d}:=st;exact{o,k it (by simp) o e,c,d}
 item:=by
  intro X y M C T i p s U H E I q st J;subst y M C;let Y:x.cps[i]?=aD x.cps[i]:=Array.getElem?_eq_getElem J;let{O,L,f2,u,Q,B}:=q it (by simp);calc wpAny_pyNext_ascii_item st Y λj g sb=>?_;let I1:Inv X p U H {s with heap:=j,toks:=s.toks+1}:=I.turned (λb o f e=>(sb.2 b f).trans e) O L u Q B;let{o,e,c,d}:=id g;exact{_,rfl,yV (s:={s with heap:=j,toks:=s.toks+1}) e c d (by decide) {.str ⟨#[x.cps[i]]⟩,H,I1,⟨_,rfl⟩,⟨rfl,_,Y,rfl⟩,g,λb f=>(q b f).1}}
 done:=by
  intro X y M C T i p s U H E I q st J;subst y M C;let{O,L,f2,u,Q,B}:=q it (by simp);exact wpAny_pyNext_ascii_end (I.ok.hd T) st (XC J) λj eb=>{rfl,I.turned (t':=s.toks) (λb o f e=>eb b o f e) O L u Q B}
 self:=λ_ _ _ _ _ st h=>wpAny_pyIter_striter_ascii st h
section
variable {X:Cx} {T:Expr}
abbrev RT(b:TE):TI:=λc H R=>b c H λx h=>∃z,x = .str z/\z.cps.all (· < 128)=a8/\R (Itx z) h
def Nk{l:Expr}{g:TE}(hl:PE X l g):PI X T l (RT g):=by
 intro p s y H R I h;calc thn (hl p s y H _ I h) λv c ⟨x,u,f,r1,Q⟩=>?_;let{z,e,j,q}:=Q;subst e;let{t,rfl}:=r1;calc wpAny_pyIter_ascii j ?_;calc{c.heap.objs.size,[c.heap.objs.size],_,_,u,rfl,f.kept (t':=c.toks) λb o e=>Zk _ e,DT _ z t,{_,ZJ _ rfl,rfl,rfl},λb B=>?_,q};let e:b=c.heap.objs.size:=by simpa using B
 subst e;exact f.fpOk (Zc _) (f.hok.fresh (Zc _))
end
end L2
namespace Ev
open PySem PySem.Spec PyProof.Rows L2
@[inline]abbrev Nxt:=Nat->Sto->Option (Option D)
@[inline]abbrev XI:=Rho->Sto->Option (Nxt×Sto)
structure ExtB(B:List Addr)(m:List Addr)(H:Hp)(m':List Addr)(H':Hp):Prop where
 pre:m <+: m'
 keep:∀a o,H a=aD o->a∉m->a∉B->H' a=aD o
 new:∀a,a∈m'->a∉m->H a=aT
 nb:∀b,b∈B->b∉m'
abbrev AtB(B:List Addr)(m:List Addr)(H:Hp):Prop:=∀b,b∈B->(∃v,H b=aD (.lst v))/\b∉m
def Ext.toB(f:AtB B m H)(x:Ext m H M H'):ExtB B m H M H':=⟨x.pre,λa o h n _=>x.keep a o h n,x.new,λb c z=>by
 let{⟨v,e⟩,n}:=f b c;let:=x.new b z n;rw[e]at this;cases this⟩
def ExtB.trans(x:ExtB B m H m1 f)(y:ExtB B m1 f M H2):ExtB B m H M H2:=by
 refine{x.pre.trans y.pre,λa o h n nb=>?_,λa h n=>?_,y.nb}
 .let g:a∉m1:=λz=>by let:=x.new a z n;rw[this]at h;cases h
  exact y.keep a o (x.keep a o h n nb) g nb
 .by_cases b:a∈m1
  .exact x.new a b n
  .cases e:H a with
   |none=>rfl
   |some o=>
    by_cases c:a∈B
    .exact absurd h (y.nb a c)
    .let:=x.keep a o e n c;rw[y.new a h b]at this;cases this
def AtB.ext(c:AtB B m H)(x:Ext m H M H'):AtB B M H':=λb h=>by
 let{⟨v,e⟩,n}:=c b h;exact{{v,x.keep _ _ e n},(x.toB c).nb b h}
abbrev IOk(K:V6)(B:List Addr)(J:It)(nx:Nxt)(M:List Addr)(b:Hp):Prop:=∀ (m:List Addr) (S:Sto) (H:Hp) (i:Nat),ExtB B M b m H->Rel K m S H ->
 (nx i S=aD aT->J.stop i H)/\(∀d,nx i S=aD (aD d)->J.go i H/\∀x h,J.yld i H x h->Aft K m H S m h/\VD K m h d x)
abbrev tIt(K:V6)(B:List Addr)(x:XI):TI:=λf H R=>∃m c S nx b,EnvR K m H c f/\Rel K m S H/\AtB B m H/\x c S=aD (nx,b)/\∀M h J,Aft K m H b M h->IOk K B J nx M h->R J h
abbrev nxL(ds:List D):Nxt:=λi _=>aD ds[i]?
abbrev nxS(n:Nat):Nxt:=λi S=>(az S n).map λb=>b[i]?
abbrev nxR(lo:Int)(n:Nat):Nxt:=λi _=>aD (if i < n then aD (.int (lo+i)) else aT)
abbrev gG(i:Nat)(d:D):D:=.tup [.int i,d]
abbrev enm(ds:List D)(i:Nat):Option (Option D):=if i<=ds.length then aD (ds[i]?.map (gG i)) else aT
abbrev sB(ds:List D):Nxt:=λi _=>enm ds i
abbrev DU(n:Nat):Nxt:=λi S=>(az S n).bind λb=>enm b i
section
variable {X:Cx} {K:V6} {m B:List Addr} {H:Hp} {S:Sto}
def HN(R:Rel K M f b)(c:AtB B M b)(x:ExtB B M b m H)(h:b a=aD (.tup xs)):H a=aD (.tup xs):=x.keep _ _ h (R.notTup h) λz=>by
 let{⟨v,e⟩,_}:=c a z;rw[e]at h;cases h
def VDs.monoB(R:Rel K M f b)(c:AtB B M b)(x:ExtB B M b m H)(h:VDs K M b ds vs):VDs K m H ds vs:=VDs.mono0 x.pre (λ_ _=>HN R c x) h
def VD.monoB(R:Rel K M f b)(c:AtB B M b)(x:ExtB B M b m H)(h:VD K M b d v):VD K m H d v:=VD.mono0 x.pre (λ_ _=>HN R c x) h
def EnvR.monoB(R:Rel K M g b)(c:AtB B M b)(x:ExtB B M b m H)(h:EnvR K M b f σ):EnvR K m H f σ:=
 {h.len,λi d e=>let ⟨v,p,q⟩:=h.at_ i d e;{v,p,VD.monoB R c x q}}
def uF(h:∀m S H i o,ExtB B M H0 m H->Rel K m S H->nx i S=aD o->∃ds b,o=ds[i]?/\SqL K H a b/\VDs K m H ds b):IOk K B (Itl K a) nx M H0:=by
 intro m S H i x R;refine⟨λe=>?_,λd e=>?_⟩
 .let{ds,b,E,c,f}:=h m S H i _ x R e;exact{b,c,by rw[<-f.length];exact Ys.mp E.symm}
 .let{ds,b,E,c,f}:=h m S H i _ x R e;let{v,g,j}:=f.get E.symm;calc{⟨b,v,c,g⟩,λy u ⟨q,p⟩=>?_};subst q;let:=p b c;rw[g]at this;cases this;exact{Aft.refl R,j}
def HP(f:Rel K M z H0)(h:AtB B M H0)(j:H0 a=aD (.tup vs))(q:VDs K M H0 ds vs):IOk K B (Itt K a) (nxL ds) M H0:=by
 intro m S H i x R;let b:SqT K H a vs:=.of (HN f h x j);let c:=q.monoB f h x;refine{λe=>{vs,b,?_},λd e=>?_}
 .rw[<-c.length];exact Ys.mp (θ e)
 .let{v,g,o}:=c.get (θ e);calc{⟨vs,v,b,g⟩,λy u ⟨E,p⟩=>?_};subst E;let:=p vs b;rw[g]at this;cases this;exact{Aft.refl R,o}
def zq{lo:Int}{n:Nat}:IOk K B (Itr lo n) (nxR lo n) M H0:=by
 intro m S H i x R;delta nxR;refine⟨λe=>?_,λd e=>?_⟩
 .split at e
  .cases e
  .show n<=i;lia
 .split at e
  .rename_i b;cases e;exact{b,λy c ⟨E,h⟩=>by subst E;subst h;exact{Aft.refl R,bV}}
  .cases e
def sC(h:∀m S H i o,ExtB B M H0 m H->Rel K m S H->nx i S=aD o->∃ds b,enm ds i=aD o/\g K H a b/\VDs K m H ds b):IOk K B (Ite K a g) nx M H0:=by
 intro m S H i x R;refine⟨λe=>?_,λd e=>?_⟩
 .let{ds,b,E,c,f}:=h m S H i _ x R e;delta enm at E;split at E
  .rename_i J;calc{b,c,?_};rw[<-f.length];cases hd:ds[i]? with
   |none=>have:=Ys.mp hd;lia
   |some z=>rw[hd]at E;cases E
  .cases E
 .let{ds,b,E,c,f}:=h m S H i _ x R e;delta enm at E;split at E
  .cases hd:ds[i]? with
   |none=>rw[hd]at E;cases E
   |some z=>
    rw[hd]at E;cases E;let{v,j,C}:=f.get hd;calc{⟨b,v,c,j⟩,λy L ⟨T,hT,I,q⟩=>?_};subst I;let u:=q b v c j;subst u;let p:=Ext.beside R hT (.tup [.int i,v]);exact{{p,R.beside hT _},rY aF (.cons bV (.cons (C.mono R p) .nil))}
  .cases E
abbrev VB(d:D):Option Nxt:=match d with
 |.tup ds=>aD (nxL ds)
 |.ref n=>aD (nxS n)
 |_=>aT
abbrev xIV(x:XE):XI:=λc S=>bnd (x c S) λd b=>match d with
 |.tup ds=>aD (nxL ds,b)
 |.ref n=>if (az b n).isSome=a8 then aD (nxS n,b) else aT
 |_=>aT
abbrev xIT(x:XA):XI:=λb S=>bnd (x b S) λf c=>aD (nxL f,c)
abbrev xEV(x:XE):XI:=λc S=>bnd (x c S) λd b=>match d with
 |.tup ds=>aD (sB ds,b)
 |.ref n=>if (az b n).isSome=a8 then aD (DU n,b) else aT
 |_=>aT
abbrev xET(x:XA):XI:=λb S=>bnd (x b S) λf c=>aD (sB f,c)
abbrev lim(i:Int):Bool:=decide (-(2 ^ 62)<=i) && decide (i < 2 ^ 62)
abbrev xR1(x:XE):XI:=λb S=>bnd (x b S) λd c=>match d with
 |.int j=>if lim j=a8 then aD (nxR 0 j.toNat,c) else aT
 |_=>aT
abbrev xR2(x y:XE):XI:=λb S=>bnd (x b S) λd f=>bnd (y b f) λe c=>match d,e with
 |.int i,.int j=>if lim i=a8/\lim j=a8 then aD (nxR i (j - i).toNat,c) else aT
 |_,_=>aT
def kz{i:Int}(h:lim i=a8):-(2 ^ 62)<=i/\i < 2 ^ 62:=by simpa[lim] using h
def mF{n:Nat}(c:M[n]?=aD a)(x:M <+: m)(R:Rel K m S H)(hs:az S n=aD ds):∃vs,SqL K H a vs/\VDs K m H ds vs:=by
 let{p,vs,h,b,v}:=R.seq hs;let:=cB x c;rw[this]at h;cases h;exact⟨vs,b,v⟩
def RU(b:AtB B m H)(h:H a=aT):a∉B:=λz=>by
 let{⟨v,e⟩,_}:=b a z;rw[h]at e;cases e
def U5(h:tIt K B (xIV x) T H R):CJ K (tE K x) T H R\/Ml K (tE K x) T H R:=by
 let{m,L,S,nx,S',E,Q,hB,e,q}:=h;let{d,S1,O,e}:=ac e;cases d with
 |tup ds=>
  cases e;calc .inr {m,L,S,_,_,E,Q,O,λM p v b y=>?_};let{a,C,rfl,g,c}:=y.tups;exact{a,rfl,{C,.of g},q M p _ b (HP b.rel (hB.ext b.ext) g c)}
 |ref n=>
  dsimp! at e;split at e
  .rename_i hs;cases e;calc .inl {m,L,S,_,_,E,Q,O,λM p v b y=>?_};let{a,J,rfl}:=y.refs;let{ds,I}:=Yj.mp hs;let{C,g,c}:=mF J (Yv _) b.rel I;calc{a,rfl,⟨C,g⟩,q M p _ b (uF λm2 U H2 i o Z R2 f=>?_)};delta nxS at f;cases z:az U n with
   |none=>rw[z]at f;cases f
   |some es=>
    rw[z]at f;cases f;let{Y,u,j}:=mF J Z.pre R2 z;exact⟨es,Y,rfl,u,j⟩
  .cases e
 |_=>cases e
def U6(h:tIt K B (xIT x) L H R):CJ K (fP K x) L H R:=by
 let{m,j,S,nx,U,E,J,g,e,q}:=h;let{O,T,I,e}:=ac e;cases e;calc{m,j,S,_,_,E,J,I,λM u a v b c y Y p z=>{a,rfl,{v,.of c},q M u _ b (uF λZ Q H2 i o f R2 C=>?_)}};cases C;exact{O,v,rfl,.of (f.keep _ _ c y (RU g p)),z.monoB b.rel (g.ext b.ext) f}
def RV(h:tIt K B (xEV x) Z H R):MQ K (dz (tE K x) lX) Z H R\/RK K (dz (tE K x) lX) Z H R:=by
 let{m,Q,S,nx,S',E,Y,U,e,q}:=h;let{d,S1,T,e}:=ac e;cases d with
 |tup ds=>
  cases e;calc .inr {m,Q,S,_,_,E,Y,T,λM y v b C=>?_};let{a,p,rfl,g,f}:=C.tups;refine{a,p,rfl,.of g,q M y _ b (sC λm2 O H2 i o j R2 c=>{ds,p,c,.of (HN b.rel (U.ext b.ext) j g),f.monoB b.rel (U.ext b.ext) j})}
 |ref n=>
  dsimp! at e;split at e
  .rename_i hs;cases e;calc .inl {m,Q,S,_,_,E,Y,T,λM y v b C=>?_};let{a,L,rfl}:=C.refs;let{ds,J}:=Yj.mp hs;let{p,g,f}:=mF L (Yv _) b.rel J;calc{a,p,rfl,g,q M y _ b (sC λm2 O H2 i o j R2 c=>?_)};delta DU at c;cases I:az O n with
   |none=>rw[I]at c;cases c
   |some es=>
    rw[I]at c;let{ws,z,u}:=mF L j.pre R2 I;exact⟨es,ws,c,z,u⟩
  .cases e
 |_=>cases e
def RX(h:tIt K B (xET x) L H R):MQ K (dz (fP K x) lX) L H R:=by
 let{m,j,S,nx,U,E,J,g,e,q}:=h;let{O,T,I,e}:=ac e;cases e;exact{m,j,S,_,_,E,J,I,λM u a v b c y Y p z=>{a,v,rfl,.of c,q M u _ b (sC λZ Q H2 i o f R2 C=>{O,v,C,.of (f.keep _ _ c y (RU g p)),z.monoB b.rel (g.ext b.ext) f})}}
def RY(h:tIt K B (xR1 x) u H R):KZ (dz (tE K x) lX) u H R:=by
 let{m,z,S,nx,I,E,c,C,e,q}:=h;let{d,p,f,e}:=ac e;calc{m,z,S,d,p,E,c,f,λM g v o y=>?_};cases d with
 |int j=>
  dsimp! at e;split at e
  .rename_i b;cases e;exact{j,by rw[y.ints],(kz b).1,(kz b).2,q M g _ o zq}
  .cases e
 |_=>cases e
def RZ(h:tIt K B (xR2 x y) Q H R):K0 (dz (tE K x) (dz (tE K y) lX)) Q H R:=by
 let{m,o,S,nx,U,E,p,Z,e,q}:=h;let{d,g,J,e}:=ac e;let{c,u,I,e}:=ac e;calc{m,o,S,d,g,E,p,J,λO Y v f z=>{O,o,g,c,u,E.mono p f.ext,f.rel,I,λM T w L C=>?_}};cases d with
 |int i=>
  cases c with
  |int j=>
   dsimp! at e;split at e
   .rename_i b;cases e;exact{i,j,by rw[z.ints,C.ints],{(kz b.1).1,(kz b.1).2,(kz b.2).1,(kz b.2).2},q M T _ (f.trans L) zq}
   .cases e
  |_=>cases e
 |_=>cases e
abbrev Bz(x:Str):List D:=x.cps.toList.map λc=>.str ⟨#[c]⟩
abbrev Nl(x:XE):XI:=λb S=>bnd (x b S) λd c=>match d with
 |.str z=>if z.cps.all (· < 128)=a8 then aD (nxL (Bz z),c) else aT
 |_=>aT
def HQ{M:List Addr}{H0:Hp}{z:Str}:IOk K B (Itx z) (nxL (Bz z)) M H0:=by
 intro m S H i x R;let E:(Bz z)[i]?=z.cps[i]?.map λc=>D.str ⟨#[c]⟩:=by delta Bz;rw[Zn,YQ]
 refine{λe=>?_,λd e=>?_}
 .let e:=θ e;rw[E,Option.map_eq_none_iff]at e;exact Array.getElem?_eq_none_iff.mp e
 .let e:=θ e;rw[E]at e;let{c,b,rfl}:=Yd.mp e;calc{(YS.mp b).1,λy j ⟨f,C,h,g⟩=>?_};subst f g;rw[b]at h;cases h;exact{Aft.refl R,cq}
def Nm(h:tIt K B (Nl x) o H R):RT (tE K x) o H R:=by
 let{m,u,S,nx,I,E,c,C,e,q}:=h;let{d,y,f,e}:=ac e;cases d with
 |str z=>
  dsimp! at e;split at e
  .rename_i b;cases e;exact{m,u,S,_,_,E,c,f,λM g v j p=>{z,p.strs,b,q M g _ j HQ}}
  .cases e
 |_=>cases e
abbrev Nn(b:List Str):XI:=λ_ S=>aD (nxL (b.map D.str),S)
def Np{c:List Str}{a:Addr}(b:∀H,SqT K H a (c.map V.str))(h:tIt K B (Nn c) p H R):Ml K (tC (.ref a)) p H R:=by
 let{m,I,S,nx,C,E,j,z,e,q}:=h;cases e;calc{a,rfl,{_,b H},q m H _ (Aft.refl j) ?_};intro m S H i x R;refine{λe=>{_,b H,?_},λd e=>?_}
 .let e:=Ys.mp (θ e)
  simpa using e
 .let e:=θ e;rw[Zn]at e;let{w,o,rfl}:=Yd.mp e;let f:(c.map V.str)[i]?=aD (.str w):=by rw[Zn,o];rfl
  calc{{_,_,b H,f},λy v ⟨u,g⟩=>?_};subst u;let:=g _ (b _);rw[f]at this;cases this;exact{Aft.refl R,cq}
inductive Tg where
 |n (i:Nat) |tup (ts:List Tg)
mutual
noncomputable def aE:Tg->D->Rho->Option Rho
 |.n i,d,ρ=>if i < ρ.length then aD (ρ.set i (aD d)) else aT
 |.tup ts,.tup ds,ρ=>aQ ts ds ρ
 |_,_,_=>aT
noncomputable def aQ:List Tg->List D->Rho->Option Rho
 |[],[],ρ=>aD ρ
 |t::ts,d::ds,ρ=>match aE t d ρ with
  |some b=>aQ ts ds b
  |none=>aT
 |_,_,_=>aT
end
abbrev tTg(K:V6)(t:Tg):TG:=λx g H Q=>∃m S f d b,Rel K m S H/\EnvR K m H f g/\VD K m H d x/\aE t d f=aD b/\∀c,EnvR K m H b c->Q c H
abbrev DV(K:V6)(T:List Tg):TGs:=λxs h H Q=>∃m S g f b,Rel K m S H/\EnvR K m H g h/\VDs K m H f xs/\aQ T f g=aD b/\∀c,EnvR K m H b c->Q c H
def EnvR.set{i:Nat}(E:EnvR K m H g c)(h:VD K m H d v):EnvR K m H (g.set i (aD d)) (c.set i (aD v)):=by
 calc{by simp[E.len],λj o e=>?_};rw[YR]at e;rw[YR,<-E.len];by_cases b:i=j
 .rw[if_pos b]at e ⊢;split at e
  .rename_i f;rw[if_pos f];cases e;exact⟨v,rfl,h⟩
  .cases e
 .rw[if_neg b]at e ⊢;exact E.at_ j o e
def mG{i:Nat}(h:tTg K (.n i) x c H Q):iV i x c H Q:=by
 let{m,S,f,d,b,R,E,v,e,q}:=h;simp![aE]at e;split at e
 .cases e;exact q _ (E.set v)
 .cases e
def Nq{n:Nat}(j:n=T.length)(h:tTg K (.tup T) x o H Q):Mh K n (DV K T) x o H Q:=by
 let{m,S,f,d,b,R,E,u,e,q}:=h;cases d with
 |tup c=>
  simp![aE]at e;let{a,p,rfl,g,v}:=u.tups;refine{a,p,rfl,.of g,?_,m,S,f,c,b,R,E,v,e,q}
  let len:∀ (T:List Tg) (c:List D) (f b:Rho),aQ T c f=aD b->T.length=c.length:=by
   intro T
   induction T with
   |nil=>intro c f b e;cases c with |nil=>rfl |cons _ _=>simp[aQ]at e
   |cons t T I=>
    intro c f b e;cases c with
    |nil=>simp[aQ]at e
    |cons d c=>
     simp![aQ]at e;split at e
     .simp[I _ _ _ e]
     .cases e
  rw[j,<-v.length];exact(len _ _ _ _ e).symm
 |_=>simp[aE]at e
def HR(h:DV K [] xs c H Q):Mg xs c H Q:=by
 let{m,S,g,f,b,R,E,v,e,q}:=h;cases f with
 |nil=>simp[aQ]at e;subst e;rw[VDs]at v;exact{v,q _ E}
 |cons _ _=>simp[aQ]at e
def DW(h:DV K (t::T) xs u H Q):yT (tTg K t) (DV K T) xs u H Q:=by
 let{m,S,j,g,c,R,E,v,e,q}:=h;cases g with
 |nil=>simp[aQ]at e
 |cons d g=>
  simp![aQ]at e;rw[VDs]at v;let{y,r,rfl,p,o}:=v;cases f:aE t d j with
  |none=>rw[f]at e;cases e
  |some b=>
   rw[f]at e;exact{y,r,rfl,m,S,j,d,b,R,E,p,f,λz C=>⟨m,S,b,g,c,R,C,o,e,q⟩}
def PG.imp(h:PG X e t)(f:∀x b H Q,t' x b H Q->t x b H Q):PG X e t':=λp s b H v u Q I r q=>h p s b H v u Q I r (f v b H Q q)
def PGs.imp(h:PGs X E t)(f:∀x b H Q,t' x b H Q->t x b H Q):PGs X E t':=λp s b H v u Q I r q=>h p s b H v u Q I r (f v b H Q q)
end
end Ev
namespace Ev
open PySem PyProof.Rows
variable {prog:Program} {w:World} {A:Around} {E:Value->Shared->Prop} {s:Shared}
def xG:fillsInplaceSlot (.type "list") "add" a8=pure a9:=by rfl
def DX:seqSlot? (.type "list") (dunderI "add")=pure (aD (.builtin "list.__iadd__")):=by rfl
def DY:fillsNumberSlot (.type "list") "add" = pure a9:=by rfl
def n8{a b:Value}{Q:Value->Shared->Prop}(H:s.TypeIs a "list")(c:s.TypeIs b "list")(h:wpAny (model prog w) A (call (.builtin "list.__iadd__") [a,b]) Q E s) :
  wpAny (model prog w) A (ZaA .Add a b) Q E s:=by
 delta ZaA;calc Zbc ?_;calc Za4 (Zbw H ?_);rw[show fillsInplaceSlot (.type "list") Operator.Add.info.snd (Operator.Add == Operator.Add)=pure a9 from xG];calc Za4 (Zbn ?_);rw[if_neg Ze];calc Za4 (wpAny_binaryOp1_none H c DY ?_);dsimp!;rw[show seqSlot? (.type "list") (dunderI Operator.Add.info.snd)=pure (aD (.builtin "list.__iadd__")) from DX];exact Za4 (Zbn (Za4 (Zbt h)))
end Ev
namespace L2
open PySem PySem.Spec PyProof.Rows
variable {X:Cx}
abbrev ipL:TIp:=λx y H Q=>∃l b xs z,x = .ref l/\y = .ref b/\H l=aD (.lst xs)/\H b=aD (.lst z)/\xs.length+z.length<=sizeLine/\Q (.ref l) (upd H l (.lst (xs++z)))
def DZ:PIp X .Add ipL:=by
 intro p s Y H x y v u Q I C L h;let{l,b,xs,Z,rfl,rfl,o,M,U,q}:=h;cases C;cases L;let{z,f,n,r,T,e}:=I.lstM o;let{O,c,J,r2,B,E}:=I.lstM M;let j:f.toArray.size+c.toArray.size<=sizeLine:=by rw[Zj,Zj];omega
 let g:¬ (!f.toArray.isEmpty && Builtin.List.listTooLong (f.toArray.size+c.toArray.size))=a8:=by
  rw[t6 j,ZW];exact Ze
 refine Ev.n8 ⟨_,e,rfl⟩ ⟨_,E,rfl⟩ (Zap F.slot_list_iadd ⟨_,e,rfl⟩ F.entry_list_iadd (F.args_list_iadd_2 _ _)
  (AutoSeq1.list___iadd___list_list_0 l f.toArray n b c.toArray J g (by rw[Zj];omega) (by omega)) {e,E,?_})
 calc{.ref l,_,I.lset (its':=f++c) o e (by simp) (r.append r2) ?_,rfl,q};rw[Zi];omega
end L2
namespace L2
open PySem PySem.Spec PyProof.Rows PySem.W
variable {X:Cx} {pos sp:Pos}
abbrev K9(K:V6)(g f:TG):TG:=λv c H Q=>∃a x xs,v = .ref a/\SqL K H a (x::xs)/\xs.length<=16000/\∀p,H p=aT->g x c (upd H p (.lst xs)) λb h=>f (.ref p) b h Q
def HS{J L:Expr}{k:Nat}{g1 g2:TG}(hc:X.calm=a8)(h1:PG X J g1)(h2:PG X L g2)
  (hs:Zaf [J,.Starred L sp] X.env=[(a9,assign J X.env),(a8,assign L X.env)]):PG X (.Tuple [J,.Starred L sp] k pos) (K9 X.K g1 g2):=by
 intro p s σ H v u Q I r hw;let{a,x,xs,e1,hq,hl,hw}:=hw;subst e1;cases r;let{E,rv,pl,hz}:=I.list hq;obtain⟨items,rfl⟩:∃items:List Value,E=items:=⟨E,rfl⟩;cases rv with
 |@cons _ U _ us r0 rr=>
 let c:=pl.isList;let hh:=I.ok.hd hc;let hus:=rr.length;let Y:(U::us).toArray.size=us.length+1:=by simp
 let C:a≠s⁻¹:=by let{o,ho,_}:=c;exact ZI (Zv ho)
 let hll:a < s⁻¹:=by let{o,ho,_}:=c;exact Zv ho
 rw[assign_Tuple];calc Za4 (Zbu ?_);delta unpack;rw[hs];calc Za4 (Zbc ?_);show wpAny _ _ (Za0 (.ref a) 2 (aD 1)) _ _ _;delta Za0;calc Za4 ?_;delta notIterableAtAll;calc Za4 (wpAny_specialOf c.typeIs slot_list_iter.lookup ?_);calc Zbn ?_;simp![Ym,if_false];calc Za4 (Zbc (Zbp c ?_));calc Za4 (Zbc (kun_draw C 1 0 _ _ {_,ZJ _ rfl,rfl,rfl} (c.push _) (by omega) λB h q=>?_));let f:B.IsList a (U::us).toArray:=(c.push _).extBut q.extBut C;rw[WE]at h;let y:=h;let{oi,hoi,_}:=y;let z:=f;let{ol,M,_}:=z;rw[YI];rw[if_neg (show ¬ (((U::us).toArray.toList.take 1).length < 1) by simp)];calc Za4 (Zbc (kun_collect (s:={s with heap:=B}) (T := "list_iterator") (.inr (.inr (.inl rfl))) (Walks.list (A:=X.A.in1) hh s⁻¹ a C (U::us).toArray) (λj u st=>st.1.typeIs) (k:=1) (by omega) ⟨h,f⟩ (Zv hoi) (Zv M) (λg tk hk=>?_) (by rw[Y,ZaO];omega)));let hd:(U::us).toArray.toList.drop 1=us:=by simp
 let ht:(U::us).toArray.toList.take 1=[U]:=by simp
 rw[hd,ht];show wpAny _ _ (if us.length < 0 then _ else _) _ _ _;rw[if_neg (Yc _)];show wpAny _ _ (newList (us.take us.length) >>= λd=>pure ([U]++[d]++us.drop us.length)) _ _ _;rw[Z4,List.drop_length];let he:∀b o,s.heap.get? b=aD o->g.get? b=aD o:=λb o e=>hk b o (ZI (Zv e)) (q.extBut b o (ZI (Zv e)) (Zk _ e));let I2:Inv X p σ H {s with heap:=g,toks:=tk}:=I.kept he;calc Za4 (Zbk (Zbn ?_) (by rw[ZaO];omega));let I3:=I2.lnew (its:=us) (t':=tk) rr (by rw[ZaO];omega);calc assignInOrder_cons (thn (h1 p _ σ _ _ _ _ I3 r0 (hw _ I2.fresh)) λ_ s4 ⟨Z,H4,I4,q4⟩=>?_);exact assignInOrder_cons (thn (h2 p s4 Z H4 (.ref g.objs.size) _ _ I4 rfl q4) λ_ s5 ⟨O,H5,I5,q5⟩=>assignInOrder_nil ⟨O,H5,I5,q5⟩)
end L2
namespace Ev
open PySem PySem.Spec PyProof.Rows L2
inductive Fl where
 |nx |bk |ct |rt (d:D)
@[inline]abbrev XS:=Rho->Sto->Option (Fl×Rho×Sto)
abbrev uG(K:V6)(m:List Addr)(H:Hp)(f:Fl)(c:Rho)(D:Ends):Prop:=match f with
 |.nx=>∀b,EnvR K m H c b->D.nx b H
 |.bk=>∀b,EnvR K m H c b->D.bk b H
 |.ct=>∀b,EnvR K m H c b->D.ct b H
 |.rt d=>∀v,VD K m H d v->D.rt v H
abbrev tSt(K:V6)(x:XS):TS:=λD j H=>∃m f S g b c,EnvR K m H f j/\Rel K m S H/\x f S=aD (g,b,c)/\∀M h,Aft K m H c M h->uG K M h g b D
section
variable {X:Cx} {K:V6} {m:List Addr} {H:Hp} {S:Sto}
abbrev fD(x y:XS):XS:=λb S=>match x b S with
 |none=>aT
 |some (.nx,ρ1,S1)=>y ρ1 S1
 |some r=>aD r
abbrev La:XS:=λb S=>aD (.nx,b,S)
def HU{D:Ends}{b:L2.St}{H:Hp}(h:tSt K La D b H):KU D b H:=by
 let{m,g,S,j,c,f,E,R,e,q}:=h;cases e;exact q m H (Aft.refl R) b E
def xH{x y:XS}{D:Ends}{v:L2.St}{H:Hp}(h:tSt K (fD x y) D v H):v8 (tSt K x) (tSt K y) D v H:=by
 let{m,p,S,O,g,B,E,R,e,q}:=h;delta fD at e;cases j:x p S with
 |none=>rw[j]at e;cases e
 |some r=>
  let{u,c,o}:=r;rw[j]at e;calc{m,p,S,u,c,o,E,R,j,λM f b=>?_};cases u with
  |nx=>exactλI z=>{M,c,o,O,g,B,z,b.rel,e,λC L J=>q C L (b.trans J)}
  |bk=>cases e;exact q M f b
  |ct=>cases e;exact q M f b
  |rt d=>cases e;exact q M f b
abbrev uH(x:XE):XS:=λb S=>match x b S with
 |none=>aT
 |some (_,S1)=>aD (.nx,b,S1)
abbrev D0(x:XE):XS:=λb S=>match x b S with
 |none=>aT
 |some (d,S1)=>aD (.rt d,b,S1)
abbrev R5:XS:=λb S=>aD (.ct,b,S)
def HV{x:XE}{D:Ends}{b:L2.St}{H:Hp}(h:tSt K (uH x) D b H):KY (tE K x) D b H:=by
 let{m,g,S,y,j,u,E,R,e,q}:=h;delta uH at e;cases c:x g S with
 |none=>rw[c]at e;cases e
 |some r=>
  let{d,p}:=r;rw[c]at e;cases e;exact{m,g,S,d,_,E,R,c,λM o v f _=>q M o f b (E.mono R f.ext)}
def Nr{x:XE}{D:Ends}{c:L2.St}{H:Hp}(h:tSt K (D0 x) D c H):Rm (tE K x) D c H:=by
 let{m,f,S,z,g,y,E,R,e,q}:=h;delta D0 at e;cases b:x f S with
 |none=>rw[b]at e;cases e
 |some r=>
  let{d,u}:=r;rw[b]at e;cases e;exact{m,f,S,d,_,E,R,b,λM o v j p=>q M o j v p}
def Nt{D:Ends}{b:L2.St}{H:Hp}(h:tSt K R5 D b H):KW D b H:=by
 let{m,g,S,j,c,f,E,R,e,q}:=h;cases e;exact q m H (Aft.refl R) b E
abbrev xIf(c:XT)(x y:XS):XS:=λf S=>match c f S with
 |none=>aT
 |some (b,S1)=>if b=a8 then x f S1 else y f S1
def R6{c:XT}{x y:XS}{D:Ends}{I:L2.St}{H:Hp}(h:tSt K (xIf c x y) D I H):Rn (tT K c) (tSt K x) (tSt K y) D I H:=by
 let{m,j,S,J,g,B,E,R,e,q}:=h;delta xIf at e;cases p:c j S with
 |none=>rw[p]at e;cases e
 |some r=>
  let{b,o}:=r;rw[p]at e;dsimp! at e;calc{m,j,S,b,o,E,R,p,λC L f=>?_};dsimp!;split
  .rename_i u;rw[if_pos u]at e;exact{C,j,o,J,g,B,E.mono R f.ext,f.rel,e,λM z v=>q M z (f.trans v)}
  .rename_i u;rw[if_neg u]at e;exact{C,j,o,J,g,B,E.mono R f.ext,f.rel,e,λM z v=>q M z (f.trans v)}
abbrev fT(x:XE)(t:Tg):XS:=λc S=>match x c S with
 |none=>aT
 |some (d,S1)=>(aE t d c).map λb=>(.nx,b,S1)
def sD{x:XE}{t:Tg}{D:Ends}{o:L2.St}{H:Hp}(h:tSt K (fT x t) D o H):qZ (tE K x) (tTg K t) D o H:=by
 let{m,b,S,J,z,I,E,R,e,q}:=h;delta fT at e;cases j:x b S with
 |none=>rw[j]at e;cases e
 |some r=>
  let{d,C}:=r;rw[j]at e;dsimp! at e;cases f:aE t d b with
  |none=>rw[f]at e;cases e
  |some B=>
   rw[f]at e;cases e;exact{m,b,S,d,_,E,R,j,λM u v c y=>{M,_,b,d,_,c.rel,E.mono R c.ext,y,f,λg p=>q M u c g p}}
abbrev uI(v o i:XE):XS:=λb S=>match v b S with
 |none=>aT
 |some (dv,S1)=>match o b S1 with
  |none=>aT
  |some (d_o,S2)=>match i b S2 with
   |none=>aT
   |some (di,S3)=>(fC d_o di dv S3).map λc=>(.nx,b,c)
def HW{v o i:XE}{D:Ends}{O:L2.St}{H:Hp}(h:tSt K (uI v o i) D O H):qZ (tE K v) (CG (tE K o) (tE K i) (DR K)) D O H:=by
 let{m,b,S,fl,ρ',S',E,R,e,q}:=h;delta uI at e;cases I:v b S with
 |none=>rw[I]at e;cases e
 |some r1=>
  let{z,y}:=r1;rw[I]at e;dsimp! at e;cases J:o b y with
  |none=>rw[J]at e;cases e
  |some r2=>
   let{C,u}:=r2;rw[J]at e;dsimp! at e;cases T:i b u with
   |none=>rw[T]at e;cases e
   |some r3=>
    let{j,M}:=r3;rw[T]at e;dsimp! at e;cases L:fC C j z M with
    |none=>rw[L]at e;cases e
    |some S4=>
     rw[L]at e;cases e;calc{m,b,S,z,y,E,R,I,λm1 H1 v1 c B=>{m1,b,y,C,u,E.mono R c.ext,c.rel,J,λZ H2 v2 f p=>{Z,b,u,j,M,E.mono R (c.trans f).ext,f.rel,T,λY H3 v3 g Q=>?_}}};exact{Y,M,C,j,z,_,g.rel,p.mono f.rel g.ext,Q,B.mono c.rel (f.trans g).ext,L,λm4 H4 U=>q m4 H4 (((c.trans f).trans g).trans U) O (E.mono R (((c.trans f).trans g).trans U).ext)}
abbrev n9(c:D)(o i:XE)(b:Rho)(S:Sto):Option Sto:=match o b S with
 |none=>aT
 | some r=>(match i b r.2 with
  |none=>aT
  | some u=>fC r.1 u.1 c u.2)
def BA(h:n9 g o i b S=aD S4):∃r u,o b S=aD r/\i b r.2=aD u/\fC r.1 u.1 g u.2=aD S4:=by
 delta n9 at h;cases f:o b S with
 |none=>rw[f]at h;cases h
 |some r=>
  rw[f]at h;dsimp! at h;cases c:i b r.2 with
  |none=>rw[c]at h;cases h
  |some u=>rw[c]at h;exact⟨r,u,rfl,c,h⟩
abbrev HX:D->Option (D×D)
 |.tup [a,b]=>aD (a,b)
 |_=>aT
abbrev D1(v o i q j:XE):XS:=λb S=>match v b S with
 |none=>aT
 | some r=>(match HX r.1 with
  |none=>aT
  | some d=>(match n9 d.1 o i b r.2 with
   |none=>aT
   | some c=>(n9 d.2 q j b c).map λf=>(.nx,b,f)))
def D2(E:EnvR K m H j B)(R:Rel K m S H)(L:VD K m H y v)(h:n9 y o i j S=aD p)(q:∀M z,Aft K m H p M z->Q B z):CG (tE K o) (tE K i) (DR K) v B H Q:=by
 let{r,u,J,T,Y}:=BA h;exact{m,j,S,r.1,r.2,E,R,J,λU H1 v1 b g=>{U,j,r.2,u.1,u.2,E.mono R b.ext,b.rel,T,λO H2 v2 c f=>{O,u.2,r.1,u.1,y,p,c.rel,g.mono b.rel c.ext,f,L.mono R (b.trans c).ext,Y,λI C Z=>q I C ((b.trans c).trans Z)}}}
def Nu{v o i q j:XE}{D:Ends}{J:L2.St}{H:Hp}(h:tSt K (D1 v o i q j) D J H):qZ (tE K v) (Mh K 2 (yT (CG (tE K o) (tE K i) (DR K)) (yT (CG (tE K q) (tE K j) (DR K)) Mg))) D J H:=by
 let{m,u,S,fl,ρ',S',E,R,e,z}:=h;delta D1 at e;cases C:v u S with
 |none=>rw[C]at e;cases e
 |some r=>
  rw[C]at e;dsimp! at e;cases f:HX r.1 with
  |none=>rw[f]at e;cases e
  |some d=>
   rw[f]at e;dsimp! at e;cases L:n9 d.1 o i u r.2 with
   |none=>rw[L]at e;cases e
   |some T=>
    rw[L]at e;dsimp! at e;cases I:n9 d.2 q j u T with
    |none=>rw[I]at e;cases e
    |some S3=>
     rw[I]at e;cases e
     let hd:r.1 = .tup [d.1,d.2]:=by
      delta HX at f;split at f
      .rename_i a b e;rw[e];cases f;rfl
      .cases f
     calc{m,u,S,r.1,r.2,E,R,C,λm1 H1 w c M=>?_};rw[hd]at M;let{p,vs,rfl,Y,B}:=M.tups;let{x,y,rfl,vx,Q}:=xj B;calc{p,[x,y],rfl,.of Y,rfl,x,[y],rfl,D2 (E.mono R c.ext) c.rel vx L λm2 H2 g=>{y,[],rfl,D2 (E.mono R (c.trans g).ext) g.rel (Q.mono c.rel g.ext) I λZ U O=>{rfl,?_}}};exact z Z U ((c.trans g).trans O) J (E.mono R ((c.trans g).trans O).ext)
abbrev c8(nx:Nxt)(T:Tg)(b:XS):Nat->Nat->XS
 |0,_=>λ_ _=>aT
 |k+1,i=>λf S=>match nx i S with
  |none=>aT
  |some aT=>aD (.nx,f,S)
  |some (aD d)=>match aE T d f with
   |none=>aT
   |some c=>match b c S with
    |none=>aT
    |some (.nx,ρ2,S2)=>c8 nx T b k (i+1) ρ2 S2
    |some (.ct,ρ2,S2)=>c8 nx T b k (i+1) ρ2 S2
    |some (.bk,ρ2,S2)=>aD (.nx,ρ2,S2)
    |some (.rt d,ρ2,S2)=>aD (.rt d,ρ2,S2)
abbrev D3(I:XI)(T:Tg)(b:XS)(k:Nat):XS:=λc S=>match I c S with
 |none=>aT
 |some (nx,S1)=>c8 nx T b k 0 c S1
abbrev lpW(K:V6)(nx:Nxt)(T:Tg)(b:XS)(q:List Addr)(o:Hp)(D:Ends)(i k:Nat)(p:L2.St)(H:Hp):Prop:=∃m g S j c f,EnvR K m H g p/\Rel K m S H/\Ext q o m H/\c8 nx T b k i g S=aD (j,c,f)/\∀M h,Aft K m H f M h->uG K M h j c D
def zr{nx:Nxt}{T:Tg}{b:XS}{tb:TS}{J:It}{U:List Addr}{I:Hp}{D:Ends}(hI:IOk K [] J nx U I)(hbd:∀ {m:List Addr} {j:Rho} {S:Sto} {p:Fl} {c:Rho} {g:Sto} {D:Ends} {f:L2.St} {H:Hp},Ext U I m H->EnvR K m H j f->Rel K m S H->b j S=aD (p,c,g)->(∀M h,Aft K m H g M h->uG K M h p c D)->tb D f H)(k:Nat){m:List Addr}{j:Rho}{S:Sto}{f:L2.St}{H:Hp}{p:Fl}{c:Rho}{g:Sto}(E:EnvR K m H j f)(R:Rel K m S H)(x:Ext U I m H)(e:c8 nx T b k 0 j S=aD (p,c,g))(q:∀M h,Aft K m H g M h->uG K M h p c D) :
  ∃W:Nat->Nat->L2.St->Hp->Prop,(∃m,W 0 m f H)/\∀i m f H,W i m f H ->
   (J.stop i H/\D.nx f H)\/(J.go i H/\∃N:L2.St->Hp->Prop,(∀B h,N B h->∃M,M < m/\W (i+1) M B h)/\∀x h,J.yld i H x h->tTg K T x f h λO H2=>tb {D with nx:=N,ct:=N,bk:=D.nx} O H2):=by
 calc{lpW K nx T b U I D,⟨k,m,j,S,p,c,g,E,R,x,e,q⟩,?_};intro i k f H z;let{m,j,S,p,c,g,E,R,x,e,q}:=z;cases k with
 |zero=>simp[c8]at e
 |succ k=>
  simp![c8]at e;cases hn:nx i S with
  |none=>rw[hn]at e;cases e
  |some o=>
   rw[hn]at e;let{h1,h2}:=hI m S H i (x.toB λb L=>absurd L (by simp)) R;cases o with
   |none=>cases e;exact .inl {h1 hn,q m H (Aft.refl R) f E}
   |some d=>
    let{go,hy}:=h2 d hn;dsimp! at e;cases L:aE T d j with
    |none=>rw[L]at e;cases e
    |some Y=>
     rw[L]at e;dsimp! at e;cases hx:b Y S with
     |none=>rw[hx]at e;cases e
     |some r=>
      let{f2,Q,S2}:=r;rw[hx]at e;calc .inr {go,lpW K nx T b U I D (i+1) k,λB h z=>{k,Xq k,z},λy h yl=>?_};let{A,vd}:=hy y h yl;calc{m,S,j,d,Y,A.rel,E.mono R A.ext,vd,L,λO E2=>hbd (x.trans A.ext) E2 A.rel hx λm3 H3 u=>?_};cases f2 with
      |nx=>exactλC Z=>{m3,Q,S2,p,c,g,Z,u.rel,(x.trans A.ext).trans u.ext,e,λm4 H4 A4=>q m4 H4 ((A.trans u).trans A4)}
      |ct=>exactλC Z=>{m3,Q,S2,p,c,g,Z,u.rel,(x.trans A.ext).trans u.ext,e,λm4 H4 A4=>q m4 H4 ((A.trans u).trans A4)}
      |bk=>cases e;exactλC Z=>q m3 H3 (A.trans u) C Z
      |rt d=>cases e;exactλv vd=>q m3 H3 (A.trans u) v vd
def Nv{I:XI}{T:Tg}{b:XS}{k:Nat}{D:Ends}{j:L2.St}{H:Hp}(h:tSt K (D3 I T b k) D j H):Rq (tIt K [] I) (tTg K T) (tSt K b) D j H:=by
 let{m,g,S,O,u,B,E,R,e,q}:=h;delta D3 at e;cases c:I g S with
 |none=>rw[c]at e;cases e
 |some r=>
  let{nx,o}:=r;rw[c]at e;exact{m,g,S,nx,o,E,R,λb p=>absurd p (by simp),c,λL C J f v=>zr v (λ_ E R e q=>⟨_,_,_,_,_,_,E,R,e,q⟩) k (E.mono R f.ext) f.rel (Ext.refl _ _) e λM z y=>q M z (f.trans y)}
abbrev BB(p:Nat)(c b:D)(S:Sto):Option Sto:=match uu c,S[p]? with
 |some k,aD (.dic ks ds)=>if (ks.all λa=>decide (a≠k))=a8/\ks.length < 1000 then aD (S.set p (.dic (ks++[k]) (ds++[b]))) else aT
 |_,_=>aT
abbrev uJ(p:Nat)(k v:XE):XS:=λb S=>match k b S with
 |none=>aT
 |some (dk,S1)=>match v b S1 with
  |none=>aT
  |some (dv,S2)=>(BB p dk dv S2).map λc=>(.nx,b,c)
abbrev BC(i own:Nat)(I:XI)(T:Tg)(k v:XE)(n:Nat):XS:=λb S=>match I b S with
 |none=>aT
 |some (nx,S1)=>match c8 nx T (uJ S1.length k v) n 0 (b++Zr own aT) (S1++[.dic [] []]) with
  |some (.nx,_,S2)=>aD (.nx,b.set i (aD (.ref S1.length)),S2)
  |_=>aT
abbrev D4(i:Nat)(x:XE):XS:=λc S=>match c[i]? with
 | some (aD (.ref l))=>(match x c S with
  | some (.ref b,S1)=>(match S1[l]?,S1[b]? with
   |some (.lst xs),aD (.lst zs)=>if xs.length+zs.length<=100000 then aD (.nx,c.set i (aD (.ref l)),S1.set l (.lst (xs++zs))) else aT
   | _,_=>aT)
  | _=>aT)
 |_=>aT
def Nw{i:Nat}{x:XE}{D:Ends}{z:L2.St}{H:Hp}(h:tSt K (D4 i x) D z H):Rp i (tE K x) ipL D z H:=by
 let{m,C,S,fl,O,S',E,R,e,q}:=h;delta D4 at e;split at e
 .rename_i l B;split at e
  .rename_i b Y T;split at e
   .rename_i xs zs J I;split at e
    .rename_i hz;cases e;let{v,U,L}:=E.at_ _ _ B;let{a0,f,rfl}:=L.refs;calc{_,U,m,C,S,_,_,E,R,T,λm1 H1 u c Q=>?_};let{a,vs,y,M,g}:=c.rel.lst J;let{b0,Z,j,o,wds}:=c.rel.lst I;rw[cB c.ext.pre f]at y;cases y;let{b1,p,rfl}:=Q.refs;rw[p]at j;cases j;let w:=c.rel.write (cB c.ext.pre f) (g.append wds);calc{_,_,_,_,rfl,rfl,M,o,by rw[<-g.length,<-wds.length,ZaO];lia,?_};exact q _ _ (c.trans ⟨w.1,w.2⟩) _ ((E.mono R (c.trans ⟨w.1,w.2⟩).ext).set (by rw[VD];exact{_,cB c.ext.pre f,rfl}))
    .cases e
   .cases e
  .cases e
 .cases e
abbrev D5(i j:Nat)(x:XE):XS:=λb S=>match x b S with
 | some (.ref n,S1)=>(match az S1 n with
  |some (d::ds)=>if ds.length<=16000/\i < b.length/\j < b.length then aD (.nx,(b.set i (aD d)).set j (aD (.ref S1.length)),S1++[.lst ds]) else aT
  | _=>aT)
 |_=>aT
def Nx{i j:Nat}{x:XE}{D:Ends}{I:L2.St}{H:Hp}(h:tSt K (D5 i j x) D I H):qZ (tE K x) (K9 K (iV i) (iV j)) D I H:=by
 let{m,O,S,fl,U,S',E,R,e,q}:=h;delta D5 at e;split at e
 .rename_i n L hx;split at e
  .rename_i d ds T;split at e
   .rename_i Z;cases e;calc{m,O,S,_,_,E,R,hx,λM z u b Y=>?_};let{a,J,rfl}:=Y.refs;let{a',vs,f,Q,c}:=b.rel.seq T;rw[J]at f;cases f;let hl:=c.length;rw[VDs]at c;let{v,o,rfl,vv,C}:=c;calc{a,v,o,rfl,Q,by rw[<-C.length];exact Z.1,λp g=>?_};let B:=Ext.beside b.rel g (.lst o);let y:Aft K M z (L++[.lst ds]) (M++[p]) (upd z p (.lst o)):={B.adopt g,(b.rel.beside g _).adopt (b.rel.no g) aF (C.mono b.rel B)};calc q _ _ (b.trans y) _ (((E.mono R (b.trans y).ext).set (vv.mono b.rel y.ext)).set ?_);rw[VD];exact{p,by rw[Zo (by rw[b.rel.len];exact Zc _),b.rel.len,Ye];rfl,rfl}
   .cases e
  .cases e
 .cases e
end
mutual
noncomputable def eM:Tg->Rho->Bool
 |.n i,ρ=>match ρ[i]? with
  |some aT=>a8
  |_=>a9
 |.tup ts,ρ=>gL ts ρ
noncomputable def gL:List Tg->Rho->Bool
 |[],_=>a8
 |t::ts,ρ=>eM t ρ && gL ts ρ
end
structure LeR(ρ ρ':Rho):Prop where
 len:ρ.length=ρ'.length
 at_:∀ (i:Nat) (d:D),ρ[i]?=aD (aD d)->ρ'[i]?=aD (aD d)
def LeR.refl(ρ:Rho):LeR ρ ρ:={rfl,λ_ _ h=>h}
mutual
theorem uK:∀ {t:Tg} {d:D} {g b:Rho},LeR c g->eM t c=a8->aE t d g=aD b->LeR c b
 |.n i,d,g,b,l,f,e=>by
  simp![aE]at e;split at e
  .cases e;calc{by simp[l.len],λj o h=>?_};rw[YR];by_cases H:i=j
   .subst H;simp![eM]at f;rw[h]at f;cases f
   .rw[if_neg H];exact l.at_ j o h
  .cases e
 |.tup ts,.tup ds,g,b,l,f,e=>by
  simp![aE]at e;simp![eM]at f;exact qp l f e
 |.tup ts,.non,_,_,_,_,e=>by simp[aE]at e
 |.tup ts,.bl _,_,_,_,_,e=>by simp[aE]at e
 |.tup ts,.int _,_,_,_,_,e=>by simp[aE]at e
 |.tup ts,.str _,_,_,_,_,e=>by simp[aE]at e
 |.tup ts,.ref _,_,_,_,_,e=>by simp[aE]at e
theorem qp:∀ {T:List Tg} {ds:List D} {c b:Rho},LeR g c->gL T g=a8->aQ T ds c=aD b->LeR g b
 |[],[],c,b,l,_,e=>by simp![aQ]at e;cases e;exact l
 |[],_::_,_,_,_,_,e=>by simp[aQ]at e
 |_::_,[],_,_,_,_,e=>by simp[aQ]at e
 |t::T,d::ds,c,b,l,f,e=>by
  simp![aQ]at e;simp![gL,bAE]at f;cases h:aE t d c with
  |none=>rw[h]at e;cases e
  |some j=>rw[h]at e;exact qp (uK l f.1 h) f.2 e
end
section
variable {X:Cx} {K:V6} {m:List Addr} {H:Hp} {S:Sto}
def EnvR.weaken(E:EnvR K m H b σ)(l:LeR c b):EnvR K m H c σ:={l.len.trans E.len,λi d h=>E.at_ i d (l.at_ i d h)}
abbrev bo(nx:Nxt)(T:Tg)(c:XA)(f:Rho):Nat->Nat->Sto->Option (List D×Sto)
 |0,_,_=>aT
 |k+1,i,S=>match nx i S with
  |none=>aT
  |some aT=>aD ([],S)
  |some (aD d)=>match aE T d f with
   |none=>aT
   |some b=>bnd (c b S) λE h=>bnd (bo nx T c f k (i+1) h) λrs g=>aD (E++rs,g)
abbrev D6(t:XT)(c:XA):XA:=λf S=>bnd (t f S) λb g=>if b=a8 then c f g else aD ([],g)
abbrev Lb(x:XE):XA:=λb S=>bnd (x b S) λd c=>aD ([d],c)
abbrev kA(I:XI)(T:Tg)(c:XA)(k:Nat):XA:=λb S=>if eM T b=a8 then bnd (I b S) λnx f=>bo nx T c b k 0 f else aT
abbrev og(own:Nat)(I:XI)(T:Tg)(c:XA)(k:Nat):XA:=λb S=>bnd (I b S) λnx g=>if eM T (b++Zr own aT)=a8 then
 (bnd (bo nx T c (b++Zr own aT) k 0 g) λE f=>if E.length<=100000 then aD (E,f) else aT) else aT
abbrev tCl(K:V6)(b:Addr)(c:XA):TS:=λD p H=>∃m g S E o z j,EnvR K m H g p/\Rel K m S H/\b∉m/\H b=aD (.lst j)/\VDs K m H z j/\z.length+E.length<=100000/\c g S=aD (E,o) ∧
 ∀M h f v,ExtB [b] m H M h->Rel K M o h->h b=aD (.lst v)->VDs K M h (z++E) v->EnvR K M h g f->D.nx f h
def D7(h:H c=aD (.lst v))(n:c∉m):AtB [c] m H:=λb f=>by simp at f;subst f;exact⟨⟨v,h⟩,n⟩
def ExtB.refl(n:c∉m):ExtB [c] m H m H:={Yv m,λ_ _ h _ _=>h,λ_ h n=>absurd h n,λb f=>by simp at f;subst f;exact n}
def ExtB.put(n:c∉m)(o:HO):ExtB [c] m H m (upd H c o):=⟨Yv m,λa u h _ nb=>by
 rw[aA (λz=>nb (by simp[z]))];exact h,λ_ h n=>absurd h n,λb f=>by simp at f;subst f;exact n⟩
def Rel.extB(R:Rel K m S H)(c:AtB [f] m H)(x:ExtB [f] m H m H')(k:∀b∈m,H' b=H b):Rel K m S H':=by
 calc{R.len,R.nd,λi o e=>?_};let{b,g,r}:=R.ob i o e;let h:b∈m:=Zs g;calc{b,g,?_};cases o with
 |lst j=>let{v,p,q}:=r;exact{v,(k b h).trans p,VDs.monoB R c x q}
 |frz j=>let{o,v,p,q}:=r;exact{o,v,(k b h).trans p,VDs.monoB R c x q}
 |dic u j=>let{v,p,l,q}:=r;exact{v,(k b h).trans p,l,VDs.monoB R c x q}
def HY{c:Addr}{x:XE}{D:Ends}{y:L2.St}{H:Hp}(h:tCl K c (Lb x) D y H):K4 c (tE K x) D y H:=by
 let{m,L,S,es,S',Z,u,E,R,I,B,J,O,e,q}:=h;let{d,Y,T,e}:=ac e;cases e;calc{m,L,S,d,_,E,R,T,λm1 C v g Q=>?_};let U:=D7 B I;let o:C c=aD (.lst u):=g.ext.keep _ _ B I;let xB:=g.ext.toB U;let j:c∉m1:=xB.nb c (by simp);let p:=ExtB.put (H:=C) j (.lst (u++[v]));let f:=D7 o j;let lz:=J.length;simp![ZO]at O;calc{u,o,by rw[ZaO];lia,q m1 _ y (u++[v]) (xB.trans p) (g.rel.extB f p λb M=>aA λz=>j (z▸M)) aF ?_ ((E.mono R g.ext).monoB g.rel f p)};exact VDs.append ((J.mono R g.ext).monoB g.rel f p) (.cons (Q.monoB g.rel f p) .nil)
def HZ{f:Addr}{t:XT}{c:XA}{D:Ends}{y:L2.St}{H:Hp}(h:tCl K f (D6 t c) D y H):fq (tT K t) (tCl K f c) D y H:=by
 let{m,I,S,es,Q,Z,z,E,R,L,B,M,U,e,q}:=h;let{b,C,e1,e}:=ac e;calc{m,I,S,b,C,E,R,e1,λm1 J g=>?_};let hB:=D7 B L;let j:J f=aD (.lst z):=g.ext.keep _ _ B L;let xB:=g.ext.toB hB;let u:f∉m1:=xB.nb f (by simp);dsimp!;split
 .rename_i o;rw[if_pos o]at e;exact{m1,I,C,es,Q,Z,z,E.mono R g.ext,g.rel,u,j,M.mono R g.ext,U,e,λY H2 p v T R2 h2 v2 O=>q Y H2 p v (xB.trans T) R2 h2 v2 O}
 .rename_i o;rw[if_neg o]at e;cases e;calc q m1 J y z xB g.rel j ?_ (E.mono R g.ext);rw[ZN];exact M.mono R g.ext
def uL{t:TS}{D:Ends}{b:L2.St}{H:Hp}(h:t D b H):fq wK t D b H:=by
 show if a8=a8 then t D b H else D.nx b H
 rw[if_pos rfl];exact h
def Ny{b:Addr}{c:XA}{D:Ends}{f:L2.St}{H:Hp}(h:tCl K b c D f H):fq wK (tCl K b c) D f H:=by
 exact uL h
abbrev clW(K:V6)(b:Addr)(nx:Nxt)(T:Tg)(c:XA)(g:Rho)(y:List Addr)(p:Hp)(q:Ends)(i k:Nat)(u:L2.St)(H:Hp):Prop:=∃m S o E z j,EnvR K m H g u/\Rel K m S H/\ExtB [b] y p m H/\H b=aD (.lst j)/\VDs K m H z j/\z.length+E.length<=100000/\bo nx T c g k i S=aD (E,o)/\∀M h f v,ExtB [b] m H M h->Rel K M o h->h b=aD (.lst v)->VDs K M h (z++E) v->EnvR K M h g f->q.nx f h
def zt(hI:IOk K [b] J nx m1 H1)(Q:∀D j H,tCl K b c D j H->ts D j H)(k:Nat)
  (fr:eM T f=a8) (E:EnvR K m H f j) (R:Rel K m S H) (x:ExtB [b] m1 H1 m H) (p:H b=aD (.lst vs)) (O:VDs K m H zs vs) (hl:zs.length+I.length<=100000) (e:bo nx T c f k 0 S=aD (I,Z))
  (q:∀M h g v,ExtB [b] m H M h->Rel K M Z h->h b=aD (.lst v)->VDs K M h (zs++I) v->EnvR K M h f g->U.nx g h):ua J (tTg K T) ts U j H:=by
 calc{clW K b nx T c f m1 H1 U,⟨k,m,S,Z,I,zs,vs,E,R,x,p,O,hl,e,q⟩,?_};intro i k j H z;let{m,S,Z,I,zs,vs,E,R,x,p,O,hl,e,q}:=z;let L:b∉m:=x.nb b (by simp);let hB:=D7 p L;cases k with
 |zero=>simp[bo]at e
 |succ k=>
  simp![bo]at e;cases C:nx i S with
  |none=>rw[C]at e;cases e
  |some o=>
   rw[C]at e;let{h1,h2}:=hI m S H i x R;cases o with
   |none=>
    cases e;exact .inl {h1 C,q m H j vs (ExtB.refl L) R p (by rw[ZN];exact O) E}
   |some d=>
    let{go,hy}:=h2 d C;dsimp! at e;cases B:aE T d f with
    |none=>rw[B]at e;cases e
    |some u=>
     rw[B]at e;dsimp! at e;let{e1,S1,c1,e}:=ac e;let{rs,S2,c2,e}:=ac e;cases e;rw[Zi]at hl;calc .inr {go,clW K b nx T c f m1 H1 U (i+1) k,λg h z=>{k,Xq k,z},λy h yl=>?_};let{A,vd}:=hy y h yl;let xA:=A.ext.toB hB;let ha':h b=aD (.lst vs):=A.ext.keep _ _ p L;calc{m,S,f,d,u,A.rel,E.mono R A.ext,vd,B,λσ2 E2=>Q _ _ _ {m,u,S,e1,S1,zs,vs,E2,A.rel,L,ha',O.mono R A.ext,by lia,c1,λm3 H3 σ3 Y x3 R3 h3 v3 E3=>?_}};calc{m3,S1,_,rs,zs++e1,Y,E3.weaken (uK (LeR.refl f) fr B),R3,(x.trans xA).trans x3,h3,v3,by rw[Zi];lia,c2,λm4 H4 σ4 vs4 x4 R4 h4 v4 E4=>?_};calc q m4 H4 σ4 vs4 ((xA.trans x3).trans x4) R4 h4 ?_ E4;rw[<-ZK];exact v4
def D8{b:Addr}{I:XI}{T:Tg}{t:TT}{c C:XA}{k:Nat}{D:Ends}{g:L2.St}{H:Hp}(j:∀D g H,tCl K b c D g H->fq t (tCl K b C) D g H)(h:tCl K b (kA I T c k) D g H):Dc (tIt K [b] I) (tTg K T) t (tCl K b C) D g H:=by
 let{m,M,S,es,S',zs,vs,E,R,z,u,vz,Q,e,q}:=h;delta kA at e;split at e
 .rename_i fr;let{nx,B,Z,e}:=ac e;let y:=D7 u z;calc{m,M,S,nx,B,E,R,y,Z,λm1 H1 J f Y=>?_};let xB:=f.ext.toB y;let p:b∉m1:=xB.nb b (by simp);exact zt Y j k fr (E.mono R f.ext) f.rel (ExtB.refl p) (f.ext.keep _ _ u z) (vz.mono R f.ext) Q e λU H2 o v O R2 h2 v2 L=>q U H2 o v (xB.trans O) R2 h2 v2 L
 .cases e
def EnvR.more(E:EnvR K m H b c)(n:Nat):EnvR K m H (b++Zr n aT) (c++Zr n aT):=by
 calc{by simp[E.len],λi d e=>?_};by_cases h:i < b.length
 .rw[Zz h]at e;rw[Zz (by rw[<-E.len];exact h)];exact E.at_ i d e
 .rw[Zo (by lia),Yx]at e;split at e <;> cases e
def zu{own:Nat}{k:Nat}(y:∀acc D v H,tCl K acc c D v H->fq t (tCl K acc c') D v H)(h:fP K (og own it Y c k) v H Q):RI own (tIt K [] it) (tTg K Y) (λacc=>fq t (tCl K acc c')) v H Q:=by
 let{m,ρ,S,es,S',E,R,e,q}:=h;let{nx,Z,e1,e}:=ac e;split at e
 .rename_i fr;let{es',L,e2,e}:=ac e;split at e
  .rename_i hl;cases e;calc{m,ρ,S,nx,Z,E,R,λb p=>absurd p (by simp),e1,λU T J g hI acc f=>?_};let x0:=Ext.beside g.rel f (.lst []);let R0:=g.rel.beside f (.lst []);let B:=g.rel.no f
   let I:IOk K [acc] J nx U (upd T acc (.lst [])):=by
    intro M L H2 i j R2;refine hI M L H2 i ⟨j.pre,λa o h n _=>?_,λa h n=>?_,λb p=>absurd p (by simp)⟩ R2
    .let ne:a≠acc:=aW h f;exact j.keep a o (by rw[aA ne];exact h) n (by simp[ne])
    .let:=j.new a h n;by_cases u:a=acc
     .subst u;exact f
     .rw[aA u]at this;exact this
   refine zt (zs:=[]) (vs:=[]) I (y acc) k fr ((E.mono R g.ext |>.mono g.rel x0).more own) R0 (ExtB.refl B) aF .nil (by simpa using hl) e2 λM H2 σ2 C j R2 h2 v2 E2=>?_
   let xx:Ext U T M H2:=⟨j.pre,λa o h n=>by
    let ne:a≠acc:=aW h f;exact j.keep a o (by rw[aA ne];exact h) n (by simp[ne]),λa h n=>by
    let:=j.new a h n;by_cases u:a=acc
    .subst u;exact f
    .rw[aA u]at this;exact this⟩
   let hn:H acc=aT:=by
    cases eh:H acc with
    |none=>rfl
    |some o=>
     by_cases O:acc∈m
     .exact absurd (g.ext.pre.subset O) B
     .let:=g.ext.keep acc o eh O;rw[f]at this;cases this
   exact q M H2 acc C (g.trans ⟨xx,R2⟩) h2 (j.nb acc (by simp)) (λb p z=>B (g.ext.pre.subset (z▸p))) hn (by simpa using v2)
  .cases e
 .cases e
end
section
variable {X:Cx} {K:V6} {m:List Addr} {H:Hp} {S:Sto}
abbrev D9(x y:XE):XE:=λc S=>bnd (x c S) λd b=>match d with
 |.bl a8=>y c b
 |.bl a9=>aD (.bl a9,b)
 |_=>aT
abbrev xOr(x y:XE):XE:=λc S=>bnd (x c S) λd b=>match d with
 |.bl a8=>aD (.bl a8,b)
 |.bl a9=>y c b
 |_=>aT
abbrev BD:D->Sto->Option (D×Sto)
 |.bl b,S=>aD (.bl (!b),S)
 |_,_=>aT
abbrev Nz:D->Sto->Option (D×Sto)
 |.int i,S=>aD (.int (-i),S)
 |_,_=>aT
abbrev NA(c:XT)(x y:XE):XE:=λf S=>bnd (c f S) λb g=>if b=a8 then x f g else y f g
def Ea(h:tE K (D9 x y) I H Q):KQ (tE K x) (tE K y) I H Q:=by
 let{m,g,S,d,j,E,R,e,q}:=h;let{a,f,B,e}:=ac e;calc{m,g,S,a,f,E,R,B,λM o v c p=>?_};cases a with
 |bl b=>
  calc{b,p.bls,?_};cases b with
  |true=>exact{M,g,f,d,j,E.mono R c.ext,c.rel,e,λz J w C u=>q z J w (c.trans C) u}
  |false=>cases e;exact q M o _ c cr
 |_=>cases e
def Lc(h:tE K (xOr x y) I H Q):Rk (tE K x) (tE K y) I H Q:=by
 let{m,g,S,d,j,E,R,e,q}:=h;let{a,f,B,e}:=ac e;calc{m,g,S,a,f,E,R,B,λM o v c p=>?_};cases a with
 |bl b=>
  calc{b,p.bls,?_};cases b with
  |false=>exact{M,g,f,d,j,E.mono R c.ext,c.rel,e,λz J w C u=>q z J w (c.trans C) u}
  |true=>cases e;exact q M o _ c cr
 |_=>cases e
def NB(h:tE K (xUn BD x) p H Q):KR (tE K x) p H Q:=by
 let{m,u,S,d,y,E,R,e,q}:=h;let{a,j,c,e}:=ac e;calc{m,u,S,a,j,E,R,c,λM f v g o=>?_};cases a with
 |bl b=>cases e;exact{b,o.bls,q M f _ g cr}
 |_=>cases e
def Ia:UnR X (unaryOp .USub) (rS1 X.K Nz):=by
 intro p s f H x v Q I b h;calc Mw p s f H x v Q I b ?_;let{m,S,a,d,g,R,c,e,q}:=h;cases a with
 |int i=>cases e;exact{i,c.ints,q m H _ (Aft.refl R) bV}
 |_=>cases e
def NC(h:tE K (NA c x y) I H Q):tIf (tT K c) (tE K x) (tE K y) I H Q:=by
 let{m,u,S,d,B,E,R,e,q}:=h;let{b,j,C,e}:=ac e;calc{m,u,S,b,j,E,R,C,λz J f=>?_};dsimp!;split
 .rename_i g;rw[if_pos g]at e;exact{z,u,j,d,B,E.mono R f.ext,f.rel,e,λM p w o v=>q M p w (f.trans o) v}
 .rename_i g;rw[if_neg g]at e;exact{z,u,j,d,B,E.mono R f.ext,f.rel,e,λM p w o v=>q M p w (f.trans o) v}
abbrev BE(f g:D->D->Sto->Option (D×Sto))(x y z:XE):XE:=λh S=>bnd (x h S) λa p=>bnd (y h p) λb o=>bnd (f a b o) λr j=>match r with
 |.bl a8=>bnd (z h j) λc q=>g b c q
 |.bl a9=>aD (.bl a9,j)
 |_=>aT
def Eb(h:tE K (BE f g x y z) σ H Q):wk (rS K f) (rS K g) (tE K x) (tE K y) (tE K z) σ H Q:=by
 let{m,B,S,d,U,E,R,e,q}:=h;let{a,J,e1,e}:=ac e;let{b,I,e2,e}:=ac e;let{r,O,e3,e}:=ac e;calc{m,B,S,a,J,E,R,e1,λm1 H1 v j Y=>{m1,B,J,b,I,E.mono R j.ext,j.rel,e2,λm2 H2 w o vb=>?_}};calc{m2,I,a,b,r,O,o.rel,Y.mono j.rel o.ext,vb,e3,λM T u p vr=>?_};cases r with
 |bl k=>
  calc{k,vr.bls,?_};cases k with
  |true=>
   dsimp! at e;let{c,L,e4,e}:=ac e;exact{M,B,O,c,L,E.mono R ((j.trans o).trans p).ext,p.rel,e4,λm4 H4 y C vc=>{m4,L,b,c,d,U,C.rel,vb.mono o.rel (p.trans C).ext,vc,e,λZ H5 t A5 vd=>q Z H5 t ((((j.trans o).trans p).trans C).trans A5) vd}}
  |false=>cases e;exact q M T _ ((j.trans o).trans p) cr
 |_=>cases e
abbrev Ec(x y:XT):XT:=λf S=>bnd (x f S) λb c=>if b=a8 then y f c else aD (a9,c)
abbrev ND(x y:XT):XT:=λf S=>bnd (x f S) λb c=>if b=a8 then aD (a8,c) else y f c
abbrev Ed(x:XT):XT:=λc S=>bnd (x c S) λb f=>aD (!b,f)
def Ee(h:tT K (Ec x y) z H Q):Ri (tT K x) (tT K y) z H Q:=by
 let{m,j,S,d,B,E,R,e,q}:=h;let{b,g,p,e}:=ac e;calc{m,j,S,b,g,E,R,p,λM u c=>?_};dsimp!;split
 .rename_i f;rw[if_pos f]at e;exact{M,j,g,d,B,E.mono R c.ext,c.rel,e,λo C v=>q o C (c.trans v)}
 .rename_i f;rw[if_neg f]at e;cases e;exact q M u c
def Lf(h:tT K (ND x y) z H Q):tOr (tT K x) (tT K y) z H Q:=by
 let{m,j,S,d,B,E,R,e,q}:=h;let{b,g,p,e}:=ac e;calc{m,j,S,b,g,E,R,p,λM u c=>?_};dsimp!;split
 .rename_i f;rw[if_pos f]at e;cases e;exact q M u c
 .rename_i f;rw[if_neg f]at e;exact{M,j,g,d,B,E.mono R c.ext,c.rel,e,λo C v=>q o C (c.trans v)}
def NF(h:tT K (Ed x) j H Q):Rj (tT K x) j H Q:=by
 let{m,o,S,d,u,E,R,e,q}:=h;let{b,p,c,e}:=ac e;cases e;exact{m,o,S,b,_,E,R,c,λM f g=>q M f g}
@[inline]abbrev Calls:=Nat->List D->Sto->Option (D×Sto)
abbrev spC(K:V6)(g:List D->Sto->Option (D×Sto))(n:Nat):Sp:=λf H Q _=>∃m b S d c,VDs K m H b f/\Rel K m S H/\b.length=n/\g b S=aD (d,c)/\∀M h v,Aft K m H c M h->VD K M h d v->Q v h
abbrev lB(g:List D->Sto->Option (D×Sto))(n:Nat)(x:XA):XE:=λc S=>bnd (x c S) λb f=>if b.length=n then g b f else aT
def zw{n:Nat}(h:tE K (lB g n x) I H Q):pU (spC K g n) [] E0 (tAr K x) I H Q:=by
 let{m,o,S,d,j,E,R,e,q}:=h;let{f,b,y,e}:=ac e;split at e
 .rename_i p;refine{m,o,S,f,b,E,R,y,λB L O c u=>{B,f,b,d,j,by rw[ZN];exact u,c.rel,p,e,λM J v z C=>q M J v (c.trans z) C}}
 .cases e
end
end Ev
namespace Ev
open PySem PySem.Sem
def sE{M:Model}{f:Ctx}{p:Pos}{t:Sem Fin}{fs:List Frame}{s c:Shared}{e:End}(h:Runs M f p t fs s e c):s.toks<=c.toks:=by
 induction h <;> first |exact Zc _ |assumption |exact YZ ‹_› |(rename_i a b;exact Zy a b) |(rename_i a _ b;exact Zy a b)
def Ef{M:Model}{j:Ctx}{p:Pos}{g:Nat}{r:Resume}{s f:Shared}{c:GenResult}(h:Wakes M j p g r s c f):s.toks<=f.toks:=by
 delta Wakes at h;split at h
 .exact h.elim
 .split at h
  .let{e,b,H,_,_,rfl}:=h;exact(show s.toks<=b.toks from sE (s:=s.setGen g .running) H)
  .rw[h.2];exact Zc _
  .rw[h.2];exact Zc _
 .let{e,b,H,_,_,rfl}:=h;exact(show s.toks<=b.toks from sE (s:=s.setGen g .running) H)
 .rw[h.2];exact Zc _
 .rw[h.2];exact Zc _
def R7{B:Type}{M:Model}{z:Ctx}(k:Nat)(t:Sem B):∀ {Q:B->Pos->Shared->Prop} {E:Value->Pos->Shared->Prop} {p:Pos} {s:Shared},k<=s.toks->Sem.wp M z t Q E p s ->
  Sem.wp M z t (λa p v=>k<=v.toks/\Q a p v) (λe p v=>k<=v.toks/\E e p v) p s:=by
 induction t with
 |pure a=>intro Q E p s H h;exact⟨H,h⟩
 |raise e=>intro Q E p s H h;exact⟨H,h⟩
 |load a q f I=>intro Q E p s H h;let{o,j,u}:=h;exact{o,j,I o H u}
 |update a q f g I=>intro Q E p s H h;exact{h.1,I () H h.2}
 |fresh f I=>intro Q E p s H h;exact I _ (Nat.le_succ_of_le H) h
 |choose a b f I=>intro Q E p s H h;exact{h.1,I _ H h.2}
 |call c a b l f I=>intro Q E p s H h;let{r,y,j,u}:=h;exact{r,y,j,I r (Zy H (sE j)) u}
 |genState g f I=>intro Q E p s H h;let{o,j,u}:=h;exact{o,j,I _ H u}
 |resume g r l f I=>intro Q E p s H h;let{r,y,j,u}:=h;exact{r,y,j,I r (Zy H (Ef j)) u}
 |_=>first |(intro Q E p s H h;exact h.elim) |(rename_i I;intro Q E p s H h;exact I _ H h)
def gM{c:Type}{M:Model}{A:Around}{t:Sem c}{Q:c->Shared->Prop}{E:Value->Shared->Prop}{s:Shared}(k:Nat)(H:k<=s.toks)(h:wpAny M A t Q E s) :
  wpAny M A t (λa f=>k<=f.toks/\Q a f) E s:=λb p g=>
 wp_mono M b t (λ_ _ _ h=>h) (λ_ _ _ h=>h.2) p s (R7 k t H (h b p g))
end Ev
namespace Ev
open PySem PySem.Spec PyProof.Rows L2
section
variable {X:Cx} {a b c:Nat} {e l r:Expr} {es:List Expr} {T d g:TE} {t:TA} {pos:Pos}
abbrev PEp(X:Cx)(a b:Nat)(e:Expr)(t:TE):Prop:=∀ (p:List (Addr×Obj)) (s:Shared) (f:L2.St) (H:Hp) (Q:VK),a<=s.toks->Inv X p f H s->t f H Q ->
 wpAny (model X.prog X.w) X.A (eval e X.env) (λu h=>b<=h.toks/\EP X p f Q u h) X.xe s
abbrev PAp(X:Cx)(a b:Nat)(es:List Expr)(t:TA):Prop:=∀ (pos:Pos) (p:List (Addr×Obj)) (s:Shared) (f:L2.St) (H:Hp) (Q:List V->Hp->Prop),a<=s.toks->Inv X p f H s->t f H Q ->
 wpAny (model X.prog X.w) X.A (spliced (backTo pos (ZaQ es X.env))) (λu h=>b<=h.toks/\AP X p f Q u h) X.xe s
abbrev PSp(X:Cx)(a b:Nat)(st:Stmt)(t:TS):Prop:=∀ (p:List (Addr×Obj)) (s:Shared) (h:L2.St) (H:Hp) (D:Ends),a<=s.toks->Inv X p h H s->t D h H ->
 wpAny (model X.prog X.w) X.A (exec st X.env) (λf j=>b<=j.toks/\SP X p D f j) X.xe s
def PEp.of(k:Nat)(h:PE X e T):PEp X k k e T:=λp s j H Q f I q=>gM k f (h p s j H Q I q)
def PAp.of(k:Nat)(h:PA X es t):PAp X k k es t:=λpos p s j H Q f I q=>gM k f (h pos p s j H Q I q)
def Ib{x j}:PEp X 0 1 (.Constant (.str x) j pos) (tC (.str x)):=λ_ s _ H _ _ I h=>WV {Y5 1 s.toks,.str x,H,I.tok _,⟨_,rfl⟩,h}
def Eg{op:VQ}{f:R2}(M:OpR X (Zak op) f)(o:PEp X a b l d)(B:PEp X b c r g):PEp X a c (.BinOp l op r pos) (tOp f d g):=by
 intro p s j H Q z I h;calc wpAny_BinOp (thn (o p s j H _ z I h) λv Y ⟨E,x,C,J,r1,O⟩=>?_);exact thn (B p Y j C _ E J O) λu Z ⟨q,y,H2,L,r2,U⟩=>gM c q (M p Z j H2 x y v u _ L r1 r2 U)
def oh(j:PEp X a b e T)(C:PAp X b c es t)(hs:ZaQ (e::es) X.env=(a9,eval e X.env)::ZaQ es X.env:=by rfl):PAp X a c (e::es) (dz T t):=by
 intro pos p s f H Q q I h;rw[hs];show wpAny _ _ (spliced ((a9,eval e X.env)::backTo pos (ZaQ es X.env))) _ _ s;calc W0 (thn (j p s f H _ q I h) λu L ⟨y,x,v,z,r1,E⟩=>?_);exact thn (C pos p L f v _ y z E) λU O ⟨o,xs,M,B,r2,J⟩=>{o,x::xs,M,B,.cons r1 r2,J}
def zx(h:PAp X a b es t):PEp X a b (.List es pos) (MA t):=by
 intro p s C H Q v I y;calc wpAny_List_spliced (thn (h pos p s C H _ v I y) λU f ⟨B,xs,j,o,r,z,q⟩=>{by rw[<-r.length];exact z,?_});let E:j f.heap.objs.size=aT:=o.hok.fresh (Zc _);calc{B,.ref f.heap.objs.size,upd j f.heap.objs.size (.lst xs),o.laid (t':=f.toks) (λb u e=>Zk _ e) (Zc _) ?_,rfl,q _ E};exact{z,U,0,r,ZJ _ rfl}
def Ic{i:Nat}{x:Str}{f:Pos}(hN:X.N.Nodup)(j:X.N[i]?=aD x)(E:Loc X.env.scope x)(C:PEp X a b e T)(hs:ZaS e (aD (.Name x f)) pos.line X.env=pure a9)(J:X.fn x=a8\/X.env.scope.names.lookup x=aD .local) :
  PSp X a b (.Assign [.Name x f] e pos) (qZ T (iV i)):=by
 intro p s L H D o I h;calc wpAny_Assign_Name (thn (C p s L H _ o I h) λv O ⟨u,y,q,z,r1,Q⟩=>?_) hs;exact gM b u (cm z hN j E r1 (λM B=>show SP X p D .next M from ⟨_,q,B,Q⟩) J)
def Ie{y z:Stmt}{j:List Stmt}{t u v:TS}(E:PSp X 0 1 y t)(J:PSp X 1 1 z u)(O:PSs X j v):PSs X (y::z::j) (v8 t (v8 u v)):=by
 intro p s M H D I h;calc Za9 (thn (E p s M H {D with nx:=v8 u v D} (Z5 _) I h) λf y q=>?_);let{L,q}:=q;cases f with
 |next=>
  let{o,C,B,q}:=q;calc Za9 (thn (J p y o C {D with nx:=v D} L B q) λf z q=>?_);let{Q,q}:=q;cases f with
  |next=>
   let{o,C,B,q}:=q;exact O p z o C D B q
  |ret v=>exact q
  |brk=>exact q
  |cont=>exact q
 |ret v=>exact q
 |brk=>exact q
 |cont=>exact q
abbrev U7(y z:Str)(f:TE):TE:=λj H Q=>f j H λv h=>∃x,v = .str x/\x.length<=1048576/\Q (.str (Txt.replace x y z)) h
def Ig{o:Expr}{U:TE}{y z:Str}{J L M O f C}(ho:PE X o U)(E:(y == z)=a9)(hz:z.length<=14)
  (j:Zah o "replace" X.env (eval o X.env)=eval o X.env) (p:(f.endLine == C.line)=a8) :
  PEp X 1 1 (.Call (.Attribute o "replace" f) [.Constant (.str y) J M,.Constant (.str z) L O] [] C) (U7 y z U):=by
 intro q s σ H Q Y I h;calc Za2 j (by rfl) p rfl (thn (PEp.of 1 ho q s σ H _ Y I h) λv u ⟨k1,x,Z,I1,r1,B⟩=>?_);let{x,rfl,hx,B}:=B;let{t,rfl}:=r1;calc{"str","str.replace",W8,PySem.F.slot_str_replace,PySem.F.type_str_replace,ZaY _ _ _,(λ_ z=>by cases z),?_};calc WX rfl (WZ ?_);calc W0 (WV (k:=J) (pos:=M) (W0 (WV (k:=L) (pos:=O) (W1 ?_))));calc gM 1 (Y5 1 _) (SC.replaceW (by show u.toks≠0;omega) (by show u.toks+1≠0;omega) (by show u.toks≠u.toks+1;omega) E hx hz λt' k=>?_);exact{.str _,Z,I1.tok _,⟨_,rfl⟩,B}
end
mutual
noncomputable def pyD:D->PyData
 |.non=>.none
 |.bl b=>.bool b
 |.int i=>.int i
 |.str x=>.str x
 |.tup ds=>.tuple (iT ds)
 |.ref _=>.none
noncomputable def iT:List D->List PyData
 |[]=>[]
 |d::ds=>pyD d::iT ds
end
mutual
noncomputable def sF:D->Bool
 |.tup ds=>uM ds
 |.ref _=>a9
 |_=>a8
noncomputable def uM:List D->Bool
 |[]=>a8
 |d::ds=>sF d && uM ds
end
mutual
theorem zy:∀d:D,(pyD d).hasDict=a9
 |.non=>by simp![pyD,VT]
 |.bl _=>by simp![pyD,VT]
 |.int _=>by simp![pyD,VT]
 |.str _=>by simp![pyD,VT]
 |.ref _=>by simp![pyD,VT]
 |.tup ds=>by simp![pyD,VT,uN ds]
theorem uN:∀ds:List D,VU (iT ds)=a9
 |[]=>by simp![iT,VU]
 |d::ds=>by simp![iT,VU,zy d,uN ds,Xk]
end
section
variable {X:Cx} {K:V6} {m:List Addr} {H:Hp} {S:Sto} {P:Program} {w:World} {h:Heap}
mutual
theorem uO(ok:HOk P w H h):∀ (d:D) {v:V} {u:Value},VD K m H d v->aJ v u->sF d=a8->∃f,Reads h u (pyD d) f
 |.non,v,u,b,r,_=>by rw[b.nons]at r;cases r;exact{_,by simp![pyD];exact .none}
 |.bl x,v,u,b,r,_=>by rw[b.bls]at r;cases r;exact{_,by simp![pyD];exact .bool _}
 |.int i,v,u,b,r,_=>by rw[b.ints]at r;let{t,rfl}:=r;exact{_,by simp![pyD];exact .int _ _}
 |.str x,v,u,b,r,_=>by rw[b.strs]at r;let{t,rfl}:=r;exact{_,by simp![pyD];exact .str _ _}
 |.ref _,v,u,b,r,hs=>by simp![sF]at hs;cases hs
 |.tup ds,v,u,b,r,hs=>by
  let{a,xs,rfl,g,p}:=b.tups;cases r;let{_,I,j,o,e,c,n,q,_}:=ok a _ g;let{f,z}:=qq ok ds p j (by simpa only[sF] using hs);simp![pyD];exact{_,.tuple e c q (by simpa using z)}
theorem qq(ok:HOk P w H h):∀ (ds:List D) {xs:List V} {u:List Value},VDs K m H ds xs->aP xs u->uM ds=a8->∃c,ReadsAll h u (iT ds) c
 |[],xs,u,b,r,_=>by rw[VDs]at b;subst b;cases r;exact{_,by simp![iT];exact .nil}
 |d::ds,xs,u,b,r,hs=>by
  rw[VDs]at b;let{x,l,rfl,f,g}:=b;simp![uM,bAE]at hs;cases r with
  |cons r1 r2=>
   let{c,z}:=uO ok d f r1 hs.1;let{bs,Z}:=qq ok ds g r2 hs.2;simp![iT];exact{_,.cons z Z}
end
abbrev U8(d:D):Prop:=sF d=a8/\(pyD d).showable=a8/\(pyD d).depth<=100/\(pyD d).shown.length<=sizeLine
open Classical in
abbrev gO(d:D)(S:Sto):Option (D×Sto):=if U8 d then aD (.str (pyD d).shown,S) else aT
def xI{k:Nat}(g:Room k X.A):bc X (.builtin "repr") (r1 (rS1 X.K gO)):=by
 intro p s M H xs U Q I r h;let{x,rfl,m,S,a,d,L,R,v,e,q}:=dB h;let{u,rfl,c}:=dr r;delta gO at e;split at e
 .rename_i hs;cases e;let{f,hs,hd,j}:=hs;let q:=q m H (.str (pyD a).shown) (Aft.refl R) cq;let B:=g.un;cases a with
  |non=>
   rw[v.nons]at c;cases c;exact P.repr_of_none {.str _,H,I.tok _,⟨_,rfl⟩,by simpa only[pyD,V0] using q}
  |bl y=>
   rw[v.bls]at c;cases c;exact P.repr_of_bool {.str _,H,I.tok _,⟨_,rfl⟩,by simpa only[pyD,V0] using q}
  |int i=>
   rw[v.ints]at c;let{t,rfl}:=c;exact P.repr_of_int (by simpa only[pyD,VY,decide_eq_true_eq] using hs) {.str _,H,I.tok _,⟨_,rfl⟩,by simpa only[pyD,V0] using q}
  |str y=>
   rw[v.strs]at c;let{t,rfl}:=c;exact P.repr_of_str {.str _,H,I.tok _,⟨_,rfl⟩,by simpa only[pyD,V0] using q} (by simpa only[pyD,V0] using j)
  |ref n=>simp![sF]at f;cases f
  |tup C=>
   let{J,z}:=uO I.hok (.tup C) v c f;let{b,O,rfl,_}:=v.tups;cases c;exact repr_of_reads' z hs (PyData.noDict_hsm (zy _)) g.gd (by lia) (λ_ _ z=>z) (λE t T o=>{.str _,H,I.kept (t':=T) o,⟨t,rfl⟩,q}) j
 .cases e
end
end Ev
namespace Ev
open PySem PySem.W PyProof.Rows
variable {prog:Program} {w:World} {A:Around} {E:Value->Shared->Prop} {s:Shared}
def jJ:∀ (l:List Str) (k:Nat),StrsAre (strsFrom k l) l
 |[],_=>.nil
 |x::l,k=>.cons _ _ (jJ l _)
def jK:∀ (l:List Str) (k:Nat),(strsFrom k l).length=l.length
 |[],_=>rfl
 |x::l,k=>congrArg (·+1) (jK l _)
def uQ{x y:Str}{t u:Tok}{Q:Value->Shared->Prop}(g:(y.length == 0)=a9)(j:x.length+2<=sizeLine)
  (b:(Txt.split x y).length<=sizeLine) (H:∀z∈Txt.split x y,z.length<=sizeLine)
  (h:∀ (v:List Value) (k:Nat),StrsAre v (Txt.split x y)->Q (.ref s⁻¹) {s with heap:=s.heap.push {cls:=.type "list",data:=.seq v.toArray},toks:=k}) :
  wpAny (model prog w) A (call (.builtin "str.split") [.str x t,.str y u]) Q E s:=by
 calc Za6 VH rfl (by first |exact entry_str_split |exact PySem.F.entry_str_split |exact PySem.entry_str_split) ?_;delta Builtin.«str.split»;calc Za4 (m:=Builtin.Str.strSelf _) (Zbn (a:=(Value.str x t,x,[Value.str y u])) ?_);calc Za4 (m:=Builtin.Str.bindOptional _ _ _ _ _ _) (Zbn (a:=[aD (Value.str y u),aT]) ?_);calc Za4 (m:=Builtin.Str.countLimit _ _ _) (Zbn (a:=x.length+1) ?_);rw[show((aD (Value.str y u)).isNone || some (Value.str y u) == aD Value.none)=a9 from rfl,if_neg Ze];calc Za4 (m:=asStr? _) (Zbn (a:=aD y) ?_);dsimp!;delta Txt.split at b H h;split
 .rename_i c;rw[if_pos c]at h;exact Za4 (Zbt (Za4 (Zbk (Zbn {_,rfl,h [.str x t] s.toks (.cons _ _ .nil)}) (show 1<=sizeLine by decide))))
 .rename_i c;rw[if_neg c]at b H h;rw[g,if_neg Ze];split
  .rename_i C;let f:(Builtin.Str.occurrences x y 0 x.length (x.length+1)).isEmpty=a8:=C;rw[if_pos f]at h;exact Za4 (Zbt (Za4 (Zbk (Zbn {_,rfl,h [.str x t] s.toks (.cons _ _ .nil)}) (show 1<=sizeLine by decide))))
  .rename_i C;let f:¬(Builtin.Str.occurrences x y 0 x.length (x.length+1)).isEmpty=a8:=C;rw[if_neg f]at b H h;exact Za4 (wpAny_mapM_mkStr _ _ _ H (Za4 (Zbk (Zbn {_,rfl,h _ _ (jJ _ _)}) (by rw[jK];exact b))))
end Ev
namespace Ev
open PySem
def uR{j c:Type}{f:c->j->c}{g:j->c->Id (ForInStep c)}(h:∀a b,g a b=pure (ForInStep.yield (f b a))):∀ (l:List j) (b:c),(forIn l b g:Id c)=pure (l.foldl f b)
 |[],b=>rfl
 |a::l,b=>by
  rw[XD,h a b];exact uR h l (f b a)
abbrev uS(x:Str)(c n:Nat)(s:Array Nat×Nat)(i:Nat):Array Nat×Nat:=
 if (decide (s.1.size < n+1) && decide (s.2<=i) && decide (i+1<=n) && Builtin.Str.subAt x ⟨#[c]⟩ i)=a8 then (s.1.push i,i+1) else s
def Eh(x:Str)(c n:Nat):Builtin.Str.occurrences x ⟨#[c]⟩ 0 n (n+1)=((Zm (n+1)).foldl (uS x c n) (#[],0)).1.toList:=by
 delta Builtin.Str.occurrences;simp![Std.Legacy.Range.forIn_eq_forIn_range',Std.Legacy.Range.size];rw[show(n+1 - 0+1 - 1) / 1=n+1 by simp,<-List.range_eq_range'];rw[uR (f:=uS x c n) (λi s=>?_)]
 .rfl
 .delta uS;show(if (decide (s.1.size < n+1) && decide (s.2<=i) && decide (i+1<=n) && Builtin.Str.subAt x ⟨#[c]⟩ i)=a8 then _ else _:Id _)=_;split
  .rfl
  .rfl
def zz(x:Str)(c i:Nat):Builtin.Str.subAt x ⟨#[c]⟩ i=a8 ↔ x.cps[i]?=aD c:=by
 delta Builtin.Str.subAt;show(x.cps.extract i (i+1) == #[c])=a8 ↔ _;rw[beq_iff_eq];constructor
 .intro h;let H:=congrArg (λa:Array Nat=>a[0]?) h;let f:=congrArg Array.size h;rw[Array.size_extract]at f;let:i < x.cps.size:=by simp at f;omega
  simp![Array.getElem?_extract]at H;let H:x.cps[i]?=aD c:=by simp at H;exact H.2
  exact H
 .intro h;let{j,e}:=YS.mp h;calc Array.ext (by simp;omega) λk g b=>?_;simp at b;subst b;simp[e]
abbrev pK(l:List Nat)(c k:Nat):List Nat:=(Zm k).filter λi=>decide (l[i]?=aD c)
def zA(x:Str)(c:Nat):∀k,k<=x.length+1->((Zm k).foldl (uS x c x.length) (#[],0)).1.toList=pK x.cps.toList c k/\((Zm k).foldl (uS x c x.length) (#[],0)).2<=k/\((Zm k).foldl (uS x c x.length) (#[],0)).1.size<=k
 |0,_=>{rfl,Zc _,Zc _}
 |k+1,h=>by
  let{H,b,u}:=zA x c k (by omega);rw[Yk,Xe,YM,List.foldl_nil];delta pK at H ⊢;rw[Yk,Xc];generalize (Zm k).foldl (uS x c x.length) (#[],0)=s at *;delta uS;let p:x.length=x.cps.size:=rfl;split
  .rename_i q;simp![bAE,decide_eq_true_eq]at q;let{⟨⟨o,f⟩,g⟩,Q}:=q;let:=(zz x c k).mp Q;calc{?_,Zc _,by simp;omega};let e:x.cps.toList[k]?=aD c:=by rw[YQ];exact this
   rw[Array.toList_push,H];simp[e,<-YQ]
  .rename_i q;refine{?_,by omega,by omega}
   let e:x.cps[k]?≠aD c:=by
    intro e;let j:=(YS.mp e).1;apply q;simp![bAE,decide_eq_true_eq];exact{{{by omega,b},by omega},(zz x c k).mpr e}
   simp[H,e]
def Ih(x:Str)(c:Nat):Builtin.Str.occurrences x ⟨#[c]⟩ 0 x.length (x.length+1)=pK x.cps.toList c x.length:=by
 rw[Eh,(zA x c _ (Zc _)).1];delta pK;rw[Yk,Xc];let:x.cps[x.length]?=aT:=XC (Zc _);simp[this]
abbrev spl(c:Nat):List Nat->List (List Nat)
 |[]=>[[]]
 |a::l=>if a=c then []::spl c l else match spl c l with
  |[]=>[[a]]
  |p::ps=>(a::p)::ps
abbrev xJ(l:List Nat)(a:Nat)(c:List Nat):List (List Nat):=((a::c.map (·+1)).zip (c++[l.length])).map λp=>(l.drop p.1).take (p.2 - p.1)
def jL(l:List Nat)(a:Nat):xJ l a []=[(l.drop a).take (l.length - a)]:=rfl
def fE(l:List Nat)(a i:Nat)(cs:List Nat):xJ l a (i::cs)=(l.drop a).take (i - a)::xJ l (i+1) cs:=rfl
def BF(a:Nat)(l:List Nat)(c:Nat):pK (a::l) c (l.length+1)=(if a=c then [0] else [])++(pK l c l.length).map (·+1):=by
 delta pK;rw[Xz,Xr,List.filter_map]
 let e:(λi=>decide ((a::l)[i]?=aD c)) ∘ Nat.succ=λi=>decide (l[i]?=aD c):=by
  funext i
  simp
 rw[e];by_cases h:a=c
 .simp[h]
 .simp[h]
def oj(a:Nat)(l:List Nat):∀ (c:List Nat) (k:Nat),xJ (a::l) (k+1) (c.map (·+1))=xJ l k c
 |[],k=>by
  simp![ZX,jL,YH,Zt];rw[XJ]
 |i::c,k=>by
  rw[Zx,fE,fE,oj a l c (i+1),YH,XJ]
def uT(c:Nat):∀l:List Nat,xJ l 0 (pK l c l.length)=spl c l
 |[]=>rfl
 |a::l=>by
  let I:=uT c l;rw[Zt,BF];delta spl;by_cases h:a=c
  .rw[if_pos h,if_pos h,XM,fE,oj a l _ 0,I];rfl
  .rw[if_neg h,if_neg h,Yb,<-I];cases H:pK l c l.length with
   |nil=>
    simp[jL]
   |cons i C=>
    rw[Zx,fE,fE,oj a l C (i+1)];simp
def BG{x:Str}{c:Nat}(hc:c < 256):(Txt.split x ⟨#[c]⟩).map (λz=>z.cps.toList)=spl c x.cps.toList:=by
 let H:Builtin.Str.strKind ⟨#[c]⟩=1:=by delta Builtin.Str.strKind;rw[if_pos];simpa using hc
 let f:1<=Builtin.Str.strKind x:=by
  delta Builtin.Str.strKind;split
  .decide
  .split <;> decide
 let h:x.length=x.cps.toList.length:=by simp[Str.length]
 delta Txt.split;rw[Ih,H];rw[<-uT,<-h];split
 .rename_i q
  let b:x.length=0:=by
   simp![YO,decide_eq_true_eq]at q;let:Str.length ⟨#[c]⟩=1:=rfl;omega
  rw[b];let e:x.cps.toList=[]:=Yo.mp (by omega);simp[e,pK,jL]
 .split
  .rename_i q;rw[List.isEmpty_iff.mp q,jL,YI,WD,Z4];rfl
  .delta Builtin.Str.partsBetween xJ;rw[Yl,<-h];calc YG λp g=>?_;let{i,j}:=p;show(Builtin.Str.strSub x i j).cps.toList=_;delta Builtin.Str.strSub;simp[Array.toList_extract,List.extract]
def qr{c:Nat}:∀ {p:List Nat},c∉p->spl c p=[p]
 |[],_=>rfl
 |a::p,h=>by
  let n:¬a=c:=λe=>h (by rw[e];exact Zf);rw[spl,if_neg n,qr λq=>h (Zh _ q)]
def zB{c:Nat}{l:List Nat}:∀ {p:List Nat},c∉p->spl c (p++c::l)=p::spl c l
 |[],_=>by show spl c (c::l)=_;rw[spl,if_pos rfl]
 |a::p,h=>by
  let n:¬a=c:=λe=>h (by rw[e];exact Zf);rw[Z3,spl,if_neg n,zB λq=>h (Zh _ q)]
abbrev glu(c:Nat):List (List Nat)->List Nat
 |[]=>[]
 |[p]=>p
 |p::q::ps=>p++c::glu c (q::ps)
def zC{c:Nat}:∀ {ps:List (List Nat)},ps≠[]->(∀p∈ps,c∉p)->spl c (glu c ps)=ps
 |[],h,_=>absurd rfl h
 |[p],_,h=>qr (h p Zf)
 |p::q::ps,_,h=>by
  rw[glu,zB (h p Zf),zC (Yp _ _) λr H=>h r (Zh _ H)]
end Ev
namespace Ev
open PySem PySem.W PyProof.Rows L2
variable {X:Cx} {K:V6} {m:List Addr} {H:Hp} {S:Sto}
abbrev cC(d:D)(b:List D)(S:Sto):Option (D×Sto):=match d,b with
 |.str x,[.str y]=>if (y.length == 0)=a9/\x.length<=9000/\(Txt.split x y).length<=9000/\(Txt.split x y).all (λz=>decide (z.length<=9000))=a8 then aD (.ref S.length,S++[.lst ((Txt.split x y).map D.str)]) else aT
 |_,_=>aT
def qt:∀ {u:List Value} {ys:List Str},StrsAre u ys->aP (ys.map V.str) u
 |_,_,.nil=>.nil
 |_,_,.cons x t h=>.cons ⟨t,rfl⟩ (qt h)
def uU:∀ {ys:List Str},VDs K m H (ys.map D.str) (ys.map V.str)
 |[]=>by rw[ZX,VDs];rfl
 |y::ys=>by rw[Zx,VDs];exact{.str y,ys.map V.str,rfl,cq,uU}
def BH:MtR X "str.split" (rM X.K cC):=by
 intro p s σ H x xs v us Q I C rs h;let{m,S,a,as,d,S',R,E,U,e,q}:=h;delta cC at e;split at e
 .rename_i O Y;split at e
  .rename_i c;let{B,hx,g,T}:=c;cases e;let ex:=E.strs;subst ex;let{t,rfl}:=C;let{y,rfl,j}:=DI U;let Z:=j.strs;subst Z;let{u,rfl,L}:=dr rs;let{t',rfl}:=L;let big:∀ {n:Nat},n<=9000->n<=sizeLine:=λ{n} h=>by rw[ZaO];omega
   calc uQ B (by rw[ZaO];omega) (big g) (λz M=>big (ω (Zg.mp T z M))) λf k sa=>?_;let J:=qt sa;refine{.ref s⁻¹,_,I.laid (t':=k) (o:=.lst ((Txt.split O Y).map V.str)) (λb o z=>Zk _ z) (Zc _) {by rw[Za];exact big g,f,0,J,ZJ _ rfl},rfl,mv R uU q _ (I.hok.fresh (Zc _))}
  .cases e
 .cases e
end Ev
namespace Ev
open PySem PyProof.Rows L2
variable {X:Cx}
abbrev xK(d:D)(S:Sto):Option (D×Sto):=match d with
 |.str x=>if x.length<=640 then (intText? x).map λn=>(.int n,S) else aT
 |_=>aT
def BI:bc X (.type "int") (r1 (rS1 X.K xK)):=by
 intro p s j H xs U Q I r h;let{x,rfl,m,S,a,d,o,R,v,e,q}:=dB h;delta xK at e;split at e
 .rename_i g;split at e
  .rename_i f;cases b:intText? g with
   |none=>rw[b]at e;cases e
   |some n=>
    rw[b]at e;cases e;let{u,rfl,c}:=dr r;rw[v.strs]at c;let{t,rfl}:=c;exact PySem.W.KIN.call_text b f {.int n,H,I.tok _,⟨_,rfl⟩,q m H _ (Aft.refl R) bV}
  .cases e
 .cases e
end Ev
namespace Ev
open PySem PySem.Spec PyProof.Rows L2
abbrev Ei(g g':List D->Sto->Option (D×Sto))(n f:Nat)(y:XE)(x:XA):XE:=λb S=>bnd (y b S) λd c=>match d with
 |.int k=>if k=0 then lB g n x b c else if k=1 then lB g' f x b c else aT
 |_=>aT
mutual
inductive CE where |non |bl (b:Bool) |int (i:Int) |str (x:Str) |v (i:Nat) |con (k:Nat)(v:Int) |txc (k:Nat)(x:Str) |tup (es:List CE) |lst (es:List CE) |dic0 |dic1 (i:Int)(v:Nat) |b (o:BOp)(a b:CE) |neg (a:CE) |m (o:COp)(a b:CE) |h (o p:COp)(a b c:CE) |d (a b:CE) |or (a b:CE) |n (a:CE) |ite (c a b:CE) |x (a b:CE) |sl (a:CE)(lo hi:Option CE) |c (f:Nat)(es:List CE) |cal2 (f g:Nat)(i:CE)(es:List CE) |s (t:Ty)(a:CE) |e (a:CE) |all (a:CE) |t (a:CE) |listOf (a:CE) |l (a:CE) |srt (a:CE) |strI (a:CE) |lenS (a:CE) |intX (a:CE) |mx (a b:CE) |mn (a b:CE) |rep (a:CE) |o (own:List Str)(elt:CE)(cls:List Cl) |app (o e:CE) |q (o e:CE) |ins (o i e:CE) |cnt (o e:CE) |join (o e:CE) |spl (o e:CE)
inductive CI where
 |p (a:CE) |r1 (a:CE) |r2 (a b:CE) |en (a:CE) |chr (a:CE) |wds (k:Nat) (ws:List Str)
inductive Cl where
 |mk (tg:Tg) (it:CI) (cond:Option CE)
end
abbrev aj:CE->Bool
 |.lst _=>a8 |.o _ _ _=>a8 |.listOf _=>a8 |.l _=>a8 |.srt _=>a8
 |_=>a9
abbrev LF:Nat:=1000000
abbrev xNo{b:Type}:Rho->Sto->Option (b×Sto):=λ_ _=>aT
abbrev om(x:XE):XA:=λc S=>bnd (x c S) λd b=>(am d b).map λr=>(r.2,b)
abbrev fF(T:Bool)(ds:List D):Option (List D):=if T=a9 then Bv T ds else aT
abbrev BJ(f:Bool->List D->Option (List D))(x:XA):XA:=λg S=>bnd (x g S) λc b=>(f a9 c).map λE=>(E,b)
abbrev BK(f:Bool->List D->Option (List D))(x:XE):XA:=λc S=>bnd (x c S) λd b=>match am d b with
 |some r=>(f r.1 r.2).map λE=>(E,b)
 |none=>aT
abbrev kB(i:Int):Key:=Sum.inl i
abbrev BL(x:XE):XA:=λb S=>bnd (x b S) λd c=>match d with
 |.int i=>if 0<=i/\i<=1000 then aD ((Zm i.toNat).map λj=>.int (Int.ofNat j),c) else aT
 |_=>aT
abbrev Ej:XE:=λ_ S=>aD (.ref S.length,S++[.dic [] []])
abbrev fG(y z:Str)(d:D)(S:Sto):Option (D×Sto):=match d with
 |.str x=>if x.length<=1048576 then aD (.str (Txt.replace x y z),S) else aT
 |_=>aT
abbrev uV(i:Int)(v:Nat):XE:=λb S=>match b[v]? with
 |some (aD d)=>aD (.ref S.length,S++[.dic [kB i] [d]])
 |_=>aT
abbrev cnd(t:CE->XT):Option CE->XA->XA
 |some c,x=>D6 (t c) x
 |none,x=>x
abbrev opt(t:CE->XE):Option CE->XO
 |some l=>xh (t l)
 |none=>xg
mutual
noncomputable def evE(C:Calls)(h:Nat->Nat):Nat->CE->XE
 |0,_=>xNo
 |n+1,e=>match e with
  |.non=>xC .non
  |.bl b=>xC (.bl b)
  |.int i=>xC (.int i)
  |.str x=>xC (.str x)
  |.v i=>bn i
  |.con _ v=>xC (.int v)
  |.txc _ x=>xC (.str x)
  |.tup es=>md me (evA C h n es)
  |.lst es=>bg (cu (evA C h n es))
  |.dic0=>Ej
  |.dic1 i j=>uV i j
  |.b o a b=>cF (bv o) (evE C h n a) (evE C h n b)
  |.neg a=>xUn Nz (evE C h n a)
  |.m o a b=>cF (ay o) (evE C h n a) (evE C h n b)
  |.h o p a b c=>BE (ay o) (ay p) (evE C h n a) (evE C h n b) (evE C h n c)
  |.d a b=>D9 (evE C h n a) (evE C h n b)
  |.or a b=>xOr (evE C h n a) (evE C h n b)
  |.n a=>xUn BD (evE C h n a)
  |.ite c a b=>NA (evT C h n c) (evE C h n a) (evE C h n b)
  |.x a b=>if aj a=a8 then w9 (dX C h n a) (evE C h n b) else cF ixS (evE C h n a) (evE C h n b)
  |.sl a lo hi=>xSl (evE C h n a) (opt (evE C h n) lo) (opt (evE C h n) hi)
  |.c f es=>lB (C f) (h f) (evA C h n es)
  |.cal2 f g i es=>Ei (C f) (C g) (h f) (h g) (evE C h n i) (evA C h n es)
  |.s t a=>xUn (dS t) (evE C h n a)
  |.e a=>if aj a=a8 then Bk dR (dX C h n a) else Bm dR (evE C h n a)
  |.all a=>if aj a=a8 then Bk pH (dX C h n a) else Bm pH (evE C h n a)
  |.t a=>if aj a=a8 then Bk gH (dX C h n a) else Bm gH (evE C h n a)
  |.listOf a=>bg (if aj a=a8 then dX C h n a else om (evE C h n a))
  |.l a=>bg (BL (evE C h n a))
  |.srt a=>bg (if aj a=a8 then BJ fF (dX C h n a) else BK fF (evE C h n a))
  |.strI a=>xUn xv (evE C h n a)
  |.lenS a=>xUn nX (evE C h n a)
  |.intX a=>xUn xK (evE C h n a)
  |.mx a b=>md (two DG) (evA C h n [a,b])
  |.mn a b=>md (two DH) (evA C h n [a,b])
  |.rep a=>xUn gO (evE C h n a)
  | .o own elt cls=>bg (match cls with
   |[]=>xNo
   | ⟨tg,it,cond⟩::rest=>og own.length (evI C h n it) tg (cnd (evT C h n) cond (iU C h n elt rest)) LF)
  |.app o a=>uB dW xD (evE C h n o) (evA C h n [a])
  |.q o a=>uB dW fS (evE C h n o) (evA C h n [a])
  |.ins o i a=>uB dW xF (evE C h n o) (evA C h n [i,a])
  |.cnt o a=>uB (λd _=>isTup d) xE (evE C h n o) (evA C h n [a])
  |.join o a=>uB (λd _=>nZ d) gK (evE C h n o) (evA C h n [a])
  |.spl o a=>uB (λd _=>nZ d) cC (evE C h n o) (evA C h n [a])
noncomputable def evA(C:Calls)(b:Nat->Nat):Nat->List CE->XA
 |0,_=>xNo
 |n+1,es=>match es with
  |[]=>iS
  |e::es=>aX (evE C b n e) (evA C b n es)
noncomputable def dX(C:Calls)(b:Nat->Nat):Nat->CE->XA
 |0,_=>xNo
 |n+1,e=>match e with
  |.lst es=>cu (evA C b n es)
  |.listOf a=>if aj a=a8 then dX C b n a else om (evE C b n a)
  |.l a=>BL (evE C b n a)
  |.srt a=>if aj a=a8 then BJ fF (dX C b n a) else BK fF (evE C b n a)
  |.o own elt cls=>match cls with
   |[]=>xNo
   |⟨tg,it,cond⟩::rest=>og own.length (evI C b n it) tg (cnd (evT C b n) cond (iU C b n elt rest)) LF
  |_=>xNo
noncomputable def iU(C:Calls)(b:Nat->Nat):Nat->CE->List Cl->XA
 |0,_,_=>xNo
 |n+1,elt,cls=>match cls with
  |[]=>Lb (evE C b n elt)
  |⟨tg,it,cond⟩::rest=>kA (evI C b n it) tg (cnd (evT C b n) cond (iU C b n elt rest)) LF
noncomputable def evI(C:Calls)(c:Nat->Nat):Nat->CI->XI
 |0,_=>xNo
 |n+1,it=>match it with
  |.p a=>if aj a=a8 then xIT (dX C c n a) else xIV (evE C c n a)
  |.chr a=>Nl (evE C c n a)
  |.wds _ ws=>Nn ws
  |.r1 a=>xR1 (evE C c n a)
  |.r2 a b=>xR2 (evE C c n a) (evE C c n b)
  |.en a=>if aj a=a8 then xET (dX C c n a) else xEV (evE C c n a)
noncomputable def evT(C:Calls)(f:Nat->Nat):Nat->CE->XT
 |0,_=>xNo
 |n+1,e=>match e with
  |.m o a b=>xB (cF (ay o) (evE C f n a) (evE C f n b))
  |.h o p a b c=>xB (BE (ay o) (ay p) (evE C f n a) (evE C f n b) (evE C f n c))
  |.d a b=>Ec (evT C f n a) (evT C f n b)
  |.or a b=>ND (evT C f n a) (evT C f n b)
  |.n a=>Ed (evT C f n a)
  |.ite _ _ _=>xNo
  |e=>HH (evE C f n e)
end
structure Tab where
 con:List (Str×CV)
 fns:List (Str×Nat)
structure Blk where
 sc:Scope
 fs:Option Scope
 N:List Str
abbrev Blk.glo(b:Blk)(x:Str):Bool:=b.sc.names.lookup x == aD .globalImplicit && !(x == ("__debug__" : Str))
abbrev Blk.vis(b:Blk)(x:Str):Bool:=(match b.sc.names.lookup x with
 |some .local=>a8
 |some .cell=>a8
 |some .free=>a8
 | _=>a9) && !(x == ("__debug__" : Str)) && !(x == ("__classdict__" : Str))
abbrev Blk.own(b:Blk)(x:Str):Bool:=match b.sc.names.lookup x with
 |some .local=>a8
 | some .cell=>(match b.fs with
  |none=>a8
  | some sc=>sc.names.lookup x == aD .cell)
 |_=>a9
def bI{P:Prop}[Decidable P]{f:P->Bool}(h:(if p:P then f p else a9)=a8):∃p,f p=a8:=by
 by_cases p:P
 .rw[dif_pos p]at h;exact⟨p,h⟩
 .rw[dif_neg p]at h;cases h
def an2{a b:Bool}(h:(a && b)=a8):a=a8/\b=a8:=by cases a;cases h;exact⟨rfl,h⟩
def an3{a b c:Bool}(h:(a && b && c)=a8):a=a8/\b=a8/\c=a8:={(an2 (an2 h).1).1,(an2 (an2 h).1).2,(an2 h).2}
def an4{a b c d:Bool}(h:(a && b && c && d)=a8):a=a8/\b=a8/\c=a8/\d=a8:={(an3 (an2 h).1).1,(an3 (an2 h).1).2.1,(an3 (an2 h).1).2.2,(an2 h).2}
def an5{a b c d e:Bool}(h:(a && b && c && d && e)=a8):a=a8/\b=a8/\c=a8/\d=a8/\e=a8:={(an4 (an2 h).1).1,(an4 (an2 h).1).2.1,(an4 (an2 h).1).2.2.1,(an4 (an2 h).1).2.2.2,(an2 h).2}
def an6{a b c d e f:Bool}(h:(a && b && c && d && e && f)=a8):a=a8/\b=a8/\c=a8/\d=a8/\e=a8/\f=a8:={(an5 (an2 h).1).1,(an5 (an2 h).1).2.1,(an5 (an2 h).1).2.2.1,(an5 (an2 h).1).2.2.2.1,(an5 (an2 h).1).2.2.2.2,(an2 h).2}
abbrev l1{b:Type}(l:List b)(k:b->Bool):Bool:=match l with
 |[]=>a9
 |x::t=>t.isEmpty && k x
abbrev lC{b:Type}(l:List b)(k:b->List b->Bool):Bool:=match l with
 |[]=>a9
 |x::t=>k x t
def bP{b:Type}{l:List b}{k:b->List b->Bool}(h:lC l k=a8):∃x t,l=x::t/\k x t=a8:=by
 cases l with
 |nil=>cases h
 |cons x t=>exact⟨x,t,rfl,h⟩
def cG{b:Type}{l:List b}(h:l.isEmpty=a8):l=[]:=by cases l;rfl;cases h
def cy{b:Type}{l:List b}{k:b->Bool}(h:l1 l k=a8):∃x,l=[x]/\k x=a8:=by
 cases l with
 |nil=>cases h
 |cons x t=>let{c,H}:=an2 h;cases cG c;exact⟨x,rfl,H⟩
abbrev aI(e:Expr):Bool:=!(e.ctorIdx == 22 || e.ctorIdx == 26 || e.ctorIdx == 7)
abbrev sG(e:Expr)(k:BoolOp->List Expr->Pos->Bool):Bool:=if h:e.ctorIdx=0 then @Expr.BoolOp.elim (λ_=>Bool) e h k else a9
def qv{e:Expr}{k:BoolOp->List Expr->Pos->Bool}(h:sG e k=a8):∃c b X,e = .BoolOp c b X/\k c b X=a8:=by
 let{H,h}:=bI h;exact Expr.BoolOp.elim (motive_1:=λe=>∀f,@Expr.BoolOp.elim (λ_=>Bool) e f k=a8->∃c b X,e = .BoolOp c b X/\k c b X=a8) e H (λc b X _ g=>⟨c,b,X,rfl,g⟩) H h
abbrev Ek(e:Expr)(k:Expr->VQ->Expr->Pos->Bool):Bool:=if h:e.ctorIdx=2 then @Expr.BinOp.elim (λ_=>Bool) e h k else a9
def El{e:Expr}{k:Expr->VQ->Expr->Pos->Bool}(h:Ek e k=a8):∃f c b X,e = .BinOp f c b X/\k f c b X=a8:=by
 let{H,h}:=bI h;exact Expr.BinOp.elim (motive_1:=λe=>∀g,@Expr.BinOp.elim (λ_=>Bool) e g k=a8->∃f c b X,e = .BinOp f c b X/\k f c b X=a8) e H (λf c b X _ j=>⟨f,c,b,X,rfl,j⟩) H h
abbrev jM(e:Expr)(k:UnaryOp->Expr->Pos->Bool):Bool:=if h:e.ctorIdx=3 then @Expr.UnaryOp.elim (λ_=>Bool) e h k else a9
def oo{e:Expr}{k:UnaryOp->Expr->Pos->Bool}(h:jM e k=a8):∃c b X,e = .UnaryOp c b X/\k c b X=a8:=by
 let{H,h}:=bI h;exact Expr.UnaryOp.elim (motive_1:=λe=>∀f,@Expr.UnaryOp.elim (λ_=>Bool) e f k=a8->∃c b X,e = .UnaryOp c b X/\k c b X=a8) e H (λc b X _ g=>⟨c,b,X,rfl,g⟩) H h
abbrev Em(e:Expr)(k:Expr->Expr->Expr->Pos->Bool):Bool:=if h:e.ctorIdx=5 then @Expr.IfExp.elim (λ_=>Bool) e h k else a9
def En{e:Expr}{k:Expr->Expr->Expr->Pos->Bool}(h:Em e k=a8):∃f c b X,e = .IfExp f c b X/\k f c b X=a8:=by
 let{H,h}:=bI h;exact Expr.IfExp.elim (motive_1:=λe=>∀g,@Expr.IfExp.elim (λ_=>Bool) e g k=a8->∃f c b X,e = .IfExp f c b X/\k f c b X=a8) e H (λf c b X _ j=>⟨f,c,b,X,rfl,j⟩) H h
abbrev Eo(e:Expr)(k:List (Option Expr)->List Expr->Pos->Bool):Bool:=if h:e.ctorIdx=6 then @Expr.Dict.elim (λ_=>Bool) e h k else a9
def zD{e:Expr}{k:List (Option Expr)->List Expr->Pos->Bool}(h:Eo e k=a8):∃c b X,e = .Dict c b X/\k c b X=a8:=by
 let{H,h}:=bI h;exact Expr.Dict.elim (motive_1:=λe=>∀f,@Expr.Dict.elim (λ_=>Bool) e f k=a8->∃c b X,e = .Dict c b X/\k c b X=a8) e H (λc b X _ g=>⟨c,b,X,rfl,g⟩) H h
abbrev kC(e:Expr)(k:Expr->List W2->Scope->Pos->Bool):Bool:=if h:e.ctorIdx=8 then @Expr.ListComp.elim (λ_=>Bool) e h k else a9
def lF{e:Expr}{k:Expr->List W2->Scope->Pos->Bool}(h:kC e k=a8):∃f c b X,e = .ListComp f c b X/\k f c b X=a8:=by
 let{H,h}:=bI h;exact Expr.ListComp.elim (motive_1:=λe=>∀g,@Expr.ListComp.elim (λ_=>Bool) e g k=a8->∃f c b X,e = .ListComp f c b X/\k f c b X=a8) e H (λf c b X _ j=>⟨f,c,b,X,rfl,j⟩) H h
abbrev qw(e:Expr)(k:Expr->Expr->List W2->Scope->Pos->Bool):Bool:=if h:e.ctorIdx=10 then @Expr.DictComp.elim (λ_=>Bool) e h k else a9
def uW{e:Expr}{k:Expr->Expr->List W2->Scope->Pos->Bool}(h:qw e k=a8):∃g f c X b,e = .DictComp g f c X b/\k g f c X b=a8:=by
 let{H,h}:=bI h;exact Expr.DictComp.elim (motive_1:=λe=>∀j,@Expr.DictComp.elim (λ_=>Bool) e j k=a8->∃g f c X b,e = .DictComp g f c X b/\k g f c X b=a8) e H (λg f c X b _ o=>⟨g,f,c,X,b,rfl,o⟩) H h
abbrev oq(e:Expr)(k:Expr->List CmpOp->List Expr->Pos->Bool):Bool:=if h:e.ctorIdx=15 then @Expr.Compare.elim (λ_=>Bool) e h k else a9
def ot{e:Expr}{k:Expr->List CmpOp->List Expr->Pos->Bool}(h:oq e k=a8):∃f c b X,e = .Compare f c b X/\k f c b X=a8:=by
 let{H,h}:=bI h;exact Expr.Compare.elim (motive_1:=λe=>∀g,@Expr.Compare.elim (λ_=>Bool) e g k=a8->∃f c b X,e = .Compare f c b X/\k f c b X=a8) e H (λf c b X _ j=>⟨f,c,b,X,rfl,j⟩) H h
abbrev uX(e:Expr)(k:Expr->List Expr->List Keyword->Pos->Bool):Bool:=if h:e.ctorIdx=16 then @Expr.Call.elim (λ_=>Bool) e h k else a9
def sH{e:Expr}{k:Expr->List Expr->List Keyword->Pos->Bool}(h:uX e k=a8):∃f c b X,e = .Call f c b X/\k f c b X=a8:=by
 let{H,h}:=bI h;exact Expr.Call.elim (motive_1:=λe=>∀g,@Expr.Call.elim (λ_=>Bool) e g k=a8->∃f c b X,e = .Call f c b X/\k f c b X=a8) e H (λf c b X _ j=>⟨f,c,b,X,rfl,j⟩) H h
abbrev dH(e:Expr)(k:Const->Nat->Pos->Bool):Bool:=if h:e.ctorIdx=19 then @Expr.Constant.elim (λ_=>Bool) e h k else a9
def cU{e:Expr}{k:Const->Nat->Pos->Bool}(h:dH e k=a8):∃c b X,e = .Constant c b X/\k c b X=a8:=by
 let{H,h}:=bI h;exact Expr.Constant.elim (motive_1:=λe=>∀f,@Expr.Constant.elim (λ_=>Bool) e f k=a8->∃c b X,e = .Constant c b X/\k c b X=a8) e H (λc b X _ g=>⟨c,b,X,rfl,g⟩) H h
abbrev ou(e:Expr)(k:Expr->Str->Pos->Bool):Bool:=if h:e.ctorIdx=20 then @Expr.Attribute.elim (λ_=>Bool) e h k else a9
def sI{e:Expr}{k:Expr->Str->Pos->Bool}(h:ou e k=a8):∃c b X,e = .Attribute c b X/\k c b X=a8:=by
 let{H,h}:=bI h;exact Expr.Attribute.elim (motive_1:=λe=>∀f,@Expr.Attribute.elim (λ_=>Bool) e f k=a8->∃c b X,e = .Attribute c b X/\k c b X=a8) e H (λc b X _ g=>⟨c,b,X,rfl,g⟩) H h
abbrev dY(e:Expr)(k:Expr->Expr->Pos->Bool):Bool:=if h:e.ctorIdx=21 then @Expr.Subscript.elim (λ_=>Bool) e h k else a9
def dC{e:Expr}{k:Expr->Expr->Pos->Bool}(h:dY e k=a8):∃c b X,e = .Subscript c b X/\k c b X=a8:=by
 let{H,h}:=bI h;exact Expr.Subscript.elim (motive_1:=λe=>∀f,@Expr.Subscript.elim (λ_=>Bool) e f k=a8->∃c b X,e = .Subscript c b X/\k c b X=a8) e H (λc b X _ g=>⟨c,b,X,rfl,g⟩) H h
abbrev uY(e:Expr)(k:Str->Pos->Bool):Bool:=if h:e.ctorIdx=23 then @Expr.Name.elim (λ_=>Bool) e h k else a9
def mH{e:Expr}{k:Str->Pos->Bool}(h:uY e k=a8):∃b X,e = .Name b X/\k b X=a8:=by
 let{H,h}:=bI h;exact Expr.Name.elim (motive_1:=λe=>∀c,@Expr.Name.elim (λ_=>Bool) e c k=a8->∃b X,e = .Name b X/\k b X=a8) e H (λb X _ f=>⟨b,X,rfl,f⟩) H h
abbrev Lg(e:Expr)(k:List Expr->Pos->Bool):Bool:=if h:e.ctorIdx=24 then @Expr.List.elim (λ_=>Bool) e h k else a9
def zE{e:Expr}{k:List Expr->Pos->Bool}(h:Lg e k=a8):∃b X,e = .List b X/\k b X=a8:=by
 let{H,h}:=bI h;exact Expr.List.elim (motive_1:=λe=>∀c,@Expr.List.elim (λ_=>Bool) e c k=a8->∃b X,e = .List b X/\k b X=a8) e H (λb X _ f=>⟨b,X,rfl,f⟩) H h
abbrev Ep(e:Expr)(k:List Expr->Nat->Pos->Bool):Bool:=if h:e.ctorIdx=25 then @Expr.Tuple.elim (λ_=>Bool) e h k else a9
def Er{e:Expr}{k:List Expr->Nat->Pos->Bool}(h:Ep e k=a8):∃c b X,e = .Tuple c b X/\k c b X=a8:=by
 let{H,h}:=bI h;exact Expr.Tuple.elim (motive_1:=λe=>∀f,@Expr.Tuple.elim (λ_=>Bool) e f k=a8->∃c b X,e = .Tuple c b X/\k c b X=a8) e H (λc b X _ g=>⟨c,b,X,rfl,g⟩) H h
abbrev Es(e:Expr)(k:Option Expr->Option Expr->Option Expr->Pos->Bool):Bool:=if h:e.ctorIdx=26 then @Expr.Slice.elim (λ_=>Bool) e h k else a9
def Et{e:Expr}{k:Option Expr->Option Expr->Option Expr->Pos->Bool}(h:Es e k=a8):∃f c b X,e = .Slice f c b X/\k f c b X=a8:=by
 let{H,h}:=bI h;exact Expr.Slice.elim (motive_1:=λe=>∀g,@Expr.Slice.elim (λ_=>Bool) e g k=a8->∃f c b X,e = .Slice f c b X/\k f c b X=a8) e H (λf c b X _ j=>⟨f,c,b,X,rfl,j⟩) H h
abbrev xL(e:Expr):Bool:=!(e.ctorIdx == 22 || uX e λf E b _=>f.ctorIdx == 23 && E.isEmpty && b.isEmpty)
abbrev Ii(e:Expr):Bool:=!(e.ctorIdx == 0 || e.ctorIdx == 5 || e.ctorIdx == 15 || jM e λo _ _=>decide (o = .Not))
abbrev jN(own N:List Str):List Nat:=(Zm N.length).filter λi=>match N[i]? with
 |some x=>own.contains x
 |none=>a9
abbrev Blk.inner(b:Blk)(own:List Str)(c:Scope):Blk:={gA c b.sc,aD c,dP (jN own b.N) b.N++own}
abbrev mh(e:Expr):Option (Str×Pos):=if h:e.ctorIdx=23 then aD (@Expr.Name.elim (λ_=>Str×Pos) e h λx p=>(x,p)) else aT
abbrev pO(e:Expr):Option (List Expr×Nat×Pos):=if h:e.ctorIdx=25 then aD (@Expr.Tuple.elim (λ_=>List Expr×Nat×Pos) e h λE k p=>(E,k,p)) else aT
def Lh{b:Type}{P:Prop}[Decidable P]{f:P->b}{r:b}(h:(if p:P then aD (f p) else aT)=aD r):∃p,f p=r:=by
 by_cases p:P
 .rw[dif_pos p]at h;cases h;exact⟨p,rfl⟩
 .rw[dif_neg p]at h;cases h
def eN{e:Expr}{x:Str}{p:Pos}(h:mh e=aD (x,p)):e = .Name x p:=by
 let{H,h}:=Lh h;exact Expr.Name.elim (motive_1:=λe=>∀b,Expr.Name.elim (motive_1:=λ_=>Str×Pos) e b (λx p=>(x,p))=(x,p)->e = .Name x p) e H (λ_ _ _ c=>by cases c;rfl) H h
def iE{e:Expr}{E:List Expr}{k:Nat}{p:Pos}(h:pO e=aD (E,k,p)):e = .Tuple E k p:=by
 let{H,h}:=Lh h;exact Expr.Tuple.elim (motive_1:=λe=>∀b,Expr.Tuple.elim (motive_1:=λ_=>List Expr×Nat×Pos) e b (λE k p=>(E,k,p))=(E,k,p)->e = .Tuple E k p) e H (λ_ _ _ _ c=>by cases c;rfl) H h
abbrev oA{b:Type}(o:Option b)(k:b->Bool):Bool:=match o with
 |some r=>k r
 |none=>a9
def fH{b:Type}{o:Option b}{k:b->Bool}(h:oA o k=a8):∃r,o=aD r/\k r=a8:=by
 cases o with
 |none=>cases h
 |some r=>exact⟨r,rfl,h⟩
def Ij{a b:Bool}(h:(a || b)=a8):a=a8\/b=a8:=by cases a;exact .inr h;exact .inl rfl
mutual
noncomputable def uZ(b:Blk)(e:Expr):Tg->Bool
 |.n i=>oA (mh e) λr=>b.N[i]? == aD r.1 && b.own r.1
 |.tup ts=>oA (pO e) λr=>ow b r.1 ts
noncomputable def ow(b:Blk)(E:List Expr):List Tg->Bool
 |[]=>E.isEmpty
 |t::ts=>lC E λe E=>uZ b e t && aI e && ow b E ts
end
abbrev R8(e:Expr):Bool:=dH e λc _ _=>decide (c = .none)
abbrev sBl(v:Bool)(e:Expr):Bool:=dH e λc _ _=>decide (c = .bool v)
abbrev Ik(v:Int)(e:Expr):Bool:=dH e λc _ _=>decide (c = .int v)
abbrev sJ(v:Str)(e:Expr):Bool:=dH e λc _ _=>decide (c = .str v)
abbrev eO(k:Str->Bool)(e:Expr):Bool:=uY e λx _=>k x
abbrev NG(k:List Expr->Bool)(e:Expr):Bool:=Ep e λE _ _=>k E
abbrev sK(k:List Expr->Bool)(e:Expr):Bool:=Lg e λE _=>k E
abbrev BM(o:VQ)(k l:Expr->Bool)(e:Expr):Bool:=Ek e λx op y _=>decide (op=o) && k x && l y
abbrev R9(k:Expr->Bool)(e:Expr):Bool:=jM e λo x _=>decide (o = .USub) && k x
abbrev Il(k:Expr->Bool)(e:Expr):Bool:=jM e λo x _=>decide (o = .Not) && k x
abbrev Im(o:CmpOp)(k l:Expr->Bool)(e:Expr):Bool:=oq e λx os Y _=>l1 os λop=>l1 Y λy=>decide (op=o) && k x && l y && aI y
abbrev NH(o p:CmpOp)(k l m:Expr->Bool)(e:Expr):Bool:=oq e λx os Y _=>lC os λop os=>l1 os λO=>lC Y λy Y=>l1 Y λz=>decide (op=o) && decide (O=p) && k x && l y && m z && aI z
abbrev BN(o:BoolOp)(k l:Expr->Bool)(e:Expr):Bool:=sG e λop v _=>lC v λx v=>l1 v λy=>decide (op=o) && k x && l y
abbrev Eu(o:BoolOp)(k l:Expr->Bool)(e:Expr):Bool:=sG e λop v p=>lC v λx v=>lC v λy v=>lC v λz Y=>decide (op=o) && k x && l (.BoolOp o (y::z::Y) p)
abbrev Se(k l m:Expr->Bool)(e:Expr):Bool:=Em e λx y z _=>k x && l y && m z
abbrev sIx(k l:Expr->Bool)(e:Expr):Bool:=dY e λx y _=>k x && l y && aI y
abbrev sSl(k:Expr->Bool)(l m:Option Expr->Bool)(e:Expr):Bool:=dY e λx s _=>Es s λy z w _=>w.isNone && k x && l y && m z
abbrev sCN(e:Expr)(k:Str->List Expr->List Keyword->Bool):Bool:=uX e λf E b _=>uY f λx _=>k x E b
abbrev Ew(k:Str->Bool)(l:List Expr->Bool)(e:Expr):Bool:=sCN e λx E b=>lC E λe E=>b.isEmpty && k x && l (e::E)
abbrev xM(b:Blk)(f:Str)(k:List Expr->Bool)(e:Expr):Bool:=sCN e λx E c=>lC E λe E=>c.isEmpty && x == f && b.glo x && k (e::E)
abbrev cD(b:Blk)(f:Str)(k:Expr->Bool)(e:Expr):Bool:=sCN e λx E c=>l1 E λe=>c.isEmpty && x == f && b.glo x && k e && aI e
abbrev sL(b:Blk)(f:Str)(k l:Expr->Bool)(e:Expr):Bool:=sCN e λx E g=>lC E λe E=>l1 E λc=>g.isEmpty && (x == f && b.glo x && k e && aI e && l c && aI c)
abbrev sM(m:Str)(k:Expr->Bool)(l:List Expr->Bool)(e:Expr):Bool:=uX e λf E b p=>ou f λx M c=>b.isEmpty && M == m && xL x && (c.endLine == p.line) && k x && l E
abbrev Li(k:Expr->Expr->Expr->List Expr->List W2->Scope->Bool)(e:Expr):Bool:=kC e λe gs b _=>lC gs λg gs=>decide (g.is_async=0) && k e g.target g.iter g.ifs gs b
abbrev Lj(e:Expr):Bool:=Eo e λb v _=>b.isEmpty && v.isEmpty
abbrev Lk(k l:Expr->Bool)(e:Expr):Bool:=Eo e λb v _=>l1 b λx=>l1 v λy=>match x with
 |some x=>k x && l y
 |none=>a9
def eP{x y:Str}(h:(x == y)=a8):x=y:=eq_of_beq h
section
variable {e:Expr} {k l m:Expr->Bool}
def NI(h:R8 e=a8):∃a p,e = .Constant .none a p:=by
 let{c,a,p,rfl,h}:=cU h;cases ω h;exact⟨a,p,rfl⟩
def Ex{v:Bool}(h:sBl v e=a8):∃a p,e = .Constant (.bool v) a p:=by
 let{c,a,p,rfl,h}:=cU h;cases ω h;exact⟨a,p,rfl⟩
def xN{v:Int}(h:Ik v e=a8):∃a p,e = .Constant (.int v) a p:=by
 let{c,a,p,rfl,h}:=cU h;cases ω h;exact⟨a,p,rfl⟩
def kD{v:Str}(h:sJ v e=a8):∃a p,e = .Constant (.str v) a p:=by
 let{c,a,p,rfl,h}:=cU h;cases ω h;exact⟨a,p,rfl⟩
def bR{k:Str->Bool}(h:eO k e=a8):∃x p,e = .Name x p/\k x=a8:=mH h
def Ey{k:List Expr->Bool}(h:NG k e=a8):∃x a p,e = .Tuple x a p/\k x=a8:=Er h
def jh{k:List Expr->Bool}(h:sK k e=a8):∃x p,e = .List x p/\k x=a8:=zE h
def oz{o:VQ}(h:BM o k l e=a8):∃x y p,e = .BinOp x o y p/\k x=a8/\l y=a8:=by
 let{x,op,y,p,rfl,h}:=El h;let{H,z}:=an3 h;cases ω H;exact⟨x,y,p,rfl,z⟩
def NJ(h:R9 k e=a8):∃x p,e = .UnaryOp .USub x p/\k x=a8:=by
 let{op,x,p,rfl,h}:=oo h;let{H,z}:=an2 h;cases ω H;exact⟨x,p,rfl,z⟩
def xO(h:Il k e=a8):∃x p,e = .UnaryOp .Not x p/\k x=a8:=by
 let{op,x,p,rfl,h}:=oo h;let{H,z}:=an2 h;cases ω H;exact⟨x,p,rfl,z⟩
def xP{o:CmpOp}(h:Im o k l e=a8):∃x y p,e = .Compare x [o] [y] p/\k x=a8/\l y=a8/\aI y=a8:=by
 let{x,os,Y,p,rfl,h}:=ot h;let{op,rfl,h}:=cy h;let{y,rfl,h}:=cy h;let{H,z}:=an4 h;cases ω H;exact⟨x,y,p,rfl,z⟩
def Ez{o p:CmpOp}(h:NH o p k l m e=a8):∃x y z q,e = .Compare x [o,p] [y,z] q/\k x=a8/\l y=a8/\m z=a8/\aI z=a8:=by
 let{x,os,Y,q,rfl,h}:=ot h;let{op,os,rfl,h}:=bP h;let{O,rfl,h}:=cy h;let{y,Y,rfl,h}:=bP h;let{z,rfl,h}:=cy h;let{H,b,Z}:=an6 h;cases ω H;cases ω b;exact⟨x,y,z,q,rfl,Z⟩
def oB{o:BoolOp}(h:BN o k l e=a8):∃x y p,e = .BoolOp o [x,y] p/\k x=a8/\l y=a8:=by
 let{op,v,p,rfl,h}:=qv h;let{x,v,rfl,h}:=bP h;let{y,rfl,h}:=cy h;let{H,z}:=an3 h;cases ω H;exact⟨x,y,p,rfl,z⟩
def sN{o:BoolOp}(h:Eu o k l e=a8):∃x y z ys p,e = .BoolOp o (x::y::z::ys) p/\k x=a8/\l (.BoolOp o (y::z::ys) p)=a8:=by
 let{op,v,p,rfl,h}:=qv h;let{x,v,rfl,h}:=bP h;let{y,v,rfl,h}:=bP h;let{z,v,rfl,h}:=bP h;let{H,Z}:=an3 h;cases ω H;exact⟨x,y,z,v,p,rfl,Z⟩
def NK(h:Se k l m e=a8):∃x y z p,e = .IfExp x y z p/\k x=a8/\l y=a8/\m z=a8:=by
 let{x,y,z,p,rfl,h}:=En h;exact{x,y,z,p,rfl,an3 h}
def EA(h:sIx k l e=a8):∃x y p,e = .Subscript x y p/\k x=a8/\l y=a8/\aI y=a8:=by
 let{x,y,p,rfl,h}:=dC h;exact{x,y,p,rfl,an3 h}
def Sf{l m:Option Expr->Bool}(h:sSl k l m e=a8):∃x y z p q,e = .Subscript x (.Slice y z aT p) q/\k x=a8/\l y=a8/\m z=a8:=by
 let{x,s,q,rfl,h}:=dC h;let{y,z,w,p,rfl,h}:=Et h;let{H,Z}:=an4 h;cases w;exact⟨x,y,z,p,q,rfl,Z⟩;cases H
def qx{k:Str->List Expr->List Keyword->Bool}(h:sCN e k=a8):∃x p E b q,e = .Call (.Name x p) E b q/\k x E b=a8:=by
 let{f,E,b,q,rfl,h}:=sH h;let{x,p,rfl,h}:=mH h;exact⟨x,p,E,b,q,rfl,h⟩
def zF{k:Str->Bool}{l:List Expr->Bool}(h:Ew k l e=a8):∃x X E p q,e = .Call (.Name x p) (X::E) [] q/\k x=a8/\l (X::E)=a8:=by
 let{x,p,E,b,q,rfl,h}:=qx h;let{X,E,rfl,h}:=bP h;let{H,z}:=an3 h;cases cG H;exact⟨x,X,E,p,q,rfl,z⟩
def u4{b:Blk}{f:Str}{k:List Expr->Bool}(h:xM b f k e=a8):∃x E p q,e = .Call (.Name f p) (x::E) [] q/\b.glo f=a8/\k (x::E)=a8:=by
 let{x,p,E,g,q,rfl,h}:=qx h;let{X,E,rfl,h}:=bP h;let{H,c,z}:=an4 h;cases cG H;cases eP c;exact⟨X,E,p,q,rfl,z⟩
def bp{b:Blk}{f:Str}(h:cD b f k e=a8):∃x p q,e = .Call (.Name f p) [x] [] q/\b.glo f=a8/\k x=a8/\aI x=a8:=by
 let{x,p,E,g,q,rfl,h}:=qx h;let{X,rfl,h}:=cy h;let{H,c,z}:=an5 h;cases cG H;cases eP c;exact⟨X,p,q,rfl,z⟩
abbrev Ll(k l:Str->Bool)(m:Expr->Bool)(a:List Expr->Bool)(e:Expr):Bool:=uX e λc E b _=>lC E λe E=>b.isEmpty && a (e::E) && sIx (sK λw=>lC w λx w=>l1 w λy=>(uY x λx _=>k x) && uY y λy _=>l y) m c
def Io{k l:Str->Bool}{m:Expr->Bool}{a:List Expr->Bool}(h:Ll k l m a e=a8):∃x y p j L i g X E q,e = .Call (.Subscript (.List [.Name x p,.Name y j] L) i g) (X::E) [] q/\k x=a8/\l y=a8/\m i=a8/\aI i=a8/\a (X::E)=a8:=by
 let{c,E,C,q,rfl,h}:=sH h;let{X,E,rfl,h}:=bP h;let{u,z,B}:=an3 h;cases cG u;let{w,i,g,rfl,H,o,v}:=EA B;let{w,L,rfl,H}:=zE H;let{x,w,rfl,H}:=bP H;let{y,rfl,H}:=cy H;let{f,b}:=an2 H;let{x,p,rfl,f}:=mH f;let{y,j,rfl,b}:=mH b;exact⟨x,y,p,j,L,i,g,X,E,q,rfl,f,b,o,v,z⟩
def fI{b:Blk}{f:Str}(h:sL b f k l e=a8):∃x y p q,e = .Call (.Name f p) [x,y] [] q/\b.glo f=a8/\k x=a8/\aI x=a8/\l y=a8/\aI y=a8:=by
 let{x,p,E,g,q,rfl,h}:=qx h;let{X,E,rfl,h}:=bP h;let{y,rfl,h}:=cy h;let{H,Y}:=an2 h;let{c,z}:=an6 Y;cases cG H;cases eP c;exact⟨X,y,p,q,rfl,z⟩
def fU{m:Str}{l:List Expr->Bool}(h:sM m k l e=a8):∃x b E p,e = .Call (.Attribute x m b) E [] p/\xL x=a8/\(b.endLine == p.line)=a8/\k x=a8/\l E=a8:=by
 let{f,E,g,p,rfl,h}:=sH h;let{x,M,b,rfl,h}:=sI h;let{H,c,z}:=an6 h;cases cG H;cases eP c;exact⟨x,b,E,p,rfl,z⟩
def zG{k:Expr->Expr->Expr->List Expr->List W2->Scope->Bool}(h:Li k e=a8):∃E t i ifs gs b p,e = .ListComp E (⟨t,i,ifs,0⟩::gs) b p/\k E t i ifs gs b=a8:=by
 let{E,gs,b,p,rfl,h}:=lF h;let{⟨t,i,ifs,c⟩,gs,rfl,h}:=bP h;let{H,z}:=an2 h;cases ω H;exact⟨E,t,i,ifs,gs,b,p,rfl,z⟩
def Ip(h:Lj e=a8):∃p,e = .Dict [] [] p:=by
 let{c,v,p,rfl,h}:=zD h;let{H,b}:=an2 h;cases cG H;cases cG b;exact⟨p,rfl⟩
def Iq(h:Lk k l e=a8):∃x y p,e = .Dict [aD x] [y] p/\k x=a8/\l y=a8:=by
 let{b,v,p,rfl,h}:=zD h;let{x,rfl,h}:=cy h;let{y,rfl,h}:=cy h;cases x with
 |none=>cases h
 |some x=>exact{x,y,p,rfl,an2 h}
end
abbrev EB(f:Expr->CE->Bool)(l:Option Expr):Option CE->Bool
 |none=>l.isNone
 |some c=>oA l λe=>f e c
abbrev EC(f:Expr->CE->Bool)(l:List Expr):Option CE->Bool
 |none=>l.isEmpty
 |some c=>l1 l λe=>f e c
abbrev clC(cls:List Cl)(k:Tg->CI->Option CE->List Cl->Bool):Bool:=match cls with
 |[]=>a9
 |⟨tg,it,cond⟩::rest=>k tg it cond rest
def Lm{cls:List Cl}{k:Tg->CI->Option CE->List Cl->Bool}(h:clC cls k=a8):∃T I cond b,cls=⟨T,I,cond⟩::b/\k T I cond b=a8:=by
 cases cls with
 |nil=>cases h
 |cons g b=>let{T,I,cond}:=g;exact⟨T,I,cond,b,rfl,h⟩
mutual
noncomputable def aG(T:Tab):Nat->Blk->Expr->CE->Bool
 |0,_,_,_=>a9
 |n+1,b,e,c=>match c with
  |.non=>R8 e
  |.bl v=>sBl v e
  |.int i=>Ik i e
  |.str x=>sJ x e
  |.v i=>eO (λx=>b.N[i]? == aD x && b.vis x) e
  |.con k v=>eO (λx=>T.con[k]? == aD (x,.i v) && b.glo x) e
  |.txc k v=>eO (λx=>T.con[k]? == aD (x,.s v) && b.glo x) e
  |.tup cs=>NG (λE=>cK T n b E cs) e
  |.lst cs=>sK (λE=>cK T n b E cs) e
  |.dic0=>Lj e
  |.dic1 i j=>Lk (Ik i) (eO λx=>b.N[j]? == aD x && b.vis x) e
  |.b o a c=>BM o.op (λx=>aG T n b x a) (λx=>aG T n b x c) e
  |.neg a=>R9 (λx=>aG T n b x a) e
  |.m o a c=>Im o.op (λx=>aG T n b x a) (λx=>aG T n b x c) e
  |.h o p a c d=>NH o.op p.op (λx=>aG T n b x a) (λx=>aG T n b x c) (λx=>aG T n b x d) e
  |.d a c=>BN .And (λx=>aG T n b x a) (λx=>aG T n b x c) e || Eu .And (λx=>aG T n b x a) (λx=>aG T n b x c) e
  |.or a c=>BN .Or (λx=>aG T n b x a) (λx=>aG T n b x c) e || Eu .Or (λx=>aG T n b x a) (λx=>aG T n b x c) e
  |.n a=>Il (λx=>aG T n b x a) e
  |.ite t a c=>Se (λx=>fV T n b x t) (λx=>aG T n b x a) (λx=>aG T n b x c) e
  |.x a c=>sIx (λx=>aG T n b x a) (λx=>aG T n b x c) e
  |.sl a lo hi=>sSl (λx=>aG T n b x a) (λl=>EB (aG T n b) l lo) (λl=>EB (aG T n b) l hi) e
  |.cal2 f g i cs=>Ll (λx=>oA T.fns[f]? (λy=>y.1 == x) && b.glo x) (λx=>oA T.fns[g]? (λy=>y.1 == x) && b.glo x) (λx=>aG T n b x i) (λE=>cK T n b E cs) e
  |.c f cs=>Ew (λx=>oA T.fns[f]? (λy=>y.1 == x) && b.glo x) (λE=>cK T n b E cs) e
  |.s t a=>sL b "isinstance" (λx=>aG T n b x a) (eO λy=>y == Str.ofString t.nm && b.glo y) e
  |.e a=>cD b "len" (λx=>aG T n b x a) e
  |.all a=>cD b "all" (λx=>aG T n b x a) e
  |.t a=>cD b "tuple" (λx=>aG T n b x a) e
  |.listOf a=>cD b "list" (λx=>aG T n b x a) e
  |.l a=>cD b "list" (cD b "range" λx=>aG T n b x a) e
  |.srt a=>cD b "sorted" (λx=>aG T n b x a) e
  |.strI a=>cD b "str" (λx=>aG T n b x a) e
  |.lenS a=>cD b "len" (λx=>aG T n b x a) e
  |.intX a=>cD b "int" (λx=>aG T n b x a) e
  |.mx a c=>xM b "max" (λE=>cK T n b E [a,c]) e
  |.mn a c=>xM b "min" (λE=>cK T n b E [a,c]) e
  |.rep a=>cD b "repr" (λx=>aG T n b x a) e
  |.o own elt cls=>clC cls λu I cond q=>Li (λz t i ifs gs h=>cmB own (jN own b.N) b.N h b.sc && sO T n b t i I && uZ (b.inner own h) t u && EC (fV T n (b.inner own h)) ifs cond && qy T n (b.inner own h) z gs elt q) e
  |.app o a=>sM "append" (λx=>aG T n b x o) (λE=>cK T n b E [a]) e
  |.q o a=>sM "pop" (λx=>aG T n b x o) (λE=>cK T n b E [a]) e
  |.ins o i a=>sM "insert" (λx=>aG T n b x o) (λE=>cK T n b E [i,a]) e
  |.cnt o a=>sM "count" (λx=>aG T n b x o) (λE=>cK T n b E [a]) e
  |.join o a=>sM "join" (λx=>aG T n b x o) (λE=>cK T n b E [a]) e
  |.spl o a=>sM "split" (λx=>aG T n b x o) (λE=>cK T n b E [a]) e
noncomputable def cK(T:Tab):Nat->Blk->List Expr->List CE->Bool
 |0,_,_,_=>a9
 |n+1,b,E,cs=>match cs with
  |[]=>E.isEmpty
  |c::cs=>lC E λe E=>aG T n b e c && aI e && cK T n b E cs
noncomputable def qy(T:Tab):Nat->Blk->Expr->List W2->CE->List Cl->Bool
 |0,_,_,_,_,_=>a9
 |n+1,b,e,gs,elt,cls=>match cls with
  |[]=>gs.isEmpty && aG T n b e elt
  |⟨tg,it,cond⟩::rest=>lC gs λg gs=>decide (g.is_async=0) && sO T n b g.target g.iter it && uZ b g.target tg && EC (fV T n b) g.ifs cond && qy T n b e gs elt rest
noncomputable def sO(T:Tab):Nat->Blk->Expr->Expr->CI->Bool
 |0,_,_,_,_=>a9
 |n+1,b,t,e,c=>match c with
  |.p a=>aG T n b e a && aI e
  |.chr a=>aG T n b e a && aI e
  |.wds k v=>eO (λx=>T.con[k]? == aD (x,.w v) && b.glo x) e
  |.r1 a=>cD b "range" (λx=>aG T n b x a) e
  |.r2 a c=>sL b "range" (λx=>aG T n b x a) (λx=>aG T n b x c) e
  |.en a=>cD b "enumerate" (λx=>aG T n b x a) e && NG (λ_=>a8) t
noncomputable def fV(T:Tab):Nat->Blk->Expr->CE->Bool
 |0,_,_,_=>a9
 |n+1,b,e,c=>match c with
  |.m o a c=>Im o.op (λx=>aG T n b x a) (λx=>aG T n b x c) e
  |.h o p a c d=>NH o.op p.op (λx=>aG T n b x a) (λx=>aG T n b x c) (λx=>aG T n b x d) e
  |.d a c=>BN .And (λx=>fV T n b x a) (λx=>fV T n b x c) e || Eu .And (λx=>fV T n b x a) (λx=>fV T n b x c) e
  |.or a c=>BN .Or (λx=>fV T n b x a) (λx=>fV T n b x c) e || Eu .Or (λx=>fV T n b x a) (λx=>fV T n b x c) e
  |.n a=>Il (λx=>fV T n b x a) e
  |.ite _ _ _=>a9
  |c=>aG T n b e c && Ii e
end
def dJ{T:Tab}{n:Nat}{b:Blk}{t e:Expr}{c:CI}(h:sO T n b t e c=a8)(H:∀e,aI e=a8->∀env x,Zay e env x=pure x):∀env x,Zay e env x=pure x:=by
 cases n with
 |zero=>cases h
 |succ n=>
  cases c with
  |p a=>exact H e (an2 h).2
  |chr a=>exact H e (an2 h).2
  |wds k v=>let{x,p,rfl,_}:=bR h;intro _ _;rfl
  |r1 a=>let{x,p,q,rfl,_}:=bp h;intro _ _;rfl
  |r2 a c=>let{x,y,p,q,rfl,_}:=fI h;intro _ _;rfl
  |en a=>let{x,p,q,rfl,_}:=bp (an2 h).1;intro _ _;rfl
abbrev bK(h:Heap)(C:Addr)(B:List Value):Prop:=∃N nm q bs H o sub u c v p g b f j M,h.get? C=aD (Zax nm q C N bs B H o sub u c v p g b f j "ValueError.__new__")/\h.Ns N M/\∀n∈quN,M n=aT
def bK.keeps(x:bK h C bm)(k:∀b o,h.get? b=aD o->h'.get? b=aD o):bK h' C bm:=by
 let{N,nm,q,bs,H,v,sub,z,c,B,y,p,f,j,u,M,hC,hN,g}:=x;exact{N,nm,q,bs,H,v,sub,z,c,B,y,p,f,j,u,M,k _ _ hC,hN.keeps k,g}
section
variable {prog:Program} {w:World} {M:Model} {A:Around} {E:Value->Shared->Prop} {h:Heap} {g:Array VO} {d:Drawn} {t:Nat} {O:OsState} {a C R:Addr} {o:Obj} {vs:Array Value}
def xQ(u:n∈quN)(hC:bK h C (.ref R::bmV))(hR:bK h R bmV)(v:ZaZ (.type "ValueError") n=pure y)(hq:Q y ⟨h,g,d,t,O⟩):wpAny M A (ZaZ (.ref C) n) Q E ⟨h,g,d,t,O⟩:=by
 let{N,nm,q,bs,B,sn,sub,ab,col,dd,k0,k1,k2,k3,k5,mN,hC,hN,j}:=hC;let{N',X,q',Y,c,T,z,Z,p,dd',k0',I,U,J,k5',L,hR,f,b}:=hR;let H:ZaE bmV n=pure y:=by rw[typeLookup_eq,PySem.F.excBase_ValueError.mroIs]at v;exact v
 rw[typeLookup_eq];calc Za4 (wpAny_mroOf_exc hC ?_);rw[lookupAlong_cons];calc Za4 (wpAny_classOwn_exc hC hN ?_);rw[j n u];show wpAny M A (ZaE (.ref R::bmV) n) Q E _;rw[lookupAlong_cons];calc Za4 (wpAny_classOwn_exc hR f ?_);rw[b n u];show wpAny M A (ZaE bmV n) Q E _;rw[H];exact Zbn hq
def u5:ZaZ (.type "ValueError") "__class__" = pure (aD (.builtin "object.__class__")):=by rw[typeLookup_type,builtinLookup_eq_fast];kernel_rfl
def NL(hC:bK h C (.ref R::bmV))(f:h.get? a=aD o)(hc:o.cls = .ref C)(y:Q (.ok (.ret (.ref C))) ⟨h,g,d,t,O⟩) :
  codeAny (model prog w) A (.call (.builtin "getset_descriptor.__get__") ⟨[.builtin "object.__class__",.ref a,.ref C],[]⟩) Q ⟨h,g,d,t,O⟩:=by
 let{N,nm,q,bs,c,J,sub,T,p,U,L,B,v,z,I,u,hC,hN,j}:=hC;let H:(⟨h,g,d,t,O⟩:Shared).TypeIs (.builtin "object.__class__") "getset_descriptor" := VM
 let b:(Value.ref C :: .ref R::bmV).contains (.type (".".intercalate ("object.__class__".cutAt '.').dropLast))=a8:=by
  rw[PySem.F.owner_object_class,Z9,Z9];rfl
 refine Zar PySem.F.slot_gs_get.plain PySem.F.entry_gs_get (PySem.F.slot_gs_get.check _ _ _ _ _ _ _ _ H (PySem.F.args_gs_get _ _ _) ?_)
 repeat (any_goals (first |assumption |(with_reducible calc Zbh f ?_;rw[hc]) |(with_reducible calc Zbd hC ?_;rw[b]) |wp_step))
 refine{Code.quiet_builtin _ (by decide +kernel),codeAny_builtin PySem.F.entry_object_class ?_}
 repeat (any_goals (first |assumption |(with_reducible calc Zbh f ?_;rw[hc]) |wp_step))
def ED(hC:bK h C (.ref R::bmV))(hR:bK h R bmV)(H:h.get? a=aD o)(hc:o.cls = .ref C)(f:Q (.done (.ret (.ref C))) ⟨h,g,d,t,O⟩) :
  wpAny (model prog w) A (Builtin.«object.__getattribute__» ⟨[.ref a,.str "__class__" T],[]⟩) Q E ⟨h,g,d,t,O⟩:=by
 let b:(⟨h,g,d,t,O⟩:Shared).TypeIs (.builtin "object.__class__") "getset_descriptor" := VM;let j:=VM;let p:=PySem.F.slot_gs_get.lookup;let q:=PySem.F.slot_gs_set.lookup;let c:("__class__" : Str)∈quN:=.tail _ (.tail _ (.tail _ (.head _)))
 repeat (any_goals (first |assumption |(with_reducible calc Zbh H ?_;rw[hc]) |with_reducible refine xQ c hC hR u5 ?_ |wp_step))
 refine NL hC H hc ?_
 repeat (any_goals (first |assumption |wp_step))
def EF(hC:bK h C (.ref R::bmV))(y:h.get? a=aD o)(hc:o.cls = .ref C)(v:Q () ⟨h,g,d,t,O⟩):wpAny M A (checkBuiltinCall "BaseException.__getattribute__" ⟨[.ref a,b],[]⟩) Q E ⟨h,g,d,t,O⟩:=by
 let{N,nm,q,bs,f,J,sub,Z,u,Y,U,T,L,B,I,X,hC,hN,p}:=hC;let j:builtinKind "BaseException.__getattribute__" = aD .slot:=by decide +kernel
 let H:splitId "BaseException.__getattribute__" = aD ("BaseException","__getattribute__"):=by decide +kernel
 let c:(Value.ref C :: .ref R::bmV).contains (.type "BaseException")=a8:=by rw[Z9,Z9];rfl
 let z:=PySem.F.args_bexc_ga (.ref a) b;simp![checkBuiltinCall,j,H];refine Za4 ?_
 .delta isInstance
  repeat (first |(with_reducible calc Zbh y ?_;rw[hc]) |(with_reducible calc Zbd hC ?_;rw[c]) |wp_step)
  exact v
def Sg(hC:bK h C (.ref R::bmV))(hR:bK h R bmV)(c:h.get? a=aD o)(hc:o.cls = .ref C)(p:Q (.ref C) ⟨h,g,d,t,O⟩) :
  wpAny (model prog w) A (getAttrBy (.ref a) (.str "__class__" T) a9) Q E ⟨h,g,d,t,O⟩:=by
 let FB:=PySem.F.attrBase_ValueError;let j:=FB.ga.bind (.ref a);let f:(Value.builtin "BaseException.__getattribute__" == Value.builtin "object.__getattribute__")=a9:=by decide +kernel
 let H:("__getattribute__" : Str)∈quN:=.tail _ (.head _);let b:("__getattr__" : Str)∈quN:=.tail _ (.tail _ (.head _))
 repeat (any_goals (first |assumption |(with_reducible calc Zbh c ?_;rw[hc]) |with_reducible refine xQ H hC hR FB.ga.lookup ?_ |with_reducible refine xQ b hC hR FB.noGetattr ?_ |wp_step))
 refine Zar FB.ga.plain PySem.F.entry_bexc_ga (EF hC c hc (ED hC hR c hc ?_))
 repeat (any_goals (first |assumption |wp_step))
def Ir(hC:bK h C (.ref R::bmV))(hR:bK h R bmV)(H:h.get? a=aD o)(hc:o.cls = .ref C)(b:Q (aD (.ref C)) ⟨h,g,d,t+1,O⟩):wpAny (model prog w) A (getAttr? (.ref a) "__class__") Q E ⟨h,g,d,t,O⟩:=by
 delta getAttr? getAttrBy?
 repeat (any_goals (first |assumption |with_reducible apply Sg hC hR H hc |wp_step))
end
abbrev qz(h:Heap)(e C:Addr):Prop:=∃o v,h.get? e=aD o/\o.cls = .ref C/\o.data = .fields v
abbrev qA(h:Heap)(D:Addr):Prop:=∃b c sl,h.get? D=aD {.type "type",b,.cls c,sl}
section
variable {prog:Program} {w:World} {M:Model} {A:Around} {E:Value->Shared->Prop} {s:Shared} {e C R D:Addr}
def zH{K:V6}{O:Value}{f:Option Addr}{v:ClassData}{sl:Array (Option Value)}(p:K.lookup C=aD {O,f,.cls v,sl}):PySem.W.KitX K (.ref e) (.ref C) (λh=>bK h C (.ref R::bmV)/\bK h R bmV/\qz h e C) where
 ty:=λM h _ ⟨_,_,o,_,b,c,_⟩=>c▸(PySem.W.Looks.ld b).andThen .now
 it:=λM h _ ⟨hC,_⟩=>by
  let{N,nm,q,bs,j,B,sub,ab,u,f,U,T,L,y,z,Z,hC,_}:=hC;intro A' Q J Y k q;delta isType loadHead;exact Za4 (wpAny_loadPart (k _ _ hC) (Zbn q))
 ne:=λh tp f I n sl X H=>by
  calc Z8.mpr λq=>?_;let e:C=tp:=Value.ref.inj (beq_iff_eq.mp q);subst e;rw[X _ _ p]at H;cases H
 ca:=λ{_ _ _ _ _ s} _ ⟨hC,hR,o,_,b,c,_⟩ hq=>by
  let{h,g,d,t,os}:=s;exact Ir hC hR b c hq
def isx{D:Addr}{Q:Value->Shared->Prop}(hC:bK s.heap C (.ref R::bmV))(hR:bK s.heap R bmV)(he:qz s.heap e C)(hD:qA s.heap D)(hr:D≠R)(h:∀U,Q (.bool (C == D)) {s with toks:=U}) :
  wpAny (model prog w) A (call (.builtin "isinstance") [.ref e,.ref D]) Q E s:=by
 let T:=hC;let{N,nm,q,bs,H,y,sub,O,f,L,J,I,B,u,v,mN,Y,_}:=T;let{j,c,g,hd}:=hD
 let X:PySem.W.Frag.In [(C,Zax nm q C N bs (.ref R::bmV) H y sub O f L J I B u v "ValueError.__new__"),(D,{.type "type",j,.cls c,g})] s.heap:=by
  intro b o p;rw[ZT]at p;split at p
  .rename_i z;cases p;rw[show b=C from by simpa using z];exact Y
  .rw[ZT]at p;split at p
   .rename_i z;cases p;rw[show b=D from by simpa using z];exact hd
   .cases p
 let l1:XR C [(C,Zax nm q C N bs (.ref R::bmV) H y sub O f L J I B u v "ValueError.__new__"),(D,({.type "type",j,.cls c,g}:Obj))]=aD (Zax nm q C N bs (.ref R::bmV) H y sub O f L J I B u v "ValueError.__new__"):=by
  rw[ZT,beq_self_eq_true]
 calc ON (zH (R:=R) l1) X ⟨hC,hR,he⟩ ?_ (λz=>nomatch z) h;delta OS;by_cases z:C=D
 .subst z;rw[if_pos (beq_self_eq_true _),beq_self_eq_true]
 .let z1:(C == D)=a9:=by simpa using z
  rw[if_neg (by simpa using z),z1]
  let l2:XR D [(C,Zax nm q C N bs (.ref R::bmV) H y sub O f L J I B u v "ValueError.__new__"),(D,({.type "type",j,.cls c,g}:Obj))]=aD {.type "type",j,.cls c,g}:=by
   rw[ZT,show(D == C)=a9 from by simpa using Ne.symm z,ZT,beq_self_eq_true]
  delta OR;dsimp!;rw[if_pos (by delta V9 PySem.W.typeIn;dsimp!;rw[l2];rfl)];delta Zae Zab V9;dsimp!;rw[l1];show aD ((Value.ref C :: .ref R::bmV).contains (.ref D))=_;rw[Z9,Z9];let Z:((Value.ref D) == Value.ref C)=a9:=by simpa using Ne.symm z
  let z3:((Value.ref D) == Value.ref R)=a9:=by simpa using hr
  rw[Z,z3];rfl
def isv{Q:Value->Shared->Prop}(hC:bK s.heap C (.ref R::bmV))(hR:bK s.heap R bmV)(U:qz s.heap e C)(h:∀T,Q (.bool a8) {s with toks:=T}) :
  wpAny (model prog w) A (call (.builtin "isinstance") [.ref e,.type "ValueError"]) Q E s:=by
 let B:=hC;let{N,nm,q,bs,H,p,sub,J,c,I,y,v,u,g,j,X,O,_}:=B
 let L:PySem.W.Frag.In [(C,Zax nm q C N bs (.ref R::bmV) H p sub J c I y v u g j "ValueError.__new__")] s.heap:=by
  intro b o f;rw[ZT]at f;split at f
  .rename_i z;cases f;rw[show b=C from by simpa using z];exact O
  .cases f
 let l1:XR C [(C,Zax nm q C N bs (.ref R::bmV) H p sub J c I y v u g j "ValueError.__new__")]=aD (Zax nm q C N bs (.ref R::bmV) H p sub J c I y v u g j "ValueError.__new__"):=by
  rw[ZT,beq_self_eq_true]
 calc ON (zH (R:=R) l1) L ⟨hC,hR,U⟩ ?_ (λz=>nomatch z) h;delta OS;rw[if_neg (by simp)];delta OR;dsimp!;rw[if_pos (by decide +kernel)];delta Zae Zab V9;dsimp!;rw[l1];show aD ((Value.ref C :: .ref R::bmV).contains (.type "ValueError"))=_;rw[Z9,Z9];rfl
def NM{h:Heap}{g:Array VO}{d:Drawn}{t:Nat}{os:OsState}{Q:Bool->Shared->Prop}(hC:bK h C (.ref R::bmV))(hR:bK h R bmV)(j:qz h e C)(Y:Q a8 ⟨h,g,d,t,os⟩):wpAny M A (excMatches (.ref e) (.ref R)) Q E ⟨h,g,d,t,os⟩:=by
 let{N,nm,q,bs,v,sn,sub,ab,X,dd,k0,k1,k2,k3,k5,mN,hC,_}:=hC;let{N',L,q',O,c,I,u,T,p,Z,k0',y,J,z,U,B,hR,_}:=hR;let{oe,vs,j,H,_}:=j;let b:(Value.ref R::bmV).contains (.type "BaseException")=a8:=by rw[Z9];rfl
 let o:(Value.ref C :: .ref R::bmV).contains (.ref R)=a8:=by simp
 let f:=tc_notTuple;delta excMatches
 repeat (first |(with_reducible calc Zbh j ?_;rw[H]) |with_reducible refine Zbh hR ?_ |with_reducible refine Zbh hC ?_ |(with_reducible calc Zbd hR ?_;rw[b]) |(with_reducible calc Zbd hC ?_;rw[o]) |wp_step)
 exact Y
end
structure XLeft(P:Program)(w:World)(outer:List Env)(H H':Hp)(s:Shared)(B:Heap)(s':Shared):Prop where
 os:s'.os=s.os
 bare:AllBare s'.gens
 un:Un (frs outer) [] H H' s.heap s'.heap
 keep:∀b o,s.heap.get? b=aD o->H b=aT->b∉frs outer->B.get? b=aD o
 there:∀b o,s.heap.get? b=aD o->b∉frs outer->∃o',B.get? b=aD o'
 hok:HOk P w H' B
abbrev CXE(P:Program)(w:World):CXT:=λouter H s E g b=>∃e c f h B,g = .ref e/\Heap.FlyingW B outer e c f b.heap/\XLeft P w outer H h s B b/\E c aT h
def Ln:m7 (CXE P w) X E0:=λ_ _ _ _ _ _ _ ⟨_,_,_,_,_,_,_,_,h⟩=>h.elim
section
variable {P:Program} {w:World} {O:List Env} {H h:Hp} {s a:Shared} {B:Heap} {e:Addr} {c A:Value} {h':Heap}
def XLeft.later(x:XLeft P w O H h s B a)(L:Heap.FlyingW B O e c A a.heap)(f:B.StaysIn h')(C:h'.FunFrames B O)(u:a.heap.UpToSlots h'){t:Nat}(E:AllBare g):XLeft P w O H h s B ⟨h',g,d,t,a.os⟩ where
 os:=x.os
 bare:=E
 un:=by
  let sl:∀b o,a.heap.get? b=aD o->b∈frs O->∃sl,h'.get? b=aD {o with slots:=sl}:=λb o q j=>by
   let{_,p,Q,I}:=L.2.2.1.mem j;rw[q]at Q;cases Q;exact u b o q I
  refine{λb o q n j _=>f b o (x.keep b o q n j),λb o q n j v=>?_,x.un.free,λb o q v=>?_,x.un.tups,x.un.frzs,x.un.tbls}
  .let{z,J}:=x.un.slot b o q n j v;let{Z,y}:=sl b _ J j;exact⟨Z,y⟩
  .by_cases j:b∈frs O
   .let{_,p,Q,_}:=C.mem j;exact⟨p,Q⟩
   .let{p,Q}:=x.there b o q j;exact{p,f b p Q}
 keep:=x.keep
 there:=x.there
 hok:=x.hok
end
section
variable {P:Program} {w:World} {K:V6} {m:Str->Option Value} {base:Heap} {N:List Str} {qual:Str} {scope:Scope} {f:Addr} {C:Value} {A:Around} {O:List Env} {s0:Shared} {h:Hp} {E:XK}
noncomputable abbrev cxE(P:Program)(w:World)(K:V6)(m:Str->Option Value)(base:Heap)(N:List Str)(qual:Str)(scope:Scope)(f:Addr)(C:Value)(A:Around)(O:List Env)(s0:Shared)(h:Hp)(E:XK):Cx:=pA (CXE P w) P w K m base N qual scope f C A O s0 h E
def u6:frs (envOfC qual scope s0⁻¹ f C::O)=s0⁻¹::frs O:=rfl
def Si:m7 (CXE P w) (cxE P w K m base N qual scope f C A O s0 h E) E:=by
 rintro U σ H s _ s' I ⟨e,c,a0,H',B,rfl,fl,x,hE⟩;let T:(A.deeper (envOfC qual scope s0⁻¹ f C)).frames=aD (envOfC qual scope s0⁻¹ f C::O):=I.ok.frames;show wpAny (model P w) (A.deeper (envOfC qual scope s0⁻¹ f C)) (leaving (envOfC qual scope s0⁻¹ f C) (.ref e)) _ _ s'
 let J:∀b o,s0.heap.get? b=aD o->b∉frs O->b∉frs (envOfC qual scope s0⁻¹ f C::O):=λb o q g Y=>by
  rw[u6]at Y;rcases Zl.mp Y with z |z
  .exact absurd (Zv q) (by rw[z];exact ZS _)
  .exact g z
 let j:Un (frs O) [] h H s0.heap s.heap:=I.base;calc wpAny_leaves_onW T rfl fl λh' X x2=>{e,c,a0,H',B,rfl,X,?_,hE};refine{x.os.trans I.os,x.bare,{λb o q n g p=>?_,λb o q n g p=>?_,λb o q n p=>?_,λb o q p=>?_,λb xs q=>x.un.tups b xs (j.tups b xs q),λb o u q=>x.un.frzs b o u (j.frzs b o u q),λb ps q=>?_},λb o q n g=>?_,λb o q g=>?_,x.hok}
 .exact X.1 b o (x.keep b o (j.keep b o q n g p) (j.free b o q n p) (J b o q g))
 .let{z,Q}:=j.slot b o q n g p;let{z2,L}:=x.un.slot b _ Q (j.free b o q n p) (show b∈s0⁻¹::frs O from Zh _ g) p
  let{_,v,M,nf}:=fl.2.2.1.mem (b:=b) (YJ.mpr (by
   let{y,hy,hz}:=YJ.mp g;exact{y,Zh _ hy,hz}))
  rw[L]at M;cases M;let{z3,q3}:=x2 b _ L nf;exact⟨z3,q3⟩
 .let{v,Q}:=j.there b o q p;exact x.un.free b v Q (j.free b o q n p) p
 .by_cases g:b∈frs O
  .let{_,v,M,_}:=X.2.2.1.mem g;exact⟨v,M⟩
  .let{v,Q}:=j.there b o q p;let{Z,L}:=x.there b v Q (J b o q g);exact{Z,X.1 b Z L}
 .let{m1,e1}:=j.tbls b ps q;let{m2,e2}:=x.un.tbls b _ e1;exact{m1++m2,by rw[e2,X3]}
 .exact x.keep b o (j.keep b o q n g (by simp)) (j.free b o q n (by simp)) (J b o q g)
 .let{v,Q}:=j.there b o q (by simp);exact x.there b v Q (J b o q g)
def Sj(I:Inv (cxE P w K m base N qual scope f C A O s0 h E) T σ H s)(mk:Heap.MadeExcOf s.heap U e c Y)(hE:E c aT H) :
  (cxE P w K m base N qual scope f C A O s0 h E).xe (.ref e) {s with heap:=U}:=by
 let J:(A.deeper (envOfC qual scope s0⁻¹ f C)).frames=aD (envOfC qual scope s0⁻¹ f C::O):=I.ok.frames;show wpAny (model P w) (A.deeper (envOfC qual scope s0⁻¹ f C)) (leaving (envOfC qual scope s0⁻¹ f C) (.ref e)) _ _ {s with heap:=U};let stk:s.heap.FunFrames base (envOfC qual scope s0⁻¹ f C::O):=I.stack;let sf:∀b∈frs (envOfC qual scope s0⁻¹ f C::O),H b=aT:=I.stkFree
 let B:∀b o,s0.heap.get? b=aD o->b∉frs O->b∉frs (envOfC qual scope s0⁻¹ f C::O):=λb o q hb v=>by
  rw[u6]at v;rcases Zl.mp v with z |z
  .exact absurd (Zv q) (by rw[z];exact ZS _)
  .exact hb z
 let g:Un (frs O) [] h H s0.heap s.heap:=I.base;let L:∀env∈(envOfC qual scope s0⁻¹ f C::O),∀b,env.frame=aD b->b∈frs (envOfC qual scope s0⁻¹ f C::O):=λenv he b hb=>YJ.mpr ⟨env,he,hb⟩;refine wpAny_leaves_madeW J rfl (λb o q=>Zac _ q) (PySem.W.funFrames_hide stk L) mk λh' t X x2 x3 x4=>{e,c,.ref t,H,_,rfl,X,?_,hE}
 let up:∀b o,s.heap.get? b=aD o->b∈frs (envOfC qual scope s0⁻¹ f C::O)->∃sl,h'.get? b=aD {o with slots:=sl}:=λb o q hb=>by
  let{_,p,q',nf}:=stk.mem hb;rw[q]at q';cases q';exact x4 b o (mk.keeps b o q) nf
 refine{I.os,I.bare,{λb o q n hb j=>?_,λb o q n hb j=>?_,λb o q n j=>g.free b o q n j,λb o q j=>?_,g.tups,g.frzs,g.tbls},λb o q n hb=>?_,λb o q hb=>?_,λa o q=>?_}
 .exact X.1 b o (Of _ (g.keep b o q n hb j) (B b o q hb))
 .let{z,Q}:=g.slot b o q n hb j;let{Z,M}:=up b _ Q (show b∈s0⁻¹::frs O from Zh _ hb);exact⟨Z,M⟩
 .let{p,Q}:=g.there b o q j;by_cases hb:b∈frs (envOfC qual scope s0⁻¹ f C::O)
  .let{Z,M}:=up b _ Q hb;exact⟨_,M⟩
  .exact{p,X.1 b p (Of _ Q hb)}
 .exact Of _ (g.keep b o q n hb (by simp)) (B b o q hb)
 .let{p,Q}:=g.there b o q (by simp);exact{p,Of _ Q (B b o q hb)}
 .calc(I.hok a o q).stay (λb u hb qu=>Of _ qu λv=>?_) (λ_ z=>z) λ_ _ z=>z;let y:=sf b v;rcases hb with rfl |hb
  .rw[q]at y;cases y
  .rw[hb]at y;cases y
end
section
variable {X:Cx} {x:Str} {n c pos:Pos} {a:Expr} {C R:Addr} {v:V}
def EG{E:XK}(hx:∀p b H s O e f,Inv X p b H s->Heap.MadeExcOf s.heap O e (.ref C) f->E (.ref C) aT H->X.xe (.ref e) {s with heap:=O})(hc:X.calm=a8)(hg:Gl X x)(hm:X.mg x=aD (.ref C))(hC:bK X.base C (.ref R::bmV))(hR:bK X.base R bmV)
  (ha:PA X [a] (dz (tC v) lX)) (Y:ZaQ [a] X.env=[(a9,eval a X.env)]) (hd:(x == ("__debug__" : Str))=a9):PS X (.Raise (aD (.Call (.Name x n) [a] [] c)) aT pos) (λD b H=>E (.ref C) aT H):=by
 intro p s b H D I h;let h:dz (tC v) lX b H λL H1=>L.length=1/\E (.ref C) aT H1:=⟨rfl,h⟩;let{N,nm,q,bs,j,sn,sub,ab,J,dd,k0,k1,k2,k3,k5,mN,hC,hN,B}:=hC;let{N',nm',q',bs',u,sn',U,ab',Q,dd',k0',Z,k2',k3',k5',mN',hR,z,g}:=hR;let T:OwnTail X.base bmV (.ref R::bmV):=.own hR z (g _ (.head _)) .base
 refine wpAny_Raise_call_subT (C:=C) (nm:=nm) (q:=q) (N:=N) (bs:=bs) (bm:=.ref R::bmV) (hdct:=j) (sn:=sn) (sub:=sub) (ab:=ab) (col:=J) (dd:=dd) (k0:=k0) (k1:=k1) (k2:=k2) (k3:=k3) (k5:=k5)
  PySem.F.excBase_ValueError (mN:=mN) (T.hasType PySem.F.excBase_ValueError.hasBase) (I.ok.hd hc) (by rw[Y];rfl) (B _ (.head _)) (ip I hg hm {rfl,?_} hd)
 let M:=ha c p s b H _ I h;rw[Y]at M ⊢;exact WZ (Zbi M (λL s2 ⟨xs,H1,o,r,q⟩=>{rfl,by rw[<-r.length,q.1];decide,o.bk _ _ hC,hN.keeps o.bk,T.keeps o.bk,λh' e mk=>hx p b H1 s2 h' e L o mk q.2}) λ_ _ y=>y)
end
def u7(x:bD P w H h a o):∃u,h.get? a=aD u:=by
 cases o with
 |lst xs=>let{_,_,_,_,e}:=x;exact⟨_,e⟩
 |tup xs=>let{_,_,_,o,e,_}:=x;exact⟨_,e⟩
 |dK b=>let{_,_,_,_,o,_,_,e,_}:=x;exact⟨_,e⟩
 |dT b=>let{_,_,_,_,o,_,_,e,_}:=x;exact⟨_,e⟩
 |set S n=>let{o,_,_,_,e,_}:=x;exact⟨_,e⟩
 |ins C g fs=>let{_,_,_,e,_}:=x;exact⟨_,e⟩
 |own y=>exact x
 |xd fs=>let{_,⟨_,_,_,e,_⟩,_}:=x;exact⟨_,e⟩
 |rng lo c=>let{_,_,_,e}:=x;exact⟨_,e⟩
 |frz ob u=>let{e,_}:=x;exact⟨_,e⟩
 |tbl ps=>exact⟨_,x⟩
 |met f y=>exact⟨_,x⟩
 |ext j=>let{_,e,_}:=x;exact e
noncomputable abbrev exO(e C:Addr):HO:=.ext λh=>qz h e C
section
variable {P:Program} {w:World} {l:List Env} {H h:Hp} {s a:Shared} {B:Heap} {e C:Addr} {A:Value} {i:Heap}
def XLeft.got(x:XLeft P w l H h s B a)(L:Heap.FlyingW B l e (.ref C) A a.heap)(f:Heap.FlyingW B l e (.ref C) A i)(u:a.heap.UpToSlots i):Un (frs l) [] H (upd h e (exO e C)) s.heap i/\HOk P w (upd h e (exO e C)) i:=by
 let un:=(x.later L f.1 f.2.2.1 u (g:=a.gens) (d:=a.drawn) (t:=a.toks) x.bare).un
 let ne:h e=aT:=by
  cases q:h e with
  |none=>rfl
  |some o=>let{z,Q}:=u7 (x.hok e o q);rw[f.2.1]at Q;cases Q
 let{O,p,E,J,hd,_}:=f.first
 let nb:∀b o,s.heap.get? b=aD o->H b=aT->b≠e:=λb o q n z=>by
  subst z;by_cases j:b∈frs l
  .let{_,T,Q,I}:=f.2.2.1.mem j;rw[E]at Q;cases Q;exact I p hd
  .let:=x.keep b o q n j;rw[f.2.1]at this;cases this
 let up:∀b u,h b=aD u->upd h e (exO e C) b=aD u:=λb u q=>by rw[aA (aW q ne)];exact q
 refine{{un.keep,un.slot,λb o q n M=>by rw[aA (nb b o q n)];exact un.free b o q n M,un.there,λb xs q=>up b _ (un.tups b xs q),λb o v q=>up b _ (un.frzs b o v q),λb ps q=>?_},λb o q=>?_}
 .let{m,y}:=un.tbls b ps q;exact{m,up b _ y}
 .by_cases j:b=e
  .subst j;rw[aF]at q;cases q;exact{⟨O,p,E,J,hd⟩,⟨O,E⟩,λU X ⟨o,p,y,Q⟩ k=>{o,p,k o y,Q}}
  .rw[aA j]at q;exact(x.hok b o q).stay (λc v _ z=>f.1 c v z) (λc z=>up c _ z) λc xs z=>up c _ z
end
section
variable {X:Cx} {a:List (Addr×Obj)} {g:L2.St} {H:Hp} {s:Shared}
noncomputable abbrev Cx.mk(X:Cx)(e:Addr):Cx:={X with A:=X.A.mark (aD (.ref e)),calm:=false,xe:=λ_ _=>False}
def EH(I:L2.Inv X a g H s)(e:Addr):L2.Inv (Cx.mk X e) a g H s:=
 ⟨{I.ok.mod,I.ok.kind,I.ok.glob,I.ok.blt,I.ok.above,I.ok.inj,I.ok.has,I.ok.cab,λz=>(nomatch z),I.ok.frames,I.ok.stk,I.ok.exf,I.ok.bs,I.ok.bsz,I.ok.noex,I.ok.exfs,I.ok.funs,I.ok.frf},I.os,I.bare,I.base,I.loc,I.cell,I.free,I.freeC,I.pin,I.hok,I.len⟩
def NN(ok:X.Ok)(I:L2.Inv (Cx.mk X e) a g H s):L2.Inv X a g H s:=⟨ok,I.os,I.bare,I.base,I.loc,I.cell,I.free,I.freeC,I.pin,I.hok,I.len⟩
def Iu{i:Nat}(I:L2.Inv X a g H s)(hN:X.N.Nodup)(U:X.N[i]?=aD x)(hk:X.env.scope.names.lookup x=aD .local)
  (h:∀Y,L2.Inv X a (g.set i aT) H Y->Q () Y):wpAny M A (do Zal X.env x .none;unbindBehindTheSuite X.env x pos) Q E s:=by
 let{m,hn,hl}:=id I.loc;let C:(X.env.scope.kind == .class || (X.env.scope.kind == .module && X.env.locals != X.env.globals))=a9:=by rw[I.ok.kind];rfl
 let u:i < g.length:=by rw[I.len];exact(Zb.mp U).1
 let cne:=I.cne;calc wpAny_nameGoes_keeps hk hn C λh' v L hs=>?_;refine h _ {I.ok,I.os,I.bare,{λb o e n O B=>?_,λb o e n O B=>?_,I.base.free,λb o e B=>?_,I.base.tups,I.base.frzs,I.base.tbls},{_,L,λj y v' f J e3=>?_},λy c e=>?_,I.free,I.freeC,λp hp=>?_,λb ob e=>?_,by simpa using I.len}
 .exact(hs.2 b (ZI (ZB (Zv e) I.ok.above))).trans (I.base.keep b o e n O B)
 .let{sl,f}:=I.base.slot b o e n O B;exact{sl,(hs.2 b (ZI (ZB (Zv e) I.ok.above))).trans f}
 .let{o',f}:=I.base.there b o e B;exact{o',(hs.2 b (ZI (ZB (Zv e) I.ok.above))).trans f}
 .by_cases T:j=i
  .subst T;rw[Zq u]at J;cases J
  .rw[ZA (Ne.symm T)]at J;let{u',r',q}:=hl j y v' f J e3;calc{u',r',?_};rcases q with ⟨k,e⟩ |⟨k,c,e,z⟩
   .calc .inl {k,?_};let:y≠x:=λe=>T (mW hN f (e▸U));simp[this,e]
   .exact .inr {k,c,e,z.sameBut hs (cne y c e)}
 .let{Z,z}:=I.cell y c e;exact{Z,z.sameBut hs (cne y c e)}
 .let{e,n,ne,nf,d}:=I.pin p hp;exact{(hs.2 p.1 ne).trans e,n,ne,nf,d}
 .calc(I.hok b ob e).stay (λc Z hc q=>(hs.2 c ?_).trans q) (λ_ q=>q) λ_ _ q=>q;rintro rfl;rcases hc with rfl |hc
  .rw[I.free]at e;cases e
  .rw[I.free]at hc;cases hc
def Iv{T:Hp}{s':Shared}{B:Heap}{e C R:Addr}{a0:Value}{i:Nat}{n ring:Str}{j:Stmt}{h:List Stmt}{np J:Pos}{D:Ends}(p:X.stack=X.env::X.outer)(U:X.env.frame=aD X.env.locals)(I:L2.Inv X a g H s)(fl:Heap.FlyingW B X.stack e (.ref C) a0 s'.heap)(x:XLeft X.prog X.w X.stack H T s B s')
  (hC:bK X.base C (.ref R::bmV)) (hR:bK X.base R bmV) (hg:Gl X ring) (Y:X.mg ring=aD (.ref R)) (Z:(ring == ("__debug__" : Str))=a9) (hN:X.N.Nodup) (hi:X.N[i]?=aD n) (hl:X.env.scope.names.lookup n=aD .local)
  (hb:∀s6,L2.Inv (Cx.mk X e) a (g.set i (aD (.ref e))) (upd T e (exO e C)) s6->wpAny (model X.prog X.w) (Cx.mk X e).A (execs (j::h) X.env) (λf s7=>∃u v σ7 H7,f = .ret u/\L2.Inv (Cx.mk X e) a σ7 H7 s7/\aJ v u/\D.rt v H7) (λ_ _=>False) s6) :
  wpAny (model X.prog X.w) X.A (noteFrame (.ref e) X.env) (λ_ O=>wpAny (model X.prog X.w) X.A (setFlight (.ref e) aT) (λ_ M=>wpAny (model X.prog X.w) X.A (handleBy (.ref e) X.env [.ExceptHandler (aD (.Name ring np)) (aD n) (j::h) J]) (SP X a D) X.xe M) X.xe O) X.xe s':=by
 let hfr:X.A.frames=aD (X.env::X.outer):=by rw[<-p];exact I.ok.frames
 let st:X.base.StaysIn B:=λb o q=>x.keep b o (I.bs b o q).1 (I.bs b o q).2 λY=>by
  rw[(I.stack.mem Y).1]at q;cases q
 let E:=fl;rw[p]at fl;calc wpAny_looks_onW hfr U fl λh4 y L=>?_;calc wpAny_landsW y λh5 c Q=>?_;rw[<-p]at c;let{un5,ok5}:=x.got E c (L.trans Q);let I5:L2.Inv X a g (upd T e (exO e C)) {s' with heap:=h5}:=I.call' x.os un5 ok5 x.bare (λb z=>absurd z (by simp));let I5m:=EH I5 e;calc wpAny_handleBy_cons (codeAny_handlers_test (ip (X:=Cx.mk X e) I5m hg Y ?_ Z)) (by intro q;cases q);let hE:qz h5 e C:=by let{oe,vs,he,hc,hd,_}:=c.first;exact⟨oe,vs,he,hc,hd⟩
 let kb:∀b o,X.base.get? b=aD o->h5.get? b=aD o:=λb o q=>c.1 b o (st b o q);calc NM (hC.keeps kb) (hR.keeps kb) hE ?_;calc codeAny_handlers_suite_as ?_;calc lands_againW c λh6 fl6 sm6=>?_;let{un6,ok6}:=x.got E fl6 ((L.trans Q).trans sm6);let I6:L2.Inv X a g (upd T e (exO e C)) {s' with heap:=h6}:=I.call' x.os un6 ok6 x.bare (λb z=>absurd z (by simp));calc cm (X:=Cx.mk X e) (EH I6 e) hN hi (.inl hl) (show aJ (.ref e) (.ref e) from rfl) (λs7 I7=>?_) (.inr hl);calc Zbi (hb s7 I7) (λf s8 ⟨u,v,σ8,H8,hf,I8,rv,q⟩=>?_) λ_ _ z=>z.elim;subst hf;exact Iu (NN I.ok I8) hN hi hl λs9 I9=>⟨v,_,H8,I9,rv,q⟩
end
abbrev Lp(K:V6)(mg:Str->Option Value)(x:Str):CV->Prop
 |.i v=>∃T,mg x=aD (.int v T)
 |.s v=>∃T,mg x=aD (.str v T)
 |.w ws=>∃a,mg x=aD (.ref a)/\∀H,SqT K H a (ws.map V.str)
structure CtxOk(T:Tab)(C:Calls)(ar:Nat->Nat)(k:Nat)(b:Blk)(X:Cx):Prop where
 calm:X.calm=a8
 xe:X.xe=λ_ _=>False
 hN:X.N=b.N
 hs:X.env.scope=b.sc
 nd:b.N.Nodup
 fn:∀x,(match b.fs with |none=>a8 |some sc=>sc.names.lookup x == aD .cell)=a8->X.fn x=a8
 room:Room k X.A
 con:∀ (i:Nat) (x:Str) (v:CV),T.con[i]?=aD (x,v)->Lp X.K X.mg x v
 bl:∀x,x∈gy->X.mg x=aT
 fns:∀ (i:Nat) (y:Str×Nat),T.fns[i]?=aD y->ar i=y.2/\∃f fd ps,X.mg y.1=aD (.ref f)/\OF X.K (.ref f)=a8/\dN X.K fd ps []/\FnOk X.prog X.w X.K X.mg X.base (CXE X.prog X.w) k f fd ps (spC X.K (C i) (ar i))
section
variable {T:Tab} {C:Calls} {ar:Nat->Nat} {k:Nat} {b:Blk} {X:Cx}
def ai{e:Expr}{E:List Expr}{env:Env}(h:aI e=a8):ZaQ (e::E) env=(a9,eval e env)::ZaQ E env:=by
 cases e <;> first |rfl |(exact absurd h Ze)
def jO{e:Expr}(h:aI e=a8):rm e:=by
 intro o i;cases e <;> first |rfl |(exact absurd h Ze)
def fW{e:Expr}{op:CmpOp}(h:aI e=a8):Zaj op e=a9:=by
 cases e <;> first |rfl |(exact absurd h Ze)
def oC{e f:Expr}{op o:CmpOp}(h:aI e=a8):lastMarks [op,o] [f,e]=a9:=by
 show Zaj o e=a9;exact fW h
def cL{e:Expr}{env:Env}(h:aI e=a8):∀x,Zay e env x=pure x:=by
 intro x;cases e <;> first |rfl |(exact absurd h Ze)
def bL{e:Expr}{m:Str}{env:Env}{w:Sem Value}(h:xL e=a8):Zah e m env w=w:=by
 cases e with
 |Call f g c p=>
  cases f with
  |Name x q=>
   cases g with
   |nil=>cases c with |nil=>exact absurd h Ze |cons _ _=>rfl
   |cons _ _=>rfl
  |_=>rfl
 |_=>first |rfl |(exact absurd h Ze)
def oD{e:Expr}{env:Env}(h:Ii e=a8):∀c,isTrue e env c=(do let v <-c;standAt e.pos;holding [v] (truthy v)):=by
 intro c;cases e with
 |UnaryOp op x p=>cases op <;> first |rfl |(exact absurd h Ze)
 |_=>first |rfl |(exact absurd h Ze)
def fJ{E:List Expr}{env:Env}{pos:Pos}(h:∀e∈E,aI e=a8):(backTo pos (ZaQ E env)).any (·.1)=a9:=by
 induction E with
 |nil=>rfl
 |cons e E I=>
  rw[ai (h e Zf)];show(a9 || (backTo pos (ZaQ E env)).any (·.1))=a9;rw[I λe H=>h e (Zh _ H)];rfl
def ba:∀ {n:Nat} {E:List Expr} {f:List CE},cK T n b E f=a8->∀e∈E,aI e=a8
 |0,_,_,h=>absurd h Ze
 |n+1,E,[],h=>λx hx=>by rw[cG h]at hx;cases hx
 |n+1,E,c::f,h=>by
  let{e,E,rfl,h}:=bP h;let{_,H,h}:=an3 h;intro x hx;rcases Zl.mp hx with rfl |hx
  .exact H
  .exact ba h x hx
def CtxOk.gl(G:CtxOk T C ar k b X){x:Str}(h:b.glo x=a8):Gl X x/\(x == ("__debug__" : Str))=a9:=by
 delta Blk.glo at h;rw[bAE]at h;calc{?_,by simpa using h.2};show X.env.scope.names.lookup x=_;rw[G.hs]
 simpa using h.1
def CtxOk.vis(G:CtxOk T C ar k b X){x:Str}(h:b.vis x=a8):Vis X.env.scope x/\(x == ("__debug__" : Str))=a9/\(x == ("__classdict__" : Str))=a9:=by
 delta Blk.vis at h;rw[bAE,bAE]at h;calc{?_,by simpa using h.1.2,by simpa using h.2};delta Vis;rw[G.hs];let H:=h.1.1;split at H
 .rename_i e;exact .inl e
 .rename_i e;exact .inr (.inl e)
 .rename_i e;exact .inr (.inr e)
 .cases H
def CtxOk.own(G:CtxOk T C ar k b X){x:Str}(h:b.own x=a8):L2.Loc X.env.scope x/\(X.fn x=a8\/X.env.scope.names.lookup x=aD .local):=by
 delta Blk.own at h;delta L2.Loc;rw[G.hs];split at h
 .rename_i e;exact{.inl e,.inr e}
 .rename_i e;calc{.inr e,.inl (G.fn x ?_)};cases H:b.fs with
  |none=>rfl
  |some sc=>rw[H]at h;exact h
 .cases h
def CtxOk.inner(G:CtxOk T C ar k b X){own:List Str}{c:Scope}(S:CmScope own (jN own b.N) b.N c b.sc){C':Addr}{ex:List Addr}{s:Shared}{H:Hp}:CtxOk T C ar k (b.inner own c) (cxC X own (jN own b.N) c C' ex s H):=
 {G.calm,rfl,by show dP (jN own b.N) X.N++own=_;rw[G.hN];rfl,by show gA c X.env.scope=_;rw[G.hs];rfl,S.nd,λx h=>h,G.room,G.con,G.bl,G.fns}
def qB{e:Expr}{E:List Expr}{env:Env}(h:aI e=a8):Zaf (e::E) env=(a9,assign e env)::Zaf E env:=by
 cases e <;> first |rfl |(exact absurd h Ze)
mutual
theorem eR(G:CtxOk T C ar k b X):∀ {e:Expr} {t:Tg},uZ b e t=a8->PG X e (tTg X.K t)
 |e,.n i,h=>by
  let{r,c,h}:=fH h;let{g,j}:=an2 h;rw[eN c];let o:=G.own j;exact PG.imp (mi (i:=i) (x:=r.1) (by rw[G.hN];exact G.nd) (by rw[G.hN];exact eq_of_beq g) o.1 o.2) λx p H Q q=>mG q
 |e,.tup ts,h=>by
  let{r,c,h}:=fH h;rw[iE c];let f:=qC h;exact PG.imp (CF G.calm (u8 G h) rfl f.2) λx p H Q q=>Nq f.1 q
theorem u8(G:CtxOk T C ar k b X):∀ {E:List Expr} {c:List Tg},ow b E c=a8->PGs X E (DV X.K c)
 |E,[],h=>by
  rw[cG h];exact PGs.imp yU λx j H Q q=>HR q
 |E,t::c,h=>by
  let{e,E,rfl,h}:=bP h;let{f,g,h}:=an3 h;exact PGs.imp (mY (eR G f) (u8 G h) (by rw[qB g];rfl)) λx j H Q q=>DW q
theorem qC:∀ {E:List Expr} {c:List Tg},ow b E c=a8->(Zaf E X.env).length=c.length/\(Zaf E X.env).findIdx? (·.1)=aT
 |E,[],h=>by
  rw[cG h];exact⟨rfl,rfl⟩
 |E,t::c,h=>by
  let{e,E,rfl,h}:=bP h;let{f,H,h}:=an3 h;let I:=qC h;rw[qB H];calc{congrArg (·+1) I.1,?_};rw[List.findIdx?_cons];simp[I.2]
end
end
structure Snd(T:Tab)(C:Calls)(ar:Nat->Nat)(k n:Nat):Prop where
 e:∀ (b:Blk) (X:Cx) (e:Expr) (c:CE),CtxOk T C ar k b X->aG T n b e c=a8->PE X e (tE X.K (evE C ar n c))
 tm:∀ (b:Blk) (X:Cx) (e:Expr) (c:CE),CtxOk T C ar k b X->aj c=a8->aG T n b e c=a8->PE X e (fP X.K (dX C ar n c))
 a:∀ (b:Blk) (X:Cx) (es:List Expr) (cs:List CE),CtxOk T C ar k b X->cK T n b es cs=a8->PA X es (tAr X.K (evA C ar n cs))
 t:∀ (b:Blk) (X:Cx) (e:Expr) (c:CE),CtxOk T C ar k b X->fV T n b e c=a8->PT X e (tT X.K (evT C ar n c))
 i:∀ (B:List Addr) (b:Blk) (X:Cx) (t e:Expr) (c:CI),CtxOk T C ar k b X->sO T n b t e c=a8->PI X t e (tIt X.K B (evI C ar n c))
 cl:∀ (b:Blk) (X:Cx) (e:Expr) (gs:List W2) (elt:CE) (cls:List Cl),CtxOk T C ar k b X->qy T n b e gs elt cls=a8 ->
  ∀ (gens:List W2) (scope:Scope) (pos:Pos) (acc:Addr) (d:Nat),gens.drop (d+1)=gs->PTl X (.l e) gens scope pos acc d (tCl X.K acc (iU C ar n elt cls))
section
variable {T:Tab} {C:Calls} {ar:Nat->Nat} {k n:Nat} {b:Blk} {X:Cx}
def cV{e:Expr}{E:List Expr}{c:TE}{t:TA}(h:PE X e c)(H:PA X E t)(f:aI e=a8):PA X (e::E) (dz c t):=rg h H (ai f)
def Sk(I:Snd T C ar k n)(E:List Expr)(f:List CE)(G:CtxOk T C ar k b X)(h:cK T (n+1) b E f=a8):PA X E (tAr X.K (evA C ar (n+1) f)):=by
 cases f with
 |nil=>rw[cG h];exact PA.imp ki λo H Q q=>MY q
 |cons c f=>
  let{e,E,rfl,h}:=bP h;let{g,j,h}:=an3 h;exact PA.imp (cV (I.e b X e c G g) (I.a b X E f G h) j) λo H Q q=>rZ q
def cj{e:Expr}{c:TE}(h:PE X e c)(H:aI e=a8):PA X [e] (dz c lX):=cV h ki H
def iG{x:Str}{id:String}{e:Expr}{f:TE}{r:V->Hp->VK->Prop}{p pos:Pos}(hc:bc X (.builtin id) (r1 r))(G:CtxOk T C ar k b X)(c:b.glo x=a8)(o:x∈gy)(u:Zam x=aD (.builtin id))(j:x≠"__name__")(h:PE X e f)(g:aI e=a8) :
  PE X (.Call (.Name x p) [e] [] pos) (tUn r f):=
 PE.imp (fm hc (G.gl c).1 (G.bl x o) u (cj h g) j (G.gl c).2 (ai g) rfl) λv H Q q=>q
def jP{x:Str}{id:String}{e:Expr}{f:TE}{r:V->Hp->VK->Prop}{p pos:Pos}(hc:bc X (.type id) (r1 r))(G:CtxOk T C ar k b X)(c:b.glo x=a8)(o:x∈gy)(u:Zam x=aD (.type id))(j:x≠"__name__")(h:PE X e f)(g:aI e=a8) :
  PE X (.Call (.Name x p) [e] [] pos) (tUn r f):=
 PE.imp (kl hc (G.gl c).1 (G.bl x o) u (cj h g) j (G.gl c).2 (ai g) rfl) λv H Q q=>q
def xR{x:Str}{e:Expr}{a:CE}{f:Bool->List D->Sto->Option (D×Sto)}{c:List Keyword}{p pos:Pos}(I:Snd T C ar k n)(G:CtxOk T C ar k b X)(g:∀j:TE,PE X e j->PE X (.Call (.Name x p) [e] c pos) (tUn (rSq X.K f) j))(h:aG T n b e a=a8) :
  PE X (.Call (.Name x p) [e] c pos) (tE X.K (if aj a=a8 then Bk f (dX C ar n a) else Bm f (evE C ar n a))):=by
 split
 .rename_i u;exact PE.imp (g _ (I.tm b X e a G u h)) λo H Q q=>MX q
 .exact PE.imp (g _ (I.e b X e a G h)) λo H Q q=>M0 q
def jQ{x y:Str}(h:(x == y)=a8):x=y:=eq_of_beq h
def mI{K:V6}{x:XE}{g:L2.St}{H:Hp}{Q Q':VK}(h:tE K x g H Q)(f:∀v c,Q v c->Q' v c):tE K x g H Q':=by
 let{m,o,S,d,p,E,R,e,q}:=h;exact{m,o,S,d,p,E,R,e,λM c v A j=>f _ _ (q M c v A j)}
def EI{x:XE}{y:L2.St}{H:Hp}{Q:VK}{K:V6}(h:fP K (om x) y H Q):tUn (rTm K λ_ ds=>aD ds) (tE K x) y H Q:=by
 let{m,I,S,ds,S',E,R,e,q}:=h;let{d,z,e1,e}:=ac e;cases g:am d z with
 |none=>rw[g]at e;cases e
 |some r=>
  rw[g]at e;cases e;calc{m,I,S,d,_,E,R,e1,λm1 H1 v c Y=>?_};let{a,vs,Z,L,f}:=fB (tu:=r.1) (ds:=r.2) c.rel Y g;refine{m1,_,r.1,r.2,a,vs,r.2,c.rel,Z,L,f,rfl,λm2 H2 p B A2 J O u M vw=>?_}
  let hn:H p=aT:=by
   cases eh:H p with
   |none=>rfl
   |some o=>
    by_cases j:p∈m
    .exact absurd rfl (u p (c.ext.pre.subset j))
    .let:=c.ext.keep p o eh j;rw[M]at this;cases this
  exact q m2 H2 p B (c.trans A2) J O (λb U=>u b (c.ext.pre.subset U)) hn vw
def EJ{x:XA}{j:L2.St}{H:Hp}{Q:VK}{K:V6}(h:fP K x j H Q):tUn (rTm K λ_ ds=>aD ds) (fP K x) j H Q:=by
 let{m,B,S,ds,z,E,R,e,q}:=h;calc{m,B,S,ds,z,E,R,e,λm1 M a v c u na _ _ U=>?_};refine{m1,_,a9,ds,a,v,ds,c.rel,rfl,show SqL K M a v from SqL.of u,U,rfl,λY H2 p y A2 I O g J vw=>?_}
 let Z:H p=aT:=by
  cases eh:H p with
  |none=>rfl
  |some o=>
   by_cases f:p∈m
   .exact absurd rfl (g p (c.ext.pre.subset f))
   .let:=c.ext.keep p o eh f;rw[J]at this;cases this
 exact q Y H2 p y (c.trans A2) I O (λb L=>g b (c.ext.pre.subset L)) Z vw
abbrev ifT(C:Calls)(ar:Nat->Nat)(n:Nat)(K:V6):Option CE->TT
 |none=>wK
 |some c=>tT K (evT C ar n c)
def oE(I:Snd T C ar k n)(G:CtxOk T C ar k b X){ifs:List Expr}{cond:Option CE}(h:EC (fV T n b) ifs cond=a8):PTs X ifs (ifT C ar n X.K cond):=by
 cases cond with
 |none=>rw[cG h];exact rF
 |some c=>let{e,rfl,h}:=cy h;exact Ht (I.t b X e c G h)
def xS{K:V6}{cond:Option CE}{f:Addr}{c:XA}{D:Ends}{g:L2.St}{H:Hp}(q:tCl K f (cnd (evT C ar n) cond c) D g H):fq (ifT C ar n K cond) (tCl K f c) D g H:=by
 cases cond with
 |none=>exact Ny q
 |some c=>exact HZ q
def u9(I:Snd T C ar k n)(G:CtxOk T C ar k b X){l:Option Expr}{lo:Option CE}(h:EB (aG T n b) l lo=a8):PO X l (tOI X.K (opt (evE C ar n) lo)):=by
 cases lo with
 |none=>
  cases l with
  |none=>exact PO.imp Hh λf H Q q=>HF q
  |some _=>cases h
 |some c=>let{e,rfl,h}:=fH h;exact PO.imp (Hi (I.e b X e c G h)) λf H Q q=>HG q
def NP(y:Snd T C ar k n)(e:Expr)(gs:List W2)(E:CE)(cls:List Cl)(G:CtxOk T C ar k b X)(h:qy T (n+1) b e gs E cls=a8)(c:List W2)(j:Scope)(pos:Pos)(o:Addr)(d:Nat)(hd:c.drop (d+1)=gs) :
  PTl X (.l e) c j pos o d (tCl X.K o (iU C ar (n+1) E cls)):=by
 let imp:∀ {t t':TS},PTl X (.l e) c j pos o d t->(∀D p H,t' D p H->t D p H)->PTl X (.l e) c j pos o d t':=λh f v s p H D I q=>h v s p H D I (f D p H q);cases cls with
 |nil=>
  let{L,h}:=an2 h;cases cG L
  let J:c[d+1]?=aT:=by
   let:=congrArg Zd hd;simp at this;exact Ys.mpr (by omega)
  exact imp (C9 G.xe J (y.e b X e E G h)) λD p H q=>HY q
 |cons g u=>
  let{tg,U,cond}:=g;let{⟨t,i,ifs,as⟩,gs',rfl,h}:=bP h;let{L,O,Q,h3,Y}:=an5 h;cases ω L
  let J:c[d+1]?=aD ⟨t,i,ifs,0⟩:=by
   let:=congrArg (·[0]?) hd
   simpa using this
  let M:c.drop (d+1+1)=gs':=by
   let:=congrArg (YD 1) hd
   simpa[List.drop_drop] using this
  let B:=dJ O (λe Z env=>cL Z) X.env;exact imp (Hu J (y.i [o] b X t i U G O) (eR G Q) (oE y G h3) (y.cl b X e gs' E u G Y c j pos o (d+1) M) G.xe G.calm B) λD p H q=>D8 (λD p H z=>xS z) q
def Sl(I:Snd T C ar k n)(B:List Addr)(t e:Expr)(c:CI)(G:CtxOk T C ar k b X)(h:sO T (n+1) b t e c=a8):PI X t e (tIt X.K B (evI C ar (n+1) c)):=by
 cases c with
 |p a=>
  let h:=an2 h;show PI X t _ (tIt X.K B (if aj a=a8 then xIT (dX C ar n a) else xIV (evE C ar n a)));split
  .rename_i J;exact PI.imp (yW (I.tm b X _ a G J h.1)) λo H R q=>U6 q
  .exact PI.imp (PI.or (yW (I.e b X _ a G h.1)) (CK (I.e b X _ a G h.1))) λo H R q=>U5 q
 |chr a=>
  let h:=an2 h;exact PI.imp (Nk (I.e b X _ a G h.1)) λo H R q=>Nm q
 |wds U v=>
  let{x,p,rfl,z}:=bR h;let z:=an2 z;let g:=G.gl z.2;let{a,M,Q}:=G.con U x (.w v) (eq_of_beq z.1);exact PI.imp (CK (iq (v:=.ref a) g.1 M rfl g.2)) λo H R q=>Np Q q
 |r1 a=>
  let{x,p,q,rfl,j,u,f}:=bp h;exact PI.imp (AN (G.gl j).1 (G.bl _ (by decide)) (cj (I.e b X x a G u) f) (ai f)) λo H R q=>RY q
 |r2 a c=>
  let{x,y,p,q,rfl,j,u,f,O,E}:=fI h;exact PI.imp (AO (G.gl j).1 (G.bl _ (by decide)) (cV (I.e b X x a G u) (cj (I.e b X y c G O) E) f) (by rw[ai f,ai E];rfl) (ai E)) λo H R q=>RZ q
 |en a=>
  let h:=an2 h;let{x,p,q,rfl,j,u,f}:=bp h.1;let{L,Z,Y,rfl,_}:=Ey h.2;show PI X _ _ (tIt X.K B (if aj a=a8 then xET (dX C ar n a) else xEV (evE C ar n a)));split
  .rename_i J;exact PI.imp (Dg (G.gl j).1 (G.bl _ (by decide)) (cj (I.tm b X x a G J u) f) (ai f)) λo H R q=>RX q
  .exact PI.imp (PI.or (Dg (G.gl j).1 (G.bl _ (by decide)) (cj (I.e b X x a G u) f) (ai f)) (MR (G.gl j).1 (G.bl _ (by decide)) (cj (I.e b X x a G u) f) (ai f))) λo H R q=>RV q
end
section
variable {T:Tab} {C:Calls} {ar:Nat->Nat} {k n:Nat} {b:Blk} {X:Cx}
def gP{k:Nat}{A:Around}(r:Room k A):A.units+64 < cLine:=r.units
def jR(K:V6)(m:List Addr)(H:Hp):∀l:List Nat,VDs K m H (l.map λj=>D.int (Int.ofNat j)) (l.map λ(j:Nat)=>V.int j)
 |[]=>by rw[ZX,ZX,VDs]
 |a::l=>by rw[Zx,Zx,VDs];exact{_,_,rfl,bV,jR K m H l}
def yR{H:Hp}{p:Addr}{x y:HO}:upd (upd H p x) p y=upd H p y:=by
 funext b
 delta upd;split <;> rfl
def Rel.adoptO{K:V6}{m:List Addr}{S:Sto}{H:Hp}{a:Addr}(R:Rel K m S H)(n:a∉m){ob:Ob}(h:ObR K (m++[a]) H a ob):Rel K (m++[a]) (S++[ob]) H:=by
 let p:=YK m [a];let g:∀ {E:List D} {ws:List V},VDs K m H E ws->VDs K (m++[a]) H E ws:=λz=>VDs.mono0 p (λ_ _ t=>t) z;calc{by simp[R.len],Y0.mpr {R.nd,by simp,λx I y c=>by simp at c;subst c;exactλz=>n (z▸I)},λi o e=>?_};by_cases u:i < S.length
 .rw[Zz u]at e;let{b,B,r}:=R.ob i o e;calc{b,cB p B,?_};cases o with
  |lst j=>let{v,p,q}:=r;exact{v,p,g q}
  |frz j=>let{o,v,p,q}:=r;exact{o,v,p,g q}
  |dic L j=>let{v,p,l,q}:=r;exact{v,p,l,g q}
 .rw[Zo (by lia)]at e
  let f:i - S.length=0:=by
   let:=(Zb.mp e).1;simp at this;lia
  rw[f]at e;let J:ob=o:=by simpa using e
  subst J;calc{a,?_,h};rw[Zo (by rw[R.len];lia),R.len,f];rfl
def zI{K:V6}{m:List Addr}{H:Hp}{S:Sto}{p:Addr}{ks:List Key}{ds:List D}{vs:List V}{Q:VK}(R:Rel K m S H)(h:H p=aT)(v:VDs K m H ds vs)(hl:ks.length=ds.length)(q:∀M c u,Aft K m H (S++[.dic ks ds]) M c->VD K M c (.ref S.length) u->Q u c):Q (.ref p) (upd H p (.dK (ks.zip vs))):=by
 let x:=Ext.beside R h (.dK (ks.zip vs));let f:=R.beside h (.dK (ks.zip vs));refine q (m++[p]) _ _ {x.adopt h,?_} ?_
 .exact f.adoptO (R.no h) (ob:=.dic ks ds) {vs,aF,hl,VDs.mono0 (YK m [p]) (λ_ _ t=>t) (v.mono R x)}
 .rw[VD];exact{p,by rw[Zo (by rw[R.len];exact Zc _),R.len,Ye];rfl,rfl}
def kE{E:List Expr}{a:CE}(h:cK T n b E [a]=a8):∃y,E=[y]:=by
 cases n with
 |zero=>exact absurd h Ze
 |succ n=>
  let{e,E,rfl,h}:=bP h;let h:=(an2 h).2;cases n with
  |zero=>exact absurd h Ze
  |succ n=>cases cG h;exact⟨e,rfl⟩
def Iw(I:Snd T C ar k n){own:List Str}{E:CE}{p:Tg}{v:CI}{cond:Option CE}{h:List Cl}{e t i:Expr}{ifs:List Expr}{gs:List W2}{f:Scope}{pos:Pos}(G:CtxOk T C ar k b X)
  (M:cmB own (jN own b.N) b.N f b.sc=a8) (y:sO T n b t i v=a8) (J:uZ (b.inner own f) t p=a8) (Y:EC (fV T n (b.inner own f)) ifs cond=a8) (L:qy T n (b.inner own f) e gs E h=a8) :
  PE X (.ListComp e (⟨t,i,ifs,0⟩::gs) f pos) (fP X.K (og own.length (evI C ar n v) p (cnd (evT C ar n) cond (iU C ar n E h)) LF)):=by
 let S:CmScope own (jN own b.N) b.N f b.sc:=wP _ M;let B:CmScope own (jN own b.N) X.N f X.env.scope:=by rw[G.hN,G.hs];exact S
 let u:=dJ y (λe O env=>cL O) X.env
 refine PE.imp (zd (c:=.l e) (g:=tTg X.K p) (ti:=ifT C ar n X.K cond) (t:=λj=>tCl X.K j (iU C ar n E h)) G.calm B (I.i [] b X t i v G y) (λo ex s H=>eR (G.inner S (C':=o) (ex:=ex) (s:=s) (H:=H)) J) (λo ex s H=>oE I (G.inner S (C':=o) (ex:=ex) (s:=s) (H:=H)) Y)
  (λo ex s H j=>I.cl _ _ e gs E h (G.inner S (C':=o) (ex:=ex) (s:=s) (H:=H)) L _ f pos j 0 rfl) u) λU H Q q=>?_
 exact zu (λj D U H z=>xS z) q
def NQ{x:XE}{O:L2.St}{H:Hp}{Q:VK}{K:V6}(h:fP K (BL x) O H Q):tE K x O H λv c=>∃i:Nat,v = .int i/\i<=1000/\∀p,c p=aT->∀l,upd c p (.rng 0 i) l=aT->Q (.ref l) (upd (upd c p (.rng 0 i)) l (.lst ((Zm i).map λ(j:Nat)=>V.int j))):=by
 let{m,Y,S,ds,L,E,R,e,q}:=h;let{d,S1,e1,e}:=ac e;cases d with
 |int i=>
  dsimp! at e;split at e
  .rename_i hi;cases e;calc{m,Y,S,.int i,_,E,R,e1,λm1 c v f vd=>{i.toNat,by rw[vd.ints];congr 1;lia,by lia,λp B l g=>?_}};let y:Aft K m1 c L m1 (upd c p (.rng 0 i.toNat)):={Ext.beside f.rel B _,f.rel.beside B _};let A3:Aft K m1 (upd c p (.rng 0 i.toNat)) L m1 (upd (upd c p (.rng 0 i.toNat)) l (.lst ((Zm i.toNat).map λ(j:Nat)=>V.int j))):={Ext.beside y.rel g _,y.rel.beside g _};let u:l∉m1:=y.rel.no g
   let M:c l=aT:=by
    cases I:c l with
    |none=>rfl
    |some o=>rw[(Ext.beside f.rel B (.rng 0 i.toNat)).keep l o I u]at g;cases g
   let U:H l=aT:=by
    cases I:H l with
    |none=>rfl
    |some o=>
     by_cases J:l∈m
     .exact absurd (f.ext.pre.subset J) u
     .rw[f.ext.keep l o I J]at M;cases M
   calc q m1 _ l _ (f.trans (y.trans A3)) aF u (λb Z z=>u (z▸f.ext.pre.subset Z)) U ?_;exact jR _ _ _ _
  .cases e
 |_=>cases e
def Ix{c:L2.St}{H:Hp}{Q:VK}{K:V6}(h:tE K Ej c H Q):C3 c H Q:=by
 let{m,j,S,d,g,E,R,e,q}:=h;cases e;exactλp f=>zI R f (show VDs K m H [] [] by rw[VDs]) rfl q
def Iy{c:L2.St}{H:Hp}{Q:VK}{K:V6}{i:Int}{v:Nat}(h:tE K (uV i v) c H Q):C6 [(tC (.int i),G3 v)] c H Q:=by
 let{m,z,S,d,y,E,R,e,q}:=h;delta uV at e;split at e
 .rename_i j hd;cases e;let{u,f,g}:=E.at_ _ _ hd;intro p o;calc{_,f,aF,[(kB i,u)],rfl,by simp,?_};rw[yR];exact zI R o (ks:=[kB i]) (vs:=[u]) (show VDs K m H [j] [u] by rw[VDs];exact{_,_,rfl,g,by rw[VDs]}) rfl q
 .cases e
section
variable {K:V6} {S:Sto} {i:L2.St} {H:Hp} {Q:VK}
abbrev Lq(K:V6)(f h:Addr)(p g:Sp)(o:TE)(t:TA):TE:=λi H Q=>∀a,H a=aT->o i (upd H a (.lst [.ref f,.ref h])) λv j=>ME K (.ref a) v j λu q=>∃c:Bool,u = .ref (if c then h else f)/\pU (if c then g else p) [] E0 t i q Q
def EK{X:Cx}{k:Nat}{f u:Addr}{fd L:VN}{ps B:List Str}{sp o:Sp}{x y:Str}{p p' lp xp pos:Pos}{e M:Expr}{E:List Expr}{ti:TE}{t:TA}(F:FnOk X.prog X.w X.K X.mg X.base (CXE X.prog X.w) k f fd ps sp)(F':FnOk X.prog X.w X.K X.mg X.base (CXE X.prog X.w) k u L B o)(hr:Room k X.A)(hg:Gl X x)(hm:X.mg x=aD (.ref f))(hk:OF X.K (.ref f)=a8)(hb:dN X.K fd ps [])
  (hg':Gl X y) (Y:X.mg y=aD (.ref u)) (hk':OF X.K (.ref u)=a8) (hb':dN X.K L B []) (hi:PE X M ti) (hp:rm M) (ha:PA X (e::E) t) (Z:(x == ("__debug__" : Str))=a9) (z:(y == ("__debug__" : Str))=a9) (he:ZaQ (e::E) X.env=(a9,eval e X.env)::ZaQ E X.env) (hpl:(backTo pos (ZaQ E X.env)).any (·.1)=a9) :
  PE X (.Call (.Subscript (.List [.Name x p,.Name y p'] lp) M xp) (e::E) [] pos) (Lq X.K f u sp o ti t):=by
 intro j s i H Q I h;show wpAny _ _ (eval (.Subscript (.List [.Name x p,.Name y p'] lp) M xp) X.env >>= λfv=>callWith pos fv [] (backTo pos (ZaQ (e::E) X.env)) (Zai pos (ZaC [] X.env))) _ _ s;refine Za4 (thn ((y7 y8 (kj (rg (iq (v:=.ref f) hg hm rfl Z) (rg (iq (v:=.ref u) hg' Y rfl z) ki rfl) rfl)) hi hp) j s i H (λv U=>∃c:Bool,v = .ref (if c then u else f)/\pU (if c then o else sp) [] E0 t i U Q) I ?_) λfv s1 ⟨v,U,I1,rv,c,hv,O⟩=>?_)
 .calc{by rw[ZaO];show 2<=16777216;decide,λa h0=>?_};exact h a h0
 .subst hv
  let J:∀ {g:Addr} {fg:VN} {pg:List Str} {sg:Sp},FnOk X.prog X.w X.K X.mg X.base (CXE X.prog X.w) k g fg pg sg->OF X.K (.ref g)=a8->dN X.K fg pg []->pU sg [] E0 t i U Q->wpAny (model X.prog X.w) X.A (callWith pos (.ref g) [] (backTo pos (ZaQ (e::E) X.env)) (Zai pos (ZaC [] X.env))) (EP X j i Q) X.xe s1:=λG hk hb O=>
   V7 (h₀:=X.base) I.ok.mod.kin hk (thn (ha pos j s1 i U _ I1 O) λus s2 ⟨vs,H2,I2,r,q⟩=>{I2.kIn,CQ (dvs:=[]) G hr hb .nil Ln I2 r q}) he hpl
  cases c with
  |true=>cases rv;exact J F' hk' hb' O
  |false=>cases rv;exact J F hk hb O
def Iz{f O:Addr}{n L:Nat}(h:tE K (Ei g g' n L y x) i H Q):Lq K f O (spC K g n) (spC K g' L) (tE K y) (tAr K x) i H Q:=by
 let{m,p,S,d,z,E,R,e,q}:=h;let{b,o,Z,e}:=ac e;intro a j;let u:Ext m H m (upd H a (.lst [.ref f,.ref O])):=Ext.beside R j _;calc{m,p,S,b,o,E.mono R u,R.beside j _,Z,λm1 U v c vb=>?_};let B:=SqL.of (K:=K) (c.ext.keep _ _ aF (R.no j));let go:∀ {w:List D->Sto->Option (D×Sto)} {l:Nat},lB w l x p o=aD (d,z)->pU (spC K w l) [] E0 (tAr K x) i U Q:=λe=>zw {m1,p,o,d,z,(E.mono R u).mono (R.beside j _) c.ext,c.rel,e,λY H2 v M vv=>q Y H2 v {u.trans (c.ext.trans M.ext),M.rel} vv};cases b with
 |int k=>
  cases vb.ints;dsimp! at e;by_cases J:k=0
  .subst J;rw[if_pos rfl]at e;exact{a,_,_,_,rfl,rfl,B,rfl,a9,rfl,go e}
  .rw[if_neg J]at e;by_cases I:k=1
   .subst I;rw[if_pos rfl]at e;exact{a,_,_,_,rfl,rfl,B,rfl,a8,rfl,go e}
   .rw[if_neg I]at e;cases e
 |_=>cases e
end
def NR{f:Bool->List D->Option (List D)}{x:XE}{B:L2.St}{H:Hp}{Q:VK}{K:V6}(h:fP K (BK f x) B H Q):tUn (rTm K f) (tE K x) B H Q:=by
 let{m,L,S,ds,S',E,R,e,q}:=h;let{d,I,e1,e}:=ac e;cases j:am d I with
 |none=>rw[j]at e;cases e
 |some r=>
  rw[j]at e;dsimp! at e;cases u:f r.1 r.2 with
  |none=>rw[u]at e;cases e
  |some es=>
  rw[u]at e;cases e;calc{m,L,S,d,_,E,R,e1,λm1 H1 v c vd=>?_};let{a,vs,ev,O,g}:=fB (tu:=r.1) (ds:=r.2) c.rel vd j;refine{m1,_,r.1,r.2,a,vs,ds,c.rel,ev,O,g,u,λm2 H2 p J A2 M Y z U vw=>?_}
  let hn:H p=aT:=by
   cases eh:H p with
   |none=>rfl
   |some o=>
    by_cases y:p∈m
    .exact absurd rfl (z p (c.ext.pre.subset y))
    .let:=c.ext.keep p o eh y;rw[U]at this;cases this
  exact q m2 H2 p J (c.trans A2) M Y (λb Z=>z b (c.ext.pre.subset Z)) hn vw
def NS{f:Bool->List D->Option (List D)}{x:XA}{y:L2.St}{H:Hp}{Q:VK}{K:V6}(h:fP K (BJ f x) y H Q):tUn (rTm K f) (fP K x) y H Q:=by
 let{m,J,S,es,S',E,R,e,q}:=h;let{j,S1,e1,e}:=ac e;cases g:f a9 j with
 |none=>rw[g]at e;cases e
 |some es'=>
 rw[g]at e;cases e;calc{m,J,S,j,_,E,R,e1,λm1 O a z c B na _ _ Z=>?_};refine{m1,_,a9,j,a,z,es,c.rel,rfl,show SqL K O a z from SqL.of B,Z,g,λm2 H2 p I A2 L U v M vw=>?_}
 let hn:H p=aT:=by
  cases eh:H p with
  |none=>rfl
  |some o=>
   by_cases u:p∈m
   .exact absurd rfl (v p (c.ext.pre.subset u))
   .let:=c.ext.keep p o eh u;rw[M]at this;cases this
 exact q m2 H2 p I (c.trans A2) L U (λb Y=>v b (c.ext.pre.subset Y)) hn vw
def EL(I:Snd T C ar k n)(e:Expr)(c:CE)(G:CtxOk T C ar k b X)(u:aj c=a8)(h:aG T (n+1) b e c=a8):PE X e (fP X.K (dX C ar (n+1) c)):=by
 cases c with
 |lst Z=>
  let{es,p,rfl,J}:=jh h;exact PE.imp (kj (I.a b X es Z G J)) λB H Q q=>r9 q
 |listOf a=>
  let{x,p,q,rfl,g,o,j}:=bp h;show PE X _ (fP X.K (if aj a=a8 then dX C ar n a else om (evE C ar n a)));split
  .rename_i u;exact PE.imp (jP nU G g (by decide) WN (by decide) (I.tm b X x a G u o) j) λB H Q q=>EJ q
  .exact PE.imp (jP nU G g (by decide) WN (by decide) (I.e b X x a G o) j) λB H Q q=>EI q
 |l a=>
  let{x,p,q,rfl,g,o,j}:=bp h;let{y,p',q',rfl,O,h6,M}:=bp o
  exact PE.imp (kl (rH G.calm) (G.gl g).1 (G.bl _ (by decide)) WN (cj (kl ud (G.gl O).1 (G.bl _ (by decide)) PyProof.Rows.boot_range (cj (I.e b X y a G h6) M) (by decide) (G.gl O).2 (ai M) rfl) j) (by decide) (G.gl g).2 (ai j) rfl) λB H Q q=>mI (NQ q) λv H1 ⟨i,ev,Y,z⟩=>by
    subst ev;exact{i,rfl,λp hp=>{p,i,rfl,aF,Y,λl hl=>z p hp l hl}}
 |srt a=>
  let{x,p,q,rfl,g,o,j}:=bp h;show PE X _ (fP X.K (if aj a=a8 then BJ fF (dX C ar n a) else BK fF (evE C ar n a)));split
  .rename_i u;exact PE.imp (iG qo G g (by decide) WO (by decide) (I.tm b X x a G u o) j) λB H Q q=>NS (f:=fF) q
  .exact PE.imp (iG qo G g (by decide) WO (by decide) (I.e b X x a G o) j) λB H Q q=>NR (f:=fF) q
 |o own U cls=>
  let{tg,it,cond,L,rfl,hc}:=Lm h;let{el,t,i,ifs,gs,E,p,rfl,J}:=zG hc;let{h0,h1,g,o,j}:=an5 J;exact Iw I G h0 h1 g o j
 |_=>cases u
def fX{y:Expr}{pos:Pos}(h:aI y=a8):((backTo pos (ZaQ [y] X.env)).all (λx=>!x.1) && (Zai pos (ZaC [] X.env)).all (λx=>x.1.isSome) && decide (([y]:List Expr).length+([]:List Keyword).length+(if ([]:List Keyword).isEmpty then 0 else 1) < 30))=a8:=by
 rw[ai h];rfl
def NT{E:List Expr}{a c:CE}(h:cK T n b E [a,c]=a8):∃y z,E=[y,z]:=by
 cases n with
 |zero=>exact absurd h Ze
 |succ n=>
  let{e,E,rfl,h}:=bP h;let{z,rfl}:=kE (an2 h).2;exact⟨e,z,rfl⟩
def Sn(I:Snd T C ar k n)(e:Expr)(c:CE)(G:CtxOk T C ar k b X)(h:aG T (n+1) b e c=a8):PE X e (tE X.K (evE C ar (n+1) c)):=by
 let hu:=gP G.room
 let tmp:aj c=a8->evE C ar (n+1) c=bg (dX C ar (n+1) c)->PE X e (tE X.K (evE C ar (n+1) c)):=λht he=>by
  rw[he];exact PE.imp (EL I e c G ht h) λL H Q q=>jE q
 cases c with
 |non=>let{_,_,rfl}:=NI h;exact PE.imp Mb λL H Q q=>wX (λ_ _=>nM) q
 |bl v=>let{_,_,rfl}:=Ex h;exact PE.imp Cv λL H Q q=>wX (λ_ _=>cr) q
 |int v=>let{_,_,rfl}:=xN h;exact PE.imp v7 λL H Q q=>wX (λ_ _=>bV) q
 |str v=>let{_,_,rfl}:=kD h;exact PE.imp qY λL H Q q=>wX (λ_ _=>cq) q
 |v i=>
  let{x,p,rfl,Y}:=bR h;let Y:=an2 Y;let v:=G.vis Y.2;exact PE.imp (mX (i:=i) (by rw[G.hN];exact eq_of_beq Y.1) v.1 v.2.1 v.2.2) λL H Q q=>Dv q
 |con k' v=>
  let{x,p,rfl,Y}:=bR h;let Y:=an2 Y;let g:=G.gl Y.2;let{tk,hm}:=G.con k' x (.i v) (eq_of_beq Y.1);exact PE.imp (iq (v:=.int v) g.1 hm ⟨tk,rfl⟩ g.2) λL H Q q=>wX (λ_ _=>bV) q
 |txc k' v=>
  let{x,p,rfl,Y}:=bR h;let Y:=an2 Y;let g:=G.gl Y.2;let{tk,hm}:=G.con k' x (.s v) (eq_of_beq Y.1);exact PE.imp (iq (v:=.str v) g.1 hm ⟨tk,rfl⟩ g.2) λL H Q q=>wX (λ_ _=>cq) q
 |tup cs=>let{es,_,_,rfl,Y}:=Ey h;exact PE.imp (MB (I.a b X es cs G Y)) λL H Q q=>MZ q
 |lst cs=>exact tmp rfl rfl
 |dic0=>let{p,rfl}:=Ip h;exact PE.imp C4 λL H Q q=>Ix q
 |dic1 i j=>
  let{x,y,p,rfl,U,B}:=Iq h;let{_,_,rfl}:=xN U;let{_,_,rfl,Y}:=bR B;let Y:=an2 Y;let v:=G.vis Y.2;exact PE.imp (Dh v7 (mX (i:=j) (by rw[G.hN];exact eq_of_beq Y.1) v.1 v.2.1 v.2.2)) λL H Q q=>Iy q
 |b o a Z=>let{l,r,p,rfl,B,J}:=oz h;exact PE.imp (CL (HE o) (I.e b X l a G B) (I.e b X r Z G J)) λL H Q q=>ku q
 |neg a=>let{x,p,rfl,Y}:=NJ h;exact PE.imp (Rr Ia (I.e b X x a G Y)) λL H Q q=>uk q
 |m o a Z=>let{l,r,p,rfl,B,J,M}:=xP h;exact PE.imp (Hc (iB hu o) (I.e b X l a G B) (I.e b X r Z G J) (fW M)) λL H Q q=>ku q
 |h o p' a Z d=>let{l,r,s,p,rfl,B,J,M,O}:=Ez h;exact PE.imp (CM (iB hu o) (iB hu p') (I.e b X l a G B) (I.e b X r Z G J) (I.e b X s d G M) (oC O)) λL H Q q=>Eb q
 |d a Z=>
  rcases Ij h with h |h
  .let{x,y,p,rfl,U,B}:=oB h;exact PE.imp (CC (I.e b X x a G U) (CB (I.e b X y Z G B))) λL H Q q=>Ea q
  .let{x,y,z,ys,p,rfl,U,B}:=sN h;exact PE.imp (CC (I.e b X x a G U) (I.e b X _ Z G B)) λL H Q q=>Ea q
 |or a Z=>
  rcases Ij h with h |h
  .let{x,y,p,rfl,U,B}:=oB h;exact PE.imp (KS (I.e b X x a G U) (CB (I.e b X y Z G B))) λL H Q q=>Lc q
  .let{x,y,z,ys,p,rfl,U,B}:=sN h;exact PE.imp (KS (I.e b X x a G U) (I.e b X _ Z G B)) λL H Q q=>Lc q
 |n a=>let{x,p,rfl,Y}:=xO h;exact PE.imp (Md (I.e b X x a G Y)) λL H Q q=>NB q
 |ite t a Z=>let{x,y,z,p,rfl,U,B,J}:=NK h;exact PE.imp (CD (I.t b X x t G U) (I.e b X y a G B) (I.e b X z Z G J)) λL H Q q=>NC q
 |x a Z=>
  let{x,y,p,rfl,U,B,J}:=EA h;show PE X _ (tE X.K (if aj a=a8 then w9 (dX C ar n a) (evE C ar n Z) else cF ixS (evE C ar n a) (evE C ar n Z)));split
  .rename_i ht;exact PE.imp (y7 CW (I.tm b X x a G ht U) (I.e b X y Z G B) (jO J)) λL H Q q=>Na q
  .exact PE.imp (y7 (U3 hu) (I.e b X x a G U) (I.e b X y Z G B) (jO J)) λL H Q q=>ku q
 |sl a lo hi=>let{x,y,z,p,p',rfl,U,B,J}:=Sf h;exact PE.imp (CU U4 (I.e b X x a G U) (u9 I G B) (u9 I G J)) λL H Q q=>RN q
 |c f cs=>
  let{x,e,es,p,p',rfl,h12,J}:=zF (k:=λx=>oA T.fns[f]? (λy=>y.1 == x) && b.glo x) (l:=λes=>cK T n b es cs) (e:=e) h;let{U,B}:=an2 h12
  .let{y,hy,U}:=fH U;let hx:=jQ U;subst hx;let{ha,fa,fd,ps,hm,hk,hb,F}:=G.fns f y hy;let E:=ba J;let g:=G.gl B;exact PE.imp (Hf F G.room g.1 hm hk hb .nil Ln (I.a b X (e::es) cs G J) g.2 (ai (E e Zf)) (fJ λe he=>E e (Zh _ he))) λL H Q q=>zw q
 |cal2 f g i cs=>
  let{x,y,p,p',lp,ie,xp,e,es,q,rfl,U,B,J,M,O}:=Io (k:=λx=>oA T.fns[f]? (λy=>y.1 == x) && b.glo x) (l:=λx=>oA T.fns[g]? (λy=>y.1 == x) && b.glo x) (m:=λx=>aG T n b x i) (a:=λes=>cK T n b es cs) (e:=e) h;let{U,g1}:=an2 U;let{B,g2}:=an2 B;let{z,hz,U}:=fH U;let{u,hu',B}:=fH B;let hx:=jQ U;subst hx;let hx:=jQ B;subst hx;let{ha,fa,fd,ps,hm,hk,hb,F}:=G.fns f z hz;let{ha',fa',fd',ps',hm',hk',hb',F'}:=G.fns g u hu';let E:=ba O;let g1:=G.gl g1;let g2:=G.gl g2;exact PE.imp (EK F F' G.room g1.1 hm hk hb g2.1 hm' hk' hb' (I.e b X ie i G J) (jO M) (I.a b X (e::es) cs G O) g1.2 g2.2 (ai (E e Zf)) (fJ λe he=>E e (Zh _ he))) λL H Q q=>Iz q
 |s t a=>
  let{x,y,p,p',rfl,B,O,h6,h7,_}:=fI h;let{y,p'',rfl,h8}:=bR h7;let{J,M}:=an2 h8;let hy:=jQ J;subst hy
  let ty:PE X (.Name (Str.ofString t.nm) p'') (tC (.ty t.nm)):=by
   let g:=G.gl M;cases t with
   |int=>exact ir g.1 (G.bl _ (by decide)) WL rfl (by decide) g.2
   |bool=>exact ir g.1 (G.bl _ (by decide)) PyProof.Rows.boot_bool rfl (by decide) g.2
   |tuple=>exact ir g.1 (G.bl _ (by decide)) WR rfl (by decide) g.2
   |list=>exact ir g.1 (G.bl _ (by decide)) WN rfl (by decide) g.2
   |str=>exact ir g.1 (G.bl _ (by decide)) WQ rfl (by decide) g.2
  exact PE.imp (fm (rJ X.K) (G.gl B).1 (G.bl _ (by decide)) WM (cV (I.e b X x a G O) (cj ty rfl) h6) (by decide) (G.gl B).2 (ai h6) rfl) λL H Q q=>HJ q
 |e a=>let{x,p,p',rfl,B,J,M}:=bp h;exact xR I G (λte z=>iG Br G B (by decide) Zan (by decide) z M) J
 |all a=>let{x,p,p',rfl,B,J,M}:=bp h;exact xR I G (λte z=>iG (Bt G.calm) G B (by decide) PyProof.Rows.boot_all (by decide) z M) J
 |strI a=>let{x,p,p',rfl,B,J,M}:=bp h;exact PE.imp (jP Bw G B (by decide) WQ (by decide) (I.e b X x a G J) M) λL H Q q=>uk q
 |lenS a=>let{x,p,p',rfl,B,J,M}:=bp h;exact PE.imp (iG xy G B (by decide) Zan (by decide) (I.e b X x a G J) M) λL H Q q=>uk q
 |intX a=>let{x,p,p',rfl,B,J,M}:=bp h;exact PE.imp (jP BI G B (by decide) WL (by decide) (I.e b X x a G J) M) λL H Q q=>uk q
 |t a=>let{x,p,p',rfl,B,J,M}:=bp h;exact xR I G (λte z=>jP Bs G B (by decide) WR (by decide) z M) J
 |listOf a=>exact tmp rfl rfl
 |l a=>exact tmp rfl rfl
 |srt a=>exact tmp rfl rfl
 |mx a Z=>
  let{x,es,p,p',rfl,B,J}:=u4 (b:=b) (f := "max") (k:=λes=>cK T n b es [a,Z]) (e:=e) h;let E:=ba J;exact PE.imp (fm (xk G.calm) (G.gl B).1 (G.bl _ (by decide)) PyProof.Rows.boot_max (I.a b X (x::es) [a,Z] G J) (by decide) (G.gl B).2 (ai (E x Zf)) (fJ λe he=>E e (Zh _ he))) λL H Q q=>Du q
 |mn a Z=>
  let{x,es,p,p',rfl,B,J}:=u4 (b:=b) (f := "min") (k:=λes=>cK T n b es [a,Z]) (e:=e) h;let E:=ba J;exact PE.imp (fm (xm G.calm) (G.gl B).1 (G.bl _ (by decide)) PyProof.Rows.boot_min (I.a b X (x::es) [a,Z] G J) (by decide) (G.gl B).2 (ai (E x Zf)) (fJ λe he=>E e (Zh _ he))) λL H Q q=>Du q
 |rep a=>let{x,p,p',rfl,B,J,M}:=bp h;exact PE.imp (iG (xI G.room) G B (by decide) PyProof.Rows.boot_repr (by decide) (I.e b X x a G J) M) λL H Q q=>uk q
 |o own elt cls=>exact tmp rfl rfl
 |app o a=>
  let{x,ap,es,p,rfl,B,J,M,O}:=fU h;let{y,rfl}:=kE O;let E:=ba O y (by simp);exact PE.imp (k8 W7 W9 PySem.F.type_list_append Nh (I.e b X x o G M) (I.a b X [y] [a] G O) (bL B) (fX E) J (ai E) rfl) λL H Q q=>ky (λR vd c=>xz R vd c) q
 |q o a=>
  let{x,ap,es,p,rfl,B,J,M,O}:=fU h;let{y,rfl}:=kE O;let E:=ba O y (by simp);exact PE.imp (k8 W7 VG PySem.F.type_list_pop Bx (I.e b X x o G M) (I.a b X [y] [a] G O) (bL B) (fX E) J (ai E) rfl) λL H Q q=>ky (λR vd c=>xz R vd c) q
 |ins o i a=>
  let{x,ap,es,p,rfl,B,J,M,O}:=fU h;let{y,z,rfl}:=NT O;let E:=ba O y (by simp);let hpz:=ba O z (by simp);exact PE.imp (k8 W7 VF PySem.F.type_list_insert HM (I.e b X x o G M) (I.a b X [y,z] [i,a] G O) (bL B) (by rw[ai E,ai hpz];rfl) J (ai E) (by rw[ai hpz];rfl)) λL H Q q=>ky (λR vd c=>xz R vd c) q
 |cnt o a=>
  let{x,ap,es,p,rfl,B,J,M,O}:=fU h;let{y,rfl}:=kE O;let E:=ba O y (by simp);exact PE.imp (k8 PySem.F.plainAttrs_tuple VJ PySem.F.type_tuple_count HL (I.e b X x o G M) (I.a b X [y] [a] G O) (bL B) (fX E) J (ai E) rfl) λL H Q q=>ky (λR vd c=>Ng R vd c) q
 |join o a=>
  let{x,ap,es,p,rfl,B,J,M,O}:=fU h;let{y,rfl}:=kE O;let E:=ba O y (by simp);exact PE.imp (k8 W8 PySem.F.slot_str_join PySem.F.type_str_join DQ (I.e b X x o G M) (I.a b X [y] [a] G O) (bL B) (fX E) J (ai E) rfl) λL H Q q=>ky (λR vd c=>DP R vd c) q
 |spl o a=>
  let{x,ap,es,p,rfl,B,J,M,O}:=fU h;let{y,rfl}:=kE O;let E:=ba O y (by simp);exact PE.imp (k8 W8 VH PySem.F.type_str_split BH (I.e b X x o G M) (I.a b X [y] [a] G O) (bL B) (fX E) J (ai E) rfl) λL H Q q=>ky (λR vd c=>DP R vd c) q
end
section
variable {T:Tab} {C:Calls} {ar:Nat->Nat} {k n:Nat} {b:Blk} {X:Cx}
def zJ{op:BoolOp}{v:List Expr}{p:Pos}{t:TT}(h:PT X (.BoolOp op v p) t):PW X (.BoolOp op v p) t:=λf c s g H Q I q=>h c s g H Q I q
def So(I:Snd T C ar k n)(e:Expr)(c:CE)(G:CtxOk T C ar k b X)(h:fV T (n+1) b e c=a8):PT X e (tT X.K (evT C ar (n+1) c)):=by
 let B:=gP G.room
 let dflt:evT C ar (n+1) c=HH (evE C ar n c)->(aG T n b e c && Ii e)=a8->PT X e (tT X.K (evT C ar (n+1) c)):=λM v=>by
  rw[M];let v:=an2 v;exact PT.imp (CO (I.e b X e c G v.1) (oD v.2)) λu H Q q=>Nc q
 cases c with
 |m o a j=>let{l,r,p,rfl,f,J,E}:=xP h;exact PT.imp (yX (iB B o) (I.e b X l a G f) (I.e b X r j G J) (fW E)) λu H Q q=>ku (RO q)
 |h o O a j d=>let{l,r,s,p,rfl,f,J,E,L}:=Ez h;exact PT.imp (CN (iB B o) (iB B O) (I.e b X l a G f) (I.e b X r j G J) (I.e b X s d G E) (oC L)) λu H Q q=>Eb (RO q)
 |d a j=>
  rcases Ij h with h |h
  .let{x,y,p,rfl,g,f}:=oB h;exact PT.imp (Cy (I.t b X x a G g) (G4 (I.t b X y j G f))).pt λu H Q q=>Ee q
  .let{x,y,z,Y,p,rfl,g,f}:=sN h;exact PT.imp (Cy (I.t b X x a G g) (zJ (I.t b X _ j G f))).pt λu H Q q=>Ee q
 |or a j=>
  rcases Ij h with h |h
  .let{x,y,p,rfl,g,f}:=oB h;exact PT.imp (Cz (I.t b X x a G g) (Cw (I.t b X y j G f))).pt λu H Q q=>Lf q
  .let{x,y,z,Y,p,rfl,g,f}:=sN h;exact PT.imp (Cz (I.t b X x a G g) (zJ (I.t b X _ j G f))).pt λu H Q q=>Lf q
 |n a=>let{x,p,rfl,g}:=xO h;exact PT.imp (CA (I.t b X x a G g)) λu H Q q=>NF q
 |ite _ _ _=>cases h
 |_=>exact dflt rfl h
def snd:∀n,Snd T C ar k n
 |0=>{λb X e c _ h=>absurd h Ze,λb X e c _ _ h=>absurd h Ze,λb X e c _ h=>absurd h Ze,λb X e c _ h=>absurd h Ze,λB b X t e c _ h=>absurd h Ze,λb X e gs E cls _ h=>absurd h Ze}
 |n+1=>{λb X e c G h=>Sn (snd n) e c G h,λb X e c G H h=>EL (snd n) e c G H h,λb X g f G h=>Sk (snd n) g f G h,λb X e c G h=>So (snd n) e c G h,λB b X t e c G h=>Sl (snd n) B t e c G h,λb X e gs E cls G h=>NP (snd n) e gs E cls G h}
end
inductive CS where |a (t:Tg)(e:CE) |j (v o i:CE) |swp (v o i q j:CE) |aug (i:Nat)(e:CE) |stg (i j:Nat)(e:CE) |rp (i t:Nat)(c:Str)(es:List CE)(y z z2:Str) |dcs (i:Nat)(own:List Str)(k v:CE)(t:Tg)(it:CI) |ex (e:CE) |ret (e:CE) |i (c:CE)(a b:List CS) |f (t:Tg)(it:CI)(b:List CS) |cnt |never
abbrev IA:XS:=λ_ _=>aT
mutual
noncomputable def evS(C:Calls)(f:Nat->Nat):Nat->CS->XS
 |0,_=>IA
 |n+1,s=>match s with
  |.a t e=>fT (evE C f n e) t
  |.j v o i=>uI (evE C f n v) (evE C f n o) (evE C f n i)
  |.swp v o i q j=>D1 (evE C f n v) (evE C f n o) (evE C f n i) (evE C f n q) (evE C f n j)
  |.dcs i own k v t it=>BC i own.length (evI C f n it) t (evE C f n k) (evE C f n v) LF
  |.aug i e=>D4 i (evE C f n e)
  |.stg i j e=>D5 i j (evE C f n e)
  |.rp i t c es y z z2=>fD (fT (bg (cu (aX (cF cJ (bn t) (xC (.str c))) (evA C f n es)))) (.n i)) (fT (cF cJ (bn i) (bg (cu (aX (xUn (fG y z) (bn t)) (aX (xUn (fG y z2) (bn t)) iS))))) (.n i))
  |.ex e=>uH (evE C f n e)
  |.ret e=>D0 (evE C f n e)
  |.i c a b=>xIf (evT C f n c) (eY C f n a) (eY C f n b)
  |.f t it b=>D3 (evI C f n it) t (eY C f n b) LF
  |.cnt=>R5
  |.never=>IA
noncomputable def eY(C:Calls)(b:Nat->Nat):Nat->List CS->XS
 |0,_=>IA
 |n+1,ss=>match ss with
  |[]=>La
  |s::ss=>fD (evS C b n s) (eY C b n ss)
end
abbrev EM:Expr->Bool
 |.Starred _ _=>a8
 |_=>a9
abbrev iH(sc:Scope)(L:Nat)(T:List Expr):List Str:=T.filterMap λ
 |.Name id pos=>if sc.names.lookup id == aD .local && pos.line == L then aD id else aT
 |_=>aT
abbrev oG(sc:Scope)(ts vs:List Expr):Option (Option (List Str)):=
 if (!(ts.length == 2 || ts.length == 3) || vs.length != ts.length)=a8 then aD aT
 else if (vs.any EM)=a8 then aD aT
 else if ((iH sc ((ts.head?.map (·.pos.line)).getD 0) ts).length != ts.length || (iH sc ((ts.head?.map (·.pos.line)).getD 0) ts).eraseDups.length != (iH sc ((ts.head?.map (·.pos.line)).getD 0) ts).length)=a8 then aD aT
 else if (vs.all (foldedForSure 8))=a8 then aD aT
 else if (vs.all (constantsAlone 8))=a8 then aT
 else aD (aD (iH sc ((ts.head?.map (·.pos.line)).getD 0) ts))
def Lr{k k2:Nat}(H:env.blockKind = .function)(hs:env.scope=sc)(h:oG sc ts v=aD r):ZaR [.Tuple ts k p] (.Tuple v k2 p2) env=pure r:=by
 delta oG at h;delta ZaR
 let E:(v.any λ|.Starred ..=>a8 |_=>a9)=v.any EM:=by
  congr 1
 let g:(ts.filterMap λ
   |.Name id pos=>if env.kindOf id == aD .local && pos.line == ((ts.head?.map (·.pos.line)).getD 0) then aD id else aT
   | _=>aT)=iH sc ((ts.head?.map (·.pos.line)).getD 0) ts:=by
  delta iH Env.kindOf;rw[hs]
 let o:(env.blockKind != .function)=a9:=by rw[H];rfl
 simp![o,Xk];split at h
 .rename_i C;rw[if_pos C];cases h;rfl
 rename_i C;rw[if_neg C];split at h
 .rename_i f;cases h;exact if_pos (E.trans f)
 rename_i f;calc Eq.trans (if_neg λz=>f (E.symm.trans z)) ?_;split at h
 .rename_i c;cases h;rw[<-g]at c;exact if_pos c
 rename_i c;rw[<-g]at c h;calc Eq.trans (if_neg c) ?_;split at h
 .rename_i b;cases h;exact if_pos b
 rename_i b;calc Eq.trans (if_neg b) ?_;split at h
 .cases h
 rename_i j;cases h;exact if_neg j
abbrev xT:Expr->Option (Scope×Pos)
 |.ListComp _ _ s p=>aD (s,p)
 |.SetComp _ _ s p=>aD (s,p)
 |.DictComp _ _ _ s p=>aD (s,p)
 |_=>aT
abbrev swW(sc:Scope)(v:Expr)(t:Str)(pos:Pos):Bool:=match xT v with
 |none=>a9
 |some (s,p)=>sc.names.lookup t == aD .local && pos.line == p.line && !(s.names.any λy=>y.1 == t && (y.2 == .local || y.2 == .cell))
def sP{line:Nat}(h:env.blockKind = .function)(hs:env.scope=sc):ZaS v (aD (.Name t pos)) line env=pure (swW sc v t pos):=by
 delta ZaS swW xT;let E:(env.blockKind == .function)=a8:=by rw[h];rfl
 cases v <;> first |rfl |(simp![E,ZR,Env.kindOf,hs];rfl)
def jS{L:Nat}(h:∀x p,T≠.Name x p):ZaT [T] v L env=pure a9:=by
 show ZaS v (aD T) L env=pure a9;delta ZaS;cases v <;> first |rfl |(cases T <;> first |rfl |(exact absurd rfl (h _ _)))
def iI(h:(∀E k p,v≠.Tuple E k p)\/(∃x p,T = .Name x p)\/(∃o i p,T = .Subscript o i p)):ZaR [T] v env=pure aT:=by
 delta ZaR;rcases h with h |⟨x,p,rfl⟩ |⟨o,i,p,rfl⟩
 .split
  .rename_i e;split at e
   .exact absurd rfl (h _ _ _)
   .exact absurd rfl (h _ _ _)
   .cases e
  .rfl
 .rfl
 .rfl
abbrev nmL:List Expr->Option (List Str)
 |[]=>aD []
 |e::es=>match mh e,nmL es with
  |some r,aD xs=>aD (r.1::xs)
  |_,_=>aT
def gQ(h:nmL b=aD (x::xs)):∃p E,b = .Name x p::E/\nmL E=aD xs:=by
 cases b with
 |nil=>cases h
 |cons e b=>
  rw[nmL]at h;split at h
  .rename_i r y H c;cases h;exact{_,b,by rw[eN H],c}
  .cases h
def zK(h:nmL E=aD []):E=[]:=by
 cases E with
 |nil=>rfl
 |cons e E=>
  rw[nmL]at h;split at h <;> cases h
abbrev tgL:List Tg->Option (List Nat)
 |[]=>aD []
 |.n i::ts=>match tgL ts with
  |some is=>aD (i::is)
  |none=>aT
 |.tup _::_=>aT
def EN:∀ {T:List Tg} {is:List Nat},tgL T=aD is->T=is.map Tg.n
 |[],_,h=>by cases h;rfl
 |.n i::T,is,h=>by
  rw[tgL]at h;cases e:tgL T with
  |none=>rw[e]at h;cases h
  |some j=>rw[e]at h;cases h;rw[EN e];rfl
 |.tup _::_,_,h=>by cases h
abbrev Sq(b:Blk)(ns:List Str)(is:List Nat):Bool:=match ns with
 | [x,y]=>(match is with
  |[i,j]=>b.N[i]? == aD x && b.N[j]? == aD y && i != j && b.sc.names.lookup x == aD .local && b.sc.names.lookup y == aD .local
  | _=>a9)
 | [x,y,z]=>(match is with
  |[i,j,l]=>b.N[i]? == aD x && b.N[j]? == aD y && b.N[l]? == aD z && i != j && i != l && j != l && b.sc.names.lookup x == aD .local && b.sc.names.lookup y == aD .local && b.sc.names.lookup z == aD .local
  | _=>a9)
 |_=>a9
abbrev U9(e:Expr):Bool:=kC e λ_ _ _ _=>a8
abbrev Sr(e:Expr):Bool:=e.ctorIdx == 24
abbrev xU(T:Tab)(n:Nat)(b:Blk)(f e:Expr)(t:Tg)(c:CE):Bool:=match t with
 | .n i=>(match mh f with
  |some r=>aG T n b e c && b.N[i]? == aD r.1 && b.own r.1 && (!(swW b.sc e r.1 r.2) || (U9 e && b.sc.names.lookup r.1 == aD .local))
  | none=>a9)
 | .tup gs=>(match pO f with
  | some r=>aG T n b e c && (match pO e with
   | some q=>(match oG b.sc r.1 q.1 with
    |some aT=>ow b r.1 gs
    | some (aD ns)=>(match tgL gs with
     |some is=>nmL r.1 == aD ns && q.1.length == ns.length && Sq b ns is
     | none=>a9)
    | none=>a9)
   | none=>!(Sr e) && ow b r.1 gs)
  | none=>a9)
abbrev zL(e:Stmt)(k:Option Expr->Pos->Bool):Bool:=if h:e.ctorIdx=3 then @Stmt.Return.elim (λ_=>Bool) e h k else a9
def BO(h:zL e k=a8):∃b X,e = .Return b X/\k b X=a8:=by
 let{H,h}:=bI h;exact Stmt.Return.elim (motive_2:=λe=>∀c,@Stmt.Return.elim (λ_=>Bool) e c k=a8->∃b X,e = .Return b X/\k b X=a8) e H (λb X _ f=>⟨b,X,rfl,f⟩) H h
abbrev mJ(e:Stmt)(k:List Expr->Expr->Pos->Bool):Bool:=if h:e.ctorIdx=5 then @Stmt.Assign.elim (λ_=>Bool) e h k else a9
def kF(h:mJ e k=a8):∃c b X,e = .Assign c b X/\k c b X=a8:=by
 let{H,h}:=bI h;exact Stmt.Assign.elim (motive_2:=λe=>∀f,@Stmt.Assign.elim (λ_=>Bool) e f k=a8->∃c b X,e = .Assign c b X/\k c b X=a8) e H (λc b X _ g=>⟨c,b,X,rfl,g⟩) H h
abbrev Ss(e:Stmt)(k:Expr->Expr->List Stmt->List Stmt->Pos->Bool):Bool:=if h:e.ctorIdx=9 then @Stmt.For.elim (λ_=>Bool) e h k else a9
def NU(h:Ss e k=a8):∃g f c X b,e = .For g f c X b/\k g f c X b=a8:=by
 let{H,h}:=bI h;exact Stmt.For.elim (motive_2:=λe=>∀j,@Stmt.For.elim (λ_=>Bool) e j k=a8->∃g f c X b,e = .For g f c X b/\k g f c X b=a8) e H (λg f c X b _ o=>⟨g,f,c,X,b,rfl,o⟩) H h
abbrev jIf(e:Stmt)(k:Expr->List Stmt->List Stmt->Pos->Bool):Bool:=if h:e.ctorIdx=12 then @Stmt.If.elim (λ_=>Bool) e h k else a9
def Su(h:jIf e k=a8):∃f c b X,e = .If f c b X/\k f c b X=a8:=by
 let{H,h}:=bI h;exact Stmt.If.elim (motive_2:=λe=>∀g,@Stmt.If.elim (λ_=>Bool) e g k=a8->∃f c b X,e = .If f c b X/\k f c b X=a8) e H (λf c b X _ j=>⟨f,c,b,X,rfl,j⟩) H h
abbrev Ls(e:Stmt)(k:Expr->Pos->Bool):Bool:=if h:e.ctorIdx=24 then @Stmt.Expr.elim (λ_=>Bool) e h k else a9
def IB(h:Ls e k=a8):∃b X,e = .Expr b X/\k b X=a8:=by
 let{H,h}:=bI h;exact Stmt.Expr.elim (motive_2:=λe=>∀c,@Stmt.Expr.elim (λ_=>Bool) e c k=a8->∃b X,e = .Expr b X/\k b X=a8) e H (λb X _ f=>⟨b,X,rfl,f⟩) H h
abbrev qD(e:Stmt)(k:Pos->Bool):Bool:=if h:e.ctorIdx=27 then @Stmt.Continue.elim (λ_=>Bool) e h k else a9
def vf(h:qD e k=a8):∃X,e = .Continue X/\k X=a8:=by
 let{H,h}:=bI h;exact Stmt.Continue.elim (motive_2:=λe=>∀b,@Stmt.Continue.elim (λ_=>Bool) e b k=a8->∃X,e = .Continue X/\k X=a8) e H (λX _ c=>⟨X,rfl,c⟩) H h
abbrev Sv(e:Stmt)(k:Expr->VQ->Expr->Pos->Bool):Bool:=if h:e.ctorIdx=7 then @Stmt.AugAssign.elim (λ_=>Bool) e h k else a9
def NV(h:Sv e k=a8):∃f c b X,e = .AugAssign f c b X/\k f c b X=a8:=by
 let{H,h}:=bI h;exact Stmt.AugAssign.elim (motive_2:=λe=>∀g,@Stmt.AugAssign.elim (λ_=>Bool) e g k=a8->∃f c b X,e = .AugAssign f c b X/\k f c b X=a8) e H (λf c b X _ j=>⟨f,c,b,X,rfl,j⟩) H h
abbrev vg(e:Expr)(k:Expr->Pos->Bool):Bool:=if h:e.ctorIdx=22 then @Expr.Starred.elim (λ_=>Bool) e h k else a9
def xV{e:Expr}{k:Expr->Pos->Bool}(h:vg e k=a8):∃b X,e = .Starred b X/\k b X=a8:=by
 let{H,h}:=bI h;exact Expr.Starred.elim (motive_1:=λe=>∀c,@Expr.Starred.elim (λ_=>Bool) e c k=a8->∃b X,e = .Starred b X/\k b X=a8) e H (λb X _ f=>⟨b,X,rfl,f⟩) H h
abbrev sQ(e:Expr):Bool:=e.ctorIdx == 8 || e.ctorIdx == 9 || e.ctorIdx == 10
abbrev EO(T:Tab)(n:Nat)(b:Blk)(f e:Expr)(i:Nat)(own:List Str)(k v:CE)(t:Tg)(I:CI):Bool:=oA (mh f) λr=>qw e λh ve gs c _=>l1 gs λg=>
 decide (g.is_async=0) && g.ifs.isEmpty && cmB own (jN own b.N) b.N c b.sc && sO T n b g.target g.iter I && uZ (b.inner own c) g.target t && aG T n (b.inner own c) h k && aG T n (b.inner own c) ve v &&
 b.N[i]? == aD r.1 && b.own r.1 && (!(swW b.sc e r.1 r.2) || b.sc.names.lookup r.1 == aD .local)
abbrev zAsg(k:Expr->Expr->Bool)(s:Stmt):Bool:=mJ s λb v _=>l1 b λT=>k T v
abbrev Lu(k l m:Expr->Bool)(s:Stmt):Bool:=mJ s λb z _=>l1 b λT=>dY T λx y _=>k z && l x && m y && aI y
abbrev ER(e:Expr)(l m:Expr->Bool):Bool:=dY e λx y _=>l x && m y && aI y
abbrev Sw(k:Expr->Bool)(l m L M:Expr->Bool)(b:Blk)(s:Stmt):Bool:=mJ s λc z _=>l1 c λT=>oA (pO T) λr=>lC r.1 λg t=>l1 t λf=>oA (pO z) λw=>k z && ER g l m && ER f L M && (match oG b.sc r.1 w.1 with |some aT=>a8 |_=>a9)
abbrev zEx(k:Expr->Bool)(s:Stmt):Bool:=Ls s λv _=>k v && !(sQ v)
abbrev BP(k:Expr->Bool)(s:Stmt):Bool:=zL s λv _=>oA v k
abbrev zIf(k:Expr->Bool)(l m:List Stmt->Bool)(s:Stmt):Bool:=jIf s λt p q _=>k t && l p && m q
abbrev Sx(k:Expr->Expr->Bool)(l:List Stmt->Bool)(s:Stmt):Bool:=Ss s λT i p q _=>q.isEmpty && k T i && l p
abbrev Sy(s:Stmt):Bool:=qD s λ_=>a8
section
variable {s:Stmt} {k l m:Expr->Bool}
def gR{k:Expr->Expr->Bool}(h:zAsg k s=a8):∃T v p,s = .Assign [T] v p/\k T v=a8:=by
 let{b,v,p,rfl,h}:=kF h;let{T,rfl,h}:=cy h;exact⟨T,v,p,rfl,h⟩
def IC(h:Lu k l m s=a8):∃x y q z p,s = .Assign [.Subscript x y q] z p/\k z=a8/\l x=a8/\m y=a8/\aI y=a8:=by
 let{b,v,p,rfl,h}:=kF h;let{T,rfl,h}:=cy h;let{x,y,q,rfl,h}:=dC h;exact{x,y,q,v,p,rfl,an4 h}
def ES(h:ER e l m=a8):∃x y q,e = .Subscript x y q/\l x=a8/\m y=a8/\aI y=a8:=by
 let{x,y,q,rfl,h}:=dC h;exact{x,y,q,rfl,an3 h}
def NX(h:Sw k l m L M b s=a8):∃T c u pt f o q p,s = .Assign [.Tuple [T,c] u pt] (.Tuple f o q) p/\k (.Tuple f o q)=a8/\ER T l m=a8/\ER c L M=a8/\oG b.sc [T,c] f=aD aT:=by
 let{U,z,p,rfl,h}:=kF h;let{Q,rfl,h}:=cy h;let{⟨r1,r2,I⟩,B,h}:=fH h;let{T,t,E,h}:=bP h;let{c,y,h}:=cy h;let{⟨j,w2,v⟩,J,h}:=fH h;let{g,C,O,H}:=an4 h;let E:r1=T::t:=E;subst y;subst E;rw[iE B];rw[iE J]at g ⊢;calc{T,c,r2,I,j,w2,v,p,rfl,g,C,O,?_};let H:(match oG b.sc [T,c] j with |some aT=>a8 |_=>a9)=a8:=H;split at H
 .rename_i e;exact e
 .cases H
def Sz(h:zEx k s=a8):∃v p,s = .Expr v p/\k v=a8/\sQ v=a9:=by
 let{v,p,rfl,h}:=IB h;let{b,H}:=an2 h;exact{v,p,rfl,b,by cases e:sQ v;rfl;rw[e]at H;cases H}
def oH(h:BP k s=a8):∃v p,s = .Return (aD v) p/\k v=a8:=by
 let{v,p,rfl,h}:=BO h;let{v,rfl,h}:=fH h;exact⟨v,p,rfl,h⟩
def ET{l m:List Stmt->Bool}(h:zIf k l m s=a8):∃t p q r,s = .If t p q r/\k t=a8/\l p=a8/\m q=a8:=by
 let{t,p,q,r,rfl,h}:=Su h;exact{t,p,q,r,rfl,an3 h}
def NY{k:Expr->Expr->Bool}{l:List Stmt->Bool}(h:Sx k l s=a8):∃T i p q,s = .For T i p [] q/\k T i=a8/\l p=a8:=by
 let{T,i,p,q,r,rfl,h}:=NU h;let{H,z}:=an3 h;cases cG H;exact⟨T,i,p,r,rfl,z⟩
def NZ(h:Sy s=a8):∃p,s = .Continue p:=by let{p,rfl,_}:=vf h;exact⟨p,rfl⟩
end
abbrev IE(b:Blk)(i:Nat)(e:Expr):Bool:=eO (λx=>b.N[i]? == aD x && b.vis x) e
abbrev N0(b:Blk)(t:Nat)(y z:Str)(e:Expr):Bool:=!(y == z) && decide (z.length<=14) && sM "replace" (IE b t) (λl=>lC l λu l=>l1 l λv=>sJ y u && sJ z v) e
abbrev zRp(b:Blk)(i t:Nat)(c y z Z:Str)(k:List Expr->Bool)(s g:Stmt):Bool:=
 zAsg (λT v=>oA (mh T) λx=>b.N[i]? == aD x.1 && b.own x.1 && !(swW b.sc v x.1 x.2) && sK (λl=>lC l λe l=>BM .Add (IE b t) (sJ c) e && aI e && k l) v) s &&
 zAsg (λT v=>oA (mh T) λx=>b.N[i]? == aD x.1 && b.own x.1 && !(swW b.sc v x.1 x.2) && BM .Add (IE b i) (sK λl=>lC l λe l=>l1 l λf=>N0 b t y z e && N0 b t y Z f && aI e && aI f) v) g
mutual
noncomputable def IG(T:Tab):Nat->Blk->Stmt->CS->Bool
 |0,_,_,_=>a9
 |n+1,b,s,c=>match c with
  |.a t e=>zAsg (λf v=>xU T n b f v t e) s
  |.j v o i=>Lu (λx=>aG T n b x v) (λx=>aG T n b x o) (λx=>aG T n b x i) s
  |.swp v o i q j=>Sw (λx=>aG T n b x v) (λx=>aG T n b x o) (λx=>aG T n b x i) (λx=>aG T n b x q) (λx=>aG T n b x j) b s
  |.dcs i own k v t it=>zAsg (λf e=>EO T n b f e i own k v t it) s
  |.aug i c=>Sv s λf op e _=>decide (op = .Add) && oA (mh f) λr=>b.N[i]? == aD r.1 && b.own r.1 && aG T n b e c
  |.stg i j c=>zAsg (λf e=>oA (pO f) λr=>lC r.1 λu g=>l1 g λh=>oA (mh u) λx=>vg h λy _=>oA (mh y) λy=>b.N[i]? == aD x.1 && b.own x.1 && b.N[j]? == aD y.1 && b.own y.1 && !(Sr e) && (pO e).isNone && aG T n b e c) s
  |.rp _ _ _ _ _ _ _=>a9
  |.ex e=>zEx (λx=>aG T n b x e) s
  |.ret e=>BP (λx=>aG T n b x e) s
  |.i c x y=>zIf (λe=>fV T n b e c) (λp=>lG T n b p x) (λp=>lG T n b p y) s
  |.f t it x=>Sx (λf i=>sO T n b f i it && uZ b f t) (λp=>lG T n b p x) s
  |.cnt=>Sy s
  |.never=>a8
noncomputable def lG(T:Tab):Nat->Blk->List Stmt->List CS->Bool
 |0,_,_,_=>a9
 |n+1,b,ss,cs=>match cs with
  |[]=>ss.isEmpty
  |.rp i t c es y z z2::cs=>lC ss λs ss=>lC ss λf ss=>zRp b i t c y z z2 (λl=>cK T (n - 1) b l es) s f && lG T n b ss cs
  |c::cs=>lC ss λs ss=>IG T n b s c && lG T n b ss cs
end
section
variable {T:Tab} {C:Calls} {ar:Nat->Nat} {k n:Nat} {b:Blk} {X:Cx}
def IH{f:Nat}(h:aG T (n+1) b (.Tuple E f p) (.tup c)=a8):cK T n b E c=a8:=h
def EU{j:Nat}(h:aG T (n+1) b (.Tuple q j p) c=a8):∃cs,c = .tup cs:=by
 cases c with
 |tup cs=>exact⟨cs,rfl⟩
 |o own E cls=>
  cases cls with
  |nil=>exact absurd h Ze
  |cons g f=>let{o,I,cond}:=g;exact absurd h Ze
 |_=>exact absurd h Ze
def ji:∀ (f:List Tg) (ds:List D) (g c:Rho),aQ f ds g=aD c->f.length=ds.length
 |[],[],_,_,_=>rfl
 |[],_::_,_,_,e=>by simp[aQ]at e
 |_::_,[],_,_,e=>by simp[aQ]at e
 |t::f,d::ds,g,c,e=>by
  simp![aQ]at e;split at e
  .simp[ji _ _ _ _ e]
  .cases e
def vh{K:V6}{x:XA}{p:List Tg}{D:Ends}{u:L2.St}{H:Hp}(h:tSt K (fT (md me x) (.tup p)) D u H):tAr K x u H λz H1=>∃M f g ds,EnvR K M H1 f u/\VDs K M H1 ds z/\aQ p ds f=aD g/\∀c,EnvR K M H1 g c->D.nx c H1:=by
 let{m,f,S,U,g,Q,E,R,e,q}:=h;delta fT at e;cases v:md me x f S with
 |none=>rw[v]at e;cases e
 |some r=>
  rw[v]at e;let{ds,O,J,j}:=ac v;delta me at j;split at j
  .cases j;dsimp! at e;simp![aE]at e;cases o:aQ p ds f with
   |none=>rw[o]at e;cases e
   |some L=>
    rw[o]at e;cases e;exact{m,f,S,ds,_,E,R,J,λM H1 z y I=>{M,f,_,ds,E.mono R y.ext,I,o,λc B=>q M H1 y c B}}
  .cases j
def vj{K:V6}{x:XA}{g:L2.St}{H:Hp}{Q Q':List V->Hp->Prop}(h:tAr K x g H Q)(f:∀v c,Q v c->Q' v c):tAr K x g H Q':=by
 let{m,o,S,d,p,E,R,e,q}:=h;exact{m,o,S,d,p,E,R,e,λM c v A j=>f _ _ (q M c v A j)}
def oI{f c:Rho}{i:Nat}{d:D}(h:(if i < f.length then aD (f.set i (aD d)) else aT)=aD c):c=f.set i (aD d):=by
 split at h
 .cases h;rfl
 .cases h
def II{K:V6}{x:XA}{i j:Nat}{D:Ends}{f:L2.St}{H:Hp}(h:tSt K (fT (md me x) (.tup [.n i,.n j])) D f H):Ro i j (tAr K x) D f H:=by
 calc vj (vh h) λL J ⟨M,O,o,I,E,z,e,q⟩=>?_;let B:=ji _ _ _ _ e
 match I,B with
 |[a,c],_=>
  let{v,w,rfl,y,p}:=xj z;calc{v,w,rfl,q _ ?_};simp![aQ,aE]at e;split at e
  .rename_i r1 g;let:=oI g;subst this;split at e
   .rename_i r2 u;let:=oI u;subst this;cases e;exact(E.set y).set p
   .cases e
  .cases e
def Va{K:V6}{m:List Addr}{H:Hp}{a b c:D}{f:List V}(h:VDs K m H [a,b,c] f):∃v w z,f=[v,w,z]/\VD K m H a v/\VD K m H b w/\VD K m H c z:=by
 rw[VDs]at h;let{v,r,rfl,p,q}:=h;let{w,z,rfl,g,Q}:=xj q;exact⟨v,w,z,rfl,p,g,Q⟩
def IJ{K:V6}{x:XA}{i j l:Nat}{D:Ends}{g:L2.St}{H:Hp}(h:tSt K (fT (md me x) (.tup [.n i,.n j,.n l])) D g H):K5 i j l (tAr K x) D g H:=by
 calc vj (vh h) λZ Q ⟨Y,O,J,M,E,I,e,q⟩=>?_;let y:=ji _ _ _ _ e
 match M,y with
 |[a,c,d],_=>
  let{v,w,z,rfl,u,B,f}:=Va I;calc{v,w,z,rfl,q _ ?_};simp![aQ,aE]at e;split at e
  .rename_i r1 p;let:=oI p;subst this;split at e
   .rename_i r2 L;let:=oI L;subst this;split at e
    .rename_i U o;let:=oI o;subst this;cases e;exact((E.set u).set B).set f
    .cases e
   .cases e
  .cases e
def EV(h:aG T (n+1) b (.ListComp e gs f p) c=a8):∃own E o I cond g t i ifs j,c = .o own E (⟨o,I,cond⟩::g)/\gs=⟨t,i,ifs,0⟩::j ∧
  cmB own (jN own b.N) b.N f b.sc=a8/\sO T n b t i I=a8/\uZ (b.inner own f) t o=a8/\EC (fV T n (b.inner own f)) ifs cond=a8/\qy T n (b.inner own f) e j E g=a8:=by
 cases c with
 |o own E cls=>
  .let{o,I,cond,g,rfl,u}:=Lm h;let{O,t,i,ifs,j,q,M,B,J}:=zG u;cases B;let{z,H,v,L,y}:=an5 J;exact⟨own,E,o,I,cond,g,t,i,ifs,j,rfl,rfl,z,H,v,L,y⟩
 |_=>exact absurd h Ze
end
section
variable {K:V6} {m:List Addr} {H:Hp} {S:Sto}
def BQ{p:Nat}(e:BB p c j S=aD o):∃k b ds,uu c=aD k/\S[p]?=aD (.dic b ds)/\k∉b/\b.length < 1000/\o=S.set p (.dic (b++[k]) (ds++[j])):=by
 delta BB at e;split at e
 .rename_i k b ds g f;split at e
  .rename_i h;cases e;exact{k,b,ds,g,f,λz=>ω (Zg.mp h.1 _ z) rfl,h.2,rfl}
  .cases e
 .cases e
def N4{p:Nat}{h:Addr}{k v:XE}{D:Ends}{M:L2.St}{Z:Fl}(U:m[p]?=aD h)(E:EnvR K m H g M)(R:Rel K m S H)(e:uJ p k v g S=aD (Z,I,S'))(q:∀X H',Aft K m H S' X H'->uG K X H' Z I D):C8 h (tE K k) (tE K v) D M H:=by
 delta uJ at e;cases C:k g S with
 |none=>rw[C]at e;cases e
 |some r1=>
  let{dk,u}:=r1;rw[C]at e;dsimp! at e;cases J:v g u with
  |none=>rw[J]at e;cases e
  |some r2=>
   let{z,T}:=r2;rw[J]at e;dsimp! at e;cases B:BB p dk z T with
   |none=>rw[B]at e;cases e
   |some S3=>
    rw[B]at e;cases e;let{L,j,ds,O,hn,hc,hl,rfl}:=BQ B;calc{m,g,S,_,u,E,R,C,λm1 H1 x c vk=>{m1,g,u,z,T,E.mono R c.ext,c.rel,J,λm2 H2 y b vv=>?_}};let{a,Q,o,hH,Y,f}:=b.rel.ob p _ hn;rw[cB (c.trans b).ext.pre U]at Q;cases Q;let hz:j.length=o.length:=Y.trans f.length;calc{j.zip o,L,hH,zk O (vk),by rw[ZaO,Wk];lia,?_};rw[ng y hc hz];let w:=b.rel.writeO (cB (c.trans b).ext.pre U) (.dK ((j++[L]).zip (o++[y]))) (.dic (j++[L]) (ds++[z])) λx=>{o++[y],aF,by simp[Y],VDs.mono b.rel x (f.append (.cons vv .nil))};exact q _ _ ((c.trans b).trans ⟨w.1,w.2⟩) M (E.mono R ((c.trans b).trans ⟨w.1,w.2⟩).ext)
def EnvR.wide{n:Nat}(E:EnvR K m H b c):EnvR K m H (b++Zr n aT) (c++Zr n aT):=by
 calc{by simp[E.len],λi d e=>?_};by_cases h:i < b.length
 .rw[Zz h]at e;rw[Zz (by rw[<-E.len];exact h)];exact E.at_ i d e
 .rw[Zo (by lia),Yx]at e;split at e <;> cases e
def EW{i own n:Nat}{L:XI}{T:Tg}{k v:XE}{D:Ends}{Z:L2.St}(h:tSt K (BC i own L T k v n) D Z H):qZ (rG (.dK []) own (tIt K [] L) (tTg K T) λacc=>fq wK (C8 acc (tE K k) (tE K v))) (iV i) D Z H:=by
 let{m,Y,S,fl,ρ',S',E,R,e,q}:=h;delta BC at e;cases u:L Y S with
 |none=>rw[u]at e;cases e
 |some r=>
  let{nx,z}:=r;rw[u]at e;dsimp! at e;calc{m,Y,S,nx,z,E,R,λb B=>absurd B (by simp),u,λM p J f hI acc c=>?_};split at e
  .rename_i ρ2 Q hf;cases e;let x0:=Ext.beside f.rel c (.dK []);let X:Ext M p (M++[acc]) (upd p acc (.dK [])):=x0.adopt c;let U:Rel K (M++[acc]) (z++[.dic [] []]) (upd p acc (.dK [])):=(f.rel.beside c (.dK [])).adoptO (f.rel.no c) (ob:=.dic [] []) ⟨[],aF,rfl,.nil⟩;let E1:=E.mono R (f.ext.trans X);let g:(M++[acc])[z.length]?=aD acc:=by rw[Zo (by rw[f.rel.len];exact Zc _),f.rel.len,Ye];rfl
   let O:IOk K [] J nx (M++[acc]) (upd p acc (.dK [])):=λC Q y j x R2=>hI C Q y j ((X.trans {x.pre,λa o h n=>x.keep a o h n (by simp),x.new}).toB λb B=>absurd B (by simp)) R2;exact zr O (λx E R e q=>N4 (cB x.pre g) E R e q) n E1.wide U (Ext.refl _ _) hf λC y I σ2 _=>q C y (f.trans (Aft.trans ⟨X,U⟩ I)) _ ((E.mono R (f.ext.trans (X.trans I.ext))).set (by rw[VD];exact{acc,cB I.ext.pre g,rfl}))
  .cases e
end
section
variable {T:Tab} {C:Calls} {ar:Nat->Nat} {k n:Nat} {b:Blk} {X:Cx}
def N5(G:CtxOk T C ar k b X)(hb:X.env.blockKind = .function){Y e:Expr}{i:Nat}{own:List Str}{y z:CE}{t:Tg}{J:CI}{p:Pos}(h:EO T n b Y e i own y z t J=a8):PS X (.Assign [Y] e p) (tSt X.K (BC i own.length (evI C ar n J) t (evE C ar n y) (evE C ar n z) LF)):=by
 let{r,U,h}:=fH h;let{B,ve,gs,f,pp,rfl,h}:=uW h;let{⟨O,M,ifs,as⟩,rfl,h}:=cy h;simp![bAE]at h;let{⟨⟨⟨⟨⟨⟨⟨⟨h1,h2⟩,h3⟩,L⟩,h5⟩,h6⟩,h7⟩,Z⟩,h9⟩,E}:=h;cases ω h1;cases cG h2;rw[eN U];let S:CmScope own (jN own b.N) b.N f b.sc:=wP _ h3;let S':CmScope own (jN own b.N) X.N f X.env.scope:=by rw[G.hN,G.hs];exact S
 let I:=sP (sc:=b.sc) (v:=.DictComp B ve [⟨O,M,[],0⟩] f pp) (t:=r.1) (pos:=r.2) (line:=p.line) hb G.hs;let o:=G.own h9;let nd:X.N.Nodup:=by rw[G.hN];exact G.nd
 let hi:X.N[i]?=aD r.1:=by rw[G.hN];simpa using Z
 cases hw:swW b.sc (.DictComp B ve [⟨O,M,[],0⟩] f pp) r.1 r.2 with
 |false=>
  rw[hw]at I
  refine PS.imp (CH (by rw[G.hN];exact G.nd) (by rw[G.hN];simpa using Z) o.1 (zd (c:=.d B ve) (g:=tTg X.K t) (ti:=wK) (t:=λu=>C8 u (tE X.K (evE C ar n y)) (tE X.K (evE C ar n z))) G.calm S' ((snd n).i [] b X O M J G L)
   (λj ex s H=>eR (G.inner S (C':=j) (ex:=ex) (s:=s) (H:=H)) h5) (λj ex s H=>rF) (λj ex s H u=>zc rfl rfl ((snd n).e _ _ B y (G.inner S (C':=j) (ex:=ex) (s:=s) (H:=H)) h6) ((snd n).e _ _ ve z (G.inner S (C':=j) (ex:=ex) (s:=s) (H:=H)) h7)) (dJ L (λe Q env=>cL Q) X.env)) I o.2) λD σ H q=>EW q
 |true=>
  rw[hw]at I E;let U:X.env.scope.names.lookup r.1=aD .local:=by rw[G.hs];simpa using E
  refine PS.imp (ze (c:=.d B ve) (g:=tTg X.K t) (ti:=wK) (t:=λu=>C8 u (tE X.K (evE C ar n y)) (tE X.K (evE C ar n z))) G.calm S' nd hi U ((snd n).i [] b X O M J G L)
   (λj ex s H=>eR (G.inner S (C':=j) (ex:=ex) (s:=s) (H:=H)) h5) (λj ex s H=>rF) (λj ex s H u=>zc rfl rfl ((snd n).e _ _ B y (G.inner S (C':=j) (ex:=ex) (s:=s) (H:=H)) h6) ((snd n).e _ _ ve z (G.inner S (C':=j) (ex:=ex) (s:=s) (H:=H)) h7)) I (dJ L (λe Q env=>cL Q) X.env)) λD σ H q=>EW q
end
section
variable {T:Tab} {C:Calls} {ar:Nat->Nat} {k n:Nat} {b:Blk} {X:Cx}
def jT(h:X.env.scope.kind = .function):X.env.blockKind = .function:=by
 delta Env.blockKind;rw[h];rfl
def IK{c:Type}{l:List c}(h:l.length=2):∃a b,l=[a,b]:=by
 match l,h with
 |[a,b],_=>exact⟨a,b,rfl⟩
def BR{f:Type}{l:List f}(h:l.length=3):∃a b c,l=[a,b,c]:=by
 match l,h with
 |[a,b,c],_=>exact⟨a,b,c,rfl⟩
def N6(G:CtxOk T C ar k b X)(hk:X.env.scope.kind = .function){tg e:Expr}{t:Tg}{c:CE}{p:Pos}(h:xU T n b tg e t c=a8):PS X (.Assign [tg] e p) (tSt X.K (fT (evE C ar n c) t)):=by
 let hb:=jT hk;delta xU at h;cases t with
 |n i=>
  dsimp! at h;cases E:mh tg with
  |none=>rw[E]at h;cases h
  |some r=>
  let{x,px}:=r;rw[E]at h;rw[eN E];simp![bAE]at h;let{⟨⟨J,h2⟩,f⟩,h4}:=h;let hi:X.N[i]?=aD x:=by rw[G.hN];simpa using h2
  let nd:X.N.Nodup:=by rw[G.hN];exact G.nd
  let o:=G.own f;let sw:=sP (sc:=b.sc) (v:=e) (t:=x) (pos:=px) (line:=p.line) hb G.hs;cases B:swW b.sc e x px with
  |false=>
   rw[B]at sw;exact PS.imp (CH nd hi o.1 ((snd n).e b X e c G J) sw o.2) λD σ H q=>mI (sD q) λv H' z=>mG z
  |true=>
   rw[B]at h4 sw;simp![Bool.not_true,Ww,bAE]at h4;let{h5,h4}:=h4;let{el,gs,u,pp,rfl,_}:=lF h5
   .cases n with
    |zero=>exact absurd J Ze
    |succ n=>
     let{own,U,tg',it,cond,L,tt,ii,ifs,gs',rfl,rfl,c0,c1,c2,c3,c4}:=EV J;let S:CmScope own (jN own b.N) b.N u b.sc:=wP _ c0;let S':CmScope own (jN own b.N) X.N u X.env.scope:=by rw[G.hN,G.hs];exact S
     let hpl:=dJ c1 (λe he env=>cL he) X.env;let E:X.env.scope.names.lookup x=aD .local:=by rw[G.hs];simpa using h4
     refine PS.imp (ze (c:=.l el) (g:=tTg X.K tg') (ti:=ifT C ar n X.K cond) (t:=λI=>tCl X.K I (iU C ar n U L)) G.calm S' nd hi E ((snd n).i [] b X tt ii it G c1) (λC' ex s H=>eR (G.inner S (C':=C') (ex:=ex) (s:=s) (H:=H)) c2) (λC' ex s H=>oE (snd n) (G.inner S (C':=C') (ex:=ex) (s:=s) (H:=H)) c3)
      (λC' ex s H I=>(snd n).cl _ _ el gs' U L (G.inner S (C':=C') (ex:=ex) (s:=s) (H:=H)) c4 _ u pp I 0 rfl) sw hpl) λD σ H q=>?_
     exact zu (λI D σ H z=>xS z) (jE (mI (sD q) λv H' z=>mG z))
 |tup gs=>
  dsimp! at h;cases E:pO tg with
  |none=>rw[E]at h;cases h
  |some r=>
  let{O,Z,pt}:=r;rw[E]at h;rw[iE E];simp![bAE]at h;let{J,f}:=h;let so:ZaT [.Tuple O Z pt] e p.line X.env=pure a9:=jS λx p z=>nomatch z
  let plain:∀ (B:ZaR [.Tuple O Z pt] e X.env=pure aT) (hg:ow b O gs=a8),PS X (.Assign [.Tuple O Z pt] e p) (tSt X.K (fT (evE C ar n c) (.tup gs))):=λB hg=>
   PS.imp (i9 ((snd n).e b X e c G J) (eR G (e:=.Tuple O Z pt) (t:=.tup gs) hg) so B rfl) λD σ H q=>sD q
  cases Y:pO e with
  |none=>
   rw[Y]at f;simp![bAE]at f;exact plain (iI (.inl λes k p z=>by rw[z]at Y;cases Y)) f.2
  |some q=>
   let{es,ke,pe}:=q;rw[Y]at f;obtain rfl:=iE Y;cases n with
   |zero=>exact absurd J Ze
   |succ n=>
    let{cs,rfl}:=EU J;let ha:=IH J;dsimp! at f;cases hr:oG b.sc O es with
    |none=>rw[hr]at f;cases f
    |some w=>
     let B:=Lr (k:=Z) (p:=pt) (k2:=ke) (p2:=pe) hb G.hs hr;rw[hr]at f;cases w with
     |none=>exact plain B f
     |some ns=>
      dsimp! at f;cases ht:tgL gs with
      |none=>rw[ht]at f;cases f
      |some is=>
       rw[ht]at f;simp![bAE]at f;let{⟨hn0,hl0⟩,f}:=f;let hn:nmL O=aD ns:=by simpa using hn0
       let hl:es.length=ns.length:=by simpa using hl0
       clear hn0 hl0;obtain rfl:=EN ht;delta Sq at f;split at f
       .rename_i x y;split at f
        .rename_i i j;let{p1,t1,rfl,Q}:=gQ hn;let{p2,t2,rfl,M}:=gQ Q;obtain rfl:=zK M;let{a1,a2,rfl}:=IK hl;simp![bAE]at f;let{⟨⟨⟨q2,q3⟩,q4⟩,q5⟩,q6}:=f;exact PS.imp (Mi (i:=i) (j:=j) G.calm (by rw[G.hN];exact G.nd) (by rw[G.hN];simpa using q2) (by rw[G.hN];simpa using q3) (by simpa using q4) (by rw[G.hs];simpa using q5) (by rw[G.hs];simpa using q6) ((snd n).a b X _ cs G ha) B so) λD σ H q=>II q
        .cases f
       .rename_i x y z;split at f
        .rename_i i j l;let{p1,t1,rfl,Q}:=gQ hn;let{p2,t2,rfl,M}:=gQ Q;let{p3,t3,rfl,hn3}:=gQ M;obtain rfl:=zK hn3;let{a1,a2,a3,rfl}:=BR hl;simp![bAE]at f;let{⟨⟨⟨⟨⟨⟨⟨q2,q3⟩,q3'⟩,q4⟩,q4'⟩,q4''⟩,q5⟩,q6⟩,q7}:=f;exact PS.imp (Hy (i:=i) (j:=j) (k:=l) G.calm (by rw[G.hN];exact G.nd) (by rw[G.hN];simpa using q2) (by rw[G.hN];simpa using q3) (by rw[G.hN];simpa using q3') (by simpa using q4) (by simpa using q4') (by simpa using q4'') (by rw[G.hs];simpa using q5) (by rw[G.hs];simpa using q6) (by rw[G.hs];simpa using q7) ((snd n).a b X _ cs G ha) B so) λD σ H q=>IJ q
        .cases f
       .cases f
def EX{L:Nat}(h:sQ v=a9):ZaS v aT L X.env=pure a9:=by
 delta ZaS;cases v <;> first |rfl |(exact absurd h (λz=>Ze z.symm))
def sR(G:CtxOk T C ar k b X)(h:IE b i e=a8):PE X e (tE X.K (bn i)):=by
 let{x,p,rfl,c}:=bR h;let c:=an2 c;let v:=G.vis c.2;exact PE.imp (mX (i:=i) (by rw[G.hN];exact eq_of_beq c.1) v.1 v.2.1 v.2.2) λf H Q q=>Dv q
def PEp.imp{x y:Nat}{t t':TE}(h:PEp X x y e t)(f:∀c H Q,t' c H Q->t c H Q):PEp X x y e t':=λp s c H Q z I q=>h p s c H Q z I (f c H Q q)
def N7{K:V6}{x:XE}{Q:List V->Hp->Prop}(h:tAr K (aX x iS) o H Q):dz (tE K x) lX o H Q:=by
 let{m,p,S,d,z,E,R,e,q}:=h;let{a,j,c,e}:=ac e;let{u,S2,y,e}:=ac e;obtain⟨rfl,rfl⟩:u=[]/\j=S2:=by cases y;exact⟨rfl,rfl⟩
 cases e;exact{m,p,S,a,_,E,R,c,λM f w g v=>q M f [w] g (.cons v .nil)}
def PAp.imp{x y:Nat}{E:List Expr}{t t':TA}(h:PAp X x y E t)(f:∀c H Q,t' c H Q->t c H Q):PAp X x y E t':=λpos p s c H Q z I q=>h pos p s c H Q z I (f c H Q q)
def PSp.imp{x y:Nat}{s:Stmt}(h:PSp X x y s t)(f:∀D c H,t' D c H->t D c H):PSp X x y s t':=λp s c H D z I q=>h p s c H D z I (f D c H q)
def zM(G:CtxOk T C ar k b X){y z:Str}(h:N0 b i y z e=a8):PEp X 1 1 e (tE X.K (xUn (fG y z) (bn i))):=by
 let{I,O,h3}:=an3 h;let{o,ap,es,p,rfl,Y,B,M,c}:=fU h3;let{u,l,rfl,c}:=bP c;let{v,rfl,c}:=cy c;let c:=an2 c;let{j1,p1,rfl}:=kD c.1;let{j2,p2,rfl}:=kD c.2;calc PEp.imp (Ig (sR G M) (by simpa using I) (ω O) (bL Y) B) λσ H Q q=>?_;let{m,g,S,d,S',E,R,e,q}:=q;let{a,f,U,e}:=ac e;calc{m,g,S,a,f,E,R,U,λm1 J w j L=>?_};delta fG at e;split at e
 .split at e
  .rename_i Z;cases e;exact{_,L.strs,Z,q m1 J _ j cq}
  .cases e
 .cases e
def N8{K:V6}{a:XS}{D:Ends}{p j:L2.St->Hp->Prop}(f:∀c H,p c H->j c H)(h:tSt K a {D with nx:=p} c H):tSt K a {D with nx:=j} c H:=by
 let{m,y,S,o,g,v,E,R,e,q}:=h;calc{m,y,S,o,g,v,E,R,e,λM u A=>?_};let:=q M u A;cases o <;> first |exact this |exactλc E=>f _ _ (this c E)
def N9{K:V6}{x y u:XS}{D:Ends}(h:tSt K (fD (fD x y) u) D c H):v8 (tSt K x) (v8 (tSt K y) (tSt K u)) D c H:=by
 let e:fD (fD x y) u=fD x (fD y u):=by
  funext j S
  delta fD;cases x j S with
  |none=>rfl
  |some r=>let{f,g,o}:=r;cases f <;> rfl
 rw[e]at h;exact N8 (λc H q=>xH q) (xH h)
def SA(G:CtxOk T C ar k b X)(j:X.env.scope.kind = .function){c v:Expr}{p:Pos}{x y:Nat}{xe:XE}{r:Str×Pos}(B:mh c=aD r)(g:(b.N[i]? == aD r.1)=a8)(u:b.own r.1=a8)(E:swW b.sc v r.1 r.2=a9)(h:PEp X x y v (tE X.K xe)):PSp X x y (.Assign [c] v p) (tSt X.K (fT xe (.n i))):=by
 rw[eN B];let o:=G.own u;let f:=sP (sc:=b.sc) (v:=v) (t:=r.1) (pos:=r.2) (line:=p.line) (jT j) G.hs;rw[E]at f;exact PSp.imp (Ic (by rw[G.hN];exact G.nd) (by rw[G.hN];simpa using g) o.1 h f o.2) λD J H q=>mI (sD q) λv I z=>mG z
def Oa(G:CtxOk T C ar k b X)(hk:X.env.scope.kind = .function){c y z Z:Str}{L:List CE}{s s':Stmt}{o:List Stmt}{u:XS}(h:zRp b i t c y z Z (λl=>cK T n b l L) s s'=a8)(hr:PSs X o (tSt X.K u)) :
  PSs X (s::s'::o) (tSt X.K (fD (fD (fT (bg (cu (aX (cF cJ (bn t) (xC (.str c))) (evA C ar n L)))) (.n i)) (fT (cF cJ (bn i) (bg (cu (aX (xUn (fG y z) (bn t)) (aX (xUn (fG y Z) (bn t)) iS))))) (.n i))) u)):=by
 let{I,M}:=an2 h;let{tg,v,p,rfl,I}:=gR I;let{tg',v',p',rfl,M}:=gR M;let{r,hx,I}:=fH I;let{r',Y,M}:=fH M;let{a1,a2,a3,J}:=an4 I;let{b1,b2,b3,b4}:=an4 M
 let A:PEp X 0 1 v (tE X.K (bg (cu (aX (cF cJ (bn t) (xC (.str c))) (evA C ar n L))))):=by
  let{l,lp,rfl,J}:=jh J;let{e,l,rfl,J}:=bP J;let{c1,c2,c3}:=an3 J;let{e1,e2,O,rfl,U,g}:=oz c1;let{j,cp,rfl}:=kD g;let A1:PEp X 0 1 (.BinOp e1 .Add (.Constant (.str c) j cp) O) (tE X.K (cF cJ (bn t) (xC (.str c)))):=PEp.imp (Eg (pos:=O) si (PEp.of 0 (sR G U)) (PEp.imp (Ib (j:=j) (pos:=cp)) λE H Q q=>wX (λ_ _=>cq) q)) λE H Q q=>ku q;let A2:PAp X 0 1 _ (tAr X.K (aX (cF cJ (bn t) (xC (.str c))) (evA C ar n L))):=PAp.imp (oh A1 (PAp.of 1 ((snd n).a b X l L G c3)) (ai c2)) λE H Q q=>rZ q;exact PEp.imp (zx A2) λE H Q q=>r9 (jE q)
 let B:PEp X 1 1 v' (tE X.K (cF cJ (bn i) (bg (cu (aX (xUn (fG y z) (bn t)) (aX (xUn (fG y Z) (bn t)) iS)))))):=by
  let{e1,e2,O,rfl,U,g}:=oz b4;let{l,lp,rfl,g}:=jh g;let{e,l,rfl,g}:=bP g;let{f,rfl,g}:=cy g;let{k1,k2,k3,k4}:=an4 g;let B1:PAp X 1 1 [f] (tAr X.K (aX (xUn (fG y Z) (bn t)) iS)):=PAp.imp (oh (zM G k2) (PAp.of 1 ki) (ai k4)) λE H Q q=>N7 q;let B2:PAp X 1 1 [e,f] (tAr X.K (aX (xUn (fG y z) (bn t)) (aX (xUn (fG y Z) (bn t)) iS))):=PAp.imp (oh (zM G k1) B1 (ai k3)) λE H Q q=>rZ q;exact PEp.imp (Eg (pos:=O) si (PEp.of 1 (sR G U)) (PEp.imp (t':=tE X.K (bg (cu (aX (xUn (fG y z) (bn t)) (aX (xUn (fG y Z) (bn t)) iS))))) (zx (pos:=lp) B2) λE H Q q=>r9 (jE q))) λE H Q q=>ku q
 exact PSs.imp (Ie (SA G hk hx a1 a2 (by simpa using a3) A) (SA G hk Y b1 b2 (by simpa using b3) B) hr) λD E H q=>N9 q
structure SndS(T:Tab)(C:Calls)(ar:Nat->Nat)(k n:Nat):Prop where
 s:∀ (b:Blk) (X:Cx) (s:Stmt) (c:CS),CtxOk T C ar k b X->X.env.scope.kind = .function->IG T n b s c=a8->PS X s (tSt X.K (evS C ar n c))
 ss:∀ (b:Blk) (X:Cx) (s:List Stmt) (c:List CS),CtxOk T C ar k b X->X.env.scope.kind = .function->lG T n b s c=a8->PSs X s (tSt X.K (eY C ar n c))
def SB{K:V6}{D:Ends}{f:L2.St}{H:Hp}(h:tSt K IA D f H):False:=by
 let{m,j,S,o,c,g,E,R,e,q}:=h;cases e
def Oc:∀n,SndS T C ar k n
 |0=>{λb X s c _ _ h=>absurd h Ze,λb X s c _ _ h=>absurd h Ze}
 |n+1=>by
  let J:=Oc n;refine{λb X s c G u h=>?_,λb X ss I G u h=>?_}
  .let hp:PassesOwn (model X.prog X.w) X.A X.env X.xe:=by rw[G.xe];exact PassesOwn.never
   cases c with
   |a t e=>let{M,v,p,rfl,f}:=gR h;exact N6 G u f
   |j v o i=>
    let{x,y,px,z,p,rfl,f,g,E,pl}:=IC h
    exact PS.imp (i9 ((snd n).e b X z v G f) (wb ((snd n).e b X x o G g) ((snd n).e b X y i G E) (DS (gP G.room)) (λv=>by
     cases y <;> first | rfl | (exact absurd pl Ze))) (jS λx p z=>nomatch z) (iI (.inr (.inr ⟨_,_,_,rfl⟩))) rfl) λD B H q=>HW q
   |dcs i own k v t it=>let{M,e,p,rfl,h}:=gR h;exact N5 G (jT u) h
   |aug i e=>
    let{M,op,v,p,rfl,h}:=NV h;let{f,h}:=an2 h;cases ω f;let{r,hx,h}:=fH h;let{f,g,E}:=an3 h;rw[eN hx];let o:=G.own g;exact PS.imp (Mj (by rw[G.hN];exact G.nd) (by rw[G.hN];simpa using f) o.1 ((snd n).e b X v e G E) DZ o.2) λD B H q=>Nw q
   |stg i j c=>
    let{M,e,p,rfl,h}:=gR h;let{⟨L,k0,p0⟩,hx,h}:=fH h;let{t1,ts,U,h}:=bP h;let{t2,e2,h}:=cy h;let{x,O,h}:=fH h;let{y0,sp,e3,h}:=xV h;let{y,Z,h}:=fH h;simp![bAE]at h;let{⟨⟨⟨⟨⟨f,g⟩,E⟩,Y⟩,h5⟩,h6⟩,h7}:=h;let U:L=t1::ts:=U;subst U e2 e3;rw[iE hx,eN O,eN Z];let nd:X.N.Nodup:=by rw[G.hN];exact G.nd
    let o1:=G.own g;let o2:=G.own Y;exact PS.imp (i9 ((snd n).e b X e c G h7) (HS G.calm (mi nd (by rw[G.hN];simpa using f) o1.1 o1.2) (mi nd (by rw[G.hN];simpa using E) o2.1 o2.2) rfl) (jS λx p z=>nomatch z) (iI (.inl λL k p z=>by rw[z]at h6;cases h6)) rfl) λD B H q=>Nx q
   |rp i t c L y z z2=>exact absurd h Ze
   |swp v o i q j=>
    let{t1,t2,kt,pt,L,ke,pe,p,rfl,f,g,E,Y}:=NX h;let{x1,y1,q1,rfl,a1,a2,pl1}:=ES g;let{x2,y2,q2,rfl,b1,b2,Q}:=ES E;let hb:=jT u
    exact PS.imp (i9 ((snd n).e b X _ v G f) (CF G.calm (mY (wb ((snd n).e b X x1 o G a1) ((snd n).e b X y1 i G a2) (DS (gP G.room)) (λv=>by
     cases y1 <;> first | rfl | (exact absurd pl1 Ze))) (mY (wb ((snd n).e b X x2 q G b1) ((snd n).e b X y2 j G b2) (DS (gP G.room)) (λv=>by
     cases y2 <;> first | rfl | (exact absurd Q Ze))) yU))) (jS λx p z=>nomatch z) (Lr hb G.hs Y) rfl) λD B H q=>Nu q
   |ex e=>let{v,p,rfl,f,g}:=Sz h;exact PS.imp (G5 ((snd n).e b X v e G f) (EX g)) λD B H q=>HV q
   |ret e=>let{v,p,rfl,f}:=oH h;exact PS.imp (v9 ((snd n).e b X _ _ G f)) λD B H q=>Nr q
   |i c x y=>let{t,p,q,r,rfl,f,g,E}:=ET h;exact PS.imp (yS ((snd n).t b X _ _ G f) (J.ss b X _ _ G u g) (J.ss b X _ _ G u E)) λD B H q=>R6 q
   |f t it x=>
    let{M,i,p,pos,rfl,f,g}:=NY h;let f:=an2 f;exact PS.imp (Mm hp G.calm ((snd n).i [] b X _ _ _ G f.1) (eR G f.2) (J.ss b X _ _ G u g) (dJ f.1 (λe he env=>cL he) X.env)) λD B H q=>Nv q
   |cnt=>let{p,rfl}:=NZ h;exact PS.imp tW λD B H q=>Nt q
   |never=>exact PS.imp tX λD B H q=>(SB q).elim
  .cases I with
   |nil=>rw[cG h];exact PSs.imp jA λD B H q=>HU q
   |cons c I=>
    let go:∀h:(lC ss λs ss=>IG T n b s c && lG T n b ss I)=a8,PSs X ss (tSt X.K (fD (evS C ar n c) (eY C ar n I))):=λh=>by
      let{s,ss,rfl,h}:=bP h;let h:=an2 h;exact PSs.imp (cn (J.s b X s c G u h.1) (J.ss b X ss I G u h.2)) λD B H q=>xH q
    cases c with
    |rp i t c L y z z2=>
     let{s,ss,rfl,h}:=bP h;let{s',ss,rfl,h}:=bP h;let h:=an2 h;cases n with
     |zero=>exact absurd h.2 Ze
     |succ n=>exact Oa G u h.1 (J.ss b X ss I G u h.2)
    |_=>exact go h
end
abbrev wIs(b:Blk)(x:Str)(e:Expr):Bool:=sL b "isinstance" (eO λy=>b.N[0]? == aD y && b.vis y) (eO λy=>y == x && b.glo y) e
abbrev xW(k:Str->Expr->Bool):List Str->List Expr->Bool
 |[],E=>E.isEmpty
 |x::xs,E=>lC E λe E=>aI e && k x e && xW k xs E
abbrev wV(b:Blk)(i:Nat)(e:Expr):Bool:=eO (λy=>b.N[i]? == aD y && b.vis y) e
abbrev wTg(b:Blk)(i:Nat)(e:Expr):Bool:=eO (λy=>b.N[i]? == aD y && b.own y) e
abbrev wMt(b:Blk)(m:Str)(e:Expr):Bool:=sM m (wV b 1) (λE=>l1 E λe=>sBl a8 e) e
abbrev zN(b:Blk)(c:List Str)(s:Stmt):Bool:=zAsg (λT v=>wTg b 1 T && BM .Add (wV b 1) (sK (xW (wIs b) c)) v) s
abbrev SD(b:Blk)(c:List Str)(s:Stmt):Bool:=zAsg (λT v=>wTg b 1 T && sK (xW (wIs b) c) v) s
abbrev SE(b:Blk)(s:Stmt):Bool:=zIf (BN .Or (Im .NotEq (wMt b "count") (Ik 1)) (Il (wIs b "ValueError"))) (λss=>l1 ss λs=>BP (sJ "other") s) (λss=>ss.isEmpty) s
abbrev SF(b:Blk)(c:List Str)(s:Stmt):Bool:=zAsg (λT v=>wTg b 2 T && sK (xW sJ c) v) s
abbrev SG(b:Blk)(c:List Str)(s:Stmt):Bool:=BP (sIx (BM .Add (wV b 2) (sK (xW sJ c))) (wMt b "index")) s
abbrev xX(b:Blk)(c f:List Str)(ss:List Stmt):Bool:=
 jd b.N && b.N.length == 3 && b.glo "isinstance" && lC ss λj ss=>lC ss λp ss=>lC ss λh ss=>lC ss λo ss=>lC ss λg ss=>lC ss λq ss=>l1 ss λu=>
  SD b (c.take 4) j && zN b ((c.drop 4).take 4) p && zN b ((c.drop 8).take 4) h && zN b (c.drop 12) o && SE b g && (SF b (f.take 12) q && SG b (f.drop 12) u)
abbrev kG(H h:Hp):Prop:=∀p o,H p=aD o->h p=aD o
def kG.upd(h:H p=aT):kG H (L2.upd H p o):=λq u e=>by rw[aA (aW e h)];exact e
def kG.trans(a:kG H h)(b:kG h H2):kG H H2:=λp o e=>b p o (a p o e)
section
variable {X:Cx}
def BS:MtR X "list.count" (λx f H Q=>∃l xs y,x = .ref l/\f=[y]/\H l=aD (.lst xs)/\cf y=a8/\xs.all cf=a8/\Q (.int ((xs.countP λz=>eqV z y:Nat):Int)) H):=by
 intro c s J H x f v U Q I g j h;let{p,xs,y,rfl,rfl,C,o,fs,q}:=h;cases g;let{u,rfl,B}:=j.one;let{_,b,n,r,e}:=I.hok p _ C;calc Zap VC ⟨_,e,rfl⟩ PySem.F.entry_list_count (PySem.F.args_list_count_2 _ _) (SeqAt.list_countAt p b.toArray n aT #[] u (eqU y)) {e,λw E=>cS B o r fs w (by simpa using E),?_};refine{.int _,H,I.tok _,⟨_,rfl⟩,?_}
 let z:(b.toArray.toList.countP (eqU y))=xs.countP λz=>eqV z y:=by
  rw[Y7];exact je r fs
 rw[z];exact q
def BU:MtR X "list.index" (λx O H Q=>∃l xs y,∃j:Nat,∃z,x = .ref l/\O=[y]/\H l=aD (.lst xs)/\cf y=a8/\xs.all cf=a8/\j < 100/\xs[j]?=aD z/\eqV z y=a8/\(∀ (m:Nat) z,m < j->xs[m]?=aD z->eqV z y=a9)/\Q (.int (j:Int)) H):=by
 intro L s σ H x O v us Q I T U h;let{p,xs,y,j,z,rfl,rfl,hq,Y,fs,hj,M,B,J,q}:=h;cases T;let{u,rfl,ru}:=U.one;let{_,b,n,r,e}:=I.hok p _ hq
 let at_:∀m (o:m < b.toArray.size),∃w,xs[m]?=aD w/\eqU y b.toArray[m]=eqV w y:=λm o=>by
  let c:m < xs.length:=by rw[r.length];simpa using o
  let{u',Z,rr}:=r.get (i:=m) (gEG c);refine{xs[m],gEG c,?_}
  let E:b.toArray[m]=u':=by
   let:=Zb.mp Z;let{_,z}:=this
   simpa using z
  rw[E];exact rA rr (Zg.mp fs _ (ZG c))
 let g:j < b.toArray.size:=by let:=(Zb.mp M).1;rw[r.length]at this;simpa using this
 refine Zap VE ⟨_,e,rfl⟩ PySem.F.entry_list_index (PySem.F.args_list_index_2 _ _) (SeqAt.list_indexAt p b.toArray n aT #[] u (eqU y) j g (by lia) ?_ ?_) {e,λw f=>cS ru Y r fs w (by simpa using f),?_}
 .let{w,f,E}:=at_ j g;rw[M]at f;cases f;rw[E];exact B
 .intro m o C;let{w,f,E}:=at_ m o;rw[E];exact J m w C f
 .exact{.int _,H,I.tok _,⟨_,rfl⟩,q}
end
section
variable {X:Cx} {b:Blk} {a C R:Addr}
def vm(hs:X.env.scope=b.sc)(h:b.glo x=a8):Gl X x/\(x == ("__debug__" : Str))=a9:=by
 delta Blk.glo at h;rw[bAE]at h;calc{?_,by simpa using h.2};show X.env.scope.names.lookup x=_;rw[hs]
 simpa using h.1
def qE(hs:X.env.scope=b.sc)(hN:X.N=b.N){i:Nat}(h:wV b i e=a8):PE X e (G3 i):=by
 let{x,p,rfl,g}:=bR h;let{f,H}:=an2 g;delta Blk.vis at H;rw[bAE,bAE]at H;calc mX (i:=i) (by rw[hN];exact eq_of_beq f) ?_ (by simpa using H.1.2) (by simpa using H.2);delta Vis;rw[hs];let c:=H.1.1;split at c
 .rename_i e;exact .inl e
 .rename_i e;exact .inr (.inl e)
 .rename_i e;exact .inr (.inr e)
 .cases c
def EY(hC:bK X.base C (.ref R::bmV))(hR:bK X.base R bmV):bc X (.builtin "isinstance") (λxs H Q=>∃D,xs=[.ref a,.ref D]/\H a=aD (exO a C)/\qA X.base D/\D≠R/\Q (.bl (C == D)) H):=by
 intro p s u H xs U Q I rs h;let{D,rfl,c,⟨o,j,sl,g⟩,f,q}:=h;cases rs with
 |cons r1 rs=>
  cases rs with
  |cons r2 rs=>
   cases rs;cases r1;cases r2;exact isx (hC.keeps I.bk) (hR.keeps I.bk) (I.hok a _ c).1 {o,j,sl,I.bk _ _ g} f λT=>{.bl _,H,I.tok _,rfl,q}
def EZ(hC:bK X.base C (.ref R::bmV))(hR:bK X.base R bmV):bc X (.builtin "isinstance") (λxs H Q=>xs=[.ref a,.ty "ValueError"]/\H a=aD (exO a C)/\Q (.bl a8) H):=by
 intro p s f H xs u Q I rs h;let{rfl,c,q}:=h;cases rs with
 |cons r1 rs=>
  cases rs with
  |cons r2 rs=>
   cases rs;cases r1;cases r2;exact isv (hC.keeps I.bk) (hR.keeps I.bk) (I.hok a _ c).1 λT=>{.bl _,H,I.tok _,rfl,q}
def Vb(hs:X.env.scope=b.sc)(hN:X.N=b.N)(I:X.mg "isinstance" = aT)(hC:bK X.base C (.ref R::bmV))(hR:bK X.base R bmV){x:Str}{D:Addr}{e:Expr}(B:X.mg x=aD (.ref D))(h:wIs b x e=a8) :
  PE X e (λj H Q=>j[0]?=aD (aD (.ref a))/\H a=aD (exO a C)/\qA X.base D/\D≠R/\Q (.bl (C == D)) H):=by
 let{O,y,p,M,rfl,f,E,c,z,_}:=fI h;let{y,J,rfl,o}:=bR z;let{L,g}:=an2 o;let u:=eq_of_beq L;subst u;exact PE.imp (fm (EY (a:=a) hC hR) (vm hs f).1 I WM (cV (qE hs hN E) (cj (iq (v:=.ref D) (vm hs g).1 B rfl (vm hs g).2) rfl) c) (by decide) (vm hs f).2 (ai c) rfl) λj H Q q=>⟨_,q.1,D,rfl,q.2.1,q.2.2.1,q.2.2.2.1,q.2.2.2.2⟩
def SH(hs:X.env.scope=b.sc)(hN:X.N=b.N)(E:X.mg "isinstance" = aT)(L:X.mg "ValueError" = aT)(hC:bK X.base C (.ref R::bmV))(hR:bK X.base R bmV)(h:wIs b "ValueError" e=a8) :
  PE X e (λj H Q=>j[0]?=aD (aD (.ref a))/\H a=aD (exO a C)/\Q (.bl a8) H):=by
 let{O,y,p,M,rfl,f,B,c,z,_}:=fI h;let{y,I,rfl,o}:=bR z;let{J,g}:=an2 o;let u:=eq_of_beq J;subst u;exact PE.imp (fm (EZ (a:=a) hC hR) (vm hs f).1 E WM (cV (qE hs hN B) (cj (ir (v:=.ty "ValueError") (vm hs g).1 L PyProof.Rows.Boot.«ValueError» rfl (by decide) (vm hs g).2) rfl) c) (by decide) (vm hs f).2 (ai c) rfl) λj H Q q=>⟨_,q.1,rfl,q.2.1,q.2.2⟩
inductive Cls2(X:Cx)(R:Addr):List Str->List Addr->Prop
 |nil:Cls2 X R [] []
 |cons {x:Str} {D:Addr} {xs:List Str} {Ds:List Addr}:X.mg x=aD (.ref D)->qA X.base D->D≠R->Cls2 X R xs Ds->Cls2 X R (x::xs) (D::Ds)
def E5(hs:X.env.scope=b.sc)(hN:X.N=b.N)(g:X.mg "isinstance" = aT)(hC:bK X.base C (.ref R::bmV))(hR:bK X.base R bmV):∀ {j:List Str} {f:List Addr} {E:List Expr},Cls2 X R j f->xW (wIs b) j E=a8 ->
  PA X E (λc H Q=>c[0]?=aD (aD (.ref a))/\H a=aD (exO a C)/\Q (f.map λD=>.bl (C == D)) H)
 |_,_,E,.nil,h=>by rw[cG h];exact PA.imp ki λc H Q q=>q.2.2
 |_,_,E,.cons h1 h2 h3 t,h=>by
  let{e,E,rfl,h}:=bP h;let{p,u,o}:=an3 h;exact PA.imp (cV (Vb hs hN g hC hR h1 u) (E5 hs hN g hC hR t o) p) λc H Q q=>⟨q.1,q.2.1,h2,h3,q.1,q.2.1,q.2.2⟩
def xY:∀ {c:List Str} {E:List Expr},xW sJ c E=a8->PA X E (λf H Q=>Q (c.map V.str) H)
 |[],E,h=>by rw[cG h];exact PA.imp ki λf H Q q=>q
 |w::c,E,h=>by
  let{e,E,rfl,h}:=bP h;let{p,j,g}:=an3 h;let{_,_,rfl}:=kD j;exact PA.imp (cV qY (xY g) p) λf H Q q=>q
def Od(hs:X.env.scope=b.sc)(hN:X.N=b.N)(j:X.fn=λ_=>a8)(H:b.N.Nodup){i:Nat}(h:wTg b i e=a8):∃x p,e = .Name x p/\PG X e (iV i):=by
 let{x,p,rfl,g}:=bR h;let{f,c}:=an2 g;calc{x,p,rfl,mi (by rw[hN];exact H) (by rw[hN];exact eq_of_beq f) ?_ (.inl (by rw[j]))};delta Blk.own at c;delta L2.Loc;rw[hs];split at c
 .rename_i e;exact .inl e
 .rename_i e;exact .inr e
 .cases c
def xZ{L:Nat}(H:X.env.blockKind = .function)(hs:X.env.scope=b.sc)(h:xT e=aT):ZaT [.Name x p] e L X.env=pure a9:=by
 let z:=sP (sc:=b.sc) (v:=e) (t:=x) (pos:=p) (line:=L) H hs;delta swW at z;rw[h]at z;exact z
abbrev BV(a C:Addr)(c:L2.St)(H:Hp):Prop:=c.length=3/\c[0]?=aD (aD (.ref a))/\H a=aD (exO a C)
def gS{i:Nat}(x:BV a C c H)(h:i≠0)(e:kG H H2):BV a C (c.set i (aD v)) H2:={by simpa using x.1,by rw[ZA h];exact x.2.1,e _ _ x.2.2}
variable (c:X.env.blockKind = .function) (d:X.env.scope=b.sc) (f:X.N=b.N) (n:X.fn=λ_=>a8) (o:b.N.Nodup) (u:X.mg "isinstance" = aT) (A:X.mg "ValueError" = aT) (B:bK X.base C (.ref R::bmV)) (E:bK X.base R bmV)
include c d f n o u B E in
def SI(M:Cls2 X R L I)(hl:I.length<=100)(h:SD b L s=a8):PS X s (λD y H=>BV a C y H/\∀q z,kG H z->z q=aD (.lst (I.map λD=>.bl (C == D)))->D.nx (y.set 1 (aD (.ref q))) z):=by
 let{T,v,p,rfl,h}:=gR h;let{J,j}:=an2 h;let{x,O,rfl,g}:=Od d f n o J;let{Y,U,rfl,j}:=jh j;calc PS.imp (i9 (kj (E5 (a:=a) d f u B E M j)) g (xZ c d rfl) (iI (.inr (.inl ⟨_,_,rfl⟩))) rfl) λD y H Q=>?_;let{e,q}:=Q;exact{e.2.1,e.2.2,by rw[Za,ZaO];lia,λl hl=>q l _ (kG.upd hl) aF}
include c d f n o u B E in
def x8(Y:Cls2 X R U T)(hl:T.length<=100)(h:zN b U s=a8):PS X s (λD j H=>BV a C j H/\∃l xs,j[1]?=aD (aD (.ref l))/\H l=aD (.lst xs)/\xs.length<=100/\∀q L,kG H L->L q=aD (.lst (xs++T.map λD=>.bl (C == D)))->D.nx (j.set 1 (aD (.ref q))) L):=by
 let{tg,v,p,rfl,h}:=gR h;let{Z,h2}:=an2 h;let{x,p1,rfl,g}:=Od d f n o Z;let{y,z,p3,rfl,h3,J}:=oz h2;let{es,p2,rfl,J}:=jh J;calc PS.imp (i9 (CL wz (qE d f h3) (kj (E5 (a:=a) d f u B E Y J))) g (xZ c d rfl) (iI (.inr (.inl ⟨_,_,rfl⟩))) rfl) λD j H Q=>?_;let{e,l,xs,M,I,hl3,q}:=Q;calc{_,M,e.2.1,e.2.2,by rw[Za,ZaO];lia,λp O=>?_};calc{l,p,xs,_,rfl,rfl,kG.upd O _ _ I,aF,by rw[Za,ZaO];lia,λr hr=>?_};exact q r _ ((kG.upd O).trans (kG.upd hr)) aF
include d f in
def SJ(h:wMt b "count" e=a8):PE X e (λI H Q=>∃l xs,I[1]?=aD (aD (.ref l))/\H l=aD (.lst xs)/\xs.all cf=a8/\Q (.int ((xs.countP λz=>eqV z (.bl a8):Nat):Int)) H):=by
 let{x,O,M,p,rfl,g,v,L,j}:=fU h;let{y,rfl,j}:=cy j;let{_,_,rfl}:=Ex j;exact PE.imp (k8 W7 VC PySem.F.type_list_count BS (qE d f L) (cj Cv rfl) (bL g) (fX rfl) v (ai rfl) rfl) λI H Q ⟨l,xs,J,g,v,q⟩=>{_,J,.inl {rfl,xs,SqL.of g},l,xs,.bl a8,rfl,rfl,g,rfl,v,q}
include d f in
def SK(h:wMt b "index" e=a8):PE X e (λJ H Q=>∃l xs,∃j:Nat,∃z,J[1]?=aD (aD (.ref l))/\H l=aD (.lst xs)/\xs.all cf=a8/\j < 100/\xs[j]?=aD z/\eqV z (.bl a8)=a8/\(∀ (m:Nat) z,m < j->xs[m]?=aD z->eqV z (.bl a8)=a9)/\Q (.int (j:Int)) H):=by
 let{x,T,O,p,rfl,g,I,M,v}:=fU h;let{y,rfl,v}:=cy v;let{_,_,rfl}:=Ex v;exact PE.imp (k8 W7 VE PySem.F.type_list_index BU (qE d f M) (cj Cv rfl) (bL g) (fX rfl) I (ai rfl) rfl) λJ H Q ⟨l,xs,j,z,L,g,I,q⟩=>{_,L,.inl {rfl,xs,SqL.of g},l,xs,.bl a8,j,z,rfl,rfl,g,rfl,I,q}
include d f u A B E in
def SL(h:SE b s=a8):PS X s (λD j H=>BV a C j H/\(∃l xs,j[1]?=aD (aD (.ref l))/\H l=aD (.lst xs)/\xs.all cf=a8/\(xs.countP λz=>eqV z (.bl a8))=1)/\D.nx j H):=by
 let{t,p,q,r,rfl,I,g,L}:=ET h;let{s,rfl,g}:=cy g;let{v,p',rfl,g}:=oH g;let{_,_,rfl}:=kD g;rw[cG L];let{x,y,p2,rfl,J,T}:=oB I;let{l,z,p3,rfl,U,O,Z}:=xP J;let{_,_,rfl}:=xN O;let{w,p4,rfl,M}:=xO T
 let Y:Ii w=a8:=by
  let{_,_,_,_,rfl,_}:=fI M;rfl
 calc PS.imp (yS (Cz (yX Ru (SJ d f U) v7 (fW rfl)) (Cw (CA (Mc (SH (a:=a) d f u A B E M) (oD Y))))).pt (jB (v9 qY)) jA) λD j H Q=>?_;let{e,⟨l,xs,I,g,L,J⟩,q}:=Q;calc{l,xs,I,g,L,rfl,_,rfl,?_};rw[J];show if (!decide (V.int ((1:Nat):Int)=V.int 1))=a8 then _ else _
 rw[if_neg (by decide)];calc{e.2.1,e.2.2,a8,rfl,?_};show if (!a8)=a8 then _ else _
 rw[if_neg (by decide)];exact q
include c d f n o in
def SM(hl:I.length<=100)(h:SF b I s=a8):PS X s (λD z H=>∀q y,kG H y->y q=aD (.lst (I.map V.str))->D.nx (z.set 2 (aD (.ref q))) y):=by
 let{T,v,p,rfl,h}:=gR h;let{J,j}:=an2 h;let{x,L,rfl,g}:=Od d f n o J;let{O,M,rfl,j}:=jh j;calc PS.imp (i9 (kj (xY j)) g (xZ c d rfl) (iI (.inr (.inl ⟨_,_,rfl⟩))) rfl) λD z H q=>?_;exact{by rw[Za,ZaO];lia,λl hl=>q l _ (kG.upd hl) aF}
include d f in
def SN(hl:M.length<=100)(h:SG b M s=a8):PS X s (λD J H=>∃l xs m ys,∃j:Nat,∃z w,J[1]?=aD (aD (.ref l))/\H l=aD (.lst xs)/\xs.all cf=a8/\j < 100/\xs[j]?=aD z/\eqV z (.bl a8)=a8/\(∀ (m:Nat) z,m < j->xs[m]?=aD z->eqV z (.bl a8)=a9) ∧
  J[2]?=aD (aD (.ref m))/\H m=aD (.lst ys)/\ys.length<=100/\(ys++M.map V.str)[j]?=aD w/\∀L,kG H L->D.rt w L):=by
 let{v,p,rfl,h}:=oH h;let{x,y,p1,rfl,h1,h2,h3}:=EA h;let{x1,x2,p2,rfl,h4,I}:=oz h1;let{es,p3,rfl,I}:=jh I;calc PS.imp (v9 (y7 y8 (CL wz (qE d f h4) (kj (xY I))) (SK d f h2) (jO h3))) λD J H Q=>?_;let{l,xs,m,ys,j,z,w,U,a2,a3,Z,a5,a6,Y,b1,b2,b3,O,q}:=Q;calc{_,b1,by rw[Za,ZaO];lia,λp g=>{m,p,ys,_,rfl,rfl,kG.upd g _ _ b2,aF,by rw[Za,ZaO];lia,λr T=>?_}};calc{l,xs,j,z,U,kG.upd T _ _ (kG.upd g _ _ a2),a3,Z,a5,a6,Y,r,_,(j:Int),w,rfl,rfl,SqL.of aF,?_,q _ ((kG.upd g).trans (kG.upd T))};let hj:=(Zb.mp O).1;delta atI ixN;rw[if_pos (Int.natCast_nonneg j),if_pos (by lia)]
 simpa using O
include c d f n u A B E in
def IL{I U:List Str}{g:List Addr}{i:Nat}{w:Str}{ss:List Stmt}(c1:Cls2 X R (I.take 4) (g.take 4))(c2:Cls2 X R ((I.drop 4).take 4) ((g.drop 4).take 4))(c3:Cls2 X R ((I.drop 8).take 4) ((g.drop 8).take 4))(c4:Cls2 X R (I.drop 12) (g.drop 12))
  (hl:g.length<=100) (hws:U.length<=100) (o:g.Nodup) (O:g[i]?=aD C) (hw:U[i]?=aD w) (h:xX b I U ss=a8) :
  PSs X ss (λD σ H=>BV a C σ H/\∀T,kG H T->D.rt (.str w) T):=by
 delta xX at h;let{h1,h2,_,k0}:=an4 h;clear h;let{s1,ss1,J,k1}:=bP k0;subst J;let{s2,ss2,L,k2}:=bP k1;subst L;let{s3,ss3,y,k3}:=bP k2;subst y;let{s4,ss4,M,k4}:=bP k3;subst M;let{s5,ss5,e5,k5}:=bP k4;subst e5;let{s6,ss6,e6,k6}:=bP k5;subst e6;let{s7,e7,k7}:=cy k6;subst e7;let{g1,g2,g3,g4,g5,g6}:=an6 k7;let{g6,g7}:=an2 g6;let nd:=gF h1;let t1:(g.take 4).length<=100:=by rw[ZD];lia
 let t2:((g.drop 4).take 4).length<=100:=by rw[ZD];lia
 let t3:((g.drop 8).take 4).length<=100:=by rw[ZD];lia
 let t4:(g.drop 12).length<=100:=by rw[Yn];lia
 refine PSs.imp (cn (SI (a:=a) c d f n nd u B E c1 t1 g1) (cn (x8 (a:=a) c d f n nd u B E c2 t2 g2) (cn (x8 (a:=a) c d f n nd u B E c3 t3 g3) (cn (x8 (a:=a) c d f n nd u B E c4 t4 g4) (cn (SL (a:=a) d f u A B E g5)
  (cn (SM c d f n nd (by rw[ZD];lia) g6) (jB (SN d f (by rw[Yn];lia) g7))))))) ) λD σ H ⟨e,q⟩=>?_
 let el:=e.1;calc{e,λq1 H1 x1 y1=>?_};let J:=gS (v:=.ref q1) e (by decide:1≠0) x1;calc{J,q1,_,by rw[Zq (by lia)],y1,by rw[Za];exact t1,λq2 T x2 y2=>?_};let L:=gS (v:=.ref q2) J (by decide:1≠0) x2;calc{L,q2,_,by rw[Zq (by let:=J.1;lia)],y2,by rw[Zi,Za,Za,ZD,ZD];lia,λq3 H3 x3 y3=>?_};let y:=gS (v:=.ref q3) L (by decide:1≠0) x3;calc{y,q3,_,by rw[Zq (by let:=L.1;lia)],y3,by rw[Zi,Zi,Za,Za,Za,ZD,ZD,ZD];lia,λQ H4 x4 Y=>?_};let M:=gS (v:=.ref Q) y (by decide:1≠0) x4
 let all:(((g.take 4).map (λD=>V.bl (C == D))++((g.drop 4).take 4).map (λD=>V.bl (C == D)))++((g.drop 8).take 4).map (λD=>V.bl (C == D)))++(g.drop 12).map (λD=>V.bl (C == D))=g.map λD=>V.bl (C == D):=by
  rw[<-Zu,<-Zu,<-Zu]
  congr 1
  let z1:g.take 4++(g.drop 4).take 4=g.take 8:=by rw[show 8=4+4 from rfl,Wx]
  let z2:g.take 8++(g.drop 8).take 4=g.take 12:=by rw[show 12=8+4 from rfl,Wx]
  rw[z1,z2,Yt]
 rw[all]at Y;let fl:(g.map λD=>V.bl (C == D)).all cf=a8:=by rw[ZY];exact Zg.mpr λ_ _=>rfl
 let p:∀D:Addr,eqV (V.bl (C == D)) (.bl a8)=(C == D):=λD=>by cases C == D <;> rfl
 let at_:∀ (m:Nat) z,(g.map λD=>V.bl (C == D))[m]?=aD z->∃D,g[m]?=aD D/\z = .bl (C == D):=λm z j=>by
  rw[Zn]at j;cases hd:g[m]? with
  |none=>rw[hd]at j;cases j
  |some D=>rw[hd]at j;cases j;exact⟨D,rfl,rfl⟩
 refine{M,{Q,_,by rw[Zq (by let:=y.1;lia)],Y,fl,?_},λq5 H5 Z y5=>?_}
 .rw[Wl]
  let:((λz=>eqV z (V.bl a8)) ∘ λD=>V.bl (C == D))=λD=>D == C:=by
   funext D
   show eqV (V.bl (C == D)) (.bl a8)=_;rw[p,Bool.beq_comm]
  rw[this];show g.count C=1;rw[o.count,if_pos (Zs O)]
 .let e5:=gS (v:=.ref q5) M (by decide:2≠0) Z;let hil:=(Zb.mp O).1;refine{Q,_,q5,_,i,.bl (C == C),.str w,?_,Z _ _ Y,fl,by lia,by rw[Zn,O];rfl,by rw[p,beq_self_eq_true],λm z hm j=>?_,?_,y5,by rw[Za,ZD];lia,?_,λH6 x6=>?_}
  .rw[ZA (by decide),Zq (by let:=y.1;lia)]
  .let{D,hD,rfl}:=at_ m z j;rw[p];calc Z8.mpr λq=>?_;let z:C=D:=by simpa using q
   subst z;let{i1,j1}:=Zb.mp hD;let{i2,j2}:=Zb.mp O;let z2:m=i:=(YU o).mp (j1.trans j2.symm)
   lia
  .rw[Zq (by let:=M.1;lia)]
  .rw[<-Zu,Yt,Zn,hw];rfl
  .exact q H6 ((((x1.trans x2).trans x3).trans x4).trans (Z.trans x6))
end
section
variable {X:Cx}
def Oe(h:PS X.nox s t):PS X s t:=λp s b H D I c=>
 Zbi (h p s b H D (I.wish _) c) (λ_ _ z=>SP.unwish z) λ_ _ z=>False.elim z
end
noncomputable abbrev cxM(P:Program)(w:World)(K:V6)(mg:Str->Option Value)(base:Heap)(N:List Str)(q:Str)(b:Scope)(f:Addr)(c:Value)(A:Around)(outer:List Env)(s:Shared)(H:Hp):Cx:=
 {pA CX0 P w K mg base N q b f c {A with handled:=aT} outer s H E0 with A:=A.deeper (envOfC q b s⁻¹ f c),calm:=false,xe:=λ_ _=>False}
section
variable {P:Program} {w:World} {K:V6} {m:Str->Option Value} {base:Heap} {A:Around} {O:List Env} {s:Shared} {H:Hp}
def E6{x g:Str}{st:Stmt}{f:Addr}{Y:VN}{N ps:List Str}{U:List Value}{L:List V}{Q:VK}(F:Fun K x g st f Y)(S:FnScope N ps (av st))(hd:A.depth < recursionLimit)(E:Env0 P w K m base A O s H)(hb:BindsTo s Y ⟨U,[]⟩ (ps.zip U))(r:aP L U)(hl:L.length=ps.length)
  (B:∀C,∃t,PSs (cxM P w K m base N g (av st) f C A O s H) (bx st) t/\t {nx:=λ_ j=>Q .non j,rt:=Q} (eF N L) H) :
  codeAny (model P w) A (.call (.ref f) ⟨U,[]⟩) (λr s'=>match r with |.ok (.ret u)=>L2.CE O P w H s Q u s' |_=>False) s:=by
 let{oc,od,kV,doc,pm,an,C,ct,osl,rfl,lk,M}:=F.ex;let X:K.In s.heap:=E.mod.kin.keeps λb o e=>(E.bs b o e).1;let lim:s.heap.NoLimit:=E.mod.nolimit.keeps λb o e=>(E.bs b o e).1
 let p:∀y∈ps.zip U,(av st).names.lookup y.1=aD .local\/((av st).names.lookup y.1=aD .cell/\((Zaq (s⁻¹+1) (av st).names []).lookup y.1).isSome=a8):=λ⟨n,v⟩ Z=>by
  rcases S.par n (YW Z).1 with q |q
  .exact .inl q
  .exact .inr {q,V8 _ _ _ (.inl q)}
 calc Zas hd (X _ _ lk) rfl S.co S.gen rfl (UP X M) (hb _ _ _ _ ?_);calc Zbj S.kind p λenv he s1 x=>?_;subst he;calc{lim.keeps x.toInCall.keep,codeAny_func ?_};let{t,ht,hq}:=B C;let e1:Env0 P w K m base {A with handled:=aT} O s H:=⟨E.frames,E.mod,E.bs,E.bsz,E.funs,E.frf,E.hok,E.bare⟩;let c:L2.Inv (pA CX0 P w K m base N g (av st) f C {A with handled:=aT} O s H E0) [] (eF N L) H s1:=p9 S rfl e1 hl r x
 let I:L2.Inv (cxM P w K m base N g (av st) f C A O s H) [] (eF N L) H s1:=
  ⟨{c.ok.mod,c.ok.kind,c.ok.glob,c.ok.blt,c.ok.above,c.ok.inj,c.ok.has,c.ok.cab,λz=>(nomatch z),c.ok.frames,c.ok.stk,c.ok.exf,c.ok.bs,c.ok.bsz,c.ok.noex,c.ok.exfs,c.ok.funs,c.ok.frf},c.os,c.bare,c.base,c.loc,c.cell,c.free,c.freeC,c.pin,c.hok,c.len⟩
 refine Zbi (ht [] s1 (eF N L) H _ I hq) (λfl s' hs=>?_) λe s' hs=>hs.elim
 let fin:∀ {h:L2.St} {j:Hp} {v:V} {u:Value},L2.Inv (cxM P w K m base N g (av st) f C A O s H) [] h j s'->aJ v u->Q v j->L2.CE O P w H s Q u s':=
  λ{h j v u} J T q=>⟨v,j,J.os,J.bare,J.base,J.hok,T,q⟩
 cases fl with
 |ret u=>
  let{v,h,j,J,T,q}:=hs;exact fin J T q
 |next=>
  let{h,j,J,q}:=hs;exact fin (v:=V.non) (u:=Value.none) J rfl q
 |brk=>
  let{_,_,_,q}:=hs;exact False.elim q
 |cont=>
  let{_,_,_,q}:=hs;exact False.elim q
end
abbrev BW:List Str:=["meadow","sky","landings","order","lot","text","name","glider","minute","aim","many","bound","deed","row","way"]
abbrev x9(i:Nat):Option Str:=if i < 14 then BW[i]? else aT
structure XInf(K:V6)(mg:Str->Option Value)(R:Addr)(Ds:List Addr):Prop where
 ring:mg "RingError" = aD (.ref R)
 ve:mg "ValueError" = aT
 isi:mg "isinstance" = aT
 hR:∀h,K.In h->bK h R bmV
 hC:∀h,K.In h->∀ (i:Nat) C,Ds[i]?=aD C->i < 14->bK h C (.ref R::bmV)
 hT:∀h,K.In h->∀D∈Ds,qA h D
 nd:Ds.Nodup
 nr:∀D∈Ds,D≠R
 nm:∀ (i:Nat) x,lW[i]?=aD x->∃D,Ds[i]?=aD D/\mg x=aD (.ref D)
 len:Ds.length=15
section
variable {X:Cx} {R:Addr}
def zO:∀ {xs:List Str} {b:List Addr},xs.length=b.length->(∀ (i:Nat) x,xs[i]?=aD x->∃D,b[i]?=aD D/\X.mg x=aD (.ref D))->(∀D∈b,qA X.base D/\D≠R)->Cls2 X R xs b
 |[],[],_,_,_=>.nil
 |x::xs,D::b,hl,h,g=>by
  let{j,e,f}:=h 0 x rfl;cases e;exact .cons f (g D Zf).1 (g D Zf).2 (zO (by simpa using hl) (λi y H=>h (i+1) y (by simpa using H)) λD c=>g D (Zh _ c))
def kH{n:Nat}(h:Cls2 X R xs f):Cls2 X R (xs.take n) (f.take n):=by
 induction h generalizing n with
 |nil=>rw[Wy,Wy];exact .nil
 |cons a b c _ I=>cases n with
  |zero=>exact .nil
  |succ n=>exact .cons a b c I
def kI{n:Nat}(h:Cls2 X R xs f):Cls2 X R (xs.drop n) (f.drop n):=by
 induction h generalizing n with
 |nil=>rw[Wz,Wz];exact .nil
 |cons a b c d I=>cases n with
  |zero=>exact .cons a b c d
  |succ n=>exact I
end
def noE(x:XLeft P w l H h s B b)(f:B.get? e=aT):h e=aT:=by
 cases q:h e with
 |none=>rfl
 |some o=>let{z,Q}:=u7 (x.hok e o q);rw[f]at Q;cases Q
section
variable {X:Cx} {R:Addr} {d:List Addr} {k f g:Nat} {l m:VN} {ps o N:List Str} {sp:Sp} {y A n:Str} {G:Stmt} {e:Expr} {es:List Expr} {t:TA} {p pos J L M p2 O T U Y:Pos} {i:Nat}
abbrev PX(X:Cx)(e:Expr)(t:L2.St->Hp->VK->XK->Prop):Prop:=∀b s c H Q E,L2.Inv X b c H s->t c H Q E ->
 wpAny (model X.prog X.w) X.A (eval e X.env) (EP X b c Q) (λu q=>∃h j,L2.Inv X b c j h/\CXE X.prog X.w X.stack j h E u q) s
def IM(F:FnOk X.prog X.w X.K X.mg X.base (CXE X.prog X.w) k f l ps sp)(hr:Room k X.A)(hg:Gl X y)(hm:X.mg y=aD (.ref f))(hk:OF X.K (.ref f)=a8)(hb:dN X.K l ps [])(hA:PA X.nox (e::es) t)
  (he:ZaQ (e::es) X.env=(a9,eval e X.env)::ZaQ es X.env) (hpl:(backTo pos (ZaQ es X.env)).any (·.1)=a9) (hdb:(y == ("__debug__" : Str))=a9) :
  PX X (.Call (.Name y p) (e::es) [] pos) (λZ H Q E=>t Z H λvs v=>sp vs v Q E):=by
 intro b s Z H Q E I h;calc Za1 (ip I hg hm ?_ hdb);calc V7 (h₀:=X.base) I.ok.mod.kin hk (Zbi (hA pos b s Z H _ (I.wish _) h) (λus s1 ⟨vs,v,c,r,q⟩=>{c.unwish.kIn,?_}) λ_ _ z=>z.elim) he hpl;let c:L2.Inv X b Z v s1:=c.unwish;let j:us.length=ps.length:=by rw[<-r.length];exact F.len _ _ _ _ q
 let B:=hb s1 us c.kIn (by rw[ZN];exact j);rw[ZN]at B;calc wpAny_call (Zat (F.run X.A X.stack s1 v ⟨us,[]⟩ us vs _ _ hr c.env0 B r q) λr s' C=>?_);cases r with
 |ok fl=>
  cases fl with
  |ret u=>exact c.after C
  |next=>exact False.elim C
  |brk=>exact False.elim C
  |cont=>exact False.elim C
 |error ev=>exact⟨s1,v,c,C⟩
def IP{ex:Expr}{tx:L2.St->Hp->VK->XK->Prop}(hst:X.stack=X.env::X.outer)(hfm:X.env.frame=aD X.env.locals)(xi:XInf X.K X.mg R d)(hr:Room k X.A)(hX:PX X ex tx)
  (FW:Fun X.K A A G g m) (SW:FnScope N o (av G)) (bW:dN X.K m o []) (h1W:o.length=1) (cW:xX {av G,aT,N} lW BW (bx G)=a8) (hgW:Gl X A) (hmW:X.mg A=aD (.ref g)) (hdw:(A == ("__debug__" : Str))=a9)
  (hN:X.N.Nodup) (hi:X.N[i]?=aD n) (hl:X.env.scope.names.lookup n=aD .local) (hgr:Gl X "RingError") (hn1:(n == ("__debug__" : Str))=a9) (hn2:(n == ("__classdict__" : Str))=a9) :
  PS X (.Try [.Return (aD ex) J] [.ExceptHandler (aD (.Name "RingError" L)) (aD n) [.Return (aD (.Call (.Name A M) [.Name n p2] [] O)) T] U] [] [] Y)
   (λD σ H=>tx σ H D.rt λc _ H2=>∃j C w,c = .ref C/\d[j]?=aD C/\x9 j=aD w/\∀H3,kG H2 H3->D.rt (.str w) H3):=by
 intro E s σ H D I h;calc wpAny_Try_except ?_;calc Za9 (Za3 (Zbi (hX E s σ H _ _ I h) (λu s' ⟨v,H',I',rv,z⟩=>⟨v,σ,H',I',rv,z⟩) λev s' hq=>?_));let{s1,H1,I1,a,c,a0,H',B,rfl,fl,x,j,C,w,rfl,hj,hw,q}:=hq;let Z:j < 14:=by delta x9 at hw;split at hw <;> first |assumption |cases hw
 let hw:BW[j]?=aD w:=by rw[x9,if_pos Z]at hw;exact hw
 let hC:=xi.hC _ I.ok.mod.kin j C hj Z;let hR:=xi.hR _ I.ok.mod.kin;let hH':=noE x fl.2.1;calc Iv hst hfm I1 fl x hC hR hgr xi.ring (by decide) hN hi hl λs6 I6=>?_;calc Za9 (Za3 (Za1 (ip (X:=Cx.mk X a) I6 hgW hmW ?_ hdw)));let hiσ:i < σ.length:=by rw[I.len];exact(Zb.mp hi).1
 calc V7 (h₀:=X.base) I.ok.mod.kin FW.kp (Zbi ((cj (X:=Cx.mk X a) (mX (i:=i) hi (.inl hl) hn1 hn2) rfl) O E s6 _ _ (λvs H7=>vs=[.ref a]/\H7=upd H' a (exO a C)) I6 {_,Zq hiσ,rfl,rfl}) (λus s7 ⟨vs,H7,I7,r,hvs,hH7⟩=>{I7.kIn,?_}) λ_ _ z=>z.elim) rfl rfl;subst hvs hH7;let hlW:us.length=o.length:=by rw[<-r.length,h1W];rfl
 let hbW:=bW s7 us I7.kIn (by rw[ZN];exact hlW);rw[ZN]at hbW;let hdep:X.A.depth < recursionLimit:=hr.depth;refine wpAny_call (Zat (E6 (Q:=λv H8=>v = .str w/\kG (upd H' a (exO a C)) H8) FW SW hdep I7.env0 hbW r (by rw[h1W];rfl) λcdv=>?_) λr s8 hq=>?_)
 .let c2:Cls2 (cxM X.prog X.w X.K X.mg X.base N A (av G) g cdv (Cx.mk X a).A X.stack s7 (upd H' a (exO a C))) R lW d:=zO (by rw[xi.len];rfl) xi.nm λD hD=>{xi.hT _ I.ok.mod.kin D hD,xi.nr D hD};refine{_,IL (X:=cxM X.prog X.w X.K X.mg X.base N A (av G) g cdv (Cx.mk X a).A X.stack s7 (upd H' a (exO a C))) (b:={av G,aT,N}) (a:=a) (C:=C) (jT SW.kind) rfl rfl rfl xi.isi xi.ve hC hR (kH c2) (kH (kI c2)) (kH (kI c2)) (kI c2) (by rw[xi.len];decide) (by decide) xi.nd hj hw cW,{?_,?_,aF},λH2 x2=>⟨rfl,x2⟩}
  .delta xX at cW;let:=(an4 cW).2.1;let hl3:N.length=3:=by simpa using this
   delta L2.eF;rw[Zi,Y1,Za,hl3];rfl
  .rfl
 .cases r with
  |ok fl=>
   cases fl with
   |ret u=>
    let{v,H8,I8,rv,rfl,z}:=I7.after hq;exact{u,_,_,H8,rfl,I8,rv,q H8 ((kG.upd hH').trans z)}
   |next=>exact False.elim hq
   |brk=>exact False.elim hq
   |cont=>exact False.elim hq
  |error ev=>exact False.elim hq
end
inductive RS where
 |pl (s:CS) |rz (c:CE) (i:Nat) |tr (f:Nat) (es:List CE)
inductive RR where
 |p (d:D) |exc (i:Nat)
structure DefE where
 x:Str
 st:Stmt
 N:List Str
 np:Nat
 body:List CS
 rb:Option (List RS)
abbrev DefE.ps(d:DefE):List Str:=d.N.take d.np
abbrev FU:Nat:=60
abbrev cz(ae:List DefE)(f:Nat):Nat:=match ae[f]? with
 |some d=>d.ps.length
 |none=>0
@[inline]abbrev gU:=Nat->List D->Sto->Option (RR×Sto)
abbrev toC(g:gU):Calls:=λf b S=>match g f b S with
 |some (.p d,S')=>aD (d,S')
 |_=>aT
abbrev IQ(C:Calls)(b:Nat->Nat)(d:DefE)(ds:List D)(S:Sto):Option (D×Sto):=
 match eY C b FU d.body (ds.map aD++Zr (d.N.length - ds.length) aT) S with
 |some (.rt v,_,S')=>aD (v,S')
 |some (.nx,_,S')=>aD (.non,S')
 |_=>aT
abbrev xck(g:gU)(n f:Nat)(o:Option (List D×Sto))(k:RR->Sto->Option (RR×Sto)):Option (RR×Sto):=match o with
 | some (ds,S1)=>if ds.length=n then (match g f ds S1 with
  |some (r,S2)=>k r S2
  | none=>aT) else aT
 |none=>aT
abbrev eZ(g:gU)(b:Nat->Nat):List RS->Rho->Sto->Option (RR×Sto)
 |[],_,S=>aD (.p .non,S)
 | .pl s::r,ρ,S=>(match evS (toC g) b 59 s ρ S with
  |some (.nx,ρ',S')=>eZ g b r ρ' S'
  |some (.rt v,_,S')=>aD (.p v,S')
  | _=>aT)
 | .rz c i::r,ρ,S=>(match evT (toC g) b FU c ρ S with
  |some (a8,S1)=>if i < 14 then aD (.exc i,S1) else aT
  |some (a9,S1)=>eZ g b r ρ S1
  | none=>aT)
 | .tr f es::_,ρ,S=>xck g (b f) f (evA (toC g) b FU es ρ S) λv h=>(match v with
  |.p d=>aD (.p d,h)
  | .exc i=>(x9 i).map λw=>(.p (.str w),h))
abbrev evX(ae:List DefE):Nat->gU
 |0=>λ_ _ _=>aT
 |k+1=>λf b S=>match ae[f]? with
  | some d=>(match d.rb with
   |none=>(IQ (toC (evX ae k)) (cz ae) d b S).map λr=>(.p r.1,r.2)
   | some rs=>eZ (evX ae k) (cz ae) rs (b.map aD++Zr (d.N.length - b.length) aT) S)
  |none=>aT
abbrev evC(ae:List DefE)(k:Nat):Calls:=toC (evX ae k)
abbrev E7(N ps:List Str)(sc:Scope):Bool:=sc.kind == .function && sc.isCoroutine == a9 && sc.isGenerator == a9 && jd N && N.take ps.length == ps && (ps.all λx=>sc.names.lookup x == aD .local || sc.names.lookup x == aD .cell) && sc.names.all λy=>y.2 != .free
def zP(h:E7 N ps sc=a8):FnScope N ps sc:=by
 delta E7 at h;simp![bAE,Zg]at h;let{⟨⟨⟨⟨⟨b,f⟩,q⟩,o⟩,H⟩,p⟩,g}:=h;calc{by simpa using b,by simpa using f,by simpa using q,gF o,by simpa using H,λx j=>?_,λy c=>by simpa using g y c};let:=p x j
 simpa using this
abbrev E8(e:Stmt)(k:Option Expr->Option Expr->Pos->Bool):Bool:=if h:e.ctorIdx=16 then @Stmt.Raise.elim (λ_=>Bool) e h k else a9
def E9(h:E8 e k=a8):∃c b X,e = .Raise c b X/\k c b X=a8:=by
 let{H,h}:=bI h;exact Stmt.Raise.elim (motive_2:=λe=>∀f,@Stmt.Raise.elim (λ_=>Bool) e f k=a8->∃c b X,e = .Raise c b X/\k c b X=a8) e H (λc b X _ g=>⟨c,b,X,rfl,g⟩) H h
abbrev SO(e:Stmt)(k:List Stmt->List ExceptHandler->List Stmt->List Stmt->Pos->Bool):Bool:=if h:e.ctorIdx=17 then @Stmt.Try.elim (λ_=>Bool) e h k else a9
def Og(h:SO e k=a8):∃g f c X b,e = .Try g f c X b/\k g f c X b=a8:=by
 let{H,h}:=bI h;exact Stmt.Try.elim (motive_2:=λe=>∀j,@Stmt.Try.elim (λ_=>Bool) e j k=a8->∃g f c X b,e = .Try g f c X b/\k g f c X b=a8) e H (λg f c X b _ o=>⟨g,f,c,X,b,rfl,o⟩) H h
abbrev Fa(T:Tab)(b:Blk)(f:Nat)(E:List CE)(e:Expr):Bool:=Ew (λx=>oA T.fns[f]? (λy=>y.1 == x) && b.glo x) (λa=>cK T FU b a E) e
abbrev SQ(b:Blk)(i:Nat)(s:Stmt):Bool:=E8 s λv c _=>c.isNone && oA v λe=>sCN e λx E f=>l1 E λa=>f.isEmpty && lW[i]? == aD x && b.glo x && dH a λc _ _=>(match c with |.str _=>a8 |_=>a9)
abbrev iX:Str := "_law_word"
abbrev Oh(b:Blk)(h:ExceptHandler):Bool:=match h with
 |.ExceptHandler t n body _=>(oA t λe=>eO (λx=>x == ("RingError" : Str) && b.glo x) e) && oA n λn=>b.sc.names.lookup n == aD .local && b.N.contains n && !(n == ("__debug__" : Str)) && !(n == ("__classdict__" : Str)) && l1 body λs=>BP (λe=>sCN e λx E c=>l1 E λa=>c.isEmpty && x == iX && b.glo x && eO (λy=>y == n) a) s
abbrev Vc(k:Expr->Bool)(b:Blk)(s:Stmt):Bool:=SO s λbody hs o f _=>o.isEmpty && f.isEmpty && (l1 body λr=>BP k r) && l1 hs λh=>Oh b h
abbrev iY(T:Tab)(b:Blk):List RS->List Stmt->Bool
 |[],ss=>ss.isEmpty
 |.pl c::rs,ss=>lC ss λs ss=>IG T 59 b s c && iY T b rs ss
 |.rz c i::rs,ss=>lC ss λs ss=>zIf (λe=>fV T FU b e c) (λp=>l1 p λs=>SQ b i s) (λq=>q.isEmpty) s && iY T b rs ss
 |.tr f es::rs,ss=>l1 ss λs=>Vc (Fa T b f es) b s
abbrev Fb(T:Tab)(d:DefE):Bool:=E7 d.N d.ps (av d.st) && (match d.rb with
 |none=>lG T FU {av d.st,aT,d.N} (bx d.st) d.body
 | some rs=>iY T {av d.st,aT,d.N} rs (bx d.st))
abbrev qF(con:List (Str×CV))(ae:List DefE):Tab:={con,ae.map λd=>(d.x,d.ps.length)}
abbrev zQ(d:DefE):Bool:=d.x == iX && d.ps.length == 1 && xX {av d.st,aT,d.N} lW BW (bx d.st)
structure TextOk(K:V6)(mg:Str->Option Value)(con:List (Str×CV))(ae:List DefE):Prop where
 con:∀ (i:Nat) (x:Str) (v:CV),con[i]?=aD (x,v)->Lp K mg x v
 bl:∀x,x∈gy->mg x=aT
 fn:∀ (i:Nat) (d:DefE),ae[i]?=aD d->∃f fd,mg d.x=aD (.ref f)/\OF K (.ref f)=a8/\dN K fd d.ps []/\Fun K d.x d.x d.st f fd
 xs:∃R Ds,XInf K mg R Ds
abbrev spX(K:V6)(f:List Addr)(g:List D->Sto->Option (RR×Sto))(n:Nat):Sp:=λj H Q E=>∃m b S r c,VDs K m H b j/\Rel K m S H/\b.length=n/\g b S=aD (r,c)/\∀M h,Aft K m H c M h->(match r with
 |.p d=>∀v,VD K M h d v->Q v h
 | .exc i=>∃C,f[i]?=aD C/\i < 14/\E (.ref C) aT h)
def Fc{K:V6}{c:List Addr}{g:gU}{f n:Nat}{b:List V}{H:Hp}{Q:VK}{E:XK}(h:spC K (toC g f) n b H Q E):spX K c (g f) n b H Q E:=by
 let{m,y,S,d,B,u,R,z,e,q}:=h;delta toC at e;split at e
 .rename_i I C p;cases e;exact{m,y,S,.p d,B,u,R,z,p,λM o A v j=>q M o v A j}
 .cases e
section
variable {P:Program} {w:World} {K:V6} {M:Str->Option Value} {base:Heap} {con:List (Str×CV)} {ae:List DefE}
def qG(c:VDs K m H ds g):EnvR K m H (ds.map aD++Zr (N.length - ds.length) aT) (L2.eF N g):=by
 let j:=c.length;delta L2.eF;calc{by simp[j],λi d e=>?_};by_cases b:i < ds.length
 .rw[Zz (by simpa using b),Zn]at e;cases h:ds[i]? with
  |none=>rw[h]at e;cases e
  |some p=>
   rw[h]at e;cases e;let{v,o,f}:=c.get h;exact{v,by rw[Zz (by simp;lia),Zn,o];rfl,f}
 .rw[Zo (by simpa using b),Yx]at e;split at e <;> cases e
abbrev tRs(K:V6)(o:List Addr)(E:XK)(g:gU)(p:Nat->Nat)(rs:List RS):TS:=λD b H=>(∀b H,D.rt .non H->D.nx b H)/\∃m f S r j,EnvR K m H f b/\Rel K m S H/\eZ g p rs f S=aD (r,j)/\∀c h,Aft K m H j c h->(match r with
 |.p d=>∀v,VD K c h d v->D.rt v h
 | .exc i=>∃C,o[i]?=aD C/\i < 14/\E (.ref C) aT h)
def Fe{n f:Nat}(h:xck g n f o k=aD z):∃ds b v c,o=aD (ds,b)/\ds.length=n/\g f ds b=aD (v,c)/\k v c=aD z:=by
 cases o with
 |none=>cases h
 |some p=>
  let{ds,b}:=p;delta xck at h;dsimp! at h;split at h
  .rename_i j;cases H:g f ds b with
   |none=>rw[H]at h;cases h
   |some p=>let{v,c}:=p;rw[H]at h;exact⟨ds,b,v,c,rfl,j,H,h⟩
  .cases h
def IR(A:Aft K m H j c g)(x:kG g H3):Aft K m H j c H3:=by
 let E:Ext c g c H3:={Yv _,λa o h _=>x a o h,λ_ h n=>absurd h n}
 exact A.trans ⟨E,A.rel.ext_keep E λb p=>by
  let{o,_,f,_}:=A.rel.ex p;rw[f];exact x b o f⟩
structure RCx(T:Tab)(g:gU)(ar:Nat->Nat)(k:Nat)(b:Blk)(X:Cx)(E:XK)(R:Addr)(Ds:List Addr):Prop where
 G:CtxOk T (toC g) ar k b X.nox
 xi:XInf X.K X.mg R Ds
 kin:X.K.In X.base
 fns:∀ (i:Nat) (y:Str×Nat),T.fns[i]?=aD y->∃f fd ps,X.mg y.1=aD (.ref f)/\OF X.K (.ref f)=a8/\dN X.K fd ps []/\FnOk X.prog X.w X.K X.mg X.base (CXE X.prog X.w) k f fd ps (spX X.K Ds (g i) (ar i))
 pass:m7 (CXE X.prog X.w) X E
 made:∀pins σ H s h1 e c args,L2.Inv X pins σ H s->Heap.MadeExcOf s.heap h1 e c args->E c aT H->X.xe (.ref e) {s with heap:=h1}
 stk:X.stack=X.env::X.outer
 frm:X.env.frame=aD X.env.locals
 kind:X.env.scope.kind = .function
 word:∃fw fdw psW NW stw,X.mg iX=aD (.ref fw)/\Fun X.K iX iX stw fw fdw/\FnScope NW psW (av stw)/\dN X.K fdw psW []/\psW.length=1/\xX {av stw,aT,NW} lW BW (bx stw)=a8
def Oi{P:Prop}{f:Nat}(h:Fa T b f E C=a8)(q:∀y g e c p,C = .Call (.Name y.1 g) (e::c) [] p->T.fns[f]?=aD y->b.glo y.1=a8->cK T FU b (e::c) E=a8->P):P:=by
 let{x,e,c,g,p,Q,H,o}:=zF h;let{B,z}:=an2 H;let{y,v,u}:=fH B;let j:=jQ u;exact q y g e c p (by rw[Q,j]) v (j▸z) o
def SR{P:Prop}(O:Oh b hd=a8)(q:∀np n u p B c h (i:Nat),hd = .ExceptHandler (aD (.Name "RingError" np)) (aD n) [.Return (aD (.Call (.Name iX u) [.Name n p] [] B)) c] h->b.glo "RingError" = a8->b.glo iX=a8->b.N[i]?=aD n->b.sc.names.lookup n=aD .local->(n == ("__debug__" : Str))=a9->(n == ("__classdict__" : Str))=a9->P):P:=by
 let{ty,nm,H,h}:=hd;delta Oh at O;let{k1,k2}:=an2 O;let{e1,q1,U}:=fH k1;let{rn,np,q2,k4}:=bR U;let{X,k6}:=an2 k4;let J:=eq_of_beq X;let{n,q4,k7}:=fH k2;let{Y,l6,l7,l8,Z}:=an5 k7;let{s0,q5,C}:=cy Z;let{v2,c,q6,L}:=oH C;let{xw,u,es2,ks,B,q7,I}:=qx L;let{a,q8,f}:=cy I;let{z,E,o,j}:=an4 f;let q9:=cG z;let Q:=eq_of_beq E;let{n2,p,g,v}:=bR j;let y:=eq_of_beq v;let{i,T}:=XV (XN.mp l6);exact q np n u p B c h i (by rw[q1,q2,J,q4,q5,q6,q7,q8,q9,Q,g,y]) (J▸k6) (Q▸o) T (by simpa using Y) (by simpa using l7) (by simpa using l8)
def Oj{k:Nat}(u:RCx T g p k b X E R c)(h:iY T b ([]) ss=a8):PSs X ss (tRs X.K c E g p ([])):=by
 rw[cG h];calc PSs.imp jA λD o H Q=>?_;let{j,m,y,S,r,v,Ev,f,e,q}:=Q;cases e;exact j o H (q m H (Aft.refl f) _ nM)
def SS{k:Nat}(y:RCx T g I k b X E R B)(ih:∀ss,iY T b rs ss=a8->PSs X ss (tRs X.K B E g I rs))(h:iY T b (.pl c::rs) ss=a8):PSs X ss (tRs X.K B E g I (.pl c::rs)):=by
 let{s,ss,rfl,h}:=bP h;let{U,h2}:=an2 h;calc PSs.imp (cn (Oe ((Oc 59).s b X.nox s c y.G y.kind U)) (ih ss h2)) λD σ H Q=>?_;let{Y,m,z,S,r,O,Ev,J,e,q}:=Q;simp![eZ]at e;split at e
 .rename_i f o hs;exact{m,z,S,.nx,f,o,Ev,J,hs,λp C j σ1 L=>{Y,p,f,o,r,O,L,j.rel,e,λZ H2 A2=>q Z H2 (j.trans A2)}}
 .rename_i v f o hs;cases e;exact{m,z,S,_,_,_,Ev,J,hs,λp C j u vu=>q p C j u vu}
 .cases e
def SU{P:Prop}{i:Nat}(h:SQ b i s=a8)(q:∀x p f z j g pos,s = .Raise (aD (.Call (.Name x p) [.Constant (.str z) j g] [] f)) aT pos->lW[i]?=aD x->b.glo x=a8->P):P:=by
 let{v,C,pos,L,H}:=E9 h;let{B,H}:=an2 H;let{U,Z,H}:=fH H;let{x,p,X,T,f,Q,H}:=qx H;let{a,O,H}:=cy H;let{y,E,o,c}:=an4 H;let{u,j,g,I,c}:=cU c;let J:C=aT:=by cases C <;> first |rfl |cases B
 have ⟨z,z7⟩:∃z,u = .str z:=by cases u <;> first |exact⟨_,rfl⟩ |cases c
 exact q x p f z j g pos (by rw[L,Z,Q,O,cG y,I,J,z7]) (by simpa using E) o
def SV{k:Nat}(f:RCx T g ar k b X E R Ds){i:Nat}(ih:∀ss,iY T b rs ss=a8->PSs X ss (tRs X.K Ds E g ar rs))(h:iY T b (.rz c i::rs) ss=a8):PSs X ss (tRs X.K Ds E g ar (.rz c i::rs)):=by
 let{s,U,z1,h}:=bP h;let{h1,h2}:=an2 h;let{t,p,q,r,z2,h3,h4,h5}:=ET h1;let{s1,z3,h4}:=cy h4;calc SU h4 λx p1 p2 z j p3 pos z4 hx h10=>?_;rw[z1,z2,cG h5,z3,z4];let{C,hC,hm}:=f.xi.nm i x hx;let gl:=f.G.gl h10;by_cases u:i < 14
 .calc PSs.imp (cn (yS (PT.nox ((snd FU).t b X.nox t c f.G h3)) (jB (EG (E:=E) (v:=.str z) (λO σ H s h1 e Y I mk hE=>f.made O σ H s h1 e _ Y I mk hE) f.G.calm gl.1 hm (f.xi.hC _ f.kin i C hC u) (f.xi.hR _ f.kin) (cj qY rfl) rfl gl.2)) jA) (ih U h2)) λD σ H Q=>?_;let{hD,m,y,S,r,S',Ev,J,e,q}:=Q;simp![eZ]at e;split at e
  .rename_i L B;rw[if_pos u]at e;cases e;calc{m,y,S,a8,_,Ev,J,B,λm1 H1 o=>?_};dsimp!;rw[if_pos rfl];let{C',Z,_,z}:=q m1 H1 o;rw[hC]at Z;cases Z;exact z
  .rename_i L B;calc{m,y,S,a9,_,Ev,J,B,λm1 H1 o=>?_};dsimp!;rw[if_neg Ze];exact{hD,m1,y,L,r,S',Ev.mono J o.ext,o.rel,e,λm2 H2 A2=>q m2 H2 (o.trans A2)}
  .cases e
 .calc PSs.imp (cn (yS (PT.nox ((snd FU).t b X.nox t c f.G h3)) (jB tX) jA) (ih U h2)) λD σ H Q=>?_;let{hD,m,y,S,r,S',Ev,J,e,q}:=Q;simp![eZ]at e;split at e
  .rename_i L B;rw[if_neg u]at e;cases e
  .rename_i L B;calc{m,y,S,a9,_,Ev,J,B,λm1 H1 o=>?_};dsimp!;rw[if_neg Ze];exact{hD,m1,y,L,r,S',Ev.mono J o.ext,o.rel,e,λm2 H2 A2=>q m2 H2 (o.trans A2)}
  .cases e
def SX{k:Nat}(j:RCx T g q k b X E R C){f:Nat}(h:Fa T b f p e=a8):PX X e (λY H Q E=>tAr X.K (evA (toC g) q FU p) Y H λZ J=>spX X.K C (g f) (q f) Z J Q E):=by
 calc Oi h λy p' e as O z u v o=>?_;rw[z];let{fa,fd,ps,B,I,L,F}:=j.fns f y u;let c:=ba o;let gl:=j.G.gl v;exact IM F j.G.room gl.1 B I L ((snd FU).a b X.nox _ p j.G o) (ai (c e Zf)) (fJ λe U=>c e (Zh _ U)) gl.2
def SY{k:Nat}(c:RCx T g ar k b X E R z){f:Nat}(h:iY T b (.tr f es::rs) ss=a8):PSs X ss (tRs X.K z E g ar (.tr f es::rs)):=by
 let{s,z1,c0}:=cy h;let{body,hs,o,fi,tp,z2,c1}:=Og c0;let{h1,h2,h3,h4}:=an4 c1;let{r0,z3,c2}:=cy h3;let{v,rp,z4,c3}:=oH c2;let{hd,z5,c4}:=cy h4;calc SR c4 λnp n wp p2 p3 rp2 hp i z7 k6 y Y l5 l7 l8=>?_;rw[z1,z2,cG h1,cG h2,z3,z4,z5,z7];let{fw,fdw,psW,NW,stw,w1,w2,w3,w4,w5,w6}:=c.word;calc PSs.imp (jB (IP (i:=i) c.stk c.frm c.xi c.G.room (SX c c3) w2 w3 w4 w5 w6 (c.G.gl y).1 w1 (c.G.gl y).2 (by rw[show X.N=b.N from c.G.hN];exact c.G.nd) (by rw[show X.N=b.N from c.G.hN];exact Y) (by rw[show X.env.scope=b.sc from c.G.hs];exact l5) (c.G.gl k6).1 l7 l8)) λD σ H Q=>?_;let{hD,m,ρ,S,r,S',Ev,Rl,e,q}:=Q;simp![eZ]at e;let{U,J,v,Z,e1,hl,eg,e}:=Fe e;calc{m,ρ,S,U,J,Ev,Rl,e1,λm1 H1 vs B vd=>{m1,U,J,v,Z,vd,B.rel,hl,eg,λI H2 L=>?_}};cases v with
 |p d=>cases e;exactλu vu=>q I H2 (B.trans L) u vu
 |exc j=>
  dsimp! at e;cases p:x9 j with
  |none=>rw[p]at e;cases e
  |some w=>
   rw[p]at e;cases e;let C:j < 14:=by delta x9 at p;split at p <;> first |assumption |cases p
   let O:j < z.length:=by rw[c.xi.len];lia
   exact{z[j],gEG O,C,j,z[j],w,rfl,gEG O,p,λH3 x3=>q I H3 (IR (B.trans L) x3) _ cq}
def Ff{k:Nat}(j:RCx T g p k b X E R o):∀ (rs:List RS) (ss:List Stmt),iY T b rs ss=a8->PSs X ss (tRs X.K o E g p rs)
 |[],ss,h=>Oj j h
 |.pl c::rs,ss,h=>SS j (Ff j rs) h
 |.rz c i::rs,ss,h=>SV j (Ff j rs) h
 |.tr f es::rs,ss,h=>SY j h
def IS{i n:Nat}:FnOk P w K M base (CXE P w) 0 f o ps (spX K j (evX ae 0 i) n):=
 {λv H Q E h=>(by let{m,c,S,d,g,_,_,_,e,_}:=h;cases e),λA outer s H b u v Q E _ _ _ _ h=>(by let{m,c,S,d,g,_,_,_,e,_}:=h;cases e)}
def zR(T:TextOk K M con ae)(xi:XInf K M R Ds)(kin:K.In base)(hc:ae.all (Fb (qF con ae))=a8)(hw:ae.any zQ=a8):∀ (k i:Nat) (d:DefE),ae[i]?=aD d->∀f L,M d.x=aD (.ref f)->Fun K d.x d.x d.st f L->FnOk P w K M base (CXE P w) k f L d.ps (spX K Ds (evX ae k i) d.ps.length)
 |0,i,d,_,f,L,_,_=>IS
 |k+1,i,d,hd,f,L,hm,F=>by
  let ih:=zR T xi kin hc hw k;let C:=Zg.mp hc d (Zs hd);delta Fb at C;rw[bAE]at C;let S:=zP C.1
  let word:∃fw g X NW o,M iX=aD (.ref fw)/\Fun K iX iX o fw g/\FnScope NW X (av o)/\dN K g X []/\X.length=1/\xX {av o,aT,NW} lW BW (bx o)=a8:=by
   let{dw,B,hq}:=YV.mp hw;let{j,U}:=XV B;delta zQ at hq;let{q1,q2,q3}:=an3 hq;let{fw,g,m1,m2,m3,m4}:=T.fn j dw U;let O:=Zg.mp hc dw B;delta Fb at O;rw[bAE]at O;rw[<-eq_of_beq q1];exact{fw,g,dw.ps,dw.N,dw.st,m1,m4,zP O.1,m3,by simpa using q2,q3}
  let{oc,od,kV,doc,pm,an,Z,ct,osl,rfl,lk,hcd}:=F.ex;refine RB lk hcd S (λvs H Q E h=>?_) λA outer s H vs Q E hr h=>?_
  .let{m,ds,S,d',S',vd,_,hl,_}:=h;rw[<-vd.length,hl]
  .let FX:∀ (j:Nat) (y:Str×Nat),(qF con ae).fns[j]?=aD y->cz ae j=y.2/\∃f L ps,M y.1=aD (.ref f)/\OF K (.ref f)=a8/\dN K L ps []/\FnOk P w K M base (CXE P w) k f L ps (spX K Ds (evX ae k j) (cz ae j)):=λj y Y=>by
    let b:(ae.map λd=>(d.x,d.ps.length))[j]?=aD y:=Y;rw[Zn]at b;cases U:ae[j]? with
    |none=>rw[U]at b;cases b
    |some e=>
     rw[U]at b;cases b;let ha:cz ae j=e.ps.length:=by delta cz;rw[U]
     let{f',p,J,k',b',F'}:=T.fn j e U;calc{ha,f',p,e.ps,J,k',b',?_};rw[ha];exact ih j e U f' p J F'
   let G:CtxOk (qF con ae) (toC (evX ae k)) (cz ae) k {av d.st,aT,d.N} (pA (CXE P w) P w K M base d.N d.x (av d.st) f Z A outer s H E).nox:=by
    calc{rfl,rfl,rfl,rfl,S.nd,λ_ _=>rfl,hr,T.con,T.bl,λj y Y=>?_};let{ha,f',p,ps',J,k',b',F'}:=FX j y Y;exact{ha,f',p,ps',J,k',b',F'.imp λvs H Q E q=>Fc q}
   let{m,ds,S0,r,S',vd,Rl,hl,e,q}:=h;simp![evX,hd]at e;cases hrb:d.rb with
   |none=>
    rw[hrb]at e C;dsimp! at e C;calc{_,((Oc FU).ss _ _ (bx d.st) d.body G S.kind C.2).nox,?_};delta IQ at e;cases hx:eY (toC (evX ae k)) (cz ae) FU d.body (ds.map aD++Zr (d.N.length - ds.length) aT) S0 with
    |none=>rw[hx]at e;cases e
    |some z=>
     let{fl,ρ',S1}:=z;rw[hx]at e;calc{m,_,S0,fl,ρ',S1,qG vd,Rl,hx,λJ H' A'=>?_};cases fl with
     |nx=>cases e;exactλσ _=>q J H' A' .non nM
     |rt v=>cases e;exactλu vu=>q J H' A' u vu
     |bk=>cases e
     |ct=>cases e
   |some rs=>
    rw[hrb]at e C;dsimp! at e C
    let rc:RCx (qF con ae) (evX ae k) (cz ae) k {av d.st,aT,d.N} (pA (CXE P w) P w K M base d.N d.x (av d.st) f Z A outer s H E) E R Ds:=
     {G,xi,kin,λj y Y=>(FX j y Y).2,Si,λpins σ H s h1 e c args I mk hE=>Sj I mk hE,rfl,rfl,S.kind,word}
    exact{_,Ff rc rs (bx d.st) C.2,λ_ _ z=>z,m,_,S0,r,S',qG vd,Rl,e,q}
end
abbrev zS(d:DefE):Option tR:=aD ((d.x,d.x),(eD d.st,bx d.st),(av d.st,ZaF),([],.none),(Zao,aD d.x))
def zT:∀ {l:List Nat},L4 l=a8->l.Nodup
 |[],_=>Wp
 |a::l,h=>by
  let{H,c}:=an2 h;calc Yz.mpr {λb=>?_,zT c};rw[XN.mpr b]at H;cases H
abbrev gV(h:Heap)(x:Str):V6:=match h.nsMap ZaF x with
 | some (.ref C)=>(match h.get? C with
  | some {c0,dd,.cls cd,sl}=>(C,{c0,dd,.cls cd,sl})::(match h.get? cd.ns with
   |some {c1,d1,.dict es ep,s1}=>[(cd.ns,{c1,d1,.dict es ep,s1})]
   | _=>[])
  | _=>[])
 |_=>[]
@[inline]abbrev vn:=Bool×List (Option tR)×List (Option CV)×List Bool×Bool
abbrev BX(con:List (Str×CV))(ae:List DefE)(h:Heap):vn:=(h.isNs ZaF,ae.map (λd=>vZ h d.x),con.map (λc=>G0 h c.1),(gy.map λx=>(h.nsMap ZaF x).isNone),Ct h)
abbrev vo(con:List (Str×CV))(ae:List DefE):vn:=(a8,ae.map zS,con.map (λc=>aD c.2),(gy.map λ_=>a8),a8)
abbrev Lv(d:DefE):Prop:=∀ (kV b p:Value) (an:Option Addr) (c ct:Value) (u:List Value),u.length=d.ps.length->bindArgs (Pi d.x d.x (eD d.st) (bx d.st) (av d.st) .none kV b p an c ct) ⟨u,[]⟩=pure (d.ps.zip u)
abbrev BZ:List DefE->Prop
 |[]=>True
 |d::ds=>Lv d/\BZ ds
def BZ.at:∀ {ds:List DefE} {d:DefE},BZ ds->d∈ds->Lv d
 |e::ds,d,h,hd=>by
  rcases Zl.mp hd with rfl |hd
  .exact h.1
  .exact BZ.at h.2 hd
abbrev qH(h:Heap)(f:Addr):V6:=match h.get? f with
 | some o=>(f,o)::(match o.data with
  | .func fd=>(match fd.code with
   |.ref c=>(match h.get? c with |some O=>[(c,O)] |none=>[])
   | _=>[])
  | _=>[])
 |none=>[]
abbrev eT(h:Heap)(d:DefE):V6:=match h.nsMap ZaF d.x with
 |some (.ref f)=>qH h f
 |_=>[]
abbrev SZ(K:V6):Prop:=∀a o,K.lookup a=aD o->∀I n,o.data = .seq I n->o.cls = .type "tuple"
structure Says(con:List (Str×CV))(ae:List DefE)(h:Heap):Prop where
 ns:∃m,h.Ns ZaF m
 frag:∃K:V6,K.In h/\SZ K/\∀mg,h.Ns ZaF mg->TextOk K mg con ae
def oJ{K:V6}{a:Addr}{o:Obj}(h:K.lookup a=aD o):(a,o)∈K:=by
 induction K with
 |nil=>cases h
 |cons p K I=>
  let{b,q}:=p;rw[ZT]at h;cases H:a == b with
  |true=>
   rw[H]at h;cases h;let:a=b:=by simpa using H
   subst this;exact Zf
  |false=>rw[H]at h;exact Zh _ (I h)
def Fg{K:V6}{a:Addr}{o:Obj}(h:(a,o)∈K):∃o',K.lookup a=aD o':=by
 induction K with
 |nil=>cases h
 |cons p K I=>
  let{b,q}:=p;rw[ZT];cases H:a == b with
  |true=>exact⟨_,rfl⟩
  |false=>
   rcases Zl.mp h with e |h
   .cases e;simp at H
   .exact I h
def Fh(e:(a,o)∈qH h f):h.get? a=aD o:=by
 delta qH at e;cases b:h.get? f with
 |none=>rw[b]at e;cases e
 |some of=>
  rw[b]at e;dsimp! at e;rcases Zl.mp e with q |e
  .cases q;exact b
  .split at e
   .split at e
    .rename_i c g;cases H:h.get? c with
     |none=>rw[H]at e;cases e
     |some O=>
      rw[H]at e;dsimp! at e;rcases Zl.mp e with q |e
      .cases q;exact H
      .cases e
    .cases e
   .cases e
def Ol{h:Heap}{a:Addr}{mg:Str->Option Value}(N:h.Ns a mg):h.nsMap a=mg:=by
 let{o,c,E,H,hd,_,b}:=N
 funext x
 delta Heap.nsMap;rw[H];dsimp!;rw[hd];exact b x
def Fi(e:vZ h d.x=zS d):∃f O j kV g p an c ct o q u v a t r C,h.nsMap ZaF d.x=aD (.ref f)/\h.get? f=aD {O,j,.func (Pi d.x d.x (eD d.st) (bx d.st) (av d.st) .none kV g p an (.ref c) ct),o} ∧
  h.get? c=aD {q,u,.fields v,C}/\v.toList=a :: .str d.x t::r:=by
 delta vZ zS at e;split at e
 .rename_i f B;delta Rh at e;split at e
  .rename_i O j nm Q ps b sc gl cl I kV g p an y ct J o z;simp![Option.some.injEq,Prod.mk.injEq]at e;let{⟨rfl,rfl⟩,⟨rfl,rfl⟩,⟨rfl,rfl⟩,⟨rfl,rfl⟩,rfl,e}:=e;delta KP at e;split at e
   .rename_i c;split at e
    .rename_i q u v C H;split at e
     .rename_i a n t r E;cases e;exact⟨f,O,j,kV,g,p,an,c,ct,o,q,u,v,a,t,r,C,B,z,H,E⟩
     .cases e
    .cases e
   .cases e
  .cases e
 .cases e
def vp(e:(a,o)∈gV h x):h.get? a=aD o/\∀its n,o.data≠.seq its n:=by
 delta gV at e;split at e
 .split at e
  .rename_i C _ j u p sl hC;rcases Zl.mp e with q |e
   .cases q;exact{hC,λ_ _ z=>nomatch z}
   .split at e
    .rename_i c b g E f hN;rcases Zl.mp e with q |e
     .cases q;exact{hN,λ_ _ z=>nomatch z}
     .cases e
    .cases e
  .cases e
 .cases e
def zU(e:L3 h x=a8):∃b c sl,h.nsMap ZaF x=aD (.ref (adX h x))/\(adX h x,({.type "type",b,.cls c,sl}:Obj))∈gV h x:=by
 delta L3 at e;split at e
 .rename_i C H;split at e
  .rename_i b c sl hC;let z:adX h x=C:=by delta adX;rw[H]
   calc{b,c,sl,by rw[H,z],?_};delta gV;rw[H,z];dsimp!;rw[hC];exact Zf
  .cases e
 .cases e
def zV{h:Heap}{bm:List Value}{x:Str}(e:G1 h bm x=a8){K:V6}(L:∀a o,(a,o)∈gV h x->K.lookup a=aD o):h.nsMap ZaF x=aD (.ref (adX h x))/\∀h',K.In h'->bK h' (adX h x) bm:=by
 delta G1 at e;split at e
 .rename_i C c;split at e
  .rename_i T p sl hC;split at e
   .rename_i C' bm' J I E u n v y hs;simp![bAE,beq_iff_eq,Bool.not_eq_true',Zg]at e;let{⟨⟨⟨⟨rfl,rfl⟩,rfl⟩,H⟩,b⟩,X}:=e;let z:adX h x=C':=by delta adX;rw[c]
    calc{by rw[c,z],λh' B=>?_};rw[z];let N:=Heap.Ns.of_isNs b;let{oN,O,Y,hN,hd,r}:=id N;let{c1,d1,dat,s1}:=oN;dsimp! at hd;subst hd
    let Q:(C',({.type "type",T,.cls p,sl}:Obj))∈gV h x:=by
     delta gV;rw[c];dsimp!;rw[hC];exact Zf
    let M:(p.ns,({c1,d1,.dict O Y,s1}:Obj))∈gV h x:=by
     delta gV;rw[c];dsimp!;rw[hC];dsimp!;rw[hN];exact Zh _ Zf
    let q:=B _ _ (L _ _ Q);let U:=B _ _ (L _ _ M);let{nm,bs,mro,ns,qn,f,Z,sub,ab,j,del}:=p;dsimp! at y H b X N hN r Q M q U;subst y H
    let g:sl=#[J,I,E,u,aD (.builtin "ValueError.__new__"),v]:=by
     obtain⟨l⟩:=sl;simp! at hs;rw[hs]
    subst g;exact{ns,nm,qn,bs,f,Z,sub,ab,j,T,J,I,E,u,v,h.nsMap ns,q,⟨_,O,Y,U,rfl,r⟩,λn hn=>by simpa using X n hn}
   .cases e
  .cases e
 .cases e
def IT{h:Heap}(e:Ct h=a8){K:V6}{mg:Str->Option Value}(v:h.nsMap ZaF=mg)(y:mg "isinstance" = aT)(L:∀x,x∈("RingError" : Str)::lW->∀a o,(a,o)∈gV h x->K.lookup a=aD o):XInf K mg (adX h "RingError") (lW.map (adX h)):=by
 delta Ct at e;let{I,B,E,M,J}:=an5 e;subst v;let r1:=zV I (L _ Zf);let nd:=Yz.mp (zT M);refine{r1.1,by simpa using J,y,r1.2,λp f i C b j=>?_,λp f D g=>?_,nd.2,λD g z=>nd.1 (z▸g),λi x H=>?_,by rw[Za];rfl}
 .rw[Zn]at b;cases H:lW[i]? with
  |none=>rw[H]at b;cases b
  |some x=>
   rw[H]at b;cases b;let c:x∈lW.take 14:=Zs (i:=i) (by rw[Xj j];exact H);exact(zV (Zg.mp B x c) (L x (Zh _ (Zs H)))).2 p f
 .let{x,H,rfl}:=ZF.mp g;let{q,u,sl,_,m}:=zU (Zg.mp E x H);exact{q,u,sl,f _ _ (L x (Zh _ H) _ _ m)}
 .let{q,u,sl,m,_}:=zU (Zg.mp E x (Zs H));exact{adX h x,by rw[Zn,H];rfl,m}
abbrev vq(h:Heap)(x:Str):V6:=match h.nsMap ZaF x with
 | some (.ref a)=>(match h.get? a with
  |some {.type "tuple",d,.seq its n,s}=>[(a,{.type "tuple",d,.seq its n,s})]
  | _=>[])
 |_=>[]
def Fj(e:(a,o)∈vq h x):h.get? a=aD o/\∀its n,o.data = .seq its n->o.cls = .type "tuple" := by
 delta vq at e;split at e
 .split at e
  .rename_i b _ d its n s H;rcases Zl.mp e with q |e
   .cases q;exact{H,λ_ _ _=>rfl}
   .cases e
  .cases e
 .cases e
abbrev fY(h:Heap)(con:List (Str×CV)):V6:=(("RingError" : Str)::lW).flatMap (gV h)++con.flatMap λc=>vq h c.1
def qI(e:(a,o)∈fY h con):h.get? a=aD o/\∀its n,o.data = .seq its n->o.cls = .type "tuple" := by
 rcases ZC.mp e with e |e
 .let{x,_,e}:=ZZ.mp e;exact{(vp e).1,λits n z=>absurd z ((vp e).2 its n)}
 .let{x,_,e}:=ZZ.mp e;exact Fj e
def vt:∀ {U:List Value} {b:List Str},pQ U=aD b->aP (b.map V.str) U
 |[],b,h=>by cases h;exact .nil
 |u::U,b,h=>by
  cases u with
  |str x t=>
   simp![pQ]at h;cases e:pQ U with
   |none=>rw[e]at h;cases h
   |some r=>rw[e]at h;cases h;exact .cons ⟨t,rfl⟩ (vt e)
  |_=>cases h
def IU{con:List (Str×CV)}{ae:List DefE}(hb:BZ ae){h:Heap}(e:BX con ae h=vo con ae):Says con ae h:=by
 delta BX vo at e;simp![Prod.mk.injEq]at e;let{e0,e1,e2,e3,e4}:=e;let N:=Heap.Ns.of_isNs e0;let D:∀d∈ae,vZ h d.x=zS d:=λd hd=>Xf.mp e1 d hd
 let inK:∀a o,(a,o)∈ae.flatMap (eT h)++fY h con->h.get? a=aD o:=λa o he=>by
  rcases ZC.mp he with he |he
  rotate_left
  .exact(qI he).1
  let{d,hd,he}:=ZZ.mp he;let{f,T,X,kV,j,Y,an,c,ct,O,cc,cd,vs,Z,t,r,U,g,u,B,J}:=Fi (D d hd);delta eT at he;rw[g]at he;exact Fh he
 let L:∀a o,(a,o)∈ae.flatMap (eT h)++fY h con->(ae.flatMap (eT h)++fY h con).lookup a=aD o:=λa o he=>by
  let{o',q}:=Fg he;let z:=inK a o' (oJ q);rw[inK a o he]at z;cases z;exact q
 refine{⟨_,N⟩,ae.flatMap (eT h)++fY h con,λa o q=>inK a o (oJ q),λa o q I n hs=>?_,λmg G=>?_}
 .rcases ZC.mp (oJ q) with he |he
  rotate_left
  .exact(qI he).2 I n hs
  let{d,hd,he}:=ZZ.mp he;let{f,T,X,kV,j,Y,an,c,ct,O,cc,cd,vs,Z,t,r,U,g,u,B,J}:=Fi (D d hd);delta eT at he;rw[g]at he;dsimp! at he;delta qH at he;rw[u]at he;dsimp! at he;rw[B]at he;dsimp! at he;rcases Zl.mp he with z |he
  .cases z;cases hs
  .rcases Zl.mp he with z |he
   .cases z;cases hs
   .cases he
 .let p:=Ol G
  let bl:∀x,x∈gy->mg x=aT:=λx M=>by
   let z:=Xf.mp e3 x M;rw[p]at z
   simpa using z
  refine{λi x v y=>?_,bl,λi d y=>?_,_,_,IT e4 p (bl _ (by decide)) λx M a o C=>L a o (ZE _ (ZV _ (ZZ.mpr ⟨x,M,C⟩)))}
  .let z:=Xf.mp e2 (x,v) (Zs y);delta G0 at z;rw[p]at z;dsimp! at z;split at z
   .rename_i v' t b;cases z;exact⟨t,b⟩
   .rename_i v' t b;cases z;exact⟨t,b⟩
   .rename_i a0 b;split at z
    .rename_i d0 I n0 s0 C;split at z
     .rename_i hz;cases E:pQ I.toList with
      |none=>rw[E]at z;cases z
      |some ws=>
       rw[E]at z;cases z;calc{a0,b,λH=>.inr {{.type "tuple",d0,.seq I n0,s0},I,n0,L a0 _ (ZE _ (ZE _ (ZZ.mpr {_,Zs y,?_}))),rfl,rfl,by rw[ZaO];lia,vt E}};show _∈vq h x;delta vq;rw[p,b];dsimp!;rw[C];exact Zf
     .cases z
    .cases z
   .cases z
  .let hd:=Zs y;let{f,T,X,kV,j,Y,an,c,ct,O,cc,cd,vs,Z,t,r,U,g,u,B,J}:=Fi (D d hd)
   let m1:(f,_)∈ae.flatMap (eT h)++fY h con:=ZV _ <| ZZ.mpr ⟨d,hd,by
    show _∈eT h d;delta eT;rw[g];dsimp!;delta qH;rw[u];exact Zf⟩
   let m2:(c,_)∈ae.flatMap (eT h)++fY h con:=ZV _ <| ZZ.mpr ⟨d,hd,by
    show _∈eT h d;delta eT;rw[g];dsimp!;delta qH;rw[u];dsimp!;rw[B];exact Zh _ Zf⟩
   let l1:=L _ _ m1;let l2:=L _ _ m2;let kp:OF (ae.flatMap (eT h)++fY h con) (.ref f)=a8:=by delta OF;dsimp!;rw[l1]
   let Q:Up (ae.flatMap (eT h)++fY h con) (.ref c) d.x=a8:=by
    delta Up;dsimp!;rw[l2];dsimp!;rw[J];simp
   let F:=ML (st:=d.st) (x:=d.x) (qual:=d.x) l1 Q kp;refine{f,_,by rw[<-p];exact g,kp,F.binds (hb.at hd),F}
def ya(x:Says con ae h)(k:∀b o,h.get? b=aD o->h'.get? b=aD o):Says con ae h':=by
 let{⟨m,N⟩,K,j,ns,T}:=x
 let B:∀mg,h'.Ns ZaF mg->h.Ns ZaF mg:=λmg ⟨o,f,E,c,r⟩=>by
  let{O,p,g,H,u}:=N;let z:=k _ _ H;rw[c]at z;cases z;exact⟨o,f,E,H,r⟩
 refine{{m,let ⟨o,f,E,c,r⟩:=N;{o,f,E,k _ _ c,r}},K,λa o q=>k _ _ (j a o q),ns,λmg G=>T mg (B mg G)}
abbrev kJ(con:List (Str×CV))(ae:List DefE)(H:BZ ae):PySem.W.Hook:=
 {vn,λs=>BX con ae s.heap,λ_=>vo con ae,λ_ h=>Says con ae h,λ_ _ e=>IU H e,λ_ _ _ x k=>ya x k}
def oK{K:V6}{m:List Addr}{H:Hp}:∀ns:List Int,VDs K m H (ns.map D.int) (ns.map V.int)
 |[]=>by rw[ZX,ZX,VDs]
 |a::l=>by rw[Zx,Zx,VDs];exact{_,_,rfl,bV,oK l}
def IV{l:PySem.W.OpenLaw}{n k i:Nat}{q:Program}{loose:List Str}{XP:(Str->Option Value)->Heap->Prop}{d:DefRec}{con:List (Str×CV)}{ae:List DefE}{hb:BZ ae}{dl:DefE}{x:Str}
  (hn:l.most=aD n) (M:n<=sizeLine) (Q:d.params.defaults=[]) (hr:Room k callerA) (hx:d.name=dl.x) (E:ae[i]?=aD dl) (h:dl.ps=[x]) (hc:ae.all (Fb (qF con ae))=a8) (hw:ae.any zQ=a8)
  (main:∀ns:List Int,ns.length<=n->∃L,evC ae k i [.ref 0] [.frz (ns.map D.int)]=aD (.bl a8,L)) :
  PySem.W.WalkO q loose XP (kJ con ae hb).says l.row.toRowW d [] (λf vs=>PySem.call f vs):=by
 calc Att.attach_call hn Q λw s₀ C mg mb fa o pm cd p a vs ns G Y ho hd I c B g b hg=>?_;let{_,K,KX,O,T}:=(show Says con ae C.heap from Y);let T:=T mg G.T.g;let{R,Ds,xi}:=T.xs;let{f,fd,Z,kp,_,F}:=T.fn i dl E;rw[hx]at c;rw[c]at Z;cases Z
 let bd:∀ (s:Shared) (u:Value),BindsTo s fd ⟨[u],[]⟩ [(x,u)]:=λs u=>by
  let{oc,od,kV,p,pm,an,J,ct,osl,rfl,lk,I}:=F.ex;let z:=(hb.at (Zs E)) kV p pm an J ct [u] (by rw[h];rfl);rw[h]at z;exact .of_eq z
 refine C0 (CX:=CXE l.row.toRowW.prog w) (sp:=spX K Ds (evX ae k i) dl.ps.length) KX G.T.g G.T.b G.T.builtins G.T.nolimit hg B g (Zy b M) hr (λbase kin _=>by
  let:=zR (P:=l.row.toRowW.prog) (w:=w) (base:=base) T xi kin hc hw k i dl E fa fd c F;rw[h]at this ⊢;exact this) bd (λH hO hS=>?_) λH e s' ⟨_,_,_,_,_,_,_,_,z⟩=>z
 let U:∃o,H a=aD (.frz o (.lst (ns.map V.int))):=by
  rcases hS with (z |⟨o,z⟩) |⟨o,its,n',hk,hc,hdd,hdt,_⟩
  .rcases hO a with y |⟨o',xs,y⟩
   .rw[y]at z;cases z
   .rw[y]at z;cases z
  .exact⟨o,z⟩
  .exact absurd (hc.symm.trans (O a o hk its n' hdt)) (by show Value.type "list"≠.type "tuple"; decide +kernel)
 let{o,U}:=U;let{L,e}:=main ns b;refine Fc {[a],[.ref 0],[.frz (ns.map D.int)],.bl a8,L,?_,{rfl,by simp,λj ob X=>?_},by rw[h];rfl,e,λm' H' v A vv=>vv.bls}
 .rw[VDs];exact{_,_,rfl,by rw[VD];exact⟨a,rfl,rfl⟩,by rw[VDs]}
 .cases j with
  |zero=>cases X;exact{a,rfl,o,_,U,oK ns}
  |succ j=>simp at X
end Ev
namespace Lw
open PySem Ev
abbrev oM:List CS:=[.ret (.d (.s .int (.v 0)) (.n (.s .bool (.v 0))))]
abbrev lH:List CS:=[.ret (.d (.c 0 [.v 0]) (.h .le .le (.v 1) (.v 0) (.v 2)))]
abbrev lI:List CS:=[.ret (.c 1 [.v 0,.int 0,.con 0 9999])]
abbrev oO:List CS:=[.ret (.d (.s .tuple (.v 0)) (.h .le .le (.v 1) (.e (.v 0)) (.v 2)))]
abbrev jU:List CS:=[.i (.or (.n (.c 3 [.v 0,.int 0,.v 1])) (.n (.all (.o ["number"] (.c 1 [.v 2,.int 0,.b .sub (.v 1) (.int 1)]) [{.n 2,.p (.v 0),aT}])))) [.ret (.bl a9)] [],.ret (.all (.o ["number"] (.m .eq (.cnt (.v 0) (.v 2)) (.int 1)) [{.n 2,.p (.v 0),aT}]))]
abbrev lJ:List CS:=[.i (.or (.n (.h .le .le (.int 1) (.lenS (.v 0)) (.con 2 40))) (.n (.all (.o ["sign"] (.m .s (.v 1) (.txc 1 "0123456789")) [{.n 1,.chr (.v 0),aT}])))) [.ret .non] [],.i (.d (.m .eq (.x (.v 0) (.int 0)) (.str "0")) (.m .ne (.v 0) (.str "0"))) [.ret .non] [],.ret (.intX (.v 0))]
abbrev lK:List CS:=[.i (.n (.c 3 [.v 0,.int 4,.int 4])) [.ret (.bl a9)] [],.a (.tup [.n 1,.n 2,.n 3,.n 4]) (.v 0),.ret (.d (.c 1 [.v 1,.int 0,.con 3 8]) (.d (.c 1 [.v 2,.int 0,.con 4 60]) (.d (.c 7 [.v 3]) (.c 10 [.v 4]))))]
abbrev oP:List CS:=[.i (.n (.c 3 [.v 0,.int 1,.con 5 4])) [.ret (.bl a9)] [],.ret (.d (.all (.o ["row"] (.c 8 [.v 1,.e (.v 0)]) [{.n 1,.p (.v 0),aT}])) (.c 9 [.v 0]))]
abbrev jV:List CS:=[.ret (.d (.c 3 [.v 0,.v 1,.v 1]) (.all (.o ["gap"] (.c 1 [.v 2,.int 1,.con 6 99]) [{.n 2,.p (.v 0),aT}])))]
abbrev cg:List CS:=[.a (.n 1) (.l (.e (.v 0))),.ret (.all (.o ["a","b","c"] (.m .le (.x (.x (.v 0) (.v 2)) (.v 3)) (.b .add (.x (.x (.v 0) (.v 2)) (.v 4)) (.x (.x (.v 0) (.v 4)) (.v 3)))) [{.n 2,.p (.v 1),aT},{.n 3,.p (.v 1),aT},{.n 4,.p (.v 1),aT}]))]
abbrev lL:List CS:=[.i (.or (.n (.c 3 [.v 0,.int 0,.con 7 4])) (.n (.all (.o ["part"] (.c 11 [.v 1]) [{.n 1,.p (.v 0),aT}])))) [.ret (.bl a9)] [],.ret (.all (.o ["at"] (.m .gt (.x (.x (.v 0) (.v 1)) (.int 0)) (.x (.x (.v 0) (.b .sub (.v 1) (.int 1))) (.int 1))) [{.n 1,.r2 (.int 1) (.e (.v 0)),aT}]))]
abbrev jW:List CS:=[.ret (.d (.c 3 [.v 0,.int 2,.int 2]) (.d (.c 2 [.x (.v 0) (.int 0)]) (.d (.c 2 [.x (.v 0) (.int 1)]) (.m .lt (.x (.v 0) (.int 0)) (.x (.v 0) (.int 1))))))]
abbrev qJ:List CS:=[.ret (.c 1 [.v 1,.int 0,.b .sub (.e (.x (.v 0) (.int 2))) (.int 1)])]
abbrev vA:List CS:=[.i (.n (.c 3 [.v 0,.int 4,.int 4])) [.ret (.bl a9)] [],.a (.tup [.n 1,.n 2,.n 3,.n 4]) (.v 0),.ret (.d (.c 6 [.v 1]) (.d (.c 14 [.v 1,.v 2]) (.d (.c 15 [.v 1,.v 3]) (.c 17 [.v 3,.v 4]))))]
abbrev oQ:List CS:=[.i (.m .is (.v 1) .non) [.ret (.bl a8)] [],.ret (.d (.c 3 [.v 1,.int 2,.int 2]) (.d (.c 12 [.v 0,.x (.v 1) (.int 0)]) (.c 2 [.x (.v 1) (.int 1)])))]
abbrev iZ:List CS:=[.ret (.d (.c 3 [.v 1,.int 0,.con 8 7]) (.all (.o ["part"] (.c 16 [.v 0,.v 2]) [{.n 2,.p (.v 1),aT}])))]
abbrev lN:List CS:=[.i (.n (.c 3 [.v 1,.int 7,.int 7])) [.ret (.bl a9)] [],.a (.tup [.n 2,.n 3,.n 4,.n 5,.n 6,.n 7,.n 8]) (.v 1),.i (.n (.all (.o ["minute"] (.c 2 [.v 9]) [{.n 9,.p (.tup [.v 3,.v 4,.v 5,.v 6]),aT}]))) [.ret (.bl a9)] [],.i (.n (.h .le .le (.b .add (.v 3) (.x (.v 0) (.int 1))) (.v 4) (.v 5))) [.ret (.bl a9)] [],.ret (.d (.c 12 [.v 0,.v 2]) (.d (.c 1 [.v 7,.int 0,.con 9 99]) (.c 1 [.v 8,.int 0,.x (.v 0) (.int 0)])))]
abbrev lP:List CS:=[.i (.n (.c 4 [.v 1,.e (.v 0)])) [.ret (.bl a9)] [],.ret (.all (.o ["number","glider"] (.or (.m .eq (.x (.v 3) (.int 6)) (.int 0)) (.m .s (.v 2) (.v 1))) [{.tup [.n 2,.n 3],.en (.v 0),aT}]))]
abbrev oT:List RS:=[.pl (.a (.n 1) (.ite (.s .str (.v 0)) (.c 21 [.v 0]) .non)),.rz (.or (.n (.c 13 [.v 1])) (.m .ne (.c 19 [.v 1]) (.v 0))) 5,.pl (.ret (.v 1))]
abbrev kK:List CS:=[.a (.tup [.tup [.n 1,.n 2,.n 3,.n 4],.n 5,.n 6,.n 7]) (.v 0),.a (.n 8) (.lst [.c 20 [.str "meadow",.tup [.v 1,.v 2]]]),.aug 8 (.o ["row"] (.c 20 [.str "gaps",.v 9]) [{.n 9,.p (.v 3),aT}]),.aug 8 (.o ["stretch"] (.c 20 [.str "shut",.v 9]) [{.n 9,.p (.v 4),aT}]),.i (.m .t (.v 5) .non) [.ex (.app (.v 8) (.c 20 [.str "ahead",.v 5]))] [],.aug 8 (.o ["glider"] (.c 20 [.str "glider",.v 9]) [{.n 9,.p (.v 6),aT}]),.i (.v 7) [.ex (.app (.v 8) (.c 20 [.str "fixed",.v 7]))] [],.ret (.join (.str "\n") (.v 8))]
abbrev vB:List CS:=[.ret (.join (.str " ") (.b .add (.lst [.v 0]) (.o ["number"] (.strI (.v 2)) [{.n 2,.p (.v 1),aT}])))]
abbrev jX:List CS:=[.dcs 1 ["word"] (.v 6) (.lst []) (.n 6) (.wds 10 ["meadow","gaps","shut","ahead","glider","fixed"]),.f (.n 2) (.p (.spl (.v 0) (.str "\n"))) [.stg 3 4 (.spl (.v 2) (.str " ")),.i (.m .o (.v 3) (.v 1)) [.ret .non] [],.ex (.app (.x (.v 1) (.v 3)) (.t (.o ["part"] (.c 5 [.v 6]) [{.n 6,.p (.v 4),aT}])))],.a (.n 5) (.b .add (.c 22 [.x (.v 1) (.str "meadow"),.tup []]) (.tup [.t (.x (.v 1) (.str "gaps")),.t (.x (.v 1) (.str "shut"))])),.ret (.tup [.v 5,.c 22 [.x (.v 1) (.str "ahead"),.non],.t (.x (.v 1) (.str "glider")),.c 22 [.x (.v 1) (.str "fixed"),.tup []]])]
abbrev lQ:List CS:=[.ret (.ite (.v 0) (.x (.v 0) (.int 0)) (.v 1))]
abbrev i4:List CS:=[.i (.m .lt (.v 1) (.e (.v 0))) [.ret (.x (.v 0) (.v 1))] [],.ret (.int 0)]
abbrev qK:List CS:=[.i (.m .ge (.v 0) (.b .pow (.int 10) (.int 18))) [.ret (.lst [.b .sub (.v 0) (.b .pow (.int 10) (.int 18))])] [],.a (.n 1) (.int 0),.f (.n 2) (.r1 (.int 64)) [.a (.n 3) (.b .mod (.b .mul (.b .add (.b .add (.b .mod (.v 0) (.int 2147483629)) (.b .mul (.int 7919) (.v 2))) (.int 1)) (.int 48271)) (.int 2147483647)),.a (.n 3) (.b .mod (.b .add (.b .add (.b .mul (.v 3) (.v 3)) (.b .mul (.int 69621) (.v 2))) (.int 7)) (.int 2147483587)),.a (.n 1) (.b .add (.b .mul (.v 1) (.int 2147483587)) (.v 3))],.ret (.lst [.v 1])]
abbrev oU:List CS:=[.a (.n 2) (.b .mod (.x (.v 0) (.int 0)) (.v 1)),.j (.b .fdiv (.x (.v 0) (.int 0)) (.v 1)) (.v 0) (.int 0),.ret (.v 2)]
abbrev lR:List CS:=[.ret (.d (.s .int (.v 0)) (.n (.s .bool (.v 0))))]
abbrev jY:List CS:=[.ret (.d (.c 26 [.v 0]) (.h .le .le (.v 1) (.v 0) (.v 2)))]
abbrev dZ:List CS:=[.a (.n 1) (.b .add (.int 1) (.c 25 [.v 0,.int 4])),.a (.n 2) (.o ["_law_a"] (.o ["_law_b"] (.b .add (.int 1) (.c 25 [.v 0,.int 9])) [{.n 5,.r1 (.v 1),aT}]) [{.n 4,.r1 (.v 1),aT}]),.i (.m .eq (.c 25 [.v 0,.int 8]) (.int 0)) [.a (.n 2) (.o ["_law_row"] (.o ["_law_gap"] (.b .sub (.int 99) (.c 25 [.v 0,.int 3])) [{.n 5,.p (.v 4),aT}]) [{.n 4,.p (.v 2),aT}])] [],.f (.n 3) (.r1 (.v 1)) [.a (.n 2) (.o ["_law_row"] (.o ["_law_b","_law_gap"] (.mn (.v 6) (.b .add (.x (.v 4) (.v 3)) (.x (.x (.v 2) (.v 3)) (.v 5)))) [{.tup [.n 5,.n 6],.en (.v 4),aT}]) [{.n 4,.p (.v 2),aT}])],.ret (.t (.o ["_law_row"] (.t (.v 4)) [{.n 4,.p (.v 2),aT}]))]
abbrev lU:List CS:=[.a (.tup [.n 2,.n 3]) (.tup [.lst [],.v 1]),.f (.n 4) (.r1 (.x (.lst [.int 0,.int 1,.int 2,.int 3,.int 4]) (.c 25 [.v 0,.int 5]))) [.a (.n 3) (.b .add (.b .add (.v 3) (.int 1)) (.c 25 [.v 0,.int 14])),.ex (.app (.v 2) (.tup [.v 3,.b .add (.b .add (.v 3) (.int 1)) (.c 25 [.v 0,.int 6])])),.a (.n 3) (.x (.x (.v 2) (.neg (.int 1))) (.int 1))],.ret (.t (.v 2))]
abbrev jZ:List CS:=[.a (.n 1) (.x (.lst [.int 2,.int 1,.int 3,.int 8,.int 0]) (.c 25 [.v 0,.int 5])),.ret (.tup [.v 1,.x (.lst [.int 2,.int 0,.int 1,.int 5,.int 60]) (.c 25 [.v 0,.int 5]),.c 28 [.v 0],.c 29 [.v 0,.int 0]])]
abbrev j3:List CS:=[.a (.n 2) (.c 25 [.v 0,.int 40]),.a (.n 3) (.b .add (.b .add (.v 2) (.x (.v 1) (.int 1))) (.x (.lst [.int 0,.int 0,.c 25 [.v 0,.int 9]]) (.c 25 [.v 0,.int 3]))),.a (.n 4) (.b .add (.v 3) (.x (.lst [.c 25 [.v 0,.int 5],.b .add (.int 5) (.c 25 [.v 0,.int 20]),.int 60,.int 200]) (.c 25 [.v 0,.int 4]))),.a (.n 5) (.x (.lst [.v 3,.b .add (.v 2) (.c 25 [.v 0,.int 30]),.c 25 [.v 0,.int 90]]) (.c 25 [.v 0,.int 3])),.ret (.tup [.c 25 [.v 0,.e (.x (.v 1) (.int 2))],.v 2,.v 3,.v 4,.v 5,.c 25 [.v 0,.int 10],.int 0])]
abbrev lV:List CS:=[.a (.n 2) (.listOf (.v 1)),.ret (.o ["_law_one"] (.q (.v 2) (.c 25 [.v 0,.e (.v 2)])) [{.n 3,.p (.v 1),aT}])]
abbrev iJ:List CS:=[.a (.n 2) (.c 30 [.v 0]),.a (.n 3) (.o ["_law_g"] (.c 31 [.v 0,.v 2]) [{.n 8,.r1 (.c 25 [.v 0,.b .add (.v 1) (.int 1)]),aT}]),.a (.n 4) (.l (.e (.v 3))),.i (.m .eq (.c 25 [.v 0,.int 2]) (.int 0)) [.a (.n 4) (.o ["_law_pair"] (.x (.v 8) (.int 1)) [{.n 8,.p (.srt (.o ["_law_g","_law_glider_here"] (.tup [.x (.v 9) (.int 2),.v 8]) [{.tup [.n 8,.n 9],.en (.v 3),aT}])),aT}])] [.a (.n 4) (.c 32 [.v 0,.v 4])],.a (.n 5) (.sl (.v 4) aT (aD (.x (.lst [.int 0,.int 1,.int 2,.int 3]) (.c 25 [.v 0,.int 4])))),.f (.n 6) (.p (.v 5)) [.i (.d (.m .eq (.c 25 [.v 0,.int 2]) (.int 0)) (.m .gt (.x (.v 2) (.int 0)) (.int 0))) [.j (.b .add (.sl (.x (.v 3) (.v 6)) aT (aD (.int 6))) (.tup [.b .add (.int 1) (.c 25 [.v 0,.x (.v 2) (.int 0)])])) (.v 3) (.v 6)] []],.a (.n 7) .non,.i (.m .eq (.c 25 [.v 0,.int 2]) (.int 0)) [.a (.n 7) (.tup [.c 25 [.v 0,.e (.x (.v 2) (.int 2))],.c 25 [.v 0,.int 20]])] [],.ret (.tup [.v 2,.v 7,.t (.v 3),.t (.v 5)])]
abbrev yc:List CS:=[.never,.never,.never,.never,.never,.a (.n 2) (.lst [.str "meadow",.str "sky",.str "landings",.str "order",.str "lot",.str "text",.str "name",.str "glider",.str "minute",.str "aim",.str "many",.str "bound"]),.never]
abbrev gr:List CS:=[.i (.or (.n (.s .tuple (.v 0))) (.m .ne (.e (.v 0)) (.int 4))) [.ret (.bl a9)] [],.a (.tup [.n 1,.n 2,.n 3,.n 4]) (.v 0),.i (.or (.n (.c 27 [.v 1,.int 0,.int 8])) (.n (.c 27 [.v 2,.int 0,.int 60]))) [.ret (.bl a9)] [],.i (.or (.n (.s .tuple (.v 3))) (.or (.n (.h .le .le (.int 1) (.e (.v 3)) (.int 4))) (.or (.n (.s .tuple (.v 4))) (.m .gt (.e (.v 4)) (.int 4))))) [.ret (.bl a9)] [],.f (.n 5) (.p (.v 3)) [.i (.or (.n (.s .tuple (.v 5))) (.or (.m .ne (.e (.v 5)) (.e (.v 3))) (.n (.all (.o ["_law_gap"] (.c 27 [.v 10,.int 1,.int 99]) [{.n 10,.p (.v 5),aT}]))))) [.ret (.bl a9)] []],.f (.n 5) (.p (.v 3)) [.f (.tup [.n 6,.n 7]) (.en (.v 5)) [.i (.m .ne (.o ["_law_b","_law_gap"] (.v 10) [{.tup [.n 10,.n 11],.en (.v 5),aD (.m .gt (.v 11) (.b .add (.v 7) (.x (.x (.v 3) (.v 6)) (.v 10))))}]) (.lst [])) [.ret (.bl a9)] []]],.a (.n 8) (.neg (.int 1)),.f (.n 9) (.p (.v 4)) [.i (.or (.n (.s .tuple (.v 9))) (.or (.m .ne (.e (.v 9)) (.int 2)) (.n (.all (.o ["_law_end"] (.c 27 [.v 10,.int 0,.int 9999]) [{.n 10,.p (.v 9),aT}]))))) [.ret (.bl a9)] [],.i (.or (.m .ge (.x (.v 9) (.int 0)) (.x (.v 9) (.int 1))) (.m .le (.x (.v 9) (.int 0)) (.v 8))) [.ret (.bl a9)] [],.a (.n 8) (.x (.v 9) (.int 1))],.ret (.bl a8)]
abbrev gu:List CS:=[.i (.or (.n (.s .tuple (.v 0))) (.or (.m .ne (.e (.v 0)) (.int 7)) (.n (.c 27 [.x (.v 0) (.int 0),.int 0,.b .sub (.e (.x (.v 1) (.int 2))) (.int 1)])))) [.ret (.bl a9)] [],.f (.n 2) (.p (.sl (.v 0) (aD (.int 1)) (aD (.int 5)))) [.i (.n (.c 27 [.v 2,.int 0,.int 9999])) [.ret (.bl a9)] []],.i (.or (.n (.c 27 [.x (.v 0) (.int 5),.int 0,.int 99])) (.n (.c 27 [.x (.v 0) (.int 6),.int 0,.x (.v 1) (.int 0)]))) [.ret (.bl a9)] [],.ret (.d (.m .ge (.x (.v 0) (.int 2)) (.b .add (.x (.v 0) (.int 1)) (.x (.v 1) (.int 1)))) (.m .ge (.x (.v 0) (.int 3)) (.x (.v 0) (.int 2))))]
abbrev dD:List CS:=[.i (.or (.n (.s .tuple (.v 0))) (.or (.m .ne (.e (.v 0)) (.int 4)) (.n (.c 35 [.x (.v 0) (.int 0)])))) [.ret (.bl a9)] [],.a (.tup [.n 1,.n 2,.n 3,.n 4]) (.v 0),.i (.m .t (.v 2) .non) [.i (.or (.n (.s .tuple (.v 2))) (.or (.m .ne (.e (.v 2)) (.int 2)) (.n (.c 27 [.x (.v 2) (.int 0),.int 0,.b .sub (.e (.x (.v 1) (.int 2))) (.int 1)])))) [.ret (.bl a9)] [],.i (.n (.c 27 [.x (.v 2) (.int 1),.int 0,.int 9999])) [.ret (.bl a9)] []] [],.i (.or (.n (.s .tuple (.v 3))) (.or (.m .gt (.e (.v 3)) (.int 7)) (.n (.s .tuple (.v 4))))) [.ret (.bl a9)] [],.f (.n 5) (.p (.v 3)) [.i (.n (.c 36 [.v 5,.v 1])) [.ret (.bl a9)] []],.f (.tup [.n 6,.n 7]) (.en (.v 4)) [.i (.or (.n (.c 27 [.v 7,.int 0,.b .sub (.e (.v 3)) (.int 1)])) (.m .s (.v 7) (.sl (.v 4) aT (aD (.v 6))))) [.ret (.bl a9)] []],.ret (.m .eq (.o ["_law_g","_law_glider_here"] (.v 8) [{.tup [.n 8,.n 9],.en (.v 3),aD (.d (.m .gt (.x (.v 9) (.int 6)) (.int 0)) (.m .o (.v 8) (.v 4)))}]) (.lst []))]
abbrev fZ:List CS:=[.a (.n 1) (.lst [.b .add (.b .add (.b .add (.str "meadow ") (.strI (.x (.x (.v 0) (.int 0)) (.int 0)))) (.str " ")) (.strI (.x (.x (.v 0) (.int 0)) (.int 1)))]),.a (.n 2) (.b .add (.o ["_law_row"] (.tup [.str "gaps",.v 8]) [{.n 8,.p (.x (.x (.v 0) (.int 0)) (.int 2)),aT}]) (.o ["_law_one"] (.tup [.str "shut",.v 8]) [{.n 8,.p (.x (.x (.v 0) (.int 0)) (.int 3)),aT}])),.i (.m .t (.x (.v 0) (.int 1)) .non) [.ex (.app (.v 2) (.tup [.str "ahead",.x (.v 0) (.int 1)]))] [],.a (.n 2) (.b .add (.v 2) (.o ["_law_glider_here"] (.tup [.str "glider",.v 8]) [{.n 8,.p (.x (.v 0) (.int 2)),aT}])),.i (.m .gt (.e (.x (.v 0) (.int 3))) (.int 0)) [.ex (.app (.v 2) (.tup [.str "fixed",.x (.v 0) (.int 3)]))] [],.f (.tup [.n 3,.n 4]) (.p (.v 2)) [.f (.n 5) (.p (.v 4)) [.a (.n 3) (.b .add (.b .add (.v 3) (.str " ")) (.strI (.v 5)))],.ex (.app (.v 1) (.v 3))],.a (.n 6) (.x (.v 1) (.int 0)),.f (.n 7) (.p (.sl (.v 1) (aD (.int 1)) aT)) [.a (.n 6) (.b .add (.b .add (.v 6) (.str "\n")) (.v 7))],.ret (.v 6)]
abbrev ek:List RS:=[.tr 18 [.v 0]]
abbrev j4:List CS:=[.i (.or (.m .eq (.v 0) (.str "")) (.or (.m .ne (.o ["_law_sign"] (.v 1) [{.n 1,.chr (.v 0),aD (.m .o (.v 1) (.str "0123456789"))}]) (.lst [])) (.d (.m .ne (.v 0) (.str "0")) (.m .eq (.x (.v 0) (.int 0)) (.str "0"))))) [.ret .non] [],.ret (.intX (.v 0))]
abbrev bX:List CS:=[.a (.n 1) (.lst []),.f (.n 2) (.p (.spl (.v 0) (.str "\n"))) [.a (.n 3) (.spl (.v 2) (.str " ")),.a (.n 4) (.o ["_law_word_here"] (.c 40 [.v 9]) [{.n 9,.p (.sl (.v 3) (aD (.int 1)) aT),aT}]),.i (.m .s .non (.v 4)) [.ret .non] [],.ex (.app (.v 1) (.tup [.x (.v 3) (.int 0),.t (.v 4)]))],.a (.n 5) .dic0,.f (.n 6) (.p (.lst [.str "meadow",.str "gaps",.str "shut",.str "ahead",.str "glider",.str "fixed"])) [.j (.t (.o ["_law_first","_law_numbers"] (.v 10) [{.tup [.n 9,.n 10],.p (.v 1),aD (.m .eq (.v 9) (.v 6))}])) (.v 5) (.v 6)],.i (.or (.m .ne (.e (.x (.v 5) (.str "meadow"))) (.int 1)) (.or (.m .gt (.e (.x (.v 5) (.str "ahead"))) (.int 1)) (.m .gt (.e (.x (.v 5) (.str "fixed"))) (.int 1)))) [.ret .non] [],.a (.n 7) (.b .add (.x (.x (.v 5) (.str "meadow")) (.int 0)) (.tup [.x (.v 5) (.str "gaps"),.x (.v 5) (.str "shut")])),.a (.n 8) (.tup [.v 7,.x (.b .add (.x (.v 5) (.str "ahead")) (.tup [.non])) (.int 0),.x (.v 5) (.str "glider"),.x (.b .add (.x (.v 5) (.str "fixed")) (.tup [.tup []])) (.int 0)]),.ret (.ite (.d (.c 37 [.v 8]) (.m .eq (.c 38 [.v 8]) (.v 0))) (.v 8) .non)]
abbrev cM:List CS:=[.a (.n 2) (.spl (.v 1) (.str "\n")),.a (.tup [.n 3,.n 4,.n 5]) (.tup [.c 25 [.v 0,.e (.v 2)],.c 25 [.v 0,.e (.v 2)],.c 25 [.v 0,.int 6]]),.a (.n 6) (.spl (.x (.v 2) (.v 3)) (.str " ")),.a (.n 7) (.c 25 [.v 0,.e (.v 6)]),.i (.m .eq (.v 5) (.int 0)) [.ex (.ins (.v 2) (.v 4) (.x (.v 2) (.v 3)))] [.i (.m .eq (.v 5) (.int 1)) [.ex (.q (.v 2) (.v 3))] [.i (.m .eq (.v 5) (.int 2)) [.swp (.tup [.x (.v 2) (.v 4),.x (.v 2) (.v 3)]) (.v 2) (.v 3) (.v 2) (.v 4)] [.i (.m .eq (.v 5) (.int 3)) [.ex (.ins (.v 6) (.v 7) (.x (.v 6) (.v 7)))] [.i (.m .eq (.v 5) (.int 4)) [.ex (.q (.v 6) (.v 7))] [.j (.x (.lst [.b .add (.str "0") (.x (.v 6) (.v 7)),.b .mul (.str "9") (.int 41),.b .mul (.str "9") (.int 40),.b .add (.str "-") (.x (.v 6) (.v 7))]) (.c 25 [.v 0,.int 4])) (.v 6) (.v 7)]]]]],.i (.m .gt (.v 5) (.int 2)) [.j (.join (.str " ") (.v 6)) (.v 2) (.v 3)] [],.ret (.join (.str "\n") (.v 2))]
abbrev eU:List CS:=[.a (.n 2) (.str " \t\n0123456789-+_,.:/ameglidrxuhsfp!#$&'()*;<=>?@AZ[]^`{|}~\"\\"),.a (.tup [.n 3,.n 4]) (.tup [.c 25 [.v 0,.b .add (.lenS (.v 1)) (.int 1)],.x (.v 2) (.c 25 [.v 0,.lenS (.v 2)])]),.a (.n 5) (.lst [.b .add (.b .add (.sl (.v 1) aT (aD (.v 3))) (.v 4)) (.sl (.v 1) (aD (.v 3)) aT),.b .add (.sl (.v 1) aT (aD (.v 3))) (.sl (.v 1) (aD (.b .add (.v 3) (.int 1))) aT),.b .add (.b .add (.sl (.v 1) aT (aD (.v 3))) (.v 4)) (.sl (.v 1) (aD (.b .add (.v 3) (.int 1))) aT)]),.ret (.x (.v 5) (.c 25 [.v 0,.int 3]))]
abbrev Lx:List CS:=[.f (.n 1) (.r1 (.mx (.int 1) (.mn (.e (.v 0)) (.int 8)))) [.a (.n 2) (.c 24 [.c 23 [.v 0,.v 1]]),.a (.n 3) (.c 33 [.v 2,.int 7]),.a (.n 4) (.c 38 [.v 3]),.rp 5 4 "\n" [.b .add (.str "\n") (.v 4),.b .add (.v 4) (.str " "),.b .add (.str "\t") (.v 4),.str ""] " " "\t" "  ",.f (.n 6) (.r1 (.int 14)) [.a (.n 7) (.v 4),.f (.n 8) (.r1 (.b .add (.int 1) (.b .fdiv (.c 25 [.v 2,.int 3]) (.int 2)))) [.a (.n 7) (.cal2 42 43 (.c 25 [.v 2,.int 2]) [.v 2,.v 7])],.ex (.app (.v 5) (.v 7))],.f (.n 7) (.p (.b .add (.v 5) (.lst [.v 4]))) [.a (.n 9) (.c 41 [.v 7]),.i (.m .is (.v 9) .non) [.a (.n 9) (.str "text")] [],.i (.or (.m .ne (.rep (.c 39 [.v 7])) (.rep (.v 9))) (.m .ne (.rep (.c 39 [.v 4])) (.rep (.v 3)))) [.ret (.bl a9)] []],.f (.n 10) (.p (.lst [.non,.bl a8,.int 3,.lst [.v 4],.tup [.v 4],.dic1 0 4,.lst [],.v 3])) [.i (.m .ne (.c 39 [.v 10]) (.str "text")) [.ret (.bl a9)] []]],.ret (.bl a8)]
abbrev jk:DefE:={"is_whole",top 21,["thing"],1,oM,aT}
abbrev gW:DefE:={"is_within",top 22,["thing","least","most"],3,lH,aT}
abbrev gX:DefE:={"is_minute",top 23,["thing"],1,lI,aT}
abbrev jl:DefE:={"is_tuple",top 24,["thing","least","most"],3,oO,aT}
abbrev f8:DefE:={"are_unlike",top 25,["thing","many"],2,jU,aT}
abbrev gY:DefE:={"number_in",top 26,["word"],1,lJ,aT}
abbrev gZ:DefE:={"is_meadow",top 33,["thing","rings","sink","gaps","shuts"],1,lK,aT}
abbrev jm:DefE:={"are_gaps",top 34,["thing"],1,oP,aT}
abbrev f9:DefE:={"is_gap_row",top 35,["thing","many"],2,jV,aT}
abbrev bw:DefE:={"no_glider_between_helps",top 36,["gaps","kinds"],1,cg,aT}
abbrev g8:DefE:={"are_shuts",top 37,["thing"],1,lL,aT}
abbrev gb:DefE:={"is_stretch",top 38,["thing"],1,jW,aT}
abbrev kL:DefE:={"is_kind",top 39,["meadow","thing"],2,qJ,aT}
abbrev oV:DefE:={"is_sky",top 43,["thing","meadow","ahead","gliders","fixed"],1,vA,aT}
abbrev jn:DefE:={"is_ahead",top 44,["meadow","thing"],2,oQ,aT}
abbrev e9:DefE:={"are_gliders",top 45,["meadow","thing"],2,iZ,aT}
abbrev g9:DefE:={"is_glider",top 46,["meadow","thing","kind","joins","first","last","due","weight","ring"],2,lN,aT}
abbrev hJ:DefE:={"are_fixed",top 47,["gliders","thing"],2,lP,aT}
abbrev yd:DefE:={"read",top 50,["text","sky"],1,[],aD oT}
abbrev kM:DefE:={"text_of",top 51,["sky","rings","sink","gaps","shuts","ahead","gliders","fixed","rows"],1,kK,aT}
abbrev oW:DefE:={"row_of",top 52,["word","numbers"],2,vB,aT}
abbrev oX:DefE:={"sky_in",top 53,["text","found","row","word","figures","meadow"],1,jX,aT}
abbrev hU:DefE:={"first_row",top 54,["rows","otherwise"],2,lQ,aT}
abbrev fc:DefE:={"_law_cell_at",top 56,["_law_script","_law_k"],2,i4,aT}
abbrev kN:DefE:={"_law_pot",top 57,["_law_cell","_law_number_here","_law_j","_law_more"],1,qK,aT}
abbrev jo:DefE:={"_law_take",top 58,["_law_pot_here","_law_far","_law_found"],2,oU,aT}
abbrev hV:DefE:={"_law_whole",top 59,["_law_thing"],1,lR,aT}
abbrev gc:DefE:={"_law_within",top 60,["_law_thing","_law_low","_law_high"],3,jY,aT}
abbrev jp:DefE:={"_law_gaps",top 61,["_law_pot_here","_law_many","_law_rows","_law_c"],1,dZ,aT}
abbrev hY:DefE:={"_law_shuts",top 62,["_law_pot_here","_law_now","_law_found","_law_begin","_law_turn"],2,lU,aT}
abbrev gf:DefE:={"_law_meadow",top 63,["_law_pot_here","_law_rings"],1,jZ,aT}
abbrev gg:DefE:={"_law_glider",top 64,["_law_pot_here","_law_meadow_here","_law_joins","_law_first","_law_last","_law_due"],2,j3,aT}
abbrev hZ:DefE:={"_law_mixed",top 65,["_law_pot_here","_law_some","_law_left"],2,lV,aT}
abbrev kO:DefE:={"_law_sky",top 66,["_law_pot_here","_law_most","_law_meadow_here","_law_gliders","_law_numbers","_law_fixed","_law_g","_law_ahead"],2,iJ,aT}
abbrev ye:DefE:={"_law_word",top 67,["_law_e","_law_some","_law_words"],1,yc,aT}
abbrev c9:DefE:={"_law_is_meadow",top 68,["_law_thing","_law_rings","_law_sink","_law_gaps_here","_law_shuts_here","_law_row","_law_c","_law_first","_law_behind","_law_one"],1,gr,aT}
abbrev dh:DefE:={"_law_is_glider",top 69,["_law_thing","_law_meadow_here","_law_minute"],2,gu,aT}
abbrev gh:DefE:={"_law_is_sky",top 70,["_law_thing","_law_meadow_here","_law_ahead","_law_gliders","_law_fixed","_law_glider_here","_law_k","_law_g"],1,dD,aT}
abbrev jq:DefE:={"_law_text",top 71,["_law_sky_here","_law_rows","_law_some","_law_word_here","_law_numbers","_law_number_here","_law_text_here","_law_row"],1,fZ,aT}
abbrev jr:DefE:={"_law_told",top 72,["_law_text_here","_law_e"],1,[],aD ek}
abbrev gi:DefE:={"_law_number",top 73,["_law_word_here"],1,j4,aT}
abbrev ia:DefE:={"_law_reads",top 74,["_law_text_here","_law_rows","_law_row","_law_words","_law_numbers","_law_parts","_law_word_here","_law_meadow_here","_law_sky_here"],1,bX,aT}
abbrev cN:DefE:={"_law_row_turned",top 75,["_law_pot_here","_law_text_here","_law_rows","_law_at","_law_other","_law_way","_law_words","_law_spot"],2,cM,aT}
abbrev cE:DefE:={"_law_sign_turned",top 76,["_law_pot_here","_law_text_here","_law_signs","_law_at","_law_sign","_law_some"],2,eU,aT}
abbrev zW:DefE:={"law",top 77,["_law_script","_law_k","_law_pot_here","_law_sky_here","_law_text_here","_law_texts","_law_turn","_law_some","_law_lap","_law_due","_law_thing"],1,Lx,aT}
abbrev ae:List DefE:=[jk,gW,gX,jl,f8,gY,gZ,jm,f9,bw,g8,gb,kL,oV,jn,e9,g9,hJ,yd,kM,oW,oX,hU,fc,kN,jo,hV,gc,jp,hY,gf,gg,hZ,kO,ye,c9,dh,gh,jq,jr,gi,ia,cN,cE,zW]
def chk:ae.all (Fb (qF con ae))=a8:=by kernel_rfl
def Vd:ae.any zQ=a8:=by kernel_rfl
def us1:∀ {u:List Value},u.length=1->∃b,u=[b]
 |[b],_=>⟨b,rfl⟩
def us2:∀ {u:List Value},u.length=2->∃b c,u=[b,c]
 |[b,c],_=>⟨b,c,rfl⟩
def us3:∀ {u:List Value},u.length=3->∃b f c,u=[b,f,c]
 |[b,f,c],_=>⟨b,f,c,rfl⟩
def bind:BZ ae:=by
 repeat' apply And.intro
 all_goals first |trivial |(intro _ _ _ _ _ _ u h;first |(let{_,rfl}:=us1 h;rfl) |(let{_,_,rfl}:=us2 h;rfl) |(let{_,_,_,rfl}:=us3 h;rfl))
end Lw
section
open PySem PySem.W PyProof.Rows
def Lw.eqs(h:Heap):Ev.BX Lw.con Lw.ae h=(h.isNs ZaF,(Lw.nx.take 30).map (λx=>Ev.vZ h (.ofString x.1))++(Lw.nx.drop 30).map (λx=>Ev.vZ h (.ofString x.1)),Lw.con.map (λc=>Ev.G0 h c.1),(Ev.gy.map λx=>(h.nsMap ZaF x).isNone),Ev.Ct h):=by kernel_rfl
def Lw.eqv:Ev.vo Lw.con Lw.ae=(a8,Lw.vb (Lw.nx.take 30)++Lw.vb (Lw.nx.drop 30),Lw.con.map (λc=>aD c.2),(Ev.gy.map λ_=>a8),a8):=by kernel_rfl
def Lw.partC:Cut.PartC PySem.Challenge.rw_downrings_k72_texts_bent_anywhere.row.toRowW.prog (Hook.obs (Ev.kJ Lw.con Lw.ae Lw.bind)) (Hook.val (Ev.kJ Lw.con Lw.ae Lw.bind)):=λw=>by
 let z:=Cut.two (λa (b:Ev.vn)=>((b.1,a++b.2.1,b.2.2):Ev.vn)) Lw.L5 Lw.L6 w;show WJ (λs=>Ev.BX Lw.con Lw.ae s.heap) (Cut.fin _ w)=aD (Ev.vo Lw.con Lw.ae);rw[Lw.eqv,show(λs:Shared=>Ev.BX Lw.con Lw.ae s.heap)=_ from funext λs=>Lw.eqs s.heap];exact z
set_option maxHeartbeats 0 in
def Lw.head(h:∀ns:List Int,ns.length<=63->∃b,Ev.evC Lw.ae 40 44 [.ref 0] [.frz (ns.map Ev.D.int)]=aD (.bl a8,b)):PySem.Challenge.rw_downrings_k72_texts_bent_anywhere.Holds:=by
 w_on;refine holds_law Lw.said λsaid=>?_
 refine holds_open (q:=Lw.view) (loose:=Lw.loose) (Xt:=(λs=>xlAt Lw.view [] s && recOk (RowW.records PySem.Challenge.rw_downrings_k72_texts_bent_anywhere.row.toRowW) s)) (XP:=XL Lw.view []) (Yf:=(Hook.obs (Ev.kJ Lw.con Lw.ae Lw.bind))) (Ya:=(Hook.val (Ev.kJ Lw.con Lw.ae Lw.bind))) (YP:=Hook.says (Ev.kJ Lw.con Lw.ae Lw.bind)) (N:=20000) ?hl (Hook.of _) (Hook.keeps _) (λs e=>xl_of s (XW.mp e).1) XL.keeps (by rfl) (by rfl) (by rfl) (λs e=>recFacts_of (XW.mp e).2) (by rfl) (by first |assumption |decide +kernel) (by decide +kernel) {rfl,rfl,rfl,rfl,rfl,by decide +kernel} ?hw ?hc
 case hw=>w_witness2
 case hl=>exact Cut.left_cut Lw.opn Lw.partA Lw.partB Lw.partC
 case hc=>exact Ev.IV (l:=PySem.Challenge.rw_downrings_k72_texts_bent_anywhere) (n:=63) (k:=40) (i:=44) (dl:=Lw.zW) rfl (by decide) rfl {rfl,by decide,by decide,rfl} rfl rfl rfl Lw.chk Lw.Vd h
end
namespace Ev
open PySem PySem.Spec PyProof.Rows L2
abbrev Ok{b:Type}(x:Option (b×Sto))(Q:b->Sto->Prop):Prop:=∃a S,x=aD (a,S)/\Q a S
abbrev OkS(x:Option (Fl×Rho×Sto))(Q:Fl->Rho->Sto->Prop):Prop:=∃f b S,x=aD (f,b,S)/\Q f b S
section
variable {g j:Type} {S s:Sto} {ρ l:Rho}
def af{a:g}:Ok (aD (a,S)) Q=Q a S:=by
 apply propext;exact{λ⟨_,_,e,q⟩=>by cases e;exact q,λq=>⟨a,S,rfl,q⟩}
def bj:Ok aT Q=False:=propext {λ⟨_,_,e,_⟩=>(nomatch e),λh=>h.elim}
def bZ:Ok (bnd x f) Q=Ok x λa S=>Ok (f a S) Q:=by
 apply propext;constructor
 .rintro⟨b,s,e,q⟩;let{a,S,E,c}:=ac e;exact⟨a,S,E,b,s,c,q⟩
 .rintro⟨a,S,E,b,s,c,q⟩;exact⟨b,s,by rw[E];exact c,q⟩
def eu{c:Prop}[Decidable c]:Ok (if c then x else y) Q=if c then Ok x Q else Ok y Q:=by split <;> rfl
def Om{x:Option j}{f:j->g×Sto}{Q:g->Sto->Prop}:Ok (x.map f) Q=∃b,x=aD b/\Q (f b).1 (f b).2:=by
 apply propext;cases x with
 |none=>exact{λ⟨_,_,e,_⟩=>(nomatch e),λ⟨_,e,_⟩=>(nomatch e)}
 |some b=>exact{λ⟨a,S,e,q⟩=>{b,rfl,by let E:=θ e;rw[E];exact q},λ⟨B,e,q⟩=>by cases e;exact⟨_,_,rfl,q⟩}
def Ok.mono(h:Ok x Q)(f:∀a S,Q a S->Q' a S):Ok x Q':=let ⟨a,S,e,q⟩:=h;{a,S,e,f a S q}
def OkS.mono(h:OkS x Q)(f:∀a ρ S,Q a ρ S->Q' a ρ S):OkS x Q':=let ⟨a,ρ,S,e,q⟩:=h;{a,ρ,S,e,f a ρ S q}
def Ta:OkS (aD (f,ρ,S)) Q=Q f ρ S:=propext {λ⟨_,_,_,e,q⟩=>by cases e;exact q,λq=>⟨f,ρ,S,rfl,q⟩}
abbrev nxt(y:XS)(Q:Fl->Rho->Sto->Prop)(f:Fl)(ρ:Rho)(S:Sto):Prop:=match f with
 |.nx=>OkS (y ρ S) Q
 |f=>Q f ρ S
def IW:OkS (fD x y ρ S) Q=OkS (x ρ S) (nxt y Q):=by
 apply propext;delta fD;constructor
 .rintro⟨f,b,c,e,q⟩;split at e
  .cases e
  .rename_i o p h;exact⟨_,_,_,h,f,b,c,e,q⟩
  .rename_i r n h;cases e;cases f with
   |nx=>exact absurd rfl (n b c)
   |_=>exact⟨_,_,_,h,q⟩
 .rintro⟨f,b,c,e,q⟩;rw[e];cases f with
  |nx=>exact q
  |_=>exact⟨_,_,_,rfl,q⟩
def Oo:OkS (xIf c x y ρ S) Q=Ok (c ρ S) λb o=>if b=a8 then OkS (x ρ o) Q else OkS (y ρ o) Q:=by
 apply propext;delta xIf;constructor
 .rintro⟨f,p,o,e,q⟩;cases h:c ρ S with
  |none=>rw[h]at e;cases e
  |some r=>
   let{b,u}:=r;rw[h]at e;calc{b,u,rfl,?_};dsimp! at e ⊢;split
   .rename_i H;rw[if_pos H]at e;exact⟨f,p,o,e,q⟩
   .rename_i H;rw[if_neg H]at e;exact⟨f,p,o,e,q⟩
 .rintro⟨b,u,e,q⟩;rw[e];dsimp!;split
  .rename_i H;rw[if_pos H]at q;exact q
  .rename_i H;rw[if_neg H]at q;exact q
def IX:OkS (fT x t ρ S) Q=Ok (x ρ S) λd S1=>∃b,aE t d ρ=aD b/\Q .nx b S1:=by
 apply propext;delta fT;constructor
 .rintro⟨f,b,S1,e,q⟩;cases h:x ρ S with
  |none=>rw[h]at e;cases e
  |some r=>
   let{d,c}:=r;rw[h]at e;dsimp! at e;cases H:aE t d ρ with
   |none=>rw[H]at e;cases e
   |some o=>rw[H]at e;cases e;exact⟨d,_,rfl,b,H,q⟩
 .rintro⟨d,c,e,b,E,q⟩;rw[e];dsimp!;rw[E];exact⟨_,_,_,rfl,q⟩
def Fk:OkS (uH x ρ S) Q=Ok (x ρ S) λ_ S1=>Q .nx ρ S1:=by
 apply propext;delta uH;constructor
 .rintro⟨f,b,S1,e,q⟩;cases h:x ρ S with
  |none=>rw[h]at e;cases e
  |some r=>rw[h]at e;cases e;exact⟨_,_,rfl,q⟩
 .rintro⟨d,c,e,q⟩;rw[e];exact⟨_,_,_,rfl,q⟩
def IY:OkS (D0 x ρ S) Q=Ok (x ρ S) λd S1=>Q (.rt d) ρ S1:=by
 apply propext;delta D0;constructor
 .rintro⟨f,b,S1,e,q⟩;cases h:x ρ S with
  |none=>rw[h]at e;cases e
  |some r=>rw[h]at e;cases e;exact⟨_,_,rfl,q⟩
 .rintro⟨d,c,e,q⟩;rw[e];exact⟨_,_,_,rfl,q⟩
def Fm:OkS (uI v o i ρ S) Q=Ok (v ρ S) λa p=>Ok (o ρ p) λb z=>Ok (i ρ z) λc C=>∃S4,fC b c a C=aD S4/\Q .nx ρ S4:=by
 apply propext;delta uI;constructor
 .rintro⟨f,J,p,e,q⟩;cases h:v ρ S with
  |none=>rw[h]at e;cases e
  |some r=>
   rw[h]at e;dsimp! at e;cases H:o ρ r.2 with
   |none=>rw[H]at e;cases e
   |some r2=>
    rw[H]at e;dsimp! at e;cases y:i ρ r2.2 with
    |none=>rw[y]at e;cases e
    |some B=>
     rw[y]at e;dsimp! at e;cases u:fC r2.1 B.1 r.1 B.2 with
     |none=>rw[u]at e;cases e
     |some S4=>rw[u]at e;cases e;exact⟨_,_,rfl,_,_,H,_,_,y,_,u,q⟩
 .rintro⟨a,p,E,b,z,M,c,C,L,S4,I,q⟩;rw[E];dsimp!;rw[M];dsimp!;rw[L];dsimp!;rw[I];exact⟨_,_,_,rfl,q⟩
def IZ{k:Nat}:OkS (D3 I T b k ρ S) Q=Ok (I ρ S) λnx c=>OkS (c8 nx T b k 0 ρ c) Q:=by
 apply propext;delta D3;constructor
 .rintro⟨f,o,c,e,q⟩;cases h:I ρ S with
  |none=>rw[h]at e;cases e
  |some r=>rw[h]at e;exact⟨_,_,rfl,_,_,_,e,q⟩
 .rintro⟨d,p,e,q⟩;rw[e];exact q
abbrev out(Q:D->Sto->Prop)(f:Fl)(_:Rho)(S:Sto):Prop:=match f with
 |.rt v=>Q v S
 |.nx=>Q .non S
 |_=>False
def Op:out Q (.rt d) ρ S=Q d S:=rfl
def Oq:out Q .nx ρ S=Q .non S:=rfl
def aV{k f:Nat}(hd:ae[f]?=aD d)(H:ds.map aD++Zr (d.N.length - ds.length) aT=ρ)(h:OkS (eY (evC ae k) (cz ae) 60 d.body ρ S) (out Q))(o:d.rb=aT:=by rfl):Ok (evC ae (k+1) f ds S) Q:=by
 subst H;let{c,b,p,e,q}:=h;let e:eY (toC (evX ae k)) (cz ae) FU d.body _ S=aD (c,b,p):=e;let z:evX ae (k+1) f ds S=(IQ (toC (evX ae k)) (cz ae) d ds S).map λr=>(.p r.1,r.2):=by simp![evX,hd,o]
 delta evC toC;rw[z];delta IQ;rw[e];cases c with
 |rt v=>exact⟨_,_,rfl,q⟩
 |nx=>exact⟨_,_,rfl,q⟩
 |bk=>exact q.elim
 |ct=>exact q.elim
def qL{N:Nat}(I:Nat->List D->Sto->Prop)
  (step:∀i b S,i < N->I i b S->∃d f,nx i S=aD (aD d)/\aE T d ρ=aD f/\Ok (c f S) λE o=>I (i+1) (b++E) o) (stop:∀b S,I N b S->nx N S=aD aT) :
  ∀ (n i k:Nat) (b:List D) (S:Sto),N=i+n->n < k->I i b S->Ok (bo nx T c ρ k i S) λE s=>I N (b++E) s
 |0,i,k+1,b,S,hN,hk,h=>by
  obtain rfl:N=i:=by lia
  simp![bo,stop b S h];exact{_,_,rfl,by show I _ (b++[]) S;rw[ZN];exact h}
 |n+1,i,k+1,b,S,hN,hk,h=>by
  let{d,f,u,z,E,o,y,H}:=step i b S (by lia) h;simp![bo,u,z,y,bnd];let{rs,p,v,q}:=qL I step stop n (i+1) k (b++E) o (by lia) (by lia) H;simp![v];exact{_,_,rfl,by show I _ (b++(E++rs)) p;rw[<-ZK];exact q}
def cX{k:Nat}(N:Nat)(I:Nat->List D->Sto->Prop)(H:N < k)
  (step:∀i b S,i < N->I i b S->∃d f,nx i S=aD (aD d)/\aE T d ρ=aD f/\Ok (c f S) λE o=>I (i+1) (b++E) o) (stop:∀b S,I N b S->nx N S=aD aT) (h:I 0 [] S) :
  Ok (bo nx T c ρ k 0 S) (I N):=(qL I step stop N 0 k [] S (by lia) H h).mono λE s z=>by rw[Yb]at z;exact z
def oY{N:Nat}(I:Nat->Rho->Sto->Prop)
  (step:∀i ρ S,i < N->I i ρ S->∃d o,nx i S=aD (aD d)/\aE T d ρ=aD o/\OkS (b o S) λp c f=>match p with |.nx=>I (i+1) c f |.ct=>I (i+1) c f |.bk=>Q .nx c f |.rt d=>Q (.rt d) c f)
  (stop:∀ρ S,I N ρ S->nx N S=aD aT/\Q .nx ρ S) :
  ∀ (n i k:Nat) (ρ:Rho) (S:Sto),N=i+n->n < k->I i ρ S->OkS (c8 nx T b k i ρ S) Q
 |0,i,k+1,ρ,S,hN,hk,h=>by
  obtain rfl:N=i:=by lia
  simp![c8,(stop ρ S h).1];exact{_,_,_,rfl,(stop ρ S h).2}
 |n+1,i,k+1,ρ,S,hN,hk,h=>by
  let{d,o,E,u,p,c,f,q,H}:=step i ρ S (by lia) h;simp![c8,E,u,q];cases p with
  |nx=>exact oY I step stop n (i+1) k c f (by lia) (by lia) H
  |ct=>exact oY I step stop n (i+1) k c f (by lia) (by lia) H
  |bk=>exact⟨_,_,_,rfl,H⟩
  |rt d=>exact⟨_,_,_,rfl,H⟩
def cQ{k:Nat}(N:Nat)(I:Nat->Rho->Sto->Prop)(H:N < k)
  (step:∀i ρ S,i < N->I i ρ S->∃d f,nx i S=aD (aD d)/\aE T d ρ=aD f/\OkS (b f S) λp c o=>match p with |.nx=>I (i+1) c o |.ct=>I (i+1) c o |.bk=>Q .nx c o |.rt d=>Q (.rt d) c o)
  (stop:∀ρ S,I N ρ S->nx N S=aD aT/\Q .nx ρ S) (h:I 0 ρ S):OkS (c8 nx T b k 0 ρ S) Q:=oY I step stop N 0 k ρ S (by lia) H h
end
mutual
noncomputable def TD(p:Nat)(S:Sto):Dw.D->D->Prop
 |.non,d=>d = .non
 |.bl b,d=>d = .bl b
 |.int i,d=>d = .int i
 |.str x,d=>d = .str x
 |.tup ts,d=>∃c,d = .tup c/\TDs p S ts c
 |.lst ts,d=>∃n c,d = .ref n/\n≠p/\S[n]?=aD (.lst c)/\TDs p S ts c
 |.dic ks ts,d=>∃n c,d = .ref n/\n≠p/\S[n]?=aD (.dic ks c)/\TDs p S ts c
noncomputable def TDs(p:Nat)(S:Sto):List Dw.D->List D->Prop
 |[],ds=>ds=[]
 |t::ts,ds=>∃d r,ds=d::r/\TD p S t d/\TDs p S ts r
end
abbrev Kp(p:Nat)(S b:Sto):Prop:=∀i o,i≠p->S[i]?=aD o->b[i]?=aD o
abbrev Sm(S b:Sto):Prop:=∀ (i:Nat) (o:Ob),S[i]?=aD o->b[i]?=aD o
def Sm.kp{p:Nat}(h:Sm S S'):Kp p S S':=λi o _ e=>h i o e
def Sm.refl(S:Sto):Sm S S:=λ_ _ e=>e
def Sm.trans(a:Sm S c)(b:Sm c S2):Sm S S2:=λi o e=>b i o (a i o e)
def Sm.app(S X:Sto):Sm S (S++X):=λi o e=>by
 let h:=(Zb.mp e).1;rw[Zz h];exact e
def Kp.refl(p:Nat)(S:Sto):Kp p S S:=λ_ _ _ e=>e
def Kp.trans{p:Nat}(a:Kp p S c)(b:Kp p c S2):Kp p S S2:=λi o n e=>b i o n (a i o n e)
mutual
theorem TD.keep{p:Nat}(k:Kp p S c):∀ {t:Dw.D} {d:D},TD p S t d->TD p c t d
 |.non,_,h=>by rw[TD]at h ⊢;exact h
 |.bl _,_,h=>by rw[TD]at h ⊢;exact h
 |.int _,_,h=>by rw[TD]at h ⊢;exact h
 |.str _,_,h=>by rw[TD]at h ⊢;exact h
 |.tup ts,_,h=>by rw[TD]at h ⊢;let{b,e,q}:=h;exact{b,e,TDs.keep k q}
 |.lst ts,_,h=>by rw[TD]at h ⊢;let{n,b,e,ne,a,q}:=h;exact{n,b,e,ne,k _ _ ne a,TDs.keep k q}
 |.dic ks ts,_,h=>by rw[TD]at h ⊢;let{n,b,e,ne,a,q}:=h;exact{n,b,e,ne,k _ _ ne a,TDs.keep k q}
theorem TDs.keep{p:Nat}(k:Kp p S b):∀ {T:List Dw.D} {ds:List D},TDs p S T ds->TDs p b T ds
 |[],_,h=>by rw[TDs]at h ⊢;exact h
 |t::T,_,h=>by rw[TDs]at h ⊢;let{d,r,e,a,q}:=h;exact{d,r,e,TD.keep k a,TDs.keep k q}
end
section
variable {p:Nat} {S s:Sto}
def oZ:TD p S .non .non:=by rw[TD]
def dn{i:Int}:TD p S (.int i) (.int i):=by rw[TD]
def td_tup(h:TDs p S T ds):TD p S (.tup T) (.tup ds):=by rw[TD];exact⟨ds,rfl,h⟩
def bA:TDs p S [] []:=by rw[TDs]
def ax(h:TD p S t d)(q:TDs p S T ds):TDs p S (t::T) (d::ds):=by rw[TDs];exact⟨d,ds,rfl,h,q⟩
def TD.non(h:TD p S .non d):d = .non:=by rw[TD]at h;exact h
def TD.bl(h:TD p S (.bl b) d):d = .bl b:=by rw[TD]at h;exact h
def TD.int{i:Int}(h:TD p S (.int i) d):d = .int i:=by rw[TD]at h;exact h
def TD.str(h:TD p S (.str x) d):d = .str x:=by rw[TD]at h;exact h
def TD.tup(h:TD p S (.tup T) d):∃ds,d = .tup ds/\TDs p S T ds:=by rw[TD]at h;exact h
def TDs.cons(h:TDs p S (t::T) ds):∃d r,ds=d::r/\TD p S t d/\TDs p S T r:=by rw[TDs]at h;exact h
def TDs.nil(h:TDs p S [] ds):ds=[]:=by rw[TDs]at h;exact h
def TDs.len:∀ {T:List Dw.D} {ds:List D},TDs p S T ds->ds.length=T.length
 |[],_,h=>by rw[h.nil];rfl
 |t::T,_,h=>by let{d,r,rfl,_,q}:=h.cons;simp[q.len]
def TDs.get:∀ {T:List Dw.D} {ds:List D} {i:Nat} {t:Dw.D},TDs p S T ds->T[i]?=aD t->∃d,ds[i]?=aD d/\TD p S t d
 |[],_,_,_,_,e=>by simp at e
 |t::T,_,0,_,h,e=>by let{d,r,rfl,a,q}:=h.cons;simp at e;subst e;exact⟨d,rfl,a⟩
 |t::T,_,i+1,_,h,e=>by let{d,r,rfl,a,q}:=h.cons;simp at e;let{x,H,y}:=q.get e;exact{x,by simpa using H,y}
def TDs.drop:∀ {T:List Dw.D} {ds:List D} (n:Nat),TDs p S T ds->TDs p S (T.drop n) (ds.drop n)
 |[],_,n,h=>by rw[h.nil];simp[bA]
 |t::T,_,0,h=>by simpa using h
 |t::T,_,n+1,h=>by let{d,r,rfl,a,z}:=h.cons;simpa using z.drop n
def TDs.take:∀ {T:List Dw.D} {ds:List D} (n:Nat),TDs p S T ds->TDs p S (T.take n) (ds.take n)
 |[],_,n,h=>by rw[h.nil];simp[bA]
 |t::T,_,0,h=>by simp[bA]
 |t::T,_,n+1,h=>by let{d,r,rfl,a,z}:=h.cons;simpa using ax a (z.take n)
def TDs.cut(lo H:Option Int)(h:TDs p S T ds):TDs p S (Dw.eX T lo H) (eX ds lo H):=by
 delta Dw.eX eX;rw[h.len];exact(h.drop _).take _
abbrev tyT:Dw.D->String
 |.non => "NoneType" |.bl _ => "bool" |.int _ => "int" |.str _ => "str" |.tup _ => "tuple" |.lst _ => "list" |.dic _ _ => "dict"
def Tb(h:TD p S t d):tyN d S=aD (tyT t):=by
 cases t with
 |non=>rw[h.non];rfl
 |bl _=>rw[h.bl];rfl
 |int _=>rw[h.int];rfl
 |str _=>rw[h.str];rfl
 |tup _=>let{_,rfl,_}:=h.tup;rfl
 |lst _=>rw[TD]at h;let{n,b,rfl,_,e,_}:=h;simp![tyN,e];rfl
 |dic _ _=>rw[TD]at h;let{n,b,rfl,_,e,_}:=h;simp![tyN,e];rfl
def iK(h:TD p S t d):dS ty d S=aD (.bl (gI ty (tyT t)),S):=by
 delta dS;rw[Tb h];rfl
end
def Ja{n:Nat}:Ok (lB g n x c S) Q=Ok (x c S) λds b=>ds.length=n/\Ok (g ds b) Q:=by
 delta lB;rw[bZ]
 congr 1
 funext ds b
 rw[eu,bj];apply propext;split
 .rename_i h;exact{λz=>⟨h,z⟩,λz=>z.2}
 .rename_i h;exact{λz=>z.elim,λz=>(h z.1).elim}
def Ot:Ok (D9 x y c S) Q=Ok (x c S) λd S1=>∃b,d = .bl b/\if b=a8 then Ok (y c S1) Q else Q (.bl a9) S1:=by
 delta D9;rw[bZ]
 congr 1
 funext d S1
 apply propext;cases d with
 |bl b=>cases b <;> simp[af]
 |_=>simp[bj]
def Tc:Ok (xOr x y f S) Q=Ok (x f S) λd c=>∃b,d = .bl b/\if b=a8 then Q (.bl a8) c else Ok (y f c) Q:=by
 delta xOr;rw[bZ]
 congr 1
 funext d c
 apply propext;cases d with
 |bl b=>cases b <;> simp[af]
 |_=>simp[bj]
def Ou:Ok (BD d S) Q=∃b,d = .bl b/\Q (.bl (!b)) S:=by
 apply propext;cases d with
 |bl b=>simp[BD,af]
 |_=>simp[BD,bj]
def Ov:Ok (BE f g x y z h S) Q=Ok (x h S) λa o=>Ok (y h o) λb j=>Ok (f a b j) λr S3=>∃c,r = .bl c/\if c=a8 then Ok (z h S3) λe p=>Ok (g b e p) Q else Q (.bl a9) S3:=by
 delta BE;rw[bZ]
 congr 1
 funext a o
 rw[bZ]
 congr 1
 funext b j
 rw[bZ]
 congr 1
 funext r S3
 apply propext;cases r with
 |bl c=>cases c <;> simp[af,bZ]
 |_=>simp[bj]
def Ow{i:Nat}:Ok (bn i b S) Q=∃d,b[i]?=aD (aD d)/\Q d S:=by
 apply propext;delta bn;cases h:b[i]? with
 |none=>simp[bj]
 |some o=>cases o with
  |none=>simp[bj]
  |some d=>simp[af]
def Td{i j:Int}:Ok (ay .le (.int i) (.int j) S) Q=Q (.bl (decide (i<=j))) S:=af
def Te{i j:Int}:Ok (ay .lt (.int i) (.int j) S) Q=Q (.bl (decide (i < j))) S:=af
def Tf{i j:Int}:Ok (ay .gt (.int i) (.int j) S) Q=Q (.bl (decide (j < i))) S:=af
def Th{i j:Int}:Ok (ay .ge (.int i) (.int j) S) Q=Q (.bl (decide (j<=i))) S:=af
def Ox{i j:Int}:Ok (bv .add (.int i) (.int j) S) Q=Q (.int (i+j)) S:=af
def Oy{i j:Int}:Ok (bv .sub (.int i) (.int j) S) Q=Q (.int (i - j)) S:=af
def Ti:Ok (xB x c S) Q=Ok (x c S) λd S1=>∃b,d = .bl b/\Q b S1:=by
 delta xB;rw[bZ]
 congr 1
 funext d S1
 apply propext;cases d with
 |bl b=>simp[af]
 |_=>simp[bj]
def Jb{own k:Nat}:Ok (og own I T c k b S) Q=Ok (I b S) λnx f=>eM T (b++Zr own aT)=a8/\Ok (bo nx T c (b++Zr own aT) k 0 f) λE S2=>E.length<=100000/\Q E S2:=by
 delta og;rw[bZ]
 congr 1
 funext nx f
 rw[eu,bj];apply propext
 let e:Ok (bnd (bo nx T c (b++Zr own aT) k 0 f) λE S2=>if E.length<=100000 then aD (E,S2) else aT) Q=Ok (bo nx T c (b++Zr own aT) k 0 f) λE S2=>E.length<=100000/\Q E S2:=by
  rw[bZ]
  congr 1
  funext E S2
  rw[eu,bj,af];apply propext;split
  .rename_i h;exact{λz=>⟨h,z⟩,λz=>z.2}
  .rename_i h;exact{λz=>z.elim,λz=>(h z.1).elim}
 rw[e];split
 .rename_i h;exact{λz=>⟨h,z⟩,λz=>z.2}
 .rename_i h;exact{λz=>z.elim,λz=>(h z.1).elim}
def Fn{k:Nat}:Ok (kA I T c k b S) Q=(eM T b=a8/\Ok (I b S) λnx f=>Ok (bo nx T c b k 0 f) Q):=by
 delta kA;rw[eu,bj,bZ];apply propext;split
 .rename_i h;exact{λz=>⟨h,z⟩,λz=>z.2}
 .rename_i h;exact{λz=>z.elim,λz=>(h z.1).elim}
def Jc:Ok (cu x b S) Q=Ok (x b S) λds S1=>ds.length<=1000/\Q ds S1:=by
 delta cu;rw[bZ]
 congr 1
 funext ds S1
 rw[eu,bj,af];apply propext;split
 .rename_i h;exact{λz=>⟨h,z⟩,λz=>z.2}
 .rename_i h;exact{λz=>z.elim,λz=>(h z.1).elim}
def Jd:Ok (me ds S) Q=(ds.length<=1000/\Q (.tup ds) S):=by
 delta me;rw[eu,bj,af];apply propext;split
 .rename_i h;exact{λz=>⟨h,z⟩,λz=>z.2}
 .rename_i h;exact{λz=>z.elim,λz=>(h z.1).elim}
def ce{b:Type}(l:List b)(g:b->Bool)(S:Sto):pH a9 (l.map λt=>D.bl (g t)) S=aD (.bl (l.all g),S):=by
 delta pH;let H:(l.map λt=>D.bl (g t)).all DE=a8:=by rw[ZY];simp[Function.comp_def,DE]
 let h:(l.map λt=>D.bl (g t)).all Bq=l.all g:=by rw[ZY];rfl
 rw[if_pos ⟨rfl,H⟩,h]
def dE{p:Nat}{S:Sto}{T:List Dw.D}{ds:List D}{y:Tg}{c:XA}{z:Rho}{Q:List D->Sto->Prop}(h:TDs p S T ds)(hl:T.length<=100000)(g:Dw.D->Bool)
  (step:∀ (i:Nat) t d b,T[i]?=aD t->Sm S b->TD p b t d->∃f,aE y d z=aD f/\Ok (c f b) λE u=>E=[.bl (g t)]/\Sm b u) (q:∀b,Sm S b->Q (T.map λt=>.bl (g t)) b) :
  Ok (bo (nxL ds) y c z LF 0 S) λE S2=>E.length<=100000/\Q E S2:=by
 refine(cX T.length (λi j b=>Sm S b/\j=(T.take i).map λt=>.bl (g t)) (by delta LF;lia) (λi j b H ⟨sm,o⟩=>?_) (λj b ⟨sm,o⟩=>?_) {Sm.refl S,by simp}).mono λE b ⟨sm,o⟩=>?_
 .let{d,I,B}:=h.get (gEG H);let{f,C,E,u,J,rfl,v}:=step i T[i] d b (gEG H) sm (B.keep sm.kp);calc{d,f,by show aD ds[i]?=_;rw[I],C,_,u,J,sm.trans v,?_};rw[o,ZQ H,Zu];rfl
 .show aD ds[T.length]?=_;rw[ZH (by rw[h.len];lia)]
 .rw[Z4]at o;subst o;exact{by rw[Za];exact hl,q b sm}
def Je{S:Sto}{n:Nat}{lo:Int}{T:Tg}{c:XA}{u:Rho}{Q:List D->Sto->Prop}(hl:n<=100000)(g:Nat->Bool)
  (step:∀ (i:Nat) b,i < n->Sm S b->∃f,aE T (.int (lo+i)) u=aD f/\Ok (c f b) λE o=>E=[.bl (g i)]/\Sm b o) (q:∀b,Sm S b->Q ((Zm n).map λi=>.bl (g i)) b) :
  Ok (bo (nxR lo n) T c u LF 0 S) λE S2=>E.length<=100000/\Q E S2:=by
 refine(cX n (λi h b=>Sm S b/\h=(Zm i).map λt=>.bl (g t)) (by delta LF;lia) (λi h b H ⟨sm,j⟩=>?_) (λh b ⟨sm,j⟩=>?_) {Sm.refl S,by simp}).mono λE b ⟨sm,j⟩=>?_
 .let{f,y,E,o,v,rfl,p}:=step i b H sm;calc{_,f,by show aD (if i < n then aD (D.int (lo+i)) else aT)=_;rw[if_pos H],y,_,o,v,sm.trans p,?_};rw[j,Yk,Zu];rfl
 .show aD (if n < n then aD (D.int (lo+n)) else aT)=_;rw[if_neg (ZS n)]
 .subst j;exact{by rw[Za,Z7];exact hl,q b sm}
def Jf{p:Nat}{S:Sto}{T:List Dw.D}{ds:List D}{y:Tg}{c:XA}{z:Rho}{Q:List D->Sto->Prop}(h:TDs p S T ds)(hl:T.length<=100000)(g:Nat->Bool)
  (step:∀ (i:Nat) t d b,T[i]?=aD t->Sm S b->TD p b t d->∃f,aE y (.tup [.int i,d]) z=aD f/\Ok (c f b) λE u=>E=[.bl (g i)]/\Sm b u) (q:∀b,Sm S b->Q ((Zm T.length).map λi=>.bl (g i)) b) :
  Ok (bo (sB ds) y c z LF 0 S) λE S2=>E.length<=100000/\Q E S2:=by
 refine(cX T.length (λi j b=>Sm S b/\j=(Zm i).map λt=>.bl (g t)) (by delta LF;lia) (λi j b H ⟨sm,o⟩=>?_) (λj b ⟨sm,o⟩=>?_) {Sm.refl S,by simp}).mono λE b ⟨sm,o⟩=>?_
 .let{d,I,B}:=h.get (gEG H);let{f,C,E,u,J,rfl,v}:=step i T[i] d b (gEG H) sm (B.keep sm.kp);refine{.tup [.int i,d],f,?_,C,_,u,J,sm.trans v,?_}
  .show enm ds i=_;delta enm;rw[if_pos (by rw[h.len];lia),I];rfl
  .rw[o,Yk,Zu];rfl
 .show enm ds T.length=_;delta enm;rw[if_pos (by rw[h.len];lia),ZH (by rw[h.len];lia)];rfl
 .subst o;exact{by rw[Za,Z7];exact hl,q b sm}
def yf{m n:Nat}(v:S[m]?=aD (.lst ((Zm n).map λj=>.int (Int.ofNat j))))(C:n<=1000)(f:Nat->List D)
  (step:∀ (i:Nat) b,i < n->Sm S b->∃g,aE T (.int i) y=aD g/\Ok (c g b) λE p=>E=f i/\Sm b p):Ok (bo (nxS m) T c y LF 0 S) λE S2=>E=(Zm n).flatMap f/\Sm S S2:=by
 refine(cX n (λi h b=>Sm S b/\h=(Zm i).flatMap f) (by delta LF;lia) (λi h b H ⟨sm,o⟩=>?_) (λh b ⟨sm,o⟩=>?_) {Sm.refl S,by simp}).mono λE b ⟨sm,o⟩=>⟨o,sm⟩
 .let{g,B,E,p,z,rfl,q}:=step i b H sm;refine{.int i,g,?_,B,_,p,z,sm.trans q,?_}
  .show(az b m).map (λu=>u[i]?)=_;simp![az,sm _ _ v,Zp,Zn,Y9 H];rfl
  .rw[o,Dw.iw]
 .show(az b m).map (λu=>u[n]?)=_;simp![az,sm _ _ v,Zp];rw[ZH (by simp)]
def Fo:Ok (bg x c S) Q=Ok (x c S) λds b=>Q (.ref b.length) (b++[.lst ds]):=by
 delta bg;rw[bZ]
 congr 1
 funext ds b
 rw[af]
def Oz(h:Ok (x c S) λd b=>∃i:Nat,d = .int i/\i<=1000/\Q ((Zm i).map λj=>.int (Int.ofNat j)) b):Ok (BL x c S) Q:=by
 delta BL;rw[bZ];calc h.mono λd b ⟨i,e,H,q⟩=>?_;subst e;dsimp!;rw[if_pos (by lia),af,ZL];exact q
def j5{p:Nat}{a b:Int}:∀ {fs:List Dw.D} {ds:List D},fs.all (λe=>Dw.ag e a b)=a8->TDs p S fs ds->ds=(Dw.aL fs).map D.int
 |[],ds,_,h=>by rw[h.nil];rfl
 |t::fs,ds,hw,h=>by
  let{d,r,rfl,c,H}:=h.cons;rw[Z0,bAE]at hw;let{i,rfl,_}:=Dw.ak hw.1;rw[c.int,j5 hw.2 H];rfl
def vC(is:List Int):(is.map D.int).all cT=a8:=by rw[ZY];simp[Function.comp_def,cT]
def Fp(is:List Int)(i:Int)(S:Sto):xE (.tup (is.map D.int)) [.int i] S=aD (.int (is.count i:Nat),S):=by
 let e:((is.map D.int).countP λz=>eqF z (.int i))=is.count i:=by
  rw[Wl];delta Ws
  congr 1
 simp![xE];rw[if_pos {rfl,vC is},e]
def j6(neg:Bool)(is:List Int)(i:Int)(S:Sto):inS neg (.int i) (.tup (is.map D.int)) S=aD (.bl (neg != decide (i∈is)),S):=by
 let e:inF (.int i) (is.map D.int)=decide (i∈is):=by
  delta inF;rw[WF,Z1,YV];simp![Function.comp_def,eqF,beq_iff_eq,decide_eq_true_eq];exact{λ⟨x,H,e⟩=>e▸H,λh=>⟨i,h,rfl⟩}
 simp![inS,am];rw[if_pos {rfl,vC is},e]
def Jg(i j:Int)(S:Sto):ay .eq (.int i) (.int j) S=aD (.bl (decide (i=j)),S):=by
 simp![ay,eqS];let:eqD 60 S (.int i) (.int j)=aD (i == j):=rfl;rw[this];rfl
def Jh(i j:Int)(S:Sto):ay .ne (.int i) (.int j) S=aD (.bl (!decide (i=j)),S):=tV (x:=.int i) (y:=.int j) (b:=decide (i=j)) rfl
def OA{i j:Int}:Ok (ay .eq (.int i) (.int j) S) Q=Q (.bl (decide (i=j))) S:=by rw[Jg,af]
def OB{i j:Int}:Ok (ay .ne (.int i) (.int j) S) Q=Q (.bl (!decide (i=j))) S:=by rw[Jh,af]
abbrev yg:Dw.D->Bool
 |.non=>a8
 |_=>a9
def Fq{p:Nat}(h:TD p S t d):nP d=yg t:=by
 cases t with
 |non=>rw[h.non];rfl
 |bl _=>rw[h.bl];rfl
 |int _=>rw[h.int];rfl
 |str _=>rw[h.str];rfl
 |tup _=>let{_,rfl,_}:=h.tup;rfl
 |lst _=>rw[TD]at h;let{n,b,rfl,_}:=h;rfl
 |dic _ _=>rw[TD]at h;let{n,b,rfl,_}:=h;rfl
def Tj{p:Nat}(h:TD p S t d):ay .is d .non S=aD (.bl (yg t),S):=by
 rw[<-Fq h];simp![ay];let:isB a9 d .non S=aD (.bl (a9 != nP d),S):=by cases d <;> rfl
 rw[this];cases nP d <;> rfl
def Fs{p:Nat}(h:TD p S t d):ay .t d .non S=aD (.bl (!yg t),S):=by
 rw[<-Fq h];simp![ay];let:isB a8 d .non S=aD (.bl (a8 != nP d),S):=by cases d <;> rfl
 rw[this];cases nP d <;> rfl
def mL{i:Nat}:aE (.n i) d b=if i < b.length then aD (b.set i (aD d)) else aT:=by simp![aE]
def Ft:aE (.tup T) (.tup ds) ρ=aQ T ds ρ:=by simp![aE]
def zX:aQ [] [] ρ=aD ρ:=by simp![aQ]
def vD{i:Nat}:aQ (.n i::T) (d::ds) b=if i < b.length then aQ T ds (b.set i (aD d)) else aT:=by
 simp![aQ,aE];split
 .rename_i c h;split at h
  .rename_i H;cases h;rw[if_pos H]
  .cases h
 .rename_i h;split at h
  .cases h
  .rename_i H;rw[if_neg H]
def jt{i j:Nat}(H:i < c.length)(h:j < c.length):aE (.tup [.n i,.n j]) (.tup [a,b]) c=aD ((c.set i (aD a)).set j (aD b)):=by
 rw[Ft,vD,if_pos H,vD,if_pos (by rw[YA];exact h),zX]
abbrev dq:Dw.D->Bool
 |.tup _=>a8
 |_=>a9
def b8{p:Nat}(h:TD p S t d):dS .tuple d S=aD (.bl (dq t),S):=by
 rw[iK h];cases t <;> rfl
def aq{a:Nat}(h:S[a]?=aD (.lst es)):az S a=aD es:=by simp![az,h]
def zY{a b n:Nat}(c:S[a]?=aD (.lst E))(h:S[b]?=aD (.lst []))(H:a≠b):eqD (n+1) S (.ref a) (.ref b)=aD E.isEmpty:=by
 show(match az S a,az S b with |some xs,aD ys=>if a=b then aD a8 else if xs.length=ys.length then eqL eqB xs ys else aD a9 |_,_=>aT)=_;rw[aq c,aq h];show(if a=b then aD a8 else if E.length=([]:List D).length then eqL eqB E [] else aD a9)=_;rw[if_neg H];cases E with
 |nil=>simp[eqL]
 |cons x xs=>simp
def ne_nil{a b:Nat}(c:S[a]?=aD (.lst E))(h:S[b]?=aD (.lst []))(H:a≠b):ay .ne (.ref a) (.ref b) S=aD (.bl (!E.isEmpty),S):=tV (zY c h H)
def eq_nil{a b:Nat}(c:S[a]?=aD (.lst E))(h:S[b]?=aD (.lst []))(H:a≠b):ay .eq (.ref a) (.ref b) S=aD (.bl E.isEmpty,S):=by
 simp![ay,eqS,zY c h H,Zp]
def Ji:ay .ne (.ref (Zd S)) (.ref (Zd (S++[Ob.lst E]))) (S++[Ob.lst E]++[Ob.lst []])=aD (.bl (!E.isEmpty),S++[Ob.lst E]++[Ob.lst []]):=
 ne_nil (by rw[ZK,Zo (Zc _),Ye];rfl) (by rw[Zo (Zc _),Ye];rfl) (by simp)
def Jj:ay .eq (.ref (Zd S)) (.ref (Zd (S++[Ob.lst E]))) (S++[Ob.lst E]++[Ob.lst []])=aD (.bl E.isEmpty,S++[Ob.lst E]++[Ob.lst []]):=
 eq_nil (by rw[ZK,Zo (Zc _),Ye];rfl) (by rw[Zo (Zc _),Ye];rfl) (by simp)
def ju{n:Nat}{g:Nat->Bool}{f:Nat->D}:((Zm n).flatMap λi=>if g i=a8 then [f i] else []).isEmpty=(Zm n).all λi=>!g i:=by
 induction n with
 |zero=>rfl
 |succ n I=>
  rw[Dw.iw,Yk,List.all_append,<-I];cases h:g n <;> simp[h]
def Fu{p:Nat}{S:Sto}{T:List Dw.D}{ds:List D}{B:Tg}{c:XA}{C:Rho}{Q:List D->Sto->Prop}(h:TDs p S T ds)(hl:T.length<=100000)(g:Nat->Bool)
  (step:∀ (i:Nat) t d b,T[i]?=aD t->Sm S b->TD p b t d->∃j,aE B (.tup [.int i,d]) C=aD j/\Ok (c j b) λE v=>E=(if g i=a8 then [.int i] else [])/\Sm b v) (q:∀E b,Sm S b->E.isEmpty=((Zm T.length).all λi=>!g i)->Q E b) :
  Ok (bo (sB ds) B c C LF 0 S) λE S2=>E.length<=100000/\Q E S2:=by
 let z:∀n:Nat,((Zm n).flatMap λi=>if g i=a8 then [D.int (Int.ofNat i)] else []).length<=n:=λn=>by
  let:=Dw.rN (n:=n) (m:=1) (f:=λi=>if g i=a8 then [D.int (Int.ofNat i)] else []) λi _=>by split <;> simp
  lia
 refine(cX T.length (λi o b=>Sm S b/\o=(Zm i).flatMap λi=>if g i=a8 then [D.int (Int.ofNat i)] else []) (by delta LF;lia) (λi o b H ⟨sm,u⟩=>?_) (λo b ⟨sm,u⟩=>?_) {Sm.refl S,by simp}).mono λE b ⟨sm,u⟩=>?_
 .let{d,L,I}:=h.get (gEG H);let{j,J,E,v,M,rfl,y}:=step i T[i] d b (gEG H) sm (I.keep sm.kp);refine{.tup [.int i,d],j,?_,J,_,v,M,sm.trans y,?_}
  .show enm ds i=_;delta enm;rw[if_pos (by rw[h.len];lia),L];rfl
  .rw[u,Dw.iw];rfl
 .show enm ds T.length=_;delta enm;rw[if_pos (by rw[h.len];lia),ZH (by rw[h.len];lia)];rfl
 .subst u;exact{Zy (z _) hl,q _ b sm ju}
def vE{p:Nat}(h:TDs p S T ds)(hl:T.length<=100000)(I:Nat->Rho->Prop)
  (step:∀ (i:Nat) t d f c,T[i]?=aD t->Sm S c->TD p c t d->I i f->∃j,aE B d f=aD j/\OkS (b j c) λv g o=>match v with |.nx=>I (i+1) g/\Sm c o |.ct=>I (i+1) g/\Sm c o |.bk=>Q .nx g o |.rt d=>Q (.rt d) g o)
  (q:∀f c,Sm S c->I T.length f->Q .nx f c) (L:I 0 f):OkS (c8 (nxL ds) B b LF 0 f S) Q:=by
 refine cQ T.length (λi f c=>I i f/\Sm S c) (by delta LF;lia) (λi f c H ⟨u,sm⟩=>?_) (λf c ⟨u,sm⟩=>{?_,q f c sm u}) {L,Sm.refl S}
 .let{d,J,C}:=h.get (gEG H);let{j,E,z}:=step i T[i] d f c (gEG H) sm (C.keep sm.kp) u;calc{d,j,by show aD ds[i]?=_;rw[J],E,z.mono λv g o y=>?_};cases v with
  |nx=>exact{y.1,sm.trans y.2}
  |ct=>exact{y.1,sm.trans y.2}
  |bk=>exact y
  |rt d=>exact y
 .show aD ds[T.length]?=_;rw[ZH (by rw[h.len];lia)]
def Ly{p:Nat}(h:TDs p S T ds)(hl:T.length<=100000)(I:Nat->Rho->Prop)
  (step:∀ (i:Nat) t d f c,T[i]?=aD t->Sm S c->TD p c t d->I i f->∃j,aE B (.tup [.int i,d]) f=aD j/\OkS (b j c) λv g o=>match v with |.nx=>I (i+1) g/\Sm c o |.ct=>I (i+1) g/\Sm c o |.bk=>Q .nx g o |.rt d=>Q (.rt d) g o)
  (q:∀f c,Sm S c->I T.length f->Q .nx f c) (L:I 0 f):OkS (c8 (sB ds) B b LF 0 f S) Q:=by
 refine cQ T.length (λi f c=>I i f/\Sm S c) (by delta LF;lia) (λi f c H ⟨u,sm⟩=>?_) (λf c ⟨u,sm⟩=>{?_,q f c sm u}) {L,Sm.refl S}
 .let{d,J,C}:=h.get (gEG H);let{j,E,z}:=step i T[i] d f c (gEG H) sm (C.keep sm.kp) u;refine{.tup [.int i,d],j,?_,E,z.mono λv g o y=>?_}
  .show enm ds i=_;delta enm;rw[if_pos (by rw[h.len];lia),J];rfl
  .cases v with
   |nx=>exact{y.1,sm.trans y.2}
   |ct=>exact{y.1,sm.trans y.2}
   |bk=>exact y
   |rt d=>exact y
 .show enm ds T.length=_;delta enm;rw[if_pos (by rw[h.len];lia),ZH (by rw[h.len];lia)];rfl
def nK(ds:List D)(k:Nat)(h:k<=ds.length):eX ds aT (aD (k:Int))=ds.take k:=by
 delta eX;rw[Dw.wQ _ _ (by lia),ZL,XF h];rfl
def bC{p:Nat}(h:TDs p S T ds):aC dR (.tup ds) S=aD (.int T.length,S):=by
 simp![aC,am,dR,h.len]
def aS{p:Nat}{i:Nat}(h:TDs p S T ds)(e:T[i]?=aD t)(q:∀d,TD p S t d->Q d S):Ok (ixS (.tup ds) (.int i) S) Q:=by
 let{d,E,b}:=h.get e;let H:=(Zb.mp E).1
 let c:atI ds (i:Int)=aD d:=by
  delta atI ixN;rw[if_pos (by lia),if_pos (by lia),ZL];exact E
 simp![ixS,am,c,Zp];rw[af];exact q d b
section
variable {S g S1 l:Sto} {p:Nat} {Q:D->Sto->Prop} {ρ:Rho}
def OC{i j:Int}:Ok (bv .mod (.int i) (.int j) S) Q=(0 < j/\Q (.int (i % j)) S):=by
 simp![bv,M5,eu,af,bj];apply propext;split
 .rename_i h;exact{λz=>⟨h,z⟩,λz=>z.2}
 .rename_i h;exact{λz=>z.elim,λz=>(h z.1).elim}
def Jk{i j:Int}:Ok (bv .fdiv (.int i) (.int j) S) Q=((0 < j/\j < 1298074214633706907132624082305024)/\Q (.int (i / j)) S):=by
 simp![bv,Dy,eu,af,bj];apply propext;split
 .rename_i h;exact{λz=>⟨h,z⟩,λz=>z.2}
 .rename_i h;exact{λz=>z.elim,λz=>(h z.1).elim}
def OD{i j:Int}:Ok (bv .mul (.int i) (.int j) S) Q=(jF i j=a8/\Q (.int (i * j)) S):=by
 simp![bv,mf,eu,af,bj];apply propext;split
 .rename_i h;exact{λz=>⟨h,z⟩,λz=>z.2}
 .rename_i h;exact{λz=>z.elim,λz=>(h z.1).elim}
def OE{i j:Int}:Ok (bv .pow (.int i) (.int j) S) Q=((0<=j/\j<=1000000/\i.natAbs < 2 ^ 64)/\Q (.int (i ^ j.toNat)) S):=by
 simp![bv,M6,eu,af,bj];apply propext;split
 .rename_i h;exact{λz=>⟨h,z⟩,λz=>z.2}
 .rename_i h;exact{λz=>z.elim,λz=>(h z.1).elim}
def zZ{i j:Int}(H:-(2 ^ 64) < j)(h:j < 2 ^ 64):jF i j=a8:=by simp![jF,YO,bAE,decide_eq_true_eq];exact .inr ⟨H,h⟩
def sS{i j:Int}(H:-(2 ^ 64) < i)(h:i < 2 ^ 64):jF i j=a8:=by simp![jF,YO,bAE,decide_eq_true_eq];exact .inl ⟨H,h⟩
abbrev Pot(p:Nat)(S:Sto):Prop:=∃n:Int,S[p]?=aD (.lst [.int n])
structure Dr(p:Nat)(S g:Sto):Prop where
 kp:Kp p S g
 pot:Pot p g
def Dr.refl(h:Pot p S):Dr p S S:={Kp.refl p S,h}
def Dr.trans(a:Dr p S S1)(b:Dr p S1 l):Dr p S l:={a.kp.trans b.kp,b.pot}
def Dr.sm(h:Pot p S)(s:Sm S g):Dr p S g:={s.kp,let ⟨n,e⟩:=h;{n,s _ _ e}}
def Dr.thenSm(a:Dr p S S1)(s:Sm S1 l):Dr p S l:=a.trans (Dr.sm a.pot s)
def Pot.lt(h:Pot p S):p < S.length:=let ⟨_,e⟩:=h;(Zb.mp e).1
def OG:Kp p S (S.set p o):=λi u n e=>by rw[ZA (Ne.symm n)];exact e
def sU(h:p < S.length):(S.set p o)[p]?=aD o:=by rw[Zq h]
def qM{n:Nat}{lo:Int}{T:Tg}{b:XS}{Q:Fl->Rho->Sto->Prop}(hl:n<=100000)(I:Nat->Rho->Sto->Prop)
  (step:∀ (i:Nat) ρ S,i < n->I i ρ S->∃f,aE T (.int (lo+i)) ρ=aD f/\OkS (b f S) λo c l=>match o with |.nx=>I (i+1) c l |.ct=>I (i+1) c l |.bk=>Q .nx c l |.rt d=>Q (.rt d) c l)
  (q:∀ρ g,I n ρ g->Q .nx ρ g) (j:I 0 ρ S):OkS (c8 (nxR lo n) T b LF 0 ρ S) Q:=by
 refine cQ n I (by delta LF;lia) (λi ρ g H h=>?_) (λρ g h=>{?_,q ρ g h}) j
 .let{f,E,z}:=step i ρ g H h;exact{_,f,by show aD (if i < n then aD (D.int (lo+i)) else aT)=_;rw[if_pos H],E,z}
 .show aD (if n < n then aD (D.int (lo+n)) else aT)=_;rw[if_neg (ZS n)]
def yh{n:Nat}{lo:Int}{T:Tg}{c:XA}{Q:List D->Sto->Prop}(hl:n<=100000)(I:Nat->List D->Sto->Prop)
  (step:∀ (i:Nat) b g,i < n->I i b g->∃f,aE T (.int (lo+i)) ρ=aD f/\Ok (c f g) λE S1=>I (i+1) (b++E) S1) (q:∀E g,I n E g->E.length<=100000/\Q E g) (j:I 0 [] S) :
  Ok (bo (nxR lo n) T c ρ LF 0 S) λE l=>E.length<=100000/\Q E l:=by
 refine(cX n I (by delta LF;lia) (λi b g H h=>?_) (λb g h=>?_) j).mono q
 .let{f,o,z}:=step i b g H h;exact{_,f,by show aD (if i < n then aD (D.int (lo+i)) else aT)=_;rw[if_pos H],o,z}
 .show aD (if n < n then aD (D.int (lo+n)) else aT)=_;rw[if_neg (ZS n)]
def OH:Ok (w9 x y ρ S) Q=Ok (x ρ S) λds S1=>Ok (y ρ S1) λi l=>∃k,i = .int k/\∃d,atI ds k=aD d/\Q d l:=by
 delta w9;rw[bZ]
 congr 1
 funext ds S1
 rw[bZ]
 congr 1
 funext i l
 apply propext;cases i with
 |int k=>simp[Om]
 |_=>simp[bj]
def OI{i:Int}(H:0<=i)(b:i < ds.length):∃d,atI ds i=aD d/\ds[i.toNat]?=aD d:=by
 let h:i.toNat < ds.length:=by lia
 calc{ds[i.toNat],?_,gEG h};delta atI ixN;rw[if_pos H,if_pos (by lia)];exact gEG h
def ic{nx:Nxt}{T:Tg}{c:XA}{Q:List D->Sto->Prop}(n:Nat)(o:Nat->D)(I:Nat->List D->Sto->Prop)(h:∀i b g,i<=n->I i b g->nx i g=aD (if i < n then aD (o i) else aT))(hl:n<=100000)
  (step:∀ (i:Nat) b g,i < n->I i b g->∃f,aE T (o i) ρ=aD f/\Ok (c f g) λE S1=>I (i+1) (b++E) S1) (q:∀E g,I n E g->E.length<=100000/\Q E g) (u:I 0 [] S) :
  Ok (bo nx T c ρ LF 0 S) λE l=>E.length<=100000/\Q E l:=by
 refine(cX n I (by delta LF;lia) (λi b g H j=>?_) (λb g j=>?_) u).mono q
 .let{f,v,z}:=step i b g H j;exact{_,f,by rw[h i b g (by lia) j,if_pos H],v,z}
 .rw[h n b g (Zc _) j,if_neg (ZS n)]
def jv{m i:Nat}(h:S[m]?=aD (.lst ds))(E:Nat->D)(b:∀i d,ds[i]?=aD d->E i=d):nxS m i S=aD (if i < ds.length then aD (E i) else aT):=by
 show(az S m).map (λds=>ds[i]?)=_;rw[aq h,Zp];split
 .rename_i H;rw[gEG H,b i _ (gEG H)]
 .rename_i H;rw[ZH (by lia)]
def z8{m i:Nat}(h:S[m]?=aD (.lst ds))(H:i<=ds.length)(E:Nat->D)(c:∀i d,ds[i]?=aD d->E i = .tup [.int i,d]):DU m i S=aD (if i < ds.length then aD (E i) else aT):=by
 show(az S m).bind (λds=>enm ds i)=_;rw[aq h];show enm ds i=_;delta enm;rw[if_pos H];split
 .rename_i b;rw[gEG b,c i _ (gEG b)];rfl
 .rename_i b;rw[ZH (by lia)];rfl
structure RowsS(p:Nat)(S:Sto)(rs:List D)(M:List (List Int)):Prop where
 len:rs.length=M.length
 row:∀ (i:Nat) r,M[i]?=aD r->∃a,rs[i]?=aD (.ref a)/\a≠p/\S[a]?=aD (.lst (r.map D.int))
def RowsS.keep(h:RowsS p S rs M)(k:Kp p S g):RowsS p g rs M:={h.len,λi r H=>let ⟨a,e,n,z⟩:=h.row i r H;{a,e,n,k _ _ n z}}
def RowsS.nil:RowsS p S [] []:={rfl,λi r h=>by simp at h}
def RowsS.snoc{a:Nat}(h:RowsS p S rs M)(n:a≠p)(z:S[a]?=aD (.lst (r.map D.int))):RowsS p S (rs++[.ref a]) (M++[r]):=by
 calc{by simp[h.len],λi j H=>?_};by_cases c:i < M.length
 .rw[Zz c]at H;let{b,e,nb,Z}:=h.row i j H;exact{b,by rw[Zz (by rw[h.len];exact c)];exact e,nb,Z}
 .rw[Zo (by lia)]at H
  let f:i - M.length=0:=by
   let:=(Zb.mp H).1;simp at this;lia
  rw[f]at H;cases H;exact{a,by rw[Zo (by rw[h.len];lia),h.len,f];rfl,n,z}
def au:(S++[o])[S.length]?=aD o:=by rw[Zo (Zc _),Ye];rfl
def Kp.setNew{f:Nat}(h:Kp p S g)(b:S.length<=f):Kp p S (g.set f o):=λi u n e=>by
 let H:=(Zb.mp e).1;rw[ZA (by lia)];exact h i u n e
def Pot.setNe{f:Nat}(h:Pot p S)(H:f≠p):Pot p (S.set f o):=by
 let{n,e}:=h;exact{n,by rw[ZA H];exact e}
abbrev dA(q:Int×Int):D:=.tup [.int q.1,.int q.2]
def vF:∀ (E:List (Int×Int)),TDs p S (E.map Dw.gG) (E.map dA)
 |[]=>bA
 |e::E=>ax (td_tup (ax dn (ax dn bA))) (vF E)
def gk{f:Nat}(h:S[f]?=aD (.lst ds))(hl:ds.length < 100000):Ok (xD (.ref f) [e] S) Q=Q .non (S.set f (.lst (ds++[e]))):=by
 simp![xD,chg,h];rw[if_pos hl];exact af
def bq{f:Nat}(h:S[f]?=aD (.lst ds)):dW (.ref f) S=a8:=by simp![dW,aq h];rfl
def Jl{f:Nat}(h:S[f]?=aD (.lst (ds++[e]))):ixS (.ref f) (.int (-1)) S=aD (e,S):=by
 let:atI (ds++[e]) (-1:Int)=aD e:=by
  delta atI ixN;rw[if_neg (by decide),if_pos (by rw[Zi,ZO];lia)];show(ds++[e])[((-1:Int)+((ds++[e]).length:Int)).toNat]?=aD e;let:((-1:Int)+((ds++[e]).length:Int)).toNat=ds.length:=by rw[Zi,ZO];lia
  rw[this,Zo (Zc _),Ye];rfl
 simp![ixS,am,aq h,Zp,this]
def ml{i:Nat}(h:ds[i]?=aD d):atI ds (i:Int)=aD d:=by
 let H:=(Zb.mp h).1;delta atI ixN;rw[if_pos (by lia),if_pos (by lia),ZL];exact h
def Jm:ay .eq (.tup ds) (.tup []) S=aD (.bl ds.isEmpty,S):=by
 simp![ay,eqS]
 let:eqD 60 S (.tup ds) (.tup [])=aD ds.isEmpty:=by
  cases ds <;> rfl
 rw[this];rfl
def Jn:ay .ne (.tup ds) (.tup []) S=aD (.bl (!ds.isEmpty),S):=tV (x:=.tup ds) (y:=.tup []) (b:=ds.isEmpty) (by cases ds <;> rfl)
def OJ:Ok (bv .add (.tup xs) (.tup ys) S) Q=(xs.length+ys.length<=9000/\Q (.tup (xs++ys)) S):=by
 simp![bv,cJ,eu,af,bj];apply propext;split
 .rename_i h;exact{λz=>⟨h,z⟩,λz=>z.2}
 .rename_i h;exact{λz=>z.elim,λz=>(h z.1).elim}
end
@[inline]abbrev WP(b:Type):=Rho->Sto->(b->Sto->Prop)->Prop
abbrev Sd{b:Type}(w:WP b)(x:Rho->Sto->Option (b×Sto)):Prop:=∀c S Q,w c S Q->Ok (x c S) Q
def bf{b c:Type}{x:Option (b×Sto)}{f:b->Sto->Option (c×Sto)}{Q:c->Sto->Prop}(h:Ok x λa S=>Ok (f a S) Q):Ok (bnd x f) Q:=bZ▸h
def bH{b:Type}{a:b}{S:Sto}{Q:b->Sto->Prop}(h:Q a S):Ok (aD (a,S)) Q:=⟨_,_,rfl,h⟩
abbrev wIf(b:Bool)(A B:Prop):Prop:=match b with
 |true=>A
 |false=>B
def z9{b:Bool}{A B:Prop}(h:wIf b A B):if b=a8 then A else B:=by cases b <;> exact h
abbrev wBl(d:D)(Q:Bool->Prop):Prop:=match d with
 |.bl b=>Q b
 |.non=>False |.int _=>False |.str _=>False |.tup _=>False |.ref _=>False
abbrev eC(d:D)(Q:Int->Prop):Prop:=match d with
 |.int i=>Q i
 |.non=>False |.bl _=>False |.str _=>False |.tup _=>False |.ref _=>False
def o0{d:D}{Q:Bool->Prop}(h:wBl d Q):∃b,d = .bl b/\Q b:=by cases d <;> first |exact h.elim |exact⟨_,rfl,h⟩
def cR{d:D}{Q:Int->Prop}(h:eC d Q):∃b,d = .int b/\Q b:=by cases d <;> first |exact h.elim |exact⟨_,rfl,h⟩
abbrev Ve(o:Option D)(Q:D->Prop):Prop:=match o with
 |some d=>Q d
 |none=>False
abbrev yk:Rho->Nat->(D->Prop)->Prop
 |[],_,_=>False
 |o::_,0,Q=>Ve o Q
 |_::ρ,i+1,Q=>yk ρ i Q
def Aa:∀ {ρ:Rho} {i:Nat} {Q:D->Prop},yk ρ i Q->∃d,ρ[i]?=aD (aD d)/\Q d
 |[],_,_,h=>h.elim
 |some d::_,0,_,h=>⟨d,rfl,h⟩
 |none::_,0,_,h=>h.elim
 |o::ρ,i+1,_,h=>by rw[Xs];exact Aa (ρ:=ρ) h
abbrev Tk(i:Nat):WP D:=λb S Q=>yk b i λd=>Q d S
def Tl{i:Nat}:Sd (Tk i) (bn i):=λb S Q h=>by
 rw[Ow];exact Aa h
abbrev wC(d:D):WP D:=λ_ S Q=>Q d S
def s_c{d:D}:Sd (wC d) (xC d):=λ_ _ _ h=>bH h
abbrev Jo(g:D->D->Sto->(D->Sto->Prop)->Prop)(x y:WP D):WP D:=λc S Q=>x c S λa h=>y c h λb f=>g a b f Q
def Fv{g:D->D->Sto->(D->Sto->Prop)->Prop}{f:D->D->Sto->Option (D×Sto)}{w v:WP D}{x y:XE}(hw:Sd w x)(c:Sd v y)(H:∀ {a b S Q},g a b S Q->Ok (f a b S) Q):Sd (Jo g w v) (cF f x y):=
 λ_ _ _ h=>bf ((hw _ _ _ h).mono λ_ _ h=>bf ((c _ _ _ h).mono λ_ _ h=>H h))
abbrev wUn{b β:Type}(g:b->Sto->(β->Sto->Prop)->Prop)(x:WP b):WP β:=λf S Q=>x f S λa c=>g a c Q
def Jp{b c:Type}{g:b->Sto->(c->Sto->Prop)->Prop}{f:b->Sto->Option (c×Sto)}{w:WP b}{x:Rho->Sto->Option (b×Sto)}(hw:Sd w x)(H:∀ {a S Q},g a S Q->Ok (f a S) Q):Sd (wUn g w) (λj S=>bnd (x j S) f):=
 λ_ _ _ h=>bf ((hw _ _ _ h).mono λ_ _ h=>H h)
abbrev wOk{b c:Type}(f:b->Sto->Option (c×Sto))(a:b)(S:Sto)(Q:c->Sto->Prop):Prop:=Ok (f a S) Q
abbrev wII:BOp->Int->Int->Sto->(D->Sto->Prop)->Prop
 |.add,i,j,S,Q=>Q (.int (i+j)) S
 |.sub,i,j,S,Q=>Q (.int (i - j)) S
 |.mul,i,j,S,Q=>jF i j=a8/\Q (.int (i * j)) S
 |.mod,i,j,S,Q=>0 < j/\Q (.int (i % j)) S
 |.fdiv,i,j,S,Q=>(0 < j/\j < 1298074214633706907132624082305024)/\Q (.int (i / j)) S
 |.pow,i,j,S,Q=>(0<=j/\j<=1000000/\i.natAbs < 2 ^ 64)/\Q (.int (i ^ j.toNat)) S
def OK{o:BOp}{i j:Int}{S:Sto}{Q:D->Sto->Prop}(h:wII o i j S Q):Ok (bv o (.int i) (.int j) S) Q:=by
 cases o with
 |add=>rw[Ox];exact h
 |sub=>rw[Oy];exact h
 |mul=>rw[OD];exact h
 |mod=>rw[OC];exact h
 |fdiv=>rw[Jk];exact h
 |pow=>rw[OE];exact h
abbrev wTT:BOp->List D->List D->Sto->(D->Sto->Prop)->Prop
 |.add,xs,ys,S,Q=>xs.length+ys.length<=9000/\Q (.tup (xs++ys)) S
 |.sub,_,_,_,_=>False
 |.mul,_,_,_,_=>False
 |.mod,_,_,_,_=>False
 |.fdiv,_,_,_,_=>False
 |.pow,_,_,_,_=>False
def OL{o:BOp}{i j:List D}{S:Sto}{Q:D->Sto->Prop}(h:wTT o i j S Q):Ok (bv o (.tup i) (.tup j) S) Q:=by
 cases o with
 |add=>rw[OJ];exact h
 |_=>exact h.elim
abbrev Fw(o:BOp)(i:Int)(y:D)(S:Sto)(Q:D->Sto->Prop):Prop:=match y with
 |.int j=>wII o i j S Q
 |.non=>False |.bl _=>False |.str _=>False |.ref _=>False
 |.tup ys=>Ok (bv o (.int i) (.tup ys) S) Q
abbrev Ab(o:BOp)(xs:List D)(y:D)(S:Sto)(Q:D->Sto->Prop):Prop:=match y with
 |.tup ys=>wTT o xs ys S Q
 |.non=>False |.bl _=>False |.str _=>False |.ref _=>False
 |.int j=>Ok (bv o (.tup xs) (.int j) S) Q
abbrev ym(o:BOp)(x y:D)(S:Sto)(Q:D->Sto->Prop):Prop:=match x with
 |.int i=>Fw o i y S Q
 |.tup xs=>Ab o xs y S Q
 |.non=>Ok (bv o .non y S) Q
 |.bl b=>Ok (bv o (.bl b) y S) Q
 |.str b=>Ok (bv o (.str b) y S) Q
 |.ref b=>Ok (bv o (.ref b) y S) Q
def Jq{o:BOp}{x y:D}{S:Sto}{Q:D->Sto->Prop}(h:ym o x y S Q):Ok (bv o x y S) Q:=by
 cases x with
 |int i=>cases y with
  |int j=>exact OK h
  |tup Y=>exact h
  |_=>exact h.elim
 |tup xs=>cases y with
  |int j=>exact h
  |tup Y=>exact OL h
  |_=>exact h.elim
 |_=>exact h
abbrev wCI:COp->Int->Int->Sto->(D->Sto->Prop)->Prop
 |.eq,i,j,S,Q=>Q (.bl (decide (i=j))) S
 |.ne,i,j,S,Q=>Q (.bl (!decide (i=j))) S
 |.lt,i,j,S,Q=>Q (.bl (decide (i < j))) S
 |.le,i,j,S,Q=>Q (.bl (decide (i<=j))) S
 |.gt,i,j,S,Q=>Q (.bl (decide (j < i))) S
 |.ge,i,j,S,Q=>Q (.bl (decide (j<=i))) S
 |.is,_,_,_,_=>False
 |.t,_,_,_,_=>False
 |.s,_,_,_,_=>False
 |.o,_,_,_,_=>False
def OM{o:COp}{i j:Int}{S:Sto}{Q:D->Sto->Prop}(h:wCI o i j S Q):Ok (ay o (.int i) (.int j) S) Q:=by
 cases o with
 |eq=>rw[OA];exact h
 |ne=>rw[OB];exact h
 |lt=>rw[Te];exact h
 |le=>rw[Td];exact h
 |gt=>rw[Tf];exact h
 |ge=>rw[Th];exact h
 |_=>exact h.elim
abbrev OO(o:COp)(i:Int)(y:D)(S:Sto)(Q:D->Sto->Prop):Prop:=match y with
 |.int j=>wCI o i j S Q
 |.non=>Ok (ay o (.int i) .non S) Q
 |.bl b=>Ok (ay o (.int i) (.bl b) S) Q
 |.str b=>Ok (ay o (.int i) (.str b) S) Q
 |.ref b=>Ok (ay o (.int i) (.ref b) S) Q
 |.tup b=>Ok (ay o (.int i) (.tup b) S) Q
abbrev B0(o:COp)(xs:List D)(y:D)(S:Sto)(Q:D->Sto->Prop):Prop:=match o with
 |.eq=>match y with
  |.tup ys=>match ys with
   |[]=>Q (.bl xs.isEmpty) S
   |y::ys=>Ok (ay .eq (.tup xs) (.tup (y::ys)) S) Q
  |.non=>Ok (ay .eq (.tup xs) .non S) Q
  |.bl b=>Ok (ay .eq (.tup xs) (.bl b) S) Q
  |.str b=>Ok (ay .eq (.tup xs) (.str b) S) Q
  |.ref b=>Ok (ay .eq (.tup xs) (.ref b) S) Q
  |.int b=>Ok (ay .eq (.tup xs) (.int b) S) Q
 |.ne=>match y with
  |.tup ys=>match ys with
   |[]=>Q (.bl (!xs.isEmpty)) S
   |y::ys=>Ok (ay .ne (.tup xs) (.tup (y::ys)) S) Q
  |.non=>Ok (ay .ne (.tup xs) .non S) Q
  |.bl b=>Ok (ay .ne (.tup xs) (.bl b) S) Q
  |.str b=>Ok (ay .ne (.tup xs) (.str b) S) Q
  |.ref b=>Ok (ay .ne (.tup xs) (.ref b) S) Q
  |.int b=>Ok (ay .ne (.tup xs) (.int b) S) Q
 |.is=>Ok (ay .is (.tup xs) y S) Q
 |.t=>Ok (ay .t (.tup xs) y S) Q
 |.s=>Ok (ay .s (.tup xs) y S) Q
 |.o=>Ok (ay .o (.tup xs) y S) Q
 |.lt=>False |.le=>False |.gt=>False |.ge=>False
abbrev wCx(o:COp)(x y:D)(S:Sto)(Q:D->Sto->Prop):Prop:=match x with
 |.int i=>OO o i y S Q
 |.tup xs=>B0 o xs y S Q
 |.non=>Ok (ay o .non y S) Q
 |.bl b=>Ok (ay o (.bl b) y S) Q
 |.str b=>Ok (ay o (.str b) y S) Q
 |.ref b=>Ok (ay o (.ref b) y S) Q
def OP{o:COp}{x y:D}{S:Sto}{Q:D->Sto->Prop}(h:wCx o x y S Q):Ok (ay o x y S) Q:=by
 cases x with
 |int i=>cases y with
  |int j=>exact OM h
  |_=>exact h
 |tup xs=>cases o with
  |eq=>cases y with
   |tup Y=>cases Y with
    |nil=>rw[Jm,af];exact h
    |cons y Y=>exact h
   |_=>exact h
  |ne=>cases y with
   |tup Y=>cases Y with
    |nil=>rw[Jn,af];exact h
    |cons y Y=>exact h
   |_=>exact h
  |lt=>exact h.elim
  |le=>exact h.elim
  |gt=>exact h.elim
  |ge=>exact h.elim
  |_=>exact h
 |_=>exact h
abbrev wCm(o:COp)(x y:D)(S:Sto)(Q:D->Sto->Prop):Prop:=match o with
 |.is=>Ok (ay .is x y S) Q
 |.t=>Ok (ay .t x y S) Q
 |.s=>Ok (ay .s x y S) Q
 |.o=>Ok (ay .o x y S) Q
 |.eq=>wCx .eq x y S Q
 |.ne=>wCx .ne x y S Q
 |.lt=>wCx .lt x y S Q
 |.le=>wCx .le x y S Q
 |.gt=>wCx .gt x y S Q
 |.ge=>wCx .ge x y S Q
def sV{o:COp}{x y:D}{S:Sto}{Q:D->Sto->Prop}(h:wCm o x y S Q):Ok (ay o x y S) Q:=by
 cases o <;> first |exact OP h |exact h
abbrev OQ(o p:COp)(x y z:WP D):WP D:=λf S Q=>x f S λa j=>y f j λb h=>wCm o a b h λr g=>wBl r λc=>wIf c (z f g λe q=>wCm p b e q Q) (Q (.bl a9) g)
def Lz{o p:COp}{w v u:WP D}{x y z:XE}(hw:Sd w x)(f:Sd v y)(H:Sd u z):Sd (OQ o p w v u) (BE (ay o) (ay p) x y z):=λ_ _ _ h=>by
 rw[Ov];calc(hw _ _ _ h).mono λa j h=>(f _ _ _ h).mono λb g h=>(sV h).mono λr B h=>?_;let{c,e,h}:=o0 h;calc{c,e,?_};cases c with
 |true=>exact(H _ _ _ h).mono λe q h=>sV h
 |false=>exact h
abbrev Tn(x y:WP D):WP D:=λf S Q=>x f S λd c=>wBl d λb=>wIf b (y f c Q) (Q (.bl a9) c)
def To{w v:WP D}{x y:XE}(hw:Sd w x)(H:Sd v y):Sd (Tn w v) (D9 x y):=λ_ _ _ h=>by
 rw[Ot];calc(hw _ _ _ h).mono λa b h=>?_;let{c,e,h}:=o0 h;calc{c,e,?_};cases c with
 |true=>exact H _ _ _ h
 |false=>exact h
abbrev wOr(x y:WP D):WP D:=λf S Q=>x f S λd c=>wBl d λb=>wIf b (Q (.bl a8) c) (y f c Q)
def Vf{w v:WP D}{x y:XE}(hw:Sd w x)(H:Sd v y):Sd (wOr w v) (xOr x y):=λ_ _ _ h=>by
 rw[Tc];calc(hw _ _ _ h).mono λa b h=>?_;let{c,e,h}:=o0 h;calc{c,e,?_};cases c with
 |false=>exact H _ _ _ h
 |true=>exact h
abbrev Tp(x:WP D):WP D:=λf S Q=>x f S λd c=>wBl d λb=>Q (.bl (!b)) c
def Tq{w:WP D}{x:XE}(hw:Sd w x):Sd (Tp w) (xUn BD x):=λ_ _ _ h=>bf ((hw _ _ _ h).mono λa b h=>by
 rw[Ou];exact o0 h)
abbrev Tr(x:WP D):WP D:=λc S Q=>x c S λd b=>eC d λi=>Q (.int (-i)) b
def Ts{w:WP D}{x:XE}(hw:Sd w x):Sd (Tr w) (xUn Nz x):=λ_ _ _ h=>bf ((hw _ _ _ h).mono λa b h=>by
 let{i,rfl,h}:=cR h;exact bH h)
abbrev Tt{α:Type}(c:WP Bool)(x y:WP α):WP α:=λf S Q=>c f S λb g=>wIf b (x f g Q) (y f g Q)
def Tu{c:WP Bool}{w v:WP D}{t:XT}{x y:XE}(hc:Sd c t)(hw:Sd w x)(H:Sd v y):Sd (Tt c w v) (NA t x y):=λ_ _ _ h=>bf ((hc _ _ _ h).mono λb f h=>by
 cases b with
 |true=>exact hw _ _ _ h
 | false=>exact H _ _ _ h)
abbrev wO:Option (WP D)->WP (Option Int)
 |none=>λ_ S Q=>Q aT S
 |some w=>λb S Q=>w b S λd c=>eC d λi=>Q (aD i) c
abbrev vG(lo h:Option Int)(d:D)(S:Sto)(Q:D->Sto->Prop):Prop:=match d with
 |.tup ds=>Q (.tup (eX ds lo h)) S
 |.str x=>x.length<=100000/\Q (.str (Txt.slice x lo h)) S
 |.ref n=>Ok (slS lo h (.ref n) S) Q
 |.non=>False |.bl _=>False |.int _=>False
abbrev wSl(x:WP D)(lo H:WP (Option Int)):WP D:=λb S Q=>x b S λd f=>lo b f λl c=>H b c λh g=>vG l h d g Q
def Vg:Sd (wO aT) xg:=λ_ _ _ h=>bH h
def Vh{w:WP D}{x:XE}(hw:Sd w x):Sd (wO (aD w)) (xh x):=λ_ _ _ h=>bf ((hw _ _ _ h).mono λd b h=>by
 let{i,rfl,h}:=cR h;exact bH h)
def Vi{w:WP D}{l u:WP (Option Int)}{x:XE}{lo H:XO}(hw:Sd w x)(hl:Sd l lo)(c:Sd u H):Sd (wSl w l u) (xSl x lo H):=λ_ _ _ h=>bf ((hw _ _ _ h).mono λd g h=>bf ((hl _ _ _ h).mono λa f h=>bf ((c _ _ _ h).mono λb o h=>by
 cases d with
 |tup j=>exact bH h
 |ref n=>exact h
 |str x=>exact{_,_,if_pos h.1,h.2}
 | _=>exact h.elim)))
abbrev Ac(g:List D->Sto->Option (D×Sto))(n:Nat)(x:WP (List D)):WP D:=λf S Q=>x f S λb c=>b.length=n/\Ok (g b c) Q
def yo{g:List D->Sto->Option (D×Sto)}{n:Nat}{w:WP (List D)}{x:XA}(hw:Sd w x):Sd (Ac g n w) (lB g n x):=λ_ _ _ h=>by
 rw[Ja];exact hw _ _ _ h
abbrev wC2(d:D)(A B:Prop):Prop:=match d with
 |.int k=>wIf (decide (k=0)) A (wIf (decide (k=1)) B False)
 |_=>False
abbrev LA(g g':List D->Sto->Option (D×Sto))(n f:Nat)(y:WP D)(x:WP (List D)):WP D:=λb S Q=>y b S λd c=>wC2 d (Ac g n x b c Q) (Ac g' f x b c Q)
def OT{g g':List D->Sto->Option (D×Sto)}{n f:Nat}{v:WP D}{w:WP (List D)}{y:XE}{x:XA}(H:Sd v y)(hw:Sd w x):Sd (LA g g' n f v w) (Ei g g' n f y x):=λo S Q h=>by
 calc bf ((H _ _ _ h).mono λd j h=>?_);cases d with
 |int k=>
  let h:=z9 h;dsimp!;by_cases b:k=0
  .rw[if_pos (by simp[b])]at h;rw[if_pos b];exact yo hw _ _ _ h
  .rw[if_neg (by simp[b])]at h;let h:=z9 h;by_cases c:k=1
   .rw[if_pos (by simp[c])]at h;rw[if_neg b,if_pos c];exact yo hw _ _ _ h
   .rw[if_neg (by simp[c])]at h;exact h.elim
 |_=>exact h.elim
abbrev kP(x:WP (List D)):WP D:=λc S Q=>x c S λf b=>Q (.ref b.length) (b++[.lst f])
def iL{w:WP (List D)}{x:XA}(hw:Sd w x):Sd (kP w) (bg x):=λ_ _ _ h=>by rw[Fo];exact hw _ _ _ h
abbrev gm:Nat->List CE->Prop->Prop
 |_,[],A=>A
 |0,_::_,_=>False
 |n+1,_::es,A=>gm n es A
def j7:∀ {n:Nat} {es:List CE} {A:Prop},gm n es A->es.length<=n/\A
 |n,[],_,h=>{Z5 _,by cases n <;> exact h}
 |0,_::_,_,h=>h.elim
 |n+1,_::es,_,h=>by rw[Zt];exact{Xn (j7 (es:=es) h).1,(j7 (es:=es) h).2}
abbrev wSh{α:Type}(E:List CE)(x:WP α):WP α:=λb S Q=>gm 60 E (x b S Q)
abbrev yp(c:D->Sto->Bool)(f:D->List D->Sto->Option (D×Sto))(x:WP D)(y:WP (List D)):WP D:=λg S Q=>x g S λd b=>c d b=a8/\y g b λj h=>Ok (f d j h) Q
def qN{c:D->Sto->Bool}{f:D->List D->Sto->Option (D×Sto)}{w:WP D}{v:WP (List D)}{x:XE}{y:XA}(hw:Sd w x)(H:Sd v y):Sd (yp c f w v) (uB c f x y):=λ_ _ _ h=>bf ((hw _ _ _ h).mono λd b h=>by
 rw[if_pos h.1];exact bf (H _ _ _ h.2))
abbrev OU(x:WP D):WP (List D):=λc S Q=>x c S λd b=>∃i:Nat,d = .int i/\i<=1000/\Q ((Zm i).map λj=>.int (Int.ofNat j)) b
def LB{w:WP D}{x:XE}(hw:Sd w x):Sd (OU w) (BL x):=λ_ _ _ h=>Oz (hw _ _ _ h)
abbrev Tv:WP (List D):=λ_ S Q=>Q [] S
def Tw:Sd Tv iS:=λ_ _ _ h=>bH h
abbrev LC(x:WP D)(y:WP (List D)):WP (List D):=λb S Q=>x b S λa f=>y b f λg c=>Q (a::g) c
def OV{w:WP D}{v:WP (List D)}{x:XE}{y:XA}(hw:Sd w x)(H:Sd v y):Sd (LC w v) (aX x y):=λ_ _ _ h=>bf ((hw _ _ _ h).mono λd c h=>bf ((H _ _ _ h).mono λf b h=>bH h))
abbrev Vj(o:Option D)(A:Prop):Prop:=match o with
 |none=>A
 |some _=>False
abbrev wFr:Rho->Nat->Prop->Prop
 |[],_,_=>False
 |o::_,0,A=>Vj o A
 |_::ρ,i+1,A=>wFr ρ i A
def sW:∀ {ρ:Rho} {i:Nat} {A:Prop},wFr ρ i A->ρ[i]?=aD aT/\A
 |[],_,_,h=>h.elim
 |none::_,0,_,h=>⟨rfl,h⟩
 |some _::_,0,_,h=>h.elim
 |o::ρ,i+1,_,h=>by rw[Xs];exact sW (ρ:=ρ) h
abbrev vH:List Tg->Rho->Prop->Prop
 |[],_,A=>A
 |.n i::ts,ρ,A=>wFr ρ i (vH ts ρ A)
 |.tup us::ts,ρ,A=>eM (.tup us) ρ=a8/\vH ts ρ A
abbrev wFt:Tg->Rho->Prop->Prop
 |.n i,ρ,A=>wFr ρ i A
 |.tup ts,ρ,A=>vH ts ρ A
def qO{i:Nat}{b:Rho}(h:b[i]?=aD aT):eM (.n i) b=a8:=by rw[eM,h]
def sX:∀ {T:List Tg} {b:Rho} {A:Prop},vH T b A->gL T b=a8/\A
 |[],_,_,h=>{by rw[gL],h}
 |.n i::T,b,_,h=>by
  let{e,h}:=sW h;let{E,h}:=sX h;exact{by rw[gL,qO e,E];rfl,h}
 |.tup us::T,b,_,h=>by
  let{e,h}:=h;let{E,h}:=sX h;exact{by rw[gL,e,E];rfl,h}
def yq{t:Tg}{b:Rho}{A:Prop}(h:wFt t b A):eM t b=a8/\A:=by
 cases t with
 |n i=>exact{qO (sW h).1,(sW h).2}
 |tup T=>rw[eM];exact sX h
abbrev vI:List Str->Rho->(Rho->Prop)->Prop
 |[],r,Q=>Q r
 |_::own,r,Q=>vI own (aT::r) Q
abbrev vJ:Rho->Rho->(Rho->Prop)->Prop
 |[],r,Q=>Q r
 |o::ρ,r,Q=>vJ ρ r λb=>Q (o::b)
def Ae:∀ {ρ r:Rho} {Q:Rho->Prop},vJ ρ r Q->Q (ρ++r)
 |[],_,_,h=>h
 |o::ρ,r,Q,h=>Ae (ρ:=ρ) (Q:=λb=>Q (o::b)) h
def Af:∀ {own:List Str} {k:Nat} {Q:Rho->Prop},vI own (Zr k aT) Q->Q (Zr (own.length+k) aT)
 |[],k,_,h=>by rw[YX,WE];exact h
 |_::own,k,Q,h=>by
  let:=Af (own:=own) (k:=k+1) h;rw[Zt,show own.length+1+k=own.length+(k+1) by lia];exact this
abbrev LG(own:List Str)(I:WP Nxt)(T:Tg)(c:XA)(k:Nat):WP (List D):=λf S Q=>I f S λnx h=>vI own [] λr=>vJ f r λb=>wFt T b (Ok (bo nx T c b k 0 h) λE g=>E.length<=100000/\Q E g)
def Fx{own:List Str}{k:Nat}{w:WP Nxt}{I:XI}{T:Tg}{c:XA}(hw:Sd w I):Sd (LG own w T c k) (og own.length I T c k):=λ_ _ _ h=>by
 rw[Jb]
 exact(hw _ _ _ h).mono λnx b h=>by
  let h:=Ae (Af (own:=own) (k:=0) h);exact yq h
abbrev Fy(I:WP Nxt)(T:Tg)(c:XA)(k:Nat):WP (List D):=λb S Q=>wFt T b (I b S λnx f=>Ok (bo nx T c b k 0 f) Q)
def Jr{k:Nat}{w:WP Nxt}{I:XI}{T:Tg}{c:XA}(hw:Sd w I):Sd (Fy w T c k) (kA I T c k):=λ_ _ _ h=>by
 rw[Fn];exact{(yq h).1,hw _ _ _ (yq h).2}
abbrev Fz(d:D)(b:Sto)(Q:Nxt->Sto->Prop):Prop:=match d with
 |.tup ds=>Q (nxL ds) b
 |.ref n=>(az b n).isSome=a8/\Q (nxS n) b
 |.non=>False |.bl _=>False |.str _=>False |.int _=>False
def Vk{w:WP D}{x:XE}(hw:Sd w x):Sd (λc S Q=>w c S λd b=>Fz d b Q) (xIV x):=λ_ _ _ h=>bf ((hw _ _ _ h).mono λd b h=>by
 cases d with
 |tup f=>exact bH h
 |ref n=>dsimp!;rw[if_pos h.1];exact bH h.2
 | _=>exact h.elim)
abbrev FA(d:D)(b:Sto)(Q:Nxt->Sto->Prop):Prop:=match d with
 |.tup ds=>Q (sB ds) b
 |.ref n=>(az b n).isSome=a8/\Q (DU n) b
 |.non=>False |.bl _=>False |.str _=>False |.int _=>False
def Vl{w:WP D}{x:XE}(hw:Sd w x):Sd (λc S Q=>w c S λd b=>FA d b Q) (xEV x):=λ_ _ _ h=>bf ((hw _ _ _ h).mono λd b h=>by
 cases d with
 |tup f=>exact bH h
 |ref n=>dsimp!;rw[if_pos h.1];exact bH h.2
 | _=>exact h.elim)
abbrev wOn{b β:Type}(f:b->β)(x:WP b):WP β:=λg S Q=>x g S λa c=>Q (f a) c
def FC{b j:Type}{f:b->j}{w:WP b}{x:Rho->Sto->Option (b×Sto)}(hw:Sd w x):Sd (wOn f w) (λg S=>bnd (x g S) λa c=>aD (f a,c)):=λ_ _ _ h=>bf ((hw _ _ _ h).mono λd c h=>bH h)
abbrev Tz(x:WP D):WP Nxt:=λc S Q=>x c S λd b=>∃z,d = .str z/\z.cps.all (· < 128)=a8/\Q (nxL (Bz z)) b
def TB{w:WP D}{x:XE}(hw:Sd w x):Sd (Tz w) (Nl x):=λ_ _ _ h=>bf ((hw _ _ _ h).mono λd b h=>by
 let{z,rfl,c,q}:=h;dsimp!;rw[if_pos c];exact bH q)
abbrev TC(b:List Str):WP Nxt:=λ_ S Q=>Q (nxL (b.map D.str)) S
def TF{b:List Str}:Sd (TC b) (Nn b):=λ_ _ _ h=>bH h
abbrev wR1(x:WP D):WP Nxt:=λc S Q=>x c S λd b=>eC d λj=>lim j=a8/\Q (nxR 0 j.toNat) b
def Vm{w:WP D}{x:XE}(hw:Sd w x):Sd (wR1 w) (xR1 x):=λ_ _ _ h=>bf ((hw _ _ _ h).mono λd b h=>by
 let{i,rfl,h}:=cR h;dsimp!;rw[if_pos h.1];exact bH h.2)
abbrev wR2(x y:WP D):WP Nxt:=λb S Q=>x b S λd f=>y b f λe c=>eC d λi=>eC e λj=>(lim i=a8/\lim j=a8)/\Q (nxR i (j - i).toNat) c
def Vn{w v:WP D}{x y:XE}(hw:Sd w x)(c:Sd v y):Sd (wR2 w v) (xR2 x y):=λ_ _ _ h=>bf ((hw _ _ _ h).mono λd g h=>bf ((c _ _ _ h).mono λe f h=>by
 let{i,rfl,b}:=cR h;let{j,rfl,H}:=cR b;dsimp!;rw[if_pos H.1];exact bH H.2))
abbrev cY(d:D)(S:Sto)(Q:Bool->Sto->Prop):Prop:=match d with
 |.bl b=>Q b S
 |.tup ds=>Q (!ds.isEmpty) S
 |.int i=>Q (i != 0) S
 |.non=>Q a9 S
 |.str y=>Ok (nS (.str y) S) Q
 |.ref y=>Ok (nS (.ref y) S) Q
def FD{d:D}{S:Sto}{Q:Bool->Sto->Prop}(h:cY d S Q):Ok (nS d S) Q:=by cases d <;> first |exact bH h |exact h
abbrev wB(x:WP D):WP Bool:=λf S Q=>x f S λd c=>wBl d λb=>Q b c
def s_b{w:WP D}{x:XE}(hw:Sd w x):Sd (wB w) (xB x):=λ_ _ _ h=>by
 rw[Ti];exact(hw _ _ _ h).mono λd b h=>o0 h
abbrev LH(x y:WP Bool):WP Bool:=λf S Q=>x f S λb c=>wIf b (y f c Q) (Q a9 c)
abbrev TH(x y:WP Bool):WP Bool:=λf S Q=>x f S λb c=>wIf b (Q a8 c) (y f c Q)
abbrev LI(x:WP Bool):WP Bool:=λf S Q=>x f S λb c=>Q (!b) c
def OW{w v:WP Bool}{x y:XT}(hw:Sd w x)(H:Sd v y):Sd (LH w v) (Ec x y):=λ_ _ _ h=>bf ((hw _ _ _ h).mono λb c h=>by
 cases b with
 |true=>exact H _ _ _ h
 | false=>exact bH h)
def TJ{w v:WP Bool}{x y:XT}(hw:Sd w x)(H:Sd v y):Sd (TH w v) (ND x y):=λ_ _ _ h=>bf ((hw _ _ _ h).mono λb c h=>by
 cases b with
 |false=>exact H _ _ _ h
 | true=>exact bH h)
def OX{w:WP Bool}{x:XT}(hw:Sd w x):Sd (LI w) (Ed x):=λ_ _ _ h=>bf ((hw _ _ _ h).mono λb c h=>bH h)
abbrev LJ(t:WP Bool)(c:WP (List D)):WP (List D):=λg S Q=>t g S λb f=>wIf b (c g f Q) (Q [] f)
def OY{t:WP Bool}{c:WP (List D)}{x:XT}{y:XA}(H:Sd t x)(hc:Sd c y):Sd (LJ t c) (D6 x y):=λ_ _ _ h=>bf ((H _ _ _ h).mono λb f h=>by
 cases b with
 |true=>exact hc _ _ _ h
 | false=>exact bH h)
abbrev Js(f:Bool->List D->Option (List D))(ds:List D)(S:Sto)(Q:List D->Sto->Prop):Prop:=∃E,f a9 ds=aD E/\Q E S
abbrev Jt(f:Bool->List D->Option (List D))(d:D)(S:Sto)(Q:List D->Sto->Prop):Prop:=∃r E,am d S=aD r/\f r.1 r.2=aD E/\Q E S
abbrev yr(d:D)(S:Sto)(Q:List D->Sto->Prop):Prop:=Ok ((am d S).map λr=>(r.2,S)) Q
def TK{f:Bool->List D->Option (List D)}{w:WP (List D)}{x:XA}(hw:Sd w x):Sd (λc S Q=>w c S λds b=>Js f ds b Q) (BJ f x):=λ_ _ _ h=>bf ((hw _ _ _ h).mono λds b ⟨E,e,h⟩=>by rw[e];exact bH h)
def TL{f:Bool->List D->Option (List D)}{w:WP D}{x:XE}(hw:Sd w x):Sd (λc S Q=>w c S λds b=>Jt f ds b Q) (BK f x):=λ_ _ _ h=>bf ((hw _ _ _ h).mono λds b ⟨r,g,E,e,h⟩=>by
 rw[E];dsimp!;rw[e];exact bH h)
abbrev wNo{α:Type}:WP α:=λ_ _ _=>False
def sY{b:Type}{x:Rho->Sto->Option (b×Sto)}:Sd wNo x:=λ_ _ _ h=>h.elim
abbrev aY(b:Bool)(x:WP (List D))(y:WP D)(c:Rho)(S:Sto)(KT:List D->Sto->Prop)(KV:D->Sto->Prop):Prop:=match b with
 |true=>x c S KT
 |false=>y c S KV
abbrev wOf{α:Type}(b:Bool)(x:WP (List D))(y:WP D)(gt:List D->Sto->(α->Sto->Prop)->Prop)(g:D->Sto->(α->Sto->Prop)->Prop):WP α:=λh S Q=>aY b x y h S (λf c=>gt f c Q) (λd c=>g d c Q)
def s_of{f:Type}{b:Bool}{w:WP (List D)}{v:WP D}{gt:List D->Sto->(f->Sto->Prop)->Prop}{h:D->Sto->(f->Sto->Prop)->Prop}{x y:Rho->Sto->Option (f×Sto)}(hw:Sd (λg S Q=>w g S λds c=>gt ds c Q) x)(H:Sd (λg S Q=>v g S λd c=>h d c Q) y):Sd (wOf b w v gt h) (if b=a8 then x else y):=by
 cases b with
 |true=>exact hw
 |false=>exact H
def Vo{b:Bool}{w:WP (List D)}{v u:WP D}{x:XA}{y z:XE}(hw:Sd w x)(j:Sd u z)(H:Sd v y):Sd (λf S Q=>aY b w u f S (λds c=>v f c λi g=>eC i λk=>∃d,atI ds k=aD d/\Q d g) (λd c=>v f c λi g=>Ok (ixS d i g) Q)) (if b=a8 then w9 x y else cF ixS z y):=λf S Q h=>by
 cases b with
 |true=>
  show Ok (w9 x y f S) Q;rw[OH];exact(hw _ _ _ h).mono λds c h=>(H _ _ _ h).mono λi g h=>cR h
 |false=>exact bf ((j _ _ _ h).mono λds c h=>bf (H _ _ _ h))
abbrev wO2(t:CE->WP D):Option CE->Option (WP D)
 |none=>aT
 |some e=>aD (t e)
abbrev Ju(t:CE->WP Bool):Option CE->WP (List D)->WP (List D)
 |some c,x=>LJ (t c) x
 |none,x=>x
abbrev FE(x y:D)(S:Sto)(Q:D->Sto->Prop):Prop:=eC x λi=>eC y λj=>Q (.int (if j > i then j else i)) S
abbrev FF(x y:D)(S:Sto)(Q:D->Sto->Prop):Prop:=eC x λi=>eC y λj=>Q (.int (if j < i then j else i)) S
abbrev w2(g:D->D->Sto->(D->Sto->Prop)->Prop):List D->Sto->(D->Sto->Prop)->Prop
 |[],_,_=>False
 |[_],_,_=>False
 |[x,y],S,Q=>g x y S Q
 |_::_::_::_,_,_=>False
def LK{g:D->D->Sto->(D->Sto->Prop)->Prop}{f:D->D->Sto->Option (D×Sto)}(H:∀ {a b S Q},g a b S Q->Ok (f a b S) Q):∀ {ds:List D} {S:Sto} {Q:D->Sto->Prop},w2 g ds S Q->Ok (two f ds S) Q
 |[],_,_,h=>h.elim
 |[_],_,_,h=>h.elim
 |[x,y],_,_,h=>H h
 |_::_::_::_,_,_,h=>h.elim
abbrev LL:WP D:=λ_ S Q=>Q (.ref (Zd S)) (S++[.dic [] []])
abbrev LM(i:Int)(v:Nat):WP D:=λb S Q=>∃d,b[v]?=aD (aD d)/\Q (.ref (Zd S)) (S++[.dic [kB i] [d]])
abbrev wCf(i:CI->WP Nxt)(own:List Str)(t:CE->XT)(e:List Cl->XA):List Cl->WP (List D)
 |[]=>wNo
 |⟨tg,it,cond⟩::rest=>LG own (i it) tg (cnd t cond (e rest)) LF
mutual
noncomputable def wE(C:Calls)(h:Nat->Nat):Nat->CE->WP D
 |0,_=>wNo
 |n+1,e=>match e with
  |.non=>wC .non
  |.bl b=>wC (.bl b)
  |.int i=>wC (.int i)
  |.str x=>wC (.str x)
  |.v i=>Tk i
  |.con _ v=>wC (.int v)
  |.txc _ v=>wC (.str v)
  |.tup es=>wSh es (wOn D.tup (wA C h n es))
  |.lst es=>kP (wSh es (wA C h n es))
  |.dic0=>LL
  |.dic1 i j=>LM i j
  |.b o a b=>Jo (ym o) (wE C h n a) (wE C h n b)
  |.neg a=>Tr (wE C h n a)
  |.m o a b=>Jo (wCm o) (wE C h n a) (wE C h n b)
  |.h o p a b c=>OQ o p (wE C h n a) (wE C h n b) (wE C h n c)
  |.d a b=>Tn (wE C h n a) (wE C h n b)
  |.or a b=>wOr (wE C h n a) (wE C h n b)
  |.n a=>Tp (wE C h n a)
  |.ite c a b=>Tt (wT C h n c) (wE C h n a) (wE C h n b)
  |.x a b=>λz S Q=>aY (aj a) (wTm C h n a) (wE C h n a) z S (λy u=>wE C h n b z u λi q=>eC i λk=>∃d,atI y k=aD d/\Q d q) (λd u=>wE C h n b z u λi q=>Ok (ixS d i q) Q)
  |.sl a lo hi=>wSl (wE C h n a) (wO (wO2 (wE C h n) lo)) (wO (wO2 (wE C h n) hi))
  |.c f es=>Ac (C f) (h f) (wA C h n es)
  |.cal2 f g i es=>LA (C f) (C g) (h f) (h g) (wE C h n i) (wA C h n es)
  |.s t a=>wUn (wOk (dS t)) (wE C h n a)
  |.e a=>wOf (aj a) (wTm C h n a) (wE C h n a) (wOk (dR a9)) (wOk (aC dR))
  |.all a=>wOf (aj a) (wTm C h n a) (wE C h n a) (wOk (pH a9)) (wOk (aC pH))
  |.t a=>wOf (aj a) (wTm C h n a) (wE C h n a) (wOk (gH a9)) (wOk (aC gH))
  |.listOf a=>kP (wOf (aj a) (wTm C h n a) (wE C h n a) (λy S Q=>Q y S) yr)
  |.l a=>kP (OU (wE C h n a))
  |.srt a=>kP (wOf (aj a) (wTm C h n a) (wE C h n a) (Js fF) (Jt fF))
  |.strI a=>wUn (wOk xv) (wE C h n a)
  |.lenS a=>wUn (wOk nX) (wE C h n a)
  |.intX a=>wUn (wOk xK) (wE C h n a)
  |.mx a b=>wUn (w2 FE) (wA C h n [a,b])
  |.mn a b=>wUn (w2 FF) (wA C h n [a,b])
  |.rep a=>wUn (wOk gO) (wE C h n a)
  |.o own elt cls=>kP (wCf (wI C h n) own (evT C h n) (iU C h n elt) cls)
  |.app o a=>yp dW xD (wE C h n o) (wA C h n [a])
  |.q o a=>yp dW fS (wE C h n o) (wA C h n [a])
  |.ins o i a=>yp dW xF (wE C h n o) (wA C h n [i,a])
  |.cnt o a=>yp (λd _=>isTup d) xE (wE C h n o) (wA C h n [a])
  |.join o a=>yp (λd _=>nZ d) gK (wE C h n o) (wA C h n [a])
  |.spl o a=>yp (λd _=>nZ d) cC (wE C h n o) (wA C h n [a])
noncomputable def wA(C:Calls)(b:Nat->Nat):Nat->List CE->WP (List D)
 |0,_=>wNo
 |n+1,es=>match es with
  |[]=>Tv
  |e::es=>LC (wE C b n e) (wA C b n es)
noncomputable def wTm(C:Calls)(b:Nat->Nat):Nat->CE->WP (List D)
 |0,_=>wNo
 |n+1,e=>match e with
  |.lst es=>wSh es (wA C b n es)
  |.listOf a=>wOf (aj a) (wTm C b n a) (wE C b n a) (λc S Q=>Q c S) yr
  |.l a=>OU (wE C b n a)
  |.srt a=>wOf (aj a) (wTm C b n a) (wE C b n a) (Js fF) (Jt fF)
  |.o own elt cls=>wCf (wI C b n) own (evT C b n) (iU C b n elt) cls
  |_=>wNo
noncomputable def wI(C:Calls)(c:Nat->Nat):Nat->CI->WP Nxt
 |0,_=>wNo
 |n+1,it=>match it with
  |.p a=>wOf (aj a) (wTm C c n a) (wE C c n a) (λf S Q=>Q (nxL f) S) Fz
  |.chr a=>Tz (wE C c n a)
  |.wds _ ws=>TC ws
  |.r1 a=>wR1 (wE C c n a)
  |.r2 a b=>wR2 (wE C c n a) (wE C c n b)
  |.en a=>wOf (aj a) (wTm C c n a) (wE C c n a) (λf S Q=>Q (sB f) S) FA
noncomputable def wT(C:Calls)(f:Nat->Nat):Nat->CE->WP Bool
 |0,_=>wNo
 |n+1,e=>match e with
  |.m o a b=>wB (Jo (wCm o) (wE C f n a) (wE C f n b))
  |.h o p a b c=>wB (OQ o p (wE C f n a) (wE C f n b) (wE C f n c))
  |.d a b=>LH (wT C f n a) (wT C f n b)
  |.or a b=>TH (wT C f n a) (wT C f n b)
  |.n a=>LI (wT C f n a)
  |.ite _ _ _=>wNo
  |e=>wUn cY (wE C f n e)
end
abbrev wCl(C:Calls)(b:Nat->Nat)(n:Nat)(E:CE):List Cl->WP (List D)
 |[]=>wOn (λd=>[d]) (wE C b n E)
 |⟨tg,it,cond⟩::rest=>Fy (wI C b n it) tg (cnd (evT C b n) cond (iU C b n E rest)) LF
def sZ{C:Calls}{c:Nat->Nat}:∀ {n:Nat} {E:List CE} {g:Rho} {S f:Sto} {ds:List D},evA C c n E g S=aD (ds,f)->ds.length=E.length
 |0,_,_,_,_,_,h=>by simp![evA,xNo]at h;cases h
 |n+1,[],_,_,_,_,h=>by simp![evA,iS]at h;cases h;rfl
 |n+1,e::E,_,_,_,_,h=>by
  simp![evA,aX]at h;let{a,p,o,h}:=ac h;let{q,j,b,h}:=ac h;cases h;rw[Zt,Zt,sZ b]
structure SndW(C:Calls)(ar:Nat->Nat)(n:Nat):Prop where
 e:∀ {e:CE},Sd (wE C ar n e) (evE C ar n e)
 a:∀ {es:List CE},Sd (wA C ar n es) (evA C ar n es)
 m:∀ {e:CE},Sd (wTm C ar n e) (dX C ar n e)
 i:∀ {i:CI},Sd (wI C ar n i) (evI C ar n i)
 t:∀ {e:CE},Sd (wT C ar n e) (evT C ar n e)
section
variable {C:Calls} {ar:Nat->Nat} {n:Nat}
def TM(h:SndW C ar n){E:List CE}:Sd (wSh E (wOn D.tup (wA C ar n E))) (md me (evA C ar n E)):=λg S Q w=>by
 let{le,w}:=j7 w;let{f,c,b,q}:=h.a _ _ _ w;calc bf {f,c,b,?_};let l:=sZ b;show Ok (me f c) Q;rw[Jd];exact{by lia,q}
def FG(h:SndW C ar n){E:List CE}:Sd (wSh E (wA C ar n E)) (cu (evA C ar n E)):=λg S Q w=>by
 let{le,w}:=j7 w;let{f,c,b,q}:=h.a _ _ _ w;rw[Jc];let l:=sZ b;exact{f,c,b,by lia,q}
def LN(h:SndW C ar n){o:Option CE}:Sd (wO (wO2 (wE C ar n) o)) (opt (evE C ar n) o):=by
 cases o with
 |none=>exact Vg
 |some e=>exact Vh h.e
def Jv{a b:D}{S:Sto}{Q:D->Sto->Prop}(h:FE a b S Q):Ok (DG a b S) Q:=by
 let{i,rfl,c}:=cR h;let{j,rfl,H}:=cR c;exact bH H
def Jw{a b:D}{S:Sto}{Q:D->Sto->Prop}(h:FF a b S Q):Ok (DH a b S) Q:=by
 let{i,rfl,c}:=cR h;let{j,rfl,H}:=cR c;exact bH H
end
section
variable {C:Calls} {ar:Nat->Nat} {n:Nat}
def TN(h:SndW C ar n){o:Option CE}{w:WP (List D)}{x:XA}(hw:Sd w x):Sd (Ju (wT C ar n) o w) (cnd (evT C ar n) o x):=by
 cases o with
 |none=>exact hw
 |some c=>exact OY h.t hw
def FH{b c:Type}{f:b->Sto->Option (c×Sto)}{a:b}{S:Sto}{Q:c->Sto->Prop}(h:wOk f a S Q):Ok (f a S) Q:=h
def s_q(h:SndW C ar n){f:Bool->List D->Sto->Option (D×Sto)}{a:CE}:Sd (wOf (aj a) (wTm C ar n a) (wE C ar n a) (wOk (f a9)) (wOk (aC f))) (if aj a=a8 then Bk f (dX C ar n a) else Bm f (evE C ar n a)):=
 s_of (Jp (f:=f a9) h.m FH) (Jp (f:=aC f) h.e FH)
def LP(h:SndW C ar n){a:CE}:Sd (wOf (aj a) (wTm C ar n a) (wE C ar n a) (λds S Q=>Q ds S) yr) (if aj a=a8 then dX C ar n a else om (evE C ar n a)):=s_of h.m (λ_ _ _ w=>bf (h.e _ _ _ w))
def LQ(h:SndW C ar n){a:CE}:Sd (wOf (aj a) (wTm C ar n a) (wE C ar n a) (Js fF) (Jt fF)) (if aj a=a8 then BJ fF (dX C ar n a) else BK fF (evE C ar n a)):=s_of (TK h.m) (TL h.e)
def s_u{g:D->Sto->Option (D×Sto)}{w:WP D}{x:XE}(hw:Sd w x):Sd (wUn (wOk g) w) (xUn g x):=Jp (f:=g) hw FH
def Vp{w:WP (List D)}{x:XA}(hw:Sd w x):Sd (wUn (w2 FE) w) (md (two DG) x):=λ_ _ _ h=>bf ((hw _ _ _ h).mono λ_ _ h=>LK (λz=>Jv z) h)
def Vq{w:WP (List D)}{x:XA}(hw:Sd w x):Sd (wUn (w2 FF) w) (md (two DH) x):=λ_ _ _ h=>bf ((hw _ _ _ h).mono λ_ _ h=>LK (λz=>Jw z) h)
def OZ:Sd LL Ej:=λ_ _ _ h=>bH h
def O0{i:Int}{v:Nat}:Sd (LM i v) (uV i v):=λ_ _ _ h=>by
 let{d,e,h}:=h;delta uV;rw[e];exact bH h
def TQ{w:WP D}{x:XE}(hw:Sd w x):Sd (wUn cY w) (HH x):=Jp (f:=nS) hw FD
def qP:∀n,SndW C ar n
 |0=>⟨sY,sY,sY,sY,sY⟩
 |n+1=>by
  let h:=qP n;refine{λ{e}=>?_,λ{E}=>?_,λ{e}=>?_,λ{i}=>?_,λ{e}=>?_}
  .cases e with
   |non=>exact s_c
   |bl b=>exact s_c
   |int b=>exact s_c
   |str b=>exact s_c
   |v b=>exact Tl
   |con b v=>exact s_c
   |txc b v=>exact s_c
   |tup E=>exact TM h
   |lst E=>exact iL (FG h)
   |dic0=>exact OZ
   |dic1 i j=>exact O0
   |b o a b=>exact Fv h.e h.e Jq
   |neg a=>exact Ts h.e
   |m o a b=>exact Fv h.e h.e sV
   |h o p a b c=>exact Lz h.e h.e h.e
   |d a b=>exact To h.e h.e
   |or a b=>exact Vf h.e h.e
   |n a=>exact Tq h.e
   |ite c a b=>exact Tu h.t h.e h.e
   |x a b=>exact Vo h.m h.e h.e
   |sl a lo H=>exact Vi h.e (LN h) (LN h)
   |c f E=>exact yo h.a
   |cal2 f g i E=>exact OT h.e h.a
   |s t a=>exact s_u h.e
   |e a=>exact s_q h
   |all a=>exact s_q h
   |t a=>exact s_q h
   |listOf a=>exact iL (LP h)
   |l a=>exact iL (LB h.e)
   |srt a=>exact iL (LQ h)
   |strI a=>exact s_u h.e
   |lenS a=>exact s_u h.e
   |intX a=>exact s_u h.e
   |mx a b=>exact Vp h.a
   |mn a b=>exact Vq h.a
   |rep a=>exact s_u h.e
   |o own u cls=>cases cls with
    |nil=>exact iL sY
    |cons c q=>cases c with |mk T I cond=>exact iL (Fx h.i)
   |app o a=>exact qN h.e h.a
   |q o a=>exact qN h.e h.a
   |ins o i a=>exact qN h.e h.a
   |cnt o a=>exact qN h.e h.a
   |join o a=>exact qN h.e h.a
   |spl o a=>exact qN h.e h.a
  .cases E with
   |nil=>exact Tw
   |cons e E=>exact OV h.e h.a
  .cases e with
   |lst E=>exact FG h
   |listOf a=>exact LP h
   |l a=>exact LB h.e
   |srt a=>exact LQ h
   |o own u cls=>cases cls with
    |nil=>exact sY
    |cons c q=>cases c with |mk T I cond=>exact Fx h.i
   |_=>exact sY
  .cases i with
   |p a=>exact s_of (FC h.m) (Vk h.e)
   |chr a=>exact TB h.e
   |wds k y=>exact TF
   |r1 a=>exact Vm h.e
   |r2 a b=>exact Vn h.e h.e
   |en a=>exact s_of (FC h.m) (Vl h.e)
  .cases e with
   |m o a b=>exact s_b (Fv h.e h.e sV)
   |h o p a b c=>exact s_b (Lz h.e h.e h.e)
   |d a b=>exact OW h.t h.t
   |or a b=>exact TJ h.t h.t
   |n a=>exact OX h.t
   |ite a b c=>exact sY
   |_=>exact TQ h.e
def Vr{E:CE}{cls:List Cl}:Sd (wCl C ar n E cls) (iU C ar (n+1) E cls):=by
 cases cls with
 |nil=>exact FC (qP n).e
 |cons c b=>cases c with |mk T I cond=>exact Jr (qP n).i
def O1{E:CE}{cls:List Cl}{o:Option CE}{b:Rho}{S:Sto}{Q:List D->Sto->Prop}(h:Ju (wT C ar (n+1)) o (wCl C ar n E cls) b S Q):Ok (cnd (evT C ar (n+1)) o (iU C ar (n+1) E cls) b S) Q:=TN (qP (n+1)) Vr _ _ _ h
abbrev wNm:Nat->D->Rho->(Rho->Prop)->Prop
 |_,_,[],_=>False
 |0,d,_::ρ,Q=>Q (aD d::ρ)
 |i+1,d,o::ρ,Q=>wNm i d ρ λb=>Q (o::b)
def tz:∀ {i:Nat} {d:D} {ρ:Rho} {Q:Rho->Prop},wNm i d ρ Q->i < ρ.length/\Q (ρ.set i (aD d))
 |i,_,[],_,h=>by cases i <;> exact h.elim
 |0,d,_::ρ,Q,h=>{by simp,h}
 |i+1,d,o::ρ,Q,h=>by
  let:=tz (ρ:=ρ) (Q:=λb=>Q (o::b)) h;exact{by rw[Zt];lia,this.2}
abbrev wBs:List Tg->List D->Rho->(Rho->Prop)->Prop
 |[],[],ρ,Q=>Q ρ
 |[],_::_,_,_=>False
 |.n _::_,[],_,_=>False
 |.tup _::_,[],_,_=>False
 |.n i::ts,d::ds,ρ,Q=>wNm i d ρ λb=>wBs ts ds b Q
 |.tup us::ts,d::ds,ρ,Q=>∃b,aE (.tup us) d ρ=aD b/\wBs ts ds b Q
abbrev wTp(T:List Tg)(d:D)(b:Rho)(Q:Rho->Prop):Prop:=match d with
 |.tup ds=>wBs T ds b Q
 |.non=>False |.bl _=>False |.str _=>False |.int _=>False |.ref _=>False
abbrev wBd:Tg->D->Rho->(Rho->Prop)->Prop
 |.n i,d,ρ,Q=>wNm i d ρ Q
 |.tup ts,d,ρ,Q=>wTp ts d ρ Q
def FI{i:Nat}{d:D}{b:Rho}{Q:Rho->Prop}(h:wNm i d b Q):∃ρ1,aE (.n i) d b=aD ρ1/\Q ρ1:={_,by rw[mL,if_pos (tz h).1],(tz h).2}
def yt:∀ {T:List Tg} {ds:List D} {f:Rho} {Q:Rho->Prop},wBs T ds f Q->∃b,aQ T ds f=aD b/\Q b
 |[],[],f,Q,h=>⟨f,zX,h⟩
 |[],_::_,_,_,h=>h.elim
 |.n _::_,[],_,_,h=>h.elim
 |.tup _::_,[],_,_,h=>h.elim
 |.n i::T,d::ds,f,Q,h=>by
  let{b,e,q}:=FI h;let{c,E,q}:=yt q;exact{c,by rw[aQ,e];exact E,q}
 |.tup us::T,d::ds,f,Q,h=>by
  let{b,e,q}:=h;let{c,E,q}:=yt q;exact{c,by rw[aQ,e];exact E,q}
def O2{t:Tg}{d:D}{b:Rho}{Q:Rho->Prop}(h:wBd t d b Q):∃ρ1,aE t d b=aD ρ1/\Q ρ1:=by
 cases t with
 |n i=>exact FI h
 |tup T=>cases d with
  |tup c=>rw[Ft];exact yt h
  |_=>exact h.elim
@[inline]abbrev WS:=Rho->Sto->(Fl->Rho->Sto->Prop)->Prop
abbrev rW(y:WS)(b:Rho)(S:Sto)(Q:Fl->Rho->Sto->Prop):Prop:=y b S Q
abbrev wNx(y:WS)(Q:Fl->Rho->Sto->Prop)(f:Fl)(b:Rho)(S:Sto):Prop:=match f with
 |.nx=>rW y b S Q
 |.rt d=>Q (.rt d) b S
 |.bk=>Q .bk b S
 |.ct=>Q .ct b S
mutual
noncomputable def wS(C:Calls)(ar:Nat->Nat):Nat->CS->WS
 |0,_=>λ_ _ _=>False
 |n+1,s=>match s with
  |.a t e=>λg S Q=>wE C ar n e g S λd h=>wBd t d g λB=>Q .nx B h
  |.j v o i=>λg S Q=>wE C ar n v g S λa h=>wE C ar n o g h λb p=>wE C ar n i g p λc E=>∃u,fC b c a E=aD u/\Q .nx g u
  |.swp v o i q j=>λg S Q=>wE C ar n v g S λd h=>∃a b,d = .tup [a,b]/\wE C ar n o g h λx p=>wE C ar n i g p λy E=>∃u,fC x y a E=aD u/\wE C ar n q g u λz I=>wE C ar n j g I λw J=>∃H,fC z w b J=aD H/\Q .nx g H
  |.dcs i own k v t it=>λg S Q=>wI C ar n it g S λnx h=>OkS (c8 nx t (uJ h.length (evE C ar n k) (evE C ar n v)) LF 0 (g++Zr own.length aT) (h++[.dic [] []])) λf _ p=>f = .nx/\Q .nx (g.set i (aD (.ref h.length))) p
  |.aug i e=>λg S Q=>∃l,g[i]?=aD (aD (.ref l))/\wE C ar n e g S λd h=>∃b xs Z,d = .ref b/\h[l]?=aD (.lst xs)/\h[b]?=aD (.lst Z)/\xs.length+Z.length<=100000/\Q .nx (g.set i (aD (.ref l))) (h.set l (.lst (xs++Z)))
  |.stg i j e=>λg S Q=>wE C ar n e g S λd h=>∃m x xs,d = .ref m/\az h m=aD (x::xs)/\(xs.length<=16000/\i < g.length/\j < g.length)/\Q .nx ((g.set i (aD x)).set j (aD (.ref h.length))) (h++[.lst xs])
  |.rp i t c es y z z2=>λg S Q=>OkS (evS C ar (n+1) (.rp i t c es y z z2) g S) Q
  |.ex e=>λg S Q=>wE C ar n e g S λ_ h=>Q .nx g h
  |.ret e=>λg S Q=>wE C ar n e g S λd h=>Q (.rt d) g h
  |.i c a b=>λg S Q=>wT C ar n c g S λt h=>wIf t (rW (wSs C ar n a) g h Q) (rW (wSs C ar n b) g h Q)
  |.f t it b=>λg S Q=>wI C ar n it g S λnx h=>OkS (c8 nx t (eY C ar n b) LF 0 g h) Q
  |.cnt=>λg S Q=>Q .ct g S
  |.never=>λ_ _ _=>False
noncomputable def wSs(C:Calls)(ar:Nat->Nat):Nat->List CS->WS
 |0,_=>λ_ _ _=>False
 |n+1,ss=>match ss with
  |[]=>λb S Q=>Q .nx b S
  |s::ss=>λb S Q=>wS C ar n s b S (wNx (wSs C ar n ss) Q)
end
structure SdS(C:Calls)(ar:Nat->Nat)(n:Nat):Prop where
 s:∀ {s:CS} {ρ S Q},wS C ar n s ρ S Q->OkS (evS C ar n s ρ S) Q
 ss:∀ {ss:List CS} {ρ S Q},wSs C ar n ss ρ S Q->OkS (eY C ar n ss ρ S) Q
def FJ:∀n,SdS C ar n
 |0=>{λh=>by simp![wS]at h,λh=>by simp![wSs]at h}
 |n+1=>by
  let h:=FJ n;let g:SndW C ar n:=qP n;refine{λ{s ρ S Q} w=>?_,λ{ss ρ S Q} w=>?_}
  .cases s with
   |a t e=>simp![evS,IX];simp![wS]at w;exact(g.e _ _ _ w).mono λd p w=>O2 w
   |j v o i=>simp![evS,Fm];simp![wS]at w;exact(g.e _ _ _ w).mono λa p w=>(g.e _ _ _ w).mono λb J w=>g.e _ _ _ w
   |swp v o i q j=>
    let{d,p,E,a,b,rfl,w}:=g.e _ _ _ w;let{x,J,I,w}:=g.e _ _ _ w;let{y,S3,Z,S4,X,w}:=g.e _ _ _ w;let{z,S5,Y,w}:=g.e _ _ _ w;let{u,S6,O,S7,M,w}:=g.e _ _ _ w;calc{.nx,ρ,S7,?_,w};show D1 (evE C ar n v) (evE C ar n o) (evE C ar n i) (evE C ar n q) (evE C ar n j) ρ S=_;delta D1;rw[E];let H:n9 a (evE C ar n o) (evE C ar n i) ρ p=aD S4:=by delta n9;rw[I];dsimp!;rw[Z];exact X
    let B:n9 b (evE C ar n q) (evE C ar n j) ρ S4=aD S7:=by delta n9;rw[Y];dsimp!;rw[O];exact M
    dsimp![HX];rw[H];dsimp!;rw[B];rfl
   |dcs i own k v t L=>
    simp![wS]at w;let{nx,p,E,f,U,J,I,rfl,w}:=g.i _ _ _ w;calc{_,_,_,?_,w};show BC i own.length (evI C ar n L) t (evE C ar n k) (evE C ar n v) LF ρ S=_;delta BC;rw[E];dsimp!;rw[I]
   |aug i e=>
    simp![wS]at w;let{l,T,w}:=w;let{d,p,E,bb,xs,zs,rfl,H,B,h3,w}:=g.e _ _ _ w;calc{_,_,_,?_,w};show D4 i (evE C ar n e) ρ S=_;delta D4;rw[T];dsimp!;rw[E];dsimp!;rw[H,B];dsimp!;rw[if_pos h3]
   |stg i j e=>
    simp![wS]at w;let{d,p,E,mm,x,xs,rfl,H,B,w}:=g.e _ _ _ w;calc{_,_,_,?_,w};show D5 i j (evE C ar n e) ρ S=_;delta D5;rw[E];dsimp!;rw[H];dsimp!;rw[if_pos B]
   |rp i t c es y z z2=>exact w
   |ex e=>simp![evS,Fk];simp![wS]at w;exact g.e _ _ _ w
   |ret e=>simp![evS,IY];simp![wS]at w;exact g.e _ _ _ w
   |i c a b=>
    simp![evS,Oo];simp![wS]at w;calc(g.t _ _ _ w).mono λt p w=>?_;cases t with
    |true=>exact h.ss w
    |false=>exact h.ss w
   |f t L b=>simp![evS,IZ];simp![wS]at w;exact g.i _ _ _ w
   |cnt=>simp![wS]at w;simp![evS];exact⟨_,_,_,rfl,w⟩
   |never=>simp![wS]at w
  .cases ss with
   |nil=>simp![wSs]at w;simp![eY];exact⟨_,_,_,rfl,w⟩
   |cons s ss=>
    simp![wSs]at w;simp![eY,IW];calc(h.s w).mono λf ρ1 p w=>?_;cases f with
    |nx=>exact h.ss w
    |_=>exact w
def kQ{ss:List CS}{b:Rho}{S:Sto}{Q:Fl->Rho->Sto->Prop}(h:rW (wSs C ar n ss) b S Q):OkS (eY C ar n ss b S) Q:=(FJ n).ss h
def FK{s:CS}{ss:List CS}{b:Rho}{S:Sto}{Q:Fl->Rho->Sto->Prop}(h:wS C ar n s b S (wNx (wSs C ar n ss) Q)):rW (wSs C ar (n+1) (s::ss)) b S Q:=h
def Jx{b:Rho}{S:Sto}{Q:Fl->Rho->Sto->Prop}(h:Q .nx b S):rW (wSs C ar (n+1) []) b S Q:=h
end
def Vs{ae:List DefE}{k f:Nat}{d:DefE}{ds:List D}{ρ:Rho}{S:Sto}{Q:D->Sto->Prop}(hd:ae[f]?=aD d)(H:ds.map aD++Zr (d.N.length - ds.length) aT=ρ)(h:rW (wSs (evC ae k) (cz ae) 60 d.body) ρ S (out Q))(b:d.rb=aT:=by rfl):Ok (evC ae (k+1) f ds S) Q:=aV hd H (kQ h) b
section
variable {C:Calls} {ar:Nat->Nat} {A B:Prop} {S S1:Sto} {Q:D->Sto->Prop} {u:List D->Sto->Prop} {E:Nxt->Sto->Prop} {G:Bool->Prop} {H:Int->Prop} {I:D->Prop} {J:Rho->Prop} {L:Bool->Sto->Prop} {M:Fl->Rho->Sto->Prop} {t:Bool} {d x y:D} {i j:Int} {n m f:Nat} {s:Str} {o:BOp} {c p:COp} {ds xs ys:List D} {l h:Option Int} {T:Tg} {ts:List Tg} {ρ N:Rho} {es:List CE} {a b e:CE} {O ob U:Option CE} {own:List Str} {X:CI} {Y:List Cl} {Z:Ty} {w wl:WP (List D)} {wv:WP D} {sa sb:List CS} {ws:WS} {od:Option D} {g:D->D->Sto->(D->Sto->Prop)->Prop}
def O3:wE C ar (n+1) (.non) ρ S Q=(Q .non S):=rfl
def TR:wE C ar (n+1) (.bl t) ρ S Q=(Q (.bl t) S):=rfl
def O4:wE C ar (n+1) (.int i) ρ S Q=(Q (.int i) S):=rfl
def O5:wE C ar (n+1) (.str s) ρ S Q=(Q (.str s) S):=rfl
def O6{x:Str}:wE C ar (n+1) (.txc m x) ρ S Q=(Q (.str x) S):=rfl
def O7:wE C ar (n+1) (.con m i) ρ S Q=(Q (.int i) S):=rfl
def O8:wE C ar (n+1) (.v m) ρ S Q=(yk ρ m λd=>Q d S):=rfl
def O9:wE C ar (n+1) (.tup es) ρ S Q=(gm 60 es (wA C ar n es ρ S λds S1=>Q (.tup ds) S1)):=rfl
def Pa:wE C ar (n+1) (.lst es) ρ S Q=(gm 60 es (wA C ar n es ρ S λds S1=>Q (.ref S1.length) (S1++[.lst ds]))):=rfl
def Jy:wE C ar (n+1) (.dic0) ρ S Q=(Q (.ref (Zd S)) (S++[.dic [] []])):=rfl
def Jz{v:Nat}:wE C ar (n+1) (.dic1 i v) ρ S Q=(∃d,ρ[v]?=aD (aD d)/\Q (.ref (Zd S)) (S++[.dic [kB i] [d]])):=rfl
def Pb:wE C ar (n+1) (.b o a b) ρ S Q=(wE C ar n a ρ S λx S1=>wE C ar n b ρ S1 λy q=>ym o x y q Q):=rfl
def Pc:wE C ar (n+1) (.neg a) ρ S Q=(wE C ar n a ρ S λd S1=>eC d λi=>Q (.int (-i)) S1):=rfl
def Pd:wE C ar (n+1) (.m c a b) ρ S Q=(wE C ar n a ρ S λx S1=>wE C ar n b ρ S1 λy q=>wCm c x y q Q):=rfl
def Pe:wE C ar (n+1) (.h c p a b e) ρ S Q=(wE C ar n a ρ S λx S1=>wE C ar n b ρ S1 λy S2=>wCm c x y S2 λr q=>wBl r λt=>wIf t (wE C ar n e ρ q λz v=>wCm p y z v Q) (Q (.bl a9) q)):=rfl
def Pf:wE C ar (n+1) (.d a b) ρ S Q=(wE C ar n a ρ S λd S1=>wBl d λt=>wIf t (wE C ar n b ρ S1 Q) (Q (.bl a9) S1)):=rfl
def TU:wE C ar (n+1) (.or a b) ρ S Q=(wE C ar n a ρ S λd S1=>wBl d λt=>wIf t (Q (.bl a8) S1) (wE C ar n b ρ S1 Q)):=rfl
def Pg:wE C ar (n+1) (.n a) ρ S Q=(wE C ar n a ρ S λd S1=>wBl d λt=>Q (.bl (!t)) S1):=rfl
def Ph:wE C ar (n+1) (.ite e a b) ρ S Q=(wT C ar n e ρ S λt S1=>wIf t (wE C ar n a ρ S1 Q) (wE C ar n b ρ S1 Q)):=rfl
def TV:wE C ar (n+1) (.x a b) ρ S Q=(aY (aj a) (wTm C ar n a) (wE C ar n a) ρ S (λds S1=>wE C ar n b ρ S1 λi q=>eC i λk=>∃d,atI ds k=aD d/\Q d q) (λd S1=>wE C ar n b ρ S1 λi q=>Ok (ixS d i q) Q)):=rfl
def JA:wE C ar (n+1) (.sl a aT aT) ρ S Q=(wE C ar n a ρ S λd S1=>vG aT aT d S1 Q):=rfl
def JB:wE C ar (n+1) (.sl a aT (aD b)) ρ S Q=(wE C ar n a ρ S λd S1=>wE C ar n b ρ S1 λy q=>eC y λj=>vG aT (aD j) d q Q):=rfl
def JC:wE C ar (n+1) (.sl a (aD b) aT) ρ S Q=(wE C ar n a ρ S λd S1=>wE C ar n b ρ S1 λy q=>eC y λj=>vG (aD j) aT d q Q):=rfl
def JD:wE C ar (n+1) (.sl a (aD b) (aD e)) ρ S Q=(wE C ar n a ρ S λd S1=>wE C ar n b ρ S1 λy q=>eC y λj=>wE C ar n e ρ q λz v=>eC z λk=>vG (aD j) (aD k) d v Q):=rfl
def JE{q:Nat}:wE C ar (n+1) (.cal2 f q a es) ρ S Q=(wE C ar n a ρ S λd S1=>wC2 d (wA C ar n es ρ S1 λds v=>ds.length=ar f/\Ok (C f ds v) Q) (wA C ar n es ρ S1 λds v=>ds.length=ar q/\Ok (C q ds v) Q)):=rfl
def JF:wE C ar (n+1) (.c f es) ρ S Q=(wA C ar n es ρ S λds S1=>ds.length=ar f/\Ok (C f ds S1) Q):=rfl
def JG:wE C ar (n+1) (.s Z a) ρ S Q=(wE C ar n a ρ S λd S1=>Ok (dS Z d S1) Q):=rfl
def Pj:wE C ar (n+1) (.e a) ρ S Q=(aY (aj a) (wTm C ar n a) (wE C ar n a) ρ S (λds S1=>Ok (dR a9 ds S1) Q) (λd S1=>Ok (aC dR d S1) Q)):=rfl
def Pk:wE C ar (n+1) (.all a) ρ S Q=(aY (aj a) (wTm C ar n a) (wE C ar n a) ρ S (λds S1=>Ok (pH a9 ds S1) Q) (λd S1=>Ok (aC pH d S1) Q)):=rfl
def FL:wE C ar (n+1) (.t a) ρ S Q=(aY (aj a) (wTm C ar n a) (wE C ar n a) ρ S (λds S1=>Ok (gH a9 ds S1) Q) (λd S1=>Ok (aC gH d S1) Q)):=rfl
def B3:wE C ar (n+1) (.listOf a) ρ S Q=(aY (aj a) (wTm C ar n a) (wE C ar n a) ρ S (λds S1=>Q (.ref S1.length) (S1++[.lst ds])) (λd S1=>Ok ((am d S1).map λr=>(r.2,S1)) λds S1=>Q (.ref S1.length) (S1++[.lst ds]))):=rfl
def FM:wE C ar (n+1) (.l a) ρ S Q=(wE C ar n a ρ S λd S1=>∃i:Nat,d = .int i/\i<=1000/\Q (.ref S1.length) (S1++[.lst ((Zm i).map λj=>.int (Int.ofNat j))])):=rfl
def Pl:wE C ar (n+1) (.srt a) ρ S Q=(aY (aj a) (wTm C ar n a) (wE C ar n a) ρ S (λds S1=>∃es,fF a9 ds=aD es/\Q (.ref S1.length) (S1++[.lst es])) (λd S1=>∃r es,am d S1=aD r/\fF r.1 r.2=aD es/\Q (.ref S1.length) (S1++[.lst es]))):=rfl
def JH:wE C ar (n+1) (.strI a) ρ S Q=(wE C ar n a ρ S λd S1=>Ok (xv d S1) Q):=rfl
def JI:wE C ar (n+1) (.lenS a) ρ S Q=(wE C ar n a ρ S λd S1=>Ok (nX d S1) Q):=rfl
def JJ:wE C ar (n+1) (.intX a) ρ S Q=(wE C ar n a ρ S λd S1=>Ok (xK d S1) Q):=rfl
def TX:wE C ar (n+1) (.mx a b) ρ S Q=(wA C ar n [a,b] ρ S λds S1=>w2 FE ds S1 Q):=rfl
def TY:wE C ar (n+1) (.mn a b) ρ S Q=(wA C ar n [a,b] ρ S λds S1=>w2 FF ds S1 Q):=rfl
def Pn:wE C ar (n+1) (.rep a) ρ S Q=(wE C ar n a ρ S λd S1=>Ok (gO d S1) Q):=rfl
def JK:wE C ar (n+1) (.o own a (⟨T,X,U⟩::Y)) ρ S Q=(wI C ar n X ρ S λnx S1=>vI own [] λr=>vJ ρ r λq=>wFt T q (Ok (bo nx T (cnd (evT C ar n) U (iU C ar n a Y)) q LF 0 S1) λes v=>es.length<=100000/\Q (.ref v.length) (v++[.lst es]))):=rfl
def Po:wE C ar (n+1) (.app a b) ρ S Q=(wE C ar n a ρ S λd S1=>dW d S1=a8/\wA C ar n [b] ρ S1 λv q=>Ok (xD d v q) Q):=rfl
def FN:wE C ar (n+1) (.q a b) ρ S Q=(wE C ar n a ρ S λd S1=>dW d S1=a8/\wA C ar n [b] ρ S1 λv q=>Ok (fS d v q) Q):=rfl
def Pp:wE C ar (n+1) (.ins a b e) ρ S Q=(wE C ar n a ρ S λd S1=>dW d S1=a8/\wA C ar n [b,e] ρ S1 λv q=>Ok (xF d v q) Q):=rfl
def Pq:wE C ar (n+1) (.cnt a b) ρ S Q=(wE C ar n a ρ S λd S1=>isTup d=a8/\wA C ar n [b] ρ S1 λv q=>Ok (xE d v q) Q):=rfl
def JL:wE C ar (n+1) (.join a b) ρ S Q=(wE C ar n a ρ S λd S1=>nZ d=a8/\wA C ar n [b] ρ S1 λv q=>Ok (gK d v q) Q):=rfl
def Pr:wE C ar (n+1) (.spl a b) ρ S Q=(wE C ar n a ρ S λd S1=>nZ d=a8/\wA C ar n [b] ρ S1 λv q=>Ok (cC d v q) Q):=rfl
def Vt:wA C ar (n+1) [] ρ S u=u [] S:=rfl
def Vu:wA C ar (n+1) (a::es) ρ S u=(wE C ar n a ρ S λd S1=>wA C ar n es ρ S1 λds q=>u (d::ds) q):=rfl
def Ps:wTm C ar (n+1) (.lst es) ρ S u=gm 60 es (wA C ar n es ρ S u):=rfl
def B4:wTm C ar (n+1) (.listOf a) ρ S u=(aY (aj a) (wTm C ar n a) (wE C ar n a) ρ S (λds S1=>u ds S1) (λd S1=>Ok ((am d S1).map λr=>(r.2,S1)) u)):=rfl
def FO:wTm C ar (n+1) (.l a) ρ S u=(wE C ar n a ρ S λd S1=>∃i:Nat,d = .int i/\i<=1000/\u ((Zm i).map λj=>.int (Int.ofNat j)) S1):=rfl
def Pt:wTm C ar (n+1) (.srt a) ρ S u=(aY (aj a) (wTm C ar n a) (wE C ar n a) ρ S (λds S1=>∃es,fF a9 ds=aD es/\u es S1) (λd S1=>∃r es,am d S1=aD r/\fF r.1 r.2=aD es/\u es S1)):=rfl
def JM:wTm C ar (n+1) (.o own a (⟨T,X,U⟩::Y)) ρ S u=(wI C ar n X ρ S λnx S1=>vI own [] λr=>vJ ρ r λq=>wFt T q (Ok (bo nx T (cnd (evT C ar n) U (iU C ar n a Y)) q LF 0 S1) λes v=>es.length<=100000/\u es v)):=rfl
def Pu:wI C ar (n+1) (.p a) ρ S E=(aY (aj a) (wTm C ar n a) (wE C ar n a) ρ S (λds S1=>E (nxL ds) S1) (λd S1=>Fz d S1 E)):=rfl
def TZ:wI C ar (n+1) (.en a) ρ S E=(aY (aj a) (wTm C ar n a) (wE C ar n a) ρ S (λds S1=>E (sB ds) S1) (λd S1=>FA d S1 E)):=rfl
def Pv:wI C ar (n+1) (.chr a) ρ S E=(wE C ar n a ρ S λd S1=>∃z,d = .str z/\z.cps.all (· < 128)=a8/\E (nxL (Bz z)) S1):=rfl
def Pw{ws:List Str}:wI C ar (n+1) (.wds m ws) ρ S E=E (nxL (ws.map D.str)) S:=rfl
def T0:wI C ar (n+1) (.r1 a) ρ S E=(wE C ar n a ρ S λd S1=>eC d λj=>lim j=a8/\E (nxR 0 j.toNat) S1):=rfl
def T1:wI C ar (n+1) (.r2 a b) ρ S E=(wE C ar n a ρ S λd S1=>wE C ar n b ρ S1 λe q=>eC d λi=>eC e λj=>(lim i=a8/\lim j=a8)/\E (nxR i (j - i).toNat) q):=rfl
def Px:wT C ar (n+1) (.m c a b) ρ S L=(wE C ar n a ρ S λx S1=>wE C ar n b ρ S1 λy q=>wCm c x y q λd v=>wBl d λt=>L t v):=rfl
def Py:wT C ar (n+1) (.h c p a b e) ρ S L=(wE C ar n a ρ S λx S1=>wE C ar n b ρ S1 λy v=>wCm c x y v λr q=>wBl r λt=>wIf t (wE C ar n e ρ q λz S4=>wCm p y z S4 λd S5=>wBl d λt=>L t S5) (wBl (.bl a9) λt=>L t q)):=rfl
def Pz:wT C ar (n+1) (.d a b) ρ S L=(wT C ar n a ρ S λt S1=>wIf t (wT C ar n b ρ S1 L) (L a9 S1)):=rfl
def T2:wT C ar (n+1) (.or a b) ρ S L=(wT C ar n a ρ S λt S1=>wIf t (L a8 S1) (wT C ar n b ρ S1 L)):=rfl
def PB:wT C ar (n+1) (.n a) ρ S L=(wT C ar n a ρ S λt S1=>L (!t) S1):=rfl
def T3:wT C ar (n+1) (.bl t) ρ S L=(wE C ar n (.bl t) ρ S λd S1=>cY d S1 L):=rfl
def PC:wT C ar (n+1) (.v m) ρ S L=(wE C ar n (.v m) ρ S λd S1=>cY d S1 L):=rfl
def JN:wT C ar (n+1) (.c f es) ρ S L=(wE C ar n (.c f es) ρ S λd S1=>cY d S1 L):=rfl
def JO:wT C ar (n+1) (.s Z a) ρ S L=(wE C ar n (.s Z a) ρ S λd S1=>cY d S1 L):=rfl
def PD:wT C ar (n+1) (.all a) ρ S L=(wE C ar n (.all a) ρ S λd S1=>cY d S1 L):=rfl
def PF:wT C ar (n+1) (.e a) ρ S L=(wE C ar n (.e a) ρ S λd S1=>cY d S1 L):=rfl
def T4:wT C ar (n+1) (.x a b) ρ S L=(wE C ar n (.x a b) ρ S λd S1=>cY d S1 L):=rfl
def PH:wT C ar (n+1) (.lst es) ρ S L=(wE C ar n (.lst es) ρ S λd S1=>cY d S1 L):=rfl
def PJ:wT C ar (n+1) (.tup es) ρ S L=(wE C ar n (.tup es) ρ S λd S1=>cY d S1 L):=rfl
def Vv:wCl C ar n a [] ρ S u=(wE C ar n a ρ S λd S1=>u [d] S1):=rfl
def Vw:wCl C ar n a (⟨T,X,U⟩::Y) ρ S u=(wFt T ρ (wI C ar n X ρ S λnx S1=>Ok (bo nx T (cnd (evT C ar n) U (iU C ar n a Y)) ρ LF 0 S1) u)):=rfl
def Vx:Ju (wT C ar n) aT w ρ S u=w ρ S u:=rfl
def Vy:Ju (wT C ar n) (aD a) w ρ S u=(wT C ar n a ρ S λt S1=>wIf t (w ρ S1 u) (u [] S1)):=rfl
def PK:wS C ar (n+1) (.a T a) ρ S M=(wE C ar n a ρ S λd S1=>wBd T d ρ λq=>M .nx q S1):=rfl
def JP:wS C ar (n+1) (.j a b e) ρ S M=(wE C ar n a ρ S λx S1=>wE C ar n b ρ S1 λy v=>wE C ar n e ρ v λz S3=>∃q,fC y z x S3=aD q/\M .nx ρ q):=rfl
def PL{f g:CE}:wS C ar (n+1) (.swp e a b f g) ρ S M=(wE C ar n e ρ S λd S1=>∃s t,d = .tup [s,t]/\wE C ar n a ρ S1 λx S2=>wE C ar n b ρ S2 λy S3=>∃q,fC x y s S3=aD q/\wE C ar n f ρ q λz S5=>wE C ar n g ρ S5 λw S6=>∃v,fC z w t S6=aD v/\M .nx ρ v):=rfl
def T5:wS C ar (n+1) (.ex a) ρ S M=(wE C ar n a ρ S λ_ S1=>M .nx ρ S1):=rfl
def PM:wS C ar (n+1) (.ret a) ρ S M=(wE C ar n a ρ S λd S1=>M (.rt d) ρ S1):=rfl
def PN:wS C ar (n+1) (.i a sa sb) ρ S M=(wT C ar n a ρ S λt S1=>wIf t (rW (wSs C ar n sa) ρ S1 M) (rW (wSs C ar n sb) ρ S1 M)):=rfl
def PP:wS C ar (n+1) (.f T X sa) ρ S M=(wI C ar n X ρ S λnx S1=>OkS (c8 nx T (eY C ar n sa) LF 0 ρ S1) M):=rfl
def PQ{i:Nat}{own:List Str}:wS C ar (n+1) (.dcs i own a b T X) ρ S M=(wI C ar n X ρ S λnx S1=>OkS (c8 nx T (uJ S1.length (evE C ar n a) (evE C ar n b)) LF 0 (ρ++Zr own.length aT) (S1++[.dic [] []])) λf _ q=>f = .nx/\M .nx (ρ.set i (aD (.ref S1.length))) q):=rfl
def PR{i:Nat}:wS C ar (n+1) (.aug i a) ρ S M=(∃l,ρ[i]?=aD (aD (.ref l))/\wE C ar n a ρ S λd S1=>∃b xs z,d = .ref b/\S1[l]?=aD (.lst xs)/\S1[b]?=aD (.lst z)/\xs.length+z.length<=100000/\M .nx (ρ.set i (aD (.ref l))) (S1.set l (.lst (xs++z)))):=rfl
def PU{i j:Nat}:wS C ar (n+1) (.stg i j a) ρ S M=(wE C ar n a ρ S λd S1=>∃m x xs,d = .ref m/\az S1 m=aD (x::xs)/\(xs.length<=16000/\i < ρ.length/\j < ρ.length)/\M .nx ((ρ.set i (aD x)).set j (aD (.ref S1.length))) (S1++[.lst xs])):=rfl
def PV:wS C ar (n+1) .cnt ρ S M=M .ct ρ S:=rfl
def T6:wNx ws M .nx ρ S=rW ws ρ S M:=rfl
def T7:wNx ws M (.rt d) ρ S=M (.rt d) ρ S:=rfl
def T8:wNx ws M .bk ρ S=M .bk ρ S:=rfl
def T9:wNx ws M .ct ρ S=M .ct ρ S:=rfl
def PY:wIf (a8 && t) A B=wIf t A B:=rfl
def PZ:wIf (a9 && t) A B=B:=rfl
def P0:wIf (a8 || t) A B=A:=rfl
def JQ:wIf (a9 || t) A B=wIf t A B:=rfl
def JR:wIf (!(a8 && t)) A B=wIf (!t) A B:=rfl
def JS:wIf (!(a9 && t)) A B=A:=rfl
def JT:wIf (!(a8 || t)) A B=B:=rfl
def JU:wIf (!(a9 || t)) A B=wIf (!t) A B:=rfl
def Ua:wIf a8 A B=A:=rfl
def Ub:wIf a9 A B=B:=rfl
def P1:wIf (!a8) A B=B:=rfl
def P2:wIf (!a9) A B=A:=rfl
def Uc:wBl (.bl t) G=G t:=rfl
def P3:eC (.int i) H=H i:=rfl
def P4:yk (aD d::ρ) 0 I=I d:=rfl
def P5:yk (od::ρ) (n+1) I=yk ρ n I:=rfl
def Ud:wFr (aT::ρ) 0 A=A:=rfl
def Ue:wFr (od::ρ) (n+1) A=wFr ρ n A:=rfl
def P6:vH [] ρ A=A:=rfl
def P7:vH (.n m::ts) ρ A=wFr ρ m (vH ts ρ A):=rfl
def Uf:wFt (.n m) ρ A=wFr ρ m A:=rfl
def Ug:wFt (.tup ts) ρ A=vH ts ρ A:=rfl
def P8:vI [] ρ J=J ρ:=rfl
def P9:vI (s::own) ρ J=vI own (aT::ρ) J:=rfl
def Qa:vJ [] ρ J=J ρ:=rfl
def Qc:vJ (od::ρ) N J=vJ ρ N λr=>J (od::r):=rfl
def Uh:gm (n+1) [] A=A:=rfl
def Ui:gm (n+1) (a::es) A=gm n es A:=rfl
def Uj:wNm 0 d (od::ρ) J=J (aD d::ρ):=rfl
def Uk:wNm (n+1) d (od::ρ) J=wNm n d ρ λr=>J (od::r):=rfl
def Ul:wBs [] [] ρ J=J ρ:=rfl
def Um:wBs (.n m::ts) (d::ds) ρ J=wNm m d ρ λr=>wBs ts ds r J:=rfl
def Uo:wBd (.n m) d ρ J=wNm m d ρ J:=rfl
def Uq:wBd (.tup ts) d ρ J=wTp ts d ρ J:=rfl
def Ur:wTp ts (.tup ds) ρ J=wBs ts ds ρ J:=rfl
def JV:wII .add i j S Q=Q (.int (i+j)) S:=rfl
def JW:wII .sub i j S Q=Q (.int (i - j)) S:=rfl
def JX:wII .mul i j S Q=(jF i j=a8/\Q (.int (i * j)) S):=rfl
def JY:wII .mod i j S Q=(0 < j/\Q (.int (i % j)) S):=rfl
def FP:wII .fdiv i j S Q=((0 < j/\j < 1298074214633706907132624082305024)/\Q (.int (i / j)) S):=rfl
def JZ:wII .pow i j S Q=((0<=j/\j<=1000000/\i.natAbs < 2 ^ 64)/\Q (.int (i ^ j.toNat)) S):=rfl
def J0:wTT .add xs ys S Q=(xs.length+ys.length<=9000/\Q (.tup (xs++ys)) S):=rfl
def J1:Fw o i (.int j) S Q=wII o i j S Q:=rfl
def J2:Ab o xs (.tup ys) S Q=wTT o xs ys S Q:=rfl
def J3:Ab o xs (.int j) S Q=Ok (bv o (.tup xs) (.int j) S) Q:=rfl
def Qe:ym o (.int i) y S Q=Fw o i y S Q:=rfl
def Qf:ym o (.tup xs) y S Q=Ab o xs y S Q:=rfl
def Qg:ym o (.ref n) y S Q=Ok (bv o (.ref n) y S) Q:=rfl
def Qh:ym o (.str s) y S Q=Ok (bv o (.str s) y S) Q:=rfl
def Qj:wCI .eq i j S Q=Q (.bl (decide (i=j))) S:=rfl
def Qk:wCm .eq x y S Q=wCx .eq x y S Q:=rfl
def Qm:wCI .ne i j S Q=Q (.bl (!decide (i=j))) S:=rfl
def Qo:wCm .ne x y S Q=wCx .ne x y S Q:=rfl
def Qp:wCI .lt i j S Q=Q (.bl (decide (i < j))) S:=rfl
def Qq:wCm .lt x y S Q=wCx .lt x y S Q:=rfl
def Qu:wCI .le i j S Q=Q (.bl (decide (i<=j))) S:=rfl
def Qv:wCm .le x y S Q=wCx .le x y S Q:=rfl
def Qw:wCI .gt i j S Q=Q (.bl (decide (j < i))) S:=rfl
def Qx:wCm .gt x y S Q=wCx .gt x y S Q:=rfl
def Qy:wCI .ge i j S Q=Q (.bl (decide (j<=i))) S:=rfl
def Qz:wCm .ge x y S Q=wCx .ge x y S Q:=rfl
def QA:wCm .is x y S Q=Ok (ay .is x y S) Q:=rfl
def B5:wCm .t x y S Q=Ok (ay .t x y S) Q:=rfl
def FQ:wCm .s x y S Q=Ok (ay .s x y S) Q:=rfl
def B6:wCm .o x y S Q=Ok (ay .o x y S) Q:=rfl
def Us:wCx c (.int i) y S Q=OO c i y S Q:=rfl
def Ut:wCx c (.tup xs) y S Q=B0 c xs y S Q:=rfl
def Uu:wCx c .non y S Q=Ok (ay c .non y S) Q:=rfl
def Uv:wCx c (.bl t) y S Q=Ok (ay c (.bl t) y S) Q:=rfl
def Uw:wCx c (.str s) y S Q=Ok (ay c (.str s) y S) Q:=rfl
def Ux:wCx c (.ref n) y S Q=Ok (ay c (.ref n) y S) Q:=rfl
def QB:OO c i (.int j) S Q=wCI c i j S Q:=rfl
def QC:B0 .eq xs (.tup []) S Q=Q (.bl xs.isEmpty) S:=rfl
def QD:B0 .ne xs (.tup []) S Q=Q (.bl (!xs.isEmpty)) S:=rfl
def J4:B0 .eq xs (.tup (y::ys)) S Q=Ok (ay .eq (.tup xs) (.tup (y::ys)) S) Q:=rfl
def J5:B0 .ne xs (.tup (y::ys)) S Q=Ok (ay .ne (.tup xs) (.tup (y::ys)) S) Q:=rfl
def QE:vG l h (.tup ds) S Q=Q (.tup (eX ds l h)) S:=rfl
def QF{x:Str}:vG l h (.str x) S Q=(x.length<=100000/\Q (.str (Txt.slice x l h)) S):=rfl
def QG:vG l h (.ref n) S Q=Ok (slS l h (.ref n) S) Q:=rfl
def QH:Fz (.tup ds) S E=E (nxL ds) S:=rfl
def QI:Fz (.ref n) S E=((az S n).isSome=a8/\E (nxS n) S):=rfl
def QJ:FA (.tup ds) S E=E (sB ds) S:=rfl
def QK:FA (.ref n) S E=((az S n).isSome=a8/\E (DU n) S):=rfl
def J6:cY (.bl t) S L=L t S:=rfl
def J7:cY (.tup ds) S L=L (!ds.isEmpty) S:=rfl
def J8:cY (.int i) S L=L (i != 0) S:=rfl
def J9:cY (.ref n) S L=Ok (nS (.ref n) S) L:=rfl
def Vz:w2 g [x,y] S Q=g x y S Q:=rfl
def QL:FE (.int i) (.int j) S Q=Q (.int (if j > i then j else i)) S:=rfl
def QM:FF (.int i) (.int j) S Q=Q (.int (if j < i then j else i)) S:=rfl
def Ka:aY (aj (.lst es)) wl wv ρ S u Q=wl ρ S u:=rfl
def yu:aY (aj (.listOf a)) wl wv ρ S u Q=wl ρ S u:=rfl
def B7:aY (aj (.l a)) wl wv ρ S u Q=wl ρ S u:=rfl
def Kb:aY (aj (.srt a)) wl wv ρ S u Q=wl ρ S u:=rfl
def FR:aY (aj (.o own a Y)) wl wv ρ S u Q=wl ρ S u:=rfl
def Kc:aY (aj (.non)) wl wv ρ S u Q=wv ρ S Q:=rfl
def QN:aY (aj (.bl t)) wl wv ρ S u Q=wv ρ S Q:=rfl
def Kd:aY (aj (.int i)) wl wv ρ S u Q=wv ρ S Q:=rfl
def Ke:aY (aj (.str s)) wl wv ρ S u Q=wv ρ S Q:=rfl
def Kf:aY (aj (.v m)) wl wv ρ S u Q=wv ρ S Q:=rfl
def Kg{x:Str}:aY (aj (.txc m x)) wl wv ρ S u Q=wv ρ S Q:=rfl
def Kh:aY (aj (.con m i)) wl wv ρ S u Q=wv ρ S Q:=rfl
def Ki:aY (aj (.tup es)) wl wv ρ S u Q=wv ρ S Q:=rfl
def FS:aY (aj (.dic0)) wl wv ρ S u Q=wv ρ S Q:=rfl
def FT{v:Nat}:aY (aj (.dic1 i v)) wl wv ρ S u Q=wv ρ S Q:=rfl
def Kj:aY (aj (.b o a b)) wl wv ρ S u Q=wv ρ S Q:=rfl
def Kk:aY (aj (.neg a)) wl wv ρ S u Q=wv ρ S Q:=rfl
def Kl:aY (aj (.m c a b)) wl wv ρ S u Q=wv ρ S Q:=rfl
def Km:aY (aj (.h c p a b e)) wl wv ρ S u Q=wv ρ S Q:=rfl
def Kn:aY (aj (.d a b)) wl wv ρ S u Q=wv ρ S Q:=rfl
def QO:aY (aj (.or a b)) wl wv ρ S u Q=wv ρ S Q:=rfl
def Ko:aY (aj (.n a)) wl wv ρ S u Q=wv ρ S Q:=rfl
def Kq:aY (aj (.ite e a b)) wl wv ρ S u Q=wv ρ S Q:=rfl
def QP:aY (aj (.x a b)) wl wv ρ S u Q=wv ρ S Q:=rfl
def QQ:aY (aj (.sl a O ob)) wl wv ρ S u Q=wv ρ S Q:=rfl
def FV{q:Nat}:aY (aj (.cal2 f q a es)) wl wv ρ S u Q=wv ρ S Q:=rfl
def FY:aY (aj (.c f es)) wl wv ρ S u Q=wv ρ S Q:=rfl
def FZ:aY (aj (.s Z a)) wl wv ρ S u Q=wv ρ S Q:=rfl
def Kr:aY (aj (.e a)) wl wv ρ S u Q=wv ρ S Q:=rfl
def Ks:aY (aj (.all a)) wl wv ρ S u Q=wv ρ S Q:=rfl
def B8:aY (aj (.t a)) wl wv ρ S u Q=wv ρ S Q:=rfl
def F0:aY (aj (.strI a)) wl wv ρ S u Q=wv ρ S Q:=rfl
def F1:aY (aj (.lenS a)) wl wv ρ S u Q=wv ρ S Q:=rfl
def F2:aY (aj (.intX a)) wl wv ρ S u Q=wv ρ S Q:=rfl
def QR:aY (aj (.mx a b)) wl wv ρ S u Q=wv ρ S Q:=rfl
def QS:aY (aj (.mn a b)) wl wv ρ S u Q=wv ρ S Q:=rfl
def Kt:aY (aj (.rep a)) wl wv ρ S u Q=wv ρ S Q:=rfl
def Ku:aY (aj (.app a b)) wl wv ρ S u Q=wv ρ S Q:=rfl
def B9:aY (aj (.q a b)) wl wv ρ S u Q=wv ρ S Q:=rfl
def Kv:aY (aj (.ins a b e)) wl wv ρ S u Q=wv ρ S Q:=rfl
def Kw:aY (aj (.cnt a b)) wl wv ρ S u Q=wv ρ S Q:=rfl
def F3:aY (aj (.join a b)) wl wv ρ S u Q=wv ρ S Q:=rfl
def Kx:aY (aj (.spl a b)) wl wv ρ S u Q=wv ρ S Q:=rfl
def aa{α:Type}{z:Option (α×Sto)}{r:α}{v:Sto}{K:α->Sto->Prop}(e:z=aD (r,v))(q:K r v):Ok z K:=⟨r,v,e,q⟩
def cw(v:t=a8->A)(q:t=a9->B):wIf t A B:=by
 cases t with
 |true=>exact v rfl
 |false=>exact q rfl
end
end Ev
local macro_rules|`(tactic|k_go)=>do
 let f s:Lean.MacroM (Lean.TSyntax ``Lean.Parser.Tactic.simpLemma):=`(Lean.Parser.Tactic.simpLemma|↓$(Lean.mkIdent (`Ev++s.toName)):ident)
 let a ← ("O3 TR O4 O5 O7 O6 O8 O9 Pa Jy Jz Pb Pc Pd Pe Pf TU Pg Ph TV JA JB JC JD JF JE JG Pj Pk FL B3 FM Pl JH JI JJ TX TY Pn JK Po FN Pp Pq JL Pr Vt Vu Ps B4 FO Pt JM Pu TZ T0 Pv Pw T1 Px Py Pz T2 PB T3 PC JN JO PD PF T4 PH PJ Vv Vw Vx Vy PK JP PL T5 PM PN PP PR PU PQ PV T6 T7 T8 T9 PY PZ P0 JQ JR JS JT JU Ua Ub P1 P2 Uc P3 P4 P5 Ud Ue P6 P7 Uf Ug P8 P9 Qa Qc Uh Ui Uj Uk Ul Um Uo Uq Ur JV JW JX JY FP JZ J0 J1 J2 J3 Qe Qf Qg Qh Qj Qk Qm Qo Qp Qq Qu Qv Qw Qx Qy Qz QA B5 FQ B6 Us Ut Uu Uv Uw Ux QB QC QD J4 J5 QE QF QG QH QI QJ QK J6 J7 J8 J9 Vz QL QM Ka yu B7 Kb FR Kc QN Kd Ke Kf Kh Kg Ki FS FT Kj Kk Kl Km Kn QO Ko Kq QP QQ FY FV FZ Kr Ks B8 F0 F1 F2 QR QS Kt Ku B9 Kv Kw F3 Kx Op Oq".splitOn).toArray.mapM f
 `(tactic|dsimp only[$a,*])
local macro_rules |`(tactic|k_is)=>`(tactic|((with_reducible first |refine Ev.kQ ?_ |refine Ev.O1 ?_ |refine Ev.wcl_ok ?_ |skip);(try dsimp only[X5,X6]);(try k_go);(repeat ((with_reducible first |refine Ev.FK ?_ |refine Ev.Jx ?_);(try k_go)))))
namespace Lw
open PySem Ev
variable {p:Nat} {S:Sto} {k:Nat} {Q:D->Sto->Prop}
def F4{t:Dw.D}{d:D}(h:TD p S t d)(q:Q (.bl (Dw.isW t)) S):Ok (evC ae (k+1) 0 [d] S) Q:=by
 calc aV (d:=jk) (ρ:=[aD d]) rfl rfl ?_;dsimp![jk,oM];k_is;calc aa (iK h) ?_;k_is;cases t <;> first |exact q |(k_is;rw[iK h,af];exact q)
def cx{t:Dw.D}{d:D}{a b:Int}(h:TD p S t d)(q:Q (.bl (Dw.ag t a b)) S):Ok (evC ae (k+2) 1 [d,.int a,.int b] S) Q:=by
 calc aV (d:=gW) (ρ:=[aD d,aD (.int a),aD (.int b)]) rfl rfl ?_;dsimp![gW,lH];k_is;calc{rfl,F4 h ?_};k_is;cases t with
 |int i=>
  obtain rfl:=h.int;dsimp![Dw.isW];k_is;dsimp![Dw.ag]at q;cases c:decide (a<=i) with
  |true=>rw[c]at q;exact q
  |false=>rw[c]at q;exact q
 |_=>exact q
def iM{t:Dw.D}{d:D}(h:TD p S t d)(q:Q (.bl (Dw.ag t 0 9999)) S):Ok (evC ae (k+3) 2 [d] S) Q:=by
 calc aV (d:=gX) (ρ:=[aD d]) rfl rfl ?_;dsimp![gX,lI];k_is;exact{rfl,cx h q}
def b9{t:Dw.D}{d:D}{a b:Int}(h:TD p S t d)(q:Q (.bl (Dw.isT t a b)) S):Ok (evC ae (k+1) 3 [d,.int a,.int b] S) Q:=by
 calc aV (d:=jl) (ρ:=[aD d,aD (.int a),aD (.int b)]) rfl rfl ?_;dsimp![jl,oO];k_is;calc aa (iK h) ?_;k_is;cases t with
 |tup T=>
  let{f,rfl,hs}:=h.tup;rw[show gI Ty.tuple (tyT (Dw.D.tup T))=a8 from rfl];k_is;calc aa (bC hs) ?_;k_is;dsimp![Dw.isT]at q;cases c:decide (a<=(T.length:Int)) with
  |true=>rw[c]at q;exact q
  |false=>rw[c]at q;exact q
 |_=>exact q
def QT{t:Dw.D}{d:D}{n:Nat}(h:TD p S t d)(f:n<=1000)(q:∀b,Sm S b->Q (.bl (Dw.bS n t)) b):Ok (evC ae (k+3) 8 [d,.int n] S) Q:=by
 calc aV (d:=f9) (ρ:=[aD d,aD (.int n)]) rfl rfl ?_;dsimp![f9,jV];k_is;calc{rfl,b9 h ?_};k_is;cases t with
 |tup T=>
  let{g,rfl,hs}:=h.tup;rw[Dw.rL];by_cases H:T.length=n
  .rw[decide_eq_true H];k_is;refine dE hs (by lia) (λe=>Dw.ag e 1 99) (λi t d b _ sm c=>{_,rfl,?_}) λb sm=>?_
   .k_is;exact{rfl,cx c {rfl,Sm.refl _}}
   .rw[ce,af];let:=q b sm;simp![Dw.bS,decide_eq_true H,ZR]at this;exact this
  .rw[decide_eq_false H];k_is;let:=q S (Sm.refl S);simp![Dw.bS,decide_eq_false H,ZP]at this;exact this
 |_=>exact q S (Sm.refl S)
def QU{rows:List Dw.D}{d:D}(h:TD p S (.tup rows) d)(hl:rows.length<=4)(L:rows.all (Dw.bS rows.length)=a8)(q:∀u,Sm S u->Q (.bl ((Dw.pE rows rows.length).all id)) u):Ok (evC ae (k+1) 9 [d] S) Q:=by
 let{ds,rfl,hs}:=h.tup;calc aV (d:=bw) (ρ:=[aD (.tup ds),aT]) rfl rfl ?_;dsimp![bw,cg];k_is;calc aa (bC hs) ?_;calc{_,rfl,by lia,?_};k_is;let z:(S++[Ob.lst ((Zm rows.length).map λj=>D.int (Int.ofNat j))])[S.length]?=aD (.lst ((Zm rows.length).map λj=>D.int (Int.ofNat j))):=by rw[Zo (Zc _),Ye];rfl
 let I:∀u,Sm (S++[Ob.lst ((Zm rows.length).map λj=>D.int (Int.ofNat j))]) u->(az u S.length).isSome=a8:=λu sm=>by simp![az,sm _ _ z];rfl
 calc{I _ (Sm.refl _),?_};refine(yf z (by lia) (λa=>(Zm rows.length).flatMap λb=>(Zm rows.length).flatMap λc=>[.bl (Dw.gw rows a b c)]) λa S1 X g=>{_,rfl,?_}).mono λes S2 ⟨ee,sm⟩=>?_
 .k_is;calc{I _ g,?_};calc yf (g _ _ z) (by lia) _ λb S2 hb o=>{_,rfl,?_};k_is;calc{I _ (g.trans o),?_};calc yf (o _ _ (g _ _ z)) (by lia) _ λc S3 Z U=>{_,rfl,?_};k_is;let H:TDs p S3 rows ds:=hs.keep (((Sm.app S _).trans g).trans (o.trans U)).kp;let{ra,xab,M,e2,e3,_}:=Dw.fN L X hb;let{ra',xac,E,C,B,_}:=Dw.fN L X Z;let{rc,xcb,f1,f2,f3,_}:=Dw.fN L Z hb;rw[M]at E;cases E;calc aS H M λd1 T=>?_;let{da,rfl,J}:=T.tup;calc aS J e2 λY y=>?_;obtain rfl:=y.int;calc aS H M λd1 T=>?_;let{da',rfl,v}:=T.tup;calc aS v C λY y=>?_;obtain rfl:=y.int;calc aS H f1 λd1 T=>?_;let{dc,rfl,O}:=T.tup;calc aS O f2 λY y=>?_;obtain rfl:=y.int;k_is;calc{?_,Sm.refl _};rw[<-e3,<-B,<-f3];rfl
 .subst ee
  let e:((Zm rows.length).flatMap λa=>(Zm rows.length).flatMap λb=>(Zm rows.length).flatMap λc=>[D.bl (Dw.gw rows a b c)])=(Dw.pE rows rows.length).map λb=>D.bl b:=by
   let one:∀ (l:List Nat) (f:Nat->D),(l.flatMap λc=>[f c])=l.map f:=λl f=>by
    induction l with
    |nil=>rfl
    |cons a l ih=>rw[Yy,ih];rfl
   delta Dw.pE;simp![List.map_flatMap,Yl,Function.comp_def,one]
  rw[e,ce,af];refine{?_,?_}
  .rw[Za]
   let:=Dw.rN (n:=rows.length) (m:=16) (f:=λa=>(Zm rows.length).flatMap λb=>(Zm rows.length).map λc=>Dw.gw rows a b c) λa _=>by
    let:=Dw.rN (n:=rows.length) (m:=4) (f:=λb=>(Zm rows.length).map λc=>Dw.gw rows a b c) λb _=>by rw[Za,Z7];exact hl
    lia
   delta Dw.pE
   lia
  .exact q _ ((Sm.app S _).trans sm)
def Ky{t:Dw.D}{d:D}(h:TD p S t d)(q:∀c,Sm S c->Q (.bl (Dw.aR t)) c):Ok (evC ae (k+4) 7 [d] S) Q:=by
 calc aV (d:=jm) (ρ:=[aD d]) rfl rfl ?_;dsimp![jm,oP];k_is;calc{rfl,b9 h ?_};k_is;cases t with
 |tup T=>
  let{ds,rfl,hs}:=h.tup;rw[Dw.MS];by_cases H:1<=T.length/\T.length<=4
  .rw[decide_eq_true H.1,decide_eq_true H.2];k_is;refine dE hs (by lia) (Dw.bS T.length) (λi t d c _ sm o=>{_,rfl,?_}) λc sm=>?_
   .k_is;let g:TDs p c T ds:=hs.keep sm.kp;calc aa (bC g) ?_;exact{rfl,QT o (by lia) λj b=>⟨rfl,b⟩}
   .rw[ce,af];k_is;refine cw (λf=>?_) λf=>?_
    .calc{rfl,QU (h.keep sm.kp) H.2 f λj b=>?_};let:=q j (sm.trans b);simp![Dw.aR,decide_eq_true H.1,decide_eq_true H.2,f,ZR]at this;exact this
    .let:=q c sm;simp![Dw.aR,decide_eq_true H.1,decide_eq_true H.2,f,ZR,ZP]at this;exact this
  .let e:(decide (1<=T.length) && decide (T.length<=4))=a9:=by simpa using H
   rw[e];let:=q S (Sm.refl S);simp![Dw.aR,e,ZP]at this;exact this
 |_=>exact q S (Sm.refl S)
def yv{t:Dw.D}{d:D}(h:TD p S t d)(q:Q (.bl (Dw.aB t)) S):Ok (evC ae (k+4) 11 [d] S) Q:=by
 calc aV (d:=gb) (ρ:=[aD d]) rfl rfl ?_;dsimp![gb,jW];k_is;calc{rfl,b9 h ?_};k_is;cases t with
 |tup u=>
  let{y,rfl,hs}:=h.tup;rw[Dw.Di];by_cases f:u.length=2
  .let{b,e,rfl}:=Dw.rO f;rw[decide_eq_true f];k_is;calc aS (i:=0) hs rfl λo g=>{rfl,iM g ?_};k_is;simp![Dw.aB]at q;refine cw (λH=>?_) λH=>?_
   .rw[H]at q;calc aS (i:=1) hs rfl λv T=>{rfl,iM T ?_};k_is;refine cw (λc=>?_) λc=>?_
    .rw[c]at q;calc aS (i:=0) hs rfl λo g=>aS (i:=1) hs rfl λv T=>?_;let{i,rfl,_}:=Dw.ak H;let{j,rfl,_}:=Dw.ak c;obtain rfl:=g.int;obtain rfl:=T.int;exact q
    .rw[c]at q;exact q
   .rw[H]at q;exact q
  .rw[decide_eq_false f];rw[Dw.nJ f]at q;exact q
 |_=>exact q
def F5{t:Dw.D}{d:D}(h:TD p S t d)(q:∀c,Sm S c->Q (.bl (Dw.aN t)) c):Ok (evC ae (k+5) 10 [d] S) Q:=by
 calc aV (d:=g8) (ρ:=[aD d]) rfl rfl ?_;dsimp![g8,lL];k_is;calc{rfl,b9 h ?_};k_is;cases t with
 |tup T=>
  let{ds,rfl,hs}:=h.tup;rw[Dw.MU];by_cases g:T.length<=4
  .rw[decide_eq_true g];k_is;refine dE hs (by lia) Dw.aB (λi t d c _ sm B=>{_,rfl,?_}) λc sm=>?_
   .k_is;exact{rfl,yv B {rfl,Sm.refl _}}
   .rw[ce,af];k_is;let f:TDs p c T ds:=hs.keep sm.kp;cases j:T.all Dw.aB with
    |false=>
     k_is;let:=q c sm;simp![Dw.aN,decide_eq_true g,j,ZR,ZP]at this;exact this
    |true=>
     k_is;calc aa (bC f) ?_;k_is;calc{{by decide,by simp![lim,bAE,decide_eq_true_eq];lia},?_};let en:((T.length:Int) - 1).toNat=T.length - 1:=by lia
     rw[en];refine Je (by lia) (λi=>decide (Dw.eI T i < Dw.ft T (i+1))) (λi o U b=>{_,rfl,?_}) λo b=>?_
     .k_is;let H:TDs p o T ds:=f.keep b.kp;let{b1,e1,I,M,O}:=Dw.zf (i:=i+1) j (by lia);let{b0,e0,z,g2,E}:=Dw.zf (i:=i) j (by lia);let Z:(1:Int)+i=((i+1:Nat):Int):=by lia
      let Y:(1:Int)+i - 1=((i:Nat):Int):=by lia
      rw[Z];calc aS H I λJ u=>?_;let{X,rfl,y}:=u.tup;calc aS (i:=0) y rfl λC v=>?_;obtain rfl:=v.int;let L:((i+1:Nat):Int) - 1=((i:Nat):Int):=by lia
      rw[L];calc aS H z λJ u=>?_;let{X,rfl,y}:=u.tup;calc aS (i:=1) y rfl λC v=>?_;obtain rfl:=v.int;k_is;rw[M,E];exact{rfl,Sm.refl _}
     .rw[ce,af];let:=q o (sm.trans b);simp![Dw.aN,decide_eq_true g,j,ZR]at this;let e:(Dw.kq T).all id=(Zm (T.length - 1)).all λi=>decide (Dw.eI T i < Dw.ft T (i+1)):=by delta Dw.kq;rw[ZY];rfl
      rw[<-e];exact this
  .rw[decide_eq_false g];k_is;let:=q S (Sm.refl S);simp![Dw.aN,decide_eq_false g,ZP]at this;exact this
 |_=>exact q S (Sm.refl S)
def vK{a b c e:Dw.D}{ds:List D}(h:TDs p S [a,b,c,e] ds):∃w x y z,ds=[w,x,y,z]/\TD p S a w/\TD p S b x/\TD p S c y/\TD p S e z:=by
 let{w,_,rfl,H,g}:=h.cons;let{x,_,rfl,f,u}:=g.cons;let{y,_,rfl,q,v}:=u.cons;let{z,_,rfl,o,j}:=v.cons;obtain rfl:=j.nil;exact⟨w,x,y,z,rfl,H,f,q,o⟩
def Ca{t:Dw.D}{d:D}(h:TD p S t d)(q:∀g,Sm S g->Q (.bl (Dw.be t)) g):Ok (evC ae (k+6) 6 [d] S) Q:=by
 calc aV (d:=gZ) (ρ:=[aD d,aT,aT,aT,aT]) rfl rfl ?_;dsimp![gZ,lK];k_is;calc{rfl,b9 h ?_};k_is;cases t with
 |tup T=>
  let{M,rfl,hs}:=h.tup;rw[Dw.Dj];by_cases H:T.length=4
  .let{a,b,c,e,rfl}:=Dw.mq H;let{w,x,y,z,rfl,C,I,B,J}:=vK hs;rw[decide_eq_true H];k_is;calc{rfl,cx C ?_};rw[Dw.zh]at q;k_is;cases j:Dw.ag a 0 8 with
   |false=>rw[j]at q;exact q S (Sm.refl S)
   |true=>
    rw[j]at q;k_is;calc{rfl,cx I ?_};k_is;cases E:Dw.ag b 0 60 with
    |false=>rw[E]at q;exact q S (Sm.refl S)
    |true=>
     rw[E]at q;k_is;calc{rfl,Ky B λv sm=>?_};k_is;cases o:Dw.aR c with
     |false=>rw[o]at q;exact q v sm
     |true=>
      rw[o]at q;k_is;exact{rfl,F5 (J.keep sm.kp) λu f=>q u (sm.trans f)}
  .rw[decide_eq_false H];k_is;let:=q S (Sm.refl S)
   let e:Dw.be (.tup T)=a9:=by
    delta Dw.be;split
    .rename_i L;cases L;exact absurd rfl H
    .rfl
   rw[e]at this;exact this
 |_=>exact q S (Sm.refl S)
def Ag{r s h' t:Dw.D}{rows:List Dw.D}{m d:D}(b:TD p S (.tup [r,s,.tup rows,h']) m)(h:TD p S t d)(q:Q (.bl (Dw.ag t 0 ((rows.length:Int) - 1))) S):Ok (evC ae (k+3) 12 [m,d] S) Q:=by
 let{u,rfl,hs}:=b.tup;let{w,x,y,z,rfl,g,j,c,o}:=vK hs;let{rs,rfl,H}:=c.tup;calc aV (d:=kL) (ρ:=[aD _,aD d]) rfl rfl ?_;dsimp![kL,qJ];k_is;calc aS (i:=2) hs rfl λf T=>?_;let{rs,rfl,H}:=T.tup;calc aa (bC H) ?_;k_is;exact{rfl,cx h q}
def F6{r s h' t:Dw.D}{rows:List Dw.D}{m d:D}(c:TD p S (.tup [r,s,.tup rows,h']) m)(h:TD p S t d)(q:Q (.bl (Dw.bF rows.length t)) S):Ok (evC ae (k+4) 14 [m,d] S) Q:=by
 calc aV (d:=jn) (ρ:=[aD m,aD d]) rfl rfl ?_;dsimp![jn,oQ];k_is;calc aa (Tj h) ?_;k_is;cases t with
 |non=>exact q
 |tup T=>
  let{u,rfl,hs}:=h.tup;dsimp![yg];k_is;calc{rfl,b9 h ?_};k_is;rw[Dw.Di];by_cases H:T.length=2
  .let{b,e,rfl}:=Dw.rO H;rw[decide_eq_true H];k_is;calc aS (i:=0) hs rfl λj g=>{rfl,Ag c g ?_};simp![Dw.bF]at q;k_is;cases E:Dw.ag b 0 ((rows.length:Int) - 1) with
   |false=>rw[E]at q;exact q
   |true=>
    rw[E]at q;k_is;exact aS (i:=1) hs rfl λo f=>{rfl,iM f q}
  .rw[decide_eq_false H];rw[Dw.ui H]at q;exact q
 |_=>exact{rfl,b9 h (by k_is;exact q)}
def Cb{t:Dw.D}{d:D}{n:Nat}(h:TD p S t d)(v:n<=1000)(q:∀c,Sm S c->Q (.bl (Dw.bT n t)) c):Ok (evC ae (k+3) 4 [d,.int n] S) Q:=by
 calc aV (d:=f8) (ρ:=[aD d,aD (.int n)]) rfl rfl ?_;dsimp![f8,jU];k_is;calc{rfl,b9 h ?_};k_is;cases t with
 |tup T=>
  let{y,rfl,hs}:=h.tup;rw[Dw.Dt];by_cases f:T.length<=n
  .rw[decide_eq_true f];k_is;refine dE hs (by lia) (λe=>Dw.ag e 0 ((n:Int) - 1)) (λi t d c _ sm g=>{_,rfl,?_}) λc sm=>?_
   .k_is;exact{rfl,cx g {rfl,Sm.refl _}}
   .rw[ce,af];k_is;cases H:T.all (λe=>Dw.ag e 0 ((n:Int) - 1)) with
    |false=>
     k_is;let:=q c sm;simp![Dw.bT,H,ZP,ZW]at this;exact this
    |true=>
     k_is;let E:=j5 H hs;subst E;refine dE (hs.keep sm.kp) (by lia) (λt=>decide (((Ws (Dw.Dp t) (Dw.aL T):Nat):Int)=1)) (λi t d o u b g=>{_,rfl,?_}) λo b=>?_
     .let{j,rfl,_}:=Dw.ak (Zg.mp H t (Zs u));obtain rfl:=g.int;k_is;calc{rfl,?_};rw[Fp,af];k_is;exact{rfl,Sm.refl _}
     .rw[ce,af];let:=q o (sm.trans b)
      let e:(T.all λt=>decide (((Ws (Dw.Dp t) (Dw.aL T):Nat):Int)=1))=Dw.iy (Dw.aL T):=by
       rw[<-Dw.ug,ZY]
       conv=>rhs;delta Dw.aL
       rw[ZY];rfl
      simp![Dw.bT,H,decide_eq_true f,ZR]at this;rw[e];exact this
  .rw[decide_eq_false f];k_is;let:=q S (Sm.refl S);simp![Dw.bT,decide_eq_false f,ZP]at this;exact this
 |_=>dsimp![Dw.isT];k_is;exact q S (Sm.refl S)
def Uy{a b c e f g i:Dw.D}{ds:List D}(h:TDs p S [a,b,c,e,f,g,i] ds):∃t u v w x y z,ds=[t,u,v,w,x,y,z]/\TD p S a t/\TD p S b u/\TD p S c v/\TD p S e w/\TD p S f x/\TD p S g y/\TD p S i z:=by
 let{t,_,rfl,o,q}:=h.cons;let{u,_,rfl,C,U}:=q.cons;let{v,_,rfl,L,T}:=U.cons;let{w,_,rfl,O,J}:=T.cons;let{x,_,rfl,H,j}:=J.cons;let{y,_,rfl,M,I}:=j.cons;let{z,_,rfl,E,B}:=I.cons;obtain rfl:=B.nil;exact⟨t,u,v,w,x,y,z,rfl,o,C,L,O,H,M,E⟩
def Cc{r s:Int}{h' t:Dw.D}{rows:List Dw.D}{m d:D}(u:TD p S (.tup [.int r,.int s,.tup rows,h']) m)(h:TD p S t d)(q:∀b,Sm S b->Q (.bl (Dw.aO rows.length r s t)) b):Ok (evC ae (k+4) 16 [m,d] S) Q:=by
 let{O,rfl,c}:=u.tup;calc aV (d:=g9) (ρ:=[aD (.tup O),aD d,aT,aT,aT,aT,aT,aT,aT]) rfl rfl ?_;dsimp![g9,lN];k_is;calc{rfl,b9 h ?_};k_is;cases t with
 |tup ts=>
  let{ds,rfl,hs}:=h.tup;rw[Dw.MW];by_cases f:ts.length=7
  .let{U,o,v,B,L,tw,tg,rfl}:=Dw.uh f;let{dk,dj,Z,dl,du,dw,dg,rfl,h1,I,y,M,h5,h6,X}:=Uy hs;rw[decide_eq_true f];k_is;let ht:TDs p S [o,v,B,L] [dj,Z,dl,du]:=ax I (ax y (ax M (ax h5 bA)));refine dE ht (by simp) (λe=>Dw.ag e 0 9999) (λi t d b _ sm Y=>{_,rfl,?_}) λb sm=>?_
   .k_is;exact{rfl,iM Y {rfl,Sm.refl _}}
   .rw[ce,af];k_is;simp![Dw.aO]at q;cases g:[o,v,B,L].all (λe=>Dw.ag e 0 9999) with
    |false=>k_is;rw[g]at q;exact q b sm
    |true=>
     k_is;rw[g]at q;let H:=g;simp![Z0,Xy,Z2,bAE]at H;let{ij,rfl,_}:=Dw.ak H.1;let{j,rfl,_}:=Dw.ak H.2.1;let{il,rfl,_}:=Dw.ak H.2.2.1;obtain rfl:=I.int;obtain rfl:=y.int;obtain rfl:=M.int;calc aS (i:=1) (c.keep sm.kp) rfl λd1 T=>?_;obtain rfl:=T.int;k_is;simp![Dw.leD,WG,ZR]at q;cases z:decide (ij+s<=j) with
     |false=>k_is;rw[z]at q;exact q b sm
     |true=>
      k_is;rw[z]at q;cases C:decide (j<=il) with
      |false=>k_is;rw[C]at q;exact q b sm
      |true=>
       k_is;rw[C]at q;calc{rfl,Ag (u.keep sm.kp) (h1.keep sm.kp) ?_};k_is;cases J:Dw.ag U 0 ((rows.length:Int) - 1) with
       |false=>rw[J]at q;exact q b sm
       |true=>
        rw[J]at q;k_is;calc{rfl,cx (h6.keep sm.kp) ?_};k_is;cases E:Dw.ag tw 0 99 with
        |false=>rw[E]at q;exact q b sm
        |true=>
         rw[E]at q;k_is;calc aS (i:=0) (c.keep sm.kp) rfl λd1 T=>?_;obtain rfl:=T.int;exact{rfl,cx (X.keep sm.kp) (q b sm)}
  .rw[decide_eq_false f];k_is;let:=q S (Sm.refl S);rw[Dw.qh f]at this;exact this
 |_=>dsimp![Dw.isT];k_is;exact q S (Sm.refl S)
def yw{r s:Int}{h' t:Dw.D}{rows:List Dw.D}{m d:D}(g:TD p S (.tup [.int r,.int s,.tup rows,h']) m)(h:TD p S t d)(q:∀b,Sm S b->Q (.bl (Dw.aM rows.length r s t)) b):Ok (evC ae (k+5) 15 [m,d] S) Q:=by
 calc aV (d:=e9) (ρ:=[aD m,aD d]) rfl rfl ?_;dsimp![e9,iZ];k_is;calc{rfl,b9 h ?_};k_is;cases t with
 |tup T=>
  let{o,rfl,hs}:=h.tup;let E:=Dw.Dt T 7;rw[show((7:Nat):Int)=7 from rfl]at E;rw[E];by_cases H:T.length<=7
  .rw[decide_eq_true H];k_is;refine dE hs (by lia) (Dw.aO rows.length r s) (λi t d b _ sm f=>{_,rfl,?_}) λb sm=>?_
   .k_is;exact{rfl,Cc (g.keep sm.kp) f λj c=>⟨rfl,c⟩}
   .rw[ce,af];let:=q b sm;simp![Dw.aM,decide_eq_true H,ZR]at this;exact this
  .rw[decide_eq_false H];let:=q S (Sm.refl S);simp![Dw.aM,decide_eq_false H,ZP]at this;exact this
 |_=>dsimp![Dw.isT];k_is;exact q S (Sm.refl S)
def F7{n:Nat}{r s:Int}{t:Dw.D}{gs:List Dw.D}{g d:D}(y:TD p S (.tup gs) g)(u:gs.all (Dw.aO n r s)=a8)(hl:gs.length<=7)(h:TD p S t d)(q:∀o,Sm S o->Q (.bl (Dw.bO gs t)) o):Ok (evC ae (k+4) 17 [g,d] S) Q:=by
 let{L,rfl,hs}:=y.tup;calc aV (d:=hJ) (ρ:=[aD (.tup L),aD d]) rfl rfl ?_;dsimp![hJ,lP];k_is;calc aa (bC hs) ?_;calc{rfl,Cb h (by lia) λv sm=>?_};k_is;cases H:Dw.bT gs.length t with
 |false=>
  k_is;let:=q v sm
  let e:Dw.bO gs t=a9:=by
   delta Dw.bO;split
   .rw[H];rfl
   .rfl
  rw[e]at this;exact this
 |true=>
  k_is;cases t with
  |tup fs=>
   let{Y,rfl,J}:=h.tup
   let C:fs.all (λe=>Dw.ag e 0 ((gs.length:Int) - 1))=a8:=by
    simp![Dw.bT,bAE]at H;exact H.2.1
   let E:=j5 C J;subst E;refine Jf (hs.keep sm.kp) (by lia) (λi=>decide (Dw.dQ gs i=0) || decide (((i:Nat):Int)∈Dw.aL fs)) (λi t d j B b T=>{_,jt (ZB (by decide) (Zc 4)) (ZB (by decide) (Zc 4)),?_}) λj b=>?_
   .let{M,a2,a3,O,X,U,g,rfl,f,_}:=Dw.rX u B;let{xs,rfl,I}:=T.tup;k_is;calc aS (i:=6) I rfl λZ z=>?_;obtain rfl:=z.int;k_is;rw[f];cases c:decide (g=0) with
    |true=>k_is;exact{rfl,Sm.refl _}
    |false=>
     k_is;simp![ay,j6,af];exact{by simp,Sm.refl _}
   .rw[ce,af];let:=q j (sm.trans b);simp![Dw.bO,H,ZR]at this;let e:(Dw.Bh gs (Dw.aL fs)).all id=(Zm gs.length).all λi=>decide (Dw.dQ gs i=0) || decide (((i:Nat):Int)∈Dw.aL fs):=by delta Dw.Bh;rw[ZY];rfl
    rw[<-e];exact this
  |_=>simp[Dw.bT]at H
def yx{t:Dw.D}{d:D}(h:TD p S t d)(q:∀u,Sm S u->Q (.bl (Dw.bU t)) u):Ok (evC ae (k+7) 13 [d] S) Q:=by
 calc aV (d:=oV) (ρ:=[aD d,aT,aT,aT,aT]) rfl rfl ?_;dsimp![oV,vA];k_is;calc{rfl,b9 h ?_};k_is;cases t with
 |tup M=>
  let{U,rfl,hs}:=h.tup;rw[Dw.Dj];by_cases H:M.length=4
  .let{tm,C,T,X,rfl}:=Dw.mq H;let{Z,da,Y,O,rfl,f,I,v,J}:=vK hs;rw[decide_eq_true H];k_is;rw[Dw.rV]at q;calc{rfl,Ca f λo b=>?_};k_is;cases g:Dw.be tm with
   |false=>rw[g]at q;exact q o b
   |true=>
    rw[g]at q;let{r,s,rows,B,rfl,_}:=Dw.fA g;k_is;calc{rfl,F6 (f.keep b.kp) (I.keep b.kp) ?_};k_is;simp![Dw.eL,Dw.iz,Dw.kr]at q;cases y:Dw.bF rows.length C with
    |false=>rw[y]at q;exact q o b
    |true=>
     rw[y]at q;k_is;calc{rfl,yw (f.keep b.kp) (v.keep b.kp) λz c=>?_};k_is;cases E:Dw.aM rows.length r s T with
     |false=>rw[E]at q;exact q z (b.trans c)
     |true=>
      rw[E]at q;k_is;cases T with
      |tup gs=>
       simp![Dw.aM,bAE,decide_eq_true_eq]at E;exact{rfl,F7 (v.keep (b.trans c).kp) E.2 E.1 (J.keep (b.trans c).kp) λL j=>q L ((b.trans c).trans j)}
      |_=>simp[Dw.aM]at E
  .rw[decide_eq_false H];k_is;let:=q S (Sm.refl S);rw[Dw.Dq H]at this;exact this
 |_=>dsimp![Dw.isT];k_is;exact q S (Sm.refl S)
def Cd{t:Dw.D}{d:D}(h:TD p S t d)(q:Q (.bl (Dw.isW t)) S):Ok (evC ae (k+1) 26 [d] S) Q:=by
 calc aV (d:=hV) (ρ:=[aD d]) rfl rfl ?_;dsimp![hV,lR];k_is;calc aa (iK h) ?_;k_is;cases t <;> first |exact q |(k_is;rw[iK h,af];exact q)
def bt{t:Dw.D}{d:D}{a b:Int}(h:TD p S t d)(q:Q (.bl (Dw.ag t a b)) S):Ok (evC ae (k+2) 27 [d,.int a,.int b] S) Q:=by
 calc aV (d:=gc) (ρ:=[aD d,aD (.int a),aD (.int b)]) rfl rfl ?_;dsimp![gc,jY];k_is;calc{rfl,Cd h ?_};k_is;cases t with
 |int i=>
  obtain rfl:=h.int;dsimp![Dw.isW];k_is;dsimp![Dw.ag]at q;cases c:decide (a<=i) with
  |true=>rw[c]at q;exact q
  |false=>rw[c]at q;exact q
 |_=>exact q
def yy{t:Dw.D}{d:D}(h:TD p S t d)(q:∀S',Sm S S'->Q (.bl (Dw.be t)) S'):Ok (evC ae (k+3) 35 [d] S) Q:=by
 calc aV (d:=c9) (ρ:=[aD d,aT,aT,aT,aT,aT,aT,aT,aT,aT]) rfl rfl ?_;dsimp![c9,gr];k_is;calc aa (b8 h) ?_;k_is;cases t with
 |tup ts=>
  let{ds,rfl,hs}:=h.tup;dsimp![dq];k_is;calc aa (bC hs) ?_;k_is;by_cases hl:ts.length=4
  .let{a,b,c,e,rfl}:=Dw.mq hl;let{w,x,y,z,rfl,h1,h2,h3,h4}:=vK hs;rw[show decide ((([a,b,c,e].length:Nat):Int)=4)=a8 from rfl];k_is;rw[Dw.zh]at q;calc{rfl,bt h1 ?_};k_is;cases e1:Dw.ag a 0 8 with
   |false=>rw[e1]at q;exact q S (Sm.refl S)
   |true=>
   rw[e1]at q;k_is;calc{rfl,bt h2 ?_};k_is;cases e2:Dw.ag b 0 60 with
   |false=>rw[e2]at q;exact q S (Sm.refl S)
   |true=>
   rw[e2]at q;k_is;calc aa (b8 h3) ?_;k_is;simp![ZR]at q;cases c with
   |tup rows=>
    let{rs,rfl,hr}:=h3.tup;dsimp![dq];k_is;calc aa (bC hr) ?_;k_is
    let bad:¬ (1<=rows.length/\rows.length<=4)->Q (D.bl a9) S:=λC=>by
     let:=q S (Sm.refl S);rw[Dw.rQ C]at this;exact this
    by_cases l1:1<=rows.length
    .rw[decide_eq_true (show(1:Int)<=rows.length by lia)];k_is;by_cases l4:rows.length<=4
     .rw[decide_eq_true (show(rows.length:Int)<=4 by lia)];k_is;calc aa (b8 h4) ?_;k_is;cases e with
      |tup H=>
       let{zs,rfl,hz}:=h4.tup;dsimp![dq];k_is;calc aa (bC hz) ?_;k_is;by_cases lh:H.length<=4
       .rw[decide_eq_false (show ¬ (4:Int) < H.length by lia)];k_is;refine vE hr (by lia) (λi J=>(∀j t,j < i->rows[j]?=aD t->Dw.bS rows.length t=a8)/\∃u,J=[aD (D.tup [w,x,D.tup rs,D.tup zs]),aD w,aD x,aD (D.tup rs),aD (D.tup zs),u,aT,aT,aT,aT]) (λi t d J S1 E sm T ⟨iv,u,L⟩=>?_) (λJ S1 sm ⟨iv,u,L⟩=>?_) {λj t B=>absurd B (Yc j),aT,rfl}
        .subst L;refine{_,rfl,?_}
         let fail:Dw.bS rows.length t=a9->∀S',Sm S1 S'->Q (D.bl a9) S':=λC S' sm'=>by
          let:=q S' (sm.trans sm');rw[Dw.rR E C]at this;exact this
         k_is;calc aa (b8 T) ?_;k_is;cases t with
         |tup cs=>
          let{xs,rfl,Y}:=T.tup;dsimp![dq];k_is;calc aa (bC Y) (aa (bC (hr.keep sm.kp)) ?_);k_is;by_cases lc:cs.length=rows.length
          .rw[decide_eq_true (show(cs.length:Int)=rows.length by lia)];k_is;refine dE Y (by lia) (λe=>Dw.ag e 1 99) (λi t d S' _ sm T=>{_,rfl,?_}) λS2 f=>?_
           .k_is;exact{rfl,bt T {rfl,Sm.refl _}}
           .rw[ce,af];k_is;cases ea:cs.all (λe=>Dw.ag e 1 99) with
            |false=>exact fail (by simp![Dw.bS,ea,ZW]) S2 f
            |true=>
             calc⟨{λj t B I=>?_,_,rfl},f⟩;by_cases U:j < i
             .exact iv j t U I
             .obtain rfl:j=i:=by lia
              rw[E]at I;cases I;simp![Dw.bS,ea,decide_eq_true lc,Z2]
          .rw[decide_eq_false (show ¬ (cs.length:Int)=rows.length by lia)];exact fail (by simp![Dw.bS,decide_eq_false lc,ZP]) S1 (Sm.refl _)
         |_=>exact fail rfl S1 (Sm.refl _)
        .subst L
         let ha:rows.all (Dw.bS rows.length)=a8:=Zg.mpr λt E=>by
          let{j,B,rfl}:=Yr E;exact iv j _ B (gEG B)
         k_is;let hr1:=hr.keep sm.kp;refine vE hr1 (by lia) (λi J=>(∀a b c,a < i->b < rows.length->c < rows.length->Dw.gw rows a b c=a8)/\∃u v Z,J=[aD (D.tup [w,x,D.tup rs,D.tup zs]),aD w,aD x,aD (D.tup rs),aD (D.tup zs),u,v,Z,aT,aT]) (λi t d J S2 E f T ⟨iv,u,v,Z,L⟩=>?_) (λJ S2 f ⟨iv,u,v,Z,L⟩=>?_) {λa b c ha=>absurd ha (Yc a),_,aT,aT,rfl}
         .subst L;calc{_,rfl,?_};let hi:i < rows.length:=(Zb.mp E).1;let{r,e0,f1,f2,_}:=Dw.fN ha hi (show 0 < rows.length by lia);rw[E]at f1;cases f1
          let lr:r.length=rows.length:=by
           let:=Zg.mp ha _ (Zs E);simp![Dw.bS,bAE,decide_eq_true_eq]at this;exact this.1
          let{xs,rfl,Y}:=T.tup;k_is;refine Ly Y (by lia) (λc J=>(∀b c',b < rows.length->c' < c->Dw.gw rows i b c'=a8)/\∃v Z,J=[aD (D.tup [w,x,D.tup rs,D.tup zs]),aD w,aD x,aD (D.tup rs),aD (D.tup zs),aD (D.tup xs),v,Z,aT,aT]) (λc t d J S3 hct o T ⟨M,v,Z,L⟩=>?_) (λJ S3 o ⟨M,v,Z,L⟩=>?_) {λb c _ hc=>absurd hc (Yc c),v,Z,rfl}
          .subst L;let hc:c < rows.length:=by rw[<-lr];exact(Zb.mp hct).1
           let{r',xac,g1,g2,g3,_}:=Dw.fN ha hi hc;rw[E]at g1;cases g1;rw[hct]at g2;cases g2;obtain rfl:=T.int;calc{_,jt (by simp) (by simp),?_};k_is;refine Fu (Y.keep o.kp) (by lia) (λb=>!Dw.gw rows i b c) (λb t d S4 hbt g T=>{_,jt (by simp) (by simp),?_}) λes S4 g ee=>?_
           .let C:b < rows.length:=by rw[<-lr];exact(Zb.mp hbt).1
            let{r',xab,g1,g2,g4,_}:=Dw.fN ha hi C;rw[E]at g1;cases g1;rw[hbt]at g2;cases g2;obtain rfl:=T.int;let{rc,xcb,k1,k2,k3,_}:=Dw.fN ha hc C;k_is;calc aS (hr1.keep ((f.trans o).trans g).kp) k1 λd1 X=>?_;let{dc,rfl,hdc}:=X.tup;calc aS hdc k2 λd2 t2=>?_;obtain rfl:=t2.int;k_is
            let et:decide (xac+xcb < xab) = !Dw.gw rows i b c:=by
             delta Dw.gw;rw[g4,g3,k3];by_cases hh:xab<=xac+xcb
             .rw[decide_eq_true hh,decide_eq_false (by lia)];rfl
             .rw[decide_eq_false hh,decide_eq_true (by lia)];rfl
            rw[et];cases !Dw.gw rows i b c with
            |true=>exact{rfl,Sm.refl _}
            |false=>exact{rfl,Sm.refl _}
           .calc aa Ji ?_;k_is;rw[ee,lr];cases et:(Zm rows.length).all λb=>!!Dw.gw rows i b c with
            |true=>
             k_is;calc{{λb c' C hc'=>?_,_,_,rfl},(g.trans (Sm.app _ _)).trans (Sm.app _ _)};by_cases hcc:c' < c
             .exact M b c' C hcc
             .obtain rfl:c'=c:=by lia
              let:=Zg.mp et b (ZU.mpr C)
              simpa using this
            |false=>
             k_is;let{b,C,hf}:=List.all_eq_false.mp et;let hf':Dw.gw rows i b c=a9:=by simpa using hf
             let:=q (S4++[Ob.lst es]++[Ob.lst []]) ((((sm.trans f).trans o).trans g).trans ((Sm.app _ _).trans (Sm.app _ _)));rw[Dw.rT hi (ZU.mp C) hc hf']at this;exact this
          .subst L;k_is;calc⟨{λa b c ha' C hc=>?_,_,_,_,rfl},o⟩;by_cases hai:a < i
           .exact iv a b c hai C hc
           .obtain rfl:a=i:=by lia
            exact M b c C (by rw[lr];exact hc)
         .subst L;let hg:Dw.aR (.tup rows)=a8:=Dw.Bf l1 l4 ha λa b c h1 h2 h3=>iv a b c h1 h2 h3;rw[hg]at q;simp![ZR]at q;k_is;let hz2:=hz.keep (sm.trans f).kp;refine vE hz2 (by lia) (λi J=>(∀j t,j < i->H[j]?=aD t->Dw.aB t=a8)/\(∀j,j+1 < i->Dw.eI H j < Dw.ft H (j+1))/\∃bh u',J=[aD (D.tup [w,x,D.tup rs,D.tup zs]),aD w,aD x,aD (D.tup rs),aD (D.tup zs),u,v,Z,aD (.int bh),u']/\(i=0->bh = -1)/\∀j,i=j+1->bh=Dw.eI H j) (λi t d J S3 E o T ⟨iv1,M,bh,u',L,z0,z1⟩=>?_) (λJ S3 o ⟨iv1,M,bh,u',L,z0,z1⟩=>?_) ⟨λj t B=>absurd B (Yc j),λj B=>absurd B (Yc _),-1,aT,rfl,λ_=>rfl,λj B=>absurd B (Wh j).symm⟩
          .subst L;refine{_,rfl,?_}
           let fail:Dw.aB t=a9->∀S',Sm S3 S'->Q (D.bl a9) S':=λC S' sm'=>by
            let:=q S' (((sm.trans f).trans o).trans sm');rw[Dw.Bg E C]at this;exact this
           k_is;calc aa (b8 T) ?_;k_is;cases t with
           |tup cs=>
            let{xs,rfl,Y}:=T.tup;dsimp![dq];k_is;calc aa (bC Y) ?_;k_is;by_cases lc:cs.length=2
            .rw[decide_eq_true (show(cs.length:Int)=2 by lia)];let{tb,te,rfl}:=Dw.rO lc;k_is;refine dE Y (by simp) (λe=>Dw.ag e 0 9999) (λi t d S' _ sm T=>{_,rfl,?_}) λS4 g=>?_
             .k_is;exact{rfl,bt T {rfl,Sm.refl _}}
             .rw[ce,af];k_is;cases ea:[tb,te].all (λe=>Dw.ag e 0 9999) with
              |false=>
               calc fail ?_ S4 g;let O:(Dw.ag tb 0 9999 && Dw.ag te 0 9999)=a9:=by simpa using ea
               simp![Dw.aB];rw[<-Wq,O,ZP]
              |true=>
               let O:Dw.ag tb 0 9999=a8/\Dw.ag te 0 9999=a8:=by simpa using ea
               let{ib,rfl,b0,b1}:=Dw.ak O.1;let{ie,rfl,c0,c1}:=Dw.ak O.2;k_is;let hx4:=Y.keep g.kp;calc aS (i:=0) hx4 rfl λd1 X=>?_;obtain rfl:=X.int;calc aS (i:=1) hx4 rfl λd1 X=>?_;obtain rfl:=X.int;k_is;by_cases lt:ib < ie
               .rw[decide_eq_false (show ¬ ie<=ib by lia)];k_is;calc aS (i:=0) hx4 rfl λd1 X=>?_;obtain rfl:=X.int;k_is
                let st:Dw.aB (.tup [.int ib,.int ie])=a8:=by
                 simp![Dw.aB,O.1,O.2,Dw.ltD,decide_eq_true lt,Xl]
                let fb:Dw.ft H i=ib:=by delta Dw.ft;rw[E]
                let ff:Dw.eI H i=ie:=by delta Dw.eI;rw[E]
                by_cases lb:ib<=bh
                .rw[decide_eq_true lb];k_is;let:=q S4 (((sm.trans f).trans o).trans g);let hi:i < H.length:=(Zb.mp E).1;cases i with
                 |zero=>have:=z0 rfl;lia
                 |succ j=>
                  let e:=z1 j rfl;rw[Dw.nI (i:=j) hi (by rw[fb,<-e];lia)]at this;exact this
                .rw[decide_eq_false lb];k_is;calc aS (i:=1) hx4 rfl λd1 X=>?_;obtain rfl:=X.int;refine⟨{λj t B I=>?_,λj B=>?_,ie,_,rfl,λh=>absurd h (Wh i),λj B=>?_},g⟩
                 .by_cases U:j < i
                  .exact iv1 j t U I
                  .obtain rfl:j=i:=by lia
                   rw[E]at I;cases I;exact st
                 .by_cases U:j+1 < i
                  .exact M j U
                  .obtain rfl:i=j+1:=by lia
                   rw[fb,<-z1 j rfl]
                   lia
                 .obtain rfl:i=j:=by lia
                  exact ff.symm
               .rw[decide_eq_true (show ie<=ib by lia)];calc fail ?_ S4 g;simp![Dw.aB,Dw.ltD,decide_eq_false lt,ZW]
            .rw[decide_eq_false (show ¬ (cs.length:Int)=2 by lia)];exact fail (Dw.nJ lc) S3 (Sm.refl _)
           |_=>exact fail rfl S3 (Sm.refl _)
          .subst L;k_is;let:=q S3 ((sm.trans f).trans o);rw[Dw.wR lh (λj d B=>iv1 j d (Zb.mp B).1 B) λj B=>M j B]at this;exact this
       .rw[decide_eq_true (show(4:Int) < H.length by lia)];let:=q S (Sm.refl S);rw[Dw.pF lh,ZW]at this;exact this
      |_=>have:=q S (Sm.refl S);simp![Dw.aN,ZW]at this;exact this
     .rw[decide_eq_false (show ¬ (rows.length:Int)<=4 by lia)];exact bad λz=>l4 z.2
    .rw[decide_eq_false (show ¬ (1:Int)<=rows.length by lia)];exact bad λz=>l1 z.1
   |_=>exact q S (Sm.refl S)
  .rw[decide_eq_false (show ¬ ((ts.length:Nat):Int)=4 by lia)];let:=q S (Sm.refl S)
   let e:Dw.be (.tup ts)=a9:=by
    delta Dw.be;split
    .rename_i he;cases he;exact absurd rfl hl
    .rfl
   rw[e]at this;exact this
 |_=>exact q S (Sm.refl S)
def yz{r s:Int}{h' t:Dw.D}{rows:List Dw.D}{m d:D}(hm:TD p S (.tup [.int r,.int s,.tup rows,h']) m)(h:TD p S t d)(q:∀S',Sm S S'->Q (.bl (Dw.aO rows.length r s t)) S'):Ok (evC ae (k+3) 36 [d,m] S) Q:=by
 let{ms,rfl,C}:=hm.tup;calc aV (d:=dh) (ρ:=[aD d,aD (.tup ms),aT]) rfl rfl ?_;dsimp![dh,gu];k_is;calc aa (b8 h) ?_;k_is;cases t with
 |tup X=>
  let{ds,rfl,hs}:=h.tup;dsimp![dq];k_is;calc aa (bC hs) ?_;k_is;by_cases hl:X.length=7
  .rw[decide_eq_true (show(X.length:Int)=7 by omega)];let{tk,g,b,o,B,tw,Z,rfl}:=Dw.uh hl;k_is;simp![Dw.aO]at q;calc aS (i:=0) hs rfl λJ T=>aS (i:=2) C rfl λM y=>?_;let{rs,rfl,hr}:=y.tup;calc aa (bC hr) ?_;k_is;calc{rfl,bt T ?_};k_is
   let fail:∀S',Sm S S'->([g,b,o,B].all (λe=>Dw.ag e 0 9999) && ((Dw.leD g s b && Dw.leD b 0 o) && (Dw.ag tk 0 ((rows.length:Int) - 1) && (Dw.ag tw 0 99 && Dw.ag Z 0 r))))=a9->Q (.bl a9) S':=λS' sm e=>by
    let:=q S' sm;rw[e]at this;exact this
   cases c3:Dw.ag tk 0 ((rows.length:Int) - 1) with
   |false=>exact fail S (Sm.refl S) (by rw[c3];simp)
   |true=>
   k_is;let Y:TDs p S [g,b,o,B] (eX ds (aD 1) (aD 5)):=hs.cut (aD 1) (aD 5);refine vE Y (by simp) (λi L=>(∀j t,j < i->[g,b,o,B][j]?=aD t->Dw.ag t 0 9999=a8)/\∃u,L=[aD (D.tup ds),aD (D.tup ms),u]) (λi t d L E ht sm td ⟨I,u,U⟩=>?_) (λL E sm ⟨I,u,U⟩=>?_) {λj t hj=>absurd hj (Yc j),aT,rfl}
   .subst U;calc{_,rfl,?_};k_is;calc{rfl,bt td ?_};k_is;cases c:Dw.ag t 0 9999 with
    |false=>
     refine fail E sm ?_
     let:[g,b,o,B].all (λe=>Dw.ag e 0 9999)=a9:=by
      rw[Z8];intro z;let:=Zg.mp z t (Zs ht);rw[c]at this;cases this
     rw[this,ZP]
    |true=>
     calc{{λj t' hj v=>?_,_,rfl},Sm.refl _};by_cases O:j < i
     .exact I j t' O v
     .obtain rfl:j=i:=by omega
      rw[ht]at v;cases v;exact c
   .subst U;let wj:=I 0 g (by simp) rfl;let wf:=I 1 b (by simp) rfl;let wl:=I 2 o (by simp) rfl;let wu:=I 3 B (by simp) rfl;let wa:[g,b,o,B].all (λe=>Dw.ag e 0 9999)=a8:=by simp[wj,wf,wl,wu]
    k_is;let H:=hs.keep sm.kp;let f:=C.keep sm.kp;calc aS (i:=5) H rfl λJ T=>{rfl,bt T ?_};k_is;cases c4:Dw.ag tw 0 99 with
    |false=>exact fail E sm (by rw[c4];simp)
    |true=>
    k_is;calc aS (i:=6) H rfl λJ T=>aS (i:=0) f rfl λM y=>?_;obtain rfl:=y.int;calc{rfl,bt T ?_};k_is;cases c5:Dw.ag Z 0 r with
    |false=>exact fail E sm (by rw[c5];simp)
    |true=>
    k_is;let{ij,rfl,_}:=Dw.ak wj;let{jf,rfl,_}:=Dw.ak wf;let{il,rfl,_}:=Dw.ak wl;calc aS (i:=2) H rfl λJ T=>aS (i:=1) H rfl λM y=>aS (i:=1) f rfl λd3 t3=>?_;obtain rfl:=T.int;obtain rfl:=y.int;obtain rfl:=t3.int;k_is;let:=q E sm;rw[wa,c3,c4,c5]at this;simp![Dw.leD,WG,ZR,Z2]at this;cases c6:decide (ij+s<=jf) with
    |false=>rw[c6]at this;exact this
    |true=>
     rw[c6]at this;k_is;calc aS (i:=3) H rfl λJ T=>aS (i:=2) H rfl λM y=>?_;obtain rfl:=T.int;obtain rfl:=y.int;k_is;exact this
  .rw[decide_eq_false (show ¬ (X.length:Int)=7 by omega)];let:=q S (Sm.refl S);rw[Dw.qh hl]at this;exact this
 |_=>exact q S (Sm.refl S)
def Kz{t:Dw.D}{T:List Dw.D}{n:Nat}(h:Dw.wid (.tup T)<=n)(H:t∈T):Dw.wid t<=n:=by
 rw[Dw.wid]at h;let:=Dw.ue H;omega
def KA{T:List Dw.D}{n:Nat}(h:Dw.wid (.tup T)<=n):T.length<=n:=by
 rw[Dw.wid]at h;omega
def Ce{r s:Int}{rows:List Dw.D}{h' Z tf:Dw.D}{th dm da dg df:D}(k1:TD p S (.tup [.int r,.int s,.tup rows,h']) dm)(k3:TD p S Z dg)(k4:TD p S tf df)(hw:Dw.wid tf<=9000)
  (q:∀S',Sm S S'->Q (.bl (Dw.aM rows.length r s Z && Dw.bO (Dw.tupOf Z) tf)) S') :
  rW (wSs (evC ae (k+3)) (cz ae) 57 (dD.drop 3)) [aD th,aD dm,aD da,aD dg,aD df,aT,aT,aT] S (out Q):=by
 dsimp![dD,YD];k_is;calc aa (b8 k3) ?_;k_is;cases Z with
 |tup gs=>
  let{ds,rfl,hs}:=k3.tup;dsimp![dq];k_is;calc aa (bC hs) ?_;k_is;by_cases lg:gs.length<=7
  .rw[decide_eq_false (show ¬ (7:Int) < gs.length by omega)];k_is;calc aa (b8 k4) ?_;k_is;cases tf with
   |tup fs=>
    let{L,rfl,hf}:=k4.tup;let lf:=KA hw;dsimp![dq];k_is;simp![Dw.tupOf]at q;refine vE hs (by omega) (λi C=>(∀j t,j < i->gs[j]?=aD t->Dw.aO rows.length r s t=a8)/\∃u,C=[aD th,aD dm,aD da,aD (D.tup ds),aD (D.tup L),u,aT,aT]) (λi t d C S1 H sm T ⟨iv,u,J⟩=>?_) (λC S1 sm ⟨iv,u,J⟩=>?_) {λj t o=>absurd o (Yc j),aT,rfl}
    .subst J;calc{_,rfl,?_};k_is;calc{rfl,yz (k1.keep sm.kp) T λS2 f=>?_};k_is;cases c:Dw.aO rows.length r s t with
     |false=>
      let:=q S2 (sm.trans f);rw[Dw.uj H c]at this;exact this
     |true=>
      calc⟨{λj t' o h=>?_,_,rfl},f⟩;by_cases E:j < i
      .exact iv j t' E h
      .obtain rfl:j=i:=by omega
       rw[H]at h;cases h;exact c
    .subst J
     let ha:gs.all (Dw.aO rows.length r s)=a8:=Zg.mpr λt H=>by
      let{j,o,rfl}:=Yr H;exact iv j _ o (gEG o)
     let eg:Dw.aM rows.length r s (.tup gs)=a8:=by simp![Dw.aM,ha,decide_eq_true lg,Xl]
     rw[eg]at q;simp![ZR,Dw.bO]at q;k_is;let U:=hs.keep sm.kp;let hf1:=hf.keep sm.kp;refine Ly hf1 (by omega) (λi C=>(∀j t,j < i->fs[j]?=aD t->Dw.ag t 0 ((gs.length:Int) - 1)=a8)/\((Dw.aL fs).take i).Nodup/\∃v v',C=[aD th,aD dm,aD da,aD (D.tup ds),aD (D.tup L),u,v,v']) (λi t d C S2 H f T ⟨I,nd,v,v',J⟩=>?_) (λC S2 f ⟨I,nd,v,v',J⟩=>?_) {λj t o=>absurd o (Yc j),by simp,aT,aT,rfl}
     .subst J;let B:i < fs.length:=(Zb.mp H).1;calc{_,jt (by simp) (by simp),?_};k_is;calc aa (bC (U.keep f.kp)) ?_;k_is;calc{rfl,bt T ?_};k_is
      let fail:Dw.bT gs.length (.tup fs)=a9->Q (.bl a9) S2:=λe=>by
       let:=q S2 (sm.trans f);rw[e]at this;exact this
      cases c:Dw.ag t 0 ((gs.length:Int) - 1) with
      |false=>exact fail (Dw.wU H c)
      |true=>
       k_is;let{x,rfl,_}:=Dw.ak c;obtain rfl:=T.int
       let tk:L.take i=((Dw.aL fs).take i).map D.int:=by
        let hp:(fs.take i).all (λe=>Dw.ag e 0 ((gs.length:Int) - 1))=a8:=Zg.mpr λt' ht'=>by
         let{j,o,rfl}:=Yr ht';rw[ZD]at o;rw[Xg];exact I j _ (by omega) (gEG (by omega))
        rw[j5 hp (hf.take i),Dw.Bj]
       rw[nK L i (by rw[hf.len];omega),tk];simp![ay,j6,af];k_is;simp![Wt];let gx:(Dw.aL fs)[i]?=aD x:=by delta Dw.aL;rw[Zn,H];rfl
       by_cases O:x∈(Dw.aL fs).take i
       .rw[decide_eq_true O];calc fail (Dw.wW λz=>?_);let y:i < (Dw.aL fs).length:=by rw[Dw.fO];exact B
        rw[<-Yt i (Dw.aL fs)]at z
        let:=(Y0.mp z).2.2 x O x (by
         rw[List.drop_eq_getElem_cons y];rw[gEG y]at gx;cases gx;exact Zf)
        exact this rfl
       .rw[decide_eq_false O];refine{{λj t' o h=>?_,?_,_,_,rfl},Sm.refl _}
        .by_cases E:j < i
         .exact I j t' E h
         .obtain rfl:j=i:=by omega
          rw[H]at h;cases h;exact c
        .let y:i < (Dw.aL fs).length:=by rw[Dw.fO];exact B
         rw[gEG y]at gx;cases gx;rw[ZQ y];exact Y0.mpr {nd,by simp,λa ha' b hb=>by simp at hb;subst hb;exactλz=>O (z▸ha')}
     .subst J;rw[<-Dw.fO,Z4]at nd
      let wa:fs.all (λe=>Dw.ag e 0 ((gs.length:Int) - 1))=a8:=Zg.mpr λt H=>by
       let{j,o,rfl}:=Yr H;exact I j _ o (gEG o)
      rw[Dw.k9 wa nd]at q;simp![ZR]at q;let ei:=j5 wa hf;subst ei;k_is;refine Fu (U.keep f.kp) (by omega) (λi=>decide (0 < Dw.dQ gs i) && !decide (((i:Nat):Int)∈Dw.aL fs)) (λi t d S3 H Y T=>{_,jt (by simp) (by simp),?_}) λL S3 Y ee=>?_
      .let{a1,a2,a3,a4,a5,a6,g,rfl,M,g0}:=Dw.rX ha H;let{xs,rfl,O}:=T.tup;k_is;calc aS (i:=6) O rfl λd1 t1=>?_;obtain rfl:=t1.int;k_is;rw[M];cases c:decide (0 < g) with
       |false=>exact{rfl,Sm.refl _}
       |true=>
        k_is;simp![ay,j6,af];k_is;cases decide (((i:Nat):Int)∈Dw.aL fs) with
        |true=>exact{rfl,Sm.refl _}
        |false=>exact{rfl,Sm.refl _}
      .calc aa Jj ?_;let:=q (S3++[Ob.lst L]++[Ob.lst []]) (((sm.trans f).trans Y).trans ((Sm.app _ _).trans (Sm.app _ _)))
       let e:(Dw.Bh gs (Dw.aL fs)).all id=L.isEmpty:=by
        rw[ee];delta Dw.Bh;rw[ZY,Z1,Zg,Zg]
        let X:∀i,i∈Zm gs.length->((decide (Dw.dQ gs i=0) || decide (((i:Nat):Int)∈Dw.aL fs))=a8 ↔ (!(decide (0 < Dw.dQ gs i) && !decide (((i:Nat):Int)∈Dw.aL fs)))=a8):=λi B=>by
         let{a1,a2,a3,a4,a5,a6,g,e1,M,g0}:=Dw.rX ha (gEG (ZU.mp B));rw[M];by_cases m:((i:Nat):Int)∈Dw.aL fs
         .simp[m]
         .simp![m,decide_false,Xk,Bool.not_false,Z2,decide_eq_true_eq,Bool.not_eq_true',decide_eq_false_iff_not];omega
        exact{λz i B=>(X i B).mp (z i B),λz i B=>(X i B).mpr (z i B)}
       rw[e]at this;exact this
   |_=>have:=q S (Sm.refl S);simp![Dw.bO,ZW]at this;exact this
  .rw[decide_eq_true (show(7:Int) < gs.length by omega)];let:=q S (Sm.refl S);simp![Dw.aM,decide_eq_false lg,ZP]at this;exact this
 |_=>exact q S (Sm.refl S)
def Ah{t:Dw.D}{d:D}(h:TD p S t d)(hw:Dw.wid t<=9000)(q:∀f,Sm S f->Q (.bl (Dw.bU t)) f):Ok (evC ae (k+4) 37 [d] S) Q:=by
 calc aV (d:=gh) (ρ:=[aD d,aT,aT,aT,aT,aT,aT,aT]) rfl rfl ?_;dsimp![gh,dD];k_is;calc aa (b8 h) ?_;k_is;cases t with
 |tup u=>
  let{ds,rfl,hs}:=h.tup;dsimp![dq];k_is;calc aa (bC hs) ?_;k_is;by_cases I:u.length=4
  .rw[decide_eq_true (show(u.length:Int)=4 by omega)];let{tm,j,tg,tf,rfl}:=Dw.mq I;let{dm,J,X,U,rfl,Z,h2,Y,h4}:=vK hs;k_is;rw[Dw.rV]at q;calc aS (i:=0) hs rfl λd1 o=>{rfl,yy o λS1 c=>?_};k_is;cases E:Dw.be tm with
   |false=>rw[E]at q;exact q S1 c
   |true=>
   rw[E]at q;let{r,s,rows,M,rfl,_}:=Dw.fA E;k_is;simp![Dw.eL,Dw.iz,Dw.kr,ZR]at q;let B:=Z.keep c.kp;let g:=h2.keep c.kp;let O:=Y.keep c.kp;let k4:=h4.keep c.kp;calc aa (Fs g) ?_;k_is
   let T:=λ(ea:Dw.bF rows.length j=a8)=>Ce (k:=k) (th:=D.tup [dm,J,X,U]) (da:=J) (Q:=Q) B O k4 (Kz hw (by simp)) λf sm=>by
    let:=q f (c.trans sm);rw[ea]at this;exact this
   dsimp![dD,YD]at T
   let fail:Dw.bF rows.length j=a9->Q (.bl a9) S1:=λe=>by
    let:=q S1 c;rw[e]at this;exact this
   cases j with
   |non=>dsimp![yg];k_is;exact T rfl
   |tup y=>
    let{xs,rfl,v}:=g.tup;dsimp![yg];k_is;calc aa (b8 g) ?_;dsimp![dq];k_is;calc aa (bC v) ?_;k_is;by_cases L:y.length=2
    .let{b,e,rfl}:=Dw.rO L;rw[show decide ((([b,e].length:Nat):Int)=2)=a8 from rfl];k_is;let{ms,rfl,H}:=B.tup;calc aS (i:=0) v rfl λd1 o=>aS (i:=2) H rfl λd2 t2=>?_;let{rs,rfl,hr}:=t2.tup;calc aa (bC hr) ?_;k_is;calc{rfl,bt o ?_};k_is;cases z:Dw.ag b 0 ((rows.length:Int) - 1) with
     |false=>exact fail (by simp![Dw.bF,z,ZP])
     |true=>
      k_is;calc aS (i:=1) v rfl λd3 t3=>{rfl,bt t3 ?_};k_is;cases C:Dw.ag e 0 9999 with
      |false=>exact fail (by simp![Dw.bF,C,ZW])
      |true=>k_is;exact T (by simp![Dw.bF,z,C,Xl])
    .rw[decide_eq_false (show ¬ (y.length:Int)=2 by omega)];exact fail (Dw.ui L)
   |_=>dsimp![yg];k_is;rw[b8 g,af];dsimp![dq];k_is;exact fail rfl
  .rw[decide_eq_false (show ¬ (u.length:Int)=4 by omega)];let:=q S (Sm.refl S);rw[Dw.Dq I]at this;exact this
 |_=>exact q S (Sm.refl S)
def aw{f:Int}(h:Pot p S)(H:0 < f)(c:f < 1073741824)(q:∀ (r:Int) b,0<=r->r < f->Dr p S b->Q (.int r) b):Ok (evC ae (k+1) 25 [.ref p,.int f] S) Q:=by
 let{n,e}:=h;let lt:p < S.length:=(Zb.mp e).1;calc aV (d:=jo) (ρ:=[aD (.ref p),aD (.int f),aT]) rfl rfl ?_;dsimp![jo,oU];k_is;let ix:ixS (.ref p) (.int 0) S=aD (.int n,S):=by simp![ixS,am,az,e];rfl
 calc aa ix ?_;k_is;calc{H,?_};k_is;calc aa ix ?_;k_is;calc{{H,by lia},?_};k_is;calc{S.set p (.lst [.int (n / f)]),by simp![fC,e];rfl,?_};exact q _ _ (Wm _ (by omega)) (X7 _ H) {OG,_,sU lt}
def KB{c:Nat}{ns:List Int}(h:S[0]?=aD (.frz (ns.map D.int)))(q:∀i:Int,Q (.int i) S):Ok (evC ae (k+1) 23 [.ref 0,.int c] S) Q:=by
 calc aV (d:=fc) (ρ:=[aD (.ref 0),aD (.int c)]) rfl rfl ?_;dsimp![fc,i4];k_is;let L:aC dR (.ref 0) S=aD (.int ns.length,S):=by simp![aC,am,az,h,Zp,dR,Za]
 calc aa L ?_;k_is;refine cw (λb=>?_) λb=>?_
 .k_is;let f:=ω b;let{d,g,E}:=OI (ds:=ns.map D.int) (i:=c) (by omega) (by rw[Za];omega);let ix:ixS (.ref 0) (.int c) S=aD (d,S):=by simp![ixS,am,az,h,Zp,g]
  calc aa ix ?_;rw[Zn]at E;cases H:ns[(c:Int).toNat]? with
  |none=>rw[H]at E;cases E
  |some i=>rw[H]at E;cases E;exact q i
 .k_is;exact q 0
def QV{c:Int}(q:∀n:Int,Q (.ref S.length) (S++[.lst [.int n]])):Ok (evC ae (k+1) 24 [.int c] S) Q:=by
 calc aV (d:=kN) (ρ:=[aD (.int c),aT,aT,aT]) rfl rfl ?_;dsimp![kN,qK];k_is;calc{{by decide,by decide,by decide},?_};k_is;refine cw (λ_=>?_) λ_=>?_
 .k_is;calc{{by decide,by decide,by decide},?_};k_is;exact q _
 .k_is;calc{by decide,?_};refine qM (by decide) (λi g f=>f=S/\∃n:Int,∃u v,g=[aD (.int c),aD (.int n),u,v]) (λi g f h ⟨b,n,u,v,E⟩=>?_) (λg f ⟨b,n,u,v,E⟩=>?_) ⟨rfl,0,aT,aT,rfl⟩
  .subst b E;calc{_,rfl,?_};k_is;calc{by decide,?_};k_is;calc{sS (by decide) (by decide),?_};k_is;calc{zZ (by decide) (by decide),by decide,?_};k_is;let o:=Wm ((c % 2147483629+7919 * (0+(i:Int))+1) * 48271) (show(2147483647:Int)≠0 by decide);let j:=X7 ((c % 2147483629+7919 * (0+(i:Int))+1) * 48271) (show(0:Int) < 2147483647 by decide);calc{sS (by omega) (by omega),?_};k_is;calc{sS (by decide) (by decide),?_};k_is;calc{by decide,?_};k_is;calc{zZ (by decide) (by decide),?_};k_is;exact⟨rfl,_,_,_,rfl⟩
  .subst b E;k_is;exact q n
end Lw
namespace Lw
open PySem Ev L2
variable {p:Nat} {S:Sto} {k:Nat} {Q:D->Sto->Prop}
def Ai(r:List Int):TDs p S (r.map Dw.D.int) (r.map D.int):=by
 induction r with
 |nil=>exact bA
 |cons a r I=>exact ax dn I
def yA:∀ (M:List (List Int)),TDs p S (Dw.fu M) (M.map λr=>D.tup (r.map D.int))
 |[]=>bA
 |r::M=>ax (td_tup (Ai r)) (yA M)
def o3{ds:List D}(i:Nat)(d:D)(h:ds[i]?=aD d):(λi=>(ds[i]?).getD .non) i=d:=by
 show(ds[i]?).getD .non=d;rw[h];rfl
def o4{L n:Nat}{es:List D}{M:List (List Int)}(h:Pot p S)(o:S[L]?=aD (.lst es))(nL:L≠p)(B:RowsS p S es M)(H:Dw.Mat (n+1) M)(hn:n < 4)
  (q:∀rows ds g,Dr p S g->TDs p g rows ds->Dw.aR (.tup rows)=a8->Q (.tup ds) g) :
  rW (wSs (evC ae (k+1)) (cz ae) 57 (dZ.drop 3)) [aD (.ref p),aD (.int (1+(n:Int))),aD (.ref L),aT] S (out Q):=by
 dsimp![dZ,YD];k_is;let e1:((1:Int)+n).toNat=n+1:=by lia
 calc{(by simp![lim,bAE,decide_eq_true_eq];lia),?_};rw[e1];refine qM (by lia) (λc ρ g=>Dr p S g/\∃L es M u,ρ=[aD (.ref p),aD (.int (1+(n:Int))),aD (.ref L),u]/\L≠p/\g[L]?=aD (.lst es)/\RowsS p g es M/\Dw.Mat (n+1) M/\Dw.zg (n+1) c M) (λc ρ Y z ⟨T,L,es,M,u,er,nL,o,B,H,tr⟩=>?_) (λρ Y ⟨T,L,es,M,u,er,nL,o,B,H,tr⟩=>?_) {Dr.refl h,L,es,M,aT,rfl,nL,o,B,H,λa b q _ _ hq=>absurd hq (Yc q)}
 .subst er;calc{_,rfl,?_};k_is;calc{(by rw[aq o];rfl),?_};let le:es.length=n+1:=by rw[B.len,H.len]
  refine ic (n+1) (λi=>(es[i]?).getD .non) (λi f g=>Sm Y g/\RowsS p g f ((Zm i).map (Dw.bQ M (n+1) c))) (λi f g C ⟨sm,_⟩=>by rw[<-le];exact jv (sm _ _ o) _ o3) (by lia) (λi f v C ⟨sm,X⟩=>?_) (λes' v ⟨sm,X⟩=>{by rw[X.len,Za,Z7];lia,?_}) {Sm.refl _,RowsS.nil}
  .let{r,m1,lr,_}:=H.at C z;let{a,J,na,za}:=B.row i r m1;let{rc,m2,lrc,_}:=H.at z z;let{b,eb,nb,zb}:=B.row c rc m2;let Z:=sm _ _ za;let zb2:=sm _ _ zb;simp![J,Yu];calc{_,rfl,?_};k_is;calc{(by rw[aq Z];rfl),?_};let lm:(r.map D.int).length=n+1:=by rw[Za];exact lr
   refine ic (n+1) (λj=>.tup [.int j,((r.map D.int)[j]?).getD .non]) (λj f g=>g=v/\f=((Dw.bQ M (n+1) c i).take j).map D.int) (λj f g U ⟨e,_⟩=>by subst e;rw[<-lm];exact z8 (i:=j) Z (by lia) (λj=>.tup [.int j,((r.map D.int)[j]?).getD .non]) λj d hd=>by show D.tup [.int j,((r.map D.int)[j]?).getD .non]=_;rw[hd];rfl) (by lia) (λj f I U ⟨e3,E⟩=>?_) (λes3 I ⟨e3,E⟩=>{by rw[E,Za,ZD];lia,?_}) ⟨rfl,rfl⟩
   .subst e3;let{r',y,_,e4,_}:=H.at C U;rw[m1]at y;cases y;let g1:((r.map D.int)[j]?).getD .non = .int (Dw.mg2 M i j):=by rw[Zn,e4];rfl
    rw[g1];calc{_,jt (by simp) (by simp),?_};k_is;let{r',y,_,e5,_}:=H.at C z;rw[m1]at y;cases y;let{rc',y,_,e6,_}:=H.at z U;rw[m2]at y;cases y;let z0:(0:Int)+(c:Int)=(c:Int):=by lia
    let O:∀ (l:List Int) (m:Nat) (x:Int),l[m]?=aD x->atI (l.map D.int) (m:Int)=aD (.int x):=λl m x hx=>by
     let hlt:=(Zb.mp hx).1;delta atI ixN;rw[if_pos (by lia),if_pos (by rw[Za];lia),ZL];show(l.map D.int)[m]?=_;rw[Zn,hx];rfl
    let i1:ixS (.ref a) (.int (0+(c:Int))) I=aD (.int (Dw.mg2 M i c),I):=by
     simp![ixS,am,aq Z,Zp,z0,O r c _ e5]
    let i2:ixS (.ref L) (.int (0+(c:Int))) I=aD (.ref b,I):=by
     let:atI es (c:Int)=aD (.ref b):=by
      delta atI ixN;rw[if_pos (by lia),if_pos (by lia),ZL];exact eb
     simp![ixS,am,aq (sm _ _ o),Zp,z0,this]
    let i3:ixS (.ref b) (.int (j:Int)) I=aD (.int (Dw.mg2 M c j),I):=by
     simp![ixS,am,aq zb2,Zp,O rc j _ e6]
    calc aa i1 (aa i2 (aa i3 ?_));k_is;let lj:j < (Dw.bQ M (n+1) c i).length:=by rw[Dw.nD];exact U
    let gj:=Dw.uf M (c:=c) (i:=i) U;rw[gEG lj]at gj;rw[E,ZQ lj,Zu,θ gj];exact⟨rfl,rfl⟩
   .subst e3;rw[Yg (by rw[Dw.nD];exact Zc _)]at E;subst E;k_is;let lt:=(Dr.sm T.pot sm).pot.lt;calc{sm.trans (Sm.app _ _),?_};rw[Yk,Zu];exact(X.keep (Sm.app _ _).kp).snoc (by lia) au
  .k_is;let lt:=(Dr.sm T.pot sm).pot.lt;let st:Dw.Mat (n+1) ((Zm (n+1)).map (Dw.bQ M (n+1) c)):=Dw.Dn H z;exact{(T.thenSm sm).thenSm (Sm.app _ _),_,_,_,_,rfl,by lia,au,X.keep (Sm.app _ _).kp,st,Dw.Dk H z tr (Dw.HB H z)}
 .subst er;k_is;calc{(by rw[aq o];rfl),?_};let le:es.length=n+1:=by rw[B.len,H.len]
  refine ic (n+1) (λi=>(es[i]?).getD .non) (λi f g=>g=Y/\f=(M.take i).map λr=>D.tup (r.map D.int)) (λi f g C ⟨e,_⟩=>by subst e;rw[<-le];exact jv o _ o3) (by lia) (λi f v C ⟨e2,J⟩=>?_) (λes' v ⟨e2,J⟩=>{by rw[J,Za,ZD];lia,?_}) ⟨rfl,rfl⟩
  .subst e2;let li:i < M.length:=by rw[H.len];exact C
   let{a,eb,na,za}:=B.row i M[i] (gEG li);simp![eb,Yu];calc{_,rfl,?_};k_is;let tq:aC gH (.ref a) v=aD (.tup (M[i].map D.int),v):=by simp![aC,am,aq za,Zp,gH]
   calc aa tq ?_;calc{rfl,?_};rw[J,ZQ li,Zu];rfl
  .subst e2;rw[Yg (by rw[H.len];exact Zc _)]at J;subst J;show Ok (aD (D.tup _,v)) _;rw[af];exact q (Dw.fu M) _ v T (yA M) (Dw.Dm H (by lia) (by lia) tr)
def F8(h:Pot p S)(q:∀rows ds c,Dr p S c->TDs p c rows ds->Dw.aR (.tup rows)=a8->Q (.tup ds) c):Ok (evC ae (k+2) 28 [.ref p] S) Q:=by
 calc aV (d:=jp) (ρ:=[aD (.ref p),aT,aT,aT]) rfl rfl ?_;dsimp![jp,dZ];k_is;calc{rfl,aw h (by decide) (by decide) λr0 S1 r1 r2 d1=>?_};k_is;obtain⟨n,rfl⟩:∃n:Nat,r0=(n:Int):={r0.toNat,by lia};let e1:((1:Int)+n).toNat=n+1:=by lia
 calc{(by simp![lim,bAE,decide_eq_true_eq];lia),?_};rw[e1];refine yh (by lia) (λi b c=>Dr p S1 c/\∃M:List (List Int),M.length=i/\RowsS p c b M/\∀r∈M,r.length=n+1/\∀x∈r,1<=x/\x<=99) (λi b u hi ⟨d2,M,lM,rM,bM⟩=>{_,rfl,?_}) (λE u ⟨d2,M,lM,rM,bM⟩=>{by rw[rM.len];lia,?_}) {Dr.refl d1.pot,[],rfl,RowsS.nil,λr H=>by simp at H}
 .k_is;calc{(by simp![lim,bAE,decide_eq_true_eq];lia),?_};rw[e1];refine yh (by lia) (λj b c=>Dr p u c/\∃r:List Int,b=r.map D.int/\r.length=j/\∀x∈r,1<=x/\x<=99) (λj b S3 hj ⟨f,r,Z,lr,J⟩=>{_,rfl,?_}) (λE S3 ⟨f,r,Z,lr,J⟩=>{by rw[Z,Za];lia,?_}) {Dr.refl d2.pot,[],rfl,rfl,λx hx=>by simp at hx}
  .k_is;calc{rfl,aw f.pot (by decide) (by decide) λx S4 x1 x2 O=>?_};k_is;calc{f.trans O,r++[1+x],by rw[Z,Zu];rfl,by simp[lr],λy hy=>?_};rcases ZC.mp hy with hy |hy
   .exact J y hy
   .simp at hy;lia
  .subst Z;k_is;let lt:=f.pot.lt;calc{(d2.trans f).thenSm (Sm.app _ _),M++[r],by simp[lM],((rM.keep f.kp).keep (Sm.app _ _).kp).snoc (by lia) au,λr' hr'=>?_};rcases ZC.mp hr' with hr' |hr'
   .exact bM r' hr'
   .simp at hr';subst hr';exact⟨lr,J⟩
 .let lt2:=d2.pot.lt;let f:Dr p S1 (u++[Ob.lst E]):=d2.thenSm (Sm.app _ _);let r3:RowsS p (u++[Ob.lst E]) E M:=rM.keep (Sm.app _ _).kp;let a3:(u++[Ob.lst E])[u.length]?=aD (Ob.lst E):=au;let m3:Dw.Mat (n+1) M:={lM,λr H=>(bM r H).1,λr H=>(bM r H).2};let C:u.length≠p:=by lia
  revert a3 r3 f;generalize u++[Ob.lst E]=S3;intro f r3 a3;k_is;calc⟨rfl,aw f.pot (by decide) (by decide) λx S4 x1 x2 O=>?_⟩;k_is;let a4:=O.kp _ _ C a3;let r4:=r3.keep O.kp;let d5:Dr p S S4:=(d1.trans f).trans O;let hlim:lim (1+(n:Int))=a8:=by simp![lim,bAE,decide_eq_true_eq];lia
  refine cw (λ_=>?_) λ_=>?_
  .k_is;calc{(by rw[aq a4];rfl),?_};let le:E.length=n+1:=by rw[r4.len,lM]
   refine ic (n+1) (λi=>(E[i]?).getD .non) (λi b c=>Dr p S4 c/\∃X:List (List Int),X.length=i/\RowsS p c b X/\∀r∈X,r.length=n+1/\∀x∈r,1<=x/\x<=99) (λi b c hi ⟨v,_⟩=>by rw[<-le];exact jv (v.kp _ _ C a4) _ o3) (by lia) (λi b S5 hi ⟨v,X,Y,g,B⟩=>?_) (λes' S5 ⟨v,X,Y,g,B⟩=>{by rw[g.len];lia,?_}) {Dr.refl O.pot,[],rfl,RowsS.nil,λr H=>by simp at H}
   .let{r,m1,lr,_}:=m3.at hi hi;let{a,Z,na,za}:=r4.row i r m1;simp![Z,Yu];calc{_,rfl,?_};k_is;let za5:=v.kp _ _ na za;calc{(by rw[aq za5];rfl),?_};let lm:(r.map D.int).length=n+1:=by rw[Za];exact lr
    refine ic (n+1) (λi=>((r.map D.int)[i]?).getD .non) (λj b c=>Dr p S5 c/\∃r:List Int,b=r.map D.int/\r.length=j/\∀x∈r,1<=x/\x<=99) (λj b c hj ⟨de,_⟩=>by rw[<-lm];exact jv (de.kp _ _ na za5) _ o3) (by lia) (λj b S6 hj ⟨de,r',o,I,J⟩=>{_,rfl,?_}) (λes6 S6 ⟨de,r',o,I,J⟩=>{by rw[o,Za];lia,?_}) {Dr.refl v.pot,[],rfl,rfl,λx hx=>by simp at hx}
    .k_is;calc{rfl,aw de.pot (by decide) (by decide) λy S7 y1 y2 d7=>?_};k_is;calc{de.trans d7,r'++[99 - y],by rw[o,Zu];rfl,by simp[I],λz hz=>?_};rcases ZC.mp hz with hz |hz
     .exact J z hz
     .simp at hz;lia
    .subst o;k_is;let lt:=de.pot.lt;calc{(v.trans de).thenSm (Sm.app _ _),X++[r'],by simp[Y],((g.keep de.kp).keep (Sm.app _ _).kp).snoc (by lia) au,λr'' hr''=>?_};rcases ZC.mp hr'' with hr'' |hr''
     .exact B r'' hr''
     .simp at hr'';subst hr'';exact⟨I,J⟩
   .let lt:=v.pot.lt;let d6:Dr p S4 (S5++[Ob.lst es']):=v.thenSm (Sm.app _ _);let T:=o4 (k:=k) (Q:=Q) (n:=n) (L:=S5.length) (es:=es') (M:=X) d6.pot au (by lia) (g.keep (Sm.app _ _).kp) {Y,λr H=>(B r H).1,λr H=>(B r H).2} (by lia) λrows ds c U td hg=>q rows ds c ((d5.trans d6).trans U) td hg;dsimp![dZ,YD]at T;k_is;exact T
  .let T:=o4 (k:=k) (Q:=Q) (n:=n) O.pot a4 C r4 m3 (by lia) λrows ds c U td hg=>q rows ds c (d5.trans U) td hg;dsimp![dZ,YD]at T;k_is;exact T
def Cf(h:Pot p S)(q:∀Y ds c,Dr p S c->TDs p c Y ds->Dw.aN (.tup Y)=a8->Q (.tup ds) c):Ok (evC ae (k+2) 29 [.ref p,.int 0] S) Q:=by
 calc aV (d:=hY) (ρ:=[aD (.ref p),aD (.int 0),aT,aT,aT]) rfl rfl ?_;dsimp![hY,lU];k_is;let Z:Dr p S (S++[Ob.lst []]):=Dr.sm h (Sm.app _ _);calc{rfl,aw Z.pot (by decide) (by decide) λX S1 r1 r2 C=>?_};obtain⟨n,rfl⟩:∃n:Nat,X=(n:Int):={X.toNat,by lia};let lt:=h.lt;let a1:S1[S.length]?=aD (Ob.lst []):=C.kp _ _ (by lia) au
 let v:atI [D.int 0,D.int 1,D.int 2,D.int 3,D.int 4] (n:Int)=aD (D.int n):=by
  let:n=0\/n=1\/n=2\/n=3\/n=4:=by lia
  rcases this with rfl |rfl |rfl |rfl |rfl <;> rfl
 calc{_,v,?_};k_is;calc{(by simp![lim,bAE,decide_eq_true_eq];lia),?_};rw[ZL];refine qM (by lia) (λi j c=>Kp p S c/\Pot p c/\∃ (E:List (Int×Int)) (b:Int) (u:Option D),j=[aD (.ref p),aD (.int 0),aD (.ref S.length),aD (.int b),u]/\c[S.length]?=aD (.lst (E.map dA))/\Dw.Good E b/\E.length=i/\0<=b/\b<=20 * i) (λi j f hi ⟨o,z,E,b,u,B,J,H,le,U,b1⟩=>?_) (λj f ⟨o,z,E,b,u,B,J,H,le,U,b1⟩=>?_) {Z.kp.trans C.kp,C.pot,[],0,aT,rfl,a1,Dw.Good.nil,rfl,by lia,by lia}
 .subst B;calc{_,rfl,?_};k_is;calc{rfl,aw z (by decide) (by decide) λx S3 x1 x2 g=>?_};k_is;let M:=g.kp _ _ (show S.length≠p by lia) J;calc{bq M,?_};k_is;calc{rfl,aw g.pot (by decide) (by decide) λy T y1 y2 I=>?_};k_is;let f4:=I.kp _ _ (show S.length≠p by lia) M;rw[gk f4 (by rw[Za];lia)];k_is;let L:S.length < T.length:=(Zb.mp f4).1;let O:(T.set S.length (Ob.lst (E.map dA++[D.tup [D.int (b+1+x),D.int (b+1+x+1+y)]])))[S.length]?=aD (Ob.lst (E.map dA++[D.tup [D.int (b+1+x),D.int (b+1+x+1+y)]])):=sU L;calc aa (Jl O) ?_;k_is;show Ok (aD (D.int (b+1+x+1+y),_)) _;rw[af];k_is;refine{((o.trans g.kp).trans I.kp).setNew (Zc _),I.pot.setNe (by lia),E++[(b+1+x,b+1+x+1+y)],_,_,rfl,by rw[Zu];exact O,H.more U (by lia) (by lia),by simp[le],by lia,by lia}
 .subst B;k_is;let tq:aC gH (.ref S.length) f=aD (.tup (E.map dA),f):=by simp![aC,am,aq J,Zp,gH]
  calc aa tq ?_;k_is;exact q _ _ f ⟨o,z⟩ (vF E) (H.shuts (by lia) (by lia))
def F9(h:Pot p S)(q:∀r s rows hs d b,Dr p S b->TD p b (.tup [.int r,.int s,.tup rows,.tup hs]) d->Dw.be (.tup [.int r,.int s,.tup rows,.tup hs])=a8->Q d b):Ok (evC ae (k+3) 30 [.ref p] S) Q:=by
 calc aV (d:=gf) (ρ:=[aD (.ref p),aT]) rfl rfl ?_;dsimp![gf,jZ];k_is;calc{rfl,aw h (by decide) (by decide) λu J r1 r2 v=>?_};obtain⟨n,rfl⟩:∃n:Nat,u=(n:Int):={u.toNat,by lia}
 obtain⟨r,f,o⟩:∃r:Int,atI [D.int 2,D.int 1,D.int 3,D.int 8,D.int 0] (n:Int)=aD (D.int r)/\0<=r/\r<=8:=by
  let:n=0\/n=1\/n=2\/n=3\/n=4:=by lia
  rcases this with rfl |rfl |rfl |rfl |rfl
  .exact{2,rfl,by decide,by decide}
  .exact{1,rfl,by decide,by decide}
  .exact{3,rfl,by decide,by decide}
  .exact{8,rfl,by decide,by decide}
  .exact{0,rfl,by decide,by decide}
 calc{_,f,?_};k_is;calc{rfl,aw v.pot (by decide) (by decide) λs0 I O U j=>?_};obtain⟨m,rfl⟩:∃n:Nat,s0=(n:Int):={s0.toNat,by lia}
 obtain⟨s,c,hs⟩:∃r:Int,atI [D.int 2,D.int 0,D.int 1,D.int 5,D.int 60] (m:Int)=aD (D.int r)/\0<=r/\r<=60:=by
  let:m=0\/m=1\/m=2\/m=3\/m=4:=by lia
  rcases this with rfl |rfl |rfl |rfl |rfl
  .exact{2,rfl,by decide,by decide}
  .exact{0,rfl,by decide,by decide}
  .exact{1,rfl,by decide,by decide}
  .exact{5,rfl,by decide,by decide}
  .exact{60,rfl,by decide,by decide}
 calc{_,c,?_};k_is;calc{rfl,F8 j.pot λrows X M g z C=>?_};k_is;calc{rfl,Cf g.pot λH L B y T E=>?_};k_is;calc q r s rows H _ B (((v.trans j).trans g).trans y) (td_tup (ax dn (ax dn (ax (td_tup (z.keep y.kp)) (ax (td_tup T) bA))))) ?_;rw[Dw.zh,C,E];simp![Dw.ag,decide_eq_true o.1,decide_eq_true o.2,decide_eq_true hs.1,decide_eq_true hs.2,Xl]
def Ga{r s:Int}{rows:List Dw.D}{hs:Dw.D}{m:D}(h:Pot p S)(hm:TD p S (.tup [.int r,.int s,.tup rows,hs]) m)(hr:0<=r)(hs0:0<=s)(hs1:s<=60)(l1:1<=rows.length)(l4:rows.length<=4)
  (q:∀ (a j f l u w:Int) S',Dr p S S'->Dw.aO rows.length r s (.tup [.int a,.int j,.int f,.int l,.int u,.int w,.int 0])=a8->Q (.tup [.int a,.int j,.int f,.int l,.int u,.int w,.int 0]) S'):Ok (evC ae (k+2) 31 [.ref p,m] S) Q:=by
 let{ms,rfl,H}:=hm.tup;calc aV (d:=gg) (ρ:=[aD (.ref p),aD (.tup ms),aT,aT,aT,aT]) rfl rfl ?_;dsimp![gg,j3];k_is;calc{rfl,aw h (by decide) (by decide) λj S1 j1 j2 L=>?_};k_is;calc aS (i:=1) (H.keep L.kp) rfl λI T=>?_;obtain rfl:=T.int;k_is;calc{rfl,aw L.pot (by decide) (by decide) λx S2 x1 x2 I=>?_};k_is;calc{rfl,aw I.pot (by decide) (by decide) λy S3 y1 y2 M=>?_};obtain⟨n,rfl⟩:∃n:Nat,y=(n:Int):={y.toNat,by lia}
 obtain⟨e,J,he⟩:∃e:Int,atI [D.int 0,D.int 0,D.int x] (n:Int)=aD (D.int e)/\0<=e/\e<=9:=by
  let:n=0\/n=1\/n=2:=by lia
  rcases this with rfl |rfl |rfl
  .exact{0,rfl,by decide,by decide}
  .exact{0,rfl,by decide,by decide}
  .exact{x,rfl,by lia,by lia}
 calc{_,J,?_};k_is;calc{rfl,aw M.pot (by decide) (by decide) λx' S4 a1 a2 d4=>?_};k_is;calc{rfl,aw d4.pot (by decide) (by decide) λX S5 b1 b2 U=>?_};k_is;calc{rfl,aw U.pot (by decide) (by decide) λy' S6 c1 c2 d6=>?_};obtain⟨o,rfl⟩:∃n:Nat,y'=(n:Int):={y'.toNat,by lia}
 obtain⟨g,E,hg⟩:∃e:Int,atI [D.int x',D.int (5+X),D.int 60,D.int 200] (o:Int)=aD (D.int e)/\0<=e/\e<=200:=by
  let:o=0\/o=1\/o=2\/o=3:=by lia
  rcases this with rfl |rfl |rfl |rfl
  .exact{x',rfl,by lia,by lia}
  .exact{5+X,rfl,by lia,by lia}
  .exact{60,rfl,by decide,by decide}
  .exact{200,rfl,by decide,by decide}
 calc{_,E,?_};k_is;calc{rfl,aw d6.pot (by decide) (by decide) λz S7 z1 z2 d7=>?_};k_is;calc{rfl,aw d7.pot (by decide) (by decide) λZ S8 z3 z4 d8=>?_};k_is;calc{rfl,aw d8.pot (by decide) (by decide) λY S9 y3 y4 O=>?_};obtain⟨b,rfl⟩:∃n:Nat,Y=(n:Int):={Y.toNat,by lia}
 obtain⟨u,C,hu⟩:∃v:Int,atI [D.int (j+s+e),D.int (j+z),D.int Z] (b:Int)=aD (D.int v)/\0<=v/\v<=300:=by
  let:b=0\/b=1\/b=2:=by lia
  rcases this with rfl |rfl |rfl
  .exact{j+s+e,rfl,by lia,by lia}
  .exact{j+z,rfl,by lia,by lia}
  .exact{Z,rfl,by lia,by lia}
 calc{_,C,?_};k_is;let c:=(((((((L.trans I).trans M).trans d4).trans U).trans d6).trans d7).trans d8).trans O;calc aS (i:=2) (H.keep c.kp) rfl λdd T=>?_;let{rs,rfl,B}:=T.tup;calc aa (bC B) ?_;k_is;calc{rfl,aw O.pot (by lia) (by lia) λkd Sa ka kb da=>?_};k_is;calc{rfl,aw da.pot (by decide) (by decide) λw Sb w1 w2 db=>?_};k_is;calc q kd j (j+s+e) (j+s+e+g) u w Sb ((c.trans da).trans db) ?_;simp![Dw.aO,Dw.ag,Dw.leD,Z0,Xy,bAE,decide_eq_true_eq,Z2];omega
def Aj{b c:Type}(f:b->c):∀ (l:List b) (j:Nat),(l.map f).eraseIdx j=(l.eraseIdx j).map f
 |[],_=>rfl
 |_::_,0=>rfl
 |a::l,j+1=>by rw[Zx,Yq,Yq,Zx,Aj f l j]
def vL{b:Type}:∀ (l:List b) (j:Nat) (h:j < l.length),(l[j]::l.eraseIdx j).Perm l
 |a::l,0,_=>List.Perm.refl _
 |a::l,j+1,h=>by
  rw[Yq,List.getElem_cons_succ];exact(List.Perm.swap _ _ _).trans ((vL l j (by simpa using h)).cons a)
def Cg{L:Nat}{I:List Int}(h:Pot p S)(f:S[L]?=aD (.lst (I.map D.int)))(O:L≠p)(Y:I.length<=1000)
  (q:∀ (is:List Int) b,Dr p S b->is.Perm I->Q (.ref (Zd b)) (b++[.lst (is.map D.int)])):Ok (evC ae (k+2) 32 [.ref p,.ref L] S) Q:=by
 calc aV (d:=hZ) (ρ:=[aD (.ref p),aD (.ref L),aT]) rfl rfl ?_;dsimp![hZ,lV];k_is;let T:am (.ref L) S=aD (a9,I.map D.int):=by simp![am,aq f,Zp]
 rw[T];show Ok (aD (I.map D.int,S)) _;rw[af];k_is;let lt:=h.lt;let C:Dr p S (S++[Ob.lst (I.map D.int)]):=Dr.sm h (Sm.app _ _);let o:=Sm.app S [Ob.lst (I.map D.int)] _ _ f;let J:L < Zd S:=(Zb.mp f).1;k_is;calc{(by rw[aq o];rfl),?_};let U:(I.map D.int).length=I.length:=Za _;refine ic I.length (λi=>((I.map D.int)[i]?).getD .non) (λi c b=>Ev.Kp p S b/\Pot p b/\∃left as:List Int,b[Zd S]?=aD (.lst (left.map D.int))/\c=as.map D.int/\(as++left).Perm I/\left.length+i=I.length) (λi c b E ⟨kp,_⟩=>by rw[<-U];exact jv (kp _ _ O f) _ o3) (by lia) (λi c g E ⟨kp,pt,left,as,hf,ea,pm,ll⟩=>{_,rfl,?_}) (λZ g ⟨kp,pt,left,as,hf,ea,pm,ll⟩=>{by rw[ea,Za];let:=pm.length_eq;rw[Zi]at this;lia,?_}) {C.kp,C.pot,I,[],au,rfl,by simp,by lia}
 .k_is;calc{bq hf,?_};k_is;let X:aC dR (D.ref (Zd S)) g=aD (.int left.length,g):=by simp![aC,am,aq hf,Zp,dR,Za]
  calc aa X ?_;k_is;calc{rfl,aw pt (by lia) (by lia) λr v r1 r2 y=>?_};k_is;obtain⟨j,rfl⟩:∃n:Nat,r=(n:Int):={r.toNat,by lia};let B:j < left.length:=by lia
  let H:=y.kp _ _ (show Zd S≠p by lia) hf;let u:Zd S < v.length:=(Zb.mp H).1
  let M:fS (.ref (Zd S)) [.int (j:Int)] v=aD (.int left[j],v.set (Zd S) (.lst ((left.map D.int).eraseIdx j))):=by
   let z:ixN (left.map D.int).length (j:Int)=aD j:=by
    delta ixN;rw[if_pos (by lia),if_pos (by rw[Za];lia),ZL]
   simp![fS,chg,H,z,Zn,gEG B,Zp]
  calc aa M ?_;k_is;calc{(kp.trans y.kp).setNew (Zc _),y.pot.setNe (by lia),left.eraseIdx j,as++[left[j]],by rw[sU u,Aj],by rw[ea,Zu];rfl,?_,by rw[List.length_eraseIdx_of_lt B];lia};calc List.Perm.trans ?_ pm;rw[ZK];exact List.Perm.append_left as (vL left j B)
 .subst ea;k_is;let:left=[]:=Yo.mp (by lia);subst this;rw[ZN]at pm;exact q as g ⟨kp,pt⟩ pm
def qQ:∀ (ps:List (Int×Int)),gJ (ps.map dA)=aD ps
 |[]=>rfl
 |q::ps=>by
  rw[Zx];simp![gJ,qQ ps,dA,sx]
def yB{b:Type}(d:b)(l:List b):(Zm l.length).map (λi=>l.getD i d)=l:=by
 apply List.ext_getElem
 .simp
 .intro i h H;simp at h;simp[h]
def Ch(ps:List (Int×Int)):∃q:List (Int×Int),dU ps .non (ps.map dA)=q.map dA/\q.Perm ps:=by
 by_cases h:ps.length < 2
 .exact{ps,by delta dU;rw[if_pos (by rw[Za];exact h)],List.Perm.refl _}
 .let b:0 < ps.length:=by lia
  let c:Pm ps.length (fR (pJ ps) (Os ps.length)):=(sr b).run;refine{(fR (pJ ps) (Os ps.length)).toList.map λi=>ps.getD i (0,0),?_,?_}
  .delta dU;rw[if_neg (by rw[Za];exact h),Za,Yl];calc YG λi f=>?_;let H:=(sv (lt:=pJ ps) b).1 i f;simp[H]
  .let e:(fR (pJ ps) (Os ps.length)).toList.Perm (Zm ps.length):=by
    let:=Array.perm_iff_toList_perm.mp c
    simpa using this
   let:=e.map λi=>ps.getD i (0,0)
   rwa[yB]at this
abbrev GL(n:Nat)(r s:Int)(g:List Int):Prop:=g.length=7/\Dw.aO n r s (.tup (g.map Dw.D.int))=a8
def jw{g:List Int}(h:g.length=7):∃a b c d e f i,g=[a,b,c,d,e,f,i]:=by
 match g,h with
 |[a,b,c,d,e,f,i],_=>exact⟨a,b,c,d,e,f,i,rfl⟩
abbrev i5(M:List (List Int))(i:Nat):Int:=((M[i]?).getD []).getD 6 0
abbrev gE(g:List Int):D:=.tup (g.map D.int)
def Ci(ds:List D)(j:Nat):eX ds aT (aD (j:Int))=ds.take j:=by
 by_cases h:j<=ds.length
 .exact nK ds j h
 .delta eX;rw[Dw.wQ _ _ (by lia),ZL,Nat.min_eq_right (by lia)];show(ds.drop 0).take (ds.length - 0)=ds.take j;rw[YI,Yg (by lia),Yg (by lia)]
def Uz{S:Sto}(M:List (List Int)):TDs p S (Dw.fu M) (M.map gE):=yA M
def Gb{M:List (List Int)}{n:Nat}{r s:Int}(H:∀g∈M,GL n r s g){i:Nat}(h:i < M.length):Dw.dQ (Dw.fu M) i=i5 M i:=by
 let{a,b,c,d,e,f,x,E}:=jw (H M[i] (ZG h)).1;delta Dw.dQ Dw.fu i5;rw[Zn,gEG h,E];rfl
def KC{r s:Int}{rows hs:List Dw.D}{M:List (List Int)}{fx:List Int}{T:Dw.D}(f:Dw.be (.tup [.int r,.int s,.tup rows,.tup hs])=a8)(B:Dw.bF rows.length T=a8)(H:∀g∈M,GL rows.length r s g)(z:M.length<=7)(nd:fx.Nodup)(u:∀x∈fx,0<=x/\x < (M.length:Int))(q:∀j:Nat,j < M.length->i5 M j=0\/(j:Int)∈fx) :
  Dw.bU (.tup [.tup [.int r,.int s,.tup rows,.tup hs],T,.tup (Dw.fu M),.tup (fx.map Dw.D.int)])=a8:=by
 let L:(Dw.fu M).length=M.length:=by delta Dw.fu;rw[Za]
 let o:(Dw.fu M).all (Dw.aO rows.length r s)=a8:=by
  delta Dw.fu;rw[ZY,Zg];exactλg v=>(H g v).2
 let E:Dw.aL (fx.map Dw.D.int)=fx:=by delta Dw.aL;rw[Yl];exact(YG λx _=>rfl).trans (List.map_id fx)
 let c:Dw.bT (Dw.fu M).length (.tup (fx.map Dw.D.int))=a8:=by
  calc Dw.k9 ?_ (by rw[E];exact nd);rw[ZY,Zg];intro x y;let:=u x y;show(decide (0<=x) && decide (x<=((Dw.fu M).length:Int) - 1))=a8;rw[L,bAE,decide_eq_true_eq,decide_eq_true_eq]
  lia
 rw[L]at c;rw[Dw.rV,f];simp![Dw.eL,Dw.iz,Dw.kr,B,ZR,Dw.aM,o,L,decide_eq_true z,Dw.tupOf,Dw.bO,c,E];delta Dw.Bh;rw[ZY,Zg];intro i b;rw[L]at b;let h:=ZU.mp b;show(decide (Dw.dQ (Dw.fu M) i=0) || decide (((i:Nat):Int)∈fx))=a8;rw[Gb H h,YO,decide_eq_true_eq,decide_eq_true_eq];exact q i h
def yC{r s:Int}{rows hs:List Dw.D}{m:D}{G N:Nat}{M:List (List Int)}{is:List Int}{S0:Sto}(h:Pot p S)(k0:Ev.Kp p S0 S)(l0:S0.length<=G)(hm:∀S,TD p S (.tup [.int r,.int s,.tup rows,.tup hs]) m)(em:Dw.be (.tup [.int r,.int s,.tup rows,.tup hs])=a8)
  (hG:S[G]?=aD (.lst (M.map gE))) (L:G≠p) (hN:S[N]?=aD (.lst (is.map D.int))) (nN:N≠p) (nGN:G < N) (hM:∀g∈M,GL rows.length r s g) (h0:∀i,i5 M i=0) (l7:M.length<=7) (pm:is.Perm ((Zm M.length).map λi=>Int.ofNat i))
  (q:∀U tg tf d C,Ev.Kp p S0 C->Pot p C->TD p C (.tup [.tup [.int r,.int s,.tup rows,.tup hs],U,tg,tf]) d->Dw.bU (.tup [.tup [.int r,.int s,.tup rows,.tup hs],U,tg,tf])=a8->Q d C) :
  rW (wSs (evC ae (k+1)) (cz ae) 56 (iJ.drop 4)) [aD (.ref p),aD (.int 7),aD m,aD (.ref G),aD (.ref N),aT,aT,aT] S (out Q):=by
 dsimp![iJ,YD];k_is;let{r',s',rows',hs',eqm,r0,r8,s0,s60,hg,hh}:=Dw.fA em;cases eqm
 let lr:1<=rows.length/\rows.length<=4:=by
  simp![Dw.aR,bAE,decide_eq_true_eq]at hg;exact hg.1
 calc{rfl,aw h (by decide) (by decide) λx B x1 x2 d1=>?_};obtain⟨c,rfl⟩:∃n:Nat,x=(n:Int):={x.toNat,by lia}
 let at4:atI [D.int 0,D.int 1,D.int 2,D.int 3] (c:Int)=aD (D.int c):=by
  let:c=0\/c=1\/c=2\/c=3:=by lia
  rcases this with rfl |rfl |rfl |rfl <;> rfl
 calc{_,at4,?_};k_is;let hN1:=d1.kp _ _ nN hN;let hG1:=d1.kp _ _ L hG
 let hsl:slS aT (aD (c:Int)) (D.ref N) B=aD (D.ref (Zd B),B++[Ob.lst ((is.take c).map D.int)]):=by
  simp![slS,aq hN1,Ci,X1]
 calc aa hsl ?_;k_is;let d2:Dr p B (B++[Ob.lst ((is.take c).map D.int)]):=Dr.sm d1.pot (Sm.app _ _);let hF2:(B++[Ob.lst ((is.take c).map D.int)])[Zd B]?=aD (Ob.lst ((is.take c).map D.int)):=au;let hG2:=d2.kp _ _ L hG1;let k2:=(k0.trans d1.kp).trans d2.kp;let lt1:=d1.pot.lt;let nF:Zd B≠p:=by lia
 let nFG:Zd B≠G:=by let:=(Zb.mp hG1).1;lia
 calc{(by rw[aq hF2];rfl),?_};generalize B++[Ob.lst ((is.take c).map D.int)]=S2 at *;generalize Zd B=F at *
 let pe:∀x∈is,0<=x/\x < (M.length:Int):=λx hx=>by
  let:=pm.mem_iff.mp hx;let{i,hi,rfl}:=ZF.mp this;let:=ZU.mp hi;show 0<=(i:Int)/\(i:Int) < M.length
  lia
 let nd:is.Nodup:=pm.nodup_iff.mpr (List.pairwise_map.mpr (List.nodup_range.imp λh z=>h (Int.ofNat.inj z)));let pf:∀x∈is.take c,0<=x/\x < (M.length:Int):=λx hx=>pe x (YT hx);let ndf:(is.take c).Nodup:=nd.sublist (Wa c is);generalize is.take c=fx at *
 let lf:fx.length<=1000:=by
  let:=Dw.eJ M.length fx ndf pf
  lia
 let lmf:(fx.map D.int).length=fx.length:=Za _
 let fin:∀ (f:List (List Int)) (U:Dw.D) (da:D) S3,Ev.Kp p S0 S3->Pot p S3->S3[G]?=aD (Ob.lst (f.map gE))->S3[F]?=aD (Ob.lst (fx.map D.int))->f.length=M.length->(∀g∈f,GL rows.length r s g)->(∀j:Nat,i5 f j=0\/(j:Int)∈fx)->TD p S3 U da->Dw.bF rows.length U=a8 ->
   Q (D.tup [m,da,D.tup (f.map gE),D.tup (fx.map D.int)]) S3:=λf U da S3 k3 p3 _ _ l3 H o tda ea=>by
  calc q U (.tup (Dw.fu f)) (.tup (fx.map Dw.D.int)) _ S3 k3 p3 (td_tup (ax (hm S3) (ax tda (ax (td_tup (Uz f)) (ax (td_tup (Ai fx)) bA))))) ?_;exact KC em ea H (by lia) ndf (λx hx=>by rw[l3];exact pf x hx) λj _=>o j
 refine cQ fx.length (λi ρ C=>Ev.Kp p S0 C/\Pot p C/\∃ (f:List (List Int)) (u:Option D),ρ=[aD (.ref p),aD (.int 7),aD m,aD (.ref G),aD (.ref N),aD (.ref F),u,aT]/\C[G]?=aD (Ob.lst (f.map gE))/\C[F]?=aD (Ob.lst (fx.map D.int))/\f.length=M.length/\(∀g∈f,GL rows.length r s g)/\∀j:Nat,i5 f j=0\/(j:Int)∈fx) (by delta LF;lia) (λi ρ S3 hi ⟨k3,p3,f,u,er,g3,f3,l3,H,o⟩=>?_) (λρ S3 ⟨k3,p3,f,u,er,g3,f3,l3,H,o⟩=>{?_,?_}) {k2,d2.pot,M,aT,rfl,hG2,hF2,rfl,hM,λj=>.inl (h0 j)}
 .subst er;let hx:=pf fx[i] (ZG hi);obtain⟨j,ej⟩:∃n:Nat,fx[i]=(n:Int):={fx[i].toNat,by lia};let jin:(j:Int)∈fx:=ej▸ZG hi;let hj:j < f.length:=by lia
  calc{.int j,_,by rw[jv f3 (λi=>((fx.map D.int)[i]?).getD .non) o3,if_pos (by rw[lmf];exact hi)];simp[gEG hi,ej],rfl,?_};k_is;calc{rfl,aw p3 (by decide) (by decide) λy I y1 y2 v=>?_};k_is;let J:=v.kp _ _ L g3;let Z:=v.kp _ _ nF f3;let k4:=k3.trans v.kp
  let mt:∀S,ixS m (.int 0) S=aD (.int r,S):=λS=>by
   let{ms,rfl,X}:=(hm S).tup;let{a,b,c',d',rfl,t1,_}:=vK X;obtain rfl:=t1.int;rfl
  cases ey:decide (y=0) with
  |false=>k_is;exact⟨k4,v.pot,f,_,rfl,J,Z,l3,H,o⟩
  |true=>
   k_is;rw[mt,af];k_is;cases er0:decide (0 < r) with
   |false=>k_is;exact⟨k4,v.pot,f,_,rfl,J,Z,l3,H,o⟩
   |true=>
    let hr0:=ω er0;k_is;let gj:=(H f[j] (ZG hj));let{Y,O,a3,a4,a5,a6,a7,eg}:=jw gj.1
    let ix1:ixS (.ref G) (.int (j:Int)) I=aD (gE f[j],I):=by
     let:(f.map gE)[j]?=aD (gE f[j]):=by rw[Zn,gEG hj];rfl
     simp![ixS,am,aq J,Zp,Ev.ml this]
    calc aa ix1 ?_;k_is;rw[eg];rw[show gE [Y,O,a3,a4,a5,a6,a7]=D.tup [.int Y,.int O,.int a3,.int a4,.int a5,.int a6,.int a7] from rfl];k_is;rw[show eX [D.int Y,.int O,.int a3,.int a4,.int a5,.int a6,.int a7] aT (aD 6)=[.int Y,.int O,.int a3,.int a4,.int a5,.int a6] from rfl,mt,af];k_is;calc{rfl,aw v.pot hr0 (by lia) λz S5 z1 z2 E=>?_};k_is;let g5:=E.kp _ _ L J;let f5:=E.kp _ _ nF Z;let lt5:G < S5.length:=(Zb.mp g5).1;calc{by show 7<=9000;decide,?_};refine{S5.set G (.lst ((f.map gE).set j (.tup [.int Y,.int O,.int a3,.int a4,.int a5,.int a6,.int (1+z)]))),?_,?_}
    .let hix:ixN (f.map gE).length (j:Int)=aD j:=by
      delta ixN;rw[if_pos (by lia),if_pos (by rw[Za];lia),ZL]
     simp![fC,g5,hix,Zp];rfl
    .k_is;refine{(k4.trans E.kp).setNew l0,E.pot.setNe L,f.set j [Y,O,a3,a4,a5,a6,1+z],_,rfl,?_,?_,by rw[YA];exact l3,λg hg=>?_,λj'=>?_}
     .rw[sU lt5,WH];rfl
     .rw[ZA (Ne.symm nFG)];exact f5
     .rcases YC hg with hg |rfl
      .exact H g hg
      .calc{rfl,?_};let:=gj.2;rw[eg]at this;simp![Zx,ZX,Dw.aO,Dw.ag,Dw.leD,Z0,Xy,bAE,decide_eq_true_eq,Z2]at this ⊢;omega
     .by_cases hjj:j'=j
      .subst hjj;exact .inr jin
      .rcases o j' with z |z
       .left;delta i5 at z ⊢;rw[ZA (Ne.symm hjj)];exact z
       .exact .inr z
 .subst er;rw[jv f3 (λi=>((fx.map D.int)[i]?).getD .non) o3,if_neg (by rw[lmf];exact ZS _)]
 .subst er;k_is;calc{rfl,aw p3 (by decide) (by decide) λy I y1 y2 v=>?_};k_is;let T:∀ (S:Sto) (a:Nat) (ds:List D),S[a]?=aD (Ob.lst ds)->aC gH (.ref a) S=aD (.tup ds,S):=λS a ds e=>by simp![aC,am,aq e,Zp,gH]
  let J:=v.kp _ _ L g3;let Z:=v.kp _ _ nF f3;refine cw (λ_=>?_) λ_=>?_
  .k_is;let{ms,em',X}:=(hm I).tup
   let ix2:Ok (ixS m (.int 2) I) λd S=>∃rs,d = .tup rs/\S=I/\TDs p I rows rs:=by
    rw[em'];exact aS (i:=2) X rfl λd t=>let ⟨rs,e,z⟩:=t.tup;⟨rs,e,rfl,z⟩
   calc ix2.mono λd C ⟨rs,e,es,z⟩=>?_;subst e es;calc aa (bC z) ?_;k_is;calc{rfl,aw v.pot (by lia) (by lia) λa S5 Y O E=>?_};k_is;calc{rfl,aw E.pot (by decide) (by decide) λb S6 b1 b2 d6=>?_};k_is;let g6:=(E.trans d6).kp _ _ L J;let f6:=(E.trans d6).kp _ _ nF Z;calc aa (T _ _ _ g6) (aa (T _ _ _ f6) ?_);k_is;calc fin f (.tup [.int a,.int b]) _ S6 ((k3.trans v.kp).trans (E.trans d6).kp) d6.pot g6 f6 l3 H o (td_tup (ax dn (ax dn bA))) ?_;simp![Dw.bF,Dw.ag,bAE,decide_eq_true_eq]
   lia
  .k_is;calc aa (T _ _ _ J) (aa (T _ _ _ Z) ?_);k_is;exact fin f .non .non I (k3.trans v.kp) v.pot J Z l3 H o oZ rfl
mutual
noncomputable def cb:Dw.D->Bool
 |.non=>a8
 |.int i=>decide (i.natAbs < 10 ^ 20)
 |.tup ts=>gn ts
 |_=>a9
noncomputable def gn:List Dw.D->Bool
 |[]=>a8
 |t::ts=>cb t && gn ts
end
def cO:∀ {T:List Dw.D},(∀t∈T,cb t=a8)->gn T=a8
 |[],_=>by rw[gn]
 |t::T,h=>by rw[gn,h t Zf,cO λb H=>h b (Zh _ H)];rfl
mutual
theorem TD.any{c:Nat}{S b:Sto}:∀ {t:Dw.D} {d:D},cb t=a8->TD p S t d->TD c b t d
 |.non,_,_,h=>by rw[h.non];exact oZ
 |.int _,_,_,h=>by rw[h.int];exact dn
 |.tup ts,_,f,h=>by
  rw[cb]at f;let{g,rfl,q}:=h.tup;exact td_tup (TDs.any f q)
 |.bl _,_,f,_=>by simp[cb]at f
 |.str _,_,f,_=>by simp[cb]at f
 |.lst _,_,f,_=>by simp[cb]at f
 |.dic _ _,_,f,_=>by simp[cb]at f
theorem TDs.any{c:Nat}{S b:Sto}:∀ {T:List Dw.D} {ds:List D},gn T=a8->TDs p S T ds->TDs c b T ds
 |[],_,_,h=>by rw[h.nil];exact bA
 |t::T,_,f,h=>by
  rw[gn,bAE]at f;let{d,r,rfl,a,q}:=h.cons;exact ax (TD.any f.1 a) (TDs.any f.2 q)
end
def o5{t:Dw.D}{a b:Int}(h:Dw.ag t a b=a8)(c:-10000<=a)(f:b<=10000):cb t=a8:=by
 let{i,rfl,g,H}:=Dw.ak h;rw[cb];exact decide_eq_true (by lia)
def tD{r s:Int}{rows hs:List Dw.D}(E:Dw.be (.tup [.int r,.int s,.tup rows,.tup hs])=a8):cb (.tup [.int r,.int s,.tup rows,.tup hs])=a8:=by
 rw[Dw.zh]at E;simp![bAE]at E;let{g,j,f,c}:=E;rw[cb];calc cO λt H=>?_;simp![Zl,ZM,or_false]at H;rcases H with rfl |rfl |rfl |rfl
 .exact o5 g (by decide) (by decide)
 .exact o5 j (by decide) (by decide)
 .rw[cb];simp![Dw.aR,bAE]at f;calc cO λt H=>?_;let:=Zg.mp f.2.1 t H;cases t with
  |tup o=>
   simp![Dw.bS,bAE]at this;rw[cb];exact cO λT h=>o5 (Zg.mp this.2 T h) (by decide) (by decide)
  |_=>simp[Dw.bS]at this
 .rw[cb];simp![Dw.aN,bAE]at c;calc cO λt H=>?_;let{b,e,rfl,B,u,q,C,_}:=Dw.nB (Zg.mp c.2.1 t H);rw[cb];calc cO λT h=>?_;simp![Zl,ZM,or_false]at h;rcases h with rfl |rfl <;> (rw[cb];exact decide_eq_true (by lia))
def Gc(h:Pot p S)(q:∀tm X Z Y d c,Dr p S c->TD p c (.tup [tm,X,Z,Y]) d->Dw.bU (.tup [tm,X,Z,Y])=a8->Q d c):Ok (evC ae (k+4) 33 [.ref p,.int 7] S) Q:=by
 calc aV (d:=kO) (ρ:=[aD (.ref p),aD (.int 7),aT,aT,aT,aT,aT,aT]) rfl rfl ?_;dsimp![kO,iJ];k_is;calc{rfl,F9 h λr s rows hs m S1 d1 tm em=>?_};k_is;let{r',s',rows',hs',eqm,r0,r8,s0,s60,B,hh}:=Dw.fA em;cases eqm
 let lr:1<=rows.length/\rows.length<=4:=by
  simp![Dw.aR,bAE,decide_eq_true_eq]at B;exact B.1
 calc{rfl,aw d1.pot (by decide) (by decide) λx S2 x1 x2 d2=>?_};obtain⟨n,rfl⟩:∃n:Nat,x=(n:Int):={x.toNat,by lia};k_is;let L:∀S,TD p S (.tup [.int r,.int s,.tup rows,.tup hs]) m:=λS=>TD.any (tD em) tm;calc{(by simp![lim,bAE,decide_eq_true_eq];lia),?_};rw[ZL];refine yh (by lia) (λi b c=>Dr p S2 c/\∃M:List (List Int),b=M.map gE/\M.length=i/\(∀g∈M,GL rows.length r s g)/\∀j,i5 M j=0) (λi b S3 H ⟨z,M,E,lM,hM,h0⟩=>{_,rfl,?_}) (λes S3 ⟨z,M,E,lM,hM,h0⟩=>{by rw[E,Za];lia,?_}) {Dr.refl d2.pot,[],rfl,rfl,λg B=>by simp at B,λj=>by delta i5;simp}
 .k_is;calc{rfl,Ga (k:=k+1) z.pot (L S3) r0 s0 s60 lr.1 lr.2 λa j f l u w v I B=>?_};refine{z.trans I,M++[[a,j,f,l,u,w,0]],by rw[E,Zu];rfl,by simp[lM],λg hg'=>?_,λj'=>?_}
  .rcases ZC.mp hg' with hg' |hg'
   .exact hM g hg'
   .rw[Zw.mp hg'];exact⟨rfl,B⟩
  .let:=h0 j';delta i5 at this ⊢;by_cases hj:j' < M.length
   .rw[Zz hj];exact this
   .by_cases hj2:j'=M.length
    .subst hj2;rw[Zo (Zc _),Ye];rfl
    .rw[ZH (by rw[Zi,ZO];lia)];rfl
 .subst E;let lt3:=z.pot.lt;let I:Dr p S3 (S3++[Ob.lst (M.map gE)]):=Dr.sm z.pot (Sm.app _ _);let g4:(S3++[Ob.lst (M.map gE)])[Zd S3]?=aD (Ob.lst (M.map gE)):=au
  let lS:S.length<=Zd S3:=by
   let hkp:=((d1.trans d2).trans z).kp;by_cases hz:S.length<=Zd S3
   .exact hz
   .exfalso;let hlt:Zd S3 < S.length:=by lia
    let hx:Zd S3≠p:=by lia
    let:=hkp (Zd S3) S[Zd S3] hx (gEG hlt);rw[ZH (Zc _)]at this;cases this
  k_is;let lq:aC dR (D.ref (Zd S3)) (S3++[Ob.lst (M.map gE)])=aD (.int M.length,S3++[Ob.lst (M.map gE)]):=by simp![aC,am,aq g4,Zp,dR,Za]
  calc aa lq ?_;k_is;calc{_,rfl,by lia,?_};let U:Zd S3≠p:=by lia
  let lGN:Zd S3 < Zd (S3++[Ob.lst (M.map gE)]):=by simp
  let k4:=((d1.trans d2).trans z).trans I;generalize S3++[Ob.lst (M.map gE)]=v at *;let d5:Dr p v (v++[Ob.lst ((Zm M.length).map λj=>D.int (Int.ofNat j))]):=Dr.sm I.pot (Sm.app _ _);let n5:(v++[Ob.lst ((Zm M.length).map λj=>D.int (Int.ofNat j))])[Zd v]?=aD (Ob.lst (((Zm M.length).map λj=>Int.ofNat j).map D.int)):=by rw[Yl];exact au
  let g5:=d5.kp _ _ U g4;let lt4:=I.pot.lt;let nN:Zd v≠p:=by lia
  generalize v++[Ob.lst ((Zm M.length).map λj=>D.int (Int.ofNat j))]=S5 at *;generalize Zd S3=G at *;generalize hLN:Zd v=N at *
  let T:∀ (is:List Int) (J:Nat) (c:Sto),Ev.Kp p S c->Pot p c->c[G]?=aD (Ob.lst (M.map gE))->c[J]?=aD (Ob.lst (is.map D.int))->J≠p->G < J->is.Perm ((Zm M.length).map λi=>Int.ofNat i) ->
    rW (wSs (evC ae (k+2+1)) (cz ae) 56 (iJ.drop 4)) [aD (.ref p),aD (.int 7),aD m,aD (.ref G),aD (.ref J),aT,aT,aT] c (out Q):=λis J c kp pt hG hN' nN' gN pm=>
   yC pt kp lS L em hG U hN' nN' gN hM h0 (by lia) pm λX Z Y d c k' p' td hsk=>q _ X Z Y d c ⟨k',p'⟩ td hsk
  dsimp![iJ,YD]at T;k_is;calc{rfl,aw d5.pot (by decide) (by decide) λy S6 y1 y2 C=>?_};k_is;let O:=C.kp _ _ U g5;let n6:=C.kp _ _ nN n5;let k6:Ev.Kp p S S6:=(k4.kp.trans d5.kp).trans C.kp;let lt6:=C.pot.lt;let lG6:G < Zd S6:=(Zb.mp O).1;refine cw (λ_=>?_) λ_=>?_
  .k_is;calc{(by rw[aq O];rfl),?_};let lm:(M.map gE).length=M.length:=Za _;refine ic M.length (λi=>.tup [.int i,((M.map gE)[i]?).getD .non]) (λi b c=>c=S6/\b=((Zm i).map λj=>((((M[j]?).getD []).getD 2 0:Int),(Int.ofNat j))).map dA) (λi b c H ⟨e,_⟩=>by subst e;rw[<-lm];exact z8 (i:=i) O (by lia) (λi=>.tup [.int i,((M.map gE)[i]?).getD .non]) λj d hd=>by show D.tup [.int j,((M.map gE)[j]?).getD .non]=_;rw[hd];rfl) (by lia) (λi b S7 H ⟨e7,E⟩=>?_) (λes S7 ⟨e7,E⟩=>{by rw[E,Za,Za,Z7];lia,?_}) ⟨rfl,rfl⟩
   .subst e7;let{b1,b2,b3,b4,b5,b6,b7,eg}:=jw (hM M[i] (ZG H)).1;let g1:((M.map gE)[i]?).getD .non=gE [b1,b2,b3,b4,b5,b6,b7]:=by rw[Zn,gEG H,eg];rfl
    rw[g1];calc{_,jt (by simp) (by simp),?_};k_is;show Ok (aD (D.int b3,S7)) _;rw[af];k_is;calc{rfl,?_};rw[E,Yk,Zu,Zu];simp[dA,gEG H,eg]
   .subst e7;let lps:((Zm M.length).map λj=>((((M[j]?).getD []).getD 2 0:Int),(Int.ofNat j))).length=M.length:=by rw[Za,Z7]
    let snd:((Zm M.length).map λj=>((((M[j]?).getD []).getD 2 0:Int),(Int.ofNat j))).map (·.2)=(Zm M.length).map λi=>Int.ofNat i:=by rw[Yl];rfl
    generalize (Zm M.length).map (λj=>((((M[j]?).getD []).getD 2 0:Int),(Int.ofNat j)))=ps at *;subst E;let{o,e1,pq}:=Ch ps;refine{o.map dA,?_,?_}
    .show(if a9=a9 then Bv a9 (ps.map dA) else aT)=_;rw[if_pos rfl];simp![Bv,qQ];rw[if_pos (by rw[Za];lia),e1]
    .let lq:o.length=M.length:=by rw[pq.length_eq];exact lps
     refine ic o.length (λi=>((o.map dA)[i]?).getD .non) (λi b c=>c=S7/\b=((o.map (·.2)).take i).map D.int) (λi b c H ⟨e,_⟩=>by
      show aD (o.map dA)[i]?=_;split
      .rename_i hh;rw[Zn,gEG hh];rfl
      .rename_i hh;rw[ZH (by rw[Za];lia)]) (by lia) (λi b S8 H ⟨e8,E⟩=>?_) (λes S8 ⟨e8,E⟩=>{by rw[E,Za,ZD,Za];lia,?_}) ⟨rfl,rfl⟩
     .subst e8;let g1:((o.map dA)[i]?).getD .non = .tup [.int o[i].1,.int o[i].2]:=by rw[Zn,gEG H];rfl
      rw[g1];calc{_,rfl,?_};k_is;show Ok (aD (D.int o[i].2,S8)) _;rw[af];k_is;calc{rfl,?_};let hi':i < (o.map (·.2)).length:=by rw[Za];exact H
      rw[E,ZQ hi',Zu,List.getElem_map];rfl
     .subst e8;rw[Yg (by rw[Za];exact Zc _)]at E;subst E;k_is;exact T (o.map (·.2)) (Zd S8) _ (k6.trans (Sm.app _ _).kp) (Dr.sm C.pot (Sm.app _ _)).pot (Sm.app _ _ _ _ O) au (by lia) lG6 (by rw[<-snd];exact pq.map _)
  .k_is;calc{rfl,Cg (k:=k+1) C.pot n6 nN (by rw[Za,Z7];lia) λis S7 d7 pm=>?_};let g7:=d7.kp _ _ U O;let lt7:=d7.pot.lt;let lG7:G < Zd S7:=(Zb.mp g7).1;k_is;exact T is (Zd S7) _ ((k6.trans d7.kp).trans (Sm.app _ _).kp) (Dr.sm d7.pot (Sm.app _ _)).pot (Sm.app _ _ _ _ g7) au (by lia) lG7 pm
end Lw
namespace Lw
open PySem Ev L2
abbrev bB(i:Int):Str:=toString i
abbrev ao(x:Str):List Nat:=x.cps.toList
abbrev cH(c:Nat):Bool:=decide (48<=c) && decide (c<=57)
abbrev QW(n:Nat):List Nat:=(Nat.toDigits 10 n).map Char.toNat
abbrev UA(n:Nat):Bool:=let x:=QW n;x.all cH && decide (1<=x.length) && decide (x.length<=4) && (decide (n=0) || !(x.head? == aD 48))
def KD:(Zm 10000).all UA=a8:=by decide +kernel
structure NumOk(i:Int):Prop where
 dig:∀c∈ao (bB i),cH c=a8
 pos:1<=(bB i).cps.size
 len:(bB i).cps.size<=4
 hd:i=0\/(ao (bB i)).head?≠aD 48
 rd:intText? (bB i)=aD i
def kR{i:Int}(H:0<=i)(f:i<=9999):NumOk i:=by
 obtain⟨n,rfl⟩:∃n:Nat,i=(n:Int):={i.toNat,by lia};let h:=Zg.mp KD n (ZU.mpr (by lia));let e:ao (bB (n:Int))=QW n:=PySem.W.KIN.signs_num n;let E:(bB (n:Int)).cps.size=(QW n).length:=by rw[<-e];exact(Yh ..).symm
 delta UA at h;simp![bAE,Zg,YO,decide_eq_true_eq]at h;let{⟨⟨a,b⟩,c⟩,d}:=h;calc{by rw[e];exact a,by rw[E];exact b,by rw[E];exact c,?_,PySem.W.KIN.num_reads H (by lia)};rw[e];rcases d with d |d
 .exact .inl (by lia)
 .right;intro z;rw[z]at d;simp at d
def Gd:bB 0=("0" : Str):=by decide +kernel
abbrev aU(w:Str)(l:List Int):Str:=l.foldl (λa n=>a++(" " : Str)++bB n) w
def kS(w:Str)(l:List Int)(n:Int):aU w (l++[n])=aU w l++(" " : Str)++bB n:=by
 delta aU;rw[Xe];rfl
def mM{x y:Str}(h:x.cps=y.cps):x=y:=by cases x;cases y;cases h;rfl
def Ak(x y:Str):(x++y).cps=x.cps++y.cps:=rfl
def bu(x y:Str):(x++y).length=x.length+y.length:=by show(x.cps++y.cps).size=_;rw[Wb];rfl
def qR{g:Type}(b:Str)(f:g->Str):∀ (l:List g) (w:Str),Txt.join b (w::l.map f)=l.foldl (λa n=>a++b++f n) w:=by
 intro l w;apply mM;show(((w::l.map f).drop 1).foldl (λc p=>c++b.cps++p.cps) w.cps)=_;rw[YH,YI]
 induction l generalizing w with
 |nil=>rfl
 |cons a l I=>
  rw[Zx,YM,YM];let:=I (w++b++f a);rw[Ak,Ak]at this;exact this
def Gf(w:Str)(l:List Int):Txt.join " " (w::l.map bB)=aU w l:=qR _ _ _ _
abbrev j8(x:Str)(L:List Str):Str:=L.foldl (λa p=>a++("\n" : Str)++p) x
def Gg(x:Str)(ls:List Str):Txt.join "\n" (x::ls)=j8 x ls:=by
 let:=qR "\n" (λp:Str=>p) ls x
 rwa[List.map_id']at this
def o6(x:Str)(L:List Str)(y:Str):j8 x (L++[y])=j8 x L++("\n" : Str)++y:=by
 delta j8;rw[Xe];rfl
def Al{b:Type}{P:List b->Prop}(h:P [])(H:∀l a,P l->P (l++[a]))(l:List b):P l:=by
 let:∀m:List b,P m.reverse:=λm=>by
  induction m with
  |nil=>exact h
  |cons a m I=>rw[List.reverse_cons];exact H _ _ I
 let:=this l.reverse
 rwa[List.reverse_reverse]at this
abbrev inN(l:List Int):Prop:=∀n∈l,0<=n/\n<=9999
def tF(w:Str):∀ (l:List Int),inN l->(aU w l).length<=w.length+5 * l.length:=by
 intro l
 induction l using Al
 .intro _;exact Zc _
 .rename_i l n I;intro h;let c:=I λm b=>h m (ZV _ b);let H:=h n (ZE _ (Zw.mpr rfl));let f:=(kR H.1 H.2).len;rw[kS,bu,bu,Zi];let:(bB n).length=(bB n).cps.size:=rfl;let:Str.length (" " : Str)=1:=rfl;simp![ZO]
  lia
def Am(x:Str)(k:Nat)(f:x.length<=k):∀ (L:List Str),(∀y∈L,y.length<=k)->(j8 x L).length<=(k+1) * (L.length+1):=by
 intro L
 induction L using Al
 .intro _;show x.length<=_;simp![YX];lia
 .rename_i l n I;intro h;let b:=I λm H=>h m (ZV _ H);let c:=h n (ZE _ (Zw.mpr rfl));rw[o6,bu,bu,Zi];let:Str.length ("\n" : Str)=1:=rfl;simp![ZO];rw[Nat.mul_add (k+1)]
  lia
def i6{i:Int}(h:NumOk i):∀c∈ao (bB i),c≠32/\c≠10/\c < 128:=λc H=>by
 let:=h.dig c H;delta cH at this;simp![bAE,decide_eq_true_eq]at this
 lia
def Gh(c:Nat):∀ (ps:List Str) (w:Str),ao (ps.foldl (λa p=>a++(⟨#[c]⟩:Str)++p) w)=glu c (ao w::ps.map ao):=by
 intro ps w
 induction ps generalizing w with
 |nil=>rfl
 |cons a l I=>
  rw[YM,I];cases l with
  |nil=>
   show(w.cps++#[c]++a.cps).toList=_;rw[Z6,Z6,ZK];rfl
  |cons b l=>
   show(w.cps++#[c]++a.cps).toList++c::glu c (ao b::l.map ao)=w.cps.toList++c::(a.cps.toList++c::glu c (ao b::l.map ao));rw[Z6,Z6,ZK,ZK];rfl
def An:∀ {xs ys:List Str},xs.map ao=ys.map ao->xs=ys
 |[],[],_=>rfl
 |[],_::_,h=>by cases h
 |_::_,[],h=>by cases h
 |x::xs,y::ys,h=>by
  rw[Zx,Zx]at h;let H:=(WB.inj h).1;rw[An (WB.inj h).2,mM (Xp.mp H)]
def split_fold{c:Nat}(hc:c < 256)(ps:List Str)(w:Str)(h:∀p∈w::ps,c∉ao p):Txt.split (ps.foldl (λa p=>a++(⟨#[c]⟩:Str)++p) w) ⟨#[c]⟩=w::ps:=by
 apply An;show(Txt.split _ _).map (λz=>z.cps.toList)=_;rw[BG hc];show spl c (ao _)=_;rw[Gh];calc zC (ps:=(w::ps).map ao) (Yp _ _) λp b=>?_;let{q,H,rfl}:=ZF.mp b;exact h q H
abbrev cZ(w:Str):Bool:=w.cps.toList.all (λc=>decide (97<=c) && decide (c<=122)) && decide (w.cps.size<=6)
def kT(hw:cZ w=a8)(h:inN l):Txt.split (aU w l) " " = w::l.map bB:=by
 let e:aU w l=(l.map bB).foldl (λa p=>a++(⟨#[32]⟩:Str)++p) w:=by delta aU;rw[List.foldl_map];rfl
 rw[e];calc split_fold (c:=32) (by decide) _ _ λp hp=>?_;rcases Zl.mp hp with rfl |hp
 .intro z;delta cZ at hw;rw[bAE]at hw;let:=Zg.mp hw.1 32 z;simp at this
 .let{n,H,rfl}:=ZF.mp hp;exactλz=>((i6 (kR (h n H).1 (h n H).2)) 32 z).1 rfl
def Ao{w:Str}(hw:cZ w=a8):∀ {l:List Int},inN l->∀c∈ao (aU w l),c≠10/\c < 128:=by
 intro l
 induction l using Al
 .intro _ c hc;delta cZ at hw;rw[bAE]at hw;let:=Zg.mp hw.1 c hc;simp![bAE,decide_eq_true_eq]at this
  lia
 .rename_i l n I;intro h c hc;let H:=h n (ZE _ (Zw.mpr rfl));rw[kS]at hc;let hc:c∈((aU w l).cps++#[32]++(bB n).cps).toList:=hc;rw[Z6,Z6]at hc;rcases ZC.mp hc with hc |hc
  .rcases ZC.mp hc with hc |hc
   .exact I (λm b=>h m (ZV _ b)) c hc
   .let:c=32:=by simpa using hc
    lia
  .let:=i6 (kR H.1 H.2) c hc;exact⟨this.2.1,this.2.2⟩
def Cj(h:∀p∈x::ls,∀c∈ao p,c≠10/\c < 128):Txt.split (j8 x ls) "\n" = x::ls:=
 split_fold (c:=10) (by decide) ls x λp H z=>(h p H 10 z).1 rfl
def txt_cps:∀ {ls:List Str} {x:Str},(∀p∈x::ls,∀c∈ao p,c≠10/\c < 128)->∀c∈ao (j8 x ls),c < 128:=by
 intro ls x
 induction ls using Al
 .intro h c hc;exact(h x Zf c hc).2
 .rename_i l n I;intro h c hc;rw[o6]at hc;let hc:c∈((j8 x l).cps++#[10]++n.cps).toList:=hc;rw[Z6,Z6]at hc;rcases ZC.mp hc with hc |hc
  .rcases ZC.mp hc with hc |hc
   .exact I (λp hp=>h p (by rcases Zl.mp hp with rfl |hp;exact Zf;exact Zh _ (ZV _ hp))) c hc
   .let:c=10:=by simpa using hc
    lia
  .exact(h n (Zh _ (ZE _ (Zw.mpr rfl))) c hc).2
end Lw
namespace Ev
open PySem
abbrev OkX(o:Option (RR×Sto))(Q:RR->Sto->Prop):Prop:=∃r b,o=aD (r,b)/\Q r b
section
variable {ae:List DefE} {k f:Nat} {d:DefE} {ds:List D} {ρ:Rho} {S:Sto} {g:gU} {ar:Nat->Nat} {r:List RS} {Q:RR->Sto->Prop}
def KF(hd:ae[f]?=aD d)(b:d.rb=aD rs)(H:ds.map aD++Zr (d.N.length - ds.length) aT=ρ)(h:OkX (eZ (evX ae k) (cz ae) rs ρ S) Q):OkX (evX ae (k+1) f ds S) Q:=by
 subst H;let z:evX ae (k+1) f ds S=eZ (evX ae k) (cz ae) rs (ds.map aD++Zr (d.N.length - ds.length) aT) S:=by simp![evX,hd,b]
 rw[z];exact h
def Gi{Q:D->Sto->Prop}(h:OkX (evX ae k f ds S) λr b=>match r with |.p d=>Q d b |.exc _=>False):Ok (evC ae k f ds S) Q:=by
 let{r,b,e,q}:=h;cases r with
 |p d=>exact{d,b,by delta evC toC;rw[e],q}
 |exc i=>exact q.elim
def KG{n:Nat}:eY C ar (n+2) [s] ρ S=evS C ar (n+1) s ρ S:=by
 show fD (evS C ar (n+1) s) (eY C ar (n+1) []) ρ S=_;delta fD;cases evS C ar (n+1) s ρ S with
 |none=>rfl
 |some z=>
  let{c,b,h}:=z;cases c <;> rfl
def Gj(h:rW (wSs (toC g) ar 60 [s]) ρ S λb c p=>match b with |.nx=>OkX (eZ g ar r c p) Q |.rt v=>Q (.p v) p |_=>False):OkX (eZ g ar (.pl s::r) ρ S) Q:=by
 let{b,j,o,e,q}:=kQ h;rw[KG]at e;let z:evS (toC g) ar 59 s ρ S=aD (b,j,o):=e;cases b with
 |nx=>let{v,y,E,u}:=q;exact{v,y,by simp![eZ,z];exact E,u}
 |rt v=>exact{.p v,o,by simp![eZ,z],q}
 |bk=>exact q.elim
 |ct=>exact q.elim
def Gk{i:Nat}(h:wT (toC g) ar 60 c ρ S λb j=>if b=a8 then i < 14/\Q (.exc i) j else OkX (eZ g ar r ρ j) Q):OkX (eZ g ar (.rz c i::r) ρ S) Q:=by
 let{b,j,e,q}:=(qP 60).t _ _ _ h;let z:evT (toC g) ar FU c ρ S=aD (b,j):=e;cases b with
 |true=>
  rw[if_pos rfl]at q;exact{.exc i,j,by simp![eZ,z];rw[if_pos q.1],q.2}
 |false=>
  rw[if_neg Ze]at q;let{v,p,E,o}:=q;exact{v,p,by simp![eZ,z];exact E,o}
def LR(h:evA (toC g) ar FU E ρ S=aD (ds,S1))(hl:ds.length=ar f)(q:OkX (g f ds S1) λv b=>match v with |.p d=>Q (.p d) b |.exc i=>∃w,x9 i=aD w/\Q (.p (.str w)) b):OkX (eZ g ar (.tr f E::r) ρ S) Q:=by
 let{v,b,e,q}:=q;cases v with
 |p d=>exact{.p d,b,by simp![eZ,xck,h,hl,if_true,e],q}
 |exc i=>
  let{w,H,q}:=q;exact{.p (.str w),b,by simp![eZ,xck,h,hl,if_true,e,H];rfl,q}
end
end Ev
namespace Lw
open PySem Ev L2
variable {p:Nat} {S:Sto} {k:Nat} {Q:D->Sto->Prop}
def yD{b:Type}{l:List b}{E:b->D}{i:Nat}{d:D}(h:(l.map E)[i]?=aD d):∃a,l[i]?=aD a/\d=E a:=by
 rw[Zn]at h;cases e:l[i]? with
 |none=>rw[e]at h;cases h
 |some a=>rw[e]at h;cases h;exact⟨a,rfl,rfl⟩
def Ap{ds:List D}{T:Tg}{b:XS}{c:Rho}{Q:Fl->Rho->Sto->Prop}(hl:ds.length<=100000)(I:Nat->Rho->Sto->Prop)
  (step:∀ (i:Nat) d c h,ds[i]?=aD d->I i c h->∃g,aE T d c=aD g/\OkS (b g h) λv f j=>match v with |.nx=>I (i+1) f j |.ct=>I (i+1) f j |.bk=>Q .nx f j |.rt d=>Q (.rt d) f j)
  (q:∀c h,I ds.length c h->Q .nx c h) (u:I 0 c S):OkS (c8 (nxL ds) T b LF 0 c S) Q:=by
 refine cQ ds.length I (by delta LF;lia) (λi c h H o=>?_) (λc h o=>{?_,q c h o}) u
 .let{g,E,z}:=step i ds[i] c h (gEG H) o;exact{ds[i],g,by show aD ds[i]?=_;rw[gEG H],E,z}
 .show aD ds[ds.length]?=_;rw[ZH (Zc _)]
def yE{y:Type}{nx:Nxt}{T:Tg}{c:XA}{I:Rho}{Q:List D->Sto->Prop}(l:List y)(E:y->D)(f:y->List D)(hl:l.length<=90000)(O:∀a∈l,(f a).length<=1)
  (H:∀i g,Sm S g->nx i g=aD ((l[i]?).map E))
  (step:∀ (i:Nat) a g,l[i]?=aD a->Sm S g->∃j,aE T (E a) I=aD j/\Ok (c j g) λo B=>o=f a/\Sm g B) (q:∀g,Sm S g->Q (l.flatMap f) g) :
  Ok (bo nx T c I LF 0 S) λo S2=>o.length<=100000/\Q o S2:=by
 refine(cX l.length (λi u g=>Sm S g/\u=(l.take i).flatMap f) (by delta LF;lia) (λi u g z ⟨sm,v⟩=>?_) (λu g ⟨sm,v⟩=>?_) {Sm.refl S,by simp}).mono λo g ⟨sm,v⟩=>?_
 .let{j,L,o,B,X,U,C}:=step i l[i] g (gEG z) sm;calc{E l[i],j,by rw[H i g sm,gEG z];rfl,L,o,B,X,sm.trans C,?_};rw[v,U,ZQ z,Y8];simp
 .rw[H _ g sm,ZH (Zc _)];rfl
 .rw[Z4]at v;subst v;refine{?_,q g sm}
  let:∀m:List y,(∀a∈m,(f a).length<=1)->(m.flatMap f).length<=m.length:=λm=>by
   induction m with
   |nil=>intro _;simp
   |cons a m M=>
    intro h;rw[Yy,Zi,Zt];let:=h a Zf;let:=M λb J=>h b (Zh _ J)
    lia
  let:=this l O
  lia
def jx{c:Type}{l:List c}{E:c->D}:∀i b,Sm S b->nxL (l.map E) i b=aD ((l[i]?).map E):=λi b _=>by
 show aD (l.map E)[i]?=_;rw[Zn]
def vM{b c:Type}(f:b->c):∀l:List b,(l.flatMap λa=>[f a])=l.map f
 |[]=>rfl
 |a::l=>by rw[Yy,vM f l];rfl
def ig{o:Type}{nx:Nxt}{T:Tg}{c:XA}{u:Rho}{Q:List D->Sto->Prop}(l:List o)(E f:o->D)(hl:l.length<=90000)
  (H:∀i b,Sm S b->nx i b=aD ((l[i]?).map E))
  (step:∀a b,a∈l->Sm S b->∃g,aE T (E a) u=aD g/\Ok (c g b) λj v=>j=[f a]/\Sm b v) (q:∀b,Sm S b->Q (l.map f) b) :
  Ok (bo nx T c u LF 0 S) λj S2=>j.length<=100000/\Q j S2:=
 yE l E (λa=>[f a]) hl (λ_ _=>Zc 1) H (λi a b h sm=>step a b (Zs h) sm) λb sm=>by
  rw[vM];exact q b sm
def o7(h:w.length<=100000):nX (.str w) S=aD (.int w.length,S):=by delta nX;dsimp!;rw[if_pos h]
def iO(x y:Str)(S:Sto):ay .eq (.str x) (.str y) S=aD (.bl (x == y),S):=rfl
def dF(x y:Str)(S:Sto):ay .ne (.str x) (.str y) S=aD (.bl (!(x == y)),S):=rfl
def KH{i:Int}(h:NumOk i):∃c l,ao (bB i)=c::l:=by
 cases e:ao (bB i) with
 |nil=>
  let:=h.pos;let z:(bB i).cps.size=(ao (bB i)).length:=(Yh ..).symm;rw[e]at z;let z:(bB i).cps.size=0:=z
  lia
 |cons c l=>exact⟨c,l,rfl⟩
def o8{m:Nat}(h:S[m]?=aD (.lst ds))(q:Q (ds.headD x) S):Ok (evC ae (k+1) 22 [.ref m,x] S) Q:=by
 calc aV (d:=hU) (ρ:=[aD (.ref m),aD x]) rfl rfl ?_;dsimp![hU,lQ];k_is;let tr:nS (.ref m) S=aD (!ds.isEmpty,S):=by simp![nS,aq h]
 calc aa tr ?_;cases ds with
 |nil=>exact q
 |cons d ds=>
  let ix:ixS (.ref m) (.int 0) S=aD (d,S):=by
   simp![ixS,am,aq h,Zp];rw[show atI (d::ds) 0=aD d by simp[atI,ixN]];rfl
  exact aa ix q
def mO{i:Int}(H:0<=i)(h:i<=9999):xv (.int i) S=aD (.str (bB i),S):=by
 delta xv;dsimp!;let e:i.natAbs < 10 ^ 5:=by lia
 rw[if_pos (WC e (by decide))];rfl
def j9{a b:Nat}(H:S[a]?=aD (.lst xs))(h:S[b]?=aD (.lst ys))(hl:xs.length+ys.length<=100000):bv .add (.ref a) (.ref b) S=aD (.ref (Zd S),S++[.lst (xs++ys)]):=by
 simp![bv,cJ,M4,H,h];rw[if_pos hl]
def qS:∀ys:List Str,n4 (ys.map D.str)=aD ys
 |[]=>rfl
 |y::ys=>by rw[Zx,n4,qS ys];rfl
def mP{n:Nat}(h:S[n]?=aD (.lst (ys.map D.str)))(hl:(ys.map (·.length)).sum+ys.length * b.length<=100000):gK (.str b) [.ref n] S=aD (.str (Txt.join b ys),S):=by
 delta gK;dsimp!;rw[h];dsimp!;rw[qS];dsimp!;rw[if_pos hl]
def yF{k:Nat}:∀ {ys:List Str},(∀y∈ys,y.length<=k)->(ys.map (·.length)).sum<=k * ys.length
 |[],_=>by simp
 |y::ys,h=>by
  let c:=h y Zf;let b:=yF (ys:=ys) λz H=>h z (Zh _ H);rw[Zx,X2,Zt,Nat.mul_succ]
  lia
def fK{w:Str}{l:List Int}(hw:cZ w=a8)(h:inN l)(hl:l.length<=100)(q:∀b,Sm S b->Q (.str (aU w l)) b):Ok (evC ae (k+1) 20 [.str w,.tup (l.map D.int)] S) Q:=by
 calc aV (d:=oW) (ρ:=[aD (.str w),aD (.tup (l.map D.int))]) rfl rfl ?_;dsimp![oW,vB];k_is;refine{rfl,ig l D.int (λn=>.str (bB n)) (by lia) jx (λn b H sm=>{_,rfl,?_}) λb sm=>?_}
 .k_is;calc aa (mO (h n H).1 (h n H).2) ?_;exact{rfl,Sm.refl _}
 .let s0:b[Zd S]?=aD (Ob.lst [D.str w]):=sm _ _ au;let c:Sm b (b++[Ob.lst (l.map λn=>D.str (bB n))]):=Sm.app _ _;calc aa (j9 (c _ _ s0) au (by rw[Za,ZO];lia)) ?_;let e:[D.str w]++(l.map λn=>D.str (bB n))=(w::l.map bB).map D.str:=by rw[Zx,Yl];rfl
  rw[e]
  let f:w.length<=6:=by
   delta cZ at hw;rw[bAE]at hw;exact ω hw.2
  let sl:=yF (k:=6) (ys:=w::l.map bB) λy hy=>by
   rcases Zl.mp hy with rfl |hy
   .exact f
   .let{n,H,rfl}:=ZF.mp hy;let:=(kR (h n H).1 (h n H).2).len;show(bB n).cps.size<=6
    lia
  rw[Zt,Za]at sl;calc aa (mP au (by rw[Zt,Za,show Str.length (" " : Str)=1 from rfl];lia)) ?_;rw[Gf];exact q _ ((Sm.app _ _).trans (sm.trans (c.trans (Sm.app _ _))))
structure SkP where
 r:Int
 s:Int
 rows:List (List Int)
 hs:List (List Int)
 ah:List (List Int)
 gs:List (List Int)
 fs:List Int
abbrev dI(l:List Int):D:=.tup (l.map D.int)
abbrev tI(l:List Int):Dw.D:=.tup (l.map Dw.D.int)
abbrev ahD:List (List Int)->D
 |[]=>.non
 |l::_=>dI l
abbrev ahT:List (List Int)->Dw.D
 |[]=>.non
 |l::_=>tI l
abbrev skD(K:SkP):D:=.tup [.tup [.int K.r,.int K.s,.tup (K.rows.map dI),.tup (K.hs.map dI)],ahD K.ah,.tup (K.gs.map dI),dI K.fs]
abbrev skT(K:SkP):Dw.D:=.tup [.tup [.int K.r,.int K.s,.tup (K.rows.map tI),.tup (K.hs.map tI)],ahT K.ah,.tup (K.gs.map tI),tI K.fs]
structure SkN(K:SkP):Prop where
 rs:inN [K.r,K.s]
 rows:∀l∈K.rows,inN l/\l.length<=7
 hs:∀l∈K.hs,inN l/\l.length<=7
 ah:∀l∈K.ah,inN l/\l.length<=7
 gs:∀l∈K.gs,inN l/\l.length<=7
 fs:inN K.fs/\K.fs.length<=7
 l1:K.rows.length<=4
 l2:K.hs.length<=4
 l3:K.ah.length<=1
 l4:K.gs.length<=7
abbrev fxL(l:List Int):List (List Int):=if l=[] then [] else [l]
abbrev c7(K:SkP):List (Str×List Int):=K.rows.map (("gaps" : Str),·)++K.hs.map (("shut" : Str),·)++K.ah.map (("ahead" : Str),·)++K.gs.map (("glider" : Str),·)++(fxL K.fs).map (("fixed" : Str),·)
abbrev aK(x:Str×List Int):Str:=aU x.1 x.2
abbrev al(K:SkP):Str:=j8 (aU "meadow" [K.r,K.s]) ((c7 K).map aK)
structure Bl(S:Sto)(m:Nat)(S':Sto)(xs:List Str):Prop where
 sm:Sm S S'
 le:S.length<=m
 at_:S'[m]?=aD (.lst (xs.map D.str))
def Bl.then{m:Nat}(b:Bl S m f xs)(s:Sm f c):Bl S m c xs:={b.sm.trans s,b.le,s _ _ b.at_}
def Bl.set{m:Nat}(b:Bl S m c xs)(e:ds=ys.map D.str):Bl S m (c.set m (.lst ds)) ys:=by
 subst e;let H:=(Zb.mp b.at_).1;calc{λi o h=>?_,b.le,by rw[Zq H]};rw[ZA (by let:=(Zb.mp h).1;let:=b.le;lia)];exact b.sm _ _ h
def Sm.le(h:Sm S b):S.length<=b.length:=by
 by_cases z:S.length=0
 .lia
 .let e:=h (S.length - 1) _ (gEG (by lia));let:=(Zb.mp e).1
  lia
def kU{S0 S:Sto}{n m v:Nat}{w:Str}{L:List (List Int)}{g:Rho}{c:XA}{Q:List D->Sto->Prop}(hl:L.length<=7)(hw:cZ w=a8)(H:∀l∈L,inN l/\l.length<=7)
  (step:∀l b,l∈L->Sm S b->∃f,aE (.n v) (dI l) g=aD f/\Ok (c f b) λE h=>E=[.str (aU w l)]/\Sm b h)
  (q:∀b,Sm S b->Q ((L.map (aU w)).map D.str) b):Ok (bo (nxL (L.map dI)) (.n v) c g LF 0 S) λE S2=>E.length<=100000/\Q E S2:=
 ig L dI (λl=>.str (aU w l)) (by lia) jx step λb sm=>by
  let:=q b sm
  rwa[Yl]at this
abbrev yG(K:SkP)(m:Nat):Rho:=[aD (skD K),aD (.int K.r),aD (.int K.s),aD (.tup (K.rows.map dI)),aD (.tup (K.hs.map dI)),aD (ahD K.ah),aD (.tup (K.gs.map dI)),aD (dI K.fs),aD (.ref m)]
def Aq{xs:List Str}(h:∀y∈xs,y.length<=50)(hl:xs.length<=100):(xs.map (·.length)).sum+xs.length * 1<=100000:=by
 let:=yF h
 lia
structure Sml(n:Nat)(xs:List Str):Prop where
 len:xs.length<=n
 each:∀y∈xs,y.length<=50
def Sml.app{n m:Nat}(a:Sml n xs)(b:Sml m ys):Sml (n+m) (xs++ys):={by rw[Zi];let:=a.len;let:=b.len;lia,λy h=>(ZC.mp h).elim (a.each y) (b.each y)}
def Ar(hw:cZ w=a8):w.length<=6:=by
 delta cZ at hw;rw[bAE]at hw;exact ω hw.2
def fL{n:Nat}{w:Str}{ls:List (List Int)}(hw:cZ w=a8)(H:∀l∈ls,inN l/\l.length<=7)(hl:ls.length<=n):Sml n (ls.map (aU w)):=⟨by rw[Za];exact hl,λy b=>by
 let{l,h,rfl}:=ZF.mp b;let:=tF w l (H l h).1;let:=(H l h).2;let:=Ar hw
 lia⟩
def bq{m:Nat}(h:S[m]?=aD (.lst ds)):dW (.ref m) S=a8:=by simp![dW,aq h];rfl
def Ck{K:SkP}{m:Nat}{S v:Sto}{xs:List Str}(h:SkN K)(b:Bl S m v xs)(z:Sml 50 xs)(q:∀g,Sm S g->Q (.str (Txt.join "\n" (xs++K.gs.map (aU "glider")++(fxL K.fs).map (aU "fixed")))) g) :
  rW (wSs (evC ae (k+1)) (cz ae) 55 (kK.drop 5)) (yG K m) v (out Q):=by
 dsimp! [kK,YD,yG];k_is;let j:cZ "glider" = a8:=by decide +kernel
 refine {m,rfl,kU (S0:=S) (n:=0) (m:=0) h.l4 j h.gs (λl g C sm=>{_,rfl,?_}) λu sm=>{_,_,_,rfl,((b.then sm).then (Sm.app _ _)).at_,au,?_,?_}}
 .k_is;exact {rfl,fK (k:=k) j (h.gs l C).1 (by let:=(h.gs l C).2;lia) λf I=>⟨rfl,I⟩}
 .rw [Za,Za,Za];let:=z.len;let:=h.l4;lia
 .let B:=((b.then sm).then (Sm.app u [Ob.lst ((K.gs.map (aU "glider")).map D.str)])).set (ys:=xs++K.gs.map (aU "glider")) (Zu ..).symm;let Z:=z.app (fL j h.gs h.l4);generalize Y3 (u++[Ob.lst ((K.gs.map (aU "glider")).map D.str)]) m _=f at *;generalize xs++K.gs.map (aU "glider")=ys at *;show rW _ [aD (skD K),aD (.int K.r),aD (.int K.s),aD (.tup (K.rows.map dI)),aD (.tup (K.hs.map dI)),aD (ahD K.ah),aD (.tup (K.gs.map dI)),aD (dI K.fs),aD (.ref m)] f _;k_is;show cY (.tup (K.fs.map D.int)) f _;k_is;cases e:K.fs with
  |nil=>
   rw [e]at q;k_is;calc {rfl,aa (mP B.at_ (Aq Z.each (by let:=Z.len;lia))) ?_};let:=q f B.sm
   rwa[show (fxL []).map (aU "fixed")=[] from rfl,ZN]at this
  |cons a l=>
   rw[e]at q;let o:inN (a::l)/\(a::l).length<=7:=by rw[<-e];exact h.fs
   let H:cZ "fixed" = a8:=by decide +kernel
   k_is;calc{bq B.at_,rfl,fK (k:=k) H o.1 (by let:=o.2;lia) λM J=>?_};k_is;let E:=B.then J
   rw[gk E.at_ (by rw[Za];let:=Z.len;lia)];let y:=E.set (ys:=ys++[aU "fixed" (a::l)]) (by rw[Zu]);let c:=Z.app (fL (ls:=[a::l]) H (λx L=>by rw[Zw.mp L];exact o) (Zc 1));let c:Sml (50+7+1) (ys++[aU "fixed" (a::l)]):=c;k_is;calc{rfl,aa (mP y.at_ (Aq c.each (by let:=c.len;lia))) ?_};exact q _ y.sm
def As{K:SkP}(h:SkN K)(q:∀f,Sm S f->Q (.str (al K)) f):Ok (evC ae (k+2) 19 [skD K] S) Q:=by
 calc aV (d:=kM) (ρ:=[aD (skD K),aT,aT,aT,aT,aT,aT,aT,aT]) rfl rfl ?_;dsimp![kM,kK];k_is;calc{_,rfl,?_};k_is;calc{rfl,fK (k:=k) (l:=[K.r,K.s]) (w := "meadow") (by decide +kernel) h.rs (by show 2<=100;decide) λg E=>?_};let v:Bl S (Zd g) (g++[Ob.lst [D.str (aU "meadow" [K.r,K.s])]]) [aU "meadow" [K.r,K.s]]:={E.trans (Sm.app _ _),Sm.le E,au};let L:Sml 1 [aU "meadow" [K.r,K.s]]:=fL (ls:=[[K.r,K.s]]) (w := "meadow") (by decide +kernel) (λx hx=>by rw[Zw.mp hx];exact{h.rs,by show 2<=7;decide}) (Zc 1);generalize g++[Ob.lst [D.str (aU "meadow" [K.r,K.s])]]=S2 at *;generalize Zd g=m at *;clear E;k_is;let I:cZ "gaps" = a8:=by decide +kernel
 refine{m,rfl,kU (S0:=S) (n:=0) (m:=0) (by let:=h.l1;lia) I h.rows (λl f H sm=>{_,rfl,?_}) λj sm=>{_,_,_,rfl,((v.then sm).then (Sm.app _ _)).at_,au,?_,?_}}
 .k_is;exact{rfl,fK (k:=k) I (h.rows l H).1 (by let:=(h.rows l H).2;lia) λj o=>⟨rfl,o⟩}
 .rw[Za,Za,Za];let:=h.l1;show 1+_<=_;lia
 let B:=((v.then sm).then (Sm.app j [Ob.lst ((K.rows.map (aU "gaps")).map D.str)])).set (ys:=[aU "meadow" [K.r,K.s]]++K.rows.map (aU "gaps")) (Zu ..).symm;let Z:=L.app (fL I h.rows h.l1);generalize Y3 (j++[Ob.lst ((K.rows.map (aU "gaps")).map D.str)]) m _=S4 at *;show rW _ (yG K m) S4 _;clear v L sm;dsimp![yG];k_is;let c:cZ "shut" = a8:=by decide +kernel
 refine{m,rfl,kU (S0:=S) (n:=0) (m:=0) (by let:=h.l2;lia) c h.hs (λl f H sm=>{_,rfl,?_}) λT sm=>{_,_,_,rfl,((B.then sm).then (Sm.app _ _)).at_,au,?_,?_}}
 .k_is;exact{rfl,fK (k:=k) c (h.hs l H).1 (by let:=(h.hs l H).2;lia) λj o=>⟨rfl,o⟩}
 .rw[Za,Za,Za];let:=h.l2;let:=Z.len;lia
 let C:=((B.then sm).then (Sm.app T [Ob.lst ((K.hs.map (aU "shut")).map D.str)])).set (ys:=([aU "meadow" [K.r,K.s]]++K.rows.map (aU "gaps"))++K.hs.map (aU "shut")) (Zu ..).symm;let O:=Z.app (fL c h.hs h.l2);generalize Y3 (T++[Ob.lst ((K.hs.map (aU "shut")).map D.str)]) m _=S6 at *;show rW _ (yG K m) S6 _;clear B Z sm
 let fin:∀ {y:Sto},Bl S m y (([aU "meadow" [K.r,K.s]]++K.rows.map (aU "gaps"))++K.hs.map (aU "shut")++K.ah.map (aU "ahead"))->rW (wSs (evC ae (k+1)) (cz ae) 55 (kK.drop 5)) (yG K m) y (out Q):=λb=>by
  let M:=O.app (fL (w := "ahead") (by decide +kernel) h.ah h.l3);calc Ck h b {by let:=M.len;lia,M.each} λf X=>?_;let:=q f X;delta al at this;rw[<-Gg]at this
  rw[show([aU "meadow" [K.r,K.s]]++K.rows.map (aU "gaps"))++K.hs.map (aU "shut")++K.ah.map (aU "ahead")++K.gs.map (aU "glider")++(fxL K.fs).map (aU "fixed")=aU "meadow" [K.r,K.s]::(c7 K).map aK by
   delta c7;simp![Zu,Yl,ZK,XM,Z3,Yb];rfl]
  exact this
 dsimp![yG];k_is
 let Y:K.ah=[]\/∃l,K.ah=[l]:=by
  match e:K.ah,h.l3 with
  |[],_=>exact .inl rfl
  |[l],_=>exact .inr ⟨l,rfl⟩
  |_::_::_,z=>simp at z
 rcases Y with e |⟨l,e⟩
 .let is:ay .t (ahD K.ah) .non S6=aD (.bl a9,S6):=by rw[e];rfl
  calc aa is ?_;exact fin (by rw[e,ZX,ZN];exact C)
 .let is:ay .t (ahD K.ah) .non S6=aD (.bl a8,S6):=by rw[e];rfl
  calc aa is ?_;let u:cZ "ahead" = a8:=by decide +kernel
  let H:=h.ah l (by rw[e];exact Zw.mpr rfl);k_is;rw[show ahD K.ah=dI l by rw[e];rfl];calc{bq C.at_,rfl,fK (k:=k) u H.1 (by let:=H.2;lia) λy s7=>?_};k_is;let J:=C.then s7
  rw[gk J.at_ (by rw[Za];let:=O.len;lia)];let U:=J.set (ys:=([aU "meadow" [K.r,K.s]]++K.rows.map (aU "gaps"))++K.hs.map (aU "shut")++K.ah.map (aU "ahead")) (by rw[e,Zu]);rw[<-show ahD K.ah=dI l by rw[e];rfl];exact fin U
abbrev wds:List Str:=["meadow","gaps","shut","ahead","glider","fixed"]
abbrev ksW:List Key:=wds.map Sum.inr
abbrev vN(n i:Nat):List D:=(Zm i).map λj=>.ref (n+1+j)
def Cm(n i:Nat):vN n (i+1)=vN n i++[.ref (n+1+i)]:=by delta vN;rw[Yk,Zu];rfl
structure Fd(S:Sto)(n i:Nat)(S':Sto)(vs:Nat->List D):Prop where
 sm:Sm S S'
 le:S.length<=n
 d:S'[n]?=aD (.dic (ksW.take i) (vN n i))
 l:∀j,j < i->S'[n+1+j]?=aD (.lst (vs j))
def Fd.then{n i:Nat}(f:Fd S n i c vs)(s:Sm c b):Fd S n i b vs:={f.sm.trans s,f.le,s _ _ f.d,λj h=>s _ _ (f.l j h)}
def o9{m:Nat}(s:Sm S b)(h:S.length<=m):Sm S (b.set m o):=λi u e=>by
 rw[ZA (by let:=(Zb.mp e).1;lia)];exact s _ _ e
def Fd.put{n i j:Nat}(f:Fd S n i b v)(h:j < i):Fd S n i (b.set (n+1+j) (.lst ds)) (λx=>if x=j then ds else v x):=by
 let c:=(Zb.mp (f.l j h)).1;calc{o9 f.sm (by let:=f.le;lia),f.le,by rw[ZA (by lia)];exact f.d,λx H=>?_};by_cases e:x=j
 .subst e;rw[if_pos rfl,Zq c]
 .rw[if_neg e,ZA (by lia)];exact f.l x H
def Gm{c:Nat}{j v:XE}{h:Rho}{Q:Fl->Rho->Sto->Prop}{w:Str}{b:List Key}{ds:List D}{g:D}{f:Sto}(o:j h S=aD (.str w,S))(u:v h S=aD (g,f))(B:f[c]?=aD (.dic b ds))(z:∀x∈b,x≠Sum.inr w)(H:b.length < 1000)(q:Q .nx h (f.set c (.dic (b++[Sum.inr w]) (ds++[g])))):OkS (uJ c j v h S) Q:=by
 let e:BB c (.str w) g f=aD (f.set c (.dic (b++[Sum.inr w]) (ds++[g]))):=by
  delta BB uu;dsimp!;rw[B];dsimp!;rw[if_pos {Zg.mpr λx y=>decide_eq_true (z x y),H}]
 delta uJ;rw[o];dsimp!;rw[u];dsimp!;rw[e];exact Ta.mpr q
def Gn{y J:XE}{B:Rho}{Q:Fl->Rho->Sto->Prop}(h:6 < B.length)(O:∀w b S,b[6]?=aD (aD (.str w))->y b S=aD (.str w,S))(L:∀b S,J b S=aD (.ref (Zd S),S++[.lst []]))
  (q:∀o c,Fd S (Zd S) 6 c (λ_=>[])->Q .nx o c):OkS (c8 (nxL (wds.map D.str)) (.n 6) (uJ (Zd S) y J) LF 0 B (S++[.dic [] []])) Q:=by
 calc Ap (by decide) (λi b c=>6 < b.length/\c.length=S.length+1+i/\Fd S (Zd S) i c (λ_=>[])) (λi d b c hd I=>?_) (λb c I=>q b c I.2.2) {h,by simp,Sm.app _ _,Zc _,au,λj H=>absurd H (Yc _)};let{g,hs,f}:=I;let{w,v,rfl}:=yD hd;let U:i < 6:=(Zb.mp v).1;calc{_,by rw[mL,if_pos g],?_};let u:=f.then (Sm.app c [Ob.lst []])
 let M:ksW.take (i+1)=ksW.take i++[Sum.inr w]:=by
  rw[Wu,show ksW[i]?=aD (Sum.inr w) by delta ksW;rw[Zn,v];rfl];rfl
 let C:(c++[Ob.lst []]).length=S.length+1+i+1:=by rw[Zi,hs];rfl
 refine Gm (O w _ c (by rw[Zq g])) (L _ _) u.d (λx T z=>?_) (by rw[ZD];show min i 6 < 1000;lia) ?_
 .let nd:ksW.Nodup:=by decide +kernel
  let{j,H,e}:=Yr T;rw[ZD]at H;let H:j < i:=by lia
  rw[Xg]at e;let E:ksW[i]?=aD (Sum.inr w):=by delta ksW;rw[Zn,v];rfl
  let{X,E}:=Zb.mp E;let:=(YU nd).mp (e.trans (z.trans E.symm))
  lia
 .refine{by rw[YA];exact g,by rw[YA,C];lia,o9 u.sm (Zc _),Zc _,?_,λj H=>?_}
  .rw[Zq (by rw[C];lia),M,Cm,hs]
  .rw[ZA (by lia)];by_cases e:j=i
   .subst e;rw[<-hs];exact au
   .exact u.l j (by lia)
def Go(h:(y.length == 0)=a9)(b:x.length<=9000)(f:(Txt.split x y).length<=9000)(H:∀z∈Txt.split x y,z.length<=9000):cC (.str x) [.str y] S=aD (.ref (Zd S),S++[.lst ((Txt.split x y).map D.str)]):=by
 delta cC;dsimp!;rw[if_pos {h,b,f,Zg.mpr λz c=>decide_eq_true (H z c)}]
abbrev wix(w:Str):Nat:=wds.findIdx (· == w)
structure LnOk(x:Str×List Int):Prop where
 w:x.1∈wds
 n:inN x.2
 l:x.2.length<=7
def fh:∀w∈wds,cZ w=a8/\wix w < 6/\wds[wix w]?=aD w:=by decide +kernel
def UB{n:Nat}(f:Fd c n 6 b v)(hw:w∈wds):ay .o (.str w) (.ref n) b=aD (.bl a9,b):=by
 show inS a8 (.str w) (.ref n) b=_;delta inS;let e:am (.ref n) b=aT:=by simp![am,az,f.d,Wn]
 rw[e];show inK a8 (.str w) (.ref n) b=_;delta inK uu;dsimp!;rw[f.d];dsimp!;let:((ksW.take 6).any λa=>decide (a=Sum.inr w))=a8:=YV.mpr {Sum.inr w,ZF.mpr ⟨w,hw,rfl⟩,decide_eq_true rfl};rw[this];rfl
def LS{n:Nat}(f:Fd c n 6 b v)(hw:w∈wds):ixS (.ref n) (.str w) b=aD (.ref (n+1+wix w),b):=by
 let e:∀w∈wds,pG ksW (vN n 6) (.inr w)=aD (.ref (n+1+wix w)):=λw hw=>by
  simp![wds,Zl,ZM,or_false]at hw;rcases hw with rfl |rfl |rfl |rfl |rfl |rfl <;> rfl
 simp![ixS,ixD,f.d];rw[show ksW.take 6=ksW from rfl,e w hw];rfl
def yH{c:Type}{n:Nat}{l:List c}{E:c->D}(h:S[n]?=aD (.lst (l.map E))):∀i b,Sm S b->nxS n i b=aD ((l[i]?).map E):=λi b sm=>by
 show(az b n).map (λf=>f[i]?)=_;rw[aq (sm _ _ h),Zp,Zn]
abbrev UC:List CS:=match jX with
 |_ :: .f _ _ b::_=>b
 |_=>[]
def kc{m:Nat}(h:S[m]?=aD (.lst ds)):aC gH (.ref m) S=aD (.tup ds,S):=by simp![aC,am,aq h,Zp,gH]
abbrev ofW(L:List (Str×List Int))(j:Nat):List (List Int):=(L.filter λx=>wix x.1 == j).map (·.2)
def pb{a b:Int}(c:0<=a)(f:b<=9999):∀ {T:List Dw.D},(∀e∈T,Dw.ag e a b=a8)->∃l,T=l.map Dw.D.int/\inN l/\l.length=T.length
 |[],_=>{[],rfl,λn hn=>by simp at hn,rfl}
 |t::T,h=>by
  let{i,rfl,o,j}:=Dw.ak (h t Zf);let{l,rfl,g,e}:=pb c f λe H=>h e (Zh _ H);exact⟨i::l,rfl,λn hn=>by rcases Zl.mp hn with rfl |hn;exact{by lia,by lia};exact g n hn,by rw[Zt,e,Zt]⟩
def mQ:∀ {ts:List Dw.D},(∀t∈ts,∃l,t=tI l/\inN l/\l.length<=7)->∃L:List (List Int),ts=L.map tI/\(∀l∈L,inN l/\l.length<=7)/\L.length=ts.length
 |[],_=>{[],rfl,λn hn=>by simp at hn,rfl}
 |t::ts,h=>by
  let{l,rfl,H}:=h t Zf;let{L,rfl,c,e}:=mQ λe b=>h e (Zh _ b);exact⟨l::L,rfl,λn hn=>by rcases Zl.mp hn with rfl |hn;exact H;exact c n hn,by rw[Zt,e,Zt]⟩
def yI(h:Dw.bU t=a8):∃K,t=skT K/\SkN K:=by
 obtain⟨tm,Z,U,Y,rfl⟩:∃m a g f,t = .tup [m,a,g,f]:=by
  delta Dw.bU at h;split at h
  .exact⟨_,_,_,_,rfl⟩
  .cases h
 rw[Dw.rV]at h;simp![bAE]at h;let{em,E,y,I}:=h;let{r,s,rows,hs,rfl,r0,r8,s0,s60,B,T}:=Dw.fA em;simp![Dw.eL,Dw.iz,Dw.kr]at E y;simp![Dw.aR,bAE,decide_eq_true_eq]at B;simp![Dw.aN,bAE,decide_eq_true_eq]at T
 let{L,rfl,hr,er}:=mQ (ts:=rows) λt v=>by
  let:=Zg.mp B.2.1 t v;delta Dw.bS at this;split at this
  .rename_i ds;rw[bAE,decide_eq_true_eq,Zg]at this;let{l,rfl,q,e}:=pb (by decide) (by decide) this.2;exact{l,rfl,q,by lia}
  .cases this
 let{C,rfl,M,eh}:=mQ (ts:=hs) λt v=>by
  let:=Zg.mp T.2.1 t v;delta Dw.aB at this;split at this
  .rename_i b e;simp![bAE]at this;let{b,rfl,b0,b1}:=Dw.ak this.1;let{e,rfl,e0,e1}:=Dw.ak this.2.1;exact⟨[b,e],rfl,λn H=>by simp![Zl,ZM,or_false]at H;rcases H with rfl |rfl <;> exact{by assumption,by assumption},by simp⟩
  .cases this
 obtain⟨o,rfl,X,la⟩:∃o,Z=ahT o/\(∀l∈o,inN l/\l.length<=7)/\o.length<=1:=by
  delta Dw.bF at E;split at E
  .exact{[],rfl,λl q=>by simp at q,by simp}
  .rename_i kk mm;simp![bAE]at E;let{b,rfl,b0,b1}:=Dw.ak E.1;let{e,rfl,e0,e1}:=Dw.ak E.2;calc{[[b,e]],rfl,λl q=>?_,by simp};rw[Zw.mp q];calc{λn H=>?_,by simp};simp![Zl,ZM,or_false]at H;let:=B.1.2;rcases H with rfl |rfl
   .exact{by lia,by lia}
   .exact{by lia,by lia}
  .cases E
 cases U with
 |tup gs=>
  simp![Dw.aM,bAE,decide_eq_true_eq]at y
  let{c,rfl,J,eg'}:=mQ (ts:=gs) λt v=>by
   let{k,j,f,l,u,w,g,rfl,z}:=Dw.qg (Zg.mp y.2 t v);calc{[k,j,f,l,u,w,g],rfl,λn H=>?_,by simp};let:=B.1.2;simp![Zl,ZM,or_false]at H;rcases H with rfl |rfl |rfl |rfl |rfl |rfl |rfl <;> exact{by lia,by lia}
  cases Y with
  |tup fs=>
   simp![Dw.tupOf,Dw.bO,bAE]at I;let O:=I.1;simp![Dw.bT,bAE,decide_eq_true_eq]at O;let{fl,rfl,hf,ef'}:=pb (a:=0) (b:=((c.map tI).length:Int) - 1) (by decide) (by lia) (Zg.mp O.2.1);exact⟨⟨r,s,L,C,o,c,fl⟩,rfl,⟨λn H=>by simp![Zl,ZM,or_false]at H;rcases H with rfl |rfl <;> exact{by lia,by lia},hr,M,X,J,{hf,by lia},by lia,by lia,la,by lia⟩⟩
  |_=>simp[Dw.bO]at I
 |_=>simp[Dw.aM]at y
def vO:∀ {l:List Int} {ds:List D},TDs p S (l.map Dw.D.int) ds->ds=l.map D.int
 |[],ds,h=>h.nil
 |i::l,ds,h=>by
  let{d,r,rfl,a,q}:=h.cons;rw[a.int,vO q];rfl
def Gp(h:TD p S (tI l) d):d=dI l:=by
 let{b,rfl,q}:=h.tup;rw[vO q];rfl
def tG:∀ {L:List (List Int)} {ds:List D},TDs p S (L.map tI) ds->ds=L.map dI
 |[],ds,h=>h.nil
 |i::l,ds,h=>by
  let{d,r,rfl,a,q}:=h.cons;rw[Gp a,tG q];rfl
def yJ(h:TD p S (skT K) d):d=skD K:=by
 let{T,rfl,q}:=h.tup;let{a,b,c,e,rfl,u,H,j,z}:=vK q;let{M,rfl,f}:=u.tup;let{I,L,O,J,rfl,g,E,v,B}:=vK f;let{_,rfl,o}:=v.tup;let{_,rfl,y}:=B.tup;let{_,rfl,C}:=j.tup
 rw[g.int,E.int,tG o,tG y,tG C,Gp z,show b=ahD K.ah by
  cases e:K.ah with
  |nil=>rw[e]at H;exact H.non
  | cons l _=>rw[e]at H;exact Gp H]
 rfl
def kf:∀ {l:List Int},TDs p S (l.map Dw.D.int) (l.map D.int)
 |[]=>bA
 |_::l=>ax dn kf
def mR:∀ {L:List (List Int)},TDs p S (L.map tI) (L.map dI)
 |[]=>bA
 |_::l=>ax (td_tup kf) mR
def Gq:TD p S (skT K) (skD K):=
 td_tup (ax (td_tup (ax dn (ax dn (ax (td_tup mR) (ax (td_tup mR) bA))))) (ax (by
  cases e:K.ah with
  |nil=>exact oZ
  | cons l _=>exact td_tup kf) (ax (td_tup mR) (ax (td_tup kf) bA))))
abbrev lnK(K:SkP):List (Str×List Int):=("meadow",[K.r,K.s])::c7 K
def kg(a b:List (Str×List Int))(j:Nat):ofW (a++b) j=ofW a j++ofW b j:=by delta ofW;rw[Xc,Zu]
def gp(w:Str)(j:Nat):∀L:List (List Int),ofW (L.map (w,·)) j=if wix w=j then L else []
 |[]=>by split <;> rfl
 |l::L=>by
  let I:=gp w j L;delta ofW at I ⊢;rw[Zx,Xr];by_cases h:wix w=j
  .rw[if_pos h]at I ⊢;rw[if_pos (by rw[h];exact beq_self_eq_true _),Zx,I]
  .rw[if_neg h]at I ⊢;rw[if_neg (by intro z;exact h (eq_of_beq z)),I]
def Gr:wix "meadow" = 0/\wix "gaps" = 1/\wix "shut" = 2/\wix "ahead" = 3/\wix "glider" = 4/\wix "fixed" = 5:=by decide +kernel
def UD(K:SkP):ofW (lnK K) 0=[[K.r,K.s]]/\ofW (lnK K) 1=K.rows/\ofW (lnK K) 2=K.hs/\ofW (lnK K) 3=K.ah/\ofW (lnK K) 4=K.gs/\ofW (lnK K) 5=fxL K.fs:=by
 let e:∀j,ofW (lnK K) j=ofW ([[K.r,K.s]].map (("meadow" : Str),·)) j++ofW (c7 K) j:=λj=>kg [("meadow",[K.r,K.s])] (c7 K) j;let{c,g,w2,h,b,f}:=Gr;calc{?_,?_,?_,?_,?_,?_} <;>
 .rw[e];delta c7;rw[kg,kg,kg,kg,gp,gp,gp,gp,gp,gp,c,g,w2,h,b,f];simp
def i7(h:SkN K):∀y∈lnK K,LnOk y:=by
 let e:∀ {w:Str} {L:List (List Int)} {y:Str×List Int},w∈wds->(∀l∈L,inN l/\l.length<=7)->y∈L.map (w,·)->LnOk y:=λc H hy=>by
  let{l,b,rfl}:=ZF.mp hy;exact{c,(H l b).1,(H l b).2}
 intro y hy;delta lnK c7 at hy;simp![Zl,ZC]at hy;rcases hy with rfl |(((hy |hy) |hy) |hy) |hy
 .exact{(by decide +kernel:("meadow" : Str)∈wds),h.rs,by show 2<=7;decide}
 .exact e (by decide +kernel) h.rows hy
 .exact e (by decide +kernel) h.hs hy
 .exact e (by decide +kernel) h.ah hy
 .exact e (by decide +kernel) h.gs hy
 .calc e (w := "fixed") (by decide +kernel) (λl H=>?_) hy;delta fxL at H;split at H
  .simp at H
  .rw[Zw.mp H];exact h.fs
def QX(h:SkN K):(lnK K).length<=18:=by
 delta lnK c7;let:(fxL K.fs).length<=1:=by delta fxL;split <;> simp
 simp![Zt,Zi,Za];let:=h.l1;let:=h.l2;let:=h.l3;let:=h.l4
 lia
def Au(h:LnOk y):(aK y).length<=50:=by
 let:=tF y.1 y.2 h.n;let:=Ar (fh y.1 h.w).1;let:=h.l;show(aU y.1 y.2).length<=_
 lia
def Gs(h:SkN K):(al K).length<=918:=by
 let f:=QX h
 let H:=Am (aK ("meadow",[K.r,K.s])) 50 (Au (i7 h _ Zf)) ((c7 K).map aK) λy b=>by
  let{z,c,rfl}:=ZF.mp b;exact Au (i7 h _ (Zh _ c))
 let j:(c7 K).length+1<=18:=f;let g:((c7 K).map aK).length=(c7 K).length:=Za ..;let:(al K).length<=(50+1) * (((c7 K).map aK).length+1):=H;rw[g]at this
 lia
def jy(h:SkN K):Txt.split (al K) "\n" = (lnK K).map aK:=by
 calc Cj (x:=aK ("meadow",[K.r,K.s])) (ls:=(c7 K).map aK) λz H c f=>?_;let H:z∈(lnK K).map aK:=H;let{y,b,rfl}:=ZF.mp H;let:=i7 h y b;exact Ao (fh y.1 this.w).1 this.n c f
def Gu(h:SkN K):∀ c∈ao (al K),c < 128:=
 txt_cps (x:=aK ("meadow",[K.r,K.s])) (ls:=(c7 K).map aK) λz H c f=>by
  let H:z∈(lnK K).map aK:=H;let{y,b,rfl}:=ZF.mp H;let:=i7 h y b;exact Ao (fh y.1 this.w).1 this.n c f
abbrev lnD(y:Str×List Int):D:=.tup [.str y.1,dI y.2]
def aZ(h:x.length+y.length<=100000):bv .add (.str x) (.str y) S=aD (.str (x++y),S):=by
 simp![bv,cJ];rw[if_pos h]
def iP{n:Int}(h:0<=n/\n<=9999):(bB n).length<=4:=(kR h.1 h.2).len
def dM{b:Type}{l:List b}{i:Nat}(h:i < l.length):l.take (i+1)=l.take i++[l[i]]:=ZQ h
def KI{y:Str×List Int}{a b c e f g:Option D}(H:LnOk y){Q:Fl->Rho->Sto->Prop}{C:Calls}{ar:Nat->Nat}{z:Nat}(q:∀j,Q .nx [a,b,c,aD (.str (aK y)),aD (dI y.2),j,f,g] S) :
  OkS (c8 (nxL (y.2.map D.int)) (.n 5) (eY C ar (z+8) [CS.a (Tg.n 3) (CE.b BOp.add (CE.b BOp.add (CE.v 3) (CE.str " ")) (CE.v 5).strI)]) LF 0 [a,b,c,aD (.str y.1),aD (dI y.2),e,f,g] S) Q:=by
 let L:=Ar (fh y.1 H.w).1;refine Ap (by rw[Za];let:=H.l;lia) (λi v u=>u=S/\i<=y.2.length/\∃j,v=[a,b,c,aD (.str (aU y.1 (y.2.take i))),aD (dI y.2),j,f,g]) (λi d v u hd I=>?_) (λv u I=>?_) {rfl,Z5 _,_,rfl}
 .let{rfl,o,j,rfl}:=I;let{n,B,rfl}:=yD hd;let{o,rfl}:=Zb.mp B;let h:=H.n _ (ZG o);let J:=tF y.1 (y.2.take i) λm E=>H.n m (YT E);rw[ZD]at J;let O:=H.l;let T:=iP h;let M:Str.length (" " : Str)=1:=rfl;calc{_,rfl,?_};k_is;calc aa (aZ (by lia)) ?_;k_is;calc aa (mO h.1 h.2) ?_;k_is;calc aa (aZ (by rw[bu];lia)) ?_;k_is;exact{rfl,o,aD (.int y.2[i]),by rw[dM o,kS]}
 .let{rfl,o,j,rfl}:=I;rw[Za,Z4];exact q j
def UE:eX (d::ds) (aD 1) aT=ds:=by
 delta eX
 let H:HT.sIx (d::ds).length 0 (aD 1)=1:=by
  delta HT.sIx;simp
 let h:HT.sIx (d::ds).length (d::ds).length aT=ds.length+1:=rfl;rw[H,h,YH,YI,Nat.add_sub_cancel,Z4]
def qT{L J:Sto}{m n:Nat}{X:Str}{ys:List (Str×List Int)}{a b c d e f:Option D}(bl:Bl L m J [X])(hx:X.length<=50)(Z:J[n]?=aD (.lst (ys.map lnD)))(nm:n≠m)(hl:ys.length<=20)(Y:∀y∈ys,LnOk y)
  (q:∀g,Sm L g->Q (.str (j8 X (ys.map aK))) g) :
  rW (wSs (evC ae k) (cz ae) 55 (fZ.drop 5)) [a,aD (.ref m),aD (.ref n),b,c,d,e,f] J (out Q):=by
 dsimp![fZ,YD];k_is;calc{by rw[aq Z];rfl,?_};refine cQ ys.length (λi j g=>Bl L m g (X::(ys.take i).map aK)/\g[n]?=aD (.lst (ys.map lnD))/\∃b c d,j=[a,aD (.ref m),aD (.ref n),b,c,d,e,f]) (by delta LF;lia) (λi j g H I=>?_) (λj g I=>?_) ⟨bl,Z,_,_,_,rfl⟩
 .let{B,h,b,c,d,rfl}:=I;refine{lnD ys[i],[a,aD (.ref m),aD (.ref n),aD (.str (ys[i]).1),aD (dI (ys[i]).2),d,e,f],?_,rfl,?_}
  .show(az g n).map (λu=>u[i]?)=_;rw[aq h,Zp,Zn,gEG H];rfl
  .let E:=Y _ (ZG H);k_is;calc KI (C:=evC ae k) (ar:=cz ae) E λc'=>?_;k_is;calc{bq B.at_,?_};k_is;rw[gk B.at_ (by rw[Za,Zt,Za,ZD];lia)];k_is;refine{B.set (by rw[dM H,Zu,<-Z3,Zu];rfl),by rw[ZA (Ne.symm nm)];exact h,_,_,_,rfl}
 .let{B,h,b,c,d,rfl}:=I;rw[Z4]at B;refine{?_,?_}
  .show(az g n).map (λu=>u[ys.length]?)=_;rw[aq h,Zp,ZH (by rw[Za];exact Zc _)]
  k_is
  let U:ixS (.ref m) (.int 0) g=aD (.str X,g):=by
   simp![ixS,am,aq B.at_,Zp];rw[show atI ((X::ys.map aK).map D.str) 0=aD (.str X) by simp[atI,ixN]];rfl
  calc aa U ?_;k_is
  let sl:slS (aD 1) aT (.ref m) g=aD (.ref (Zd g),g++[Ob.lst ((ys.map aK).map D.str)]):=by
   simp![slS,aq B.at_];rw[Zx,UE]
  calc aa sl ?_;let b2:=B.then (Sm.app g [Ob.lst ((ys.map aK).map D.str)])
  let o:(g++[Ob.lst ((ys.map aK).map D.str)])[Zd g]?=aD (Ob.lst ((ys.map aK).map D.str)):=au;generalize Zd g=N at *;generalize g++[Ob.lst ((ys.map aK).map D.str)]=S2 at *;calc(show(az S2 N).isSome=a8/\_ from {by rw[aq o];rfl,?_});refine cQ (ys.map aK).length (λi j v=>v=S2/\∃T,j=[a,aD (.ref m),aD (.ref n),b,c,d,aD (.str (j8 X ((ys.map aK).take i))),T]) (by rw[Za];delta LF;lia) (λi j v H I=>?_) (λj v I=>?_) ⟨rfl,_,rfl⟩
  .let{rfl,T,rfl}:=I;refine{.str (ys.map aK)[i],[a,aD (.ref m),aD (.ref n),b,c,d,aD (.str (j8 X ((ys.map aK).take i))),aD (.str (ys.map aK)[i])],?_,rfl,?_}
   .show(az v N).map (λu=>u[i]?)=_;rw[aq o,Zp,Zn,gEG H];rfl
   .let each:∀z∈ys.map aK,z.length<=50:=λz O=>by
     let{y,M,rfl}:=ZF.mp O;exact Au (Y y M)
    let tl:=Am X 50 hx ((ys.map aK).take i) λz O=>each z (YT O);let l2:((ys.map aK).take i).length<=20:=by rw[ZD,Za];lia
    let ri:=each _ (ZG H);let s1:Str.length ("\n" : Str)=1:=rfl;let tl2:(j8 X ((ys.map aK).take i)).length<=2000:=Zy tl (Zy (Nat.mul_le_mul_left 51 (Y4 l2 1)) (by decide));k_is;calc aa (aZ (by lia)) ?_;k_is;calc aa (aZ (by rw [bu];lia)) ?_;k_is;exact {rfl,aD (.str (ys.map aK)[i]),by rw [dM H,o6]}
  .let{rfl,T,rfl}:=I;rw [Z4];refine {?_,?_}
   .show (az v N).map (λu=>u[(ys.map aK).length]?)=_;rw [aq o,Zp,ZH (by rw [Za];exact Zc _)]
   k_is;exact q _ b2.sm
def Bl.other{m n:Nat}(b:Bl S m c xs)(nm:n≠m)(hl:S.length<=n):Bl S m (c.set n o) xs:={o9 b.sm hl,b.le,by rw [ZA nm];exact b.at_}
def qU{K:SkP}{z u:Sto}{m n:Nat}{X:Str}{ys:List (Str×List Int)}{b c d e f:Option D}(h:SkN K)(bl:Bl z m u [X])(U:X.length<=50)(hn:u[n]?=aD (.lst (ys.map lnD)))(hl:ys.length<=9)(Z:∀ y∈ys,LnOk y)
  (q:∀ j,Sm z j->Q (.str (j8 X ((ys++K.gs.map (("glider" : Str),·)++(fxL K.fs).map (("fixed" : Str),·)).map aK))) j) :
  rW (wSs (evC ae k) (cz ae) 57 (fZ.drop 3)) [aD (skD K),aD (.ref m),aD (.ref n),b,c,d,e,f] u (out Q):=by
 dsimp! [fZ,YD];k_is;let L:ixS (skD K) (.int 2) u=aD (.tup (K.gs.map dI),u):=rfl;calc aa L ?_;refine ig K.gs dI (λl=>lnD ("glider",l)) (by let:=h.l4;lia) jx (λl j hl sm=>{_,rfl,?_}) λg sm=>?_
 .k_is;exact {rfl,Sm.refl _}
 .let T:=Sm.app g [Ob.lst (K.gs.map λl=>lnD ("glider",l))];calc aa (j9 (T _ _ (sm _ _ hn)) au (by rw [Za,Za];let:=h.l4;lia)) ?_;let M:=(bl.then sm).then (T.trans (Sm.app (g++[Ob.lst (K.gs.map λl=>lnD ("glider",l))]) [Ob.lst (ys.map lnD++K.gs.map λl=>lnD ("glider",l))]))
  let H:(g++[Ob.lst (K.gs.map λl=>lnD ("glider",l))]++[Ob.lst (ys.map lnD++K.gs.map λl=>lnD ("glider",l))])[Zd (g++[Ob.lst (K.gs.map λl=>lnD ("glider",l))])]?=aD (Ob.lst ((ys++K.gs.map (("glider" : Str),·)).map lnD)):=by
   rw [au,Zu,Yl];rfl
  let nm:Zd (g++[Ob.lst (K.gs.map λl=>lnD ("glider",l))])≠m:=by
   let:=(Zb.mp (bl.then sm).at_).1;rw [Zi];lia
  let B:z.length<=Zd (g++[Ob.lst (K.gs.map λl=>lnD ("glider",l))]):=by let:=Sm.le (bl.then sm).sm;rw [Zi];lia
  generalize g++[Ob.lst (K.gs.map λl=>lnD ("glider",l))]++[Ob.lst (ys.map lnD++K.gs.map λl=>lnD ("glider",l))]=S3 at *;generalize Zd (g++[Ob.lst (K.gs.map λl=>lnD ("glider",l))])=N at *
  let v:∀ y∈ys++K.gs.map (("glider" : Str),·),LnOk y:=λy h1=>(ZC.mp h1).elim (Z y) λh1=>by
   let{l,O,rfl}:=ZF.mp h1;exact {(by decide +kernel:("glider" : Str)∈wds),(h.gs l O).1,(h.gs l O).2}
  let l2:(ys++K.gs.map (("glider" : Str),·)).length<=16:=by rw [Zi,Za];let:=h.l4;lia
  generalize ys++K.gs.map (("glider" : Str),·)=zs at *;let I:∀ S,ixS (skD K) (.int 3) S=aD (dI K.fs,S):=λS=>rfl;k_is;calc aa (I S3) ?_;calc aa (show aC dR (dI K.fs) S3=aD (.int K.fs.length,S3) by simp! [aC,dI,am,dR,Za]) ?_;k_is;cases E:K.fs with
  |nil=>
   rw [E]at q;rw [show decide ((0:Int) < (([]:List Int).length:Nat))=a9 from rfl];calc qT M U H nm (by lia) v λj J=>?_;let:=q j J
   rwa[show (fxL []).map (("fixed" : Str),·)=[] from rfl,ZN]at this
  |cons a l=>
   rw[E]at q;let Y:inN (a::l)/\(a::l).length<=7:=by rw[<-E];exact h.fs
   rw[show decide ((0:Int) < ((a::l).length:Nat))=a8 from decide_eq_true (by rw[Zt];lia)];k_is;calc{bq H,?_};k_is;calc aa (I S3) ?_;rw[gk H (by rw[Za];lia)];let b3:=M.other (o:=Ob.lst (zs.map lnD++[D.tup [.str "fixed",dI K.fs]])) nm B
   let C:(Y3 S3 N (Ob.lst (zs.map lnD++[D.tup [.str "fixed",dI K.fs]])))[N]?=aD (Ob.lst ((zs++[(("fixed" : Str),a::l)]).map lnD)):=by
    rw[Zq (Zb.mp H).1,E,Zu];rfl
   generalize Y3 S3 N (Ob.lst (zs.map lnD++[D.tup [.str "fixed",dI K.fs]]))=S4 at *;calc qT b3 U C nm (by rw[Zi];show zs.length+1<=20;lia) (λy h1=>?_) λj J=>q j J;rcases ZC.mp h1 with h1 |h1
   .exact v y h1
   .rw[Zw.mp h1];exact{(by decide +kernel:("fixed" : Str)∈wds),Y.1,Y.2}
def pd(h:SkN K)(q:∀f,Sm S f->Q (.str (al K)) f):Ok (evC ae (k+1) 38 [skD K] S) Q:=by
 calc aV (d:=jq) (ρ:=[aD (skD K),aT,aT,aT,aT,aT,aT,aT]) rfl rfl ?_;dsimp![jq,fZ];let I:∀S,ixS (skD K) (.int 0) S=aD (.tup [.int K.r,.int K.s,.tup (K.rows.map dI),.tup (K.hs.map dI)],S):=λS=>rfl;let O:=h.rs K.r Zf;let hs:=h.rs K.s (Zh _ (Zw.mpr rfl));let lr:=iP O;let U:=iP hs;k_is;calc aa (I S) (aa (show ixS (.tup [.int K.r,.int K.s,.tup (K.rows.map dI),.tup (K.hs.map dI)]) (.int 0) S=aD (.int K.r,S) from rfl) (aa (mO O.1 O.2) (aa (aZ (by let:Str.length ("meadow " : Str)=7:=rfl;lia)) ?_)));k_is;let l7:Str.length ("meadow " : Str)=7:=rfl;let l1:Str.length (" " : Str)=1:=rfl;calc aa (aZ (by rw[bu];lia)) (aa (I S) (aa (show ixS (.tup [.int K.r,.int K.s,.tup (K.rows.map dI),.tup (K.hs.map dI)]) (.int 1) S=aD (.int K.s,S) from rfl) (aa (mO hs.1 hs.2) ?_)));k_is;refine aa (aZ (by rw[bu,bu];lia)) ?_
 let T:("meadow " : Str)++bB K.r++(" " : Str)++bB K.s=aU "meadow" [K.r,K.s]:=by
  show _=("meadow" : Str)++(" " : Str)++bB K.r++(" " : Str)++bB K.s;rw[show("meadow" : Str)++(" " : Str) = "meadow " by decide +kernel]
 rw[T];k_is;let Z:Bl S (Zd S) (S++[Ob.lst [D.str (aU "meadow" [K.r,K.s])]]) [aU "meadow" [K.r,K.s]]:={Sm.app _ _,Zc _,au};generalize S++[Ob.lst [D.str (aU "meadow" [K.r,K.s])]]=S1 at *;generalize Zd S=m at *;calc aa (I S1) (aa (show ixS (.tup [.int K.r,.int K.s,.tup (K.rows.map dI),.tup (K.hs.map dI)]) (.int 2) S1=aD (.tup (K.rows.map dI),S1) from rfl) ?_);refine ig K.rows dI (λl=>lnD ("gaps",l)) (by let:=h.l1;lia) jx (λl f u sm=>{_,rfl,?_}) λg s2=>?_
 .k_is;exact{rfl,Sm.refl _}
 let C:=(Z.then s2).then (Sm.app g [Ob.lst (K.rows.map λl=>lnD ("gaps",l))])
 let B:(g++[Ob.lst (K.rows.map λl=>lnD ("gaps",l))])[Zd g]?=aD (Ob.lst (K.rows.map λl=>lnD ("gaps",l))):=au;let le2:=Sm.le (Z.then s2).sm;generalize g++[Ob.lst (K.rows.map λl=>lnD ("gaps",l))]=S3 at *;generalize Zd g=N2 at *;calc aa (I S3) (aa (show ixS (.tup [.int K.r,.int K.s,.tup (K.rows.map dI),.tup (K.hs.map dI)]) (.int 3) S3=aD (.tup (K.hs.map dI),S3) from rfl) ?_);refine ig K.hs dI (λl=>lnD ("shut",l)) (by let:=h.l2;lia) jx (λl f u sm=>{_,rfl,?_}) λc v=>?_
 .k_is;exact{rfl,Sm.refl _}
 let s5:=Sm.app c [Ob.lst (K.hs.map λl=>lnD ("shut",l))];calc aa (j9 (s5 _ _ (v _ _ B)) au (by rw[Za,Za];let:=h.l1;let:=h.l2;lia)) ?_;let Y:=(C.then v).then (s5.trans (Sm.app (c++[Ob.lst (K.hs.map λl=>lnD ("shut",l))]) [Ob.lst ((K.rows.map λl=>lnD ("gaps",l))++K.hs.map λl=>lnD ("shut",l))]))
 let b:(c++[Ob.lst (K.hs.map λl=>lnD ("shut",l))]++[Ob.lst ((K.rows.map λl=>lnD ("gaps",l))++K.hs.map λl=>lnD ("shut",l))])[Zd (c++[Ob.lst (K.hs.map λl=>lnD ("shut",l))])]?=aD (Ob.lst ((K.rows.map (("gaps" : Str),·)++K.hs.map (("shut" : Str),·)).map lnD)):=by
  rw[au,Zu,Yl,Yl];rfl
 let nm:Zd (c++[Ob.lst (K.hs.map λl=>lnD ("shut",l))])≠m:=by
  let:=(Zb.mp (C.then v).at_).1;rw[Zi];lia
 let E:Zd S<=Zd (c++[Ob.lst (K.hs.map λl=>lnD ("shut",l))]):=by let:=Sm.le (C.then v).sm;rw[Zi];lia
 generalize c++[Ob.lst (K.hs.map λl=>lnD ("shut",l))]++[Ob.lst ((K.rows.map λl=>lnD ("gaps",l))++K.hs.map λl=>lnD ("shut",l))]=S6 at *;generalize Zd (c++[Ob.lst (K.hs.map λl=>lnD ("shut",l))])=N at *;let X:(aU "meadow" [K.r,K.s]).length<=50:=Au (i7 h _ Zf)
 let L:∀ {w:Str} {U:List (List Int)} {y:Str×List Int},w∈wds->(∀l∈U,inN l/\l.length<=7)->y∈U.map (w,·)->LnOk y:=λhw u H=>by
  let{l,h2,rfl}:=ZF.mp H;exact{hw,(u l h2).1,(u l h2).2}
 let H:∀y∈K.rows.map (("gaps" : Str),·)++K.hs.map (("shut" : Str),·),LnOk y:=λy h1=>(ZC.mp h1).elim (L (by decide +kernel) h.rows) (L (by decide +kernel) h.hs);let hl8:(K.rows.map (("gaps" : Str),·)++K.hs.map (("shut" : Str),·)).length<=8:=by rw[Zi,Za,Za];let:=h.l1;let:=h.l2;lia
 delta al c7 at q;k_is;let j:∀S,ixS (skD K) (.int 1) S=aD (ahD K.ah,S):=λS=>rfl;refine aa (j S6) ?_
 let T:K.ah=[]\/∃l,K.ah=[l]:=by
  match e:K.ah,h.l3 with
  |[],_=>exact .inl rfl
  |[l],_=>exact .inr ⟨l,rfl⟩
  |_::_::_,z=>simp at z
 rcases T with e |⟨l,e⟩
 .let is:ay .t (ahD K.ah) .non S6=aD (.bl a9,S6):=by rw[e];rfl
  calc aa is ?_;calc qU h Y X b (by lia) H λf M=>?_;let:=q f M;rw[e]at this
  rwa[ZX,ZN]at this
 .let is:ay .t (ahD K.ah) .non S6=aD (.bl a8,S6):=by rw[e];rfl
  calc aa is ?_;k_is;calc{bq b,?_};k_is;calc aa (j S6) ?_;rw[gk b (by rw[Za];lia)];let b6:=Y.other (o:=Ob.lst ((K.rows.map (("gaps" : Str),·)++K.hs.map (("shut" : Str),·)).map lnD++[D.tup [.str "ahead",ahD K.ah]])) nm E
  let J:(Y3 S6 N (Ob.lst ((K.rows.map (("gaps" : Str),·)++K.hs.map (("shut" : Str),·)).map lnD++[D.tup [.str "ahead",ahD K.ah]])))[N]?=aD (Ob.lst ((K.rows.map (("gaps" : Str),·)++K.hs.map (("shut" : Str),·)++[(("ahead" : Str),l)]).map lnD)):=by
   rw[Zq (Zb.mp b).1,Zu (l₁:=K.rows.map (("gaps" : Str),·)++K.hs.map (("shut" : Str),·)),show ahD K.ah=dI l by rw[e];rfl];rfl
  generalize Y3 S6 N (Ob.lst ((K.rows.map (("gaps" : Str),·)++K.hs.map (("shut" : Str),·)).map lnD++[D.tup [.str "ahead",ahD K.ah]]))=S7 at *;refine qU h b6 X J (by rw[Zi];show _+1<=9;lia) (λy h1=>?_) λf M=>?_
  .rcases ZC.mp h1 with h1 |h1
   .exact H y h1
   .rw[Zw.mp h1];let:=h.ah l (by rw[e];exact Zw.mpr rfl);exact{(by decide +kernel:("ahead" : Str)∈wds),this.1,this.2}
  .let:=q f M;rw[e]at this;exact this
structure Sh(w n:Nat)(d:D):Prop where
 pu:sF d=a8
 sh:(pyD d).showable=a8
 sl:(pyD d).leavesShort 13=a8
 we:(pyD d).weight<=w
 de:(pyD d).depth<=n
def QY{w n:Nat}:Sh w n .non:={rfl,by simp![pyD,VY],by simp![pyD,VW],by simp[pyD,V1],by simp[pyD,VR]}
def yK{n:Nat}{i:Int}(h:0<=i)(H:i<=9999):Sh 14 n (.int i):=by
 let b:i.natAbs.log2 < 14:=by
  by_cases z:i.natAbs=0
  .rw[z];decide
  .exact(Wi z).mpr (by lia)
 refine{rfl,by simp![pyD,VY,decide_eq_true_eq];lia,?_,?_,by simp[pyD,VR]}
 .simp![pyD,VW,V0];calc decide_eq_true ?_;let:=iP ⟨h,H⟩;show(bB i).length<=13
  lia
 .simp![pyD,V1];split <;> lia
def tH{w n:Nat}:∀ {ds:List D},(∀d∈ds,Sh w n d)->Sh (ds.length * (w+1)) (n+1) (.tup ds)
 |[],_=>{rfl,by simp[pyD,iT,VY,VZ],by simp[pyD,iT,VW,VX],by simp[pyD,iT,V1,V2],by simp[pyD,iT,VR,VS]}
 |d::ds,h=>by
  let a:=h d Zf;let{c,b,B,g,f}:=tH λe H=>h e (Zh _ H);simp![sF,pyD,VY,VW,V1,VR]at c b B g f;refine{by simp![sF,uM,a.pu,c,Z2],by simp![pyD,iT,VY,VZ,a.sh,b,Z2],by simp![pyD,iT,VW,VX,a.sl,B,Z2],?_,?_}
  .simp![pyD,iT,V1,V2];let:=a.we;rw[Zt,Xx]
   lia
  .simp![pyD,iT,VR,VS];let:=a.de
   lia
def Sh.up{w n c f:Nat}(h:Sh w n d)(a:w<=c)(b:n<=f):Sh c f d:={h.pu,h.sh,h.sl,Zy h.we a,Zy h.de b}
def Gv(h:inN l/\l.length<=7):Sh 105 1 (dI l):=(tH (w:=14) (n:=0) λd hd=>by
 let{i,H,rfl}:=ZF.mp hd;exact yK (h.1 i H).1 (h.1 i H).2).up (by rw[Za];let:=h.2;lia) (Zc _)
def yL{L:List (List Int)}(h:∀l∈L,inN l/\l.length<=7)(hl:L.length<=7):Sh 742 2 (.tup (L.map dI)):=(tH (w:=105) (n:=1) λd hd=>by
 let{l,H,rfl}:=ZF.mp hd;exact Gv (h l H)).up (by rw[Za];lia) (Zc _)
def VA{K:SkP}(h:SkN K):Sh 15000 4 (skD K):=by
 let l1:=h.l1;let l2:=h.l2;let l4:=h.l4;let g:=h.rs K.r Zf;let hs:=h.rs K.s (Zh _ (Zw.mpr rfl))
 let T:∀ {a b c d:D} {w n:Nat},Sh w n a->Sh w n b->Sh w n c->Sh w n d->Sh (4 * (w+1)) (n+1) (.tup [a,b,c,d]):=λ{a b c d w n} f hb hc hd=>tH (ds:=[a,b,c,d]) λe H=>by
  simp![Zl,ZM,or_false]at H;rcases H with rfl |rfl |rfl |rfl <;> assumption
 let f:Sh 742 2 (ahD K.ah):=by
  cases e:K.ah with
  |nil=>exact QY
  |cons l _=>exact(Gv (h.ah l (by rw[e];exact Zf))).up (by decide) (by decide)
 exact(T (w:=2972) (n:=3) (T ((yK g.1 g.2).up (by decide) (Zc _)) ((yK hs.1 hs.2).up (by decide) (Zc _)) (yL h.rows (by lia)) (yL h.hs (by lia))) (f.up (by decide) (by decide)) ((yL h.gs l4).up (by decide) (by decide)) ((Gv h.fs).up (by decide) (by decide))).up (by decide) (by decide)
def Av{w n:Nat}(h:Sh w n d)(hw:w<=1000000)(H:n<=100):gO d S=aD (.str (pyD d).shown,S):=by
 delta gO;rw[if_pos];exact{h.pu,h.sh,Zy h.de H,PyData.shown_fits (B:=13) (by decide) (by decide) h.sl (Zy h.we (Zy hw (by decide)))}
def QZ(h:SkN K):gO (skD K) S=aD (.str (pyD (skD K)).shown,S):=Av (VA h) (by decide) (by decide)
def Cn:gO (.str "text") S=aD (.str (pyD (.str "text")).shown,S):=Av (w:=10) (n:=0) {rfl,by simp![pyD,VY],by simp![pyD,VW];decide +kernel,by simp![pyD,V1];decide +kernel,by simp[pyD,VR]} (by decide) (by decide)
def kh{n:Nat}(hl:T.length<=n)(h:∀t∈T,Dw.wid t<=n):Dw.wid (.tup T)<=n:=by
 let:∀ {T:List Dw.D},(∀t∈T,Dw.wid t<=n)->Dw.rK T<=n:=λ{T} h=>by
  induction T with
  |nil=>rw[Dw.rK];exact Z5 _
  |cons t T I=>
   rw[Dw.rK];let:=h t Zf;let:=I λt H=>h t (Zh _ H)
   lia
 rw[Dw.wid];let:=this h
 lia
def yM(h:l.length<=7):Dw.wid (tI l)<=9000:=kh (by rw[Za];lia) λt H=>by
 let{i,_,rfl}:=ZF.mp H;simp[Dw.wid]
def tJ{L:List (List Int)}(h:∀l∈L,inN l/\l.length<=7)(hl:L.length<=7):Dw.wid (.tup (L.map tI))<=9000:=kh (by rw[Za];lia) λt b=>by
 let{l,H,rfl}:=ZF.mp b;exact yM (h l H).2
def UF{K:SkP}(h:SkN K):Dw.wid (skT K)<=9000:=by
 let l1:=h.l1;let l2:=h.l2;calc kh (by show 4<=9000;decide) λt H=>?_;simp![Zl,ZM,or_false]at H;rcases H with rfl |rfl |rfl |rfl
 .calc kh (by show 4<=9000;decide) λt H=>?_;simp![Zl,ZM,or_false]at H;rcases H with rfl |rfl |rfl |rfl
  .simp[Dw.wid]
  .simp[Dw.wid]
  .exact tJ h.rows (by lia)
  .exact tJ h.hs (by lia)
 .cases e:K.ah with
  |nil=>simp[ahT,Dw.wid]
  |cons l _=>exact yM (h.ah l (by rw[e];exact Zf)).2
 .exact tJ h.gs h.l4
 .exact yM h.fs.2
end Lw
namespace Lw
open PySem Ev L2
abbrev rnL:List Nat->Nat×Nat
 |[]=>(0,0)
 |c::l=>if cH c=a8 then ((rnL l).1+1,max (rnL l).2 ((rnL l).1+1)) else (0,(rnL l).2)
def LU:∀l,(rnL l).1<=(rnL l).2
 |[]=>Zc _
 |c::l=>by
  let:=LU l;rw[rnL];split
  .exact Xu ..
  .exact Z5 _
def Gw:∀a b,(rnL (a++b)).1<=(rnL a).1+(rnL b).1/\(rnL (a++b)).2<=(rnL a).2+(rnL b).2
 |[],b=>by rw[Yb];exact{Y5 ..,Y5 ..}
 |c::a,b=>by
  let h:=Gw a b;let H:=LU b;rw[Z3,rnL,rnL];split
  .exact{by show(rnL (a++b)).1+1<=(rnL a).1+1+(rnL b).1;lia,Wv.mpr {Zy h.2 (Y4 (XG ..) _),Zy (show _<=(rnL a).1+1+(rnL b).2 by lia) (Y4 (Xu ..) _)}}
  .exact{Z5 _,h.2}
def UG:∀a b,(rnL a).1<=(rnL (a++b)).1/\(rnL a).2<=(rnL (a++b)).2
 |[],b=>{Z5 _,Z5 _}
 |c::a,b=>by
  let:=UG a b;rw[Z3,rnL,rnL];split
  .exact{by show(rnL a).1+1<=(rnL (a++b)).1+1;lia,Wv.mpr {Zy this.2 (XG ..),Zy (Xn this.1) (Xu ..)}}
  .exact{Zc _,this.2}
def UH:∀a b,(rnL b).2<=(rnL (a++b)).2
 |[],b=>Zc _
 |c::a,b=>by
  let:=UH a b;rw[Z3,rnL];split
  .exact Zy this (XG ..)
  .exact this
def yN{c:Nat}(h:cH c=a9):∀a b,(rnL (a++c::b)).1=(rnL a).1/\(rnL (a++c::b)).2=max (rnL a).2 (rnL b).2
 |[],b=>by
  let e:rnL (c::b)=(0,(rnL b).2):=by rw[rnL,if_neg (by rw[h];decide)]
  rw[Yb,e];exact{rfl,(Nat.zero_max _).symm}
 |d::a,b=>by
  let:=yN h a b;rw[Z3,rnL,rnL];split
  .exact{by show(rnL (a++c::b)).1+1=_+1;lia,by show max (rnL (a++c::b)).2 ((rnL (a++c::b)).1+1)=max (max (rnL a).2 ((rnL a).1+1)) (rnL b).2;rw[this.1,this.2,WA,Nat.max_comm (rnL b).2,<-WA]}
  .exact⟨rfl,this.2⟩
def Gx:∀ {l:List Nat},(∀c∈l,cH c=a8)->(rnL l).1=l.length/\(rnL l).2=l.length
 |[],_=>⟨rfl,rfl⟩
 |c::l,h=>by
  let:=Gx λd hd=>h d (Zh _ hd);rw[rnL,if_pos (h c Zf),Zt];exact{by show _+1=_;lia,by show max (rnL l).2 _=_;rw[this.1,this.2];exact Nat.max_eq_right (Yw _)}
def Gy:∀l:List Nat,(rnL l).2<=l.length:=λl=>by
 let:∀l:List Nat,(rnL l).1<=l.length/\(rnL l).2<=l.length:=λl=>by
  induction l with
  |nil=>exact{Zc _,Zc _}
  |cons c l I=>
   rw[rnL,Zt];split
   .exact{by show _+1<=_;lia,Wv.mpr {by lia,by lia}}
   .exact{Z5 _,by show(rnL l).2<=_;lia}
 exact(this l).2
structure Ms(x:Str)(n r:Nat):Prop where
 asc:∀c∈ao x,c < 128
 len:x.length<=n
 run:(rnL (ao x)).2<=r
def eV(x y:Str):ao (x++y)=ao x++ao y:=by show(x.cps++y.cps).toList=_;rw[Z6];rfl
def bG(x:Str):(ao x).length=x.length:=Yh ..
def Ms.part{n r:Nat}(h:Ms x n r)(e:ao x=a++ao y++b):Ms y n r:=by
 let H:=h.len;let g:=h.run;rw[<-bG,e,Zi,Zi,bG]at H;rw[e]at g;calc{λc f=>h.asc c (by rw[e];exact ZV _ (ZE _ f)),by lia,?_};let:=(UG (a++ao y) b).2;let:=UH a (ao y)
 lia
def Ms.app{n r m u:Nat}(h:Ms x n r)(k:Ms y m u):Ms (x++y) (n+m) (r+u):=by
 let:=h.len;let:=k.len;let:=h.run;let:=k.run;refine{λc H=>?_,by rw[bu];lia,?_}
 .rw[eV]at H;exact(ZC.mp H).elim (h.asc c) (k.asc c)
 .rw[eV];let:=(Gw (ao x) (ao y)).2
  lia
def Ms.up{n r m u:Nat}(h:Ms x n r)(a:n<=m)(c:r<=u):Ms x m u:={h.asc,Zy h.len a,Zy h.run c}
def KJ(z:Str)(ys:List Str):Txt.join z ys=Str.join z ys:=StrLaws.glued_eq_join z ys
abbrev LW(ys:List Str):Nat:=(ys.map λy=>y.length+1).sum
def bN(y:Str)(ys:List Str):LW (y::ys)=y.length+1+LW ys:=by delta LW;rw[Zx,X2]
def pj{c:Nat}:∀ {ys:List Str},ys≠[]->(Str.join ⟨#[c]⟩ ys).length+1=LW ys
 |[],h=>absurd rfl h
 |[y],_=>by rw[bN];rfl
 |y::z::ys,_=>by
  let:=pj (c:=c) (ys:=z::ys) (Yp _ _);rw[bN,<-this];show(y++⟨#[c]⟩++Str.join ⟨#[c]⟩ (z::ys)).length+1=_;rw[bu,bu,show Str.length ⟨#[c]⟩=1 from rfl]
  lia
def vP{c:Nat}(ys:List Str):(Str.join ⟨#[c]⟩ ys).length<=LW ys:=by
 cases ys with
 |nil=>exact Z5 _
 |cons y ys=>have:=pj (c:=c) (ys:=y::ys) (Yp _ _);lia
def ik(x:Str)(c:Nat):Txt.split x ⟨#[c]⟩≠[]:=λh=>by
 let:=PyProof.Rows.split_pos x ⟨#[c]⟩;rw[h]at this;simp at this
def vQ(x:Str)(c:Nat):LW (Txt.split x ⟨#[c]⟩)=x.length+1:=by
 let:=pj (c:=c) (ik x c);rw[StrLaws.join_split]at this;exact this.symm
def Aw:∀ {ys:List Str} {y:Str},y∈ys->∃a b,ao (Str.join z ys)=a++ao y++b
 |[],_,h=>by cases h
 |[x],y,h=>by
  rw[Zw.mp h];exact{[],[],(ZN _).symm}
 |x::X::ys,y,h=>by
  let e:ao (Str.join z (x::X::ys))=ao x++ao z++ao (Str.join z (X::ys)):=by
   show ao (x++z++Str.join z (X::ys))=_;rw[eV,eV]
  rcases Zl.mp h with rfl |h
  .exact{[],ao z++ao (Str.join z (X::ys)),by rw[e,Yb,ZK]}
  .let{a,b,E}:=Aw (z:=z) h;exact{ao x++ao z++a,b,by rw[e,E,ZK,ZK,ZK,ZK,ZK]}
def Ms.piece{n r c:Nat}(h:Ms x n r)(H:y∈Txt.split x ⟨#[c]⟩):Ms y n r:=by
 let{a,b,e}:=Aw (z:=⟨#[c]⟩) H;rw[StrLaws.join_split]at e;exact h.part e
def pr(H:∀c∈ao z,c < 128):∀ {ys:List Str},(∀y∈ys,∀c∈ao y,c < 128)->∀c∈ao (Str.join z ys),c < 128
 |[],_=>λc hc=>by cases hc
 |[x],h=>h x (Zw.mpr rfl)
 |x::X::ys,h=>λc hc=>by
  let e:ao (Str.join z (x::X::ys))=ao x++ao z++ao (Str.join z (X::ys)):=by
   show ao (x++z++Str.join z (X::ys))=_;rw[eV,eV]
  rw[e]at hc;rcases ZC.mp hc with hc |hc
  .rcases ZC.mp hc with hc |hc
   .exact h x Zf c hc
   .exact H c hc
  .exact pr H (ys:=X::ys) (λy b=>h y (Zh _ b)) c hc
def im{r:Nat}{c:Nat}(b:ao z=c::l)(hd:∀c∈ao z,cH c=a9):∀ {ys:List Str},(∀y∈ys,(rnL (ao y)).2<=r)->(rnL (ao (Str.join z ys))).2<=r
 |[],_=>Z5 _
 |[x],h=>h x (Zw.mpr rfl)
 |x::X::ys,h=>by
  let o:=im b hd (ys:=X::ys) λy j=>h y (Zh _ j);let p:=h x Zf
  let e:ao (Str.join z (x::X::ys))=ao x++c::(l++ao (Str.join z (X::ys))):=by
   show ao (x++z++Str.join z (X::ys))=_;rw[eV,eV,b,ZK];rfl
  rw[b]at hd;rw[e,(yN (hd c Zf) _ _).2]
  let:(rnL (l++ao (Str.join z (X::ys)))).2<=r:=by
   let:∀l:List Nat,(∀c∈l,cH c=a9)->(rnL (l++ao (Str.join z (X::ys)))).2<=r:=λl=>by
    induction l with
    |nil=>intro _;exact o
    |cons d l I=>
     intro f;let:=(yN (f d Zf) [] (l++ao (Str.join z (X::ys)))).2;rw[Yb]at this;rw[Z3,this];let:=I λe g=>f e (Zh _ g);show max 0 _<=_;lia
   exact this l λd H=>hd d (Zh _ H)
  lia
def Gz(a b:List Str):LW (a++b)=LW a+LW b:=by delta LW;rw[Zu,List.sum_append]
def GA:∀ {ys:List Str} {y:Str},y∈ys->y.length+1<=LW ys
 |[],_,h=>by cases h
 |x::ys,y,h=>by
  rw[bN];rcases Zl.mp h with rfl |h
  .lia
  .let:=GA h;lia
def tK:∀ {ys:List Str} {i:Nat} {y:Str},ys[i]?=aD y->LW (ys.set i z)+y.length=LW ys+z.length
 |[],i,_,h=>by simp at h
 |x::ys,0,y,h=>by
  cases h;rw[X5,bN,bN];lia
 |x::ys,i+1,y,h=>by
  let:=tK (z:=z) (ys:=ys) (i:=i) (y:=y) h;rw[X6,bN,bN];lia
def vR:∀ {ys:List Str} {i:Nat},LW (ys.eraseIdx i)<=LW ys
 |[],i=>Zc _
 |x::ys,0=>by rw[List.eraseIdx_cons_zero,bN];lia
 |x::ys,i+1=>by
  let:=vR (ys:=ys) (i:=i);rw[Yq,bN,bN];lia
def Q0(ys:List Str)(i:Nat)(z:Str):LW (ys.take i++z::ys.drop i)=LW ys+(z.length+1):=by
 rw[Gz,bN];let:=Gz (ys.take i) (ys.drop i);rw[Yt]at this
 lia
structure Mp(ys:List Str)(n r:Nat):Prop where
 asc:∀y∈ys,∀c∈ao y,c < 128
 len:LW ys<=n
 run:∀y∈ys,(rnL (ao y)).2<=r
def Mp.join{n r c:Nat}(h:Mp ys n r)(hc:c=32\/c=10):Ms (Str.join ⟨#[c]⟩ ys) n r:=by
 let e:∀d∈ao ⟨#[c]⟩,d=c:=λd hd=>by simpa[ao] using hd
 refine{pr (λd hd=>?_) h.asc,Zy (vP ys) h.len,im (c:=c) (l:=[]) rfl (λd hd=>?_) h.run}
 .rw[e d hd];rcases hc with rfl |rfl <;> decide
 .rw[e d hd];rcases hc with rfl |rfl <;> rfl
def Ms.split{n r c:Nat}(h:Ms x n r):Mp (Txt.split x ⟨#[c]⟩) (n+1) r:=
 {λy H=>(h.piece H).asc,by rw[vQ];let:=h.len;lia,λy H=>(h.piece H).run}
def Mp.len_le{n r:Nat}(h:Mp ys n r):ys.length<=n:=by
 let:∀ys:List Str,ys.length<=LW ys:=λys=>by
  induction ys with
  |nil=>exact Zc _
  |cons y ys I=>rw[bN,Zt];lia
 exact Zy (this ys) h.len
def Mp.at{n r:Nat}(h:Mp ys n r)(H:y∈ys):Ms y n r:={h.asc y H,by let:=GA H;let:=h.len;lia,h.run y H}
def Mp.up{n r m u:Nat}(h:Mp ys n r)(a:n<=m)(c:r<=u):Mp ys m u:={h.asc,Zy h.len a,λy H=>Zy (h.run y H) c}
def Mp.set{n r m u i:Nat}(h:Mp ys n r)(c:ys[i]?=aD y)(b:Ms z (y.length+m) u)(f:r<=u):Mp (ys.set i z) (n+m) u:=by
 let mem:∀w∈ys.set i z,w=z\/w∈ys:=λw H=>(YC H).symm;let:=tK (z:=z) c;let:=b.len;let:=h.len;exact{λw H=>(mem w H).elim (λe=>by rw[e];exact b.asc) (h.asc w),by lia,λw H=>(mem w H).elim (λe=>by rw[e];exact b.run) λH=>Zy (h.run w H) f}
def Mp.erase{n r i:Nat}(h:Mp ys n r):Mp (ys.eraseIdx i) n r:=
 {λw H=>h.asc w (Xm H),Zy vR h.len,λw H=>h.run w (Xm H)}
def Mp.ins{n r i m:Nat}(h:Mp ys n r)(H:Ms z m r):Mp (ys.take i++z::ys.drop i) (n+m+1) r:=by
 let mem:∀w∈ys.take i++z::ys.drop i,w=z\/w∈ys:=λw hw=>by
  rcases ZC.mp hw with hw |hw
  .exact .inr (YT hw)
  .rcases Zl.mp hw with hw |hw
   .exact .inl hw
   .exact .inr (List.mem_of_mem_drop hw)
 let:=Q0 ys i z;let:=H.len;let:=h.len;exact{λw hw=>(mem w hw).elim (λe=>by rw[e];exact H.asc) (h.asc w),by lia,λw hw=>(mem w hw).elim (λe=>by rw[e];exact H.run) (h.run w)}
def Mp.swap{n r i j:Nat}(h:Mp ys n r)(H:ys[i]?=aD y)(c:ys[j]?=aD z):Mp ((ys.set i z).set j y) n r:=by
 let b:(ys.set i z)[j]?=aD z:=by
  by_cases e:i=j
  .subst e;rw[Zq (Zb.mp H).1]
  .rw[ZA e];exact c
 let f:=Zs H;let M:=Zs c
 let mem:∀w∈(ys.set i z).set j y,w∈ys:=λw hw=>by
  rcases YC hw with hw |hw
  .rcases YC hw with hw |hw
   .exact hw
   .rw[hw];exact M
  .rw[hw];exact f
 let:=tK (z:=z) H;let:=tK (z:=y) b;let:=h.len;exact{λw hw=>h.asc w (mem w hw),by lia,λw hw=>h.run w (mem w hw)}
end Lw
namespace Lw
open PySem Ev L2
variable {p:Nat} {S:Sto} {k:Nat} {Q:D->Sto->Prop}
def GB(b:Bool){c:Nat}(h:c < 128):inS b (.str ⟨#[c]⟩) (.str "0123456789") S=aD (.bl (b != cH c),S):=by
 let e:∀c,c < 128->(!(Builtin.Str.occurrences ("0123456789" : Str) ⟨#[c]⟩ 0 (Str.length ("0123456789" : Str)) 1).isEmpty)=cH c:=by decide +kernel
 show aD (D.bl (b != !(Builtin.Str.occurrences ("0123456789" : Str) ⟨#[c]⟩ 0 (Str.length ("0123456789" : Str)) 1).isEmpty),S)=_;rw[e c h]
def Ax(h:∀c∈ao w,c < 128):w.cps.all (λc=>decide (c < 128))=a8:=by rw[<-Array.all_toList];exact Zg.mpr λc H=>decide_eq_true (h c H)
abbrev KL(w:Str):Int:=((PySem.NumText.digitsVal (ao w):Nat):Int)
def Ay(h:∀c∈ao w,cH c=a8)(f:ao w≠[])(b:w.length<=640)(S:Sto):xK (.str w) S=aD (.int (KL w),S):=by
 delta xK;dsimp!;rw[if_pos b,ZaB (λc H=>by let:=h c H;delta cH at this;simpa using this) f (by lia)];rfl
def Az{c:Nat}(e:ao w=c::l)(h:w.length<=9000)(S:Sto):ixS (.str w) (.int 0) S=aD (.str ⟨#[c]⟩,S):=by
 simp![ixS];rw[if_pos (by lia),show w.cps.toList=c::l from e,show atI (c::l) 0=aD c by simp[atI,ixN]];rfl
abbrev aH(w:Str):D:=if (ao w).all cH=a8/\ao w≠[]/\(w = "0"\/(ao w).head?≠aD 48) then .int (KL w) else .non
abbrev ci(w:Str):D:=if w.length<=40 then aH w else .non
abbrev vS(d:D):Prop:=d = .non\/∃i,d = .int i
def yO(w:Str):vS (aH w):=by
 delta aH;split
 .exact .inr ⟨_,rfl⟩
 .exact .inl rfl
def Q1(w:Str):vS (ci w):=by
 delta ci;split
 .exact yO w
 .exact .inl rfl
def vT{i:Int}(f:0<=i)(H:i<=9999):aH (bB i) = .int i:=by
 let h:=kR f H;let{c,l,e}:=KH h
 let g:KL (bB i)=i:=by
  let a:=h.rd;rw[ZaB (λc b=>by let:=h.dig c b;delta cH at this;simpa using this) (by show ao (bB i)≠[];rw[e];exact Yp _ _) (by let:=h.len;show(bB i).cps.size<=_;lia)]at a;exact θ a
 delta aH;rw[if_pos {Zg.mpr h.dig,by rw[e];exact Yp _ _,h.hd.imp (λz=>by rw[z,Gd]) id},g]
def GC{i:Int}(h:0<=i)(H:i<=9999):ci (bB i) = .int i:=by
 delta ci;rw[if_pos (by let:=iP ⟨h,H⟩;lia),vT h H]
def LV{c:Nat}:((⟨#[c]⟩:Str) == "0")=decide (c=48):=by
 by_cases h:c=48
 .subst h;decide +kernel
 .rw[decide_eq_false h];calc beq_eq_false_iff_ne.mpr λz=>h ?_;let b:(#[c]:Array Nat)=("0" : Str).cps:=congrArg Str.cps z;let Z:aD c=aD 48:=congrArg (λa:Array Nat=>a[0]?) b;exact θ Z
def mS{c:Nat}(e:ao w=c::l)(b:(ao w).all cH=a8)(h:(w = "0"\/c≠48)):aH w = .int (KL w):=by
 delta aH;rw[if_pos {b,by rw[e];exact Yp _ _,h.imp id λz y=>z (by rw[e]at y;exact θ y)}]
def GD{c:Nat}(e:ao w=c::l)(h:w≠"0")(H:c=48):aH w = .non:=by
 delta aH;rw[if_neg];rintro⟨_,_,z |z⟩
 .exact h z
 .rw[e,H]at z;exact z rfl
def GF(H:∀c∈ao w,c < 128)(hl:w.length<=9000)(q:∀b,Sm S b->Q (ci w) b):Ok (evC ae (k+1) 5 [.str w] S) Q:=by
 calc aV (d:=gY) (ρ:=[aD (.str w)]) rfl rfl ?_;dsimp![gY,lJ];delta ci at q;k_is;calc aa (o7 (by lia)) ?_;k_is;by_cases h:(1:Int)<=w.length
 case neg=>
  rw[decide_eq_false h];k_is;rw[if_pos (by lia)]at q;let e:ao w=[]:=Yo.mp (by rw[bG];lia);delta aH at q;rw[if_neg λz=>z.2.1 e]at q;exact q _ (Sm.refl _)
 rw[decide_eq_true h];k_is;by_cases f:(w.length:Int)<=40
 case neg=>
  rw[decide_eq_false f];k_is;rw[if_neg (by lia)]at q;exact q _ (Sm.refl _)
 rw[if_pos (by lia)]at q;rw[decide_eq_true f];k_is
 obtain⟨c,l,e⟩:∃c l,ao w=c::l:=by
  cases e:ao w with
  |nil=>rw[<-bG,e]at h;simp at h
  |cons c l=>exact⟨c,l,rfl⟩
 calc{w,rfl,Ax H,?_};refine ig (ao w) (λc=>.str ⟨#[c]⟩) (λc=>.bl (cH c)) (by rw[bG];lia) jx (λc b g sm=>{_,rfl,?_}) λb sm=>?_
 .k_is;calc aa (show ay .s _ _ _=aD (.bl (cH c),b) from (GB a9 (H c g)).trans (by rw[Wt])) ?_;exact{rfl,Sm.refl _}
 .let q:=q b sm;rw[ce (ao w) cH,af];cases E:(ao w).all cH with
  |false=>
   k_is;delta aH at q
   rwa[if_neg (by rw[E];exactλz=>Ze z.1)]at q
  |true=>
   k_is;let I:=Ay (Zg.mp E) (by rw[e];exact Yp _ _) (by lia);calc aa (Az e (by lia) b) ?_;calc aa (iO ..) ?_;k_is;rw[LV];by_cases C:c=48
   .rw[decide_eq_true C];k_is;rw[dF,af];cases Z:(w == ("0" : Str)) with
    |true=>
     rw[mS e E (.inl (eq_of_beq Z))]at q;k_is;exact aa (I _) q
    |false=>
     rw[GD e (by intro z;rw[z]at Z;exact absurd Z (by decide +kernel)) C]at q;k_is;exact q
   .rw[decide_eq_false C];rw[mS e E (.inr C)]at q;k_is;exact aa (I _) q
def ne_nil{a b:Nat}(c:S[a]?=aD (.lst E))(H:S[b]?=aD (.lst []))(h:a≠b):ay .ne (.ref a) (.ref b) S=aD (.bl (!E.isEmpty),S):=by
 show neS (.ref a) (.ref b) S=_;delta neS eqD;simp![aq c,aq H,if_neg h];cases E with
 |nil=>rfl
 |cons e E=>rfl
def ju{l:List Nat}:(l.flatMap λc=>if cH c=a8 then ([]:List D) else [.str ⟨#[c]⟩]).isEmpty=l.all cH:=by
 induction l with
 |nil=>rfl
 |cons c l I=>
  rw[Yy,Z0];cases h:cH c with
  |true=>rw[if_pos rfl,Yb,I,ZR]
  |false=>rw[if_neg Ze];rfl
def Co{w:Str}(h:∀c∈ao w,c < 128)(hl:w.length<=9000)(y:(rnL (ao w)).2<=640)(q:∀b,Sm S b->Q (aH w) b):Ok (evC ae (k+1) 40 [.str w] S) Q:=by
 calc aV (d:=gi) (ρ:=[aD (.str w)]) rfl rfl ?_;dsimp![gi,j4];k_is;calc aa (iO ..) ?_;k_is;cases f:(w == ("" : Str)) with
 |true=>
  k_is;let q:=q S (Sm.refl _);delta aH at q
  rwa[if_neg λz=>z.2.1 (by rw[eq_of_beq f];rfl)]at q
 |false=>
  k_is
  obtain⟨c,l,e⟩:∃c l,ao w=c::l:=by
   cases e:ao w with
   |nil=>
    let:w=("" : Str):=mM (Xp.mp e);rw[this]at f;exact absurd f (by decide +kernel)
   |cons c l=>exact⟨c,l,rfl⟩
  calc{w,rfl,Ax h,?_};refine yE (ao w) (λc=>.str ⟨#[c]⟩) (λc=>if cH c=a8 then [] else [.str ⟨#[c]⟩]) (by rw[bG];lia) (λc _=>by split <;> simp) jx (λi c b H sm=>{_,rfl,?_}) λb sm=>?_
  .k_is;calc aa (show ay .o _ _ _=aD (.bl (a8 != cH c),b) from GB a8 (h c (Zs H))) ?_;cases cH c with
   |true=>k_is;exact{rfl,Sm.refl _}
   |false=>k_is;exact{rfl,Sm.refl _}
  .let v:=ju (l:=ao w);generalize ((ao w).flatMap λc=>if cH c=a8 then ([]:List D) else [.str ⟨#[c]⟩])=es at *;let o:=Sm.app b [Ob.lst es];let g:=Sm.app (b++[Ob.lst es]) [Ob.lst []];calc aa (ne_nil (g _ _ au) au (by rw[Zi];simp)) ?_;rw[v];let q:=q _ (sm.trans (o.trans g));generalize b++[Ob.lst es]++[Ob.lst []]=S2 at *;cases E:(ao w).all cH with
   |false=>
    k_is;delta aH at q
    rwa[if_neg (by rw[E];exactλz=>Ze z.1)]at q
   |true=>
    k_is;let j:=Zg.mp E;let u:=(Gx j).2;rw[bG]at u;let I:=Ay j (by rw[e];exact Yp _ _) (by lia);calc aa (dF ..) ?_;k_is;cases Z:(w == ("0" : Str)) with
    |true=>
     rw[mS e E (.inl (eq_of_beq Z))]at q;k_is;exact aa (I _) q
    |false=>
     k_is;calc aa (Az e hl S2) ?_;calc aa (iO ..) ?_;k_is;rw[LV];by_cases C:c=48
     .rw[GD e (by intro z;rw[z]at Z;exact absurd Z (by decide +kernel)) C]at q;rw[decide_eq_true C];k_is;exact q
     .rw[mS e E (.inr C)]at q;rw[decide_eq_false C];k_is;exact aa (I _) q
abbrev TW(d:D):Prop:=∃t,(∀p S,TD p S t d)/\Dw.wid t<=9000
def yP:TW .non:={.non,λ_ _=>oZ,by simp[Dw.wid]}
def Q2(i:Int):TW (.int i):={.int i,λ_ _=>dn,by simp[Dw.wid]}
def tws:∀ {ds:List D},(∀d∈ds,TW d)->∃T,(∀p S,TDs p S T ds)/\(∀t∈T,Dw.wid t<=9000)/\T.length=ds.length
 |[],_=>{[],λ_ _=>bA,λt g=>absurd g ZM,rfl}
 |d::ds,h=>by
  let{t,a,b}:=h d Zf;let{T,f,B,c}:=tws λe H=>h e (Zh _ H);calc{t::T,λp S=>ax (a p S) (f p S),λu hu=>?_,by rw[Zt,Zt,c]};rcases Zl.mp hu with rfl |hu
  .exact b
  .exact B u hu
def tL(h:∀d∈ds,TW d)(hl:ds.length<=9000):TW (.tup ds):=by
 let{T,a,b,c}:=tws h;exact{.tup T,λp S=>td_tup (a p S),kh (by lia) b}
abbrev pP(d:D):Prop:=∃b,d = .tup b/\b.length<=8900/\∀e∈b,vS e
def vS.tw(h:vS d):TW d:=by
 rcases h with rfl |⟨i,rfl⟩
 .exact yP
 .exact Q2 i
def pP.tw(h:pP d):TW d:=by
 let{c,rfl,b,h}:=h;exact tL (λe H=>(h e H).tw) (by lia)
def KM:pP (.tup []):={[],rfl,by simp,λ_ h=>by cases h}
def pw{ds:List D}{e:D}(h:∀d∈ds,pP d):ds.headD e=e\/pP (ds.headD e):=by
 cases ds with
 |nil=>exact .inl rfl
 |cons d ds=>exact .inr (h d Zf)
section
variable (N:Str->D)
abbrev wd1(y:Str):Str:=(Txt.split y ⟨#[32]⟩).headD ⟨#[]⟩
abbrev io(y:Str):List D:=((Txt.split y ⟨#[32]⟩).drop 1).map N
abbrev ptD(ys:List Str)(w:Str):List D:=ys.flatMap λy=>if (wd1 y == w)=a8 then [.tup (io N y)] else []
end
structure Rdr(N:Str->D):Prop where
 any:∀w,vS (N w)
 num:∀i:Int,0<=i->i<=9999->N (bB i) = .int i
def UI:Rdr ci:={Q1,λ_=>GC}
def Cp:Rdr aH:={yO,λ_=>vT}
def AA(h:LnOk x):wd1 (aK x)=x.1:=by
 delta wd1;rw[show Txt.split (aK x) ⟨#[32]⟩=x.1::x.2.map bB from kT (fh x.1 h.w).1 h.n];rfl
def vU(r:Rdr N)(h:LnOk x):io N (aK x)=x.2.map D.int:=by
 delta io;rw[show Txt.split (aK x) ⟨#[32]⟩=x.1::x.2.map bB from kT (fh x.1 h.w).1 h.n,YH,YI,Yl];exact YG λi H=>r.num i (h.n i H).1 (h.n i H).2
def LX(r:Rdr N)(hw:w∈wds):∀ {ls:List (Str×List Int)},(∀y∈ls,LnOk y)->ptD N (ls.map aK) w=(ofW ls (wix w)).map dI
 |[],_=>rfl
 |x::ls,h=>by
  let I:=LX r hw (ls:=ls) λy c=>h y (Zh _ c);let H:=h x Zf;delta ptD ofW at I ⊢;rw[Zx,Yy,Xr,AA H,vU r H,I];by_cases e:x.1=w
  .rw[if_pos (by rw[e];exact beq_self_eq_true _),if_pos (by rw[e];exact beq_self_eq_true _)];rfl
  .rw[if_neg (by intro z;exact e (eq_of_beq z)),if_neg]
   .rfl
   .intro z;let z:=eq_of_beq z;let a:=(fh x.1 H.w).2.2;let b:=(fh w hw).2.2;rw[z,b]at a;exact e (θ a).symm
def GG(h:d∈ptD N ys w):∃y∈ys,d = .tup (io N y):=by
 let{y,H,h}:=ZZ.mp h;split at h
 .exact{y,H,Zw.mp h}
 .cases h
def tM(N:Str->D)(w:Str):∀l:List Str,(ptD N l w).length<=l.length
 |[]=>Zc _
 |y::l=>by
  let I:=tM N w l;delta ptD at I ⊢;rw[Yy,Zi,Zt];split
  .rw[ZO];lia
  .rw[YX];lia
def LY(r:Rdr N){m u:Nat}(h:Ms y m u)(b:m<=8000):pP (.tup (io N y)):=by
 let:=(h.split (c:=32)).len_le;calc{_,rfl,by delta io;rw[Za,Yn];lia,λe H=>?_};let{w,_,rfl}:=ZF.mp H;exact r.any w
abbrev Cq(N:Str->D)(ys:List Str)(E:List D):D:=.tup [.tup (E++[.tup (ptD N ys "gaps"),.tup (ptD N ys "shut")]),(ptD N ys "ahead").headD .non,.tup (ptD N ys "glider"),(ptD N ys "fixed").headD (.tup [])]
def GH{N:Str->D}{ys:List Str}{E:List D}(hl:ys.length<=8900)(h:∀w,∀d∈ptD N ys w,pP d)(b:E.length<=8900)(en:∀e∈E,vS e):TW (Cq N ys E):=by
 let T:∀w,TW (.tup (ptD N ys w)):=λw=>tL (λd hd=>(h w d hd).tw) (by let:=tM N w ys;lia);calc tL (λd hd=>?_) (by simp);simp![Zl,ZM,or_false]at hd;rcases hd with rfl |rfl |rfl |rfl
 .calc tL (λd hd=>?_) (by rw[Zi];show E.length+2<=9000;lia);rcases ZC.mp hd with hd |hd
  .exact(en d hd).tw
  .simp![Zl,ZM,or_false]at hd;rcases hd with rfl |rfl <;> exact T _
 .rcases pw (e:=.non) (h "ahead") with e |e
  .rw[e];exact yP
  .exact e.tw
 .exact T _
 .rcases pw (e:=.tup []) (h "fixed") with e |e
  .rw[e];exact KM.tw
  .exact e.tw
def GI(r:Rdr N)(h:SkN K):ptD N ((lnK K).map aK) "meadow" = [dI [K.r,K.s]]/\(ptD N ((lnK K).map aK) "ahead").length<=1/\(ptD N ((lnK K).map aK) "fixed").length<=1/\Cq N ((lnK K).map aK) [.int K.r,.int K.s]=skD K:=by
 let{u,y,w2,z,c,v}:=UD K;let{C,B,j,X,g,o}:=Gr;let H:=i7 h;let b:∀w∈wds,ptD N ((lnK K).map aK) w=(ofW (lnK K) (wix w)).map dI:=λw q=>LX r q H;let f:(fxL K.fs).length<=1:=by delta fxL;split <;> simp
 delta Cq;rw[b "meadow" (by decide +kernel),b "ahead" (by decide +kernel),b "fixed" (by decide +kernel),b "gaps" (by decide +kernel),b "shut" (by decide +kernel),b "glider" (by decide +kernel),C,B,j,X,g,o,u,y,w2,z,c,v];refine{rfl,by rw[Za];exact h.l3,by rw[Za];exact f,?_}
 let:((fxL K.fs).map dI).headD (.tup [])=dI K.fs:=by
  cases K.fs with
  |nil=>rfl
  |cons a l=>rfl
 rw[this,show(K.ah.map dI).headD .non=ahD K.ah by cases K.ah <;> rfl];rfl
abbrev NoK(x:Str):Prop:=∀K,SkN K->Dw.bU (skT K)=a8->x≠al K
abbrev Hyp(x:Str)(K:SkP):Prop:=NoK x\/(SkN K/\Dw.bU (skT K)=a8/\x=al K)
def hyp(x:Str):∃K,Hyp x K:=by
 by_cases h:∃K,SkN K/\Dw.bU (skT K)=a8/\x=al K
 .let{K,h}:=h;exact{K,.inr h}
 .exact{⟨0,0,[],[],[],[],[]⟩,.inl λK a b e=>h ⟨K,a,b,e⟩}
def UJ{n:Nat}(f:Fd j n 6 b g)(hw:w∉wds):ay .o (.str w) (.ref n) b=aD (.bl a8,b):=by
 show inS a8 (.str w) (.ref n) b=_;delta inS;let e:am (.ref n) b=aT:=by simp![am,az,f.d,Wn]
 rw[e];show inK a8 (.str w) (.ref n) b=_;delta inK uu;dsimp!;rw[f.d];dsimp!
 let:((ksW.take 6).any λa=>decide (a=Sum.inr w))=a9:=by
  cases h:((ksW.take 6).any λa=>decide (a=Sum.inr w)) with
  |false=>rfl
  |true=>
   let{a,H,e}:=YV.mp h;let e:=ω e;subst e;let{v,c,e}:=ZF.mp (show Sum.inr w∈ksW from H);cases e;exact absurd c hw
 rw[this];rfl
def kW{n r c:Nat}(h:Ms x n r)(b:n<=8000):cC (.str x) [.str ⟨#[c]⟩] S=aD (.ref (Zd S),S++[.lst ((Txt.split x ⟨#[c]⟩).map D.str)]):=by
 let m:=h.split (c:=c);let:=m.len_le;let:=h.len;exact Go rfl (by lia) (by lia) λz H=>by let:=(m.at H).len;lia
def GJ{n N:Nat}{m r:Nat}(T:Ms y m r)(hm:m<=8000)(f:Fd X n 6 g E)(hN:n+7<=N)(hr:g[N]?=aD (.lst rs))(hv:∀j,(E j).length < 9000)
  {Q:Fl->Rho->Sto->Prop} (Y:wd1 y∉wds->∀ρ h,Sm X h->Q (.rt .non) ρ h) (q:wd1 y∈wds->∀b c h,Fd X n 6 h (λj=>if j=wix (wd1 y) then E (wix (wd1 y))++[.tup (io ci y)] else E j)->h[N]?=aD (.lst rs)->Q .nx [a,aD (.ref n),aD (.str y),b,c,w] h) :
  rW (wSs (evC ae (k+1)) (cz ae) 57 UC) [a,aD (.ref n),aD (.str y),u,v,w] g Q:=by
 dsimp![UC,jX];k_is;let M:=T.split (c:=32);let s1:cC (.str y) [.str " "] g=aD (.ref (Zd g),g++[.lst ((Txt.split y ⟨#[32]⟩).map D.str)]):=kW T hm
 obtain⟨x,ws,ex⟩:∃x ws,Txt.split y ⟨#[32]⟩=x::ws:=by
  cases e:Txt.split y ⟨#[32]⟩ with
  |nil=>exact absurd e (ik _ _)
  |cons x ws=>exact⟨x,ws,rfl⟩
 let en:io ci y=ws.map ci:=by delta io;rw[ex];rfl
 let ew:wd1 y=x:=by delta wd1;rw[ex];rfl
 rw[en,ew]at q;rw[ew]at Y;rw[ex]at s1 M;let wl:=M.len_le;rw[Zt]at wl;calc{rfl,aa s1 ?_};calc{_,.str x,ws.map D.str,rfl,by rw[aq au];rfl,{by rw[Za];lia,by simp,by simp},?_};let o:=(f.then (Sm.app g [Ob.lst ((x::ws).map D.str)])).then (Sm.app _ [Ob.lst (ws.map D.str)])
 let I:=Sm.app (g++[Ob.lst ((x::ws).map D.str)]) [Ob.lst (ws.map D.str)] _ _ (Sm.app g [Ob.lst ((x::ws).map D.str)] _ _ hr);let B:(g++[Ob.lst ((x::ws).map D.str)]++[Ob.lst (ws.map D.str)])[Zd (g++[Ob.lst ((x::ws).map D.str)])]?=aD (Ob.lst (ws.map D.str)):=au;generalize Zd (g++[Ob.lst ((x::ws).map D.str)])=L at *;generalize g++[Ob.lst ((x::ws).map D.str)]++[Ob.lst (ws.map D.str)]=h at *;show rW _ [a,aD (.ref n),aD (.str y),aD (.str x),aD (.ref L),w] h _;k_is;by_cases H:x∈wds
 .let C:=fh x H;calc aa (UB o H) ?_;k_is;calc aa (LS o H) ?_;k_is;refine{bq (o.l _ C.2.1),by rw[aq B];rfl,ig ws D.str ci (by lia) (yH B) (λz S' hz sm=>{_,rfl,?_}) λZ O=>?_}
  .k_is;let U:=M.at (Zh _ hz);exact{rfl,GF (k:=k) U.asc (by let:=U.len;lia) λS4 s4=>⟨rfl,s4⟩}
  .calc aa (show gH a9 _ Z=aD (.tup (ws.map ci),Z) from rfl) ?_;let J:=o.then O
   rw[gk (J.l _ C.2.1) (by let:=hv (wix x);lia)];let f4:=J.put (ds:=E (wix x)++[.tup (ws.map ci)]) C.2.1;k_is;exact q H _ _ _ f4 (by rw[ZA (by let:=C.2.1;lia)];exact O _ _ I)
 .calc aa (UJ o H) ?_;k_is;exact Y H _ _ o.sm
def KN:∀j,j < 6->∀w∈wds,(w == wds.getD j "")=decide (j=wix w):=by decide +kernel
def GK{x:Str}{K:SkP}{m r:Nat}(hx:Ms x m r)(X:m<=8000)(H:Hyp x K)(q0:NoK x->∀d g,Sm S g->TW d->Q d g)(q1:SkN K->Dw.bU (skT K)=a8->x=al K->∀g,Sm S g->Q (skD K) g):Ok (evC ae (k+2) 21 [.str x] S) Q:=by
 calc aV (d:=oX) (ρ:=[aD (.str x),aT,aT,aT,aT,aT]) rfl rfl ?_;dsimp![oX,jX];k_is;calc Gn (by show 6 < 7;decide) (λw C S h=>by show bn 6 C S=_;delta bn;rw[h]) (λC S=>rfl) λρ' S1 f1=>{rfl,?_};show rW _ [aD (.str x),aD (.ref (Zd S)),aT,aT,aT,aT] S1 _;generalize hn0:Zd S=n at *;let mp:=hx.split (c:=10);let sl:=mp.len_le;let pc:∀y∈Txt.split x ⟨#[10]⟩,Ms y m r:=λy O=>hx.piece O;let H2:NoK x\/(SkN K/\Dw.bU (skT K)=a8/\x=al K/\Txt.split x ⟨#[10]⟩=(lnK K).map aK):=H.imp id λ⟨h,i,e⟩=>{h,i,e,by rw[e];exact jy h};k_is;let s0:cC (.str x) [.str "\n"] S1=aD (.ref (Zd S1),S1++[.lst ((Txt.split x ⟨#[10]⟩).map D.str)]):=kW hx X;calc{rfl,aa s0 ?_};calc(show(az (S1++[Ob.lst ((Txt.split x ⟨#[10]⟩).map D.str)]) (Zd S1)).isSome=a8/\_ from {by rw[aq au];rfl,?_});let f2:=f1.then (Sm.app S1 [Ob.lst ((Txt.split x ⟨#[10]⟩).map D.str)])
 let Y:(S1++[Ob.lst ((Txt.split x ⟨#[10]⟩).map D.str)])[Zd S1]?=aD (Ob.lst ((Txt.split x ⟨#[10]⟩).map D.str)):=au;let hN:n+7<=Zd S1:=by let:=(Zb.mp (f1.l 5 (by decide))).1;lia
 generalize Zd S1=N at *;generalize S1++[Ob.lst ((Txt.split x ⟨#[10]⟩).map D.str)]=S2 at *;generalize Txt.split x ⟨#[10]⟩=ys at *
 let hp:∀w,∀d∈ptD ci ys w,pP d:=λw d hd=>by
  let{y,O,rfl}:=GG hd;exact LY UI (pc y O) X
 refine cQ ys.length (λi M g=>Fd S n 6 g (λj=>ptD ci (ys.take i) (wds.getD j ""))/\g[N]?=aD (Ob.lst (ys.map D.str))/\∃b c d,M=[aD (.str x),aD (.ref n),b,c,d,aT]) (by delta LF;lia) (λi M g L iv=>?_) (λM g iv=>?_) ⟨f2,Y,_,_,_,rfl⟩
 .let{f,q,b,c,d,Z}:=iv;subst Z;refine{.str ys[i],_,?_,rfl,?_}
  .show(az g N).map (λds=>ds[i]?)=_;rw[aq q,Zp,Zn,gEG L];rfl
  .refine kQ (GJ (pc _ (ZG L)) X f hN q (λj=>by
    let:=tM ci (wds.getD j "") (ys.take i);rw[ZD]at this;lia) (λB M S3 s3=>?_) λB b c S3 J T=>⟨{J.sm,J.le,J.d,λj v=>?_},T,_,_,_,rfl⟩)
   .calc H2.elim (λnk=>q0 nk _ _ s3 yP) λ⟨h,_,_,e⟩=>absurd ?_ B;let U:ys[i]∈(lnK K).map aK:=by rw[<-e];exact ZG L
    let{z,hz,ez}:=ZF.mp U;rw[<-ez,AA (i7 h z hz)];exact(i7 h z hz).w
   .let:=J.l j v;rw[this,dM L]
    let e:ptD ci (ys.take i++[ys[i]]) (wds.getD j "")=ptD ci (ys.take i) (wds.getD j "")++if (wd1 ys[i] == wds.getD j "")=a8 then [.tup (io ci ys[i])] else []:=by
     delta ptD;rw[Y8,Yy,List.flatMap_nil,ZN]
    rw[e,KN j v _ B];by_cases o:j=wix (wd1 ys[i])
    .rw[if_pos o,decide_eq_true o,if_pos rfl,<-o]
    .rw[if_neg o,decide_eq_false o,if_neg Ze,ZN]
 .let{f,q,b,c,d,Z}:=iv;subst Z;rw[Z4]at f;refine{?_,?_}
  .show(az g N).map (λds=>ds[ys.length]?)=_;rw[aq q,Zp,ZH (by rw[Za];exact Zc _)]
  k_is;let I:∀w j,w∈wds->wix w=j->ixS (.ref n) (.str w) g=aD (.ref (n+1+j),g):=λw j B v=>by rw[<-v];exact LS f B
  let u:∀j w,j < 6->wds.getD j "" = w->g[n+1+j]?=aD (.lst (ptD ci ys w)):=λj w v e=>by rw[<-e];exact f.l j v
  obtain⟨es,E,el,en⟩:pP ((ptD ci ys "meadow").headD (.tup [])):=by
   rcases pw (e:=.tup []) (hp "meadow") with e |e
   .rw[e];exact KM
   .exact e
  calc aa (I "meadow" 0 (by decide +kernel) (by decide +kernel)) {rfl,o8 (k:=k) (u 0 "meadow" (by decide) rfl) ?_};calc aa (I "gaps" 1 (by decide +kernel) (by decide +kernel)) (aa (kc (u 1 "gaps" (by decide) rfl)) ?_);calc aa (I "shut" 2 (by decide +kernel) (by decide +kernel)) (aa (kc (u 2 "shut" (by decide) rfl)) ?_);rw[E];k_is;calc{by show es.length+2<=9000;lia,?_};k_is;calc aa (I "ahead" 3 (by decide +kernel) (by decide +kernel)) {rfl,o8 (k:=k) (u 3 "ahead" (by decide) rfl) ?_};calc aa (I "glider" 4 (by decide +kernel) (by decide +kernel)) (aa (kc (u 4 "glider" (by decide) rfl)) ?_);calc aa (I "fixed" 5 (by decide +kernel) (by decide +kernel)) {rfl,o8 (k:=k) (u 5 "fixed" (by decide) rfl) ?_};k_is;show Q (Cq ci ys es) g;rcases H2 with nk |⟨h,i,e,ey⟩
  .exact q0 nk _ g f.sm (GH (by lia) hp el en)
  .let{e0,_,_,e3}:=GI UI h;rw[ey,e0]at E;let E:D.tup [.int K.r,.int K.s] = .tup es:=E;injection E with E;rw[ey,<-E,e3];exact q1 h i e g f.sm
def mU{m r:Nat}(E:Ms x m r)(I:m<=8000)(H:Hyp x K)(B:NoK x->∀b,Sm S b->Q (.str "text") b)(C:SkN K->Dw.bU (skT K)=a8->x=al K->∀b,Sm S b->Q (skD K) b):Ok (evC ae (k+10) 39 [.str x] S) Q:=by
 calc Gi (KF (d:=jr) (rs:=ek) (ρ:=[aD (.str x),aT]) rfl rfl rfl ?_);delta ek;calc LR (ds:=[.str x]) (S1:=S) rfl rfl ?_;calc KF (d:=yd) (rs:=oT) (ρ:=[aD (.str x),aT]) rfl rfl rfl ?_;dsimp![oT];calc Gj ?_;k_is;calc aa (show dS .str (.str x) S=aD (.bl a8,S) from rfl) ?_;k_is;refine{rfl,GK E I H (λo d j c tw=>?_) λh hs ex j c=>?_}
 .let{t,y,_}:=tw;k_is;calc Gk ?_;k_is;calc{rfl,yx (y 0 j) λv f=>?_};cases e:Dw.bU t with
  |false=>
   k_is;rw[if_pos rfl];exact{by decide,_,rfl,B o v (c.trans f)}
  |true=>
   let{K,rfl,u}:=yI e;obtain rfl:=yJ (y 0 j);k_is;calc{rfl,As u λq g=>?_};k_is;rw[dF,af,show(al K == x)=a9 from beq_eq_false_iff_ne.mpr λz=>o K u e z.symm];k_is;rw[if_pos (by decide)];exact{by decide,_,rfl,B o q (c.trans (f.trans g))}
 .k_is;calc Gk ?_;k_is;calc{rfl,yx (p:=0) Gq λv f=>?_};rw[hs];k_is;calc{rfl,As h λq g=>?_};k_is;rw[dF,af,ex,beq_self_eq_true];k_is;rw[if_neg (by decide)];calc Gj ?_;k_is;exact C h hs ex q (c.trans (f.trans g))
def GM(hd:dS .str d S=aD (.bl a9,S))(q:∀b,Sm S b->Q (.str "text") b):Ok (evC ae (k+10) 39 [d] S) Q:=by
 calc Gi (KF (d:=jr) (rs:=ek) (ρ:=[aD d,aT]) rfl rfl rfl ?_);delta ek;calc LR (ds:=[d]) (S1:=S) rfl rfl ?_;calc KF (d:=yd) (rs:=oT) (ρ:=[aD d,aT]) rfl rfl rfl ?_;dsimp![oT];calc Gj ?_;k_is;calc aa hd ?_;k_is;calc Gk ?_;k_is;calc{rfl,yx (p:=0) oZ λf c=>?_};rw[show Dw.bU .non=a9 from rfl];k_is;rw[if_pos rfl];exact{by decide,_,rfl,q f c}
abbrev vV(y:Str):D:=.tup [.str (wd1 y),.tup (io aH y)]
def Q3{n:Nat}(h:S[n]?=aD (.lst ds))(hd:∀d∈ds,vS d):ay .s .non (.ref n) S=aD (.bl (inF .non ds),S):=by
 show inS a9 .non (.ref n) S=_;delta inS;simp![am,aq h,Zp]
 rw[if_pos ⟨rfl,Zg.mpr λd H=>by
  rcases hd d H with rfl | ⟨i,rfl⟩ <;> rfl⟩]
 cases inF .non ds <;> rfl
def j6:∀l:List Int,inF .non (l.map D.int)=a9:=λl=>by
 delta inF;rw[WF];exact X9.mpr λi _=>by show ¬ (eqF (.int i) .non=a8);exact Ze
def KO{n:Nat}(h:S[n]?=aD (.lst (d::ds))):ixS (.ref n) (.int 0) S=aD (d,S):=by
 simp![ixS,am,aq h,Zp];rw[show atI (d::ds) 0=aD d by simp[atI,ixN]];rfl
abbrev lrB:List CS:=match bX with
 |_ :: .f _ _ b::_=>b
 |_=>[]
def GN{R:Nat}{m r:Nat}(X:Ms y m r)(hm:m<=8000)(U:r<=640)(sm:Sm I v)(hR:I.length<=R)(hr:v[R]?=aD (.lst rs))(hl:rs.length < 9000)
  {Q:Fl->Rho->Sto->Prop} (q0:inF .non (io aH y)=a8->∀ρ o,Sm I o->Q (.rt .non) ρ o)
  (q:inF .non (io aH y)=a9->∀b c o,(∀j u,j≠R->v[j]?=aD u->o[j]?=aD u)->Sm I o->o[R]?=aD (.lst (rs++[vV y]))->Q .nx [a,aD (.ref R),aD (.str y),b,c,e,f,g,i] o) :
  rW (wSs (evC ae (k+1)) (cz ae) 57 lrB) [a,aD (.ref R),aD (.str y),c,d,e,f,g,i] v Q:=by
 dsimp![lrB,bX];k_is;let O:=X.split (c:=32);let s1:cC (.str y) [.str " "] v=aD (.ref (Zd v),v++[.lst ((Txt.split y ⟨#[32]⟩).map D.str)]):=kW X hm;let ln:=λw (hw:w∈Txt.split y ⟨#[32]⟩)=>(O.at hw)
 obtain⟨x,ws,ex⟩:∃x ws,Txt.split y ⟨#[32]⟩=x::ws:=by
  cases e:Txt.split y ⟨#[32]⟩ with
  |nil=>exact absurd e (ik _ _)
  |cons x ws=>exact⟨x,ws,rfl⟩
 let en:io aH y=ws.map aH:=by delta io;rw[ex];rfl
 let ew:vV y = .tup [.str x,.tup (ws.map aH)]:=by delta vV wd1;rw[en,ex];rfl
 rw[en]at q0 q;rw[ew]at q;rw[ex]at s1 O ln;let wl:=O.len_le;rw[Zt]at wl;calc{rfl,aa s1 ?_};let Y:(v++[Ob.lst ((x::ws).map D.str)])[Zd v]?=aD (Ob.lst (D.str x::ws.map D.str)):=au;let t1:=Sm.app v [Ob.lst ((x::ws).map D.str)];generalize Zd v=N at *;generalize v++[Ob.lst ((x::ws).map D.str)]=o at *;k_is
 let sl:slS (aD 1) aT (.ref N) o=aD (.ref (Zd o),o++[Ob.lst (ws.map D.str)]):=by
  simp![slS,aq Y];rw[UE]
 calc aa sl ?_;let w2:(o++[Ob.lst (ws.map D.str)])[Zd o]?=aD (Ob.lst (ws.map D.str)):=au;let t2:=Sm.app o [Ob.lst (ws.map D.str)];generalize Zd o=M at *;generalize o++[Ob.lst (ws.map D.str)]=S3 at *;k_is;refine{by rw[aq w2];rfl,ig ws D.str aH (by lia) (yH w2) (λz S' hz sm'=>{_,rfl,?_}) λB t4=>?_}
 .k_is;let C:=ln z (Zh _ hz);exact{rfl,Co (k:=k) C.asc (by let:=C.len;lia) (Zy C.run U) λS5 s5=>⟨rfl,s5⟩}
 .let Z:(B++[Ob.lst (ws.map aH)])[Zd B]?=aD (Ob.lst (ws.map aH)):=au;let t5:=Sm.app B [Ob.lst (ws.map aH)];let T:=t1.trans (t2.trans (t4.trans t5));let H:=T _ _ hr;let J:=t5 _ _ (t4 _ _ (t2 _ _ Y));generalize Zd B=L at *;generalize B++[Ob.lst (ws.map aH)]=S5 at *;k_is;refine aa (Q3 Z λd hd=>?_) ?_
  .let{w,_,rfl}:=ZF.mp hd;exact yO w
  .cases E:inF .non (ws.map aH) with
   |true=>
    k_is;exact q0 E _ _ (sm.trans T)
   |false=>
    k_is;calc{bq H,?_};k_is;calc aa (KO J) (aa (kc Z) ?_);rw[gk H (by lia)];k_is;exact q E _ _ _ (λj u hj h=>by rw[ZA (Ne.symm hj)];exact T _ _ h) (o9 (sm.trans T) hR) (by rw[Zq (Zb.mp H).1])
def GO{ys:List Str}{m r:Nat}(my:∀y∈ys,Ms y m r)(U:m<=8000)(L:r<=640)(hl:ys.length<=8900){C E:Sto}{N R:Nat}{a c d e f g i Z:Option D}(sm:Sm C E)(hR:C.length<=R)(X:N≠R)(hN:E[N]?=aD (.lst (ys.map D.str)))(hr:E[R]?=aD (.lst []))
  {Q:Fl->Rho->Sto->Prop} (q0:∀y∈ys,inF .non (io aH y)=a8->∀B u,Sm C u->Q (.rt .non) B u)
  (q:∀b c d u,Sm C u->u[R]?=aD (.lst (ys.map vV))->Q .nx [a,aD (.ref R),b,c,d,e,f,g,i] u) :
  OkS (c8 (nxS N) (.n 2) (eY (evC ae (k+1)) (cz ae) 57 lrB) LF 0 [a,aD (.ref R),Z,c,d,e,f,g,i] E) Q:=by
 refine cQ ys.length (λj B v=>Sm C v/\v[N]?=aD (.lst (ys.map D.str))/\v[R]?=aD (.lst ((ys.take j).map vV))/\∃b c d,B=[a,aD (.ref R),b,c,d,e,f,g,i]) (by delta LF;lia) (λj B v I M=>?_) (λB v M=>?_) ⟨sm,hN,hr,_,_,_,rfl⟩
 .let{z,H,o,b,c,d,J}:=M;subst J;refine{.str ys[j],_,?_,rfl,?_}
  .show(az v N).map (λT=>T[j]?)=_;rw[aq H,Zp,Zn,gEG I];rfl
  .refine kQ (GN (my _ (ZG I)) U L z hR o (by rw[Za,ZD];lia) (λh B u O=>q0 _ (ZG I) h _ _ O) λh b c u Y O h2=>{O,Y _ _ X H,by rw[h2,dM I,Zu];rfl,_,_,_,rfl})
 .let{z,H,o,b,c,d,J}:=M;subst J;rw[Z4]at o;calc{?_,q _ _ _ _ z o};show(az v N).map (λT=>T[ys.length]?)=_;rw[aq H,Zp,ZH (by rw[Za];exact Zc _)]
abbrev lpB:List CS:=match bX with
 |_::_::_ :: .f _ _ b::_=>b
 |_=>[]
def GP{o:Type}{nx:Nxt}{T:Tg}{c:XA}{u:Rho}{Q:List D->Sto->Prop}(l:List o)(E:o->D)(f:o->List D)(hl:l.length<=90000)(y:∀a∈l,(f a).length<=1)(H:∀i b,Sm S b->nx i b=aD ((l[i]?).map E))
  (step:∀a b,a∈l->Sm S b->∃g,aE T (E a) u=aD g/\Ok (c g b) λj v=>j=f a/\Sm b v) (q:∀b,Sm S b->Q (l.flatMap f) b) :
  Ok (bo nx T c u LF 0 S) λj S2=>j.length<=100000/\Q j S2:=yE l E f hl y H (λi a b h sm=>step a b (Zs h) sm) q
def GQ{ys:List Str}(hl:ys.length<=8900){I E:Sto}{R n:Nat}{a b c d f g e0:Option D}(sm:Sm I E)(hn:I.length<=n)(Y:n≠R)(hr:E[R]?=aD (.lst (ys.map vV)))(hd:E[n]?=aD (.dic [] []))
  {Q:Fl->Rho->Sto->Prop}
  (q:∀e h,Sm I h->h[n]?=aD (.dic ksW (wds.map λw=>.tup (ptD aH ys w)))->Q .nx [a,aD (.ref R),b,c,d,aD (.ref n),e,f,g] h) :
  OkS (c8 (nxL (wds.map D.str)) (.n 6) (eY (evC ae (k+1)) (cz ae) 55 lpB) LF 0 [a,aD (.ref R),b,c,d,aD (.ref n),e0,f,g] E) Q:=by
 refine Ap (by decide) (λi L B=>Sm I B/\B[R]?=aD (.lst (ys.map vV))/\B[n]?=aD (.dic (ksW.take i) ((wds.take i).map λw=>.tup (ptD aH ys w)))/\∃e,L=[a,aD (.ref R),b,c,d,aD (.ref n),e,f,g]) (λi v L B hv M=>?_) (λL B M=>?_) ⟨sm,hr,hd,_,rfl⟩
 .let{o,H,u,e,rfl}:=M;let{w,U,rfl}:=yD hv;let{X,rfl}:=Zb.mp U;calc{_,rfl,kQ ?_};dsimp![lpB,bX];k_is;calc{by rw[aq H];rfl,?_};refine GP ys vV (λy=>if (wd1 y == wds[i])=a8 then [.tup (io aH y)] else []) (by lia) (λy _=>by split <;> simp) (yH H) (λy h hy J=>{_,rfl,?_}) λh J=>?_
  .k_is;calc aa (iO ..) ?_;cases (wd1 y == wds[i]) with
   |true=>k_is;exact{rfl,Sm.refl _}
   |false=>k_is;exact{rfl,Sm.refl _}
  .calc aa (show gH a9 _ h=aD (.tup (ptD aH ys wds[i]),h) from rfl) ?_;k_is;let C:=J _ _ u;let O:ksW[i]?=aD (Sum.inr wds[i]):=by delta ksW;rw[Zn,U];rfl
   let Z:ksW.take (i+1)=ksW.take i++[Sum.inr wds[i]]:=by rw[Wu,O];rfl
   let st:fC (.ref n) (.str wds[i]) (.tup (ptD aH ys wds[i])) h=aD (h.set n (.dic (ksW.take (i+1)) ((wds.take (i+1)).map λw=>.tup (ptD aH ys w)))):=by
    delta fC;dsimp!;rw[C];dsimp!;rw[if_pos,Z,dM X,Zu];rfl;calc{Zg.mpr λx hx=>decide_eq_true λz=>?_,by rw[ZD];show min i 6 < 1000;lia};let nd:ksW.Nodup:=by decide +kernel
    let{j,T,e}:=Yr hx;rw[ZD]at T;let T:j < i:=by lia
    rw[Xg]at e;let{h2,e2}:=Zb.mp O;let:=(YU nd).mp (e.trans (z.trans e2.symm))
    lia
   calc{_,st,?_};refine{o9 (o.trans J) hn,by rw[ZA Y];exact J _ _ H,by rw[Zq (Zb.mp C).1],_,rfl}
 .let{o,H,u,e,rfl}:=M;exact q _ _ o u
def UK{n:Nat}(h:S[n]?=aD (.dic ksW (wds.map λw=>.tup (ptD aH ys w))))(hw:w∈wds):ixS (.ref n) (.str w) S=aD (.tup (ptD aH ys w),S):=by
 let e:pG ksW (wds.map λw=>D.tup (ptD aH ys w)) (.inr w)=aD (.tup (ptD aH ys w)):=by
  simp![wds,Zl,ZM,or_false]at hw;rcases hw with rfl |rfl |rfl |rfl |rfl |rfl <;> rfl
 simp![ixS,ixD,h];rw[e];rfl
def tN:ixS (.tup (d::ds)) (.int 0) S=aD (d,S):=by
 simp![ixS,am,Zp];rw[show atI (d::ds) 0=aD d by simp[atI,ixN]];rfl
def tO:aC dR (.tup ds) S=aD (.int ds.length,S):=by simp![aC,am,dR]
def GR{n:Nat}(hl:ys.length<=8900)(y:∀w,∀d∈ptD aH ys w,pP d)(sm:Sm U S1)(hd:S1[n]?=aD (.dic ksW (wds.map λw=>.tup (ptD aH ys w))))
  (H:NoK x\/(SkN K/\Dw.bU (skT K)=a8/\x=al K/\ys=(lnK K).map aK)) (L:NoK x->∀u,Sm U u->Q .non u) (q1:SkN K->Dw.bU (skT K)=a8->x=al K->∀u,Sm U u->Q (skD K) u) :
  rW (wSs (evC ae (k+5)) (cz ae) 56 (bX.drop 4)) [aD (.str x),b,c,d,e,aD (.ref n),f,g,i] S1 (out Q):=by
 dsimp![bX,YD];let ix:∀w,w∈wds->ixS (.ref n) (.str w) S1=aD (.tup (ptD aH ys w),S1):=λw M=>UK hd M;let pl:∀w,(ptD aH ys w).length<=8900:=λw=>Zy (tM _ _ _) hl;let no:∀ (p:Prop),(SkN K->ys=(lnK K).map aK->¬ p)->p->Q .non S1:=λp hn y=>H.elim (λv=>L v _ sm) λ⟨h,_,_,e⟩=>absurd y (hn h e);k_is;calc aa (ix "meadow" (by decide +kernel)) (aa tO ?_);k_is;by_cases o:((ptD aH ys "meadow").length:Int)=1
 case neg=>
  rw[decide_eq_false o];k_is;calc no _ (λh e z=>z ?_) o;rw[e,(GI Cp h).1];rfl
 rw[decide_eq_true o];k_is;calc aa (ix "ahead" (by decide +kernel)) (aa tO ?_);k_is;by_cases J:(1:Int) < ((ptD aH ys "ahead").length:Int)
 .rw[decide_eq_true J];k_is;calc no _ (λh e z=>?_) J;rw[e]at z;let:=(GI Cp h).2.1;lia
 rw[decide_eq_false J];k_is;calc aa (ix "fixed" (by decide +kernel)) (aa tO ?_);k_is;by_cases T:(1:Int) < ((ptD aH ys "fixed").length:Int)
 .rw[decide_eq_true T];k_is;calc no _ (λh e z=>?_) T;rw[e]at z;let:=(GI Cp h).2.2.1;lia
 rw[decide_eq_false T];k_is
 obtain⟨es,E,el,en⟩:∃es,ptD aH ys "meadow" = [.tup es]/\es.length<=8900/\∀e∈es,vS e:=by
  cases e:ptD aH ys "meadow" with
  |nil=>rw[e]at o;exact absurd o (by decide)
  |cons d j=>
   cases j with
   |nil=>
    let{es,e1,e2,O}:=y "meadow" d (by rw[e];exact Zf);exact{es,by rw[e1],e2,O}
   |cons d' j=>rw[e]at o;simp![Zt]at o;lia
 calc aa (ix "meadow" (by decide +kernel)) ?_;rw[E];calc aa tN (aa (ix "gaps" (by decide +kernel)) (aa (ix "shut" (by decide +kernel)) ?_));k_is;calc{by show es.length+2<=9000;lia,?_};k_is;calc aa (ix "ahead" (by decide +kernel)) ?_;k_is
 let I:∀ (j:List D) (e:D) (q:Sto),ixS (.tup (j++[e])) (.int 0) q=aD (j.headD e,q):=λj e q=>by
  cases j with
  |nil=>exact tN
  |cons d j=>exact tN
 calc{by let:=pl "ahead"; show _+1<=9000;lia,aa (I ..) (aa (ix "glider" (by decide +kernel)) (aa (ix "fixed" (by decide +kernel)) ?_))};k_is;calc{by let:=pl "fixed"; show _+1<=9000;lia,aa (I ..) ?_};k_is;let Z:D.tup [.tup (es++[.tup (ptD aH ys "gaps"),.tup (ptD aH ys "shut")]),(ptD aH ys "ahead").headD .non,.tup (ptD aH ys "glider"),(ptD aH ys "fixed").headD (.tup [])]=Cq aH ys es:=rfl;rw[Z];rcases H with v |⟨h,hs,ex,e⟩
 .let{t,Y,M}:=GH hl y el en;generalize Cq aH ys es=dd at *;calc{rfl,Ah (Y 0 S1) M λq B=>?_};cases X:Dw.bU t with
  |false=>
   k_is;exact L v _ (sm.trans B)
  |true=>
   let{K,rfl,h}:=yI X;obtain rfl:=yJ (Y 0 S1);k_is;calc{rfl,pd h λS3 C=>?_};k_is;rw[iO,af,show(al K == x)=a9 from beq_eq_false_iff_ne.mpr λz=>v K h X z.symm];k_is;exact L v _ (sm.trans (B.trans C))
 .let{e0,_,_,O}:=GI Cp h
  let ee:es=[.int K.r,.int K.s]:=by
   rw[e,e0]at E;let:=(WB.inj E).1;injection this with this;exact this.symm
  rw[ee,e,O];calc{rfl,Ah (p:=0) (t:=skT K) Gq (UF h) λq B=>?_};rw[hs];k_is;calc{rfl,pd h λS3 C=>?_};k_is;rw[iO,af,ex,beq_self_eq_true];k_is;exact q1 h hs ex _ (sm.trans (B.trans C))
def GS{x:Str}{K:SkP}{m r:Nat}(v:Ms x m r)(q:m<=8000)(U:r<=640)(H:Hyp x K)(I:NoK x->∀g,Sm S g->Q .non g)(Z:SkN K->Dw.bU (skT K)=a8->x=al K->∀g,Sm S g->Q (skD K) g):Ok (evC ae (k+6) 41 [.str x] S) Q:=by
 calc aV (d:=ia) (ρ:=[aD (.str x),aT,aT,aT,aT,aT,aT,aT,aT]) rfl rfl ?_;dsimp![ia,bX];k_is;let sl:=(v.split (c:=10)).len_le;let C:∀y∈Txt.split x ⟨#[10]⟩,Ms y m r:=λy f=>v.piece f;let L:NoK x\/(SkN K/\Dw.bU (skT K)=a8/\x=al K/\Txt.split x ⟨#[10]⟩=(lnK K).map aK):=H.imp id λ⟨h,i,e⟩=>{h,i,e,by rw[e];exact jy h};let Y:(S++[Ob.lst []])[Zd S]?=aD (Ob.lst []):=au;let O:=Sm.app S [Ob.lst []];let l0:Zd S < Zd (S++[Ob.lst []]):=by rw[Zi];show _ < _+1;lia
 generalize hl0:Zd S=R at *;generalize S++[Ob.lst []]=S1 at *;let s0:cC (.str x) [.str "\n"] S1=aD (.ref (Zd S1),S1++[.lst ((Txt.split x ⟨#[10]⟩).map D.str)]):=kW v q;calc{rfl,aa s0 ?_};let j:(S1++[Ob.lst ((Txt.split x ⟨#[10]⟩).map D.str)])[Zd S1]?=aD (Ob.lst ((Txt.split x ⟨#[10]⟩).map D.str)):=au;let E:=Sm.app S1 [Ob.lst ((Txt.split x ⟨#[10]⟩).map D.str)];generalize hl1:Zd S1=N at *;generalize S1++[Ob.lst ((Txt.split x ⟨#[10]⟩).map D.str)]=S2 at *;generalize Txt.split x ⟨#[10]⟩=ys at *;calc(show(az S2 N).isSome=a8/\_ from {by rw[aq j];rfl,?_});refine GO (k:=k+4) C q U (by lia) (O.trans E) (by lia) (by lia) j (E _ _ Y) (λy f B ρ u o=>?_) λb c d u o J=>?_
 .calc I (L.elim id λ⟨h,_,_,e⟩=>?_) _ o;rw[e]at f;let{z,hz,rfl}:=ZF.mp f;rw[vU Cp (i7 h z hz),j6]at B;cases B
 .k_is
  let M:∀w,∀d∈ptD aH ys w,pP d:=λw d hd=>by
   let{y,f,rfl}:=GG hd;exact LY Cp (C y f) q
  let rl:=(Zb.mp J).1;let T:=Sm.app u [Ob.dic [] []];calc GQ (k:=k+4) (ys:=ys) (n:=Zd u) (R:=R) (by lia) (o.trans T) (Sm.le o) (by lia) (T _ _ J) au λe S4 X h4=>?_;exact GR (by lia) M X h4 L I Z
def Q4(ys:List Str):LW ys=(ys.map (·.length)).sum+ys.length:=by
 induction ys with
 |nil=>rfl
 |cons y ys I=>rw[bN,I,Zx,X2,Zt];lia
def GU{n r c R:Nat}(h:Mp z n r)(b:n<=90000)(H:S[R]?=aD (.lst (z.map D.str))):gK (.str ⟨#[c]⟩) [.ref R] S=aD (.str (Str.join ⟨#[c]⟩ z),S):=by
 rw[mP H (by
  let:=h.len;rw[Q4]at this;rw[show Str.length ⟨#[c]⟩=1 from rfl];lia),KJ]
def fk{n i:Nat}{ys:List Str}{y:Str}(h:S[n]?=aD (.lst (ys.map D.str)))(H:ys[i]?=aD y):ixS (.ref n) (.int (i:Int)) S=aD (.str y,S):=by
 simp![ixS,am,aq h,Zp];rw[Ev.ml (show(ys.map D.str)[i]?=aD (.str y) by rw[Zn,H];rfl)];rfl
def tP{n:Nat}{ys:List Str}(h:S[n]?=aD (.lst (ys.map D.str))):aC dR (.ref n) S=aD (.int ys.length,S):=by simp![aC,am,aq h,Zp,dR,Za]
def GV{n i:Nat}(h:i < n):ixN n (i:Int)=aD i:=by
 delta ixN;rw[if_pos (by lia),if_pos (by lia),ZL]
def vW:∀ {ys:List Str} {i:Nat},(ys.map D.str).eraseIdx i=(ys.eraseIdx i).map D.str
 |[],_=>rfl
 |y::ys,0=>rfl
 |y::ys,i+1=>by rw[Zx,Yq,Yq,Zx,vW]
def AB{n i:Nat}{ys:List Str}{y:Str}(h:S[n]?=aD (.lst (ys.map D.str)))(H:ys[i]?=aD y):fS (.ref n) [.int (i:Int)] S=aD (.str y,S.set n (.lst ((ys.eraseIdx i).map D.str))):=by
 let b:ixN (ys.map D.str).length (i:Int)=aD i:=GV (by rw[Za];exact(Zb.mp H).1);simp![fS,chg,h,b,Zn,H,Zp];rw[vW]
def AC{n i:Nat}{ys:List Str}{y:Str}(h:S[n]?=aD (.lst (ys.map D.str)))(H:i<=ys.length)(hl:ys.length < 90000):xF (.ref n) [.int (i:Int),.str y] S=aD (.non,S.set n (.lst ((ys.take i++y::ys.drop i).map D.str))):=by
 simp![xF,chg,h];rw[if_pos (by lia),if_pos (by rw[Za];lia),Zp,Za,ZL,XF H];delta lA;rw[Zu,Zx,X1,List.map_drop]
def mV{n i:Nat}{ys:List Str}{y z:Str}(h:S[n]?=aD (.lst (ys.map D.str)))(H:ys[i]?=aD y):fC (.ref n) (.int (i:Int)) (.str z) S=aD (S.set n (.lst ((ys.set i z).map D.str))):=by
 let b:ixN (ys.map D.str).length (i:Int)=aD i:=GV (by rw[Za];exact(Zb.mp H).1);simp![fC,h,b,Zp];rw[WH]
def gq{f:Nat}(d:Dr p S b)(h:S.length<=f)(H:f≠p):Dr p S (b.set f o):={d.kp.setNew h,d.pot.setNe H}
def vX(m:Nat)(h:m<=41):Ms (se "9" m) 41 41:=by
 let:∀m,m < 42->(∀c∈ao (se "9" m),c < 128)/\(se "9" m).length<=41:=by decide +kernel
 let{a,b}:=this m (by lia);exact{a,b,Zy (Gy _) (by rw[bG];exact b)}
def kY{c:Nat}(h:c < 128):Ms ⟨#[c]⟩ 1 1:=
 ⟨λd hd=>by
  let:d=c:=by simpa[ao] using hd
  lia,Zc 1,Gy _⟩
def GW{x:Str}{n r:Nat}(h:Pot p S)(hx:Ms x n r)(hn:n<=3900)(q:∀y S',Dr p S S'->Ms y (2 * n+60) (2 * r+60)->Q (.str y) S'):Ok (evC ae (k+2) 42 [.ref p,.str x] S) Q:=by
 calc aV (d:=cN) (ρ:=[aD (.ref p),aD (.str x),aT,aT,aT,aT,aT,aT]) rfl rfl ?_;dsimp![cN,cM];k_is;let mp:=hx.split (c:=10);let sl:=mp.len_le;let s0:cC (.str x) [.str "\n"] S=aD (.ref (Zd S),S++[.lst ((Txt.split x ⟨#[10]⟩).map D.str)]):=kW hx (by lia);let yn:=ik x 10;let pc:∀ y∈Txt.split x ⟨#[10]⟩,Ms y n r:=λy hy=>hx.piece hy;calc {rfl,aa s0 ?_};let r1:(S++[Ob.lst ((Txt.split x ⟨#[10]⟩).map D.str)])[Zd S]?=aD (Ob.lst ((Txt.split x ⟨#[10]⟩).map D.str)):=au;let d1:=Dr.sm h (Sm.app S [Ob.lst ((Txt.split x ⟨#[10]⟩).map D.str)]);let o:Zd S≠p:=by let:=h.lt;lia
 generalize hl:Zd S=R at *;generalize S++[Ob.lst ((Txt.split x ⟨#[10]⟩).map D.str)]=S1 at *;generalize Txt.split x ⟨#[10]⟩=ys at *;let yl:0 < ys.length:=XZ.mpr yn;k_is;calc aa (tP r1) ?_;k_is;calc {rfl,aw (k:=k) d1.pot (by lia) (by lia) λi S2 i0 i1 d2=>?_};let r2:=d2.kp _ _ o r1;calc aa (tP r2) {rfl,aw (k:=k) d2.pot (by lia) (by lia) λj S3 j0 j1 d3=>?_};let r3:=d3.kp _ _ o r2;calc {rfl,aw (k:=k) d3.pot (by decide) (by decide) λv S4 v0 v1 d4=>?_};let r4:=d4.kp _ _ o r3;let d5:=d1.trans (d2.trans (d3.trans d4));obtain ⟨i,rfl⟩:∃ n:Nat,i=(n:Int):={i.toNat,by lia};obtain ⟨j,rfl⟩:∃ n:Nat,j=(n:Int):={j.toNat,by lia};let hi:i < ys.length:=by lia
 let hj:j < ys.length:=by lia
 let C:=gEG hi;let yj:=gEG hj;let M:=pc _ (ZG hi);let mj:=pc _ (ZG hj);generalize ys[i]=y at *;generalize ys[j]=z at *;clear i1 i0 j0 j1 hi hj;k_is;calc aa (fk r4 C) ?_;let wp:=M.split (c:=32);let wl:=wp.len_le;let wn:=ik y 32;let s1:cC (.str y) [.str " "] S4=aD (.ref (Zd S4),S4++[.lst ((Txt.split y ⟨#[32]⟩).map D.str)]):=kW M (by lia);let wc:∀w∈Txt.split y ⟨#[32]⟩,Ms w n r:=λw hw=>M.piece hw;let wm:∀w∈Txt.split y ⟨#[32]⟩,Ms w y.length r:=λw hw=>(Ms.mk M.asc (Zc _) M.run:Ms y y.length r).piece hw;let wq:=(Ms.mk M.asc (Zc _) M.run:Ms y y.length r).split (c:=32);k_is;calc{rfl,aa s1 ?_};let w1:(S4++[Ob.lst ((Txt.split y ⟨#[32]⟩).map D.str)])[Zd S4]?=aD (Ob.lst ((Txt.split y ⟨#[32]⟩).map D.str)):=au;let t1:=Sm.app S4 [Ob.lst ((Txt.split y ⟨#[32]⟩).map D.str)];let U:Zd S4≠p:=by let:=d4.pot.lt;lia
 let RW:R < Zd S4:=(Zb.mp r4).1;let r5:=t1 _ _ r4;let d6:=d5.thenSm t1;generalize Zd S4=W at *;generalize S4++[Ob.lst ((Txt.split y ⟨#[32]⟩).map D.str)]=S5 at *;generalize Txt.split y ⟨#[32]⟩=ws at *;let wl0:0 < ws.length:=XZ.mpr wn;k_is;calc aa (tP w1) ?_;calc{rfl,aw (k:=k) d6.pot (by lia) (by lia) λl S6 l0 l1 d7=>?_};let w2:=d7.kp _ _ U w1;let f:=d7.kp _ _ o r5;let O:=d6.trans d7;obtain⟨l,rfl⟩:∃n:Nat,l=(n:Int):={l.toNat,by lia};let H:l < ws.length:=by lia
 let Y:=gEG H;let mw:=wc _ (ZG H);let mw2:=wm _ (ZG H);generalize ws[l]=w at *;clear l0 l1 H;k_is;clear d1 d2 d3 d4 d5 d6 d7 r1 r2 r3 r4 r5 w1 s0 s1 t1;let E:=(Zb.mp f).1;let X:=(Zb.mp w2).1;let yil:=(Zb.mp C).1;let yjl:=(Zb.mp yj).1;let wll:=(Zb.mp Y).1;let e0:v=0\/v=1\/v=2\/v=3\/v=4\/v=5:=by lia
 let fin:∀ (b:Sto) (Z:List Str),Dr p S b->b[R]?=aD (.lst (Z.map D.str))->Mp Z (2 * n+60) (2 * r+60)->Ok (gK (.str "\n") [.ref R] b) Q:=λb Z L J hz=>by
  let a:=GU (c:=10) hz (by lia) J;let a:gK (.str "\n") [.ref R] b=_:=a;exact aa a (q _ _ L (hz.join (.inr rfl)))
 let B:∀ (v:Int) (b:Sto) (Z:List Str) (g:Option D),2 < v->Dr p S b->b[R]?=aD (.lst (ys.map D.str))->b[W]?=aD (.lst (Z.map D.str))->Mp Z (2 * y.length+47) (r+42) ->
   rW (wSs (evC ae (k+1)) (cz ae) 55 (cM.drop 5)) [aD (.ref p),aD (.str x),aD (.ref R),aD (.int i),aD (.int j),aD (.int v),aD (.ref W),g] b (out Q):=λv b Z g hv L J w7 I=>by
  dsimp! [cM,YD];k_is;rw [decide_eq_true hv];k_is;let yb:=M.len;let j0:=GU (c:=32) I (by lia) w7;let j0:gK (.str " ") [.ref W] b=_:=j0;calc {rfl,aa j0 ?_};k_is;calc {_,mV J C,?_};let mj:=I.join (c:=32) (.inl rfl);let ms:=mp.set (m:=y.length+47) (u:=r+42) C (mj.up (by lia) (Zc _)) (by lia);k_is;exact {rfl,fin _ _ (gq L (by lia) o) (by rw [Zq (Zb.mp J).1]) (ms.up (by lia) (by lia))}
 rcases e0 with rfl |rfl |rfl |rfl |rfl |rfl
 .rw [show decide ((0:Int)=0)=a8 from rfl];k_is;calc {bq f,?_};k_is;calc aa (fk f C) (aa (AC f (by lia) (by lia)) ?_);k_is;rw [show decide ((2:Int) < 0)=a9 from rfl];k_is;exact {rfl,fin _ _ (gq O (by lia) o) (by rw [Zq E]) ((mp.ins M).up (by lia) (by lia))}
 .rw [show decide ((1:Int)=0)=a9 from rfl];k_is;rw [show decide ((1:Int)=1)=a8 from rfl];k_is;calc {bq f,?_};k_is;calc aa (AB f C) ?_;k_is;rw [show decide ((2:Int) < 1)=a9 from rfl];k_is;exact {rfl,fin _ _ (gq O (by lia) o) (by rw [Zq E]) (mp.erase.up (by lia) (by lia))}
 .rw [show decide ((2:Int)=0)=a9 from rfl];k_is;rw [show decide ((2:Int)=1)=a9 from rfl];k_is;rw [show decide ((2:Int)=2)=a8 from rfl];k_is;calc aa (fk f yj) (aa (fk f C) ?_);k_is;let J:(Y3 S6 R (Ob.lst ((ys.set i z).map D.str)))[R]?=aD (.lst ((ys.set i z).map D.str)):=by rw [Zq E]
  let T:∃ u,(ys.set i z)[j]?=aD u:={_,gEG (by rw [YA];exact yjl)};let{u,T}:=T;calc {_,_,rfl,_,mV f C,_,mV J T,?_};k_is;rw [show decide ((2:Int) < 2)=a9 from rfl];k_is;exact {rfl,fin _ _ (gq (gq O (by lia) o) (by lia) o) (by rw [Zq (by rw [YA];exact E)]) ((mp.swap C yj).up (by lia) (by lia))}
 .rw [show decide ((3:Int)=0)=a9 from rfl];k_is;rw [show decide ((3:Int)=1)=a9 from rfl];k_is;rw [show decide ((3:Int)=2)=a9 from rfl];k_is;rw [show decide ((3:Int)=3)=a8 from rfl];k_is;calc {bq w2,?_};k_is;calc aa (fk w2 Y) (aa (AC w2 (by lia) (by lia)) ?_);let I:=wq.ins (i:=l) mw2;refine B 3 _ _ _ (by decide) (gq O (by lia) U) (by rw [ZA (by lia)];exact f) (by rw [Zq X]) (I.up (by lia) (by lia))
 .rw [show decide ((4:Int)=0)=a9 from rfl];k_is;rw [show decide ((4:Int)=1)=a9 from rfl];k_is;rw [show decide ((4:Int)=2)=a9 from rfl];k_is;rw [show decide ((4:Int)=3)=a9 from rfl];k_is;rw [show decide ((4:Int)=4)=a8 from rfl];k_is;calc {bq w2,?_};k_is;calc aa (AB w2 Y) ?_;let I:=wq.erase (i:=l);refine B 4 _ _ _ (by decide) (gq O (by lia) U) (by rw [ZA (by lia)];exact f) (by rw [Zq X]) (I.up (by lia) (by lia))
 .rw [show decide ((5:Int)=0)=a9 from rfl];k_is;rw [show decide ((5:Int)=1)=a9 from rfl];k_is;rw [show decide ((5:Int)=2)=a9 from rfl];k_is;rw [show decide ((5:Int)=3)=a9 from rfl];k_is;rw [show decide ((5:Int)=4)=a9 from rfl];k_is;calc aa (fk w2 Y) ?_;k_is;let lw:=mw.len
  let m41:∀ b,bv .mul (.str "9") (.int 41) b=aD (.str (se "9" 41),b):=λb=>by
   simp! [bv,mf];rw [if_pos (by decide +kernel)];rfl
  let m40:∀ b,bv .mul (.str "9") (.int 40) b=aD (.str (se "9" 40),b):=λb=>by
   simp! [bv,mf];rw [if_pos (by decide +kernel)];rfl
  calc aa (aZ (by let:Str.length ("0" : Str)=1:=rfl;lia)) (aa (m41 _) (aa (m40 _) (aa (fk w2 Y) (aa (aZ (by let:Str.length ("-" : Str)=1:=rfl;lia)) ?_))));calc {rfl,aw (k:=k) O.pot (by decide) (by decide) λa b a0 a1 L=>?_};k_is;let w7:=L.kp _ _ U w2;let J:=L.kp _ _ o f;let d10:=O.trans L
  let hz:∃ z,atI [D.str (("0" : Str)++w),.str (se "9" 41),.str (se "9" 40),.str (("-" : Str)++w)] a=aD (.str z)/\Ms z (w.length+41) (r+42):=by
   let ww:Ms w w.length r:={mw.asc,Zc _,mw.run};let e0:a=0\/a=1\/a=2\/a=3:=by lia
   rcases e0 with rfl |rfl |rfl |rfl
   .exact{_,rfl,((kY (c:=48) (by decide)).app ww).up (by lia) (by lia)}
   .exact{_,rfl,(vX 41 (by decide)).up (by lia) (by lia)}
   .exact{_,rfl,(vX 40 (by decide)).up (by lia) (by lia)}
   .exact{_,rfl,((kY (c:=45) (by decide)).app ww).up (by lia) (by lia)}
  let{z2,ea,mz2}:=hz;let I:=wq.set (m:=41) (u:=r+42) Y mz2 (by lia);calc{_,ea,_,mV w7 Y,?_};exact B 5 _ _ _ (by decide) (gq d10 (by lia) U) (by rw[ZA (by lia)];exact J) (by rw[Zq (Zb.mp w7).1]) (I.up (by lia) (by lia))
def GX{i:Nat}(h:i<=x.length):ao (Txt.slice x aT (aD (i:Int)))=(ao x).take i:=by
 rw[beq_iff_eq.mp (PyProof.Rows.slice_closes_to (x:=x) (j:=(i:Int)) {by lia,by rw[show x.cps.toList.length=x.length from bG x];lia})];simp[ao]
def vY{i:Nat}:ao (Txt.slice x (aD (i:Int)) aT)=(ao x).drop i:=by
 by_cases h:i<=x.length
 .rw[PyProof.Rows.slice_from_eq (x:=x) (i:=(i:Int)) (b:=(x.length:Int)) (by lia) (by lia) rfl];let e:((x.length:Int) - i).toNat=(ao x).length - i:=by rw[bG];lia
  show((((ao x).drop (i:Int).toNat).take ((x.length:Int) - i).toNat).toArray).toList=_;rw[e,ZL];exact Yg (by rw[Yn];exact Zc _)
 .rw[PyProof.Rows.slice_beyond (by lia),List.drop_eq_nil_of_le (by rw[bG];lia)];rfl
def yQ{n r i j t:Nat}(h:Ms x n r)(c:ao a=(ao x).take i)(E:ao b=(ao x).drop j)(f:i<=j)(H:Ms y t t):Ms (a++y++b) (n+t) (2 * r+t):=by
 let M:=h.part (show ao x=[]++ao a++(ao x).drop i by rw[c,Yb,Yt]);let g:=h.part (show ao x=(ao x).take j++ao b++[] by rw[E,ZN,Yt])
 let l1:a.length+b.length<=x.length:=by
  rw[<-bG,<-bG,<-bG,c,E,ZD,Yn];lia
 let m:=(M.app H).app g;let:=h.len;let:=H.len;exact{m.asc,by rw[bu,bu];lia,Zy m.run (by lia)}
def GY{x:Str}{n r:Nat}(h:Pot p S)(o:Ms x n r)(hn:n<=3900)(q:∀y M,Dr p S M->Ms y (2 * n+60) (2 * r+60)->Q (.str y) M):Ok (evC ae (k+2) 43 [.ref p,.str x] S) Q:=by
 calc aV (d:=cE) (ρ:=[aD (.ref p),aD (.str x),aT,aT,aT,aT]) rfl rfl ?_;dsimp![cE,eU];k_is;calc aa (o7 (by let:=o.len;lia)) ?_;k_is;let xl:=o.len;calc{rfl,aw (k:=k) h (by lia) (by lia) λi S1 i0 i1 T=>?_};obtain⟨i,rfl⟩:∃n:Nat,i=(n:Int):={i.toNat,by lia};let hi:i<=x.length:=by lia
 generalize H:Str.ofString " \t\n0123456789-+_,.:/ameglidrxuhsfp!#$&'()*;<=>?@AZ[]^`{|}~\"\\" = sg;let sgl:0 < sg.length/\sg.length < 1000:=by rw[<-H];decide +kernel
 calc aa (o7 (by lia)) ?_;calc{rfl,aw (k:=k) T.pot (by lia) (by lia) λj b j0 j1 d2=>?_};obtain⟨j,rfl⟩:∃n:Nat,j=(n:Int):={j.toNat,by lia};let U:j < sg.length:=by lia
 obtain⟨c,g⟩:∃c,(ao sg)[j]?=aD c:={_,gEG (by rw[bG];exact U)}
 let C:c < 128:=by
  let:∀c∈ao sg,c < 128:=by rw[<-H];decide +kernel
  exact this c (Zs g)
 let I:ixS (.str sg) (.int (j:Int)) b=aD (.str ⟨#[c]⟩,b):=by
  simp![ixS];rw[if_pos (by lia)];let:atI (ao sg) (j:Int)=aD c:=L2.ml g;rw[show sg.cps.toList=ao sg from rfl,this];rfl
 calc aa I ?_;k_is;clear H g I U;let s1:=Txt.slice_le x aT (aD (i:Int));let s2:=Txt.slice_le x (aD (i:Int)) aT;let s3:=Txt.slice_le x (aD ((i:Int)+1)) aT;let E:=GX hi;let e2:=vY (x:=x) (i:=i);let Y:ao (Txt.slice x (aD ((i:Int)+1)) aT)=(ao x).drop (i+1):=vY (x:=x) (i:=i+1);generalize Txt.slice x aT (aD (i:Int))=u at *;generalize Txt.slice x (aD (i:Int)) aT=v at *;generalize Txt.slice x (aD ((i:Int)+1)) aT=w at *;let l1:Str.length ⟨#[c]⟩=1:=rfl;let X:x.length<=100000:=by lia
 let J:=T.trans d2;let m0:Ms (⟨#[]⟩:Str) 0 0:={(λc g=>absurd (show c∈([]:List Nat) from g) ZM),Zc _,Zc _}
 let e4:u++(⟨#[]⟩:Str)++w=u++w:=by
  apply mM;show(u.cps++#[]++w.cps)=u.cps++w.cps;simp
 let g1:=yQ o E e2 (Zc _) (kY C);let Z:=yQ o E Y (Yw _) m0;let g3:=yQ o E Y (Yw _) (kY C);rw[e4]at Z;calc{X,aa (aZ (by lia)) {X,?_}};k_is;calc aa (aZ (by rw[bu];lia)) {X,X,aa (aZ (by lia)) {X,aa (aZ (by lia)) {X,?_}}};k_is;calc aa (aZ (by rw[bu];lia)) ?_;let B:(b++[Ob.lst [D.str (u++(⟨#[c]⟩:Str)++v),.str (u++w),.str (u++(⟨#[c]⟩:Str)++w)]])[Zd b]?=aD (Ob.lst ([u++(⟨#[c]⟩:Str)++v,u++w,u++(⟨#[c]⟩:Str)++w].map D.str)):=au;let L:=J.thenSm (Sm.app b [Ob.lst [D.str (u++(⟨#[c]⟩:Str)++v),.str (u++w),.str (u++(⟨#[c]⟩:Str)++w)]]);let pN:Zd b≠p:=by let:=J.pot.lt;lia
 generalize b++[Ob.lst [D.str (u++(⟨#[c]⟩:Str)++v),.str (u++w),.str (u++(⟨#[c]⟩:Str)++w)]]=S5 at *;generalize Zd b=N at *;k_is;calc{rfl,aw (k:=k) L.pot (by decide) (by decide) λa S6 a0 a1 O=>?_};let f:=O.kp _ _ pN B;let z:=L.trans O;let e0:a=((0:Nat):Int)\/a=((1:Nat):Int)\/a=((2:Nat):Int):=by lia
 rcases e0 with rfl |rfl |rfl
 .calc aa (fk f rfl) ?_;exact q _ _ z (g1.up (by lia) (by lia))
 .calc aa (fk f rfl) ?_;exact q _ _ z (Z.up (by lia) (by lia))
 .calc aa (fk f rfl) ?_;exact q _ _ z (g3.up (by lia) (by lia))
def Cr(hw:cZ w=a8)(h:inN l):(rnL (ao (aU w l))).2<=6:=by
 rw[<-StrLaws.join_split (aU w l) ⟨#[32]⟩,show Txt.split (aU w l) ⟨#[32]⟩=w::l.map bB from kT hw h];refine im (c:=32) (l:=[]) rfl (λd hd=>?_) λz hz=>?_
 .let:d=32:=by simpa[ao] using hd
  subst this;rfl
 .calc Zy (Gy _) ?_;rw[bG];rcases Zl.mp hz with rfl |hz
  .exact Ar hw
  .let{i,H,rfl}:=ZF.mp hz;let:=iP (h i H)
   lia
def AE(h:SkN K):Ms (al K) 918 6:=by
 let L:=i7 h;calc{Gu h,Gs h,?_};rw[<-StrLaws.join_split (al K) ⟨#[10]⟩,show Txt.split (al K) ⟨#[10]⟩=(lnK K).map aK from jy h];refine im (c:=10) (l:=[]) rfl (λd hd=>?_) λz b=>?_
 .let:d=10:=by simpa[ao] using hd
  subst this;rfl
 .let{y,H,rfl}:=ZF.mp b;exact Cr (fh y.1 (L y H).w).1 (L y H).n
def qV(h:z.length<=2):∀ys:List Str,(Str.join z ys).length<=2 * LW ys
 |[]=>Z5 _
 |[y]=>by rw[bN];show y.length<=_;lia
 |y::Y::ys=>by
  let I:=qV h (Y::ys);rw[bN];show(y++z++Str.join z (Y::ys)).length<=_;rw[bu,bu]
  lia
def AF{n r c:Nat}(b:Ms x n r)(g:ao z=c::l)(hl:z.length<=2)(hd:∀c∈ao z,c < 128/\cH c=a9):Ms (Txt.replace x " " z) (2 * n+2) r:=by
 rw[show Txt.replace x " " z=Str.join z (Txt.split x ⟨#[32]⟩) from StrLaws.replace_one x z 32];let f:∀y∈Txt.split x ⟨#[32]⟩,Ms y n r:=λy h=>b.piece h;calc{pr (λc H=>(hd c H).1) λy h=>(f y h).asc,?_,im g (λc H=>(hd c H).2) λy h=>(f y h).run};let:=qV hl (Txt.split x ⟨#[32]⟩);rw[vQ]at this;let:=b.len
 lia
abbrev Tx(x:Str):Prop:=Ms x 3900 300
def Q5(h:SkN K):Tx (al K):=(AE h).up (by decide) (by decide)
def AG{c:Nat}(h:Ms x 918 6)(hc:c < 128):Tx ((⟨#[c]⟩:Str)++x):=((kY hc).app h).up (by decide) (by decide)
def AH{c:Nat}(h:Ms x 918 6)(hc:c < 128):Tx (x++(⟨#[c]⟩:Str)):=(h.app (kY hc)).up (by decide) (by decide)
def Q6:Tx "" := {(λc h=>absurd (show c∈([]:List Nat) from h) ZM),Z5 _,Z5 _}
def Q7(h:Ms x 918 6):Tx (Txt.replace x " " "\t"):=(AF (c:=9) (l:=[]) h rfl (by decide) (by decide +kernel)).up (by decide) (by decide)
def Q8(h:Ms x 918 6):Tx (Txt.replace x " " "  "):=(AF (c:=32) (l:=[32]) h rfl (by decide) (by decide +kernel)).up (by decide) (by decide)
abbrev cI(x:Str):List Str:=[x++("\n" : Str),("\n" : Str)++x,x++(" " : Str),("\t" : Str)++x, ""]
abbrev eA(x:Str):List Str:=[Txt.replace x " " "\t",Txt.replace x " " "  "]
def Q9(h:Ms x 918 6):∀ y∈cI x++eA x,Tx y:=λy H=>by
 simp! [cI,eA,Z3,Yb,Zl,ZM,or_false]at H;rcases H with rfl |rfl |rfl |rfl |rfl |rfl |rfl
 .exact AH (c:=10) h (by decide)
 .exact AG (c:=10) h (by decide)
 .exact AH (c:=32) h (by decide)
 .exact AG (c:=9) h (by decide)
 .exact Q6
 .exact Q7 h
 .exact Q8 h
def AI(h:u c S=aD (a,S))(H:v c S=aD (b,S))(g:f a b S=aD (d,S)):cF f u v c S=aD (d,S):=by
 delta cF;rw [h];show bnd (v c S) _=_;rw [H];exact g
def jz(H:u b S=aD (a,S))(h:v b S=aD (c,S)):aX u v b S=aD (a::c,S):=by
 delta aX;rw [H];show bnd (v b S) _=_;rw [h];rfl
def LZ(h:v c S=aD (b,S))(hl:b.length<=1000):bg (cu v) c S=aD (.ref S.length,S++[.lst b]):=by
 delta bg cu;rw [h];show bnd (if b.length<=1000 then aD (b,S) else aT) _=_;rw [if_pos hl];rfl
def L0{i:Nat}(h:bn i b S=aD (.str x,S))(hl:x.length<=1048576):xUn (fG y z) (bn i) b S=aD (.str (Txt.replace x y z),S):=by
 delta xUn;rw [h];exact if_pos hl
def Ra{C:Calls}{H:Nat->Nat}{n:Nat}{v g y z B o j f u c:Option D}{x:Str}{Q:Fl->Rho->Sto->Prop}(h:x.length<=2000)
  (q:Q .nx [v,g,y,z,aD (.str x),aD (.ref (S.length+2)),o,j,f,u,c] (S++[.lst ((cI x).map D.str)]++[.lst ((eA x).map D.str)]++[.lst ((cI x++eA x).map D.str)])) :
  OkS (evS C H (n+9) (.rp 5 4 "\n" [.b .add (.str "\n") (.v 4),.b .add (.v 4) (.str " "),.b .add (.str "\t") (.v 4),.str ""] " " "\t" "  ") [v,g,y,z,aD (.str x),B,o,j,f,u,c] S) Q:=by
 let l1:Str.length ("\n" : Str)=1:=rfl;let l2:Str.length (" " : Str)=1:=rfl;let l3:Str.length ("\t" : Str)=1:=rfl
 let e:evS C H (n+9) (.rp 5 4 "\n" [.b .add (.str "\n") (.v 4),.b .add (.v 4) (.str " "),.b .add (.str "\t") (.v 4),.str ""] " " "\t" "  ") [v,g,y,z,aD (.str x),B,o,j,f,u,c] S=aD (.nx,[v,g,y,z,aD (.str x),aD (.ref (S.length+2)),o,j,f,u,c],S++[.lst ((cI x).map D.str)]++[.lst ((eA x).map D.str)]++[.lst ((cI x++eA x).map D.str)]):=by
  show fD (fT (bg (cu (aX (cF cJ (bn 4) (xC (.str "\n"))) (aX (cF (bv .add) (xC (.str "\n")) (bn 4)) (aX (cF (bv .add) (bn 4) (xC (.str " "))) (aX (cF (bv .add) (xC (.str "\t")) (bn 4)) (aX (xC (.str "")) iS))))))) (.n 5)) (fT (cF cJ (bn 5) (bg (cu (aX (xUn (fG " " "\t") (bn 4)) (aX (xUn (fG " " "  ") (bn 4)) iS))))) (.n 5)) _ _=_
  let M:∀ S,bg (cu (aX (cF cJ (bn 4) (xC (.str "\n"))) (aX (cF (bv .add) (xC (.str "\n")) (bn 4)) (aX (cF (bv .add) (bn 4) (xC (.str " "))) (aX (cF (bv .add) (xC (.str "\t")) (bn 4)) (aX (xC (.str "")) iS)))))) [v,g,y,z,aD (.str x),B,o,j,f,u,c] S=aD (.ref S.length,S++[.lst ((cI x).map D.str)]):=λS=>
   LZ (jz (AI rfl rfl (aZ (by lia))) (jz (AI rfl rfl (aZ (by lia))) (jz (AI rfl rfl (aZ (by lia))) (jz (AI rfl rfl (aZ (by lia))) (jz rfl rfl))))) (show 5<=1000 by decide)
  let L:∀ S (B:Option D),bg (cu (aX (xUn (fG " " "\t") (bn 4)) (aX (xUn (fG " " "  ") (bn 4)) iS))) [v,g,y,z,aD (.str x),B,o,j,f,u,c] S=aD (.ref S.length,S++[.lst ((eA x).map D.str)]):=λS B=>
   LZ (jz (L0 rfl (by lia)) (jz (L0 rfl (by lia)) rfl)) (show 2<=1000 by decide)
  delta fD fT;rw [M];dsimp!;rw [mL,if_pos (by show 5 < 11;decide),Zp];dsimp!;delta cF;rw [show bn 5 (Y3 [v,g,y,z,aD (.str x),B,o,j,f,u,c] 5 (aD (.ref S.length))) (S++[.lst ((cI x).map D.str)])=aD (.ref S.length,S++[.lst ((cI x).map D.str)]) from rfl];show (match bnd (bg (cu (aX (xUn (fG " " "\t") (bn 4)) (aX (xUn (fG " " "  ") (bn 4)) iS))) [v,g,y,z,aD (.str x),aD (.ref S.length),o,j,f,u,c] (S++[.lst ((cI x).map D.str)])) (λb I=>cJ (.ref S.length) b I) with |none=>aT |some (d,S1)=>(aE (.n 5) d [v,g,y,z,aD (.str x),aD (.ref S.length),o,j,f,u,c]).map λE=>(Fl.nx,E,S1))=_;rw[L]
  let J:cJ (.ref S.length) (.ref (S++[Ob.lst ((cI x).map D.str)]).length) (S++[Ob.lst ((cI x).map D.str)]++[Ob.lst ((eA x).map D.str)])=aD (.ref (S++[Ob.lst ((cI x).map D.str)]++[Ob.lst ((eA x).map D.str)]).length,S++[Ob.lst ((cI x).map D.str)]++[Ob.lst ((eA x).map D.str)]++[Ob.lst ((cI x).map D.str++(eA x).map D.str)]):=by
   let:=j9 (S:=S++[Ob.lst ((cI x).map D.str)]++[Ob.lst ((eA x).map D.str)]) (Sm.app _ _ _ _ au) au (xs:=(cI x).map D.str) (ys:=(eA x).map D.str) (by rw[Za,Za];exact(show 5+2<=100000 by decide))
   simpa only[bv] using this
  show(match cJ (.ref S.length) (.ref (S++[Ob.lst ((cI x).map D.str)]).length) (S++[Ob.lst ((cI x).map D.str)]++[Ob.lst ((eA x).map D.str)]) with |none=>aT |some (d,S1)=>(aE (.n 5) d [v,g,y,z,aD (.str x),aD (.ref S.length),o,j,f,u,c]).map λE=>(Fl.nx,E,S1))=_;rw[J];dsimp!;rw[mL,if_pos (by show 5 < 11;decide),Zp,Zi,Zi,Zu];rfl
 rw[e];exact Ta.mpr q
abbrev Lap(l:Nat)(y:Str):Prop:=if l=0 then Ms y 918 6 else if l=1 then Ms y 1896 72 else Ms y 3852 204
def Rb{l:Nat}(h:Lap l y):Tx y:=by
 delta Lap at h;split at h
 .exact h.up (by decide) (by decide)
 .split at h
  .exact h.up (by decide) (by decide)
  .exact h.up (by decide) (by decide)
def GZ{l:Nat}(h:Lap l y)(hl:l < 2):∃n r,Ms y n r/\n<=3900/\∀z,Ms z (2 * n+60) (2 * r+60)->Lap (l+1) z:=by
 let e:l=0\/l=1:=by lia
 rcases e with rfl |rfl
 .exact{918,6,h,by decide,λz H=>H}
 .exact{1896,72,h,by decide,λz H=>H}
def main(ns:List Int)(hn:ns.length<=63):∃u,evC ae 40 44 [.ref 0] [.frz (ns.map D.int)]=aD (.bl a8,u):=by
 let key:Ok (evC ae (39+1) 44 [.ref 0] [.frz (ns.map D.int)]) λd _=>d = .bl a8:=by
  calc Vs (d:=zW) (ρ:=[aD (.ref 0),aT,aT,aT,aT,aT,aT,aT,aT,aT,aT]) rfl rfl ?_;dsimp![zW,Lx];k_is;let lq:aC dR (.ref 0) [Ob.frz (ns.map D.int)]=aD (.int ns.length,[Ob.frz (ns.map D.int)]):=by simp![aC,am,az,List.getElem?_cons_zero,Zp,dR,Za]
  calc aa lq ?_;k_is
  obtain⟨c,hc,c20⟩:∃c:Nat,(if (if (8:Int) < ns.length then (8:Int) else ns.length) > 1 then (if (8:Int) < ns.length then (8:Int) else ns.length) else 1)=(c:Int)/\c<=8:=by
   refine{(if (if (8:Int) < ns.length then (8:Int) else ns.length) > 1 then (if (8:Int) < ns.length then (8:Int) else ns.length) else 1).toNat,?_,?_}
   .split <;> split <;> lia
   .split <;> split <;> lia
  rw[hc];calc{by simp![lim,bAE,decide_eq_true_eq];lia,?_};rw[ZL];refine qM (by lia) (λi C u=>u[0]?=aD (Ob.frz (ns.map D.int))/\∃a b c d e f g h j l,C=[aD (.ref 0),a,b,c,d,e,f,g,h,j,l]) (λi C S1 hi I=>?_) (λC S1 I=>?_) ⟨rfl,aT,aT,aT,aT,aT,aT,aT,aT,aT,aT,rfl⟩
  .let{h0,a,b,c',d,e,f,g,h,j,l,rfl}:=I;calc{_,rfl,?_};k_is;rw[Int.zero_add];calc{rfl,KB (k:=38) h0 λx=>?_};k_is;calc{rfl,QV (k:=38) λn=>?_};k_is;let pt:Pot (Zd S1) (S1++[Ob.lst [D.int n]]):=⟨n,au⟩;let n0:0≠Zd S1:=λz=>by rw[Yo.mp z.symm]at h0;simp at h0
   let h1:(S1++[Ob.lst [D.int n]])[0]?=aD (Ob.frz (ns.map D.int)):=Sm.app _ _ _ _ h0;generalize S1++[Ob.lst [D.int n]]=S2 at *;generalize Zd S1=p at *;calc{rfl,Gc (k:=35) pt λtm ta tg tf sk S3 d3 tsk U=>?_};let{K,eK,Y}:=yI U;rw[eK]at U tsk;obtain rfl:=yJ tsk;let X:∀K,SkN K->∀S,gO (skD K) S=aD (.str (pyD (skD K)).shown,S):=λK h S=>QZ h;clear tsk eK;let tm:=AE Y;k_is;calc{rfl,pd (k:=38) Y λS4 s4=>?_};let d4:=d3.thenSm s4;k_is;calc Ra (Zy tm.len (by decide)) ?_;let tl:S4.length<=S4.length+2:=Nat.le_add_right _ _
   let at7:(S4++[Ob.lst ((cI (al K)).map D.str)]++[Ob.lst ((eA (al K)).map D.str)]++[Ob.lst ((cI (al K)++eA (al K)).map D.str)])[S4.length+2]?=aD (Ob.lst ((cI (al K)++eA (al K)).map D.str)):=by
    let:S4.length+2=(S4++[Ob.lst ((cI (al K)).map D.str)]++[Ob.lst ((eA (al K)).map D.str)]).length:=by rw[Zi,Zi];rfl
    rw[this];exact au
   let d7:=d4.thenSm ((Sm.app S4 [Ob.lst ((cI (al K)).map D.str)]).trans ((Sm.app _ [Ob.lst ((eA (al K)).map D.str)]).trans (Sm.app _ [Ob.lst ((cI (al K)++eA (al K)).map D.str)])));let pM:S4.length+2≠p:=by let:=d4.pot.lt;lia
   let lM:S2.length<=S4.length+2:=by
    let:S2.length<=S4.length:=by
     cases S2 with
     |nil=>exact Z5 _
     |cons o S2=>
      by_cases e:S2.length=p
      .let:=d4.pot.lt;rw[Zt];lia
      .obtain⟨o',ho⟩:∃o',(o::S2)[S2.length]?=aD o':={_,gEG (by rw[Zt];exact Xq _)};let:=(Zb.mp (d4.kp _ _ e ho)).1;rw[Zt];lia
    lia
   let tx0:=Q9 tm;let len7:(cI (al K)++eA (al K)).length=7:=rfl;generalize cI (al K)++eA (al K)=Z at *;generalize S4++[Ob.lst ((cI (al K)).map D.str)]++[Ob.lst ((eA (al K)).map D.str)]++[Ob.lst (Z.map D.str)]=S7 at *;generalize S4.length+2=M at *;clear d4 d3 tl s4;k_is;calc{rfl,?_};refine qM (by decide) (λv C u=>Dr p S2 u/\(∃Z:List Str,u[M]?=aD (Ob.lst (Z.map D.str))/\Z.length<=7+v/\∀z∈Z,Tx z)/\∃O T J,C=[aD (.ref 0),aD (.int (i:Int)),aD (.ref p),aD (skD K),aD (.str (al K)),aD (.ref M),O,T,J,j,l]) (λv C S8 hv I=>?_) (λC S8 I=>?_) ⟨d7,{Z,at7,by rw[len7];exact Zc _,tx0},f,g,h,rfl⟩
   .let{d8,⟨Z,at8,zl,ztx⟩,O,T,J,rfl}:=I;calc{_,rfl,?_};k_is;calc{rfl,aw (k:=38) d8.pot (by decide) (by decide) λr S9 r0 r1 d9=>?_};let at9:=d9.kp _ _ pM at8;let dd:=d8.trans d9;k_is;obtain⟨q,hq,q2⟩:∃q:Nat,1+r / 2=(q:Int)/\q<=2:={(1+r / 2).toNat,by lia,by lia};rw[hq,ZL];calc{by decide,by simp![lim,bAE,decide_eq_true_eq];lia,?_};refine qM (by lia) (λw C u=>Dr p S2 u/\u[M]?=aD (Ob.lst (Z.map D.str))/\∃y J,Lap w y/\C=[aD (.ref 0),aD (.int (i:Int)),aD (.ref p),aD (skD K),aD (.str (al K)),aD (.ref M),aD (.int (0+(v:Int))),aD (.str y),J,j,l]) (λw C E hw I=>?_) (λC E I=>?_) {dd,at9,al K,J,tm,rfl}
    .let{da,B,y,J,ly,rfl}:=I;calc{_,rfl,?_};k_is;calc{rfl,aw (k:=38) da.pot (by decide) (by decide) λr Sb r0 r1 db=>?_};let atb:=db.kp _ _ pM B;let{nn,rr,my,nl,step}:=GZ ly (by lia);let e0:r=0\/r=1:=by lia
     rcases e0 with rfl |rfl
     .show wC2 (.int 0) _ _;delta wC2;dsimp!;rw[show decide ((0:Int)=0)=a8 from rfl];k_is;calc{rfl,GW (k:=37) db.pot my nl λz Sc dc mz=>?_};k_is;exact{da.trans (db.trans dc),dc.kp _ _ pM atb,z,_,step z mz,rfl}
     .show wC2 (.int 1) _ _;delta wC2;dsimp!;rw[show decide ((1:Int)=0)=a9 from rfl];k_is;rw[show decide ((1:Int)=1)=a8 from rfl];k_is;calc{rfl,GY (k:=37) db.pot my nl λz Sc dc mz=>?_};k_is;exact{da.trans (db.trans dc),dc.kp _ _ pM atb,z,_,step z mz,rfl}
    .let{da,B,y,J,ly,rfl}:=I;k_is;calc{bq B,?_};k_is;rw[gk B (by rw[Za];let:v < 14:=hv;lia)];k_is;refine{gq da lM pM,{Z++[y],?_,by rw[Zi,ZO];lia,λz hz=>?_},_,_,_,rfl}
     .rw[Zq (Zb.mp B).1,Zu];rfl
     .rcases ZC.mp hz with hz |hz
      .exact ztx z hz
      .rw[Zw.mp hz];exact Rb ly
   .let{d8,⟨Z,at8,zl,ztx⟩,O,T,J,rfl}:=I;k_is;let sA:=Sm.app S8 [Ob.lst [D.str (al K)]]
    let cl:=j9 (S:=S8++[Ob.lst [D.str (al K)]]) (xs:=Z.map D.str) (ys:=[D.str (al K)]) (sA _ _ at8) au (by
     rw[Za,ZO];let:Z.length<=7+14:=zl
     lia)
    calc aa cl ?_;let atL:(S8++[Ob.lst [D.str (al K)]]++[Ob.lst (Z.map D.str++[D.str (al K)])])[Zd (S8++[Ob.lst [D.str (al K)]])]?=aD (Ob.lst ((Z++[al K]).map D.str)):=by rw[au,Zu];rfl
    let d9:=d8.thenSm (sA.trans (Sm.app _ [Ob.lst (Z.map D.str++[D.str (al K)])]));let pL:Zd (S8++[Ob.lst [D.str (al K)]])≠p:=by let:=d8.pot.lt;rw[Zi];lia
    generalize S8++[Ob.lst [D.str (al K)]]++[Ob.lst (Z.map D.str++[D.str (al K)])]=S9 at *;generalize Zd (S8++[Ob.lst [D.str (al K)]])=L at *
    let ut:∀z∈Z++[al K],Tx z:=λz hz=>by
     rcases ZC.mp hz with hz |hz
     .exact ztx z hz
     .rw[Zw.mp hz];exact Q5 Y
    let ul:(Z++[al K]).length<=22:=by rw[Zi,ZO];let:Z.length<=7+14:=zl;lia
    generalize Z++[al K]=us at *;clear at8 zl ztx cl sA at7 d7 tx0 len7;calc(show(az S9 L).isSome=a8/\_ from {by rw[aq atL];rfl,?_});refine cQ us.length (λv C u=>Dr p S2 u/\u[L]?=aD (Ob.lst (us.map D.str))/\∃O T J,C=[aD (.ref 0),aD (.int (i:Int)),aD (.ref p),aD (skD K),aD (.str (al K)),aD (.ref M),O,T,J,j,l]\/∃jj,C=[aD (.ref 0),aD (.int (i:Int)),aD (.ref p),aD (skD K),aD (.str (al K)),aD (.ref M),O,T,J,jj,l]) (by delta LF;lia) (λv C E hv I=>?_) (λC E I=>?_) {d9,atL,_,_,_,.inl rfl}
    .let{da,B,O,T,J,er}:=I;obtain⟨jj,rfl⟩:∃jj,C=[aD (.ref 0),aD (.int (i:Int)),aD (.ref p),aD (skD K),aD (.str (al K)),aD (.ref M),O,T,J,jj,l]:=er.elim (λe=>⟨_,e⟩) id;refine{.str us[v],_,?_,rfl,?_}
     .show(az E L).map (λds=>ds[v]?)=_;rw[aq B,Zp,Zn,gEG hv];rfl
     let tx:=ut _ (ZG hv);generalize us[v]=z at *;let{K',H}:=hyp z;k_is;refine{rfl,GS (k:=33) tx (by decide) (by decide) H (λnk Sb sb=>?_) λe1 e2 e3 Sb sb=>?_}
     .k_is;calc aa (show ay .is .non .non Sb=aD (.bl a8,Sb) from rfl) ?_;k_is;calc{rfl,mU (k:=29) tx (by decide) H (λ_ Sc sc=>?_) λe1 e2 e3=>absurd e3 (nk K' e1 e2)};let rpS:∀S,gO (.str "text") S=aD (.str (pyD (.str "text")).shown,S):=λS=>Cn;calc aa (rpS Sc) (aa (rpS Sc) ?_);k_is;rw[dF,af,beq_self_eq_true];k_is;calc{rfl,mU (k:=29) (Q5 Y) (by decide) (.inr ⟨Y,U,rfl⟩) (λnk=>absurd rfl (nk K Y U)) λ_ _ _ Sd sd=>?_};calc aa (X K Y Sd) (aa (X K Y Sd) ?_);k_is;rw[dF,af,beq_self_eq_true];k_is;let ss:=sb.trans (sc.trans sd);exact{da.thenSm ss,ss _ _ B,_,_,_,.inr ⟨_,rfl⟩}
     .k_is;calc aa (show ay .is (skD K') .non Sb=aD (.bl a9,Sb) from rfl) ?_;k_is;calc{rfl,mU (k:=29) tx (by decide) H (λnk=>absurd e3 (nk K' e1 e2)) λ_ _ _ Sc sc=>?_};calc aa (X K' e1 Sc) (aa (X K' e1 Sc) ?_);k_is;rw[dF,af,beq_self_eq_true];k_is;calc{rfl,mU (k:=29) (Q5 Y) (by decide) (.inr ⟨Y,U,rfl⟩) (λnk=>absurd rfl (nk K Y U)) λ_ _ _ Sd sd=>?_};calc aa (X K Y Sd) (aa (X K Y Sd) ?_);k_is;rw[dF,af,beq_self_eq_true];k_is;let ss:=sb.trans (sc.trans sd);exact{da.thenSm ss,ss _ _ B,_,_,_,.inr ⟨_,rfl⟩}
    .let{da,B,O,T,J,er}:=I;obtain⟨jj,rfl⟩:∃jj,C=[aD (.ref 0),aD (.int (i:Int)),aD (.ref p),aD (skD K),aD (.str (al K)),aD (.ref M),O,T,J,jj,l]:=er.elim (λe=>⟨_,e⟩) id;refine{?_,?_}
     .show(az E L).map (λds=>ds[us.length]?)=_;rw[aq B,Zp,ZH (by rw[Za];exact Zc _)]
     k_is;calc{_,rfl,?_};let w1:(E++[Ob.lst [D.str (al K)]]++[Ob.dic [kB 0] [D.str (al K)]]++[Ob.lst []])[Zd E]?=aD (Ob.lst [D.str (al K)]):=Sm.app _ _ _ _ (Sm.app _ _ _ _ au);let w2:(E++[Ob.lst [D.str (al K)]]++[Ob.dic [kB 0] [D.str (al K)]]++[Ob.lst []])[Zd (E++[Ob.lst [D.str (al K)]])]?=aD (Ob.dic [kB 0] [D.str (al K)]):=Sm.app _ _ _ _ au;let w3:(E++[Ob.lst [D.str (al K)]]++[Ob.dic [kB 0] [D.str (al K)]]++[Ob.lst []])[Zd (E++[Ob.lst [D.str (al K)]]++[Ob.dic [kB 0] [D.str (al K)]])]?=aD (Ob.lst []):=au;let db:=da.thenSm ((Sm.app E [Ob.lst [D.str (al K)]]).trans ((Sm.app _ [Ob.dic [kB 0] [D.str (al K)]]).trans (Sm.app _ [Ob.lst []])));generalize E++[Ob.lst [D.str (al K)]]++[Ob.dic [kB 0] [D.str (al K)]]++[Ob.lst []]=Sb at *;generalize Zd (E++[Ob.lst [D.str (al K)]]++[Ob.dic [kB 0] [D.str (al K)]])=N3 at *;generalize Zd (E++[Ob.lst [D.str (al K)]])=N2 at *;generalize Zd E=N1 at *
     let lo:∀ {n:Nat} {ds:List D} {S:Sto},S[n]?=aD (.lst ds)->dS .str (.ref n) S=aD (.bl a9,S):=λ{n ds S} h=>by
      delta dS tyN;simp![h];rfl
     let dc:∀ {n:Nat} {ks:List Key} {ds:List D} {S:Sto},S[n]?=aD (.dic ks ds)->dS .str (.ref n) S=aD (.bl a9,S):=λ{n ks ds S} h=>by
      delta dS tyN;simp![h];rfl
     let d8l:([D.non,D.bl a8,D.int 3,D.ref N1,D.tup [D.str (al K)],D.ref N2,D.ref N3,skD K]:List D).length<=100000:=(show 8<=100000 by decide)
     let hno:∀d∈[D.non,D.bl a8,D.int 3,D.ref N1,D.tup [D.str (al K)],D.ref N2,D.ref N3,skD K],∀u,Sm Sb u->dS .str d u=aD (.bl a9,u):=λd hd u s=>by
      simp![Zl,ZM,or_false]at hd;rcases hd with rfl |rfl |rfl |rfl |rfl |rfl |rfl |rfl
      .rfl
      .rfl
      .rfl
      .exact lo (s _ _ w1)
      .rfl
      .exact dc (s _ _ w2)
      .exact lo (s _ _ w3)
      .rfl
     generalize [D.non,D.bl a8,D.int 3,D.ref N1,D.tup [D.str (al K)],D.ref N2,D.ref N3,skD K]=ds at *;refine Ap d8l (λv C u=>Sm Sb u/\∃O T J jj l,C=[aD (.ref 0),aD (.int (i:Int)),aD (.ref p),aD (skD K),aD (.str (al K)),aD (.ref M),O,T,J,jj,l]) (λv d C u hd I=>?_) (λC u I=>?_) {Sm.refl _,_,_,_,_,_,rfl}
     .let{sm,O,T,J,jj,l,rfl}:=I;calc{_,rfl,?_};k_is;calc{rfl,GM (k:=29) (hno d (Zs hd) _ sm) λSc sc=>?_};k_is;rw[dF,af,beq_self_eq_true];k_is;exact{sm.trans sc,_,_,_,_,_,rfl}
     .let{sm,O,T,J,jj,l,rfl}:=I;k_is;exact{sm _ _ (db.kp _ _ n0 h1),_,_,_,_,_,_,_,_,_,_,rfl}
  .let{h0,a,b,c',d,e,f,g,h,j,l,rfl}:=I;k_is
 let{d,u,e,rfl}:=key;exact⟨u,e⟩
end Lw
theorem PySem.Challenge.cw_downrings_k72_texts_bent_anywhere_holds : PySem.Challenge.rw_downrings_k72_texts_bent_anywhere.Holds :=
 Lw.head Lw.main
