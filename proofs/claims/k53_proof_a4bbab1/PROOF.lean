import PyProof.Rows.All
import KE.KDictOf
import KE.KIsAll
import KE.KLam
import KE.KMinBuiltin
import KE.KNestM
import KE.KRevSl
import KE.KSortTup
import KE.KStateDown
import PySem.Challenge.RW_downrings_k53_least_stuck_and_least_send
set_option Elab.async false
set_option linter.all false
set_option maxRecDepth 100000
set_option maxHeartbeats 4000000
local macro_rules|`(abbrev $n:declId $s:optDeclSig $v:declVal)=>`(noncomputable def $n $s:optDeclSig $v:declVal)
local macro_rules|`(def $n:declId $s:optDeclSig $v:declVal)=>do let d:=⟨Lean.mkNode `Lean.Parser.Command.declSig #[s.raw[0],s.raw[1][0]]⟩;`(theorem $n $d $v:declVal)
open Option renaming some → aw,none → aD
open Bool renaming true → aN,false → aS
namespace Xobt
variable{P:Prop}
def ex1{p:A→Prop}(h:∃a,p a)(k:∀a,p a→P):P:=let⟨a,h⟩:=h;k a h
def ex2{p:A→B→Prop}(h:∃a b,p a b)(k:∀a b,p a b→P):P:=let⟨a,b,h⟩:=h;k a b h
def ex3{p:A→B→C→Prop}(h:∃a b c,p a b c)(k:∀a b c,p a b c→P):P:=let⟨a,b,c,h⟩:=h;k a b c h
def ex4{p:A→B→C→D→Prop}(h:∃a b c d,p a b c d)(k:∀a b c d,p a b c d→P):P:=let⟨a,b,c,d,h⟩:=h;k a b c d h
def ex5{p:A→B→C→D→E→Prop}(h:∃a b c d e,p a b c d e)(k:∀a b c d e,p a b c d e→P):P:=let⟨a,b,c,d,e,h⟩:=h;k a b c d e h
def ex6{p:A→B→C→D→E→F→Prop}(h:∃a b c d e f,p a b c d e f)(k:∀a b c d e f,p a b c d e f→P):P:=let⟨a,b,c,d,e,f,h⟩:=h;k a b c d e f h
def ex7{p:A→B→C→D→E→F→G→Prop}(h:∃a b c d e f g,p a b c d e f g)(k:∀a b c d e f g,p a b c d e f g→P):P:=let⟨a,b,c,d,e,f,g,h⟩:=h;k a b c d e f g h
def ex8{p:A→B→C→D→E→F→G→I→Prop}(h:∃a b c d e f g i,p a b c d e f g i)(k:∀a b c d e f g i,p a b c d e f g i→P):P:=let⟨a,b,c,d,e,f,g,i,h⟩:=h;k a b c d e f g i h
def ex9{p:A→B→C→D→E→F→G→I→J→Prop}(h:∃a b c d e f g i j,p a b c d e f g i j)(k:∀a b c d e f g i j,p a b c d e f g i j→P):P:=let⟨a,b,c,d,e,f,g,i,j,h⟩:=h;k a b c d e f g i j h
def ex10{p:A→B→C→D→E→F→G→I→J→L→Prop}(h:∃a b c d e f g i j l,p a b c d e f g i j l)(k:∀a b c d e f g i j l,p a b c d e f g i j l→P):P:=let⟨a,b,c,d,e,f,g,i,j,l,h⟩:=h;k a b c d e f g i j l h
def ex14{p:A→B→C→D→E→F→G→I→J→L→M→N→O→Q→Prop}(h:∃a b c d e f g i j l m n o q,p a b c d e f g i j l m n o q)(k:∀a b c d e f g i j l m n o q,p a b c d e f g i j l m n o q→P):P:=let⟨a,b,c,d,e,f,g,i,j,l,m,n,o,q,h⟩:=h;k a b c d e f g i j l m n o q h
def an2(h:a∧b)(k:a→b→P):P:=k h.1 h.2
def an3(h:a∧b∧c)(k:a→b→c→P):P:=k h.1 h.2.1 h.2.2
def an4(h:a∧b∧c∧d)(k:a→b→c→d→P):P:=k h.1 h.2.1 h.2.2.1 h.2.2.2
def an5(h:a∧b∧c∧d∧e)(k:a→b→c→d→e→P):P:=k h.1 h.2.1 h.2.2.1 h.2.2.2.1 h.2.2.2.2
def an6(h:a∧b∧c∧d∧e∧f)(k:a→b→c→d→e→f→P):P:=k h.1 h.2.1 h.2.2.1 h.2.2.2.1 h.2.2.2.2.1 h.2.2.2.2.2
def an7(h:a∧b∧c∧d∧e∧f∧g)(k:a→b→c→d→e→f→g→P):P:=k h.1 h.2.1 h.2.2.1 h.2.2.2.1 h.2.2.2.2.1 h.2.2.2.2.2.1 h.2.2.2.2.2.2
def an8(h:a∧b∧c∧d∧e∧f∧g∧i)(k:a→b→c→d→e→f→g→i→P):P:=k h.1 h.2.1 h.2.2.1 h.2.2.2.1 h.2.2.2.2.1 h.2.2.2.2.2.1 h.2.2.2.2.2.2.1 h.2.2.2.2.2.2.2
def an9(h:a∧b∧c∧d∧e∧f∧g∧i∧j)(k:a→b→c→d→e→f→g→i→j→P):P:=k h.1 h.2.1 h.2.2.1 h.2.2.2.1 h.2.2.2.2.1 h.2.2.2.2.2.1 h.2.2.2.2.2.2.1 h.2.2.2.2.2.2.2.1 h.2.2.2.2.2.2.2.2
def an10(h:a∧b∧c∧d∧e∧f∧g∧i∧j∧l)(k:a→b→c→d→e→f→g→i→j→l→P):P:=k h.1 h.2.1 h.2.2.1 h.2.2.2.1 h.2.2.2.2.1 h.2.2.2.2.2.1 h.2.2.2.2.2.2.1 h.2.2.2.2.2.2.2.1 h.2.2.2.2.2.2.2.2.1 h.2.2.2.2.2.2.2.2.2
def an13(h:a∧b∧c∧d∧e∧f∧g∧i∧j∧l∧m∧n∧o)(k:a→b→c→d→e→f→g→i→j→l→m→n→o→P):P:=k h.1 h.2.1 h.2.2.1 h.2.2.2.1 h.2.2.2.2.1 h.2.2.2.2.2.1 h.2.2.2.2.2.2.1 h.2.2.2.2.2.2.2.1 h.2.2.2.2.2.2.2.2.1 h.2.2.2.2.2.2.2.2.2.1 h.2.2.2.2.2.2.2.2.2.2.1 h.2.2.2.2.2.2.2.2.2.2.2.1 h.2.2.2.2.2.2.2.2.2.2.2.2
def in2{p:A→B→Prop}(a:A)(b:B)(h:p a b):∃a b,p a b:=⟨a,b,h⟩
def in3{p:A→B→C→Prop}(a:A)(b:B)(c:C)(h:p a b c):∃a b c,p a b c:=⟨a,b,c,h⟩
def in4{p:A→B→C→D→Prop}(a:A)(b:B)(c:C)(d:D)(h:p a b c d):∃a b c d,p a b c d:=⟨a,b,c,d,h⟩
def in5{p:A→B→C→D→E→Prop}(a:A)(b:B)(c:C)(d:D)(e:E)(h:p a b c d e):∃a b c d e,p a b c d e:=⟨a,b,c,d,e,h⟩
def in6{p:A→B→C→D→E→F→Prop}(a:A)(b:B)(c:C)(d:D)(e:E)(f:F)(h:p a b c d e f):∃a b c d e f,p a b c d e f:=⟨a,b,c,d,e,f,h⟩
def in7{p:A→B→C→D→E→F→G→Prop}(a:A)(b:B)(c:C)(d:D)(e:E)(f:F)(g:G)(h:p a b c d e f g):∃a b c d e f g,p a b c d e f g:=⟨a,b,c,d,e,f,g,h⟩
def in8{p:A→B→C→D→E→F→G→I→Prop}(a:A)(b:B)(c:C)(d:D)(e:E)(f:F)(g:G)(i:I)(h:p a b c d e f g i):∃a b c d e f g i,p a b c d e f g i:=⟨a,b,c,d,e,f,g,i,h⟩
def in9{p:A→B→C→D→E→F→G→I→J→Prop}(a:A)(b:B)(c:C)(d:D)(e:E)(f:F)(g:G)(i:I)(j:J)(h:p a b c d e f g i j):∃a b c d e f g i j,p a b c d e f g i j:=⟨a,b,c,d,e,f,g,i,j,h⟩
def in10{p:A→B→C→D→E→F→G→I→J→L→Prop}(a:A)(b:B)(c:C)(d:D)(e:E)(f:F)(g:G)(i:I)(j:J)(l:L)(h:p a b c d e f g i j l):∃a b c d e f g i j l,p a b c d e f g i j l:=⟨a,b,c,d,e,f,g,i,j,l,h⟩
def in12{p:A→B→C→D→E→F→G→I→J→L→M→N→Prop}(a:A)(b:B)(c:C)(d:D)(e:E)(f:F)(g:G)(i:I)(j:J)(l:L)(m:M)(n:N)(h:p a b c d e f g i j l m n):∃a b c d e f g i j l m n,p a b c d e f g i j l m n:=⟨a,b,c,d,e,f,g,i,j,l,m,n,h⟩
end Xobt
local macro_rules
|`(tactic|obtain⟨$ps,*⟩:=$e:term)=>do
 let ps:=ps.getElems
 let n:=ps.size
 if n<2 then Lean.Macro.throwUnsupported
 let I (s:String):Lean.MacroM (Lean.TSyntax `ident):=return Lean.mkIdent (Lean.Name.mkSimple s)
 let mut vs:Array (Lean.TSyntax `ident):=#[]
 let mut sb:Array (Lean.TSyntax `tactic):=#[]
 for p in ps do
  let y ← I s!"ξ{vs.size}"
  match p with
  |`(Lean.Parser.Tactic.rcasesPatLo|$x:ident)=>
   if x.getId==`rfl then
    vs:=vs.push y
    sb:=sb.push (← `(tactic|subst $y))
   else vs:=vs.push x
  |`(Lean.Parser.Tactic.rcasesPatLo|_)=>vs:=vs.push y
  |_=>Lean.Macro.throwUnsupported
 let z ← I "ξ"
 let w ← I "ζ"
 let N (s:String):=Lean.mkIdent (`Xobt++Lean.Name.mkSimple s)
 let mk (e:Lean.TSyntax `term)(c:Array (Lean.TSyntax `tactic)):Lean.MacroM (Lean.TSyntax `tactic):=do
  let mut al:=#[]
  for i in [0:n] do
   let k:=n-1-i
   let m:=n-k
   if k>16||m>18 then continue
   let a:=vs.extract 0 k
   let b:=vs.extract k n
   let E:=N s!"ex{k}"
   let A:=N s!"an{m}"
   al:=al.push (← if k==0 then `(tacticSeq|(refine $A $e λ$b*=>?_;$[$c]*)) else if m==1 then `(tacticSeq|(refine $E $e λ$vs*=>?_;$[$c]*)) else `(tacticSeq|(refine $E $e λ$a* $z=>$A $z λ$b*=>?_;clear $z;$[$c]*)))
  al:=al.push (← `(tacticSeq|fail))
  `(tactic|first $[| $al]*)
 let t ← mk e sb
 if e.raw.isIdent then
  let i:Lean.TSyntax `ident:=⟨e.raw⟩
  let s ← mk w (#[← `(tactic|clear $w)]++sb)
  `(tactic|first|(revert $i;intro $w:ident;$s:tactic)|$t:tactic)
 else return t
|`(tactic|exact⟨$ps,*⟩)=>do
 let ps:=ps.getElems
 let n:=ps.size
 if n<3 then Lean.Macro.throwUnsupported
 let mut al:=#[]
 for i in [1:n-1] do
  let k:=n-i
  if k>12 then continue
  let a:=ps.extract 0 k
  let b:=ps.extract k n
  let E:=Lean.mkIdent (`Xobt++Lean.Name.mkSimple s!"in{k}")
  let r ← if b.size==1 then pure b[0]! else `(⟨$b,*⟩)
  al:=al.push (← `(tacticSeq|exact $E $a* $r))
 `(tactic|first $[| $al]*)
|`(tactic|refine⟨$ps,*⟩)=>do
 let ps:=ps.getElems
 let n:=ps.size
 if n<3 then Lean.Macro.throwUnsupported
 let mut al:=#[]
 for i in [1:n-1] do
  let k:=n-i
  if k>12 then continue
  let a:=ps.extract 0 k
  let b:=ps.extract k n
  let E:=Lean.mkIdent (`Xobt++Lean.Name.mkSimple s!"in{k}")
  let r ← if b.size==1 then pure b[0]! else `(⟨$b,*⟩)
  al:=al.push (← `(tacticSeq|refine $E $a* $r))
 `(tactic|first $[| $al]*)
local macro_rules
|`(tactic|let $d:letDecl)=>do
 let q:=d.raw[0]
 let p:=q[0]
 let p:=if p.isOfKind Lean.choiceKind then p.getArgs.back! else p
 let rec go(x:Lean.Syntax):Nat->Lean.MacroM (Lean.TSyntax `rcasesPat)
  |0=>Lean.Macro.throwUnsupported
  |n+1=>do
   if x.isIdent then `(rcasesPat|$(⟨x⟩):ident) else
   if x.isOfKind `Lean.Parser.Term.hole then `(rcasesPat|_) else
   let s:=if x.isOfKind `Lean.Parser.Term.structInst then x[2][0].getSepArgs.map (·[0][0]) else x[1].getSepArgs
   if s.size==0 then Lean.Macro.throwUnsupported
   let a ← s.mapM λy=>do `(Lean.Parser.Tactic.rcasesPatLo|$(← go y n):rcasesPat)
   `(rcasesPat|⟨$a,*⟩)
 if p[0].isToken "{" then
  let r ← go p 9
  `(tactic|obtain $r:rcasesPat:=$(⟨q[4]⟩))
 else `(tactic|have $d:letDecl)
local macro_rules(kind:=«term{_}»)|x=>do let p:Array (Lean.TSyntax `term):=x[1].getSepArgs.map (⟨·⟩);`(⟨$p,*⟩)
local macro_rules|`(tactic|exact $t)=>do
 let x:=t.raw
 if x.isOfKind `«term{_}» then let p:Array (Lean.TSyntax `term):=x[1].getSepArgs.map (⟨·⟩);`(tactic|exact⟨$p,*⟩) else Lean.Macro.throwUnsupported
local macro_rules|`(tactic|refine $t)=>do
 let x:=t.raw
 if x.isOfKind `«term{_}» then let p:Array (Lean.TSyntax `term):=x[1].getSepArgs.map (⟨·⟩);`(tactic|refine⟨$p,*⟩) else Lean.Macro.throwUnsupported
local macro_rules(kind:=Lean.calcTactic)|x=>do let t:Lean.TSyntax `term:=⟨x[1][0][0]⟩;`(tactic|refine $t)
local macro_rules|`(~~~$s)=>`(($s).G.length)
local macro_rules|`($s⁻¹)=>`(($s).heap.objs.size)
local macro_rules|`(tactic|delta $[$x]*$[$l]?)=>`(tactic|unfold $[$x]*$[$l]?)
local macro_rules|`(tactic|simp!$[[$a,*]]?$[$l]?)=>`(tactic|simp only$[[$a,*]]?$[$l]?)
local macro_rules|`(tactic|dsimp!$[[$a,*]]?$[$l]?)=>`(tactic|dsimp only$[[$a,*]]?$[$l]?)
open List renaming length_map->Za,getElem?_eq_some_iff->Zb,mem_of_getElem?->Zd,length_append->Ze,mem_cons_of_mem->Zg,range->Zi,mem_cons_self->Zj,size_toArray->Zk,length->Zl,length_singleton->Zm,mem_cons->Zn,length_cons->Zo,getElem?_append_right->Zp,getElem?_map->Zq,getD_eq_getElem?_getD->Zr,getElem?_append_left->Zt,getElem?_eq_none->Zw,getElem?_set_ne->Zx,map_cons->Zy,mem_map->Zz,getElem?_concat_length->ZA,mem_append_right->ZB,length_range->ZC,map_append->ZF,mem_singleton->ZG,mem_filter->ZM,replicate->ZP,mem_range->ZQ,mem_append->ZR,map_map->ZS,getElem_mem->ZT,getElem?_set_self->ZV,mem_append_left->ZW,filter_cons->ZZ,map_nil->Z0,length_eq_zero_iff->Z1,getElem?_eq_none_iff->Z3,length_nil->Z4,take_succ_eq_append_getElem->Z6,pairwise_cons->Z7,append_nil->Z8,nodup_cons->Z9,length_set->Yb,all_eq_true->Yc,take_of_length_le->Yd,nodup_append->Ye,zip_cons_cons->Yg,length_take->Yi,mem_flatMap->Yj,append_assoc->Yk,reverse_cons->Yl,map_congr_left->Ym,getElem?_range->Yn,length_reverse->Yo,prefix_refl->Yp,drop->Yr,filterMap_cons->Ys,all_cons->Yt,any_cons->Yu,lookup_cons->Yv,take_length->Yx,mem_filterMap->Yy,prefix_append->YA,length_filter_le->YB,getElem?_set->YC,getElem?_of_mem->YF,getElem?_replicate->YH,length_drop->YI,eraseIdx_cons_succ->YJ,take_zero->YK,getElem?_cons_succ->YL,toArray->YO,find?_cons->YQ,ext_getElem?->YS,pairwise_map->YU,filter_congr->YV,mem_of_mem_take->YW,getLast?_append->YX,perm_ext_iff_of_nodup->YY,getElem_inj->Y1,drop_length->Y4,nodup_range->Y5,drop_eq_getElem_cons->Y6,filter_sublist->Y7,idxOf_lt_length_iff->Xa,filter_map->Xc,getLast?_cons->Xd,filter_append->Xe,nodup_nil->Xf,all_map->Xg,map_inj_left->Xi,filter_eq_nil_iff->Xj,flatMap_cons->Xk,drop_eq_nil_of_le->Xl,eraseIdxIfInBounds_toArray->Xm,countP_cons->Xo,mem_of_getLast?->Xq,perm_cons_erase->Xr,take_append_of_le_length->Xs,of_mem_zip->Xv,range_succ->Xw,length_zip->Xx,length_pos_iff->Xz,filter_eq_self->XB,take_length_add_append->XC,forIn_nil->XF,getElem?_take_of_lt->XJ,map_take->XM,any_eq_true->XN,not_mem_nil->XQ,cons_append->XR,sublist_cons_self->XX,nil_append->XZ,any_append->X1,length_replicate->X2,eq_nil_or_concat->X4,concat_eq_append->X5,mem_iff_getElem->X7,mem_erase_of_ne->Wb,toList_toArray->Wd,flatMap_append->We,filterMap_map->Wi,getElem_idxOf->Wl,getElem_range->Wn,filter_filter->Wo,take_sublist->Wq,any_map->Wr,map_snd_zip->WB,getElem_map->WD,forIn_cons->WE,take_succ->WK,take_left->WL,cons->WQ,sum->WW
open PySem.Heap renaming get?_push_of_some->Zc,get?_push_size->Zs,lt_size->Zv,get?_update_other->ZO,get?_update_self->Z5,size_update->Yw,size_push->Yz,get?_push_ne->Xh,get?_update_ne->Xy
open Nat renaming le_refl->Zf,lt_of_lt_of_le->ZD,ne_of_lt->ZH,lt_irrefl->ZI,le_trans->ZJ,sub_self->ZY,zero_le->Z2,lt_of_le_of_lt->Yh,lt_succ_of_lt->YD,zero_add->YE,pow_le_pow_right->YG,le_succ->YM,mul_le_mul_right->YZ,le_of_lt->Y0,lt_succ_self->Y2,le_add_right->Y3,add_assoc->Y8,le_of_succ_le->XG,succ_mul->XU,min_self->XV,not_lt_zero->XY,ne_of_gt->Wp,le_of_eq->Wt,succ_le_succ->Ww,le_max_right->Wx,min_eq_right->WC,le_max_left->WF,min_eq_left->WH,mul_le_mul->WM,lt_trans->WT,zero_mul->WU,log2_lt->WV,pow_pos->WX
open Bool renaming false_ne_true->Zh,false_eq_true->ZN,true_and->YR,or_false->Y9,or_eq_true->Xb,beq_eq_decide_eq->Xn,not_true->Xp,eq_iff_iff->Xu,false_and->XD,and_false->X8,and_eq_true_iff->Wa,false_bne->Wc,false_or->Wg,and_self->Wh,and_true->WN,or_assoc->WO
open Array renaming length_toList->Zu,forIn_toList->YN,toList_push->XH,getElem?_toList->X3,mem_toList_iff->X6,toArray_toList->X9,toList_append->Wf,append_empty->Wk,getElem_mem->Ws,toList_inj->Wy,toList_map->Wz,toList_zip->WA,size_push->WG
open Option renaming map_eq_some_iff->ZE,map_some->ZL,getD_some->ZX,isSome_iff_exists->Yq,isSome_map->YT,isSome_some->Wj,getD_none->Wv
open Int renaming toNat_natCast->ZK,le_refl->ZU,zero_add->XW,emod_lt_of_pos->Wm,le_trans->Wu,emod_nonneg->WJ,ediv_one->WR
open PyProof.Rows renaming boot_list->WY,boot_max->WZ,boot_min->W0,boot_range->W1,boot_sorted->W2,boot_tuple->W3,callWith_type1->W4,slot_tuple_getitem->W5
open PySem renaming Arguments->W6,Comprehension->W9,FuncData->VH,HeapKind->VI,IsRangeIter->VJ,NameKind->VL,Operator->VM,Spec->VU,TriplesOk->VV,assignEach->On,assignInOrder->Os,attributeBase->OF,backToKw->ON,behindInMarks->OR,binaryOp->OS,bindArgs->No,bindName->NE,bootBuiltins->NO,boot_len->Zaa,builtinsNs->Zab,callSpecialIfBoundUnlessNone?->Zac,call_meets->Zad,cellsFrom->Zae,closureFor->Zaf,codeAmong->Zag,codeAny_builtin->Zah,codeAny_mono->Zai,compareOp->Zaj,concat_meets->Zak,defaultsOf->Zal,eqIsQuiet->Zam,eqIsQuiet_byValue->Zan,evalPart_none->Zao,foldedSetIterable->Zap,intItems->Zaq,intItems_at->Zar,isSubtype_tuple_tuple->Zas,keywordEach->Zat,letOwnedTupleGo->Zau,mainGlobals->Zav,mem_of_lookup->Zaw,newFunctionEnv->Zax,noFill_tuple_add->Zay,not_mem_of_deeper->Zaz,numAt_eq->ZaA,nums_intItems->ZaB,old_kept->ZaC,plainId_quiet->ZaD,pushCells->ZaE,pushCells_keeps->ZaF,rangeSize_one->ZaG,richCompare->ZaH,richCompare_meets_room->ZaI,seqIndex_neg->ZaJ,seqIndex_of->ZaK,seqItems?->ZaL,seq_tuple_add->ZaM,sizeLine_eq->ZaN,sliceBounds->ZaO,starEach->ZaP,strLen_append->ZaQ,swappedStores->ZaR,swapsWith->ZaS,swapsWithSole->ZaT,sysModules->ZaU,textFrom->ZaV,updateSeq->ZaW,wpAny_Call_Name_kw->ZaX,wpAny_attempt->ZaY,wpAny_bind->ZaZ,wpAny_call_entry->Za0,wpAny_comprehension_free->Za1,wpAny_dictEntries->Za2,wpAny_dictEpoch->Za3,wpAny_execs_nil->Za4,wpAny_field->Za5,wpAny_forIn_list->Za6,wpAny_getItem_list_slice->Za7,wpAny_holding->Za8,wpAny_isInstance->Za9,wpAny_isOneOf_keyiter->Zba,wpAny_letGo->Zbb,wpAny_loadPart'->Zbc,wpAny_mono->Zbd,wpAny_newFunctionEnv_cells->Zbe,wpAny_newList->Zbf,wpAny_newObj_type->Zbg,wpAny_notOrdered_dict->Zbh,wpAny_of_eq->Zbi,wpAny_passesOwn->Zbj,wpAny_pure->Zbk,wpAny_pyIter_list->Zbl,wpAny_pyIter_rangeiter->Zbm,wpAny_pyIter_tuple->Zbn,wpAny_pyNext_list_end->Zbo,wpAny_pyNext_list_item->Zbp,wpAny_pyNext_range_end->Zbq,wpAny_rule->Zbr,wpAny_seqItems->Zbs,wpAny_sequenceKey->Zbt,wpAny_specialOf->Zbu,wpAny_standAt->Zbv,wpAny_truthy_bool->Zbw,wpAny_tryCatch->Zbx,wpAny_typeNameOfWhole_keyiter->Zby,wpAny_typeOf->Zbz,wpAny_updateSeq->ZbA
open PySem.Calls renaming Name_function_global->W7,callWith_builtin->W8
open PySem.F renaming args_dict_keyiterator_next_1->Vg,args_object_init_2->Vh,args_tuple_add_2->Vi,args_tuple_iterator_next_1->Vj,args_tuple_lt_2->Vk,entry_dict_keyiterator_next->Vl,entry_max_loop->Vm,entry_min_loop->Vn,entry_tuple_add->Vo,entry_tuple_iterator_next->Vp,entry_tuple_lt->Vq,plainAttrs_list->Vr,plainAttrs_tuple->Vs,plain_max_loop->Vt,plain_min_loop->Vu,slot_NoneType_hash->Vv,slot_dict_keyiterator_next->Vw,slot_list_append->Vx,slot_list_insert->Vy,slot_list_pop->Vz,slot_tuple_add->VA,slot_tuple_count->VB,slot_tuple_index->VC,slot_tuple_iterator_next->VE,slot_tuple_lt->VF,type_list_pop->VG
open PySem.PyData renaming depth->VN,depthAll->VO,depthKv->VP,shown->VQ,shownAll->VR
open PySem.SeqAt renaming EqAt->VS,RcNeAt->VT
open PySem.W renaming CodeHd->VW,Frag->VX,cellsFrom_some->VY,codeIn->VZ,findIn->V0,fnOf->V1,instObj->V2,kas_item->V3,kas_sort->V4,kat_kind->V5,kat_run->V6,kat_snds->V7,keepIn->V8,kia_one->V9,kitOne->Up,kitx_dict->UP,kitx_list->Tm,lookIn->ST,methodObj->Rw,plainGet->RW,rangeSize_down->Pi,tabObj->Of
def gEG {b:Type _}{l:List b}{i:Nat}(h:i < l.length):l[i]?=aw l[i]:=List.getElem?_eq_getElem h
def bAE (a b:Bool):((a && b)=aN)=(a=aN/\b=aN):=Bool.and_eq_true a b
namespace L2
open PySem PySem.Spec PyProof.Rows
@[inline]abbrev Key:=Sum Int Str
abbrev io:Key->Value->Bool
 |.inl k,v=>Value.isInt k v
 |.inr x,v=>Value.isStrOf x v
abbrev Q1(w:World):Key->Int
 |.inl k=>hashInt k
 |.inr x=>hashStr w x
def ax:∀ {k:Key} {v:Value},io k v=aN->(∃i t,k=Sum.inl i/\v=Value.int i t)\/(∃x t,k=Sum.inr x/\v=Value.str x t)
 |.inl i,v,h=>by
  let{t,e}:=Value.isInt_shape (k:=i) (v:=v) h;exact .inl ⟨i,t,rfl,e⟩
 |.inr x,v,h=>by
  let{t,e}:=Value.isStrOf_shape (x:=x) (v:=v) h;exact .inr ⟨x,t,rfl,e⟩
def zA(i:Int)(t:Tok):io (.inl i) (.int i t)=aN:=by simp[io,Value.isInt]
def zB(x:Str)(t:Tok):io (.inr x) (.str x t)=aN:=by simp[io,Value.isStrOf]
def Lv(a b:Int):decide ((Sum.inl a:Key)=Sum.inl b)=(a == b):=by
 by_cases e:a=b
 .subst e;simp
 .let h:¬ (Sum.inl a:Key)=Sum.inl b:=λq=>e (Sum.inl.inj q);rw[decide_eq_false h];exact(beq_eq_false_iff_ne.mpr e).symm
def Lx(a b:Str):decide ((Sum.inr a:Key)=Sum.inr b)=decide (a=b):=by
 by_cases e:a=b
 .subst e;simp
 .let h:¬ (Sum.inr a:Key)=Sum.inr b:=λq=>e (Sum.inr.inj q);rw[decide_eq_false h,decide_eq_false e]
def Bi(a:Int)(b:Str):decide ((Sum.inl a:Key)=Sum.inr b)=aS:=decide_eq_false (λq=>nomatch q)
def Bj(a:Str)(b:Int):decide ((Sum.inr a:Key)=Sum.inl b)=aS:=decide_eq_false (λq=>nomatch q)
abbrev bf(prog:Program)(w:World):PySem.KeyKind prog w Key where
 is:=io
 hash:=Q1 w
 inj:=λv a b d hb=>by
  rcases ax d with ⟨i,t,rfl,rfl⟩ |⟨x,t,rfl,rfl⟩
  .rcases ax hb with ⟨j,u,rfl,e⟩ |⟨y,u,rfl,e⟩
   .injection e with e1 _;rw[e1]
   .exact nomatch e
  .rcases ax hb with ⟨j,u,rfl,e⟩ |⟨y,u,rfl,e⟩
   .exact nomatch e
   .injection e with e1 _;rw[e1]
 byValue:=λk v h=>by
  rcases ax h with ⟨i,t,rfl,rfl⟩ |⟨x,t,rfl,rfl⟩ <;> rfl
 pyHash:=λc h=>by
  rcases ax c with ⟨i,t,rfl,rfl⟩ |⟨x,t,rfl,rfl⟩
  .exact wpAny_pyHash_int h
  .exact wpAny_pyHash_str h
 eqBool:=λf c h=>by
  rcases ax f with ⟨i,t,rfl,rfl⟩ |⟨x,t,rfl,rfl⟩
  .rcases ax c with ⟨j,u,rfl,rfl⟩ |⟨y,u,rfl,rfl⟩
   .rw[Lv]at h;exact wpAny_eqBool_int h
   .rw[Bi]at h;exact SeqAt.EqAt.int_str i t y u _ _ _ _ h
  .rcases ax c with ⟨j,u,rfl,rfl⟩ |⟨y,u,rfl,rfl⟩
   .rw[Bj]at h;exact SeqAt.EqAt.str_int x t j u _ _ _ _ h
   .rw[Lx]at h;exact wpAny_eqBool_str h
 «strs»:=λk x t v h=>by
  rcases ax h with ⟨i,u,rfl,e⟩ |⟨y,u,rfl,e⟩
  .exact nomatch e
  .injection e with e1 _;subst e1;cases v <;> rfl
def tv(prog:Program)(w:World)(i:Int)(t:Tok):(bf prog w).is (.inl i) (.int i t)=aN:=zA i t
def tw(prog:Program)(w:World)(x:Str)(t:Tok):(bf prog w).is (.inr x) (.str x t)=aN:=zB x t
inductive NK where
 |non |one (k:Key) |tup (ks:List Key)
 deriving DecidableEq
def FB{d c:Type}{F G:d->c->Prop}(f:∀a b,F a b->G a b):∀ {l:List d} {m:List c},Paired F l m->Paired G l m
 |_,_,.nil=>.nil
 |_,_,.cons h t=>.cons (f _ _ h) (FB f t)
section
variable {P:Program} {w:World}
abbrev NIs(P:Program)(w:World)(h:Heap):NK->Value->Prop
 |.non,v=>v = .none
 |.one k,v=>io k v=aN
 |.tup ks,v=>∃b,v = .ref b/\IsTupleKey (bf P w) h ks b
abbrev eD(P:Program)(w:World)(h:Heap)(ks:List NK)(a:Addr):Prop:=∃o I n,h.get? a=aw o/\o.cls = .type "tuple"/\o.data = .seq I n/\Paired (NIs P w h) ks I.toList
def NIs.inj{h:Heap}{x y:NK}{v:Value}(d:NIs P w h x v)(c:NIs P w h y v):x=y:=by
 cases x with
 |non=>
  cases d;cases y with
  |non=>rfl
  |one k=>rcases ax c with ⟨i,t,_,e⟩ |⟨i,t,_,e⟩ <;> cases e
  |tup ks=>let{b,e,_}:=c;cases e
 |one k=>
  rcases ax d with ⟨i,t,rfl,rfl⟩ |⟨i,t,rfl,rfl⟩
  .cases y with
   |non=>cases c
   |one f=>rw[(bf P w).inj (Value.int i t) (Sum.inl i) f (by exact d) (by exact c)]
   |tup ks=>let{b,e,_}:=c;cases e
  .cases y with
   |non=>cases c
   |one f=>rw[(bf P w).inj (Value.str i t) (Sum.inr i) f (by exact d) (by exact c)]
   |tup ks=>let{b,e,_}:=c;cases e
 |tup ks=>
  let{b,rfl,hb}:=d;cases y with
  |non=>cases c
  |one k=>rcases ax c with ⟨i,t,_,e⟩ |⟨i,t,_,e⟩ <;> cases e
  |tup l=>let{B,e,j}:=c;cases e;rw[hb.inj j]
def pW{h:Heap}:∀ {x y:List NK} {v:List Value},Paired (NIs P w h) x v->Paired (NIs P w h) y v->x=y
 |[],y,_,.nil,hy=>by cases hy;rfl
 |a::x,y,_,.cons h1 t1,hy=>by
  cases hy with
  |cons b T=>rw[h1.inj b,pW t1 T]
def eD.inj{h:Heap}{a:Addr}{x y:List NK}(j:eD P w h x a)(l:eD P w h y a):x=y:=by
 let{o,c,n,k,_,hd,hi}:=j;let{o',I,p,f,_,b,d}:=l;obtain rfl:o=o':=Option.some.inj (k.symm.trans f);rw[hd]at b;injection b with h1 _;subst h1;exact pW hi d
def NIs.keeps{h h':Heap}{k:NK}{v:Value}{d:Addr}{o:Obj}{c E}(x:NIs P w h k v)(f:h.get? d=aw o)(hd:o.data = .dict c E)(hs:Heap.SameBut d h h'):NIs P w h' k v:=by
 cases k with
 |non=>exact x
 |one k=>exact x
 |tup ks=>let{b,e,hb}:=x;exact{b,e,hb.keeps f hd hs}
def eD.keeps{h h':Heap}{ks:List NK}{a d:Addr}{o:Obj}{l E}(x:eD P w h ks a)(j:h.get? d=aw o)(hd:o.data = .dict l E)(hs:Heap.SameBut d h h'):eD P w h' ks a:=by
 let{O,I,n,c,k,b,hi}:=x
 let f:a≠d:=by
  rintro rfl;obtain rfl:O=o:=Option.some.inj (c.symm.trans j);rw[hd]at b;exact nomatch b
 exact{O,I,n,(hs.2 a f).trans c,k,b,FB (λ_ _ z=>z.keeps j hd hs) hi}
def eD.typeIs{s:Shared}{ks:List NK}{a:Addr}(x:eD P w s.heap ks a):s.TypeIs (.ref a) "tuple" := let ⟨o,_,_,ho,hc,_⟩:=x;⟨o,ho,hc⟩
abbrev nkH(P:Program)(w:World):NK->Int
 |.non=>0xFCA86420
 |.one k=>Q1 w k
 |.tup ks=>tupleKeyHash (bf P w) ks
abbrev nkN:NK->Nat
 |.tup ks=>ks.length+1
 |_=>1
def zC{A:Around}{E:Value->Shared->Prop}{s:Shared}{Q:Int->Shared->Prop}(h:Q 0xFCA86420 {s with toks:=s.toks+1}):wpAny (model P w) A (pyHash .none) Q E s:=by
 let b:s.TypeIs .none "NoneType" := typeIs_none s;delta pyHash;let c:[Value.none].any Value.onHeap=aS:=rfl;calc ZaZ ?_;rw[cRoomFor,if_neg (by rw[c];exact Zh)];calc Zbk ?_;calc ZaZ (Zbu b F.slot_NoneType_hash.lookup ?_);show wpAny _ _ (if (aw (Value.builtin "NoneType.__hash__") == aw Value.none)=aN then _ else _) Q E s;rw[if_neg (by rw[beq_builtin_none];exact Zh)];calc ZaZ (Zbu b F.slot_NoneType_hash.lookup ?_);show wpAny _ _ (Zac .none "__hash__" _ >>= _) Q E s;calc ZaZ (wpAny_callSpecialIfBoundUnlessNone?_slot b Vv (Za0 Vv b F.entry_NoneType_hash ?_ (F.args_NoneType_hash_1 _)));show wpAny _ _ (slotArgs "__hash__" 0 _ >>= λ_=>retInt 0xFCA86420) _ _ s;calc ZaZ (m:=slotArgs "__hash__" 0 _) (Zbk ?_);calc wpAny_ret_mkInt ?_;show wpAny _ _ (pure (0xFCA86420:Int)) Q E _;exact Zbk h
def Bk{A:Around}{E:Value->Shared->Prop}{s:Shared}{k:NK}{v:Value}{Q:Int->Shared->Prop}(d:A.units < cLine)(c:NIs P w s.heap k v)(h:Q (nkH P w k) {s with toks:=s.toks+nkN k}):wpAny (model P w) A (pyHash v) Q E s:=by
 cases k with
 |non=>cases c;exact zC h
 |one k=>exact(bf P w).pyHash c h
 |tup ks=>let{b,rfl,hb}:=c;exact wpAny_pyHash_tuple d hb h
abbrev Bl(P:Program)(w:World)(ks:List NK):Int:=reduceHash (Builtin.Tuple.tupleHashOf (ks.map (nkH P w)))
abbrev tz(ks:List NK):Nat:=(ks.map nkN).sum
def zD{A:Around}{E:Value->Shared->Prop}{s:Shared}{ks:List NK}{a:Addr}{Q:Int->Shared->Prop}(p:A.units+1 < cLine)(l:eD P w s.heap ks a)(h:Q (Bl P w ks) {s with toks:=s.toks+(tz ks+1)}):wpAny (model P w) A (pyHash (.ref a)) Q E s:=by
 let d:=l.typeIs;let{o,I,n,q,_,hd,hi}:=l;delta pyHash
 first |delta pyHashByItsType |skip
 first |refine ZaZ (wpAny_cRoomFor_or (.inr (by omega)) ?_) |skip
 calc ZaZ (Zbu d F.slot_tuple_hash.lookup ?_);show wpAny _ _ (if (aw (Value.builtin "tuple.__hash__") == aw Value.none)=aN then _ else _) Q E s;rw[if_neg (by rw[beq_builtin_none];exact Zh)];calc ZaZ (Zbu d F.slot_tuple_hash.lookup ?_);show wpAny _ _ (Zac (.ref a) "__hash__" _ >>= _) Q E s;calc ZaZ (wpAny_callSpecialIfBoundUnlessNone?_slot d F.slot_tuple_hash (Za0 F.slot_tuple_hash d F.entry_tuple_hash ?_ (F.args_tuple_hash_1 _)));show wpAny _ _ (Builtin.Tuple.tupleItemsOf (.ref a) >>= _) _ _ s;calc ZaZ (wpAny_tupleItemsOf q hd ?_);calc ZaZ ?_;rw[<-YN]
 refine Za6 _
  (λc (b:Array Int) j=>∃done left,ks=done++left/\Paired (NIs P w s.heap) left c/\b.toList=done.map (nkH P w)/\j={s with toks:=s.toks+tz done})
  _ ?_ ?_ _ _ ⟨[],ks,rfl,hi,rfl,rfl⟩
 .rintro x c b j ⟨done,left,rfl,hl,hb,rfl⟩;cases hl with
  |@cons k _ ks' _ h1 hl'=>
   refine ZaZ (Bk p h1 ?_)
   first
    |exact Zbk {done++[k],ks',by simp,hl',by simp[hb],by simp[tz,Y8]}
    |exact ZaZ (Zbk (Zbk {done++[k],ks',by simp,hl',by simp[hb],by simp[tz,Y8]}))
 .rintro b j ⟨done,left,rfl,hl,hb,rfl⟩;cases hl;rw[Z8]at h;show wpAny _ _ (retInt (Builtin.Tuple.tupleHashOf b.toList)) _ _ _;rw[hb];calc wpAny_ret_mkInt ?_;show wpAny _ _ (if (decide (-(2:Int) ^ 63<=Builtin.Tuple.tupleHashOf (done.map (nkH P w))) && decide (Builtin.Tuple.tupleHashOf (done.map (nkH P w)) < 2 ^ 63))=aN then _ else _) Q E _;delta Bl reduceHash at h;by_cases f:(decide (-(2:Int) ^ 63<=Builtin.Tuple.tupleHashOf (done.map (nkH P w))) && decide (Builtin.Tuple.tupleHashOf (done.map (nkH P w)) < 2 ^ 63))=aN
  .rw[if_pos f];rw[if_pos f]at h;exact Zbk (by simpa[Y8] using h)
  .rw[if_neg f];rw[if_neg f]at h;exact ZaZ (Zbr (Zbk (by simpa[Y8] using h)))
def vW{b:Type}[DecidableEq b](x y:List b):((Zi (min x.length y.length)).all (λj=>decide (x[j]?=y[j]?)) && x.length == y.length)=decide (x=y):=by
 rw[Xu,bAE,Yc,decide_eq_true_eq,beq_iff_eq];constructor
 .rintro⟨h,c⟩;calc YS λj=>?_;by_cases d:j < x.length
  .exact of_decide_eq_true (h j (ZQ.mpr (by omega)))
  .rw[Zw (by omega),Zw (by omega)]
 .rintro rfl;exact⟨λj _=>decide_eq_true rfl,rfl⟩
def tB{A:Around}{s:Shared}{x y:Key}{u v:Value}(c:io x u=aN)(h:io y v=aN):VS A s u v (decide (x=y)):=by
 rcases ax c with ⟨i,t,rfl,rfl⟩ |⟨a,t,rfl,rfl⟩
 .rcases ax h with ⟨j,r,rfl,rfl⟩ |⟨b,r,rfl,rfl⟩
  .rw[show decide ((Sum.inl i:Key)=Sum.inl j)=(i == j) by simp[Xn]];exact .int_int i t j r
  .rw[Bi];exact .int_str i t b r
 .rcases ax h with ⟨j,r,rfl,rfl⟩ |⟨b,r,rfl,rfl⟩
  .rw[Bj];exact .str_int a t j r
  .rw[show decide ((Sum.inr a:Key)=Sum.inr b)=(a == b) by simp[Xn]];exact .str_str a t b r
def mE{h:Heap}:∀ {ks:List Key} {b:List Value},ItemsAre (bf P w) ks b->∀ (j:Nat) v,b[j]?=aw v->∃k,ks[j]?=aw k/\io k v=aN
 |_,_,.nil,j,v,e=>by simp at e
 |_,_,.cons h1 t,0,v,e=>by cases e;exact⟨_,rfl,h1⟩
 |_,_,.cons h1 t,j+1,v,e=>mE (h:=h) t j v (by simpa using e)
def Bm{A:Around}{s:Shared}{x y:NK}{u v:Value}(q:A.units < cLine)(B:NIs P w s.heap x u)(l:NIs P w s.heap y v):VS A s u v (decide (x=y)):=by
 let tup:∀ {ks:List Key} {b:Addr},IsTupleKey (bf P w) s.heap ks b->∃I:Array Value,s.heap.IsTuple b I/\ItemsAre (bf P w) ks I.toList:=λ⟨o,I,n,T,E,hd,hi⟩=>⟨I,⟨o,T,E,n,hd⟩,hi⟩;cases x with
 |non=>
  cases B;cases y with
  |non=>cases l;exact .same _
  |one k=>
   rw[decide_eq_false (λz=>nomatch z)];rcases ax l with ⟨i,t,rfl,rfl⟩ |⟨i,t,rfl,rfl⟩
   .exact .none_int i t
   .exact .none_str i t
  |tup ks=>
   let{b,rfl,hb}:=l;let{I,f,_}:=tup hb;rw[decide_eq_false (λz=>nomatch z)];exact .none_tuple f q
 |one k=>
  cases y with
  |non=>
   cases l;rw[decide_eq_false (λz=>nomatch z)];rcases ax B with ⟨i,t,rfl,rfl⟩ |⟨i,t,rfl,rfl⟩
   .exact .int_none i t
   .exact .str_none i t
  |one C=>
   rw[show decide (NK.one k=NK.one C)=decide (k=C) by simp];exact tB B l
  |tup ks=>
   let{b,rfl,hb}:=l;let{I,f,_}:=tup hb;rw[decide_eq_false (λz=>nomatch z)];rcases ax B with ⟨i,t,rfl,rfl⟩ |⟨i,t,rfl,rfl⟩
   .exact .int_tuple i t f q
   .exact .str_tuple i t f q
 |tup ks=>
  let{b,rfl,hb}:=B;let{I,f,L}:=tup hb;cases y with
  |non=>cases l;rw[decide_eq_false (λz=>nomatch z)];exact .tuple_none f q
  |one k=>
   rw[decide_eq_false (λz=>nomatch z)];rcases ax l with ⟨i,t,rfl,rfl⟩ |⟨i,t,rfl,rfl⟩
   .exact .tuple_int i t f q
   .exact .tuple_str i t f q
  |tup d=>
   let{c,rfl,E}:=l;let{p,U,J}:=tup E;by_cases e:b=c
   .subst e;rw[hb.inj E,decide_eq_true rfl];exact .same _
   .refine .of_refs e ?_
    let z:=SeqAt.RcAt.tuples (e:=λj=>decide (ks[j]?=d[j]?)) f U q λj O Q=>by
     let{k,e1,m1}:=mE (h:=s.heap) L j I[j] (by simp[O]);let{C,X,Y}:=mE (h:=s.heap) J j p[j] (by simp[Q]);rw[e1,X,show decide (aw k=aw C)=decide (k=C) by simp];exact tB m1 Y
    let l1:ks.length=I.size:=L.length.trans Zu;let Z:d.length=p.size:=J.length.trans Zu;rw[<-l1,<-Z,vW]at z;rw[show decide (NK.tup ks=NK.tup d)=decide (ks=d) by simp];exact z
def mF{h:Heap}:∀ {ks:List NK} {b:List Value},Paired (NIs P w h) ks b->∀ (j:Nat) v,b[j]?=aw v->∃k,ks[j]?=aw k/\NIs P w h k v
 |_,_,.nil,j,v,e=>by simp at e
 |_,_,.cons h1 t,0,v,e=>by cases e;exact⟨_,rfl,h1⟩
 |_,_,.cons h1 t,j+1,v,e=>mF t j v (by simpa using e)
def FC{A:Around}{E:Value->Shared->Prop}{s:Shared}{x y:List NK}{a b:Addr}{Q:Bool->Shared->Prop}(C:A.units+1 < cLine)(p:eD P w s.heap x a)(q:eD P w s.heap y b)(h:Q (decide (x=y)) s):wpAny (model P w) A (eqBool (.ref a) (.ref b)) Q E s:=by
 by_cases e:a=b
 .subst e;rw[p.inj q,decide_eq_true rfl]at h;exact SeqAt.EqAt.same _ _ _ _ _ h
 .let{o,c,n,U,X,hd,v}:=p;let{O,I,T,d,f,l,u}:=q
  let z:=SeqAt.RcAt.tuples (A:=A) (e:=λj=>decide (x[j]?=y[j]?)) (show s.heap.IsTuple a c from ⟨o,U,X,n,hd⟩) (show s.heap.IsTuple b I from ⟨O,d,f,T,l⟩) (by omega) λj J L=>by
   let{k,e1,m1}:=mF v j c[j] (by simp[J]);let{B,Y,Z}:=mF u j I[j] (by simp[L]);rw[e1,Y,show decide (aw k=aw B)=decide (k=B) by simp];exact Bm C m1 Z
  let l1:x.length=c.size:=v.length.trans Zu;let l2:y.length=I.size:=u.length.trans Zu;rw[<-l1,<-l2,vW]at z;exact SeqAt.EqAt.of_refs e z _ _ _ _ h
def zE{A:Around}{E:Value->Shared->Prop}{s:Shared}{x:NK}{v:Value}{Q:Bool->Shared->Prop}(f:NIs P w s.heap x v)(h:Q aN s):wpAny (model P w) A (Zam 7 v) Q E s:=by
 cases x with
 |non=>cases f;rw[Zan _ rfl];exact Zbk h
 |one k=>rw[Zan _ ((bf P w).byValue k v (by exact f))];exact Zbk h
 |tup ks=>
  let{b,rfl,y}:=f;let q:=y.typeIs;let{o,I,n,z,_,hd,hi}:=y;delta Zam;calc ZaZ (Zbu q F.slot_tuple_eq.lookup ?_);show wpAny _ _ (isInstance (.ref b) (.type "tuple") >>= _) _ _ s;calc ZaZ (Za9 q Zas ?_);simp![Xp,ZN,if_false];calc ZaZ (Zbs z hd ?_);calc ZaZ ?_;show wpAny _ _ (forIn I _ _) _ _ s;rw[<-YN];refine Za6 _ (λc r l=>r.1=aD/\l=s/\∀v∈c,carriedByValue v=aN) _ ?_ ?_ _ _ ⟨rfl,rfl,hi.byValue⟩
  .rintro v c r l ⟨j,rfl,d⟩;rw[Zan _ (d v Zj)];calc ZaZ (Zbk ?_);simp![Xp,ZN,if_false];exact Zbk ⟨rfl,rfl,λu p=>d u (Zg _ p)⟩
  .rintro⟨r1,r2⟩ l ⟨j,rfl,_⟩;simp! at j;subst j;exact Zbk h
def vX{A:Around}{E:Value->Shared->Prop}{s:Shared}{ks:List NK}{a:Addr}{Q:Bool->Shared->Prop}(j:eD P w s.heap ks a)(h:Q aN s):wpAny (model P w) A (Zam 8 (.ref a)) Q E s:=by
 let f:=j.typeIs;let{o,I,n,k,_,hd,hi}:=j;delta Zam;calc ZaZ (Zbu f F.slot_tuple_eq.lookup ?_);show wpAny _ _ (isInstance (.ref a) (.type "tuple") >>= _) _ _ s;calc ZaZ (Za9 f Zas ?_);simp![Xp,ZN,if_false];calc ZaZ (Zbs k hd ?_);calc ZaZ ?_;show wpAny _ _ (forIn I _ _) _ _ s;rw[<-YN];refine Za6 _ (λb r d=>r.1=aD/\d=s/\∃left,Paired (NIs P w s.heap) left b) _ ?_ ?_ _ _ ⟨rfl,rfl,ks,hi⟩
 .rintro v b r d ⟨c,rfl,left,hl⟩;cases hl with
  |cons l p=>
   calc ZaZ (zE l ?_);simp![Xp,ZN,if_false];exact Zbk ⟨rfl,rfl,_,p⟩
 .rintro⟨r1,r2⟩ d ⟨c,rfl,_⟩;simp! at c;subst c;exact Zbk h
end
abbrev e9(P:Program)(w:World):VI P w (List NK) where
 is:=eD P w
 hash:=Bl P w
 draws:=λks=>tz ks+1
 room:=λA=>A.units+1 < cLine
 inj:=λc d=>c.inj d
 keeps:=λx j hd hs=>x.keeps j hd hs
 pyHash:=λb f h=>zD b f h
 eqBool:=λb c d h=>FC b c d h
 quiet:=λf h=>vX f h
inductive V where
 |non |bl (b:Bool) |int (i:Int) |str (x:Str) |byt (b:Array UInt8) |flt (b:UInt64) |ref (a:Addr) |ty (n:String)
 deriving DecidableEq
abbrev aE:V->Value->Prop
 |.non,u=>u=Value.none
 |.bl b,u=>u=Value.bool b
 |.int i,u=>∃t,u=Value.int i t
 |.str x,u=>∃t,u=Value.str x t
 |.byt b,u=>∃t,u=Value.bytes b t
 |.flt b,u=>∃t,u=Value.float b t
 |.ref a,u=>u=Value.ref a
 |.ty n,u=>u=Value.type n
@[inline]abbrev aJ:List V->List Value->Prop:=Paired aE
def aJ.length{xs:List V}{u:List Value}(r:aJ xs u):xs.length=u.length:=Paired.length r
def aJ.get:∀ {xs:List V} {U:List Value} {i:Nat} {x:V},aJ xs U->xs[i]?=aw x->∃u,U[i]?=aw u/\aE x u
 |_,_,_,_,.nil,e=>by simp at e
 |_,_,0,_,.cons r _,e=>by simp at e;subst e;exact⟨_,rfl,r⟩
 |_,_,i+1,x,.cons _ t,e=>by
  let{u,b,h}:=aJ.get (i:=i) (x:=x) t (by simpa using e);exact{u,by simpa using b,h}
def aJ.set{x:V}{u:Value}(r:aE x u):∀ {xs:List V} {U:List Value} (i:Nat),aJ xs U->aJ (xs.set i x) (U.set i u)
 |_,_,_,.nil=>.nil
 |_,_,0,.cons _ t=>.cons r t
 |_,_,i+1,.cons q t=>.cons q (aJ.set r i t)
def aJ.append:∀ {xs y:List V} {u b:List Value},aJ xs u->aJ y b->aJ (xs++y) (u++b)
 |_,_,_,_,.nil,s=>s
 |_,_,_,_,.cons r t,s=>.cons r (aJ.append t s)
def aJ.take:∀ {xs:List V} {u:List Value} (n:Nat),aJ xs u->aJ (xs.take n) (u.take n)
 |_,_,0,_=>.nil
 |_,_,_+1,.nil=>.nil
 |_,_,n+1,.cons r t=>.cons r (aJ.take n t)
def aJ.drop:∀ {xs:List V} {u:List Value} (n:Nat),aJ xs u->aJ (xs.drop n) (u.drop n)
 |_,_,0,r=>r
 |_,_,_+1,.nil=>.nil
 |_,_,n+1,.cons _ t=>aJ.drop n t
abbrev vY:Option V->Option Value->Prop
 |some v,aw u=>aE v u
 |none,aD=>True
 |_,_=>False
abbrev KV{b:Type}:List (b×V)->List (b×Value)->Prop:=Paired λ(p:b×V) (q:b×Value)=>p.1=q.1/\aE p.2 q.2
abbrev kV:Key->V
 |.inl i=>.int i
 |.inr x=>.str x
abbrev ra(h:Heap)(a:Addr)(I:Array Value):Prop:=∃o,h.get? a=aw o/\o.cls = .type "tuple"/\∃n,o.data = .seq I n/\o.dict=aD
def ra.isTup(x:ra h a items):IsTup h a items:=let ⟨o,e,c,n,d,_⟩:=x;⟨o,e,c,n,d⟩
def ra.lt(x:ra h a I):a < h.objs.size:=x.isTup.lt
def ra.new(h:Heap)(items:Array Value):ra (h.push {cls:=.type "tuple",data:=.seq items}) h.objs.size items:={_,Zs _ rfl,rfl,_,rfl,rfl}
inductive HO where
  |lst (xs:List V)
  |tup (xs:List V)
  |dK (kvs:List (Key×V)) |dT (kvs:List (List NK×V))
  |set (S:Int->Bool) (n:Nat)
  |ins (C dx:Addr) (fs:List (Str×V))
  |own (x:Addr)
  |xd (fs:List (Str×V))
  |met (f x:Addr)
  |rng (lo hi:Int)
  |frz (o:Obj) (u:HO)
  |tbl (ps:Array Value)
  |ext (φ:Heap->Prop)
@[inline]abbrev Hp:=Addr->Option HO
abbrev upd(H:Hp)(a:Addr)(o:HO):Hp:=λb=>if b=a then aw o else H b
def az{H:Hp}{a:Addr}{o:HO}:upd H a o a=aw o:=by delta upd;rw[if_pos rfl]
def ae{H:Hp}{a b:Addr}{o:HO}(h:b≠a):upd H a o b=H b:=by delta upd;rw[if_neg h]
def pX{H:Hp}{a b:Addr}{o u:HO}(h:H a=aw o)(h':H b=aw u)(d:o≠u):a≠b:=by
 intro e;subst e;rw[h]at h';exact d (Option.some.inj h')
def aP{H:Hp}{a b:Addr}{o:HO}(h:H a=aw o)(h':H b=aD):a≠b:=by
 intro e;subst e;rw[h]at h';cases h'
abbrev vZ(H:Hp):NK->V->Prop
 |.non,x=>x = .non
 |.one k,x=>x=kV k
 |.tup ks,x=>∃b,x = .ref b/\H b=aw (.tup (ks.map kV))
abbrev iH(H:Hp)(ks:List NK)(a:Addr):Prop:=∃X,H a=aw (.tup X)/\Paired (vZ H) ks X
def vZ.mono{H c:Hp}(d:∀b xs,H b=aw (.tup xs)->c b=aw (.tup xs)){k:NK}{x:V}(h:vZ H k x):vZ c k x:=by
 cases k with
 |non=>exact h
 |one k=>exact h
 |tup ks=>let{b,e,q}:=h;exact{b,e,d _ _ q}
def iH.mono{H d:Hp}{ks:List NK}{a:Addr}(h:iH H ks a)(c:∀b xs,H b=aw (.tup xs)->d b=aw (.tup xs)):iH d ks a:=
 let ⟨xs,e,r⟩:=h;{xs,c _ _ e,FB (λ_ _ z=>z.mono c) r}
section
variable (P:Program) (w:World)
abbrev ba(H:Hp)(h:Heap)(a:Addr):HO->Prop
 |.lst X=>X.length<=sizeLine/\∃ (I:List Value) (n:Nat),aJ X I/\h.get? a=aw {cls:=.type "list",data:=.seq I.toArray n}
 |.tup X=>X.length<=sizeLine/\∃I:List Value,aJ X I/\ra h a I.toArray
 |.dK kvs=>kvs.length<=sizeLine/\(a == ZaU)=aS/\∃d,KV kvs d/\h.DictOf (bf P w) a d
 |.dT kvs=>kvs.length<=sizeLine/\(a == ZaU)=aS/\∃X:List (List NK×Addr×Value),
   Paired (λ(p:List NK×V) (q:List NK×Addr×Value)=>p.1=q.1/\iH H p.1 q.2.1/\aE p.2 q.2.2) kvs X ∧
   ∃o E k,h.get? a=aw o/\o.ExactDict/\o.data = .dict E k/\E.toList=X.map (entryOfKey (e9 P w))/\(X.map (·.1)).Nodup
 |.set S n=>h.SetOf (intKind P w) a S n
 |.ins C dx fs=>H dx=aw (.own a)/\fs.length<=1000/\dx≠a/\h.get? a=aw (V2 C dx) ∧
   ∃b,h.Ns1 dx b/\(∀f,vY (fs.lookup f) (b f))/\PySem.Within b (fs.map (·.1))
 |.own _=>∃o,h.get? a=aw o
 |.xd fs=>∃b,h.Ns1 a b/\∀f,vY (fs.lookup f) (b f)
 |.rng lo hi=>∃t u v,h.get? a=aw {cls:=.type "range",data:=.fields #[.int lo t,.int hi u,.int 1 v]}
 |.frz o u=>h.get? a=aw o/\ba H h a u
 |.tbl ps=>h.get? a=aw {cls:=.none,data:=.fields ps}
 |.met f x=>h.get? a=aw (Rw (.ref f) (.ref x))
 |.ext φ=>φ h/\(∃o,h.get? a=aw o)/\∀c j:Heap,φ c->(∀o,c.get? a=aw o->j.get? a=aw o)->φ j
abbrev HOk(H:Hp)(h:Heap):Prop:=∀a o,H a=aw o->ba P w H h a o
end
section
variable {P:Program} {w:World} {H g:Hp} {h h':Heap} {a:Addr} {o:HO}
def ba.lt(x:ba P w H h a o):a < h.objs.size:=by
 cases o with
 |lst X=>let{_,_,_,_,e}:=x;exact Zv e
 |tup X=>let{_,_,_,p}:=x;exact p.lt
 |dK k=>let{_,_,_,_,o,_,_,e,_}:=x;exact Zv e
 |dT k=>let{_,_,_,_,o,_,_,e,_}:=x;exact Zv e
 |set S n=>let{o,_,_,_,e,_}:=x;exact Zv e
 |ins C d fs=>let{_,_,_,e,_}:=x;exact Zv e
 |own y=>let{_,e}:=x;exact Zv e
 |xd fs=>let{_,⟨_,_,_,e,_⟩,_}:=x;exact Zv e
 |rng lo hi=>let{_,_,_,e}:=x;exact Zv e
 |frz ob u=>let{e,_}:=x;exact Zv e
 |tbl ps=>exact Zv (show h.get? a=aw _ from x)
 |met f y=>exact Zv (show h.get? a=aw _ from x)
 |ext b=>let{_,⟨_,e⟩,_}:=x;exact Zv e
def Paired.mapP{d c:Type}{F G:d->c->Prop}:∀ {L:List d} {l:List c},Paired F L l->(∀a b,F a b->G a b)->Paired G L l
 |_,_,.nil,_=>.nil
 |_,_,.cons r t,f=>.cons (f _ _ r) (Paired.mapP t f)
def ba.stay(x:ba P w H h a o)(k:∀b u,(b=a\/H b=aw (.own a))->h.get? b=aw u->h'.get? b=aw u)
  (Q:∀b,H b=aw (.own a)->g b=aw (.own a)) (U:∀b xs,H b=aw (.tup xs)->g b=aw (.tup xs)):ba P w g h' a o:=by
 induction o with
 |lst xs=>let{z,I,n,r,e}:=x;exact{z,I,n,r,k _ _ (.inl rfl) e}
 |tup xs=>let{z,I,r,ob,e,c}:=x;exact{z,I,r,ob,k _ _ (.inl rfl) e,c}
 |dK l=>let{z,y,J,r,ob,j,E,e,c}:=x;exact{z,y,J,r,ob,j,E,k _ _ (.inl rfl) e,c}
 |dT l=>
  let{z,y,xs,r,ob,j,E,e,c}:=x;exact{z,y,xs,Paired.mapP r λp q z=>{z.1,z.2.1.mono U,z.2.2},ob,j,E,k _ _ (.inl rfl) e,c}
 |set S n=>let{ob,j,E,t,e,c}:=x;exact{ob,j,E,t,k _ _ (.inl rfl) e,c}
 |ins C X fs=>
  let{d,z,ne,e,B,⟨O,j,E,T,c⟩,r}:=x;exact{Q _ d,z,ne,k _ _ (.inl rfl) e,B,{O,j,E,k _ _ (.inr d) T,c},r}
 |own y=>let{ob,e}:=x;exact{ob,k _ _ (.inl rfl) e}
 |xd fs=>let{B,⟨O,j,E,e,c⟩,r}:=x;exact⟨B,{O,j,E,k _ _ (.inl rfl) e,c},r⟩
 |rng lo hi=>let{t,u,v,e}:=x;exact{t,u,v,k _ _ (.inl rfl) e}
 |frz ob u L=>let{e,q}:=x;exact{k _ _ (.inl rfl) e,L q}
 |tbl ps=>
  let e:h.get? a=aw {cls:=.none,data:=.fields ps}:=x;show h'.get? a=aw {cls:=.none,data:=.fields ps};exact k a _ (.inl rfl) e
 |met f y=>
  let e:h.get? a=aw (Rw (.ref f) (.ref y)):=x;show h'.get? a=aw (Rw (.ref f) (.ref y));exact k a _ (.inl rfl) e
 |ext Y=>let{p,⟨o,e⟩,st}:=x;exact{st _ _ p λo q=>k _ _ (.inl rfl) q,{o,k _ _ (.inl rfl) e},st}
def HOk.lt(x:HOk P w H h)(e:H a=aw o):a < h.objs.size:=(x a o e).lt
def HOk.fresh(x:HOk P w H h)(e:h.objs.size<=a):H a=aD:=by
 cases q:H a with
 |none=>rfl
 |some u=>exact absurd (ZD (x.lt q) e) (ZI _)
def HOk.kept(x:HOk P w H h)(k:∀b u,h.get? b=aw u->h'.get? b=aw u):HOk P w H h':=λa o e=>
 (x a o e).stay (λb u _ q=>k b u q) (λ_ q=>q) λ_ _ q=>q
def HOk.laid(x:HOk P w H h)(k:∀b u,h.get? b=aw u->h'.get? b=aw u)(f:h.objs.size<=a)(new:ba P w (upd H a o) h' a o):HOk P w (upd H a o) h':=λb u e=>by
 let d:=x.fresh f;by_cases hb:b=a
 .subst hb;rw[az]at e;cases e;exact new
 .rw[ae hb]at e;exact(x b u e).stay (λc v _ q=>k c v q) (λc q=>by rw[ae (aP q d)];exact q) λc X q=>by rw[ae (aP q d)];exact q
end
abbrev Rd(H:Hp)(a:Addr)(u:HO):Prop:=H a=aw u\/∃o,H a=aw (.frz o u)
def Rd.ok{P:Program}{w:World}{H:Hp}{h:Heap}{a:Addr}{u:HO}(r:Rd H a u)(x:HOk P w H h):ba P w H h a u:=by
 rcases r with r |⟨o,r⟩
 .exact x a u r
 .let{_,q}:=x a _ r;exact q
abbrev Mut:Option HO->Prop
 |some (.lst _)=>True
 |some (.dK _)=>True
 |some (.dT _)=>True
 |some (.set _ _)=>True
 |some (.ins _ _ _)=>True
 |some (.ext _)=>True
 |_=>False
section
variable {P:Program} {w:World} {H:Hp} {h h':Heap} {x e:Addr} {o:HO}
def HOk.write(ok:HOk P w H h)(mu:Mut (H x))(l:e=x\/H e=aw (.own x))(k:∀b u,b≠e->h.get? b=aw u->h'.get? b=aw u)(j:∃u,h'.get? e=aw u)
  (new:ba P w (upd H x o) h' x o):HOk P w (upd H x o) h':=λb u q=>by
 let n:∀c y,H c=aw (.own y)->c≠x:=λc y r z=>by subst z;rw[r]at mu;exact mu
 let f:∀c X,H c=aw (.tup X)->c≠x:=λc X r z=>by subst z;rw[r]at mu;exact mu
 by_cases hb:b=x
 .subst hb;rw[az]at q;cases q;exact new
 .rw[ae hb]at q;by_cases d:b=e
  .let Q:H b=aw (.own x):=by
    rcases l with z |z
    .exact absurd (d.trans z) hb
    .rw[d];exact z
   rw[q]at Q;cases Q;let{v,p}:=j;exact{v,by rw[d];exact p}
  .refine(ok b u q).stay (λc v hc r=>k c v ?_ r) (λc r=>by rw[ae (n c b r)];exact r) λc X r=>by rw[ae (f c X r)];exact r
   rcases hc with rfl |hc
   .exact d
   .rintro rfl;rcases l with z |z
    .exact n c b hc z
    .rw[hc]at z;cases z;exact hb rfl
end
structure Un(fs ex:List Addr)(H H':Hp)(h h':Heap):Prop where
 keep:∀b o,h.get? b=aw o->H b=aD->b∉fs->b∉ex->h'.get? b=aw o
 slot:∀b o,h.get? b=aw o->H b=aD->b∈fs->b∉ex->∃sl,h'.get? b=aw {o with slots:=sl}
 free:∀b o,h.get? b=aw o->H b=aD->b∉ex->H' b=aD
 there:∀b o,h.get? b=aw o->b∉ex->∃o',h'.get? b=aw o'
 tups:∀b xs,H b=aw (.tup xs)->H' b=aw (.tup xs)
 frzs:∀b o u,H b=aw (.frz o u)->H' b=aw (.frz o u)
 tbls:∀b ps,H b=aw (.tbl ps)->∃more,H' b=aw (.tbl (ps++more))
section
variable {fs f ex E:List Addr} {H c d:Hp} {h g i h':Heap} {a x e:Addr} {o:HO}
def Un.any(u:Un fs ex H c h g){b:Addr}{ob:Obj}(q:h.get? b=aw ob)(n:H b=aD)(j:b∉ex):∃sl,g.get? b=aw {ob with slots:=sl}:=by
 by_cases hb:b∈fs
 .exact u.slot b ob q n hb j
 .exact{ob.slots,u.keep b ob q n hb j}
def Un.kept(k:∀b u,h.get? b=aw u->h'.get? b=aw u):Un fs ex H H h h':=
 {λb ob q _ _ _=>k b ob q,λb ob q _ _ _=>{ob.slots,k b ob q},λ_ _ _ n _=>n,λb ob q _=>{ob,k b ob q},λ_ _ q=>q,λ_ _ _ q=>q,λ_ ps q=>{#[],by rw[q];simp}}
def Un.refl:Un fs ex H H h h:=Un.kept λ_ _ q=>q
def Un.laid(k:∀b u,h.get? b=aw u->h'.get? b=aw u)(l:h.objs.size<=a)(j:H a=aD):Un fs ex H (upd H a o) h h' where
 keep:=λb u q _ _ _=>k b u q
 slot:=λb u q _ _ _=>{u.slots,k b u q}
 free:=λb u q n _=>by rw[ae (ZH (ZD (Zv q) l))];exact n
 there:=λb u q _=>{u,k b u q}
 tups:=λb X q=>by rw[ae (aP q j)];exact q
 frzs:=λb u X q=>by rw[ae (aP q j)];exact q
 tbls:=λb ps q=>{#[],by rw[ae (aP q j),q];simp}
def Un.write(mu:Mut (H x))(y:e=x\/H e=aw (.own x))(k:∀b u,b≠e->h.get? b=aw u->h'.get? b=aw u)(l:∃u,h'.get? e=aw u):Un fs ex H (upd H x o) h h':=by
 let v:∀b,H b=aD->b≠x:=λb n z=>by subst z;rw[n]at mu;exact mu
 let hb:∀b,H b=aD->b≠e:=λb n z=>by
  subst z;rcases y with r |r
  .exact v b n r
  .rw[n]at r;cases r
 let p:∀b u,H b=aw u->¬ Mut (aw u)->b≠x:=λb u q nm z=>by subst z;rw[q]at mu;exact nm mu
 refine⟨λb u q n _ _=>k b u (hb b n) q,λb u q n _ _=>{u.slots,k b u (hb b n) q},λb u q n _=>by rw[ae (v b n)];exact n,λb u q _=>?_,
  λb X q=>by rw[ae (p b _ q λz=>z)];exact q,λb u X q=>by rw[ae (p b _ q λz=>z)];exact q,λb ps q=>{#[],by rw[ae (p b _ q λz=>z),q];simp}⟩
 by_cases j:b=e
 .subst j;exact l
 .exact{u,k b u j q}
end
abbrev trk(h:Heap)(H:Hp):List Addr:=(Zi h.objs.size).filter λa=>(H a).isSome
abbrev mG(h:Heap)(H:Hp):Heap:=PySem.W.hideAll h (trk h H)
def zF(h:Heap)(H:Hp):(mG h H).objs.size=h.objs.size:=PySem.W.hideAll_size _ _
def Bn(e:h.get? b=aw o)(n:H b=aD):(mG h H).get? b=aw o:=
 PySem.W.hideAll_get _ e λc=>by
  let q:(H b).isSome=aN:=(ZM.mp c).2;rw[n]at q;simp at q
def FD(e:(mG h H).get? b=aw o):h.get? b=aw o/\H b=aD:=by
 let E:h.get? b=aw o:=PySem.W.of_hideAll (trk h H) e;calc{E,?_};cases q:H b with
 |none=>rfl
 |some x=>
  let c:b∈trk h H:=ZM.mpr {ZQ.mpr (Zv E),by simp[q]};let z:(mG h H).get? b=aD:=PySem.W.hideAll_none (trk h H) c;rw[z]at e;cases e
structure Mod(K:VX)(mg:Str->Option Value)(base:Heap):Prop where
 kin:K.In base
 glob:base.Ns Zav mg
 blt:∃mb,base.Ns Zab mb/\∀x:Str,x≠"__name__"->mb x=NO x
 nolimit:base.NoLimit
structure Cx where
 prog:Program
 w:World
 K:VX
 mg:Str->Option Value
 base:Heap
 A:Around
 N:List Str
 s₀:Shared
 H₀:Hp
 env:Env
 outer:List Env
 stack:List Env
 ex:List Addr
 fn:Str->Bool
 calm:Bool
 pn:List (Addr×Obj)
 xe:Value->Shared->Prop
abbrev frs(l:List Env):List Addr:=l.filterMap (·.frame)
noncomputable abbrev Cx.fs(X:Cx):List Addr:=frs X.outer
abbrev Vis(sc:Scope)(x:Str):Prop:=sc.names.lookup x=aw .local\/sc.names.lookup x=aw .cell\/sc.names.lookup x=aw .free
abbrev Loc(sc:Scope)(x:Str):Prop:=sc.names.lookup x=aw .local\/sc.names.lookup x=aw .cell
abbrev Ut(env:Env)(h:Heap)(m:Str->Option Value)(x:Str)(u:Value):Prop:=
 (env.kindOf x=aw .local/\m x=aw u)\/((env.kindOf x=aw .cell\/env.kindOf x=aw .free)/\∃c,env.cells.lookup x=aw c/\h.IsCell c (aw u))
structure Cx.Ok(X:Cx):Prop where
 mod:Mod X.K X.mg X.base
 kind:X.env.scope.kind = .function
 glob:X.env.globals=Zav
 blt:X.env.builtins=Zab
 above:X.s₀.heap.objs.size<=X.env.locals
 inj:∀x y c,X.env.cells.lookup x=aw c->X.env.cells.lookup y=aw c->x=y
 has:∀x,(X.env.kindOf x=aw .cell\/X.env.kindOf x=aw .free)->∃c,X.env.cells.lookup x=aw c
 cab:∀x c,X.fn x=aN->X.env.cells.lookup x=aw c->X.s₀.heap.objs.size<=c
 hd:X.calm=aN->X.A.handled=aD
 frames:X.A.frames=aw X.stack
 stk:X.stack=X.outer\/(X.stack=X.env::X.outer/\X.env.frame=aw X.env.locals)
 exf:∀b∈X.ex,b≠X.env.locals/\∀x c,X.env.cells.lookup x=aw c->c≠b
 bs:∀b o,X.base.get? b=aw o->X.s₀.heap.get? b=aw o/\X.H₀ b=aD
 bsz:X.base.objs.size<=X.s₀.heap.objs.size
 noex:∀b o,X.base.get? b=aw o->b∉X.ex
 exfs:∀b∈X.ex,b∉X.fs
 funs:X.s₀.heap.FunFrames X.base X.outer
 frf:∀b∈X.fs,X.H₀ b=aD
structure Inv(X:Cx)(pins:List (Addr×Obj))(σ:List (Option V))(H:Hp)(s:Shared):Prop where
 ok:X.Ok
 os:s.os=X.s₀.os
 bare:AllBare s.gens
 base:Un X.fs X.ex X.H₀ H X.s₀.heap s.heap
 loc:∃m,s.heap.Ns X.env.locals m/\∀ (i:Nat) (x:Str) (v:V),X.N[i]?=aw x->σ[i]?=aw (aw v)->Vis X.env.scope x->∃u,aE v u/\Ut X.env s.heap m x u
 cell:∀x c,X.env.cells.lookup x=aw c->∃v,s.heap.IsCell c v
 free:H X.env.locals=aD
 freeC:∀x c,X.env.cells.lookup x=aw c->H c=aD
 pin:∀p∈X.pn++pins,s.heap.get? p.1=aw p.2/\H p.1=aD/\p.1≠X.env.locals/\p.1∉X.fs/\∀v,p.2.data≠.cell v
 hok:HOk X.prog X.w H s.heap
 len:σ.length=X.N.length
section
variable {X:Cx} {f:List (Addr×Obj)} {g:List (Option V)} {H w:Hp} {s:Shared} {h':Heap}
def Cx.Ok.nofr(ok:X.Ok)(e:X.base.get? b=aw o):b∉X.fs:=λhb=>by
 let:=(ok.funs.mem hb).1;rw[e]at this;cases this
def Inv.bs(I:Inv X f g H s):∀b o,X.base.get? b=aw o->s.heap.get? b=aw o/\H b=aD:=λb o e=>
 {I.base.keep b o (I.ok.bs b o e).1 (I.ok.bs b o e).2 (I.ok.nofr e) (I.ok.noex b o e),I.base.free b o (I.ok.bs b o e).1 (I.ok.bs b o e).2 (I.ok.noex b o e)}
def Inv.bk(I:Inv X f g H s):∀b o,X.base.get? b=aw o->s.heap.get? b=aw o:=λb o e=>(I.bs b o e).1
def Inv.mod(I:Inv X f g H s):Mod X.K X.mg X.base:=I.ok.mod
def Inv.kIn(I:Inv X f g H s):X.K.In s.heap:=I.ok.mod.kin.keeps I.bk
def Inv.lt(I:Inv X f g H s):X.env.locals < s⁻¹:=let ⟨_,hn,_⟩:=I.loc;hn.lt
def Inv.sz(I:Inv X f g H s):X.s₀.heap.objs.size<=s⁻¹:=ZJ I.ok.above (Y0 I.lt)
def Inv.nofs(I:Inv X f g H s)(h:s⁻¹<=a):a∉X.fs:=λhb=>by
 let{_,o,b,_}:=I.ok.funs.mem hb;exact absurd (ZD (Zv b) (ZJ I.sz h)) (ZI _)
def Inv.cne(I:Inv X f g H s):∀x c,X.env.cells.lookup x=aw c->c≠X.env.locals:=λx c e z=>by
 let{v,o,d,hd}:=I.cell x c e;let{m,⟨O,j,E,b,h,_⟩,_}:=I.loc;rw[z,b]at d;cases d;rw[h]at hd;cases hd
def Inv.funs(I:Inv X f g H s):s.heap.FunFrames X.base X.outer:=by
 let all:∀ (l:List Env),(∀b∈frs l,b∈X.fs)->X.s₀.heap.FunFrames X.base l->s.heap.FunFrames X.base l:=by
  intro l
  induction l with
  |nil=>intro _ _;trivial
  |cons env r p=>
   intro hs q;let{k,⟨L,o,h,d,j,hd⟩,n}:=q;let c:L∈X.fs:=hs L (by delta frs;rw[Ys,h];exact Zj);let{sl,e}:=I.base.slot L o j (I.ok.frf L c) c λz=>I.ok.exfs L z c;exact{k,⟨L,_,h,d,e,hd⟩,p (λb hb=>hs b (by delta frs;rw[Ys,h];exact Zg _ hb)) n}
 exact all X.outer (λ_ hb=>hb) I.ok.funs
def Inv.stack(I:Inv X f g H s):s.heap.FunFrames X.base X.stack:=by
 rcases I.ok.stk with e |⟨e,hf⟩
 .rw[e];exact I.funs
 .rw[e];let{m,h,_}:=I.loc;calc .cons (by rw[I.ok.kind];decide) hf h ?_ I.funs;exact Heap.get?_none_of_le (ZJ I.ok.bsz I.ok.above)
def Inv.stkSub(I:Inv X f g H s):∀b∈frs X.stack,b∈X.env.locals::X.fs:=λb hb=>by
 rcases I.ok.stk with e |⟨e,hf⟩
 .rw[e]at hb;exact Zg _ hb
 .rw[e]at hb;delta frs at hb;rw[Ys,hf]at hb;exact hb
def Inv.stkFree(I:Inv X f g H s):∀b∈frs X.stack,H b=aD:=λb hb=>by
 rcases Zn.mp (I.stkSub b hb) with e |hb
 .rw[e];exact I.free
 .let{_,o,h,_}:=I.ok.funs.mem hb;exact I.base.free b o h (I.ok.frf b hb) λz=>I.ok.exfs b z hb
def Inv.step{g':Array GenState}{t':Nat}{d':Drawn}{ch:List Addr}(I:Inv X f g H s)
  (y:∀b∈ch,(b∈X.ex\/X.s₀.heap.objs.size<=b)/\b≠X.env.locals/\(∀x c,X.env.cells.lookup x=aw c->c≠b)/\∀p∈X.pn++f,p.1≠b)
  (keep:∀b o,b≠X.env.locals->b∉X.fs->b∉ch->s.heap.get? b=aw o->H b=aD->h'.get? b=aw o)
  (slot:∀b o,b≠X.env.locals->b∈X.fs->b∉ch->s.heap.get? b=aw o->H b=aD->∃sl,h'.get? b=aw {o with slots:=sl}) (free:∀b o,b∉ch->s.heap.get? b=aw o->H b=aD->w b=aD)
  (there:∀b o,b∉ch->s.heap.get? b=aw o->∃O,h'.get? b=aw O)
  (tups:∀b xs,H b=aw (.tup xs)->w b=aw (.tup xs)) (frzs:∀b o u,H b=aw (.frz o u)->w b=aw (.frz o u)) (tbls:∀b ps,H b=aw (.tbl ps)->∃more,w b=aw (.tbl (ps++more)))
  (ns:∀m,s.heap.Ns X.env.locals m->h'.Ns X.env.locals m) (hok:HOk X.prog X.w w h') (hg:AllBare g') :
  Inv X f g w {s with heap:=h',gens:=g',drawn:=d',toks:=t'}:=by
 let L:∀b o,X.s₀.heap.get? b=aw o->b≠X.env.locals:=λb o e=>ZH (ZD (Zv e) I.ok.above)
 let B:∀b o,X.s₀.heap.get? b=aw o->b∉X.ex->b∉ch:=λb o e h hb=>by
  rcases (y b hb).1 with z |z
  .exact h z
  .exact absurd (ZD (Zv e) z) (ZI _)
 let C:∀x c,X.env.cells.lookup x=aw c->∀v,s.heap.IsCell c v->h'.IsCell c v:=λx c e v ⟨o,J,hd⟩=>by
  let j:c∉ch:=λz=>(y c z).2.2.1 x c e rfl;by_cases Y:c∈X.fs
  .let{sl,q}:=slot c o (I.cne x c e) Y j J (I.freeC x c e);exact⟨_,q,hd⟩
  .exact{o,keep c o (I.cne x c e) Y j J (I.freeC x c e),hd}
 refine{I.ok,I.os,hg,{λb o e n hb h=>?_,λb o e n hb h=>?_,λb o e n h=>?_,λb o e h=>?_,λb xs e=>tups b xs (I.base.tups b xs e),λb o xs e=>frzs b o xs (I.base.frzs b o xs e),λb ps e=>?_},?_,λx c e=>?_,?_,λx c e=>?_,λp U=>?_,hok,I.len}
 .exact keep b o (L b o e) hb (B b o e h) (I.base.keep b o e n hb h) (I.base.free b o e n h)
 .let{sl,E}:=I.base.slot b o e n hb h;let{T,Q}:=slot b _ (L b o e) hb (B b o e h) E (I.base.free b o e n h);exact⟨T,Q⟩
 .let{O,E}:=I.base.there b o e h;exact free b O (B b o e h) E (I.base.free b o e n h)
 .let{O,E}:=I.base.there b o e h;exact there b O (B b o e h) E
 .let{m1,E}:=I.base.tbls b ps e;let{m2,Q}:=tbls b _ E;exact{m1++m2,by rw[Q,Array.append_assoc]}
 .let{m,hn,hl}:=I.loc;calc{m,ns m hn,λi x v E Q e3=>?_};let{u,r,l}:=hl i x v E Q e3;calc{u,r,?_};rcases l with l |⟨k,c,e,z⟩
  .exact .inl l
  .exact .inr {k,c,e,C x c e _ z}
 .let{v,z}:=I.cell x c e;exact{v,C x c e v z}
 .let{m,⟨o,_,_,J,_⟩,_}:=I.loc;exact free _ o (λz=>(y _ z).2.1 rfl) J I.free
 .let{v,o,J,hd}:=I.cell x c e;exact free c o (λz=>(y c z).2.2.1 x c e rfl) J (I.freeC x c e)
 .let{e,n,ne,Z,d}:=I.pin p U;let j:p.1∉ch:=λz=>(y p.1 z).2.2.2 p U rfl;exact{keep p.1 p.2 ne Z j e n,free p.1 p.2 j e n,ne,Z,d}
def Inv.un{t':Nat}(I:Inv X f g H s)(u:Un X.fs [] H w s.heap h')(hok:HOk X.prog X.w w h'):Inv X f g w {s with heap:=h',toks:=t'}:=by
 let{m,⟨o,v,p,d,r⟩,_}:=id I.loc;let{sl,l}:=u.any d I.free (by simp)
 exact I.step (g':=s.gens) (d':=s.drawn) (ch:=[]) (λ_ z=>nomatch z) (λb o _ hb _ e n=>u.keep b o e n hb (by simp)) (λb o _ hb _ e n=>u.slot b o e n hb (by simp)) (λb o _ e n=>u.free b o e n (by simp)) (λb o _ e=>u.there b o e (by simp)) u.tups u.frzs u.tbls (λq k=>by
  let{O,E,c,h,j}:=k;rw[d]at h;cases h;exact⟨_,E,c,l,j⟩) hok I.bare
def Inv.call{g':Array GenState}{t':Nat}{d':Drawn}{ch:List Addr}(I:Inv X f g H s)(u:Un (frs X.stack) ch H w s.heap h')(hok:HOk X.prog X.w w h')(v:AllBare g')
  (j:∀b∈ch,(b∈X.ex\/X.s₀.heap.objs.size<=b)/\b≠X.env.locals/\(∀x c,X.env.cells.lookup x=aw c->c≠b)/\∀p∈X.pn++f,p.1≠b) :
  Inv X f g w {s with heap:=h',gens:=g',drawn:=d',toks:=t'}:=by
 let{m,⟨o,L,C,q,r⟩,_}:=id I.loc;let{sl,k}:=u.any q I.free λz=>(j _ z).2.1 rfl
 exact I.step (ch:=ch) j (λb o k hb h e n=>u.keep b o e n (λz=>(Zn.mp (I.stkSub b z)).elim k hb) h) (λb o _ _ h e n=>u.any e n h) (λb o h e n=>u.free b o e n h) (λb o h e=>u.there b o e h) u.tups u.frzs u.tbls (λJ B=>by
  let{O,l,E,d,y}:=B;rw[q]at d;cases d;exact⟨_,l,E,k,y⟩) hok v
def Inv.turned{t':Nat}{it:Addr}(I:Inv X f g H s)(k:∀b o,b≠it->s.heap.get? b=aw o->h'.get? b=aw o)(J:H it=aD)(j:it≠X.env.locals)
  (l:it∈X.ex\/X.s₀.heap.objs.size<=it) (C:∀x c,X.env.cells.lookup x=aw c->c≠it) (O:∀p∈X.pn++f,p.1≠it):Inv X f g H {s with heap:=h',toks:=t'}:=by
 let d:∀b u,H b=aw u->b≠it:=λb u e z=>by rw[z,J]at e;cases e
 refine I.step (g':=s.gens) (d':=s.drawn) (ch:=[it]) (λb hb=>?_) (λb o _ _ h e _=>k b o (λz=>h (by simp[z])) e) (λb o _ _ h e _=>{o.slots,k b o (λz=>h (by simp[z])) e}) (λ_ _ _ _ n=>n)
  (λb o h e=>{o,k b o (λz=>h (by simp[z])) e}) (λ_ _ e=>e) (λ_ _ _ e=>e) (λb ps e=>{#[],by rw[e];simp}) (λm L=>?_) (λb u e=>?_) I.bare
 .let e:b=it:=by simpa using hb
  subst e;exact⟨l,j,C,O⟩
 .let{o,y,E,B,r}:=L;exact{o,y,E,k _ o (Ne.symm j) B,r}
 .calc(I.hok b u e).stay (λc v h q=>k c v ?_ q) (λ_ q=>q) λ_ _ q=>q;rcases h with z |z
  .rw[z];exact d b u e
  .exact d c _ z
def Inv.tok(I:Inv X f g H s)(t:Nat):Inv X f g H {s with toks:=t}:=I.un (h':=s.heap) (t':=t) Un.refl I.hok
def Inv.kept{t':Nat}(I:Inv X f g H s)(k:∀b u,s.heap.get? b=aw u->h'.get? b=aw u):Inv X f g H {s with heap:=h',toks:=t'}:=I.un (Un.kept k) (I.hok.kept k)
def Inv.laid{a:Addr}{o:HO}{t':Nat}(I:Inv X f g H s)(k:∀b u,s.heap.get? b=aw u->h'.get? b=aw u)(h:s⁻¹<=a)(new:ba X.prog X.w (upd H a o) h' a o) :
  Inv X f g (upd H a o) {s with heap:=h',toks:=t'}:=I.un (Un.laid k h (I.hok.fresh h)) (I.hok.laid k h new)
def Inv.write{t':Nat}(I:Inv X f g H s)(mu:Mut (H x))(c:e=x\/H e=aw (.own x))(k:∀b u,b≠e->s.heap.get? b=aw u->h'.get? b=aw u)(h:∃u,h'.get? e=aw u)
  (new:ba X.prog X.w (upd H x o) h' x o):Inv X f g (upd H x o) {s with heap:=h',toks:=t'}:=I.un (Un.write mu c k h) (I.hok.write mu c k h new)
def Inv.pins_of(I:Inv X f g H s)(h:∀p∈b,s.heap.get? p.1=aw p.2/\H p.1=aD/\p.1≠X.env.locals/\p.1∉X.fs/\∀v,p.2.data≠.cell v):Inv X b g H s:=
 {I.ok,I.os,I.bare,I.base,I.loc,I.cell,I.free,I.freeC,λp c=>(ZR.mp c).elim (λz=>I.pin p (ZW _ z)) (h p),I.hok,I.len}
def tD{N:List Str}(hN:N.Nodup){i j:Nat}{x:Str}(a:N[i]?=aw x)(b:N[j]?=aw x):i=j:=by
 let{h,c}:=Zb.mp a;let{d,E}:=Zb.mp b;exact(Y1 hN).mp (c.trans E.symm)
def pY{M:Model}{A:Around}{E:Value->Shared->Prop}{i:Nat}{x:Str}{v:V}{u:Value}{Q:Unit->Shared->Prop}(I:Inv X f g H s)(hN:X.N.Nodup)(hi:X.N[i]?=aw x)(B:Loc X.env.scope x)(r:aE v u)
  (h:∀s',Inv X f (g.set i (aw v)) H s'->(∃a,Heap.SameBut a s.heap s'.heap/\(a=X.env.locals\/X.env.cells.lookup x=aw a))->Q () s') (hf:X.fn x=aN\/X.env.scope.names.lookup x=aw .local:=by first |exact .inl rfl |exact .inr rfl |assumption):wpAny M A (storeName X.env x u) Q E s:=by
 let{m,hn,hl}:=id I.loc;let Y:(X.env.scope.kind == .class || (X.env.scope.kind == .module && X.env.locals != X.env.globals))=aS:=by rw[I.ok.kind];rfl
 let L:i < g.length:=by rw[I.len];exact(Zb.mp hi).1
 let cne:=I.cne
 let T:∀ {a:Addr} {h':Heap},(∃o,s.heap.get? a=aw o/\H a=aD)->Heap.SameBut a s.heap h'->HOk X.prog X.w H h':=λ{a h'} ha hs b ob e=>by
  let{_,_,C}:=ha;calc(I.hok b ob e).stay (λc w' hc q=>(hs.2 c ?_).trans q) (λ_ q=>q) λ_ _ q=>q;rintro rfl;rcases hc with rfl |hc
  .rw[C]at e;cases e
  .rw[C]at hc;cases hc
 rcases B with hk |hk
 .calc wpAny_storeName_local hk hn (λh' hn' hs=>?_) Y;let{oL,_,_,hoL,_}:=id hn;refine h _ {I.ok,I.os,I.bare,{λb o e n hb B=>?_,λb o e n hb B=>?_,I.base.free,λb o e B=>?_,I.base.tups,I.base.frzs,I.base.tbls},{_,hn',λj y v' l J e3=>?_},λy c e=>?_,I.free,I.freeC,λp hp=>?_,T ⟨oL,hoL,I.free⟩ hs,by simpa using I.len} {_,hs,.inl rfl}
  .exact(hs.2 b (ZH (ZD (Zv e) I.ok.above))).trans (I.base.keep b o e n hb B)
  .let{sl,l}:=I.base.slot b o e n hb B;exact{sl,(hs.2 b (ZH (ZD (Zv e) I.ok.above))).trans l}
  .let{o',l}:=I.base.there b o e B;exact{o',(hs.2 b (ZH (ZD (Zv e) I.ok.above))).trans l}
  .by_cases U:j=i
   .subst U;rw[hi]at l;cases l;rw[ZV L]at J;cases J;exact{u,r,.inl {hk,by simp}}
   .rw[Zx (Ne.symm U)]at J;let{u',r',q}:=hl j y v' l J e3;calc{u',r',?_};rcases q with ⟨k,e⟩ |⟨k,c,e,z⟩
    .calc .inl {k,?_};let:y≠x:=λe=>U (tD hN l (e▸hi));simp[this,e]
    .exact .inr {k,c,e,z.sameBut hs (cne y c e)}
  .let{w',z}:=I.cell y c e;exact{w',z.sameBut hs (cne y c e)}
  .let{e,n,ne,nf,d}:=I.pin p hp;exact{(hs.2 p.1 ne).trans e,n,ne,nf,d}
 .let O:X.fn x=aN:=by
   rcases hf with z |z
   .exact z
   .rw[z]at hk;cases hk
  let{c,hc}:=I.ok.has x (.inl hk);let{w',z}:=I.cell x c hc;calc wpAny_storeName_cell I.ok.kind hk hc z (λh' hc' hs=>?_);let{oc,Z,hocd}:=id z;refine h {s with heap:=h'} {I.ok,I.os,I.bare,{λb o e n hb B=>?_,λb o e n hb B=>?_,I.base.free,λb o e B=>?_,I.base.tups,I.base.frzs,I.base.tbls},{m,hn.sameBut hs (Ne.symm (cne x c hc)),λj y v' l J e3=>?_},λy c' e=>?_,I.free,I.freeC,λp hp=>?_,T {oc,Z,I.freeC x c hc} hs,by simpa using I.len} {c,hs,.inr hc}
  .exact(hs.2 b (ZH (ZD (Zv e) (I.ok.cab x c O hc)))).trans (I.base.keep b o e n hb B)
  .let{sl,l}:=I.base.slot b o e n hb B;exact{sl,(hs.2 b (ZH (ZD (Zv e) (I.ok.cab x c O hc)))).trans l}
  .let{o',l}:=I.base.there b o e B;exact{o',(hs.2 b (ZH (ZD (Zv e) (I.ok.cab x c O hc)))).trans l}
  .by_cases U:j=i
   .subst U;rw[hi]at l;cases l;rw[ZV L]at J;cases J;exact{u,r,.inr {.inl hk,c,hc,hc'}}
   .rw[Zx (Ne.symm U)]at J;let{u',r',q}:=hl j y v' l J e3;calc{u',r',?_};rcases q with q |⟨k,c',e,z'⟩
    .exact .inl q
    .calc .inr {k,c',e,z'.sameBut hs ?_};rintro rfl;exact U (tD hN l (I.ok.inj _ _ _ e hc▸hi))
  .by_cases hcc:c'=c
   .subst hcc;exact⟨_,hc'⟩
   .let{w2,z2}:=I.cell y c' e;exact{w2,z2.sameBut hs hcc}
  .let{e,n,ne,nf,d}:=I.pin p hp;calc{(hs.2 p.1 ?_).trans e,n,ne,nf,d};intro q;rw[q,Z]at e;let q':oc=p.2:=Option.some.inj e;exact d w' (by rw[<-q'];exact hocd)
def jg{i:Nat}(I:Inv X f g H s)(hN:X.N.Nodup)(hi:X.N[i]?=aw x)(j:Loc X.env.scope x)(r:aE v u)
  (h:∀b,Inv X f (g.set i (aw v)) H b->Q () b) (d:X.fn x=aN\/X.env.scope.names.lookup x=aw .local:=by first |exact .inl rfl |exact .inr rfl |assumption):wpAny M A (storeName X.env x u) Q E s:=
 pY I hN hi j r (λb c _=>h b c) d
def Inv.call'(I:Inv X f g H s)(j:s'.os=s.os)(u:Un (frs X.stack) ch H w s.heap s'.heap)(hok:HOk X.prog X.w w s'.heap)(k:AllBare s'.gens)
  (h:∀b∈ch,(b∈X.ex\/X.s₀.heap.objs.size<=b)/\b≠X.env.locals/\(∀x c,X.env.cells.lookup x=aw c->c≠b)/\∀p∈X.pn++f,p.1≠b):Inv X f g w s':=by
 let{h',d,l,T,O}:=s';let e:O=s.os:=j;subst e;exact I.call (g':=d) (t':=T) (d':=l) u hok k h
end
@[inline]abbrev XK:=Value->Option Addr->Hp->Prop
@[inline]abbrev St:=List (Option V)
@[inline]abbrev VK:=V->Hp->Prop
@[inline]abbrev TE:=St->Hp->VK->Prop
@[inline]abbrev TT:=St->Hp->(Bool->Hp->Prop)->Prop
@[inline]abbrev TA:=St->Hp->(List V->Hp->Prop)->Prop
structure Ends where
 nx:St->Hp->Prop
 rt:VK
 bk:St->Hp->Prop:=λ_ _=>False
 ct:St->Hp->Prop:=λ_ _=>False
@[inline]abbrev TS:=Ends->St->Hp->Prop
abbrev EP(X:Cx)(p:List (Addr×Obj))(b:St)(Q:VK)(u:Value)(c:Shared):Prop:=∃v h,Inv X p b h c/\aE v u/\Q v h
abbrev TP(X:Cx)(p:List (Addr×Obj))(c:St)(Q:Bool->Hp->Prop)(b:Bool)(d:Shared):Prop:=∃h,Inv X p c h d/\Q b h
abbrev AP(X:Cx)(p:List (Addr×Obj))(b:St)(Q:List V->Hp->Prop)(u:List Value)(c:Shared):Prop:=∃v h,Inv X p b h c/\aJ v u/\Q v h
abbrev SP(X:Cx)(p:List (Addr×Obj))(D:Ends)(f:Flow)(c:Shared):Prop:=
 match f with
 |.next=>∃b h,Inv X p b h c/\D.nx b h
 |.brk=>∃b h,Inv X p b h c/\D.bk b h
 |.cont=>∃b h,Inv X p b h c/\D.ct b h
 |.ret u=>∃v b h,Inv X p b h c/\aE v u/\D.rt v h
abbrev PE(X:Cx)(e:Expr)(t:TE):Prop:=
 ∀ (p:List (Addr×Obj)) (s:Shared) (b:St) (H:Hp) (Q:VK),Inv X p b H s->t b H Q->wpAny (model X.prog X.w) X.A (eval e X.env) (EP X p b Q) X.xe s
abbrev PT(X:Cx)(e:Expr)(t:TT):Prop:=
 ∀ (p:List (Addr×Obj)) (s:Shared) (b:St) (H:Hp) (Q:Bool->Hp->Prop),Inv X p b H s->t b H Q->wpAny (model X.prog X.w) X.A (isTrue e X.env (eval e X.env)) (TP X p b Q) X.xe s
abbrev PW(X:Cx)(e:Expr)(t:TT):Prop:=
 ∀ (b:Sem Value) (p:List (Addr×Obj)) (s:Shared) (c:St) (H:Hp) (Q:Bool->Hp->Prop),Inv X p c H s->t c H Q->wpAny (model X.prog X.w) X.A (isTrue e X.env b) (TP X p c Q) X.xe s
def PW.pt(h:PW X e t):PT X e t:=h _
abbrev PA(X:Cx)(E:List Expr)(t:TA):Prop:=
 ∀ (c:Pos) (p:List (Addr×Obj)) (s:Shared) (b:St) (H:Hp) (Q:List V->Hp->Prop),Inv X p b H s->t b H Q->wpAny (model X.prog X.w) X.A (spliced (backTo c (ZaP E X.env))) (AP X p b Q) X.xe s
abbrev PS(X:Cx)(st:Stmt)(t:TS):Prop:=
 ∀ (p:List (Addr×Obj)) (s:Shared) (b:St) (H:Hp) (D:Ends),Inv X p b H s->t D b H->wpAny (model X.prog X.w) X.A (exec st X.env) (SP X p D) X.xe s
abbrev PSs(X:Cx)(st:List Stmt)(t:TS):Prop:=
 ∀ (p:List (Addr×Obj)) (s:Shared) (b:St) (H:Hp) (D:Ends),Inv X p b H s->t D b H->wpAny (model X.prog X.w) X.A (execs st X.env) (SP X p D) X.xe s
def thn{b:Type}{t:Sem b}{Q q:b->Shared->Prop}{M:Model}{A:Around}{E:Value->Shared->Prop}{s:Shared}(h:wpAny M A t Q E s)(c:∀a s,Q a s->q a s):wpAny M A t q E s:=Zbd h c λ_ _ x=>x
section
variable {X:Cx}
abbrev zG(i:Nat):TE:=λb H Q=>∃v,b[i]?=aw (aw v)/\Q v H
abbrev tC(v:V):TE:=λ_ H Q=>Q v H
def v5{i:Nat}(hN:X.N[i]?=aw x)(n:Vis X.env.scope x)(hd:(x == ("__debug__" : Str))=aS:=by decide)(d:(x == ("__classdict__" : Str))=aS:=by decide):PE X (.Name x z) (zG i):=by
 intro p s y H Q I h;let{v,e,h}:=h;let{m,k,B}:=I.loc;let{u,r,l}:=B i x v hN e n;let f:EP X p y Q u s:=⟨v,H,I,r,h⟩;rcases l with ⟨hk,q⟩ |⟨hk,c,j,b⟩
 .exact wpAny_Name (wpAny_loadName_local I.ok.kind hk k q f) hd
 .rcases hk with hk |hk
  .exact wpAny_Name (wpAny_loadName_cell I.ok.kind hk j b f) hd
  .exact wpAny_Name (wpAny_loadName_free I.ok.kind hk j b f d) hd
def mH{i j p}:PE X (.Constant (.int i) j p) (tC (.int i)):=λ_ _ _ H _ I h=>wpAny_Constant_int {.int i,H,I.tok _,⟨_,rfl⟩,h}
def Q2{b j p}:PE X (.Constant (.bool b) j p) (tC (.bl b)):=λ_ _ _ H _ I h=>Constant_bool {.bl b,H,I,rfl,h}
def Bo{j pos}:PE X (.Constant .none j pos) (tC .non):=λ_ _ _ H _ I h=>Constant_none ⟨.non,H,I,rfl,h⟩
def Ly{x j p}:PE X (.Constant (.str x) j p) (tC (.str x)):=λ_ _ _ H _ I h=>Calls.Constant_str {.str x,H,I.tok _,⟨_,rfl⟩,h}
abbrev Gl(X:Cx)(x:Str):Prop:=X.env.kindOf x=aw .globalImplicit
def xY(I:Inv X p f H s)(c:Gl X x)(b:X.mg x=aw u)(h:Q u s)
  (hd:(x == ("__debug__" : Str))=aS:=by decide):wpAny (model X.prog X.w) X.A (eval (.Name x d) X.env) Q E s:=
 W7 I.ok.kind c (Calls.loadGlobal_global (by rw[I.ok.glob];exact I.mod.glob.keeps I.bk) b h) hd
def eF(I:Inv X p q H s)(j:Gl X x)(d:X.mg x=aD)(c:NO x=aw u)(h:Q u s)
  (b:x≠"__name__" := by decide) (hd:(x == ("__debug__" : Str))=aS:=by decide):wpAny (model X.prog X.w) X.A (eval (.Name x k) X.env) Q E s:=by
 let{n,f,l}:=I.mod.blt;exact W7 I.ok.kind j (Calls.loadGlobal_builtin (by rw[I.ok.glob];exact I.mod.glob.keeps I.bk) d (by rw[I.ok.blt];exact f.keeps I.bk) ((l x b).trans c) h) hd
def FE(c:Gl X x)(b:X.mg x=aw u)(r:aE v u)(hd:(x == ("__debug__" : Str))=aS:=by decide):PE X (.Name x p) (tC v):=
 λ_ _ _ H _ I h=>xY I c b ⟨v,H,I,r,h⟩ hd
def jh(f:Gl X x)(d:X.mg x=aD)(c:NO x=aw u)(r:aE v u)(b:x≠"__name__" := by decide)(hd:(x == ("__debug__" : Str))=aS:=by decide):PE X (.Name x p) (tC v):=
 λ_ _ _ H _ I h=>eF I f d c ⟨v,H,I,r,h⟩ b hd
variable {a b:Expr} {T f:TE} {pos:Pos}
variable {g i:TT} {r:List Expr}
abbrev Q4(t u:TT):TT:=λd H Q=>t d H λc h=>if c=aN then u d h Q else Q aS h
abbrev tOr(t u:TT):TT:=λd H Q=>t d H λc h=>if c=aN then Q aN h else u d h Q
abbrev Q5(t:TT):TT:=λd H Q=>t d H λc h=>Q (!c) h
def FF(d:PT X a g):PW X (.BoolOp .And [a] pos) g:=by
 intro l p s j H Q I h;calc isTrue_and (thn (d p s j H Q I h) λc k e=>?_);cases c with
 |true=>exact isTrue_and_nil e
 |false=>exact e
def Lz(d:PT X a g):PW X (.BoolOp .Or [a] pos) g:=by
 intro l p s j H Q I h;calc isTrue_or (thn (d p s j H Q I h) λc k e=>?_);cases c with
 |false=>exact isTrue_or_nil e
 |true=>exact e
def Bp(l:PT X a g)(hb:PW X (.BoolOp .And (b::r) pos) i):PW X (.BoolOp .And (a::b::r) pos) (Q4 g i):=by
 intro n p s j H Q I h;calc isTrue_and (thn (l p s j H _ I h) λc u ⟨d,k,q⟩=>?_);cases c with
 |true=>exact hb n p u j d Q k q
 |false=>exact⟨d,k,q⟩
def Ka(l:PT X a g)(hb:PW X (.BoolOp .Or (b::r) pos) i):PW X (.BoolOp .Or (a::b::r) pos) (tOr g i):=by
 intro n p s j H Q I h;calc isTrue_or (thn (l p s j H _ I h) λc u ⟨d,k,q⟩=>?_);cases c with
 |true=>exact⟨d,k,q⟩
 |false=>exact hb n p u j d Q k q
def LA(d:PT X a g):PT X (.UnaryOp .Not a pos) (Q5 g):=by
 intro p s k H Q I h;exact isTrue_not (d p s k H (λc j=>Q (!c) j) I h)
abbrev Kb(T f:TE):TE:=λd H Q=>T d H λx h=>∃c,x = .bl c/\if c=aN then f d h Q else Q (.bl aS) h
abbrev Q6(T f:TE):TE:=λd H Q=>T d H λx h=>∃c,x = .bl c/\if c=aN then Q (.bl aN) h else f d h Q
abbrev Kc(T:TE):TE:=λd H Q=>T d H λx h=>∃c,x = .bl c/\Q (.bl (!c)) h
def Bq{op}(h:PE X a t):PE X (.BoolOp op [a] pos) t:=λp s d H Q I c=>BoolOp_one (h p s d H Q I c)
def Bs(l:PE X a T)(hb:PE X (.BoolOp .And (b::r) pos) f):PE X (.BoolOp .And (a::b::r) pos) (Kb T f):=by
 intro p s j H Q I h;calc BoolOp_and (thn (l p s j H _ I h) λv n ⟨x,d,k,r1,q⟩=>?_);let{c,rfl,q}:=q;cases r1;calc Zbw ?_;cases c with
 |true=>exact hb p n j d Q k q
 |false=>exact{.bl aS,d,k,rfl,q}
def Kd(l:PE X a T)(hb:PE X (.BoolOp .Or (b::r) pos) f):PE X (.BoolOp .Or (a::b::r) pos) (Q6 T f):=by
 intro p s j H Q I h;calc BoolOp_or (thn (l p s j H _ I h) λv n ⟨x,d,k,r1,q⟩=>?_);let{c,rfl,q}:=q;cases r1;calc Zbw ?_;cases c with
 |false=>exact hb p n j d Q k q
 |true=>exact{.bl aN,d,k,rfl,q}
def LB(d:PE X a T):PE X (.UnaryOp .Not a pos) (Kc T):=by
 intro p s k H Q I h;calc UnaryOp_ (thn (d p s k H _ I h) λv n ⟨x,j,l,r1,q⟩=>?_);let{c,rfl,q}:=q;cases r1;exact not_of (Zbw {.bl (!c),j,l,rfl,q})
abbrev tIf(t:TT)(T f:TE):TE:=λd H Q=>t d H λc h=>if c=aN then T d h Q else f d h Q
def Bt{c:Expr}(hc:PT X c g)(u:PE X a T)(hb:PE X b f):PE X (.IfExp c a b pos) (tIf g T f):=by
 intro p s j H Q I h;calc wpAny_IfExp (thn (hc p s j H _ I h) λd n ⟨k,l,q⟩=>?_);cases d with
 |true=>exact u p n j k Q l q
 |false=>exact hb p n j k Q l q
end
abbrev SqL(K:VX)(H:Hp)(a:Addr)(xs:List V):Prop:=
 Rd H a (.lst xs) ∨
  ∃ (o:Obj) (I:Array Value) (n:Nat),K.lookup a=aw o/\o.cls = .type "list"/\o.dict=aD/\o.data = .seq I n/\I.size<=sizeLine/\aJ xs I.toList
abbrev SqT(K:VX)(H:Hp)(a:Addr)(xs:List V):Prop:=
 Rd H a (.tup xs) ∨
  ∃ (o:Obj) (I:Array Value) (n:Nat),K.lookup a=aw o/\o.cls = .type "tuple"/\o.data = .seq I n/\I.size<=sizeLine/\aJ xs I.toList
abbrev Uu:Value->Option V
 |.none=>aw .non
 |.bool b=>aw (.bl b)
 |.int i _=>aw (.int i)
 |.str x _=>aw (.str x)
 |.bytes b _=>aw (.byt b)
 |.float b _=>aw (.flt b)
 |.ref a=>aw (.ref a)
 |.type n=>aw (.ty n)
 |_=>aD
def aE.abs(r:aE x u):Uu u=aw x:=by
 cases x with
 |non=>cases r;rfl
 |bl _=>cases r;rfl
 |int _=>let{t,rfl}:=r;rfl
 |str _=>let{t,rfl}:=r;rfl
 |byt _=>let{t,rfl}:=r;rfl
 |flt _=>let{t,rfl}:=r;rfl
 |ref _=>cases r;rfl
 |ty _=>cases r;rfl
def aE.inj{x y:V}{u:Value}(r:aE x u)(q:aE y u):x=y:=Option.some.inj (r.abs.symm.trans q.abs)
def aJ.inj:∀ {xs y:List V} {u:List Value},aJ xs u->aJ y u->xs=y
 |_,_,_,.nil,.nil=>rfl
 |_,_,_,.cons r t,.cons r' t'=>by rw[r.inj r',aJ.inj t t']
section
variable {X:Cx} {b:List (Addr×Obj)} {c:St} {H:Hp} {s:Shared} {a:Addr} {xs y:List V}
def SqL.of{K:VX}(h:H a=aw (.lst xs)):SqL K H a xs:=.inl (.inl h)
def SqT.of{K:VX}(h:H a=aw (.tup xs)):SqT K H a xs:=.inl (.inl h)
def Inv.list(I:Inv X b c H s)(h:SqL X.K H a xs):∃its:List Value,aJ xs its/\PlainL s.heap a its.toArray/\xs.length<=sizeLine:=by
 rcases h with h |⟨o,its,n,hk,hc,hd,hs,hz,r⟩
 .let{z,its,n,r,e}:=h.ok I.hok;exact⟨its,r,⟨_,n,e,rfl,rfl,rfl⟩,z⟩
 .calc{its.toList,r,{o,n,I.kIn a o hk,hc,hd,by simpa using hs},?_};let e:=r.length;simp![Zu]at e
  lia
def Inv.tuple(I:Inv X b c H s)(h:SqT X.K H a xs):∃its:List Value,aJ xs its/\IsTup s.heap a its.toArray/\xs.length<=sizeLine:=by
 rcases h with h |⟨o,its,n,hk,hc,hs,hz,r⟩
 .let{z,its,r,p}:=h.ok I.hok;exact⟨its,r,p.isTup,z⟩
 .calc{its.toList,r,{o,I.kIn a o hk,hc,n,by simpa using hs},?_};let e:=r.length;simp![Zu]at e
  lia
def Inv.list_inj(I:Inv X b c H s)(h:SqL X.K H a xs)(h':SqL X.K H a y):xs=y:=by
 let{f,r,⟨o,n,e,_,_,d⟩,_}:=I.list h;let{its',k,⟨O,l,E,_,_,j⟩,_}:=I.list h';rw[e]at E;cases E;rw[d]at j;injection j with d1 _;let:f=its':=by simpa using congrArg Array.toList d1
 subst this;exact r.inj k
def Inv.tuple_inj(I:Inv X b c H s)(h:SqT X.K H a xs)(h':SqT X.K H a y):xs=y:=by
 let{f,r,⟨o,e,_,n,d⟩,_}:=I.tuple h;let{its',k,⟨O,E,_,l,j⟩,_}:=I.tuple h';rw[e]at E;cases E;rw[d]at j;injection j with d1 _;let:f=its':=by simpa using congrArg Array.toList d1
 subst this;exact r.inj k
end
noncomputable abbrev Cx.wish(X:Cx)(E:Value->Shared->Prop):Cx:={X with xe:=E}
noncomputable abbrev Cx.nox(X:Cx):Cx:=X.wish λ_ _=>False
def Cx.Ok.wish{X:Cx}(ok:X.Ok)(E:Value->Shared->Prop):(X.wish E).Ok:=
 ⟨ok.mod,ok.kind,ok.glob,ok.blt,ok.above,ok.inj,ok.has,ok.cab,ok.hd,ok.frames,ok.stk,ok.exf,ok.bs,ok.bsz,ok.noex,ok.exfs,ok.funs,ok.frf⟩
def Cx.Ok.unwish{X:Cx}{E:Value->Shared->Prop}(ok:(X.wish E).Ok):X.Ok:=
 ⟨ok.mod,ok.kind,ok.glob,ok.blt,ok.above,ok.inj,ok.has,ok.cab,ok.hd,ok.frames,ok.stk,ok.exf,ok.bs,ok.bsz,ok.noex,ok.exfs,ok.funs,ok.frf⟩
section
variable {X:Cx} {p:List (Addr×Obj)} {a:St} {H:Hp} {s:Shared} {E:Value->Shared->Prop}
def Inv.wish(I:Inv X p a H s)(E:Value->Shared->Prop):Inv (X.wish E) p a H s:={I.ok.wish E,I.os,I.bare,I.base,I.loc,I.cell,I.free,I.freeC,I.pin,I.hok,I.len}
def Inv.unwish(I:Inv (X.wish E) p a H s):Inv X p a H s:=⟨I.ok.unwish,I.os,I.bare,I.base,I.loc,I.cell,I.free,I.freeC,I.pin,I.hok,I.len⟩
def SP.unwish{D:Ends}{f:Flow}{s':Shared}(h:SP (X.wish E) p D f s'):SP X p D f s':=by
 cases f with
 |next=>let{b,c,I,q}:=h;exact⟨b,c,I.unwish,q⟩
 |brk=>let{b,c,I,q}:=h;exact⟨b,c,I.unwish,q⟩
 |cont=>let{b,c,I,q}:=h;exact⟨b,c,I.unwish,q⟩
 |ret u=>let{v,b,c,I,r,q}:=h;exact⟨v,b,c,I.unwish,r,q⟩
def PSs.nox{st:List Stmt}{t:TS}(h:PSs X.nox st t):PSs X st t:=λp s a H D I b=>
 Zbd (h p s a H D (I.wish _) b) (λ_ _ q=>q.unwish) λ_ _ z=>False.elim z
end
section
variable {X:Cx} {st:Stmt} {r:List Stmt} {t u:TS} {e:Expr} {T:TE} {pos:Pos}
abbrev Ke:TS:=λD b H=>D.nx b H
abbrev Q7(t u:TS):TS:=λD b H=>t {D with nx:=u D} b H
def FG:PSs X [] Ke:=λ_ _ b H _ I h=>Za4 ⟨b,H,I,h⟩
def Bu(j:PS X st t)(l:PSs X r u):PSs X (st::r) (Q7 t u):=by
 intro p s k H D I h;calc wpAny_execs_cons (thn (j p s k H {D with nx:=u D} I h) λf n q=>?_);cases f with
 |next=>
  let{b,d,c,q}:=q;exact l p n b d D c q
 |ret v=>exact q
 |brk=>exact q
 |cont=>exact q
def FH(b:PS X st t):PSs X [st] t:=by
 intro p s c H D I h;calc wpAny_execs_cons (thn (b p s c H D I h) λf d q=>?_);cases f with
 |next=>exact Za4 q
 |ret v=>exact q
 |brk=>exact q
 |cont=>exact q
abbrev Kf:TS:=λD b H=>D.ct b H
def tG:PS X (.Continue pos) Kf:=λ_ _ b H _ I h=>wpAny_Continue ⟨b,H,I,h⟩
def Inv.quiet{p:List (Addr×Obj)}{b:St}{H:Hp}{s:Shared}(I:Inv X p b H s):interactive X.env=aS:=by simp[interactive,I.ok.kind]
abbrev Kg(T:TE):TS:=λD b H=>T b H λ_ h=>D.nx b h
def FI(d:PE X e T)(hs:ZaS e aD pos.line X.env=pure aS:=by rfl):PS X (.Expr e pos) (Kg T):=by
 intro p s b H D I h;exact wpAny_Expr_any (thn (d p s b H _ I h) λv j ⟨x,c,f,r1,q⟩=>⟨b,c,f,q⟩) I.quiet hs
abbrev LC(T:TE):TS:=λD b H=>T b H D.rt
def Bv(d:PE X e T):PS X (.Return (aw e) pos) (LC T):=by
 intro p s b H D I h;exact wpAny_Return_some (thn (d p s b H _ I h) λv j ⟨x,c,f,r1,q⟩=>⟨x,b,c,f,r1,q⟩)
abbrev Q8(c:TT)(t u:TS):TS:=λD d H=>c d H λb h=>if b=aN then t D d h else u D d h
def Q9{c:Expr}{a b:List Stmt}{j:TT}(hc:PT X c j)(v:PSs X a t)(hb:PSs X b u):PS X (.If c a b pos) (Q8 j t u):=by
 intro p s f H D I h;calc wpAny_If (thn (hc p s f H _ I h) λd n ⟨k,l,q⟩=>?_);cases d with
 |true=>exact v p n f k D l q
 |false=>exact hb p n f k D l q
abbrev LG:TS:=λ_ _ _=>False
def Bw:PS X st LG:=λ_ _ _ _ _ _ h=>h.elim
end
@[inline]abbrev TG:=V->St->Hp->(St->Hp->Prop)->Prop
@[inline]abbrev TGs:=List V->St->Hp->(St->Hp->Prop)->Prop
abbrev PG(X:Cx)(T:Expr)(t:TG):Prop:=
 ∀ (p:List (Addr×Obj)) (s:Shared) (c:St) (H:Hp) (v:V) (u:Value) (Q:St->Hp->Prop),Inv X p c H s->aE v u->t v c H Q ->
  wpAny (model X.prog X.w) X.A (assign T X.env u) (λ_ d=>∃b h,Inv X p b h d/\Q b h) X.xe s
abbrev PGs(X:Cx)(T:List Expr)(t:TGs):Prop:=
 ∀ (p:List (Addr×Obj)) (s:Shared) (c:St) (H:Hp) (v:List V) (u:List Value) (Q:St->Hp->Prop),Inv X p c H s->aJ v u->t v c H Q ->
  wpAny (model X.prog X.w) X.A (Os ((On T X.env).map (·.2)) u) (λ_ d=>∃b h,Inv X p b h d/\Q b h) X.xe s
@[inline]abbrev FJ:=V->V->V->Hp->(Hp->Prop)->Prop
abbrev LH(X:Cx)(t:FJ):Prop:=
 ∀ (p:List (Addr×Obj)) (s:Shared) (b:St) (H:Hp) (o i v:V) (O I u:Value) (Q:Hp->Prop),Inv X p b H s->aE o O->aE i I->aE v u->t o i v H Q ->
  wpAny (model X.prog X.w) X.A (setItem O I u) (λ_ c=>∃h,Inv X p b h c/\Q h) X.xe s
section
variable {X:Cx} {pos:Pos}
abbrev tH(i:Nat):TG:=λv b H Q=>Q (b.set i (aw v)) H
def FK{i:Nat}(hN:X.N.Nodup)(hi:X.N[i]?=aw x)(d:Loc X.env.scope x)(c:X.fn x=aN\/X.env.scope.names.lookup x=aw .local:=by first |exact .inl rfl |exact .inr rfl |assumption):PG X (.Name x pos) (tH i):=by
 intro p s f H v u Q I r h;exact wpAny_assign_Name (jg I hN hi d r (λj b=>⟨_,H,b,h⟩) c)
abbrev Ra:TGs:=λv b H Q=>v=[]/\Q b H
abbrev Kh(t:TG)(u:TGs):TGs:=λd c H Q=>∃v r,d=v::r/\t v c H λb h=>u r b h Q
def FL:PGs X [] Ra:=by
 intro p s b H v u Q I r h;let{e,h}:=h;subst e;cases r;exact assignInOrder_nil ⟨b,H,I,h⟩
def Bx{e:Expr}{E:List Expr}{t:TG}{u:TGs}(d:PG X e t)(k:PGs X E u)
  (hs:(On (e::E) X.env).map (·.2)=assign e X.env::(On E X.env).map (·.2):=by rfl):PGs X (e::E) (Kh t u):=by
 intro p s f H z U Q I r h;let{v,B,y,h}:=h;subst y;cases r with
 |cons r n=>
  rw[hs];calc assignInOrder_cons (thn (d p s f H _ _ _ I r h) λ_ l ⟨b,c,j,q⟩=>?_);exact k p l b c _ _ Q j n q
abbrev Rb(K:VX)(n:Nat)(t:TGs):TG:=λv c H Q=>∃a b,v = .ref a/\SqT K H a b/\b.length=n/\t b c H Q
def LI{k:Nat}{n:Nat}(hc:X.calm=aN)(h:PGs X E t)
  (J:(On E X.env).length=n:=by rfl) (d:(On E X.env).findIdx? (·.1)=aD:=by rfl):PG X (.Tuple E k pos) (Rb X.K n t):=by
 intro p s f H v u Q I r c;let{a,O,T,B,z,c}:=c;subst T;cases r;let{C,j,L,U}:=I.tuple B;calc assign_Tuple_tuple (I.ok.hd hc) L (by simp[J,<-z,j.length]) d λq l=>?_;let y:Inv X p f H {s with heap:=q}:=I.kept (t':=s.toks) λb o e=>l b o (ZH (Zv e)) e;exact h p _ f H O _ Q y (by simpa using j) c
abbrev Rc(T c:TE)(t:FJ):TG:=λv b H Q=>T b H λo h=>c b h λi f=>t o i v f λd=>Q b d
def LJ{o i:Expr}{T d:TE}{t:FJ}(E:PE X o T)(hi:PE X i d)(hs:LH X t)
  (C:∀v,assign (.Subscript o i pos) X.env v=(do
   let O <-holding [v] (eval o X.env)
   let b <-holding [v,O] (eval i X.env)
   standAt pos
   holding [v,O,b] (setItem O b v)
   release [v,O,b] []):=by intro _;rfl):PG X (.Subscript o i pos) (Rc T d t):=by
 intro p s c H v u Q I r h;rw[C];calc ZaZ (Za8 (thn (E p s c H _ I h) λO L ⟨x,j,n,r1,q⟩=>?_));calc ZaZ (Za8 (thn (hi p L c j _ n q) λb l ⟨y,B,k,r2,J⟩=>?_));calc ZaZ (Zbv (ZaZ (Za8 (thn (hs p l c B x y v O b u _ k r1 r2 r J) λ_ Y ⟨z,f,U⟩=>?_))));exact wpAny_release ⟨c,z,f,U⟩
abbrev Bz(T:TE)(g:TG):TS:=λD b H=>T b H λx h=>g x b h D.nx
def BA{T e:Expr}{b:TE}{g:TG}(j:PE X e b)(k:PG X T g)(hs:ZaT [T] e pos.line X.env=pure aS:=by rfl)(hw:ZaR [T] e X.env=pure aD:=by rfl)
  (f:(On [T] X.env).map (·.2)=[assign T X.env]:=by rfl):PS X (.Assign [T] e pos) (Bz b g):=by
 intro p s c H D I h;calc wpAny_Assign_stores (thn (j p s c H _ I h) λv n ⟨x,d,l,r1,Q⟩=>?_) hs hw;rw[f];exact thn (k p n c d x v _ l r1 Q) λ_ u q=>q
def LK{i:Nat}{x:Str}{e:Expr}{T:TE}{p:Pos}(hN:X.N.Nodup)(hi:X.N[i]?=aw x)(d:Loc X.env.scope x)(j:PE X e T)(hs:ZaS e (aw (.Name x p)) pos.line X.env=pure aS:=by rfl)(c:X.fn x=aN\/X.env.scope.names.lookup x=aw .local:=by first |exact .inl rfl |exact .inr rfl |assumption) :
  PS X (.Assign [.Name x p] e pos) (Bz T (tH i)):=by
 intro b s k H D I h;calc wpAny_Assign_Name (thn (j b s k H _ I h) λv z ⟨y,f,n,r1,q⟩=>?_) hs;exact jg n hN hi d r1 (λu l=>⟨_,f,l,q⟩) c
abbrev Re(i j:Nat)(T:TA):TS:=λD b H=>T b H λc h=>∃v w,c=[v,w]/\D.nx ((b.set i (aw v)).set j (aw w)) h
def LL{i j:Nat}{x y:Str}{a b:Expr}{Z:TA}{B n pt:Pos}{l J f}(hc:X.calm=aN)(hN:X.N.Nodup)(hi:X.N[i]?=aw x)(hj:X.N[j]?=aw y)(C:i≠j)
  (L:X.env.scope.names.lookup x=aw .local) (U:X.env.scope.names.lookup y=aw .local) (ha:PA X [a,b] Z)
  (hw:ZaR [.Tuple [.Name x B,.Name y n] l pt] (.Tuple [a,b] J f) X.env=pure (aw [x,y]))
  (hs:ZaT [.Tuple [.Name x B,.Name y n] l pt] (.Tuple [a,b] J f) pos.line X.env=pure aS:=by rfl) :
  PS X (.Assign [.Tuple [.Name x B,.Name y n] l pt] (.Tuple [a,b] J f) pos) (Re i j Z):=by
 intro c s Y H D I h;rw[exec_Assign_arm];calc ZaZ (Zbv ?_);rw[hs];calc ZaZ (Zbk ?_);rw[if_neg (by decide)];calc ZaZ (Tuple_ (thn (ha _ c s Y H _ I h) λus k ⟨vs,O,I1,r1,Q⟩=>?_));let{v,w,e1,Q}:=Q;subst e1
 obtain⟨u,u2,rfl,rv,z⟩:∃u u2,us=[u,u2]/\aE v u/\aE w u2:=by
  cases r1 with
  |cons p q=>
   cases q with
   |cons p' q'=>
    cases q';exact⟨_,_,rfl,p,p'⟩
 calc Zbg ?_ (by show 2<=sizeLine;decide);let I2:Inv X c Y O {k with heap:=k.heap.push {cls:=.type "tuple",data:=.seq [u,u2].toArray}}:=I1.kept (t':=k.toks) λb o e=>Zc _ e;rw[hw];calc ZaZ (Zbk ?_);show wpAny (model X.prog X.w) X.A (do rule "assign.swapped-stores"; let d <-unpackItems (.ref k.heap.objs.size) 2 aD;Os [λv=>NE X.env y v,λv=>NE X.env x v] d.reverse;pure Flow.next) _ _ _;calc ZaZ (Zbr (ZaZ (unpackItems_tuple (items:=#[u,u2]) (I.ok.hd hc) (IsTup.new k.heap _) λh' E=>?_)));let I3:=I2.kept (h':=h') (t':=k.toks) λb o e=>E b o (ZH (Zv e)) e;show wpAny _ _ (Os [λv=>NE X.env y v,λv=>NE X.env x v] [u2,u] >>= λ_=>pure Flow.next) _ _ _;calc ZaZ (assignInOrder_cons (wpAny_bindName (jg I3 hN hj (.inl U) z (λs2 I4=>?_) (.inr U))));calc assignInOrder_cons (wpAny_bindName (jg I4 hN hi (.inl L) rv (λs3 T=>assignInOrder_nil (Zbk ?_)) (.inr L)));rw[List.set_comm _ _ (Ne.symm C)]at T;exact⟨_,O,T,Q⟩
end
section
variable {X:Cx} {pos:Pos}
abbrev BC(c:TT)(T:TS):TS:=λD d H=>∃W:Nat->St->Hp->Prop,(∃m,W m d H)/\∀m d H,W m d H ->
 c d H λb h=>if b=aN then ∃N:St->Hp->Prop,(∀f j,N f j->∃k,k < m/\W k f j)/\T {D with nx:=N,ct:=N,bk:=D.nx} d h else D.nx d h
def BD(U:PassesOwn (model X.prog X.w) X.A X.env X.xe)(hc:PT X c Y)(hb:PSs X body tb):PS X (.While c body [] pos) (BC Y tb):=by
 intro p s Z H D I h;let{W,⟨m0,w0⟩,T}:=h;calc wpAny_While (codeAny_whileLoop (λn s'=>∃l E,Inv X p l E s'/\W n l E) ?_ m0 ⟨Z,H,I,w0⟩);rintro n s1 ⟨j,J,I1,w1⟩;calc Zbj U (thn (hc p s1 j J _ I1 (T n j J w1)) λb s2 ⟨O,L,q⟩=>?_);cases b with
 |true=>
  let{N,hN,q}:=q;rw[if_pos rfl];calc Zbj U (thn (hb p s2 j O _ L q) λf s3 Q=>?_);cases f with
  |next=>
   let{d,k,u,z}:=Q;let{y,C,B}:=hN d k z;exact⟨y,C,d,k,u,B⟩
  |cont=>
   let{d,k,u,z}:=Q;let{y,C,B}:=hN d k z;exact⟨y,C,d,k,u,B⟩
  |brk=>exact Q
  |ret v=>exact Q
 |false=>
  rw[if_neg Zh];exact Za4 ⟨j,O,L,q⟩
end
structure It where
 go:Nat->Hp->Prop
 yld:Nat->Hp->V->Hp->Prop
 stop:Nat->Hp->Prop
abbrev iI(X:Cx)(d:List (Addr×Obj))(H:Hp)(b:Addr):Prop:=
 H b=aD/\b≠X.env.locals/\b∉X.fs/\(b∈X.ex\/X.s₀.heap.objs.size<=b)/\(∀x c,X.env.cells.lookup x=aw c->c≠b)/\∀p∈X.pn++d,p.1≠b
def Inv.fpOk(I:Inv X d k H s)(hb:s⁻¹<=b)(h:f b=aD):iI X d f b:=by
 refine{h,Wp (ZD I.lt hb),I.nofs hb,.inr (ZJ I.sz hb),λx c e z=>?_,λp j z=>?_}
 .let{v,q}:=I.cell x c e;exact absurd (ZD q.lt (by rw[z];exact hb)) (ZI _)
 .exact absurd (ZD (Zv (I.pin p j).1) (by rw[z];exact hb)) (ZI _)
structure Turn(P:Program)(w:World)(K:VX)(tg:Expr)(J:It)(fp:List Addr)(it:Addr)(tn:Nat->Heap->Prop):Prop where
 mem:it∈fp
 obj:∀i h,tn i h->∀b∈fp,∃o,h.get? b=aw o/\∀v,o.data≠.cell v
 keep:∀i h h',tn i h->(∀b∈fp,∀o,h.get? b=aw o->h'.get? b=aw o)->tn i h'
 item:∀ (X:Cx),X.prog=P->X.w=w->X.K=K->X.calm=aN->∀ (i:Nat) (pins:List (Addr×Obj)) (s:Shared) (σ:St) (H:Hp) (E:Value->Shared->Prop),Inv X pins σ H s->(∀b∈fp,iI X pins H b)->tn i s.heap->J.go i H ->
  wpAny (model P w) X.A (pyNext (.ref it)) (λr s1=>∃u,r=aw u ∧
   wpAny (model P w) X.A (Zau tg (.ref it) u) (λ_ s2=>∃x H',Inv X pins σ H' s2/\aE x u/\J.yld i H x H'/\tn (i+1) s2.heap/\∀b∈fp,H' b=aD) E s1) E s
 done:∀ (X:Cx),X.prog=P->X.w=w->X.K=K->X.calm=aN->∀ (i:Nat) (pins:List (Addr×Obj)) (s:Shared) (σ:St) (H:Hp) (E:Value->Shared->Prop),Inv X pins σ H s->(∀b∈fp,iI X pins H b)->tn i s.heap->J.stop i H ->
  wpAny (model P w) X.A (pyNext (.ref it)) (λr s1=>r=aD/\Inv X pins σ H s1) E s
 self:∀ (A:Around) (i:Nat) (s:Shared) (Q:Value->Shared->Prop) (E:Value->Shared->Prop),tn i s.heap->Q (.ref it) s->wpAny (model P w) A (pyIter (.ref it)) Q E s
@[inline]abbrev TI:=St->Hp->(It->Hp->Prop)->Prop
abbrev PIE(X:Cx)(p:List (Addr×Obj))(j:St)(k:Expr)(R:It->Hp->Prop)(I:Value)(d:Shared):Prop:=
 ∃ (c:Addr) (f:List Addr) (T:Nat->Heap->Prop) (J:It) (h:Hp),I = .ref c/\Inv X p j h d/\Turn X.prog X.w X.K k J f c T/\T 0 d.heap/\(∀b∈f,iI X p h b)/\R J h
abbrev PI(X:Cx)(T I:Expr)(wi:TI):Prop:=
 ∀ (p:List (Addr×Obj)) (s:Shared) (b:St) (H:Hp) (R:It->Hp->Prop),Inv X p b H s->wi b H R ->
  wpAny (model X.prog X.w) X.A (eval I X.env) (λv c=>wpAny (model X.prog X.w) X.A (pyIter v) (PIE X p b T R) X.xe c) X.xe s
def tI(d:s.heap.get? it=aw o)(hc:o.cls = .type n)(hd:o.data = .fields v)
  (c:["enumerate","zip","dict_itemiterator","dict_reverseitemiterator","odict_iterator","itertools.zip_longest","itertools.pairwise"].contains n=aS) (b:Q () s):wpAny M A (Zau T (.ref it) u) Q E s:=by
 delta Zau
 cases T <;> first
  |exact Zbk b
  | (cases u <;> first
    |exact Zbk b
    | (refine ZaZ (wpAny_load d ?_)
       rw[hc,hd];show wpAny M A (if (["enumerate","zip","dict_itemiterator","dict_reverseitemiterator","odict_iterator","itertools.zip_longest","itertools.pairwise"].contains n && v[0]? == aw (rawInt _))=aN then _ else _) Q E s;rw[if_neg (by intro h;rw[c,XD]at h;cases h)];exact Zbk b))
abbrev Itl(K:VX)(a:Addr):It:=
 {λi H=>∃X x,SqL K H a X/\X[i]?=aw x,λi H x h=>h=H/\∀X,SqL K H a X->X[i]?=aw x,λi H=>∃X,SqL K H a X/\X.length<=i}
abbrev Itt(K:VX)(a:Addr):It:=
 {λi H=>∃X x,SqT K H a X/\X[i]?=aw x,λi H x h=>h=H/\∀X,SqT K H a X->X[i]?=aw x,λi H=>∃X,SqT K H a X/\X.length<=i}
abbrev Itr(lo:Int)(n:Nat):It:={λi _=>i < n,λi H x h=>h=H/\x = .int (lo+i),λi _=>n<=i}
def zH{P:Program}{w:World}{K:VX}{tg:Expr}(a it:Addr):Turn P w K tg (Itl K a) [it] it (λi h=>h.IsListIter it a i) where
 mem:=by simp
 obj:=λi h st b hb=>by
  let e:b=it:=by simpa using hb
  subst e;let{o,e,c,d}:=st;exact{o,e,λv z=>by rw[d]at z;cases z}
 keep:=λi h n st k=>st.at λo e=>k it (by simp) o e
 item:=by
  intro X Y B L hc i f s σ H E I l st T;subst Y B L;let{xs,x,q,y}:=T;let{U,Q,p,hz}:=I.list q;let{u,hu,ru}:=Q.get y;let{Z,O,f2,f3,C,J}:=l it (by simp);calc Zbp st p.isList (x:=u) (by simpa using hu) λn j sb=>?_;let I1:Inv X f σ H {s with heap:=n}:=I.turned (t':=s.toks) (λb o hb e=>(sb.2 b hb).trans e) Z O f3 C J;let{o,e,c,d}:=id j;exact{u,rfl,tI (s:={s with heap:=n}) e c d (by decide) {x,H,I1,ru,{rfl,λys hy=>by rw[I.list_inj hy q];exact y},j,λb hb=>(l b hb).1}}
 done:=by
  intro X Y B L hc i f s σ H E I l st T;subst Y B L;let{xs,q,y}:=T;let{U,Q,p,hz}:=I.list q;let{Z,O,f2,f3,C,J}:=l it (by simp);let hl:=Q.length;exact Zbo (I.ok.hd hc) st p.isList (by simp;lia) λn eb=>{rfl,I.turned (t':=s.toks) (λb o hb e=>eb b o hb e) Z O f3 C J}
 self:=λ_ _ _ _ _ st h=>wpAny_pyIter_listiter st h
def v7{P:Program}{w:World}{K:VX}{tg:Expr}(a it:Addr):Turn P w K tg (Itt K a) [it] it (λi h=>h.IsTupleIter it a i) where
 mem:=by simp
 obj:=λi h st b hb=>by
  let e:b=it:=by simpa using hb
  subst e;let{o,e,c,d}:=st;exact{o,e,λv z=>by rw[d]at z;cases z}
 keep:=λi h q st k=>st.at λo e=>k it (by simp) o e
 item:=by
  intro X Y C O hc i f s σ H E I n st U;subst Y C O;let{xs,x,y,B}:=U;let{j,T,p,hz}:=I.tuple y;let{u,hu,ru}:=T.get B;let{Z,Q,f2,f3,J,L}:=n it (by simp);calc wpAny_pyNext_tuple_item st (show s.heap.IsTuple a j.toArray from p) (x:=u) (by simpa using hu) λq l sb=>?_;let I1:Inv X f σ H {s with heap:=q}:=I.turned (t':=s.toks) (λb o hb e=>(sb.2 b hb).trans e) Z Q f3 J L;let{o,e,c,d}:=id l;exact{u,rfl,tI (s:={s with heap:=q}) e c d (by decide) {x,H,I1,ru,{rfl,λys hy=>by rw[I.tuple_inj hy y];exact B},l,λb hb=>(n b hb).1}}
 done:=by
  intro X Y C O hc i f s σ H E I n st U;subst Y C O;let{xs,y,B}:=U;let{j,T,p,hz}:=I.tuple y;let{Z,Q,f2,f3,J,L}:=n it (by simp);let hl:=T.length;exact wpAny_pyNext_tuple_end (I.ok.hd hc) st (show s.heap.IsTuple a j.toArray from p) (by simp;lia) λq eb=>{rfl,I.turned (t':=s.toks) (λb o hb e=>eb b o hb e) Z Q f3 J L}
 self:=λ_ _ _ _ _ st h=>wpAny_pyIter_tupleiter st h
def v8{P:Program}{w:World}{K:VX}{tg:Expr}(it:Addr)(lo:Int)(n:Nat):Turn P w K tg (Itr lo n) [it] it (λi h=>VJ h it (lo+(i:Nat) * 1) ((n:Int) - (i:Nat)) 1) where
 mem:=by simp
 obj:=λi h st b hb=>by
  let e:b=it:=by simpa using hb
  subst e
  exact⟨_,st,λv z=>by
   let Z:Data.fields _=Data.cell v:=z;cases Z⟩
 keep:=λi h f st k=>k it (by simp) _ st
 item:=by
  intro X J j u B i p s Q H E I d st C;subst J j u;let{L,y,U,O,l,q}:=d it (by simp);let W:=Walks.range (prog:=X.prog) (w:=X.w) (I.ok.hd B) it lo 1 n;calc W.item i s _ _ C st λv f T hv c kk=>?_;let{t,rfl}:=hv;let I1:Inv X p Q H {s with heap:=f,toks:=T}:=I.turned (λb o hb e=>kk b o (by simpa using hb) e) L y O l q;calc{_,rfl,tI (s:={s with heap:=f,toks:=T}) (n := "range_iterator") c rfl rfl (by decide) {.int (lo+i),H,I1,{t,?_},⟨rfl,rfl⟩,c,λb hb=>(d b hb).1}};rw[Int.mul_one]
 done:=by
  intro X J j u B i p s Q H E I d st C;subst J j u;let{L,y,U,O,l,q}:=d it (by simp);exact Zbq (I.ok.hd B) st (by let:n<=i:=C;lia) λf Y=>{rfl,I.turned (t':=s.toks) (λb o hb e=>Y b o hb e) L y O l q}
 self:=λ_ _ _ _ _ st h=>Zbm st h
section
variable {X:Cx} {c:Expr}
abbrev BE(K:VX)(T:TE):TI:=λb H R=>T b H λx h=>∃a,x = .ref a/\(∃d,SqL K h a d)/\R (Itl K a) h
abbrev Rf(K:VX)(T:TE):TI:=λb H R=>T b H λx h=>∃a,x = .ref a/\(∃d,SqT K h a d)/\R (Itt K a) h
def xZ{l:Expr}{T:TE}(hl:PE X l T):PI X c l (BE X.K T):=by
 intro d s n H R I h;calc thn (hl d s n H _ I h) λv j ⟨x,k,f,r1,Q⟩=>?_;let{a,e,⟨C,u⟩,q}:=Q;subst e;cases r1;let{y,B,p,z}:=f.list u;calc Zbl p.isList ?_;calc{j.heap.objs.size,[j.heap.objs.size],_,_,k,rfl,f.kept (t':=j.toks) λb o e=>Zc _ e,zH a _,{_,Zs _ rfl,rfl,rfl},λb hb=>?_,q};let e:b=j.heap.objs.size:=by simpa using hb
 subst e;exact f.fpOk (Zf _) (f.hok.fresh (Zf _))
def LM{l:Expr}{T:TE}(hl:PE X l T):PI X c l (Rf X.K T):=by
 intro f s u H R I h;calc thn (hl f s u H _ I h) λv d ⟨x,n,j,r1,Q⟩=>?_;let{a,e,⟨C,y⟩,q}:=Q;subst e;cases r1;let{k,B,p,z}:=j.tuple y;calc Zbn (show d.heap.IsTuple a k.toArray from p) ?_;calc{d.heap.objs.size,[d.heap.objs.size],_,_,n,rfl,j.kept (t':=d.toks) λb o e=>Zc _ e,v7 a _,{_,Zs _ rfl,rfl,rfl},λb hb=>?_,q};let e:b=d.heap.objs.size:=by simpa using hb
 subst e;exact j.fpOk (Zf _) (j.hok.fresh (Zf _))
def tJ{lo hi:Int}{T:Nat}(I:Inv X p f H s)(j:-(2 ^ 62)<=lo)(k:lo < 2 ^ 62)(l:-(2 ^ 62)<=hi)(h4:hi < 2 ^ 62)
  (q:R (Itr lo (hi - lo).toNat) H):wpAny (model X.prog X.w) X.A (pyIter (.ref s⁻¹)) (PIE X p f c R) E {s with heap:=s.heap.push {cls:=.type "range",data:=.fields #[.int lo t,.int hi u,.int 1 v]},toks:=T}:=by
 calc wpAny_pyIter_range (IsRange.new ..) (small_one j k l h4) ?_;let d:Inv X p f H {s with heap:=s.heap.push {cls:=.type "range",data:=.fields #[.int lo t,.int hi u,.int 1 v]},toks:=T}:=I.kept λb o e=>Zc _ e
 refine⟨(s.heap.push {cls:=.type "range",data:=.fields #[.int lo t,.int hi u,.int 1 v]}).objs.size,[(s.heap.push {cls:=.type "range",data:=.fields #[.int lo t,.int hi u,.int 1 v]}).objs.size],_,_,H,rfl,
  d.kept (t':=T) λb o e=>Zc _ e,v8 _ lo (hi - lo).toNat,?_,λb hb=>?_,q⟩
 .let n:lo+((0:Nat):Int) * 1=lo:=by simp
  let h:(((hi - lo).toNat:Nat):Int) - ((0:Nat):Int)=Builtin.Range.rangeSize lo hi 1:=by rw[ZaG];split <;> lia
  show VJ _ _ (lo+((0:Nat):Int) * 1) ((((hi - lo).toNat:Nat):Int) - ((0:Nat):Int)) 1;rw[n,h];exact Zs _ rfl
 .let e:b=(s.heap.push {cls:=.type "range",data:=.fields #[.int lo t,.int hi u,.int 1 v]}).objs.size:=by simpa using hb
  subst e;exact d.fpOk (Zf _) (d.hok.fresh (Zf _))
abbrev Ki(T:TA):TI:=λb H R=>T b H λv h=>∃j:Int,v=[.int j]/\-(2 ^ 62)<=j/\j < 2 ^ 62/\R (Itr 0 j.toNat) h
abbrev Kj(T:TA):TI:=λb H R=>T b H λv h=>∃i j:Int,v=[.int i,.int j]/\(-(2 ^ 62)<=i/\i < 2 ^ 62/\-(2 ^ 62)<=j/\j < 2 ^ 62)/\R (Itr i (j - i).toNat) h
def zI(u:Gl X "range")(y:X.mg "range" = aD)(l:PA X [a] T)(hs:ZaP [a] X.env=[(aS,eval a X.env)]:=by rfl):PI X c (.Call (.Name "range" p) [a] [] d) (Ki T):=by
 intro b s f H R I h;calc Call_ (eF I u y boot_range (W4 (thn (l d b s f H _ I h) λU C ⟨B,z,k,r1,Q⟩=>?_) hs rfl));let{j,e,Q,n,q}:=Q;subst e;cases r1 with
 |cons r v=>
  cases v;let{t,rfl}:=r;exact call_range_1 (tJ k (by lia) (by lia) Q n (by simpa using q))
def zJ(B:Gl X "range")(J:X.mg "range" = aD)(y:PA X [a,b] T)(hs:ZaP [a,b] X.env=[(aS,eval a X.env),(aS,eval b X.env)]:=by rfl)(d:ZaP [b] X.env=[(aS,eval b X.env)]:=by rfl) :
  PI X c (.Call (.Name "range" p) [a,b] [] l) (Kj T):=by
 intro f s n H R I h;calc Call_ (eF I B J boot_range (W4 (thn (y l f s n H _ I h) λU Z ⟨O,L,v,r1,Q⟩=>?_) (by rw[hs,d]) (by rw[d];rfl)));let{i,j,e,⟨Q,z,C,u⟩,q}:=Q;subst e;cases r1 with
 |cons r k=>
  cases k with
  |cons E k=>
   cases k;let{t,rfl}:=r;let{Y,rfl}:=E;exact call_range_2 (tJ v Q z C u q)
abbrev Rg(wi:TI)(g:TG)(T:TS):TS:=λD b H=>wi b H λJ k=>∃W:Nat->Nat->St->Hp->Prop,(∃m,W 0 m b k)/\∀i m b H,W i m b H ->
 (J.stop i H/\D.nx b H)\/(J.go i H/\∃N:St->Hp->Prop,(∀d h,N d h->∃j,j < m/\W (i+1) j d h)/\∀x h,J.yld i H x h->g x b h λf l=>T {D with nx:=N,ct:=N,bk:=D.nx} f l)
abbrev mI(f:List Addr)(h:Heap):List (Addr×Obj):=f.filterMap λb=>(h.get? b).map λo=>(b,o)
def fC(hb:b∈f)(e:h.get? b=aw o):(b,o)∈mI f h:=Yy.mpr {b,hb,by rw[e];rfl}
def zK(d:p∈mI f h):p.1∈f/\h.get? p.1=aw p.2:=by
 let{b,hb,e}:=Yy.mp d;cases q:h.get? b with
 |none=>rw[q]at e;cases e
 |some o=>
  rw[q]at e;let E:(b,o)=p:=Option.some.inj e;subst E;exact⟨hb,q⟩
def Inv.pinned(I:Inv X f q H s)(j:∀b∈h,iI X f H b)(l:∀b∈h,∃o,s.heap.get? b=aw o/\∀v,o.data≠.cell v):Inv X (f++mI h s.heap) q H s:=
 I.pins_of λp k=>(ZR.mp k).elim (λz=>I.pin p (ZB _ z)) λz=>by
  let{hb,e}:=zK z;let{y,u,n,_}:=j p.1 hb;let{o,E,d}:=l p.1 hb;rw[e]at E;cases E;exact⟨e,y,u,n,d⟩
def Inv.unpinned(I:Inv X (b++f) d H s):Inv X b d H s:=I.pins_of λp h=>I.pin p (ZB _ (ZW _ h))
def LN(Y:PassesOwn (model X.prog X.w) X.A X.env X.xe)(hc:X.calm=aN)(hi:PI X c B wi)(hg:PG X c g)(hb:PSs X body tb)
  (hs:∀x,Zap B X.env x=pure x:=by intro _;rfl):PS X (.For c B body [] pos) (Rg wi g tb):=by
 intro p s σ H D I h;calc wpAny_For (thn (hi p s σ H _ I h) λv s1 h1=>thn h1 λitv s2 h2=>?_) hs;let{it,O,tn,J,H2,e,I2,T,st2,f2,W,⟨m0,w0⟩,Z}:=h2;subst e;let q:∀ {H':Hp},(∀b∈O,H' b=aD)->∀b∈O,iI X p H' b:=λhn b hb=>{hn b hb,(f2 b hb).2};calc codeAny_forLoop_any (λn s'=>∃i z H',Inv X p z H' s'/\tn i s'.heap/\(∀b∈O,H' b=aD)/\W i n z H') ?_ m0 {0,σ,H2,I2,st2,λb hb=>(f2 b hb).1,w0};rintro n s3 ⟨i,l,H3,I3,E,L,w3⟩;rcases Z i n l H3 w3 with ⟨stop,qn⟩ |⟨go,N,hN,step⟩
 .calc Zbj Y (thn (T.done X rfl rfl rfl hc i p s3 l H3 X.xe I3 (q L) E stop) λr s4 ⟨hr,I4⟩=>?_);subst hr;exact Za4 ⟨l,H3,I4,qn⟩
 .calc Zbj Y (thn (T.item X rfl rfl rfl hc i p s3 l H3 X.xe I3 (q L) E go) λr s4 ⟨u,hr,h4⟩=>?_);subst hr;calc Zbj Y (thn h4 λ_ s5 ⟨x,H5,I5,r5,y5,C,fr5⟩=>?_);let I5':=I5.pinned (q fr5) (T.obj _ _ C);calc Zbj Y (thn (hg _ s5 l H5 x u _ I5' r5 (step x H5 y5)) λ_ s6 ⟨σ6,H6,I6,q6⟩=>?_);refine Zbj Y (thn (hb _ s6 σ6 H6 _ I6 q6) λf s7 Q=>?_)
  let again:∀ {j:St} {k:Hp},Inv X (p++mI O s5.heap) j k s7->N j k->∃m,m < n/\∃i z H',Inv X p z H' s7/\tn i s7.heap/\(∀b∈O,H' b=aD)/\W i m z H':=λ{j k} y U=>by
   let{m',hm,w7}:=hN j k U;calc{m',hm,i+1,j,k,y.unpinned,T.keep _ _ _ C λb hb o e=>(y.pin (b,o) (ZB _ (ZB _ (fC hb e)))).1,λb hb=>?_,w7};let{o,e,d}:=T.obj _ _ C b hb;exact(y.pin (b,o) (ZB _ (ZB _ (fC hb e)))).2.1
  cases f with
  |next=>let{j,k,y,U}:=Q;exact again y U
  |cont=>let{j,k,y,U}:=Q;exact again y U
  |brk=>let{j,k,y,Q}:=Q;exact⟨j,k,y.unpinned,Q⟩
  |ret v=>let{x7,j,k,y,r7,Q}:=Q;exact⟨x7,j,k,y.unpinned,r7,Q⟩
end
@[inline]abbrev R2:=V->V->Hp->VK->Prop
abbrev OpR(X:Cx)(f:Value->Value->Sem Value)(r:R2):Prop:=
 ∀ (p:List (Addr×Obj)) (s:Shared) (b:St) (H:Hp) (x y:V) (v u:Value) (Q:VK),Inv X p b H s->aE x v->aE y u->r x y H Q ->
  wpAny (model X.prog X.w) X.A (f v u) (EP X p b Q) X.xe s
abbrev UnR(X:Cx)(f:Value->Sem Value)(r:V->Hp->VK->Prop):Prop:=
 ∀ (p:List (Addr×Obj)) (s:Shared) (b:St) (H:Hp) (x:V) (v:Value) (Q:VK),Inv X p b H s->aE x v->r x H Q ->
  wpAny (model X.prog X.w) X.A (f v) (EP X p b Q) X.xe s
abbrev aV(X:Cx)(f:Value)(r:List V->Hp->VK->Prop):Prop:=
 ∀ (p:List (Addr×Obj)) (s:Shared) (b:St) (H:Hp) (c:List V) (u:List Value) (Q:VK),Inv X p b H s->aJ c u->r c H Q ->
  wpAny (model X.prog X.w) X.A (call f u) (EP X p b Q) X.xe s
abbrev Uv(X:Cx)(r:V->Hp->(Bool->Hp->Prop)->Prop):Prop:=
 ∀ (p:List (Addr×Obj)) (s:Shared) (b:St) (H:Hp) (x:V) (v:Value) (Q:Bool->Hp->Prop),Inv X p b H s->aE x v->r x H Q ->
  wpAny (model X.prog X.w) X.A (truthy v) (TP X p b Q) X.xe s
abbrev tOp(r:R2)(T d:TE):TE:=λb H Q=>T b H λx h=>d b h λy c=>r x y c Q
abbrev tUn(r:V->Hp->VK->Prop)(T:TE):TE:=λb H Q=>T b H λx h=>r x h Q
abbrev rI(C:Int->Int->Prop)(g:Int->Int->V):R2:=λx y H Q=>∃i j,x = .int i/\y = .int j/\C i j/\Q (g i j) H
abbrev rI0(g:Int->Int->V):R2:=λx y H Q=>∃i j,x = .int i/\y = .int j/\Q (g i j) H
abbrev rU(g:Int->V):V->Hp->VK->Prop:=λx H Q=>∃i,x = .int i/\Q (g i) H
section
variable {X:Cx} {a b c:Expr} {T d e:TE} {pos:Pos}
def LP(B:PE X a T)(hb:PE X b d){p:List (Addr×Obj)}{s:Shared}{j:St}{H:Hp}{R:V->V->Hp->Prop}(I:Inv X p j H s)
  (h:T j H λx z=>d j z λy k=>R x y k) {Q:Value->Shared->Prop} {f:Value->Value->Sem Value}
  (C:∀v u q x y k,Inv X p j k q->aE x v->aE y u->R x y k->wpAny (model X.prog X.w) X.A (f v u) Q X.xe q) :
  wpAny (model X.prog X.w) X.A (eval a X.env) (λv n=>wpAny (model X.prog X.w) X.A (eval b X.env) (λu l=>wpAny (model X.prog X.w) X.A (f v u) Q X.xe l) X.xe n) X.xe s:=by
 calc thn (B p s j H _ I h) λv U ⟨x,z,O,r1,E⟩=>?_;calc thn (hb p U j z _ O E) λu q ⟨y,k,L,r2,J⟩=>?_;exact C v u q x y k L r1 r2 J
def Rh{op:VM}{r:R2}(k:OpR X (OS op) r)(f:PE X a T)(hb:PE X b d):PE X (.BinOp a op b pos) (tOp r T d):=by
 intro p s n H Q I h;exact wpAny_BinOp (LP f hb I h λv u j x y C z B l q=>k p j n C x y v u Q z B l q)
def x5(l:UnR X (unaryOp op) r)(j:PE X a T):PE X (.UnaryOp op a pos) (tUn r T):=by
 intro p s f H Q I h;exact UnaryOp_ (thn (j p s f H _ I h) λv u ⟨x,k,n,r1,q⟩=>l p u f k x v Q n r1 q)
def opI{f:Value->Value->Sem Value}{C:Int->Int->Prop}{g:Int->Int->Int}
  (rule:∀ (i j:Int) (t u:Tok) (s:Shared) (Q:Value->Shared->Prop) (E:Value->Shared->Prop),C i j->Q (.int (g i j) s.toks) {s with toks:=s.toks+1}->wpAny (model X.prog X.w) X.A (f (.int i t) (.int j u)) Q E s) :
  OpR X f (rI C λi j=>.int (g i j)):=by
 intro p s B H x y v u Q I z l h;let{i,j,rfl,rfl,n,q}:=h;let{t,rfl}:=z;let{k,rfl}:=l;exact rule i j t k s _ _ n {.int (g i j),H,I.tok _,⟨_,rfl⟩,q}
def Ri{f:Value->Value->Sem Value}{g:Int->Int->Int}
  (rule:∀ (i j:Int) (t u:Tok) (s:Shared) (Q:Value->Shared->Prop) (E:Value->Shared->Prop),Q (.int (g i j) s.toks) {s with toks:=s.toks+1}->wpAny (model X.prog X.w) X.A (f (.int i t) (.int j u)) Q E s) :
  OpR X f (rI0 λi j=>.int (g i j)):=by
 intro p s z H x y v u Q I n l h;let{i,j,rfl,rfl,q}:=h;let{t,rfl}:=n;let{k,rfl}:=l;exact rule i j t k s _ _ {.int (g i j),H,I.tok _,⟨_,rfl⟩,q}
def FM{f:Value->Value->Sem Value}{g:Int->Int->Bool}
  (rule:∀ (i j:Int) (t u:Tok) (s:Shared) (Q:Value->Shared->Prop) (E:Value->Shared->Prop),Q (.bool (g i j)) s->wpAny (model X.prog X.w) X.A (f (.int i t) (.int j u)) Q E s) :
  OpR X f (rI0 λi j=>.bl (g i j)):=by
 intro p s z H x y v u Q I n l h;let{i,j,rfl,rfl,q}:=h;let{t,rfl}:=n;let{k,rfl}:=l;exact rule i j t k s _ _ {.bl (g i j),H,I,rfl,q}
abbrev Uw(i j:Int):Prop:=0<=j/\j<=1000000/\i.natAbs < 2 ^ 64
abbrev Rj(i j:Int):Prop:=(-(2 ^ 64) < i/\i < 2 ^ 64)\/(-(2 ^ 64) < j/\j < 2 ^ 64)
def Rj.ok{i j:Int}(h:Rj i j):IntMulOk i j:=by
 rcases h with ⟨k,f⟩ |⟨k,f⟩
 .exact .of_left (intBits_le_64 k f)
 .exact .of_right (intBits_le_64 k f)
def LQ:OpR X (OS .Add) (rI0 λi j=>.int (i+j)):=Ri λ_ _ _ _ _ _ _ q=>add_int q
def LR:OpR X (OS .Sub) (rI0 λi j=>.int (i - j)):=Ri λ_ _ _ _ _ _ _ q=>sub_int q
def LS:OpR X (OS .Mult) (rI Rj λi j=>.int (i * j)):=opI λ_ _ _ _ _ _ _ h q=>mul_int q h.ok
def LU:OpR X (OS .Mod) (rI (λ_ j=>0 < j) λi j=>.int (i % j)):=opI λi j _ _ _ _ _ h q=>by
 let f:(0:Int) < j:=h;exact mod_int' (by lia) (by rw[Int.fmod_eq_emod_of_nonneg i (by lia)];exact q)
def LV:OpR X (OS .Pow) (rI Uw λi j=>.int (i ^ j.toNat)):=opI λ_ _ _ _ _ _ _ h q=>pow_int_small h.1 h.2.1 h.2.2 q
def unI{f:Value->Sem Value}{g:Int->Int}
  (rule:∀ (i:Int) (t:Tok) (s:Shared) (Q:Value->Shared->Prop) (E:Value->Shared->Prop),Q (.int (g i) s.toks) {s with toks:=s.toks+1}->wpAny (model X.prog X.w) X.A (f (.int i t)) Q E s) :
  UnR X f (rU λi=>.int (g i)):=by
 intro p s k H x v Q I j h;let{i,rfl,q}:=h;let{t,rfl}:=j;exact rule i t s _ _ {.int (g i),H,I.tok _,⟨_,rfl⟩,q}
def rb:UnR X (unaryOp .USub) (rU λi=>.int (-i)):=unI λ_ _ _ _ _ q=>neg_int q
end
section
variable {X:Cx} {a b c:Expr} {T f g:TE} {pos:Pos}
def BF(I:Inv X p h H s)(q:Q (.bl k) H)(e:k=d):EP X p h Q (.bool d) s:=by
 subst e;exact{.bl k,H,I,rfl,q}
def Rk:OpR X (Zaj .Lt) (rI0 λi j=>.bl (decide (i < j))):=FM λ_ _ _ _ _ _ _ q=>lt_int q
def Rm:OpR X (Zaj .LtE) (rI0 λi j=>.bl (decide (i<=j))):=FM λ_ _ _ _ _ _ _ q=>le_int q
def Rn:OpR X (Zaj .Gt) (rI0 λi j=>.bl (decide (j < i))):=FM λ_ _ _ _ _ _ _ q=>gt_int q
def Ro:OpR X (Zaj .GtE) (rI0 λi j=>.bl (decide (j<=i))):=FM λ_ _ _ _ _ _ _ q=>ge_int q
def LW:OpR X (Zaj .Is) (λx y H Q=>y = .non/\Q (.bl (decide (x = .non))) H):=by
 intro p s k H x y v u Q I d j h;let{rfl,q}:=h;cases j;refine is_none_gen (BF I q ?_)
 cases x <;> first
  |(cases d;rfl)
  |(let{t,rfl}:=d;rfl)
def FN:OpR X (Zaj .IsNot) (λx y H Q=>y = .non/\Q (.bl (!decide (x = .non))) H):=by
 intro p s k H x y v u Q I d j h;let{rfl,q}:=h;cases j;refine isnot_none_gen (BF I q ?_)
 cases x <;> first
  |(cases d;rfl)
  |(let{t,rfl}:=d;rfl)
def FO{op:CmpOp}{r:R2}(k:OpR X (Zaj op) r)(d:PE X a T)(hb:PE X b f)(n:OR op b=aS):PE X (.Compare a [op] [b] pos) (tOp r T f):=by
 intro p s z H Q I h;exact wpAny_Compare1 (LP d hb I h λv u j x y E B C l q=>k p j z E x y v u Q B C l q) n
abbrev Kk(t:TE):TT:=λd H Q=>t d H λx h=>∃k,x = .bl k/\Q k h
def FP(U:OpR X (Zaj op) r)(O:PE X a T)(hb:PE X b f)(hm:OR op b=aS):PT X (.Compare a [op] [b] pos) (Kk (tOp r T f)):=by
 intro p s d H Q I h
 refine wpAny_isTrue_Compare1 (thn (O p s d H _ I h) λv Z ⟨x,l,E,r1,q⟩=>thn (hb p Z d l _ E q) λu B ⟨y,L,n,r2,Y⟩=>
  thn (U p B d L x y v u _ n r1 r2 Y) λc s3 ⟨z,J,j,C,k,e,q3⟩=>?_) hm
 subst e;cases C;exact Zbw ⟨J,j,q3⟩
abbrev v9(r j:R2)(T f g:TE):TE:=λd H Q=>T d H λx n=>f d n λy q=>r x y q λz h=>∃k,z = .bl k ∧
 (if k=aN then g d h λp l=>j y p l Q else Q (.bl aS) h)
def BG(ho:OpR X (Zaj op) r)(l:OpR X (Zaj O) r')(ha:PE X a T)(hb:PE X b f)(hc:PE X c g)
  (hm:lastMarks [op,O] [b,c]=aS:=by with_unfolding_all rfl):PE X (.Compare a [op,O] [b,c] pos) (v9 r r' T f g):=by
 intro p s j H Q I h
 refine Compare_chain (thn (ha p s j H _ I h) λv s1 ⟨x,E,I1,r1,J⟩=>chain_link (thn (hb p s1 j E _ I1 J) λu Y ⟨y,H2,L,r2,q2⟩=>
  thn (ho p Y j H2 x y v u _ L r1 r2 q2) λd s3 ⟨z,q,n,r3,k,e,B⟩=>?_)) hm
 subst e;cases r3;calc Zbw ?_;cases k with
 |false=>exact ite_ff {.bl aS,q,n,rfl,B}
 |true=>exact ite_tt (chain_last (thn (hc p s3 j q _ n B) λw' s4 ⟨Z,H4,I4,C,U⟩=>l p s4 j H4 y Z u w' Q I4 r2 C U))
def BH(ho:OpR X (Zaj op) r)(l:OpR X (Zaj O) r')(ha:PE X a T)(hb:PE X b f)(hc:PE X c g)
  (hm:lastMarks [op,O] [b,c]=aS:=by with_unfolding_all rfl):PT X (.Compare a [op,O] [b,c] pos) (Kk (v9 r r' T f g)):=by
 intro p s j H Q I h
 refine isTrue_chain (thn (ha p s j H _ I h) λv s1 ⟨x,J,I1,r1,U⟩=>test_link (thn (hb p s1 j J _ I1 U) λu s2 ⟨y,H2,Y,r2,q2⟩=>
  thn (ho p s2 j H2 x y v u _ Y r1 r2 q2) λd s3 ⟨z,q,n,r3,k,e,B⟩=>?_)) hm
 subst e;cases r3;calc Zbw ?_;cases k with
 |false=>
  let{k',e',C}:=B;cases e';exact ite_ff ⟨q,n,C⟩
 |true=>
  calc ite_tt (test_last (thn (hc p s3 j q _ n B) λw' s4 ⟨z',H4,I4,E,Z⟩=>thn (l p s4 j H4 y z' u w' _ I4 r2 E Z) λd' s5 ⟨z2,H5,L,r5,k2,e2,q5⟩=>?_));subst e2;cases r5;exact Zbw ⟨H5,L,q5⟩
abbrev FQ(K:VX)(x:V)(H:Hp)(k:Bool):Prop:=
 match x with
 |.non=>k=aS
 |.bl b=>k=b
 |.int i=>k=(i != 0)
 |.str y=>y.length<=sizeLine/\k=((y.length:Int) != 0)
 |.byt y=>y.size<=sizeLine/\k=((y.size:Int) != 0)
 |.ref p=>(∃h,SqL K H p h/\k = !h.isEmpty)\/(∃h,SqT K H p h/\k = !h.isEmpty)\/∃d,H p=aw (.dK d)/\k = !d.isEmpty
 |_=>False
def wa{d:Type}{k:List (d×V)}{v:List (d×Value)}(r:KV k v):(!v.isEmpty) = !k.isEmpty:=by
 cases r <;> rfl
def mJ{xs:List V}{its:List Value}(r:aJ xs its):(!its.toArray.isEmpty) = !xs.isEmpty:=by
 cases r <;> simp
def jW:(sizeLine:Nat) < 2 ^ 63:=by rw[ZaN];decide
def LX:Uv X (λx H Q=>∃k,FQ X.K x H k/\Q k H):=by
 intro J s U H x v Q I n h;let{k,e,q}:=h;let Y:=jW;let hs:sizeLine=16777216:=ZaN;cases x with
 |non=>
  cases n;let E:k=aS:=e;subst E;exact truthy_none ⟨H,I,q⟩
 |bl b=>
  cases n;let E:k=b:=e;subst E;exact Zbw ⟨H,I,q⟩
 |int i=>
  let{t,rfl}:=n;let E:k=(i != 0):=e;subst E;exact PySem.P.truthy_int ⟨H,I,q⟩
 |str y=>
  let{t,rfl}:=n;obtain⟨L,E⟩:y.length<=sizeLine/\k=((y.length:Int) != 0):=e;subst E;exact PySem.P.truthy_str (by lia) {H,I.tok _,q}
 |byt y=>
  let{t,rfl}:=n;obtain⟨L,E⟩:y.size<=sizeLine/\k=((y.size:Int) != 0):=e;subst E;exact PySem.W.truthy_bytes (by lia) {H,I.tok _,q}
 |ref p=>
  cases n;let E:(∃l,SqL X.K H p l/\k = !l.isEmpty)\/(∃l,SqT X.K H p l/\k = !l.isEmpty)\/∃d,H p=aw (.dK d)/\k = !d.isEmpty:=e;rcases E with ⟨l,u,E⟩ |⟨l,u,E⟩ |⟨d,u,E⟩
  .subst E;let{B,r,z,C}:=I.list u;let j:=r.length;exact wpAny_truthy_list z.isList (by simp![Zk];lia) {H,I.tok _,by rw[mJ r];exact q}
  .subst E;let{B,r,z,C}:=I.tuple u;let j:=r.length;exact truthy_tuple z (by simp![Zk];lia) {H,I.tok _,by rw[mJ r];exact q}
  .subst E;obtain⟨C,O,vs,r,m⟩:d.length<=sizeLine/\(p == ZaU)=aS/\∃vs,KV d vs/\s.heap.DictOf (bf X.prog X.w) p vs:=I.hok p _ u;let j:d.length=vs.length:=Paired.length r;exact wpAny_truthy_dict O m (by lia) {H,I.tok _,by rw[wa r];exact q}
 |_=>exact(show False from e).elim
def BI(n:PE X a T)(u:∀d,isTrue a X.env d=(do let v <-d;standAt a.pos;holding [v] (truthy v))) :
  PT X a (λj H Q=>T j H λx l=>∃k,FQ X.K x l k/\Q k l):=by
 intro p s j H Q I h;exact isTrue_plain (thn (n p s j H _ I h) λv B ⟨x,q,z,r1,y⟩=>LX p B j q x v Q z r1 y) (u _)
def wb:OpR X (OS .Add) (λx y H Q=>∃i j,x = .str i/\y = .str j/\i.length+j.length<=sizeLine/\Q (.str (i++j)) H):=by
 intro p s z H x y v u Q I n l h;let{i,j,rfl,rfl,k,q}:=h;let{t,rfl}:=n;let{d,rfl}:=l;exact add_str (λd B=>{.str (i++j),H,I.tok _,⟨_,rfl⟩,q}) k
def bQ(r:aJ [x] U):∃u,U=[u]/\aE x u:=by
 cases r with
 |cons r1 r2=>cases r2;exact⟨_,rfl,r1⟩
def mL(r:aJ [x,y] U):∃u w',U=[u,w']/\aE x u/\aE y w':=by
 cases r with
 |cons r1 r2=>
  cases r2 with
  |cons h d=>cases d;exact⟨_,_,rfl,r1,h⟩
def zL(hc:X.calm=aN):aV X (.builtin "max") (λxs H Q=>∃i j,xs=[.int i,.int j]/\Q (.int (if j > i then j else i)) H):=by
 intro p s v H xs U Q I r h;let{i,j,rfl,q}:=h;let{u,y,rfl,⟨t,rfl⟩,⟨l,rfl⟩}:=mL r;calc max_two_ints (I.ok.hd hc) λn z k=>{_,H,I.kept k,?_,q};by_cases d:j > i
 .rw[if_pos d,if_pos d];exact⟨_,rfl⟩
 .rw[if_neg d,if_neg d];exact⟨_,rfl⟩
def zM(hc:X.calm=aN):aV X (.builtin "min") (λxs H Q=>∃i j,xs=[.int i,.int j]/\Q (.int (if j < i then j else i)) H):=by
 intro p s v H xs U Q I r h;let{i,j,rfl,q}:=h;let{u,y,rfl,⟨t,rfl⟩,⟨l,rfl⟩}:=mL r;calc min_two_ints (I.ok.hd hc) λn z k=>{_,H,I.kept k,?_,q};by_cases d:j < i
 .rw[if_pos d,if_pos d];exact⟨_,rfl⟩
 .rw[if_neg d,if_neg d];exact⟨_,rfl⟩
end
structure ObjM(h:Heap)(x dx C:Addr)(mA:Str->Option Value):Prop where
 obj:h.get? x=aw (V2 C dx)
 ns:h.Ns1 dx mA
 ne:dx≠x
def zN{h:Heap}{d:Addr}{c:Str->Option Value}(n:h.Ns1 d c):∃O,h.get? d=aw O/\∀name,ST name O=aw (c name):=by
 let{o,E,u,f,hd,p,_,j}:=n;calc{o,f,λname=>?_};let e:=j name;delta nsFind findBy at e;rw[<-Array.find?_toList]at e;delta PySem.W.lookIn;rw[hd];dsimp!;split
 .rename_i y q;rw[q]at e;exact congrArg aw e
 .rename_i q;rw[q]at e
  let a:E.toList.any (·.refKey)=aS:=by
   rw[List.any_eq_false];intro y k;let{z,t,b}:=p y (X6.mp k);simp[DictEntry.refKey,b]
  let l:¬ E.toList.any (·.refKey)=aN:=by rw[a];exact Zh
  rw[if_neg l];exact congrArg aw e
def ObjM.look(I:ObjM h x d C b):∃O,PySem.W.InstAt h x (V2 C d) C (aw O)/\∀name,ST name O=aw (b name):=
 let ⟨O,ho,hl⟩:=zN I.ns
 ⟨O,⟨I.obj,rfl,rfl,ho⟩,hl⟩
def vY.some_of(r:vY (aw v) o):∃u,o=aw u/\aE v u:=by
 cases o with
 |none=>exact(show False from r).elim
 |some u=>exact⟨u,rfl,r⟩
section
variable {P:Program} {w:World} {H b:Hp} {h h':Heap} {a C c:Addr} {fs g:List (Str×V)}
def FR(hok:HOk P w H h)(e:H a=aw (.ins C c fs)):∃j,ObjM h a c C j/\(∀f,vY (fs.lookup f) (j f))/\PySem.Within j (fs.map (·.1))/\fs.length<=1000/\H c=aw (.own a):=by
 let{d,z,ne,ob,j,n,r,q}:=(show ba P w H h a (.ins C c fs) from hok a _ e);exact⟨j,⟨ob,n,ne⟩,r,q,z,d⟩
end
structure Cls(K:VX)(C:Addr):Prop where
 pg:RW K C Str.empty=aN
 hd:PySem.W.hasDictIn K C=aN
 po:PySem.W.plainOver K C=aN
 sa:V0 K (.ref C) "__setattr__" = aw (aw (.builtin "object.__setattr__"))
def Cls.get{K:VX}{C:Addr}(c:Cls K C)(f:Str):RW K C f=aN:=c.pg
section
variable {X:Cx} {d:List (Addr×Obj)} {f:St} {H:Hp} {s:Shared} {A:Around} {E:Value->Shared->Prop} {Q:Value->Shared->Prop} {c:Value} {b:Bool}
inductive TyOf(K:VX)(H:Hp):V->Value->Prop where
 |non:TyOf K H .non (.type "NoneType")
 |bl (x:Bool):TyOf K H (.bl x) (.type "bool")
 |int (i:Int):TyOf K H (.int i) (.type "int")
 |str (x:Str):TyOf K H (.str x) (.type "str")
 |flt (x:UInt64):TyOf K H (.flt x) (.type "float")
 |lst {a:Addr} {xs:List V} (e:H a=aw (.lst xs)):TyOf K H (.ref a) (.type "list")
 |frz {a:Addr} {o:Obj} {xs:List V} (e:H a=aw (.frz o (.lst xs))):TyOf K H (.ref a) (.type "list")
 |tup {a:Addr} {xs:List V} (e:H a=aw (.tup xs)):TyOf K H (.ref a) (.type "tuple")
 |dK {a:Addr} {kvs:List (Key×V)} (e:H a=aw (.dK kvs)):TyOf K H (.ref a) (.type "dict")
 |dT {a:Addr} {kvs:List (List NK×V)} (e:H a=aw (.dT kvs)):TyOf K H (.ref a) (.type "dict")
 |ins {a C dx:Addr} {fs:List (Str×V)} (e:H a=aw (.ins C dx fs)) (cl:Cls K C) (ha:V0 K (.ref C) "__class__" = aw (aw (.builtin "object.__class__")))
   (hn:PySem.W.specialIn K (.builtin "object.__class__") "__get__" = aw (aw (.builtin "getset_descriptor.__get__"))) (htk:PySem.W.takesIn K (.builtin "object.__class__")=aw aN)
   (hm:PySem.W.mroIn K C (.type "object")=aw aN):TyOf K H (.ref a) (.ref C)
def zO(I:Inv X d f H s)(j:aE x u)(ty:TyOf X.K H x t)(e:Up X.K t c=aw b)(h:∀T,Q (.bool b) {s with toks:=T}) :
  wpAny (model X.prog X.w) A (call (.builtin "isinstance") [u,c]) Q E s:=by
 cases ty with
 |non=>cases (show u=Value.none from j);exact V9 PySem.W.kitx_none I.kIn True.intro e (λz=>nomatch z) h
 |bl y=>cases (show u=Value.bool y from j);exact V9 PySem.W.kitx_bool I.kIn True.intro e (λz=>nomatch z) h
 |int i=>let{t,q}:=(show ∃t,u=Value.int i t from j);cases q;exact V9 PySem.W.kitx_int I.kIn True.intro e (λz=>nomatch z) h
 |str y=>let{t,q}:=(show ∃t,u=Value.str y t from j);cases q;exact V9 PySem.W.kitx_str I.kIn True.intro e (λz=>nomatch z) h
 |flt y=>let{t,q}:=(show ∃t,u=Value.float y t from j);cases q;exact V9 PySem.W.kitx_float I.kIn True.intro e (λz=>nomatch z) h
 |@lst a l ea=>
  cases (show u=Value.ref a from j);let{_,_,n,_,k}:=(show ba X.prog X.w H s.heap a (.lst l) from I.hok a _ ea);exact V9 Tm I.kIn ⟨_,k,rfl⟩ e (λz=>nomatch z) h
 |@frz a ob l ea=>
  cases (show u=Value.ref a from j);let{_,_,_,n,_,k}:=(show ba X.prog X.w H s.heap a (.frz ob (.lst l)) from I.hok a _ ea);exact V9 Tm I.kIn ⟨_,k,rfl⟩ e (λz=>nomatch z) h
 |@tup a l ea=>
  cases (show u=Value.ref a from j);let{_,_,_,p}:=(show ba X.prog X.w H s.heap a (.tup l) from I.hok a _ ea);let{o,k,v,_}:=p;exact V9 PySem.W.kitx_tuple I.kIn ⟨o,k,v⟩ e (λz=>nomatch z) h
 |@dK a kvs ea=>
  cases (show u=Value.ref a from j);let{_,_,U,_,p}:=(show ba X.prog X.w H s.heap a (.dK kvs) from I.hok a _ ea);let{o,L,B,k,v,_}:=p;exact V9 UP I.kIn ⟨o,k,v.1⟩ e (λz=>nomatch z) h
 |@dT a kvs ea=>
  cases (show u=Value.ref a from j);let{_,_,l,_,o,L,B,k,v,_}:=(show ba X.prog X.w H s.heap a (.dT kvs) from I.hok a _ ea);exact V9 UP I.kIn ⟨o,k,v.1⟩ e (λz=>nomatch z) h
 |@ins a C dx fs ea cl ha hn htk hm=>
  cases (show u=Value.ref a from j);let{Z,O,_}:=FR I.hok ea;let{Y,J,_}:=O.look;exact V9 (PySem.W.kitx_own (cl.get _) cl.hd ha hn htk hm) I.kIn J e (λz=>nomatch z) h
end
structure Room(k:Nat)(A:Around):Prop where
 hd:A.handled=aD
 dp:A.depth+3 * k+5 < recursionLimit
 un:A.units+16 * k+200 < cLine
 gd:A.guards=aw []
def Room.deeper{k:Nat}(r:Room (k+1) A)(env:Env):Room k (A.deeper env):=
 {r.hd,by let:=r.dp;show A.depth+1+3 * k+5 < _;lia,by let:=r.un;show A.units+3+16 * k+200 < _;lia,r.gd}
def Room.in1{k:Nat}(r:Room (k+1) A):Room k A.in1:=
 {r.hd,by let:=r.dp;show A.depth+3 * k+5 < _;lia,by let:=r.un;show A.units+1+16 * k+200 < _;lia,r.gd}
def Room.depth{k:Nat}(r:Room k A):A.depth < recursionLimit:=by let:=r.dp;lia
def Room.units{k:Nat}(r:Room k A):A.units+64 < cLine:=by let:=r.un;lia
def Room.units0{k:Nat}(r:Room k A):A.units < cLine:=by let:=r.un;lia
abbrev ji:TA:=λ_ H Q=>Q [] H
abbrev cf(T:TE)(tr:TA):TA:=λb H Q=>T b H λx h=>tr b h λX c=>Q (x::X) c
section
variable {X:Cx} {e:Expr} {es:List Expr} {T:TE} {t:TA} {pos:Pos}
def rc:PA X [] ji:=λ_ _ _ _ H Q I h=>Calls.spliced_nil ⟨[],H,I,.nil,h⟩
def l5(c:PE X e T)(k:PA X es t)(hs:ZaP (e::es) X.env=(aS,eval e X.env)::ZaP es X.env:=by rfl):PA X (e::es) (cf T t):=by
 intro pos p s b H Q I h;rw[hs];show wpAny _ _ (spliced ((aS,eval e X.env)::backTo pos (ZaP es X.env))) _ _ s;calc Calls.spliced_cons (thn (c p s b H _ I h) λu y ⟨x,d,n,r1,q⟩=>?_);exact thn (k pos p y b d _ n q) λU z ⟨l,v,j,r2,f⟩=>{x::l,v,j,.cons r1 r2,f}
abbrev LY(t:TA):TE:=λc H Q=>t c H λb h=>b.length<=sizeLine/\∀p,h p=aD->Q (.ref p) (upd h p (.tup b))
abbrev Rp(t:TA):TE:=λc H Q=>t c H λb h=>b.length<=sizeLine/\∀p,h p=aD->Q (.ref p) (upd h p (.lst b))
def BJ{j}(h:PA X es t):PE X (.Tuple es j pos) (LY t):=by
 intro p s n H Q I k;calc wpAny_Tuple_spliced (thn (h pos p s n H _ I k) λU c ⟨v,d,f,r,z,q⟩=>{by rw[<-r.length];exact z,?_});let l:d c.heap.objs.size=aD:=f.hok.fresh (Zf _);calc{.ref c.heap.objs.size,upd d c.heap.objs.size (.tup v),f.laid (t':=c.toks) (λb u e=>Zc _ e) (Zf _) ?_,rfl,q _ l};exact{z,U,r,ra.new _ _}
def LZ(h:PA X es t):PE X (.List es pos) (Rp t):=by
 intro p s l H Q I j;calc wpAny_List_spliced (thn (h pos p s l H _ I j) λU c ⟨n,d,f,r,z,q⟩=>{by rw[<-r.length];exact z,?_});let k:d c.heap.objs.size=aD:=f.hok.fresh (Zf _);calc{.ref c.heap.objs.size,upd d c.heap.objs.size (.lst n),f.laid (t':=c.toks) (λb u e=>Zc _ e) (Zf _) ?_,rfl,q _ k};exact{z,U,0,r,Zs _ rfl}
end
@[inline]abbrev Sp:=List V->Hp->VK->XK->Prop
@[inline]abbrev CXT:=List Env->Hp->Shared->XK->Value->Shared->Prop
structure Env0(P:Program)(w:World)(K:VX)(mg:Str->Option Value)(base:Heap)(A:Around)(outer:List Env)(s:Shared)(H:Hp):Prop where
 frames:A.frames=aw outer
 mod:Mod K mg base
 bs:∀b o,base.get? b=aw o->s.heap.get? b=aw o/\H b=aD
 bsz:base.objs.size<=s⁻¹
 funs:s.heap.FunFrames base outer
 frf:∀b∈frs outer,H b=aD
 hok:HOk P w H s.heap
 bare:AllBare s.gens
abbrev CE(outer:List Env)(P:Program)(w:World)(H:Hp)(s:Shared)(Q:VK)(u:Value)(b:Shared):Prop:=
 ∃v h,b.os=s.os/\AllBare b.gens/\Un (frs outer) [] H h s.heap b.heap/\HOk P w h b.heap/\aE v u/\Q v h
abbrev CR(C:CXT)(outer:List Env)(P:Program)(w:World)(H:Hp)(s:Shared)(Q:VK)(E:XK)(r:Result)(b:Shared):Prop:=
 match r with
 |.ok (.ret u)=>CE outer P w H s Q u b
 |.ok _=>False
 |.error e=>C outer H s E e b
structure FnOk(P:Program)(w:World)(K:VX)(mg:Str->Option Value)(base:Heap)(CX:CXT)(k:Nat)(f:Addr)(fd:VH)(ps:List Str)(sp:Sp):Prop where
 len:∀vs H Q E,sp vs H Q E->vs.length=ps.length
 run:∀ (A:Around) (outer:List Env) (s:Shared) (H:Hp) (args:Args) (us:List Value) (vs:List V) (Q:VK) (E:XK),Room k A->Env0 P w K mg base A outer s H->BindsTo s fd args (ps.zip us)->aJ vs us->sp vs H Q E ->
  codeAny (model P w) A (.call (.ref f) args) (CR CX outer P w H s Q E) s
def Env0.in1{P:Program}{w:World}{K:VX}{mg:Str->Option Value}{base:Heap}{A:Around}{outer:List Env}{s:Shared}{H:Hp}(e:Env0 P w K mg base A outer s H) :
  Env0 P w K mg base A.in1 outer s H:=⟨e.frames,e.mod,e.bs,e.bsz,e.funs,e.frf,e.hok,e.bare⟩
section
variable {X:Cx} {p:List (Addr×Obj)} {a:St} {H:Hp} {s c:Shared}
def Inv.env0(I:Inv X p a H s):Env0 X.prog X.w X.K X.mg X.base X.A X.stack s H:=
 {I.ok.frames,I.ok.mod,I.bs,ZJ I.ok.bsz I.sz,I.stack,I.stkFree,I.hok,I.bare}
def Inv.after(I:Inv X p a H s)(h:CE X.stack X.prog X.w H s Q u c):EP X p a Q u c:=by
 let{v,f,os,bare,un,hok,r,q}:=h;let{j,g,d,t,O}:=c;obtain rfl:O=s.os:=os;exact{v,f,I.call (h':=j) (g':=g) (d':=d) (t':=t) (ch:=[]) un hok bare (λb z=>absurd z (by simp)),r,q}
end
abbrev Kl(b:Sp)(d:List V)(E:XK)(t:TA):TE:=λc H Q=>t c H λv h=>b (v++d) h Q E
abbrev pZ(K:VX)(f:VH)(ps:List Str)(d:List Value):Prop:=
 ∀ (s:Shared) (u:List Value),K.In s.heap->(u++d).length=ps.length->BindsTo s f ⟨u,[]⟩ (ps.zip (u++d))
def pZ.all{K:VX}{f:VH}{ps:List Str}(h:∀u:List Value,u.length=ps.length->No f ⟨u,[]⟩=pure (ps.zip u)):pZ K f ps []:=λs u _ b=>by
 rw[Z8]at b ⊢;exact .of_eq (h u b)
abbrev wc(C:CXT)(X:Cx)(E:XK):Prop:=∀ (p:List (Addr×Obj)) (c:St) (H:Hp) (s:Shared) (e:Value) (b:Shared),Inv X p c H s->C X.stack H s E e b->X.xe e b
section
variable {X:Cx} {CX:CXT} {k:Nat} {f C:Addr} {a:VH} {ps:List Str} {sp:Sp} {d:List V} {ds:List Value} {E:XK} {x m:Str} {p pos A:Pos} {e o:Expr} {es:List Expr} {T:TE} {t:TA}
def L0(F:FnOk X.prog X.w X.K X.mg X.base CX k f a ps sp)(q:Room k X.A)(hb:pZ X.K a ps ds)(hd:aJ d ds)(n:wc CX X E)
  (I:Inv X b j H s) (r:aJ v U) (h:sp (v++d) H Q E):wpAny (model X.prog X.w) X.A (call (.ref f) U) (EP X b j Q) X.xe s:=by
 let r2:aJ (v++d) (U++ds):=r.append hd;let z:(U++ds).length=ps.length:=by rw[<-r2.length];exact F.len _ _ _ _ h
 calc wpAny_call (Zai (F.run X.A X.stack s H ⟨U,[]⟩ (U++ds) (v++d) Q E q I.env0 (hb s U I.kIn z) r2 h) λr y c=>?_);cases r with
 |error e=>exact n b j H s e y I c
 |ok l=>
  cases l with
  |ret u=>exact I.after c
  |next=>exact False.elim c
  |brk=>exact False.elim c
  |cont=>exact False.elim c
def FS(F:FnOk X.prog X.w X.K X.mg X.base CX k f a ps sp)(y:Room k X.A)(B:Gl X x)(J:X.mg x=aw (.ref f))(v:V8 X.K (.ref f)=aN)(hb:pZ X.K a ps ds)(hd:aJ d ds)(n:wc CX X E)
  (z:PA X (e::es) t) (c:(x == ("__debug__" : Str))=aS:=by decide) (L:ZaP (e::es) X.env=(aS,eval e X.env)::ZaP es X.env:=by rfl) (j:(backTo pos (ZaP es X.env)).any (·.1)=aS:=by rfl) :
  PE X (.Call (.Name x p) (e::es) [] pos) (Kl sp d E t):=by
 intro b s u H Q I h;calc ZaX (xY I B J ?_ c);calc PySem.W.callWith_K (h₀:=X.base) I.ok.mod.kin v (thn (z pos b s u H _ I h) λY Z ⟨U,O,l,r,q⟩=>{l.kIn,?_}) L j;exact L0 F y hb hd n l r q
end
abbrev PK(X:Cx)(k:List Keyword)(t:TA):Prop:=
 ∀ (c:Pos) (p:List (Addr×Obj)) (s:Shared) (b:St) (H:Hp) (Q:List V->Hp->Prop),Inv X p b H s->t b H Q->wpAny (model X.prog X.w) X.A (evalAll ((ON c (Zat k X.env)).map (·.2))) (AP X p b Q) X.xe s
section
variable {X:Cx} {CX:CXT} {k:Nat} {f C:Addr} {a:VH} {ps ks:List Str} {sp:Sp} {E:XK} {x m:Str} {p pos A kpos:Pos} {e o:Expr} {es:List Expr} {b:List Keyword} {T c:TE} {t d:TA} {nm:Option Str}
def wg:PK X [] ji:=λ_ _ _ _ H Q I h=>wpAny_evalAll_nil ⟨[],H,I,.nil,h⟩
def rd(L:PE X e T)(z:PK X b t):PK X (⟨nm,e,kpos⟩::b) (cf T t):=by
 intro pos j s l H Q I h;show wpAny _ _ (evalAll ((do let v <-eval e X.env;standAt pos;pure v)::(ON pos (Zat b X.env)).map (·.2))) _ _ s;calc wpAny_evalAll_cons (ZaZ (thn (L j s l H _ I h) λu U ⟨x,n,B,r1,q⟩=>ZaZ (Zbv (Zbk ?_))));exact thn (z pos j U l n _ B q) λus Z ⟨Y,J,y,r2,O⟩=>{x::Y,J,y,.cons r1 r2,O}
variable {g:List Value->List Value->List Value} {G:List V->List V->List V}
end
structure FnScope(N P:List Str)(sc:Scope):Prop where
 kind:sc.kind = .function
 co:sc.isCoroutine=aS
 gen:sc.isGenerator=aS
 nd:N.Nodup
 pre:N.take P.length=P
 par:∀x∈P,sc.names.lookup x=aw .local\/sc.names.lookup x=aw .cell
 nofree:∀y∈sc.names,y.2≠.free
def p0{kindOf:Str->Option VL}{x:Str}:∀ {binds:List (Str×Value)} {m:Str->Option Value},(∀v,(x,v)∉binds)->bindL kindOf binds m x=m x
 |[],_,_=>rfl
 |(n,v)::r,m,h=>by
  delta bindL;rw[p0 λw b=>h w (Zg _ b)];split
  .let:x≠n:=by rintro rfl;exact h v Zj
   simp[this]
  .rfl
def p9{kindOf:Str->Option VL}{x:Str}:∀ {binds:List (Str×Value)} {m:Str->Option Value},(∀v,(x,v)∉binds)->bindC kindOf binds m x=m x
 |[],_,_=>rfl
 |(n,v)::r,m,h=>by
  delta bindC;rw[p9 λw b=>h w (Zg _ b)];split
  .rfl
  .let:x≠n:=by rintro rfl;exact h v Zj
   simp[this]
def qa{kindOf:Str->Option VL}{x:Str}{v:Value}:∀ {P:List Str} {b:List Value} {i:Nat} {m:Str->Option Value},P.Nodup->P[i]?=aw x->b[i]?=aw v->kindOf x=aw .local ->
  bindL kindOf (P.zip b) m x=aw v
 |[],_,_,_,_,h,_,_=>by simp at h
 |_::_,[],_,_,_,_,h,_=>by simp at h
 |p::P,w::b,0,m,nd,h1,h2,hk=>by
  simp at h1 h2;subst h1;subst h2;show bindL kindOf ((p,w)::P.zip b) m p=_;delta bindL;rw[p0 λv c=>(Z9.mp nd).1 (Xv c).1,if_pos hk];simp
 |p::P,w::b,i+1,m,nd,h1,h2,hk=>by
  show bindL kindOf ((p,w)::P.zip b) m x=_;delta bindL;exact qa (i:=i) (Z9.mp nd).2 (by simpa using h1) (by simpa using h2) hk
def qb{kindOf:Str->Option VL}{x:Str}{v:Value}:∀ {P:List Str} {b:List Value} {i:Nat} {m:Str->Option Value},P.Nodup->P[i]?=aw x->b[i]?=aw v->kindOf x≠aw .local ->
  bindC kindOf (P.zip b) m x=aw v
 |[],_,_,_,_,h,_,_=>by simp at h
 |_::_,[],_,_,_,_,h,_=>by simp at h
 |p::P,w::b,0,m,nd,h1,h2,hk=>by
  simp at h1 h2;subst h1;subst h2;show bindC kindOf ((p,w)::P.zip b) m p=_;delta bindC;rw[p9 λv c=>(Z9.mp nd).1 (Xv c).1,if_neg hk];simp
 |p::P,w::b,i+1,m,nd,h1,h2,hk=>by
  show bindC kindOf ((p,w)::P.zip b) m x=_;delta bindC;exact qb (i:=i) (Z9.mp nd).2 (by simpa using h1) (by simpa using h2) hk
abbrev fb(N:List Str)(v:List V):St:=v.map aw++ZP (N.length - v.length) aD
abbrev jj(C:CXT)(P:Program)(w:World)(K:VX)(mg:Str->Option Value)(base:Heap)(N:List Str)(q:Str)(b:Scope)(f:Addr)(cd:Value)(A:Around)(outer:List Env)(s:Shared)(H:Hp)(E:XK):Cx where
 prog:=P
 w:=w
 K:=K
 mg:=mg
 base:=base
 A:=A.deeper (envOfC q b s⁻¹ f cd)
 N:=N
 s₀:=s
 H₀:=H
 env:=envOfC q b s⁻¹ f cd
 outer:=outer
 stack:=envOfC q b s⁻¹ f cd::outer
 ex:=[]
 calm:=true
 fn:=λ_=>aN
 pn:=[]
 xe:=λe h=>wpAny (model P w) (A.deeper (envOfC q b s⁻¹ f cd)) (leaving (envOfC q b s⁻¹ f cd) e) (λ_ c=>C outer H s E e c) (λd c=>C outer H s E d c) h
def tK{sc:Scope}{n:Nat}{x:Str}(h:sc.names.lookup x=aw .cell):∃c,(Zae n sc.names []).lookup x=aw c:=by
 let q:=VY sc.names n [] (.inl h);exact Yq.mp q
def qd{X:CXT}{P:Program}{w:World}{K:VX}{mg:Str->Option Value}{base:Heap}{N ps:List Str}{Q:Str}{d:Scope}{f:Addr}{cd:Value}{A:Around}{outer:List Env}{s s1:Shared}{H:Hp}{E:XK}{U:List Value}{B:List V}
  (S:FnScope N ps d) (hd:A.handled=aD) (l:Env0 P w K mg base A outer s H) (hl:B.length=ps.length) (r:aJ B U)
  (x:InCallC s s⁻¹ (bindL (envOfC Q d s⁻¹ f cd).kindOf (ps.zip U) λ_=>aD) (Zae (s⁻¹+1) d.names []) (bindC (envOfC Q d s⁻¹ f cd).kindOf (ps.zip U) λ_=>aD) s1) :
  Inv (jj X P w K mg base N Q d f cd A outer s H E) [] (fb N B) H s1:=by
 let hpl:ps.length<=N.length:=by let:=congrArg Zl S.pre;rw[Yi]at this;lia
 let{L,tk,rfl,O}:=x.done;let C:∀b:Addr,b∉(jj X P w K mg base N Q d f cd A outer s H E).ex:=λb z=>absurd (show b∈([]:List Addr) from z) (by simp)
 refine⟨{l.mod,S.kind,rfl,rfl,Zf _,λy z c L j=>?_,λy hy=>?_,λy c _ h=>?_,λ_=>hd,Around.frames_deeper l.frames,.inr ⟨rfl,rfl⟩,λb z=>absurd z (C b),l.bs,l.bsz,λb _ _=>C b,λb z=>absurd z (C b),l.funs,l.frf},
  rfl,l.bare,Un.kept O,{_,x.toInCall.ns,λi y v L j h3=>?_},λy c h=>{_,x.cell y c h},l.hok.fresh (Zf _),λy c h=>?_,λp I=>absurd (show p∈([]:List (Addr×Obj)) from I) (by simp),l.hok.kept O,?_⟩
 .exact name_of_addr x.apart (Zaw L) (Zaw j)
 .let hy:d.names.lookup y=aw .cell\/d.names.lookup y=aw .free:=hy;rcases hy with hy |hy
  .exact tK hy
  .exact absurd rfl (S.nofree _ (Zaw hy))
 .exact Y0 (x.above y c (Zaw h))
 .let hi:i < B.length:=by
   delta fb at j;by_cases hi:i < B.length
   .exact hi
   .rw[Zp (by simpa using hi)]at j;rw[YH]at j;split at j <;> cases j
  let Y:B[i]?=aw v:=by
   delta fb at j;rw[Zt (by simpa using hi),Zq]at j;cases e:B[i]? with
   |none=>rw[e]at j;cases j
   |some a=>rw[e]at j;cases j;rfl
  let{u,T,Z}:=r.get Y
  let I:ps[i]?=aw y:=by
   rw[<-S.pre,XJ (by lia)];exact L
  let J:ps.Nodup:=by rw[<-S.pre];exact S.nd.sublist (Wq _ _)
  calc{u,Z,?_};rcases S.par y (Zd I) with k |k
  .exact .inl {k,qa J I T k}
  .let{c,e}:=tK (n:=s⁻¹+1) k;calc .inr {.inl k,c,e,?_};let q:=x.cell y c e;rw[qb J I T (by show d.names.lookup y≠_;rw[k];decide)]at q;exact q
 .exact l.hok.fresh (Y0 (x.above y c (Zaw h)))
 .delta fb;show _=N.length;rw[Ze,Za,X2]
  lia
def Km{X:CXT}{P:Program}{w:World}{K:VX}{mg:Str->Option Value}{base:Heap}{k:Nat}{f:Addr}{name d:Str}{p:W6}{body:List Stmt}{c:Scope}{dV kV U pm C ct oc:Value}{an od:Option Addr}
  {Z:Array (Option Value)} {N ps:List Str} {sp:Sp} (lk:K.lookup f=aw {oc,od,.func (V1 name d p body c dV kV U pm an C ct),Z}) (hcd:VZ K C d=aN) (S:FnScope N ps c)
  (len:∀h H Q E,sp h H Q E->h.length=ps.length)
  (z:∀ (A:Around) (outer:List Env) (s:Shared) (H:Hp) (h:List V) (Q:VK) (E:XK),Room k (A.deeper (envOfC d c s⁻¹ f C))->sp h H Q E ->
   ∃t,PSs (jj X P w K mg base N d c f C A outer s H E) body t/\t {nx:=λ_ l=>Q .non l,rt:=Q} (fb N h) H) :
  FnOk P w K mg base X (k+1) f (V1 name d p body c dV kV U pm an C ct) ps sp:=by
 calc{len,λA outer s H args us h Q E Y L hb r O=>?_};let hl:=len _ _ _ _ O;let KX:K.In s.heap:=L.mod.kin.keeps λb o e=>(L.bs b o e).1;let lim:s.heap.NoLimit:=L.mod.nolimit.keeps λb o e=>(L.bs b o e).1
 let B:∀y∈ps.zip us,c.names.lookup y.1=aw .local\/(c.names.lookup y.1=aw .cell/\((Zae (s⁻¹+1) c.names []).lookup y.1).isSome=aN):=λ⟨n,v⟩ hy=>by
  rcases S.par n (Xv hy).1 with q |q
  .exact .inl q
  .exact .inr {q,VY _ _ _ (.inl q)}
 calc codeAny_call_function Y.depth (KX _ _ lk) rfl S.co S.gen rfl (PySem.W.codeRec_of KX hcd) (hb _ _ _ _ ?_);calc Zbe S.kind B λenv he s1 x=>?_;subst he;calc{lim.keeps x.toInCall.keep,codeAny_func ?_};let{t,ht,hq}:=z A outer s H h Q E (Y.deeper _) O;let I:Inv (jj X P w K mg base N d c f C A outer s H E) [] (fb N h) H s1:=qd S Y.hd L hl r x;refine Zbd (ht [] s1 (fb N h) H _ I hq) (λfl s' hs=>?_) λe s' hs=>hs
 let T:∀ {j:St} {l:Hp} {v:V} {u:Value},Inv (jj X P w K mg base N d c f C A outer s H E) [] j l s'->aE v u->Q v l->CE outer P w H s Q u s':=
  λ{j l v u} J rv q=>⟨v,l,J.os,J.bare,J.base,J.hok,rv,q⟩
 cases fl with
 |ret u=>
  let{v,j,l,J,rv,q}:=hs;exact T J rv q
 |next=>
  let{j,l,J,q}:=hs;exact T (v:=V.non) (u:=Value.none) J rfl q
 |brk=>
  let{_,_,_,q}:=hs;exact False.elim q
 |cont=>
  let{_,_,_,q}:=hs;exact False.elim q
section
variable {X:Cx} {x:Str} {p pos:Pos} {e:Expr} {es:List Expr} {t:TA} {i T:String} {r:List V->Hp->VK->Prop}
abbrev tCB(r:List V->Hp->VK->Prop)(t:TA):TE:=λb H Q=>t b H λv h=>r v h Q
def f8(hc:aV X (.builtin i) r)(y:Gl X x)(C:X.mg x=aD)(n:NO x=aw (.builtin i))(l:PA X (e::es) t)(B:x≠"__name__" := by decide)(c:(x == ("__debug__" : Str))=aS:=by decide)
  (E:ZaP (e::es) X.env=(aS,eval e X.env)::ZaP es X.env:=by rfl) (d:(backTo pos (ZaP es X.env)).any (·.1)=aS:=by rfl):PE X (.Call (.Name x p) (e::es) [] pos) (tCB r t):=by
 intro b s f H Q I h;calc ZaX (eF I y C n ?_ B c);exact PyProof.Rows.callWith_builtin1 (thn (l pos b s f H _ I h) λu z ⟨v,j,k,r1,q⟩=>hc b z f j v u Q k r1 q) E d
def fc(hc:aV X (.type T) r)(y:Gl X x)(C:X.mg x=aD)(n:NO x=aw (.type T))(l:PA X (e::es) t)(B:x≠"__name__" := by decide)(c:(x == ("__debug__" : Str))=aS:=by decide)
  (E:ZaP (e::es) X.env=(aS,eval e X.env)::ZaP es X.env:=by rfl) (d:(backTo pos (ZaP es X.env)).any (·.1)=aS:=by rfl):PE X (.Call (.Name x p) (e::es) [] pos) (tCB r t):=by
 intro b s f H Q I h;calc ZaX (eF I y C n ?_ B c);exact W4 (thn (l pos b s f H _ I h) λu z ⟨v,j,k,r1,q⟩=>hc b z f j v u Q k r1 q) E d
end
end L2
namespace HT
open PySem PyProof.Rows
abbrev dC:List Int->List Int->Bool
 |[],[]=>aS
 |[],_::_=>aN
 |_::_,[]=>aS
 |x::xs,y::ys=>if x=y then dC xs ys else decide (x < y)
def mM(x y:Int)(xs Y:List Int):dC (x::xs) (y::Y)=if x=y then dC xs Y else decide (x < y):=rfl
def pB:dC [] []=aS:=rfl
def mN(y:Int)(Y:List Int):dC [] (y::Y)=aN:=rfl
def mO(x:Int)(xs:List Int):dC (x::xs) []=aS:=rfl
def tL(A:Around)(s:Shared)(a:Int)(t:Tok)(c:Int)(u:Tok):∃e,VS A s (.int a t) (.int c u) e/\(e=aN ↔ a=c):=
 {(a == c),SeqAt.EqAt.int_int a t c u,by simp}
def tM(A:Around)(s:Shared)(a:Int)(t:Tok)(c:Int)(u:Tok)(prog:Program)(w:World)(E:Value->Shared->Prop)(Q:Value->Shared->Prop)(h:Q (.bool (decide (a < c))) s) :
  wpAny (model prog w) A (ZaH .Lt (.int a t) (.int c u)) Q E s:=
 (PyProof.Rows.lt_int h:wpAny (model prog w) A (Zaj .Lt (.int a t) (.int c u)) Q E s)
section
open PySem.SeqAt
open PySem.AutoSeq1 (wpAny_loadPart')
open PySem.MeetsSeq PySem.MeetsSeq2 PySem.MeetsSeq3
def pC(l b:Addr)(f I:Array Value)(n n2:Nat)(dd dd2:Option Addr)(sl sl2:Array (Option Value))(ns X:List Int)(hi:IntsAre f.toList ns)(hj:IntsAre I.toList X) :
  Meets (Builtin.«tuple.__lt__» ⟨[.ref l,.ref b],[]⟩)
   (λ_ R s=>s.heap.get? l=aw {cls:=.type "tuple",dict:=dd,data:=.seq f n,slots:=sl}/\s.heap.get? b=aw {cls:=.type "tuple",dict:=dd2,data:=.seq I n2,slots:=sl2} ∧
    R (.ok (.ret (.bool (dC ns X)))) s):=
 .of_wp λprog w A R s h=>by
  let{Z,g,d,Y,os}:=s;let{hl,hb,h}:=h;let f2:=AutoSeq1.sub_tuple_tuple;let z1:f.size=ns.length:=by rw[<-hi.length];simp
  let z2:I.size=X.length:=by rw[<-hj.length];simp
  wp_walk using Zbc hl,Zbc hb,Za6 _ (λC b s'=>b.1=aD/\s'=⟨Z,g,d,Y,os⟩/\∃ (T U:List Value) (p k:List Int),C=T.zip U ∧
   IntsAre T p/\IntsAre U k/\p.length+I.size=k.length+f.size/\R (.ok (.ret (.bool (dC p k)))) ⟨Z,g,d,Y,os⟩) _
  case turn=>
   rintro⟨y,x⟩ C b s' ⟨L,rfl,T,U,p,k,z,J,v,j,B⟩;cases J with
   |nil=>rw[List.zip_nil_left]at z;cases z
   |cons a t O=>
    cases v with
    |nil=>rw[List.zip_nil_right]at z;cases z
    |cons c u Q=>
     rw[Yg]at z;injection z with hyx hrest;injection hyx with hy hx;subst hy hx;rw[mM]at B;simp![Zo]at j;let{e,he,E}:=tL A.in1 ⟨Z,g,d,Y,os⟩ a t c u;calc ZaZ (he prog w _ _ ?_);cases e with
     |true=>
      rw[if_pos (E.mp rfl)]at B
      wp_walk
      exact{rfl,rfl,_,_,_,_,hrest,O,Q,by lia,B}
     |false=>
      rw[if_neg (λq=>absurd (E.mpr q) Zh)]at B;let hri:=tM A.in1 ⟨Z,g,d,Y,os⟩ a t c u prog w
      wp_walk using hri
      exact{_,rfl,by simpa using B}
  case fin=>
   rintro⟨b1,b2⟩ s' ⟨L,rfl,T,U,p,k,z,J,v,j,B⟩;simp! at L;subst L
   let hv:dC p k=decide (f.size < I.size):=by
    cases J with
    |nil=>
     cases v with
     |nil=>
      simp![Z4]at j;rw[pB];exact(decide_eq_false (by lia)).symm
     |cons c u hw=>
      simp![Z4,Zo]at j;rw[mN];exact(decide_eq_true (by lia)).symm
    |cons a t hv=>
     cases v with
     |nil=>
      simp![Z4,Zo]at j;rw[mO];exact(decide_eq_false (by lia)).symm
     |cons c u hw=>
      rw[Yg]at z;cases z
   rw[hv]at B
   wp_walk
   exact{_,rfl,by simpa[Builtin.Tuple.tupleCompareSizes] using B}
  case h=>
   exact{rfl,rfl,f.toList,I.toList,ns,X,rfl,hi,hj,by lia,h}
end
section
variable {prog:Program} {w:World} {A:Around} {E:Value->Shared->Prop} {s:Shared}
def mP(hl:IsTup s.heap l c)(hb:IsTup s.heap b I)(hi:IntsAre c.toList ns)(J:IntsAre I.toList k)
  (z:A.units < cLine) (h:Q (.bool (dC ns k)) s):wpAny (model prog w) A (Zaj .Lt (.ref l) (.ref b)) Q E s:=by
 let{⟨L,O,y,sl⟩,u,v,n,hd}:=id hl;let{⟨C,q,data2,p⟩,d,f,B,j}:=id hb;simp! at v hd f j;subst v hd f j
 exact ZaI (op:=.Lt) ⟨_,u,rfl⟩ ⟨_,d,rfl⟩ VF Vq (Vk _ _) (pC l b c I n B O q sl p ns k hi J)
  {u,d,show Value.bool (dC ns k)≠Value.notImplemented/\Q (.bool (dC ns k)) s from {(λx=>nomatch x),h}} z
def FT(L:IsTup s.heap t v.toArray)(hb:IsTup s.heap b c.toArray)(y:v≠[])
  (I:c=[]->Q (.ref t) s) (J:c≠[]->Q (.ref s⁻¹) {s with heap:=s.heap.push {cls:=.type "tuple",data:=.seq (v++c).toArray}})
  (q:v.length+c.length<=sizeLine):wpAny (model prog w) A (OS .Add (.ref t) (.ref b)) Q E s:=by
 let{⟨cls,B,data,sl⟩,p,z,n,hd}:=id L;let{⟨C,j,data2,d⟩,h,f,u,k}:=id hb;simp! at z hd f k;subst z hd f k;let e:v.toArray++c.toArray=(v++c).toArray:=by simp
 by_cases l:c=[]
 .exact Zak ⟨_,p,rfl⟩ ⟨_,h,rfl⟩ Zay ZaM VA Vo (Vi _ _)
   (tuple_addW1 t b v.toArray c.toArray n u B j sl d (by simpa using y) (by simp[l])) {p,h,I l}
 .refine Zak ⟨_,p,rfl⟩ ⟨_,h,rfl⟩ Zay ZaM VA Vo (Vi _ _)
   (tuple_addW2 t b v.toArray c.toArray n u B j sl d (by simpa using y) (by simpa using l) (by rw[Zk,Zk];exact q)) {p,h,?_}
  rw[e];exact J l
abbrev sIx(n d:Nat):Option Int->Nat
 |none=>d
 |some v=>if v < 0 then (v+(n:Int)).toNat else min v.toNat n
def BK(n d:Nat):sIx n d aD=d:=rfl
def L1(n d:Nat)(hd:d<=n)(o:Option Int):sIx n d o<=n:=by
 cases o with
 |none=>exact hd
 |some v=>
  show(if v < 0 then (v+(n:Int)).toNat else min v.toNat n)<=n;by_cases h:v < 0
  .rw[if_pos h];lia
  .rw[if_neg h];exact Nat.min_le_right _ _
def x6(v:Int)(n d:Nat):(if v < 0 then max (v+(n:Int)) 0 else min v (n:Int))=((sIx n d (aw v):Nat):Int):=by
 show(if v < 0 then max (v+(n:Int)) 0 else min v (n:Int))=(((if v < 0 then (v+(n:Int)).toNat else min v.toNat n):Nat):Int);by_cases h:v < 0
 .simp![if_pos h];lia
 .simp![if_neg h];lia
def wj(lo hi:Option Int)(n:Nat):Builtin.Slice.sliceAdjust lo hi 1 (n:Int)=(((sIx n 0 lo:Nat):Int),((sIx n n hi:Nat):Int)):=by
 let h:¬ ((1:Int) < 0):=by lia
 delta Builtin.Slice.sliceAdjust;simp![h,if_false];refine Prod.ext ?_ ?_
 .cases lo with
  |none=>rfl
  |some v=>exact x6 v n 0
 .cases hi with
  |none=>rfl
  |some v=>exact x6 v n n
def wk(i j:Nat):Builtin.Slice.slicePlaces (i:Int) (j:Int) 1=j - i:=by
 delta Builtin.Slice.slicePlaces;let h:(1:Int) > 0:=by lia
 simp![h,if_true,WR];split <;> lia
def mQ(p:IsPart v o)(h:Q o s):wpAny (model prog w) A (Builtin.Slice.slicePartIndex v) Q E s:=by
 cases p with
 |none=>exact slicePart_none h
 |int i t=>exact slicePart_int h
def fe{sl:Addr}{d v:Value}{lo hi:Option Int}{n:Nat}{Q:Int×Int×Nat->Shared->Prop}(hs:s.heap.IsSliceOf sl d v .none)(p:IsPart d lo)(j:IsPart v hi)
  (h:Q (((sIx n 0 lo:Nat):Int),1,sIx n n hi - sIx n 0 lo) s):wpAny (model prog w) A (Builtin.Slice.sliceApplied (.ref sl) (pure (n:Int))) Q E s:=by
 let{os,c,f,b}:=id hs;delta Builtin.Slice.sliceApplied Builtin.Slice.sliceFields;calc ZaZ (ZaZ (Za5 c b (x:=d) rfl (ZaZ (Za5 c b (x:=v) rfl (ZaZ (Za5 c b (x:=.none) rfl (Zbk ?_)))))));calc ZaZ (slicePart_none ?_);show wpAny _ _ (if ((1:Int) == 0)=aN then _ else _) _ _ s;rw[if_neg (by decide)];calc ZaZ (mQ p (ZaZ (mQ j (ZaZ (Zbk ?_)))));show wpAny _ _ (match Builtin.Slice.sliceAdjust lo hi 1 (n:Int) with |(lo,hi)=>pure (lo,(1:Int),Builtin.Slice.slicePlaces lo hi 1)) _ _ s;rw[wj lo hi n];show wpAny _ _ (pure (((sIx n 0 lo:Nat):Int),(1:Int),Builtin.Slice.slicePlaces ((sIx n 0 lo:Nat):Int) ((sIx n n hi:Nat):Int) 1)) _ _ s;rw[wk];exact Zbk h
def BL(xs:Array Value)(i k:Nat):((Zi k).filterMap λ(m:Nat)=>xs[((i:Int)+(m:Int) * 1).toNat]?).toArray=((xs.toList.drop i).take k).toArray:=by
 let e:(λ(m:Nat)=>xs[((i:Int)+(m:Int) * 1).toNat]?)=λm=>xs[i+m]?:=by
  funext m
  let:((i:Int)+(m:Int) * 1).toNat=i+m:=by lia
  rw[this]
 rw[e];let:=pick_run xs i k;rw[Wi]at this;let b:((λx=>xs[x]?) ∘ λx=>i+x)=λm=>xs[i+m]?:=rfl;rw[b]at this;rw[this]
def jk{t sl:Addr}{I:Array Value}{l v:Value}{lo hi:Option Int}{Q:Value->Shared->Prop}(c:IsTup s.heap t I)(hs:s.heap.IsSliceOf sl l v .none)(p:IsPart l lo)(u:IsPart v hi)
  (hw:¬ (sIx I.size 0 lo=0/\sIx I.size I.size hi=I.size))
  (h:Q (.ref s⁻¹) {s with heap:=s.heap.push {cls:=.type "tuple",data:=.seq ((I.toList.drop (sIx I.size 0 lo)).take (sIx I.size I.size hi - sIx I.size 0 lo)).toArray}})
  (n:I.size<=sizeLine):wpAny (model prog w) A (getItem (.ref t) (.ref sl)) Q E s:=by
 let b:sizeOk (.seq ((I.toList.drop (sIx I.size 0 lo)).take (sIx I.size I.size hi - sIx I.size 0 lo)).toArray):=by
  show((I.toList.drop (sIx I.size 0 lo)).take (sIx I.size I.size hi - sIx I.size 0 lo)).toArray.size<=sizeLine;rw[Zk,Yi,YI,Zu]
  lia
 let C:sIx I.size I.size hi<=I.size:=L1 _ _ (Zf _) hi;let{os,k,d,y}:=id hs;let j:s.TypeIs (.ref sl) "slice" := ⟨os,k,d⟩;delta getItem
 try with_reducible refine Za8 ?_
 first |refine ZaZ (Zbk ?_) |skip
 refine ZaZ (Zbt c.typeIs (by decide) ?_)
 refine ZaZ (wpAny_callSpecial?_slot (name:=Str.ofString "__getitem__") c.typeIs W5
  (Za0 W5 c.typeIs entry_tuple_getitem ?_ (args_tuple_getitem _ _)))
 show wpAny _ _ (Builtin.Tuple.tupleItemsOf (.ref t) >>= _) _ _ s;calc ZaZ (tupleItemsOf_ c ?_);calc ZaZ (Zbz j ?_);rw[if_pos (by decide)];refine ZaZ (fe hs p u ?_)
 let f:¬ ((((sIx I.size 0 lo:Nat):Int) == 0 && (1:Int) == 1 && (sIx I.size I.size hi - sIx I.size 0 lo) == I.size)=aN):=by
  intro q;rw[bAE,bAE]at q;let z:((sIx I.size 0 lo:Nat):Int)=0:=eq_of_beq q.1.1;let B:sIx I.size I.size hi - sIx I.size 0 lo=I.size:=eq_of_beq q.2;exact hw {by lia,by lia}
 show wpAny _ _ (if (((sIx I.size 0 lo:Nat):Int) == 0 && (1:Int) == 1 && (sIx I.size I.size hi - sIx I.size 0 lo) == I.size)=aN then _ else _) _ _ s;rw[if_neg f,BL]
 first
  |exact ZaZ (m:=Builtin.Tuple.tupleExact _) (Zbg (Zbk {_,rfl,Zbk h}) b)
  |exact ZaZ (m:=Builtin.Tuple.tupleExact _) (Zbg (ZaZ (Zbk (Zbk {_,rfl,Zbk h}))) b)
  |exact ZaZ (ZaZ (m:=Builtin.Tuple.tupleExact _) (Zbg (Zbk (Zbk {_,rfl,Zbk h})) b))
  |exact ZaZ (ZaZ (m:=Builtin.Tuple.tupleExact _) (Zbg (Zbk {_,rfl,Zbk h}) b))
end
end HT
namespace L2
open PySem PySem.Spec PyProof.Rows
@[inline]abbrev TO:=St->Hp->(Option Int->Hp->Prop)->Prop
abbrev PO(X:Cx)(e:Option Expr)(t:TO):Prop:=
 ∀ (p:List (Addr×Obj)) (s:Shared) (b:St) (H:Hp) (Q:Option Int->Hp->Prop),Inv X p b H s->t b H Q ->
  wpAny (model X.prog X.w) X.A (evalPart e X.env) (λu c=>∃o h,Inv X p b h c/\IsPart u o/\Q o h) X.xe s
abbrev x8:TO:=λ_ H Q=>Q aD H
abbrev Ko(t:TE):TO:=λb H Q=>t b H λx h=>∃i,x = .int i/\Q (aw i) h
def wm:∀ {u:List Value},aJ (ns.map V.int) u->IntsAre u ns:=by
 induction ns with
 |nil=>intro u r;rw[Z0]at r;cases r;exact .nil
 |cons n ns I=>
  intro u r;rw[Zy]at r;cases r with
  |cons r1 r2=>
   let{t,e}:=r1;subst e;exact .cons n t (I r2)
section
variable {X:Cx} {e:Expr} {c:TE} {L hi:Option Expr} {d f:TO} {pos p2:Pos}
def FV:PO X aD x8:=by
 intro p s b H Q I h;rw[Zao];exact Zbk ⟨aD,H,I,.none,h⟩
def x9(h:PE X e c):PO X (aw e) (Ko c):=by
 intro p s l H Q I j;rw[evalPart_some];calc thn (h p s l H _ I j) λu v ⟨x,b,n,r1,k⟩=>?_;let{i,rfl,q}:=k;let{t,rfl}:=r1;exact{aw i,b,n,.int i t,q}
abbrev SlR(X:Cx)(r:V->Option Int->Option Int->Hp->VK->Prop):Prop:=
 ∀ (p:List (Addr×Obj)) (s:Shared) (j:St) (H:Hp) (x:V) (v h b:Value) (L hi:Option Int) (sl:Addr) (Q:VK),Inv X p j H s->aE x v->s.heap.IsSliceOf sl h b .none->IsPart h L->IsPart b hi->r x L hi H Q ->
  ∃T id,typeLookup (.type T) "__getitem__" = pure (aw (.builtin id))/\s.TypeIs v T/\wpAny (model X.prog X.w) X.A (getItem v (.ref sl)) (EP X p j Q) X.xe s
def SlR.or{r b:V->Option Int->Option Int->Hp->VK->Prop}(h:SlR X r)(h':SlR X b):SlR X (λx L hi H Q=>r x L hi H Q\/b x L hi H Q):=by
 intro p s l H x v k j L hi sl Q I y hs n u q;rcases q with q |q
 .exact h p s l H x v k j L hi sl Q I y hs n u q
 .exact h' p s l H x v k j L hi sl Q I y hs n u q
abbrev tSl(r:V->Option Int->Option Int->Hp->VK->Prop)(c:TE)(d f:TO):TE:=λb H Q=>c b H λx h=>d b h λl k=>f b k λu j=>r x l u j Q
def BM(Y:SlR X r)(he:PE X e c)(hl:PO X L d)(O:PO X hi f):PE X (.Subscript e (.Slice L hi aD p2) pos) (tSl r c d f):=by
 intro p s k H Q I h;calc Subscript_ (thn (he p s k H _ I h) λv s1 ⟨x,C,Z,r1,E⟩=>?_);calc wpAny_Slice (thn (hl p s1 k C _ Z E) λy U ⟨l,H2,J,pl,q2⟩=>thn (O p U k H2 _ J q2) λn j ⟨u,z,B,pu,q3⟩=>?_);rw[Zao];calc Zbk ?_;let I4:Inv X p k z {j with heap:=j.heap.push {cls:=.type "slice",data:=.fields #[y,n,.none]}}:=B.kept (t':=j.toks) λb ob q=>Zc _ q;let{T,id,hT,ht,hg}:=Y p {j with heap:=j.heap.push {cls:=.type "slice",data:=.fields #[y,n,.none]}} k z x v y n l u j.heap.objs.size Q I4 r1 (Heap.IsSliceOf.new ..) pl pu q3;show wpAny (model X.prog X.w) X.A (subscriptTail e (.Slice L hi aD p2) v (.ref j.heap.objs.size)) (EP X p k Q) X.xe {j with heap:=j.heap.push {cls:=.type "slice",data:=.fields #[y,n,.none]}};exact tail_any (ops:=[.ref j.heap.objs.size,v]) ht hT hg (by with_unfolding_all rfl)
abbrev mR(xs:List V)(L hi:Option Int):List V:=(xs.drop (HT.sIx xs.length 0 L)).take (HT.sIx xs.length xs.length hi - HT.sIx xs.length 0 L)
def kO(xs:List V)(L hi:Option Int):(mR xs L hi).length<=xs.length:=by
 delta mR;rw[Yi,YI]
 lia
abbrev Ux(K:VX):V->Option Int->Option Int->Hp->VK->Prop:=λx L hi H Q=>∃a b,x = .ref a/\SqT K H a b ∧
 ¬ (HT.sIx b.length 0 L=0/\HT.sIx b.length b.length hi=b.length)/\∀p,H p=aD->Q (.ref p) (upd H p (.tup (mR b L hi)))
def L3:SlR X (Ux X.K):=by
 intro u s O H x v T J L hi sl Q I E hs B C h;let{a,k,rfl,y,z,q}:=h;cases E;let{l,r,p,n}:=I.tuple y;let j:l.toArray.size=k.length:=by rw[Zk];exact r.length.symm
 calc{"tuple",_,PyProof.Rows.slot_tuple_getitem.lookup,p.typeIs,?_};calc HT.jk p hs B C (by rw[j];exact z) ?_ (by rw[j];exact n);rw[j];calc{.ref s⁻¹,_,I.laid (t':=s.toks) (o:=.tup (mR k L hi)) (λb ob q=>Zc _ q) (Zf _) ?_,rfl,q _ (I.hok.fresh (Zf _))};exact{ZJ (kO k L hi) n,_,(r.drop (HT.sIx k.length 0 L)).take (HT.sIx k.length k.length hi - HT.sIx k.length 0 L),ra.new _ _}
abbrev Rq(K:VX):R2:=λx y H Q=>∃a b h Y,x = .ref a/\y = .ref b/\SqT K H a h/\SqT K H b Y/\h≠[]/\h.length+Y.length<=sizeLine ∧
 (Y=[]->Q (.ref a) H)/\(Y≠[]->∀p,H p=aD->Q (.ref p) (upd H p (.tup (h++Y))))
def aJ.nil_iff(r:aJ xs u):u=[] ↔ xs=[]:=by
 cases r with
 |nil=>simp
 |cons _ _=>simp
def FW:OpR X (OS .Add) (Rq X.K):=by
 intro p s Z H x y v u Q I T E h;let{a,b,U,Y,rfl,rfl,B,hb,l,k,n,J}:=h;cases T;cases E;let{O,r1,C,_}:=I.tuple B;let{j,r2,p2,_}:=I.tuple hb;calc HT.FT C p2 (λz=>l (r1.nil_iff.mp z)) (λz=>{.ref a,H,I,rfl,n (r2.nil_iff.mp z)}) (λz=>?_) (by rw[<-r1.length,<-r2.length];exact k);calc{.ref s⁻¹,_,I.laid (t':=s.toks) (o:=.tup (U++Y)) (λb ob q=>Zc _ q) (Zf _) ?_,rfl,J (λw=>z (r2.nil_iff.mpr w)) _ (I.hok.fresh (Zf _))};exact{by rw[Ze];exact k,_,r1.append r2,ra.new _ _}
end
abbrev ixN(n:Nat)(i:Int):Option Nat:=if 0<=i then (if i < n then aw i.toNat else aD) else if -(n:Int)<=i then aw (i+n).toNat else aD
abbrev atI{α:Type}(xs:List α)(i:Int):Option α:=(ixN xs.length i).bind λj=>xs[j]?
def re{n:Nat}{i:Int}{j:Nat}(h:ixN n i=aw j):seqIndex? i n=aw j/\j < n/\-(n:Int)<=i/\i < n:=by
 delta ixN at h;by_cases c:0<=i
 .rw[if_pos c]at h;by_cases b:i < n
  .rw[if_pos b]at h;let e:i.toNat=j:=Option.some.inj h;exact{by rw[ZaK c b,e],by lia,by lia,b}
  .rw[if_neg b]at h;cases h
 .rw[if_neg c]at h;by_cases b:-(n:Int)<=i
  .rw[if_pos b]at h;let e:(i+n).toNat=j:=Option.some.inj h;exact{by rw[ZaJ (by lia) b,e],by lia,b,by lia}
  .rw[if_neg b]at h;cases h
def rf{b:Type}{xs:List b}{i:Int}{v:b}(h:atI xs i=aw v):∃j,seqIndex? i xs.length=aw j/\xs[j]?=aw v/\j < xs.length/\-(xs.length:Int)<=i/\i < xs.length:=by
 delta atI at h;cases e:ixN xs.length i with
 |none=>rw[e]at h;cases h
 |some j=>
  rw[e]at h;let{f,d,c,h4}:=re e;exact⟨j,f,h,d,c,h4⟩
def yb{b:Type}{xs:List b}{j:Nat}{v:b}(h:xs[j]?=aw v):atI xs (j:Int)=aw v:=by
 let c:j < xs.length:=(Zb.mp h).1
 let e:ixN xs.length (j:Int)=aw j:=by
  delta ixN;rw[if_pos (by lia),if_pos (by lia)];simp
 delta atI;rw[e];exact h
abbrev yc(b:Expr):Prop:=∀o i,subscripted b aS o i=operate [o,i] (getItem o i)
abbrev IxR(X:Cx)(r:R2):Prop:=
 ∀ (c b:Expr) (p:List (Addr×Obj)) (s:Shared) (d:St) (H:Hp) (x y:V) (v u:Value) (Q:VK),Inv X p d H s->aE x v->aE y u->r x y H Q ->
  subscripted b aS v u=operate [v,u] (getItem v u)->wpAny (model X.prog X.w) X.A (subscriptTail c b v u) (EP X p d Q) X.xe s
abbrev MtR(X:Cx)(id:String)(r:V->List V->Hp->VK->Prop):Prop:=
 ∀ (p:List (Addr×Obj)) (s:Shared) (b:St) (H:Hp) (x:V) (c:List V) (v:Value) (u:List Value) (Q:VK),Inv X p b H s->aE x v->aJ c u->r x c H Q ->
  wpAny (model X.prog X.w) X.A (call (.builtin id) (v::u)) (EP X p b Q) X.xe s
section
variable {X:Cx} {a b:Expr} {d g:TE} {pos:Pos}
def IxR.or{r j:R2}(h:IxR X r)(h':IxR X j):IxR X (λx y H Q=>r x y H Q\/j x y H Q):=by
 intro f c p s l H x y v u Q I n k q hs;rcases q with q |q
 .exact h f c p s l H x y v u Q I n k q hs
 .exact h' f c p s l H x y v u Q I n k q hs
def Kq(z:IxR X r)(c:PE X a d)(hb:PE X b g)(hs:yc b):PE X (.Subscript a b pos) (tOp r d g):=by
 intro p s k H Q I h;exact Subscript_ (LP c hb I h λv u f x y B l n j q=>z a b p f k B x y v u Q l n j q (hs _ _))
abbrev Rr(K:VX):R2:=λx y H Q=>∃p c i v,x = .ref p/\y = .int i/\SqL K H p c/\atI c i=aw v/\Q v H
abbrev Rs(K:VX):R2:=λx y H Q=>∃p c i v,x = .ref p/\y = .int i/\SqT K H p c/\atI c i=aw v/\Q v H
abbrev Rt:R2:=λx y H Q=>∃z i c,x = .str z/\y = .int i/\z.length<=sizeLine/\atI z.cps.toList i=aw c/\Q (.str ⟨#[c]⟩) H
def Ur:IxR X (Rr X.K):=by
 intro B l c s L H x y v u Q I rx ry h hs;let{p,xs,i,z,rfl,rfl,Z,he,q}:=h;cases rx;let{t,rfl}:=ry;let{J,r,C,hz}:=I.list Z;let{j,k,h2,h3,h4,U}:=rf he;let{w,O,n}:=r.get h2;let Y:=r.length;let hn:=jW;let f:EP X c L Q w s:=⟨z,H,I,n,q⟩;by_cases T:0<=i
 .let E:i.toNat=j:=by
   rw[ZaK T U]at k;exact Option.some.inj k
  exact item_listR C.isList T (by lia) (by rw[E];simpa using O) f hs
 .let E:(i+(J.toArray.size:Int)).toNat=j:=by
   rw[ZaJ (by lia) h4]at k;rw[Zk,<-Y];exact Option.some.inj k
  exact subscriptTail_builtinR (x:=w) C.isList.typeIs slot_list_getitem.lookup
   (wpAny_getItem_list_neg (Q:=λr s'=>r=w/\EP X c L Q r s') C.isList (by lia) (by rw[Zk] <;> lia) (by lia) (by rw[E];simpa using O) ⟨rfl,f⟩) hs
def BN:IxR X (Rs X.K):=by
 intro l f c s B H x y v u Q I rx O h hs;let{p,xs,i,z,rfl,rfl,L,he,q}:=h;cases rx;let{t,rfl}:=O;let{Z,r,C,hz}:=I.tuple L;let{j,E,T,h3,h4,h5}:=rf he;let{w,U,k}:=r.get T;let J:=r.length;let hn:=jW;let n:EP X c B Q w s:=⟨z,H,I,k,q⟩
 exact subscriptTail_builtinR (x:=w) C.typeIs slot_tuple_getitem.lookup
  (getItem_tuple (j:=j) (Q:=λr Y=>r=w/\EP X c B Q r Y) C (by lia) (by lia) (by rw[Zk,<-J];exact E) (by simpa using U) ⟨rfl,n⟩) hs
def L4:IxR X Rt:=by
 intro k f p s U H x y v u Q I O C h hs;let{z,i,c,rfl,rfl,Y,L,q}:=h;let{t,rfl}:=O;let{Z,rfl}:=C;let{j,l,E,h3,h4,n}:=rf L;let B:z.cps.toList.length=z.length:=by simp[Str.length]
 rw[B]at l h4 n;let hn:=jW
 exact tail_any (typeIs_str s z t) slot_str_getitem.lookup (getItem_str (c:=c) (by
  let T:decide (i < -(2 ^ 63:Int))=aS:=decide_eq_false (by lia);let J:decide (i ≥ 2 ^ 63)=aS:=decide_eq_false (by lia);rw[T,J,Y9]) (by rw[l];simpa using E) {.str ⟨#[c]⟩,H,I.tok _,⟨_,rfl⟩,q}) hs
abbrev rIx(K:VX):R2:=λx y H Q=>Rr K x y H Q\/Rs K x y H Q\/Rt x y H Q
def BO:IxR X (rIx X.K):=Ur.or (BN.or L4)
def wn(its:List Value)(n j:Nat)(u:Value):Obj.mapSeq (·.setIfInBounds j u) {cls:=.type "list",data:=.seq its.toArray n}={cls:=.type "list",data:=.seq (its.set j u).toArray n}:=by
 simp[Obj.mapSeq]
def Inv.lst{c:List (Addr×Obj)}{f:St}{H:Hp}{s:Shared}{p:Addr}{xs:List V}(I:Inv X c f H s)(h:H p=aw (.lst xs)) :
  ∃ (its:List Value) (n:Nat),aJ xs its/\s.heap.get? p=aw {cls:=.type "list",data:=.seq its.toArray n}/\xs.length<=sizeLine:=by
 let{z,its,n,r,e}:=I.hok p _ h;exact⟨its,n,r,e,z⟩
def Inv.lstUpd{c:List (Addr×Obj)}{l:St}{H:Hp}{s:Shared}{p:Addr}{xs y:List V}{its its':List Value}{n j:Nat}{f:Obj->Obj}(I:Inv X c l H s)(h:H p=aw (.lst xs))
  (v:s.heap.get? p=aw {cls:=.type "list",data:=.seq its.toArray n}) (k:f {cls:=.type "list",data:=.seq its.toArray n}={cls:=.type "list",data:=.seq its'.toArray j}) (r:aJ y its') (z:y.length<=sizeLine) (t:Nat) :
  Inv X c l (upd H p (.lst y)) {s with heap:=s.heap.update p f,toks:=t}:=by
 let e:(s.heap.update p f).get? p=aw {cls:=.type "list",data:=.seq its'.toArray j}:=by
  rw[Z5 f v (by rw[k] <;> rfl),k]
 calc I.write (x:=p) (e:=p) (by rw[h];trivial) (.inl rfl) (λb u hb q=>(ZO _ _ (Ne.symm hb)).trans q) ⟨_,e⟩ ?_;exact⟨z,its',j,r,e⟩
abbrev Ru:V->V->V->Hp->(Hp->Prop)->Prop:=λo i v H Q=>∃p c k j,o = .ref p/\i = .int k/\H p=aw (.lst c)/\ixN c.length k=aw j/\Q (upd H p (.lst (c.set j v)))
def BP:LH X Ru:=by
 intro f s O H o i v ov iv u Q I ro Y U h;let{p,xs,k,j,rfl,rfl,E,Z,q}:=h;cases ro;let{t,rfl}:=Y;let{c,n,r,B,T}:=I.lst E;let{l,h2,L,h4}:=re Z;let z:=r.length;let hn:=jW
 let C:Inv X f O (upd H p (.lst (xs.set j v))) {s with heap:=s.heap.update p (Obj.mapSeq (·.setIfInBounds j u))}:=
  I.lstUpd E B (wn c n j u) (r.set U j) (by rw[Yb];exact T) s.toks
 by_cases J:0<=k
 .let y:k.toNat=j:=by
   rw[ZaK J h4]at l;exact Option.some.inj l
  exact PySem.W.ki_setAt B J (by lia) (by rw[Zk,<-z];exact h4) (by rw[y];exact⟨_,C,q⟩)
 .let y:(k+(c.toArray.size:Int)).toNat=j:=by
   rw[ZaJ (by lia) L]at l;rw[Zk,<-z];exact Option.some.inj l
  exact PySem.W.ki_setBack B (by lia) (by rw[Zk,<-z];exact L) (by lia) (by rw[y];exact⟨_,C,q⟩)
def rh(lo hi:Option Int)(n:Nat):(ZaO lo hi aD n).1=((HT.sIx n 0 lo:Nat):Int)/\(ZaO lo hi aD n).2.1=((HT.sIx n n hi:Nat):Int)/\(ZaO lo hi aD n).2.2=1:=by
 refine{?_,?_,rfl}
 .cases lo with
  |none=>simp[ZaO,HT.sIx]
  |some i=>
   simp![ZaO,HT.sIx,Wv,show(1:Int) > 0 by decide,if_true];by_cases h:i < 0
   .simp![h,if_true] <;> lia
   .simp![h,if_false] <;> lia
 .cases hi with
  |none=>simp[ZaO,HT.sIx]
  |some i=>
   simp![ZaO,HT.sIx,Wv,show(1:Int) > 0 by decide,if_true];by_cases h:i < 0
   .simp![h,if_true] <;> lia
   .simp![h,if_false] <;> lia
def pD(its:List Value)(lo hi:Option Int):slicePick its.toArray lo hi aD=((its.drop (HT.sIx its.length 0 lo)).take (HT.sIx its.length its.length hi - HT.sIx its.length 0 lo)).toArray:=by
 let{f,c,h}:=rh lo hi its.toArray.size;delta slicePick;rw[f,c,h];simp![sliceRange_one,pick_run,Zk] <;> rfl
abbrev Uy(K:VX):V->Option Int->Option Int->Hp->VK->Prop:=λx lo hi H Q=>∃a c,x = .ref a/\SqL K H a c/\∀p,H p=aD->Q (.ref p) (upd H p (.lst (mR c lo hi)))
def FX:SlR X (Uy X.K):=by
 intro p s E H x v C B lo hi sl Q I u hs l n h;let{a,c,rfl,k,q}:=h;cases u;let{y,r,j,z}:=I.list k;let f:=r.length;calc{"list",_,slot_list_getitem.lookup,j.isList.typeIs,?_};refine Za7 j.isList hs l n .none (by simp) ?_ (by rw[Zk] <;> lia);rw[pD,<-f];calc{.ref s⁻¹,_,I.laid (t':=s.toks) (o:=.lst (mR c lo hi)) (λb ob q=>Zc _ q) (Zf _) ?_,rfl,q _ (I.hok.fresh (Zf _))};exact{ZJ (kO c lo hi) z,_,0,(r.drop (HT.sIx c.length 0 lo)).take (HT.sIx c.length c.length hi - HT.sIx c.length 0 lo),Zs _ rfl}
abbrev dU:V->Bool
 |.non=>aN
 |.bl _=>aN
 |.int _=>aN
 |.str _=>aN
 |_=>aS
abbrev eqV:V->V->Bool
 |.non,.non=>aN
 |.bl a,.bl b=>a == b
 |.bl a,.int b=>(if a then 1 else 0) == b
 |.int a,.bl b=>a == (if b then 1 else 0)
 |.int a,.int b=>a == b
 |.str a,.str b=>a == b
 |_,_=>aS
def L5(f:aE y u)(c:aE x v)(h:dU y=aN)(fx:dU x=aN):VS A s u v (eqV y x):=by
 cases y with
 |non=>
  cases f;cases x with
  |non=>cases c;exact SeqAt.EqAt.same _
  |bl b=>cases c;exact SeqAt.EqAt.none_bool b
  |int b=>let{t,rfl}:=c;exact SeqAt.EqAt.none_int b t
  |str b=>let{t,rfl}:=c;exact SeqAt.EqAt.none_str b t
  |_=>exact absurd (show aS=aN from fx) Zh
 |bl a=>
  cases f;cases x with
  |non=>cases c;exact SeqAt.EqAt.bool_none a
  |bl b=>cases c;exact SeqAt.EqAt.bool_bool a b
  |int b=>let{t,rfl}:=c;exact SeqAt.EqAt.bool_int a b t
  |str b=>let{t,rfl}:=c;exact SeqAt.EqAt.bool_str a b t
  |_=>exact absurd (show aS=aN from fx) Zh
 |int a=>
  let{T,rfl}:=f;cases x with
  |non=>cases c;exact SeqAt.EqAt.int_none a T
  |bl b=>cases c;exact SeqAt.EqAt.int_bool a T b
  |int b=>let{t,rfl}:=c;exact SeqAt.EqAt.int_int a T b t
  |str b=>let{t,rfl}:=c;exact SeqAt.EqAt.int_str a T b t
  |_=>exact absurd (show aS=aN from fx) Zh
 |str a=>
  let{T,rfl}:=f;cases x with
  |non=>cases c;exact SeqAt.EqAt.str_none a T
  |bl b=>cases c;exact SeqAt.EqAt.str_bool a T b
  |int b=>let{t,rfl}:=c;exact SeqAt.EqAt.str_int a T b t
  |str b=>let{t,rfl}:=c;exact SeqAt.EqAt.str_str a T b t
  |_=>exact absurd (show aS=aN from fx) Zh
 |_=>exact absurd (show aS=aN from h) Zh
abbrev eqU(x:V)(u:Value):Bool:=match u with
 |.none=>eqV .non x
 |.bool b=>eqV (.bl b) x
 |.int i _=>eqV (.int i) x
 |.str z _=>eqV (.str z) x
 |_=>aS
def wo(r:aE y u)(f:dU y=aN):eqU x u=eqV y x:=by
 cases y with
 |non=>cases r;rfl
 |bl b=>cases r;rfl
 |int i=>let{t,rfl}:=r;rfl
 |str z=>let{t,rfl}:=r;rfl
 |_=>exact absurd (show aS=aN from f) Zh
def jl:∀ {xs:List V} {U:List Value},aJ xs U->xs.all dU=aN->U.any (eqU x)=xs.any λy=>eqV y x
 |_,_,.nil,_=>rfl
 |y::xs,u::U,.cons r t,f=>by
  rw[Yt,bAE]at f;rw[Yu,Yu,wo r f.1,jl t f.2]
def dD(c:aE x v)(fx:dU x=aN):∀ {xs:List V} {U:List Value},aJ xs U->xs.all dU=aN->∀u∈U,VS A s u v (eqU x u)
 |_,_,.nil,_=>λu hu=>by cases hu
 |y::xs,u::U,.cons r t,f=>λh hu=>by
  rw[Yt,bAE]at f;rcases Zn.mp hu with rfl |hu
  .rw[wo r f.1];exact L5 r c f.1 fx
  .exact dD c fx t f.2 h hu
abbrev inV(x:V)(xs:List V):Bool:=xs.any λy=>eqV y x
abbrev rIn(K:VX)(neg:Bool):R2:=λx y H Q=>∃p c,y = .ref p/\(SqL K H p c\/SqT K H p c)/\dU x=aN/\c.all dU=aN/\Q (.bl (if neg then !inV x c else inV x c)) H
def zP:OpR X (Zaj .In) (rIn X.K aS):=by
 intro k s B H x y v u Q I l n h;let{p,C,rfl,hq,fx,fs,q}:=h;cases n;rcases hq with hq |hq
 .let{c,r,j,z}:=I.list hq;calc SeqAt.in_listAt (eqU x) j.isList (λw f=>dD l fx r fs w (by simpa using f)) {.bl _,H,I,rfl,?_};rw[show c.toArray.any (eqU x)=c.any (eqU x) by simp,jl r fs];exact q
 .let{c,r,j,z}:=I.tuple hq;calc SeqAt.in_tupleAt (eqU x) j (λw f=>dD l fx r fs w (by simpa using f)) {.bl _,H,I,rfl,?_};rw[show c.toArray.any (eqU x)=c.any (eqU x) by simp,jl r fs];exact q
def rj:OpR X (Zaj .NotIn) (rIn X.K aN):=by
 intro k s B H x y v u Q I l n h;let{p,C,rfl,hq,fx,fs,q}:=h;cases n;rcases hq with hq |hq
 .let{c,r,j,z}:=I.list hq;calc SeqAt.notIn_listAt (eqU x) j.isList (λw f=>dD l fx r fs w (by simpa using f)) {.bl _,H,I,rfl,?_};rw[show c.toArray.any (eqU x)=c.any (eqU x) by simp,jl r fs];exact q
 .let{c,r,j,z}:=I.tuple hq;calc SeqAt.notIn_tupleAt (eqU x) j (λw f=>dD l fx r fs w (by simpa using f)) {.bl _,H,I,rfl,?_};rw[show c.toArray.any (eqU x)=c.any (eqU x) by simp,jl r fs];exact q
def jm:aV X (.builtin "len") (λxs H Q=>∃p y,xs=[.ref p]/\(SqL X.K H p y\/SqT X.K H p y)/\Q (.int y.length) H):=by
 intro l s B H xs U Q I r h;let{p,y,rfl,hq,q}:=h;let{u,rfl,n}:=bQ r;cases n;let z:=jW;rcases hq with hq |hq
 .let{k,f,j,v}:=I.list hq;let c:=f.length;exact Calls.call_len_list j.isList (by simp![Zk] <;> lia) {.int y.length,H,I.tok _,{s.toks+1,by rw[Zk,c]},q}
 .let{k,f,j,v}:=I.tuple hq;let c:=f.length;exact len_tuple j (by simp![Zk] <;> lia) {.int y.length,H,I.tok _,{s.toks+1,by rw[Zk,c]},q}
def pE:aV X (.type "tuple") (λxs H Q=>∃p y,xs=[.ref p]/\((SqL X.K H p y/\∀l,H l=aD->Q (.ref l) (upd H l (.tup y)))\/(SqT X.K H p y/\Q (.ref p) H))):=by
 intro c s z H xs U Q I r h;let{p,y,rfl,h}:=h;let{u,rfl,L}:=bQ r;cases L;rcases h with ⟨k,q⟩ |⟨k,q⟩
 .let{f,v,n,B}:=I.list k;let C:=v.length;refine call_tuple_list n.isList (λj kp=>?_) (by simp![Zk] <;> lia);let E:Inv X c z H {s with heap:=j}:=I.kept (t':=s.toks) kp
  let J:Inv X c z (upd H j.objs.size (.tup y)) {s with heap:=j.push {cls:=.type "tuple",data:=.seq f.toArray}}:=
   E.laid (t':=s.toks) (λb o e=>Zc _ e) (Zf _) (show ba X.prog X.w _ _ _ (.tup y) from {B,f,v,ra.new _ _})
  exact{.ref j.objs.size,_,J,rfl,q _ (E.hok.fresh (Zf _))}
 .let{f,v,n,B}:=I.tuple k;exact call_tuple_same n {.ref p,H,I,rfl,q}
abbrev tyV(K:VX)(T:String)(x:V)(H:Hp):Prop:=match x with
 |.str _=>T = "str"
 |.int _=>T = "int"
 |.ref p=>(T = "list"/\∃c,SqL K H p c)\/(T = "tuple"/\((∃o,K.lookup p=aw o/\o.cls = .type "tuple"/\o.dict=aD)\/∃c,H p=aw (.tup c))) ∨
   (T = "dict"/\((∃k,H p=aw (.dK k))\/∃k,H p=aw (.dT k)))\/(T = "set"/\∃S n,H p=aw (.set S n))
 |_=>False
def BQ(I:Inv X l B H s)(r:aE x v)(ty:tyV X.K T x H) :
  s.TypeIs v T/\∀a,v = .ref a->∃ob,s.heap.get? a=aw ob/\ob.dict=aD:=by
 cases x with
 |str z=>
  let{t,rfl}:=r;cases (show T = "str" from ty);exact{typeIs_str s z t,λ_ e=>nomatch e}
 |int i=>
  let{t,rfl}:=r;cases (show T = "int" from ty);exact{typeIs_int s i t,λ_ e=>nomatch e}
 |ref p=>
  cases r;rcases ty with ⟨rfl,y,u⟩ |⟨rfl,⟨o,h,f,hd⟩ |⟨y,h⟩⟩ |⟨rfl,h⟩ |⟨rfl,S,n,h⟩
  .let{j,_,q,_}:=I.list u;calc{q.isList.typeIs,λa e=>?_};cases e;let{o,n,e,c,hd,_}:=q;exact⟨o,e,hd⟩
  .calc{{o,I.kIn p o h,f},λa e=>?_};cases e;exact{o,I.kIn _ o h,hd}
  .let{_,j,_,o,e,f,_,_,hd}:=I.hok p _ h;calc{⟨o,e,f⟩,λa E=>?_};cases E;exact⟨o,e,hd⟩
  .let z:∃o,s.heap.get? p=aw o/\o.ExactDict:=by
    rcases h with ⟨k,h⟩ |⟨k,h⟩
    .let{_,_,_,_,o,_,_,e,ex,_}:=I.hok p _ h;exact⟨o,e,ex⟩
    .let{_,_,_,_,o,_,_,e,ex,_}:=I.hok p _ h;exact⟨o,e,ex⟩
   let{o,e,ex}:=z;calc{⟨o,e,ex.1⟩,λa E=>?_};cases E;exact⟨o,e,ex.2.1⟩
  .let{o,_,_,_,e,ex,_}:=I.hok p _ h;calc{⟨o,e,ex.1⟩,λa E=>?_};cases E;exact⟨o,e,ex.2.1⟩
 |_=>exact False.elim ty
abbrev Rv(K:VX)(T:String)(r:V->List V->Hp->VK->Prop)(c:TE):TE:=λf H Q=>c f H λx h=>tyV K T x h/\r x [] h Q
abbrev tBM(K:VX)(T:String)(r:V->List V->Hp->VK->Prop)(f:TE)(t:TA):TE:=λc H Q=>f c H λx h=>tyV K T x h/\t c h λj k=>r x j k Q
variable {o e:Expr} {es:List Expr} {a:TE} {t:TA} {name:Str} {A c:Pos} {T i:String} {r:V->List V->Hp->VK->Prop}
def L6(E:PlainAttrs T)(slot:Slot T name i)(k:typeOf (.builtin i)=pure (.type "method_descriptor"))(B:MtR X i r)(u:PE X o a)
  (j:OF o name X.env (eval o X.env)=eval o X.env:=by rfl) (f:(A.endLine == c.line)=aN:=by rfl):PE X (.Call (.Attribute o name A) [] [] c) (Rv X.K T r a):=by
 intro p s l H Q I h;calc wpAny_Call_method0_late j f (thn (u p s l H _ I h) λv J ⟨x,q,n,r1,ty,z⟩=>?_);let{y,C}:=BQ n r1 ty;exact{T,i,E,slot,k,y,C,W8 rfl (PySem.evalArgs_none (B p J l q x [] v [] Q n r1 .nil z))}
def tN(O:PlainAttrs T)(slot:Slot T name i)(q:typeOf (.builtin i)=pure (.type "method_descriptor"))(hm:MtR X i r)(ho:PE X o a)(Z:PA X (e::es) t)
  (k:OF o name X.env (eval o X.env)=eval o X.env:=by rfl)
  (l:((backTo c (ZaP (e::es) X.env)).all (λx=>!x.1) && (ON c (Zat [] X.env)).all (λx=>x.1.isSome)
   && decide ((e::es).length+([]:List Keyword).length+(if ([]:List Keyword).isEmpty then 0 else 1) < 30))=aN:=by rfl)
  (j:(A.endLine == c.line)=aN:=by rfl) (hs:ZaP (e::es) X.env=(aS,eval e X.env)::ZaP es X.env:=by rfl) (f:(backTo c (ZaP es X.env)).any (·.1)=aS:=by rfl) :
  PE X (.Call (.Attribute o name A) (e::es) [] c) (tBM X.K T r a t):=by
 intro p s n H Q I h;calc wpAny_Call_method_late k l j rfl (thn (ho p s n H _ I h) λv s1 ⟨x,z,u,r1,ty,C⟩=>?_);let{B,h2}:=BQ u r1 ty;calc{T,i,O,slot,q,B,h2,?_};let y:=Z c p s1 n z _ u C;rw[hs]at y ⊢;refine W8 (by show(aS || (backTo c (ZaP es X.env)).any (·.1))=aS;rw[f] <;> rfl) (Calls.evalArgs_plain ?_);exact thn y λY L ⟨J,U,E,r2,q2⟩=>hm p L n U x J v Y Q E r1 r2 q2
end
abbrev MtM(X:Cx)(id:String)(r:V->List V->Hp->VK->Prop):Prop:=
 ∀ (p:List (Addr×Obj)) (s:Shared) (b:St) (H:Hp) (x:V) (c:List V) (v:Value) (u:List Value) (Q:VK),Inv X p b H s->aE x v->aJ c u->r x c H Q ->
  wpAny (model X.prog X.w) X.A (call (.builtin id) (v::u)) (EP X p b Q) X.xe s
def aJ.one:∀ {x:V} {U:List Value},aJ [x] U->∃u,U=[u]/\aE x u
 |_,_,.cons r .nil=>⟨_,rfl,r⟩
def aJ.zero:∀ {u:List Value},aJ [] u->u=[]
 |_,.nil=>rfl
def aJ.dropLast{xs:List V}{u:List Value}(h:aJ xs u):aJ xs.dropLast u.dropLast:=by
 induction h with
 |nil=>exact .nil
 |cons r t I=>
  cases t with
  |nil=>exact .nil
  |cons q T=>exact .cons r I
def aJ.eraseIdx:∀ {xs:List V} {u:List Value} (i:Nat),aJ xs u->aJ (xs.eraseIdx i) (u.eraseIdx i)
 |_,_,_,.nil=>.nil
 |_,_,0,.cons _ t=>t
 |_,_,i+1,.cons r t=>.cons r (aJ.eraseIdx i t)
def iJ{c:Type}(l:List c):l.eraseIdx (l.length - 1)=l.dropLast:=by
 induction l with
 |nil=>rfl
 |cons a r I=>
  cases r with
  |nil=>rfl
  |cons b r=>
   let e:(a::b::r).length - 1=((b::r).length - 1)+1:=by
    let h:(a::b::r).length=r.length+2:=rfl;let d:(b::r).length=r.length+1:=rfl
    lia
   rw[e,YJ,I]
   all_goals rfl
def qe{b:Type}:∀ (l:List b) (i:Nat),(l.eraseIdx i).length<=l.length
 |[],_=>Zf _
 |_::_,0=>YM _
 |_::r,i+1=>Ww (qe r i)
section
variable {X:Cx} {p:List (Addr×Obj)} {a:St} {H:Hp} {s:Shared} {l b:Addr} {xs y zs:List V}
def Inv.lset{its its':List Value}{n:Nat}{f:Array Value->Array Value}{t':Nat}(I:Inv X p a H s)(j:H l=aw (.lst xs))
  (e:s.heap.get? l=aw {cls:=.type "list",data:=.seq its.toArray n}) (d:f its.toArray=its'.toArray) (c:aJ y its') (k:y.length<=sizeLine) :
  Inv X p a (upd H l (.lst y)) {s with heap:=s.heap.update l (Obj.mapSeq f),toks:=t'}:=by
 let q:=PySem.IsL.update e f;rw[d]at q;calc I.write (x:=l) (e:=l) (by rw[j];exact trivial) (.inl rfl) (λB u hb h=>(ZO s.heap (Obj.mapSeq f) (Ne.symm hb)).trans h) ⟨_,q⟩ ?_;exact⟨k,its',_,c,q⟩
def Inv.lnew{t':Nat}(I:Inv X p a H s)(h:aJ y its)(c:y.length<=sizeLine) :
  Inv X p a (upd H s⁻¹ (.lst y)) {s with heap:=s.heap.push {cls:=.type "list",data:=.seq its.toArray},toks:=t'}:=
 I.laid (λ_ _ q=>Zc _ q) (Zf _) {c,its,0,h,Zs _ rfl}
def Inv.fresh(I:Inv X p a H s):H s⁻¹=aD:=I.hok.fresh (Zf _)
def Inv.lstM(I:Inv X p a H s)(h:H l=aw (.lst xs)):xs.length<=sizeLine/\∃ (its:List Value) (n:Nat),aJ xs its/\xs.length=its.length/\s.heap.get? l=aw {cls:=.type "list",data:=.seq its.toArray n}:=by
 let{z,its,n,r,e}:=I.hok l _ h;exact⟨z,its,n,r,r.length,e⟩
end
section
variable {X:Cx}
abbrev FY:V->List V->Hp->VK->Prop:=λx v H Q=>∃l b y,x = .ref l/\v=[y]/\H l=aw (.lst b)/\b.length < sizeLine/\Q .non (upd H l (.lst (b++[y])))
def qg:MtM X "list.append" FY:=by
 intro p s k H x B v U Q I f d h;let{l,J,y,rfl,rfl,c,C,q}:=h;cases f;let{u,rfl,j}:=d.one;let{z,b,n,r,E,e}:=I.lstM c;calc Zad Vx ⟨_,e,rfl⟩ F.entry_list_append (F.args_list_append_2 _ _) (PySem.list_append l b.toArray n u (by rw[Zk];lia)) {e,?_};calc{.non,_,I.lset (its':=b++[u]) c e (by simp) (r.append (.cons j .nil)) ?_,rfl,q};rw[Ze,Zm]
 lia
abbrev Uz:V->List V->Hp->VK->Prop:=λx v H Q=>∃l b y,x = .ref l/\v=[]/\H l=aw (.lst b)/\b[b.length - 1]?=aw y/\Q y (upd H l (.lst b.dropLast))
def L7:MtM X "list.pop" Uz:=by
 intro p s L H x O v U Q I E C h;let{l,T,y,rfl,rfl,f,j,q}:=h;cases E;let d:=C.zero;subst d;let{z,b,n,r,B,e}:=I.lstM f;let{u,k,J}:=r.get j
 let c:b.toArray[b.toArray.size - 1]?=aw u:=by
  show b.toArray[b.length - 1]?=aw u;rw[<-X3,<-B];exact k
 calc Zad Vz ⟨_,e,rfl⟩ F.entry_list_pop (F.args_list_pop_1 _) (MeetsSeq.list_pop_last l b.toArray n u c (by rw[Zk];lia)) {e,?_};refine{y,_,I.lset (its':=b.dropLast) f e ?_ r.dropLast ?_,J,q}
 .show b.toArray.eraseIdxIfInBounds (b.toArray.size - 1)=b.dropLast.toArray;rw[Zk,Xm,iJ]
 .rw[List.length_dropLast]
  lia
abbrev L8:V->List V->Hp->VK->Prop:=λx v H Q=>∃l b i k y,x = .ref l/\v=[.int i]/\H l=aw (.lst b)/\-(2 ^ 63)<=i/\i < 2 ^ 63/\seqIndex? i b.length=aw k/\b[k]?=aw y/\Q y (upd H l (.lst (b.eraseIdx k)))
def BR:MtM X "list.pop" L8:=by
 intro p s Y H x Z v us Q I O J h;let{l,T,i,k,y,rfl,rfl,d,j,L,C,B,q}:=h;cases O;let{u,rfl,U}:=J.one;let{t,rfl}:=U;let{z,b,n,r,E,e}:=I.lstM d;let{w,f,c}:=r.get B
 refine Zad Vz ⟨_,e,rfl⟩ F.entry_list_pop (F.args_list_pop_2 _ _)
  (MeetsSeq.list_pop_at l b.toArray n i t k w (fitsIndex_both j L) (by rw[Zk,<-E];exact C) (by rw[<-X3];exact f) (by rw[Zk];lia)) {e,?_}
 refine{y,_,I.lset (its':=b.eraseIdx k) d e ?_ (r.eraseIdx k) ?_,c,q}
 .show b.toArray.eraseIdxIfInBounds k=(b.eraseIdx k).toArray;rw[Xm]
 .let:=qe T k
  lia
abbrev UA:R2:=λx y H Q=>∃l b c z,x = .ref l/\y = .ref b/\H l=aw (.lst c)/\H b=aw (.lst z)/\c.length+z.length<=sizeLine/\∀p,H p=aD->Q (.ref p) (upd H p (.lst (c++z)))
def L9:OpR X (OS .Add) UA:=by
 intro p s L H x y v u Q I J B h;let{l,b,Y,zs,rfl,rfl,k,j,O,q}:=h;cases J;cases B;let{z,d,n,r,T,e}:=I.lstM k;let{Z,c,U,r2,f,E}:=I.lstM j;calc PySem.P.add_list e E ?_ (by rw[Zk,Zk];lia);let C:d.toArray++c.toArray=(d++c).toArray:=by simp
 rw[C];exact{.ref _,_,I.lnew (t':=s.toks) (r.append r2) (by rw[Ze];lia),rfl,q _ I.fresh}
end
end L2
namespace Att
open PySem PySem.W PySem.Calls PyProof.Rows
def lK:∀ (ns:List Int) (v:List Value),WellAll P h v (ns.map WData.int)->IntsAre v ns:=by
 intro ns
 induction ns with
 |nil=>
  intro v w;rw[Z0]at w;cases w;exact .nil
 |cons n ns I=>
  intro v w;rw[Zy]at w;cases w with
  |cons a b=>
   cases a;exact .cons _ _ (I _ b)
def zQ{l:OpenLaw}{n:Nat}(E:l.most=aw n){P:Params}{h:Heap}{args:List WData}{v:List Value}
  (b:l.row.toRowW.claim.pre args=aN) (p:WellAll P h v args) :
  ∃a u ns,v=[Value.ref a]/\args=[WData.list (ns.map WData.int)]/\h.get? a=aw {cls:=.type "list",data:=.seq u.toArray}/\IntsAre u ns/\ns.length<=n:=by
 let k:WShape.hasAll [] args [.list .int]=aN:=(pre_splitW b).1;let y:l.pre.holds [] {args:=args}=aN:=(pre_splitW b).2;let{d,r,rfl,z,C}:=hasAllW_cons k;obtain rfl:=hasAllW_nil C;let{X,rfl,I}:=hasW_list z;let{ns,rfl}:=items_int I
 let c:ns.length<=n:=by
  delta OpenLaw.pre at y
  let h4:(WTm.not (.lt (.lit (.int (n:Int))) (.len (.arg 0)))).holds [] {args:=[.list (ns.map .int)]}=aN:=by
   let h4:=(holds_andW y).1;rw[E]at h4;exact h4
  let j:=condW_of h4 (w_not (w_lt w_lit (w_len_list (w_arg rfl))));rw[Za]at j;calc Nat.le_of_not_lt λq=>?_;let Q:(n:Int) < ((ns.length:Nat):Int):=by lia
  first
   |(rw[decide_eq_true Q]at j;exact absurd j (by decide))
   |(simp at j;lia)
 cases p with
 |cons J w2=>
  cases w2;cases J with
  |list B f=>exact{_,_,ns,rfl,rfl,B,lK ns _ f,c}
def zR(l:OpenLaw)(args:List WData):l.row.toRowW.claim.post args (.bool aN) args=aN:=
 postW_of (r:=l.row.toRowW) (X:=(aN == aN))
  (show WShape.has [] (.bool aN) .bool=aN by first |rfl |decide |simp[WShape.has,WShape.arms,WShape.armsAll])
  (show(WTm.eq .res (.lit (.bool aN))).value [] {args:=args,res:=aw (.bool aN),after:=args}=aw (.bool (aN == aN)) from w_eq_bool (w_res rfl) w_lit) rfl
def attach_call{l:OpenLaw}{n:Nat}{q:Program}{loose:List Str}{X:(Str->Option Value)->Heap->Prop}{J:World->Heap->Prop}{d:DefRec}
  (hn:l.most=aw n) (z:d.params.defaults=[])
  (call:∀ (w:World) (s₀ b:Shared) (mg B:Str->Option Value) (j:Addr) (o:Obj) (pm cd c:Value) (a:Addr) (v:List Value) (ns:List Int),
   Ground q loose [] X w s₀ mg B b.heap->J w b.heap ->
   b.heap.get? j=aw o->o.data = .func (docDef d.name d.params d.body d.scope pm cd c)->b.heap.CodeRec cd d.name->mg d.name=aw (.ref j) ->
   b.heap.get? a=aw {cls:=.type "list",data:=.seq v.toArray}->IntsAre v ns->ns.length<=n->b.gens=#[] ->
   codeAny (model l.prog w) callerA (.call (.ref j) ⟨[.ref a],[]⟩) (λr y=>r = .ok (.ret (.bool aN))/\OldK b.heap y.heap/\y.os=b.os/\AllBare y.gens) b) :
  WalkO q loose X J l.row.toRowW d [] (λf v=>PySem.call f v):=by
 intro w s₀ b mg B G Y j o pm cd c Z kV ho hd I T E hg L Q as p O U C hlo;obtain rfl:Z = .none:=Dflts.none T z;obtain rfl:kV = .none:=Dflts.noKw T;let{a,v,ns,rfl,rfl,u,h,k}:=zQ hn p C;calc enter_call (Zai (call w s₀ b mg B j o pm cd c a v ns G Y ho (fd_plain hd) I E u h k hg) λr y hq=>?_);let{rfl,h2,h3,h4}:=hq;exact{.inl {.bool aN,.bool aN,[],rfl,λ_=>rfl,.bool aN,zR l _,λ_=>{List.Pairwise.nil,λ_ hm=>(nomatch hm)}},h2,h3,h4}
end Att
namespace L2
open PySem PySem.Spec PyProof.Rows
def jX:∀ {v:List Value} {ns:List Int},IntsAre v ns->aJ (ns.map V.int) v
 |_,_,.nil=>.nil
 |_,_,.cons n t h=>.cons ⟨t,rfl⟩ (jX h)
abbrev fD(s:Stmt):W6:=match s with
 |.FunctionDef _ a _ _ _ _ _ _ _ _=>a
 |_=>{posonlyargs:=[],args:=[],vararg:=aD,kwonlyargs:=[],kw_defaults:=[],kwarg:=aD,defaults:=[]}
abbrev b9(s:Stmt):List Stmt:=match s with
 |.FunctionDef _ _ b _ _ _ _ _ _ _=>b
 |_=>[]
abbrev aH(s:Stmt):Scope:=match s with
 |.FunctionDef _ _ _ _ _ _ sc _ _ _=>sc
 |_=>{kind:=.function,names:=[],isGenerator:=false,isCoroutine:=false}
@[inline]abbrev CX0:CXT:=λ_ _ _ _ _ _=>False
@[inline]abbrev E0:XK:=λ_ _ _=>False
def Rx:wc CX0 X E0:=λ_ _ _ _ _ _ _ h=>h.elim
structure Fun(K:VX)(x qual:Str)(st:Stmt)(f:Addr)(fd:VH):Prop where
 ex:∃ (oc:Value) (od:Option Addr) (kV doc pm:Value) (an:Option Addr) (cdv ct:Value) (osl:Array (Option Value)),
  fd=V1 x qual (fD st) (b9 st) (aH st) .none kV doc pm an cdv ct/\K.lookup f=aw {oc,od,.func fd,osl}/\VZ K cdv qual=aN
 kp:V8 K (.ref f)=aN
section
variable {P:Program} {w:World} {K:VX} {m:Str->Option Value} {base:Heap}
def Fun.ok{x b:Str}{st:Stmt}{f:Addr}{n:VH}{N ps:List Str}{k:Nat}{sp:Sp}(F:Fun K x b st f n)(S:FnScope N ps (aH st))(len:∀v H Q E,sp v H Q E->v.length=ps.length)
  (d:∀ (c:Value) (A:Around) (outer:List Env) (s:Shared) (H:Hp) (v:List V) (Q:VK) (E:XK),Room k (A.deeper (envOfC b (aH st) s⁻¹ f c))->sp v H Q E ->
   ∃t,PSs (jj CX0 P w K m base N b (aH st) f c A outer s H E).nox (b9 st) t/\t {nx:=λ_ p=>Q .non p,rt:=Q} (fb N v) H):FnOk P w K m base CX0 (k+1) f n ps sp:=by
 let{z,B,kV,y,pm,C,c,ct,O,rfl,L,l}:=F.ex;calc Km L l S len λA outer s H v Q E u j=>?_;let{t,h,q}:=d c A outer s H v Q E u j;exact⟨t,h.nox,q⟩
def Fun.binds{x q:Str}{st:Stmt}{f:Addr}{j:VH}{ps:List Str}(F:Fun K x q st f j)
  (h:∀ (kV d pm:Value) (b:Option Addr) (c ct:Value) (u:List Value),u.length=ps.length->No (V1 x q (fD st) (b9 st) (aH st) .none kV d pm b c ct) ⟨u,[]⟩=pure (ps.zip u)):pZ K j ps []:=by
 let{l,n,kV,d,pm,b,c,ct,O,rfl,L,k}:=F.ex;exact .all (h kV d pm b c ct)
def Ma{x qual:Str}{st:Stmt}{f:Addr}{j:Value}{h b:Option Addr}{O:Array (Option Value)}{kV d pm C ct:Value}(l:K.lookup f=aw {j,h,.func (V1 x qual (fD st) (b9 st) (aH st) .none kV d pm b C ct),O})
  (c:VZ K C qual=aN) (k:V8 K (.ref f)=aN):Fun K x qual st f (V1 x qual (fD st) (b9 st) (aH st) .none kV d pm b C ct):=⟨⟨j,h,kV,d,pm,b,C,ct,O,rfl,l,c⟩,k⟩
end
def zS{n:Nat}(h:n<=1000):n < sizeLine:=Yh h (by decide)
abbrev cdO(c:Addr)(q:Str):HO:=.ext λh=>h.CodeRec (.ref c) q
structure TabOk(T:Addr)(pos:Pos)(qual:Str)(H:Hp)(ps:Array Value):Prop where
 at_:H T=aw (.tbl ps)
 tr:VV ps.toList
 cd:∀cv,Zag pos ps.toList=aw cv->∃c',cv = .ref c'/\H c'=aw (cdO c' qual)
abbrev FZ(K:VX)(x:Str)(a:Addr):Prop:=∀ (f:Addr) (o:Obj) (b:VH) (c:Addr) (O:Obj) (v:Array Value) (P:Addr),K.lookup f=aw o->o.data = .func b->b.qualname=x->b.code = .ref c->K.lookup c=aw O->O.data = .fields v->v[11]?=aw (.ref P)->P=a
abbrev rm(ifs:List Expr)(env:Env):Sem Bool:=
 forIn ifs aN λc r=>if r=aN then do let ok <-isTrue c env (eval c env);pure (ForInStep.yield ok) else pure (ForInStep.yield r)
def F0{d:Nat}
  (Z:b[d]?=aw ⟨U,T,ifs,0⟩)
  (h:wpAny M A (pyNext it) (λr y=>match r with
   |none=>Q (.done .next) y
   | some v=>wpAny M A (Zau U it v) (λ_ B=>wpAny M A (assign U env v) (λ_ L=>wpAny M A (rm ifs env) (λok n=>if ok=aN then (match b[d+1]? with
     |none=>wpAny M A (eval j env) (λx k=>wpAny M A (call (.builtin "list.append") [f,x]) (λ_ l=>Q (.again (.compLoop (.ListComp j b c p) d it f env)) l) E k) E n
     | some g'=>g'.is_async=0/\wpAny M A (eval g'.iter env) (λx k=>wpAny M A (Zap g'.iter env x) (λX l=>wpAny M A (pyIter X) (λI C=>
       wpAny M A (runOwn (.compStart (.ListComp j b c p) (d+1) I f env) env) (λ_ J=>Q (.again (.compLoop (.ListComp j b c p) d it f env)) J) E C) E l) E k) E n)
    else Q (.again (.compLoop (.ListComp j b c p) d it f env)) n) E L) E B) E y) E s) :
  wpAny M A (compTurn (.ListComp j b c p) d it f env) Q E s:=by
 delta compTurn;simp![Z];calc ZaZ (Zbv ?_);show wpAny M A (pyNext it >>= _) Q E s;calc ZaZ (Zbd h (λr y z=>?_) λ_ _ x=>x);cases r with
 |none=>exact Zbk z
 |some v=>
  calc ZaZ (Zbd z (λ_ B h2=>?_) λ_ _ x=>x);calc ZaZ (Zbd h2 (λ_ L h3=>?_) λ_ _ x=>x);calc ZaZ (Zbd h3 (λok n h4=>?_) λ_ _ x=>x);cases ok with
  |false=>exact Zbk h4
  |true=>
   simp![if_true]at h4 ⊢;cases O:b[d+1]? with
   |none=>
    rw[O]at h4;calc ZaZ (ZaZ (Zbd h4 (λx k q=>?_) λ_ _ x=>x));exact ZaZ (Zbd q (λ_ l u=>Zbk (Zbk u)) λ_ _ x=>x)
   |some g'=>
    rw[O]at h4;let{Y,h4}:=h4;calc ZaZ (Zbd h4 (λx k q=>ZaZ (Zbv ?_)) λ_ _ x=>x);rw[Y];show wpAny M A (Zap g'.iter env x >>= _) Q E k;calc ZaZ (Zbd q (λX l u=>?_) λ_ _ x=>x);calc ZaZ (Za8 (Zbd u (λI C h7=>?_) λ_ _ x=>x));exact ZaZ (Zbd h7 (λ_ J h8=>Zbk h8) λ_ _ x=>x)
abbrev cm(c:List (Str×Addr)):List (Str×VL)->List (Str×Addr)->List (Str×Addr)
 |[],acc=>acc
 |(n,k)::r,acc=>if k == .free then cm c r ((n,(c.lookup n).getD 0)::acc) else cm c r acc
def iK:∀ (b:List (Str×VL)) (d:List (Str×Addr)),(∀y∈b,y.2 = .free->∃c,env.cells.lookup y.1=aw c) ->
  (forIn b d λ(x:Str×VL) (C:List (Str×Addr))=>(match x with |(name,kind)=>if kind == .free then (do let a <-cellOf env name;pure (ForInStep.yield ((name,a)::C))) else pure (ForInStep.yield C):Sem (ForInStep (List (Str×Addr)))))
   = (pure (cm env.cells b d):Sem (List (Str×Addr)))
 |[],d,_=>by rw[XF];rfl
 |(n,k)::r,d,h=>by
  rw[WE];let l:∀y∈r,y.2 = .free->∃c,env.cells.lookup y.1=aw c:=λy p=>h y (Zg _ p);cases f:(k == NameKind.free) with
  |true=>
   let{c,j}:=h (n,k) Zj (by simpa using f);let e:cellOf env n=pure c:=by delta cellOf;rw[show env.cells.lookup n=aw c from j]
   simp![f,if_true,e,pure_bind];rw[iK r _ l]
   conv=>rhs;rw[cm]
   simp![f,if_true];rw[show env.cells.lookup n=aw c from j];rfl
  |false=>
   simp![f,ZN,if_false,pure_bind];rw[iK r _ l]
   conv=>rhs;rw[cm]
   simp![f,ZN,if_false]
def yd(h:∀y∈b.names,y.2 = .free->∃c,env.cells.lookup y.1=aw c):Zaf b env=pure (cm env.cells b.names []):=by
 let e:=iK (env:=env) b.names [] h;delta Zaf;refine Eq.trans ?_ e
 first
  |rfl
  |(rw[bind_pure])
  |(simp![bind_pure])
def jY:∀ {b:List (Str×VL)} {d:List (Str×Addr)} {x:Str} {c:Addr},(x,c)∈cm C b d->(x,c)∈d\/((x,NameKind.free)∈b/\c=(C.lookup x).getD 0)
 |[],_,_,_,h=>.inl h
 |(n,k)::r,d,x,c,h=>by
  delta cm at h;split at h
  .rename_i j;let f:k = .free:=by simpa using j
   rcases jY h with e |⟨e,q⟩
   .rcases Zn.mp e with e |e
    .cases e;exact .inr {by rw[f];exact Zj,rfl}
    .exact .inl e
   .exact .inr {Zg _ e,q}
  .rcases jY h with e |⟨e,q⟩
   .exact .inl e
   .exact .inr {Zg _ e,q}
def f9:∀ {l:List (Str×Addr)},(∃c,(x,c)∈l)->∃c,l.lookup x=aw c
 |[],⟨_,h⟩=>nomatch h
 |(n,c)::r,⟨c',h⟩=>by
  rw[Yv];cases hb:x == n with
  |true=>exact⟨c,rfl⟩
  |false=>
   rcases Zn.mp h with e |e
   .cases e;simp at hb
   .exact f9 ⟨c',e⟩
def gZ:∀ {b:List (Str×VL)} {acc:List (Str×Addr)},(x,NameKind.free)∈b\/(∃c,(x,c)∈acc)->∃c,(x,c)∈cm cells b acc
 |[],_,h=>h.elim (λe=>nomatch e) id
 |(n,k)::r,acc,h=>by
  delta cm;split
  .rename_i d;calc gZ ?_;rcases h with h |⟨c,h⟩
   .rcases Zn.mp h with e |e
    .cases e;exact .inr ⟨_,Zj⟩
    .exact .inl e
   .exact .inr {c,Zg _ h}
  .rename_i d;calc gZ ?_;rcases h with h |⟨c,h⟩
   .rcases Zn.mp h with e |e
    .cases e;exact absurd rfl d
    .exact .inl e
   .exact .inr ⟨c,h⟩
def cK:∀ (c:List (Str×VL)) (n:Nat) (b:List (Str×Addr)),Zae n c b=Zae n c []++b
 |[],_,_=>rfl
 |(y,k)::r,n,b=>by
  delta Zae;split
  .rw[cK r (n+1) ((y,n)::b),cK r (n+1) [(y,n)],Yk];rfl
  .exact cK r n b
def eG:∀ (b:List (Str×VL)) (n:Nat) (d:List (Str×Addr)) (x:Str) (c:Addr),(x,c)∈Zae n b d->(x,c)∈d\/(x,NameKind.cell)∈b
 |[],_,_,_,_,h=>.inl h
 |(y,k)::r,n,d,x,c,h=>by
  delta Zae at h;split at h
  .rename_i j;let f:k = .cell:=by simpa using j
   rcases eG r _ _ x c h with e |e
   .rcases Zn.mp e with e |e
    .cases e;exact .inr (by rw[f];exact Zj)
    .exact .inl e
   .exact .inr (Zg _ e)
  .rcases eG r _ _ x c h with e |e
   .exact .inl e
   .exact .inr (Zg _ e)
abbrev pF(sc:Scope)(n:Str)(k:VL):VL:=if (k == .free && sc.kind == .function && sc.names.lookup n == aw .cell) then .cell else k
abbrev ga(b sc:Scope):Scope:={b with names:=b.names.map λy=>(y.1,pF sc y.1 y.2)}
def F1(b:Scope)(env:Env):relabel b env=ga b env.scope:=by
 delta relabel ga
 congr 1
 calc Ym λy _=>?_;let{n,k}:=y;delta pF;dsimp!;show(if (k == NameKind.free && env.scope.kind == ScopeKind.function && List.lookup n env.scope.names == aw NameKind.cell)=aN then (n,NameKind.cell) else (n,k))=_;split <;> rfl
def gf(sc:Scope)(x:Str):∀b:List (Str×VL),(b.map λy=>(y.1,pF sc y.1 y.2)).lookup x=(b.lookup x).map (pF sc x)
 |[]=>rfl
 |(n,k)::r=>by
  rw[Zy,Yv,Yv];dsimp!;cases hb:x == n with
  |true=>
   let q:x=n:=by simpa using hb
   subst q;rfl
  |false=>exact gf sc x r
abbrev wp(scope:Scope)(C:Addr)(env:Env):Env:=
 {scope:=ga scope env.scope,locals:=C,globals:=env.globals,cells:=Zae (C+1) scope.names (cm env.cells scope.names []),qual:=env.qual,func:=aD,code:=env.code,frame:=env.frame,builtins:=env.builtins}
def zU
  (h:Q {scope:=scope,locals:=s⁻¹,globals:=env.globals,cells:=Zae (s⁻¹+1) scope.names cl,qual:=env.qual,func:=aD,code:=env.code,frame:=env.frame,builtins:=env.builtins}
   {s with heap:=ZaE (s.heap.push {cls:=.type "dict",data:=.dict #[]}) scope.names}) :
  wpAny M A (Zax scope env.globals cl [] env.qual aD .none (aw env)) Q E s:=by
 simp![Zax,Wj,if_true];calc ZaZ (wpAny_alloc ?_);refine ZaZ (wpAny_layCells _ (λname kind cells=>by cases b:kind == NameKind.cell <;> simp[b]) _ _ _ _ ?_);rw[show({s with heap:=s.heap.push {cls:=.type "dict",data:=.dict #[]}}:Shared).heap.objs.size=s⁻¹+1 from Yz ..];simp![XF]
 first
  |exact ZaZ (Zbk (Zbk h))
  |exact Zbk h
abbrev BS(i:Nat):Str:=⟨#[i]⟩
abbrev dE:List Nat->List Str->List Str
 |[],N=>N
 |i::hs,N=>dE hs (N.set i (BS i))
def jZ:∀ (hs:List Nat) (N:List Str),(dE hs N).length=N.length
 |[],_=>rfl
 |i::hs,N=>by rw[dE,jZ hs,Yb]
def qh:∀ (hs:List Nat) (N:List Str) {i:Nat} {x:Str},(dE hs N)[i]?=aw x->N[i]?=aw x\/∃j∈hs,x=BS j
 |[],_,_,_,h=>.inl h
 |k::hs,N,i,x,h=>by
  rw[dE]at h;rcases qh hs (N.set k (BS k)) h with e |⟨j,hj,e⟩
  .rw[YC]at e;split at e
   .split at e
    .exact .inr {k,Zj,(Option.some.inj e).symm}
    .cases e
   .exact .inl e
  .exact .inr {j,Zg _ hj,e}
structure CmScope(own:List Str)(hs:List Nat)(N:List Str)(scope sc:Scope):Prop where
 kind:scope.kind = .function
 nd:(dE hs N++own).Nodup
 uniq:(scope.names.map (·.1)).Nodup
 dis:∀x∈dE hs N,scope.names.lookup x≠aw .local/\scope.names.lookup x≠aw .cell
 fr:∀y∈scope.names,y.2 = .free->sc.names.lookup y.1=aw .cell\/sc.names.lookup y.1=aw .free
 hd:∀i∈hs,scope.names.lookup (BS i)=aD
def dA:∀ {l:List (Str×VL)} {x:Str} {k:VL},(l.map (·.1)).Nodup->(x,k)∈l->l.lookup x=aw k
 |(n,k')::r,x,k,nd,h=>by
  rw[Zy,Z9]at nd;rw[Yv];rcases Zn.mp h with e |e
  .cases e;simp
  .let ne:(x == n)=aS:=by
    cases hb:x == n with
    |false=>rfl
    |true=>
     let q:x=n:=by simpa using hb
     subst q;exact absurd (Zz.mpr {(x,k),e,rfl}) nd.1
   rw[ne];exact dA nd.2 e
abbrev cxC(X:Cx)(own:List Str)(hs:List Nat)(b:Scope)(C:Addr)(ex:List Addr)(s:Shared)(H:Hp):Cx where
 prog:=X.prog
 w:=X.w
 K:=X.K
 mg:=X.mg
 base:=X.base
 A:=X.A
 N:=dE hs X.N++own
 s₀:=s
 H₀:=H
 env:=wp b C X.env
 outer:=X.stack
 stack:=X.stack
 ex:=ex
 fn:=λx=>b.names.lookup x == aw .cell
 calm:=X.calm
 pn:=[]
 xe:=λ_ _=>False
section
variable {X:Cx} {d:List (Addr×Obj)} {f:St} {H:Hp} {s:Shared} {own:List Str} {g:List Nat} {scope:Scope} {n:List Addr}
def Inv.compStart(I:Inv X d f H s)(S:CmScope own g X.N scope X.env.scope)(hf:∀b∈n,iI X d H b)(hfo:∀b∈n,b < s⁻¹) :
  Inv (cxC X own g scope s⁻¹ n s H) [] (f++ZP own.length aD) H {s with heap:=ZaE (s.heap.push {cls:=.type "dict",data:=.dict #[]}) scope.names}:=by
 let keep:∀b o,s.heap.get? b=aw o->(ZaE (s.heap.push {cls:=.type "dict",data:=.dict #[]}) scope.names).get? b=aw o:=λb o e=>ZaF _ _ b o (Zc _ e);let ok:=cellsFrom_ok scope.names (s.heap.push {cls:=.type "dict",data:=.dict #[]}) (s⁻¹+1) [] {λ_ _ hm=>(nomatch hm),List.Pairwise.nil} (by rw[Yz];exact Zf _);rw[Yz]at ok;let E:(wp scope s⁻¹ X.env).cells=Zae (s⁻¹+1) scope.names []++cm X.env.cells scope.names []:=cK _ _ _;let hasX:∀x,(x,NameKind.free)∈scope.names->∃c,X.env.cells.lookup x=aw c:=λx h=>I.ok.has x (S.fr (x,.free) h rfl)
 let old:∀x c,(x,c)∈cm X.env.cells scope.names []->X.env.cells.lookup x=aw c/\(x,NameKind.free)∈scope.names:=λx c h=>by
  rcases jY h with e |⟨e,q⟩
  .exact nomatch e
  .let{c',Z}:=hasX x e;rw[Z]at q;exact{by rw[Z,q];rfl,e}
 let O:∀x c,X.env.cells.lookup x=aw c->c < s⁻¹:=λx c h=>let ⟨_,z⟩:=I.cell x c h;z.lt
 let B:∀x c,(wp scope s⁻¹ X.env).cells.lookup x=aw c->((x,c)∈Zae (s⁻¹+1) scope.names [])\/(X.env.cells.lookup x=aw c/\(x,NameKind.free)∈scope.names):=λx c h=>by
  let m:=Zaw h;rw[E]at m;rcases ZR.mp m with e |e
  .exact .inl e
  .exact .inr (old x c e)
 let L:∀x c,(x,c)∈Zae (s⁻¹+1) scope.names []->s⁻¹+1<=c:=λx c h=>(ok.empty x c h).2
 let noFs:∀b∈n,b∉frs X.stack:=λb hb z=>by
  rcases Zn.mp (I.stkSub b z) with e |e
  .exact(hf b hb).2.1 e
  .exact(hf b hb).2.2.1 e
 let xok:(cxC X own g scope s⁻¹ n s H).Ok:=by
  refine{I.ok.mod,S.kind,I.ok.glob,I.ok.blt,Zf _,?_,?_,?_,I.ok.hd,I.ok.frames,.inl rfl,?_,I.bs,ZJ I.ok.bsz I.sz,?_,noFs,I.stack,I.stkFree}
  .intro x y c U Y;rcases B x c U with a |⟨a,_⟩ <;> rcases B y c Y with b |⟨b,_⟩
   .exact name_of_addr ok.apart a b
   .exact absurd (ZD (O y c b) (XG (L x c a))) (ZI _)
   .exact absurd (ZD (O x c a) (XG (L y c b))) (ZI _)
   .exact I.ok.inj x y c a b
  .intro x hx;let hx':(ga scope X.env.scope).names.lookup x=aw .cell\/(ga scope X.env.scope).names.lookup x=aw .free:=hx;let e:=gf X.env.scope x scope.names
   let key:(x,NameKind.cell)∈scope.names\/(x,NameKind.free)∈scope.names:=by
    cases Q:scope.names.lookup x with
    |none=>rw[Q]at e;rcases hx' with z |z <;> (rw[show(ga scope X.env.scope).names.lookup x=aD from e]at z;cases z)
    |some k=>
     let m:=Zaw Q;rw[Q]at e;cases k with
     |cell=>exact .inl m
     |free=>exact .inr m
     |_=>rcases hx' with z |z <;> (rw[show(ga scope X.env.scope).names.lookup x=_ from e]at z;simp[pF]at z)
   rcases key with h |h
   .let q:=VY scope.names (s⁻¹+1) (cm X.env.cells scope.names []) (x:=x) (.inl (dA S.uniq h));exact Yq.mp q
   .let{c,Z}:=gZ (cells:=X.env.cells) (acc:=[]) (.inl h);let q:∃c,(x,c)∈(wp scope s⁻¹ X.env).cells:={c,by rw[E];exact ZB _ Z};exact f9 q
  .intro x c hfn Q
   let T:scope.names.lookup x=aw .cell:=by
    let z:(scope.names.lookup x == aw NameKind.cell)=aN:=hfn
    simpa using z
   rcases B x c Q with a |⟨_,b⟩
   .exact ZJ (YM _) (L x c a)
   .rw[dA S.uniq b]at T;cases T
  .intro b hb;calc⟨ZH (hfo b hb),λx c h z=>?_⟩;rcases B x c h with a |⟨a,_⟩
   .exact absurd (ZD (z▸hfo b hb) (XG (L x c a))) (ZI _)
   .exact(hf b hb).2.2.2.2.1 x c a z
  .intro b o e hb;rcases (hf b hb).2.2.2.1 with z |z
   .exact I.ok.noex b o e z
   .let U:=Zv e;exact absurd (ZD U (ZJ I.ok.bsz z)) (ZI _)
 let m0:(ZaE (s.heap.push {cls:=.type "dict",data:=.dict #[]}) scope.names).Ns s⁻¹ (λ_=>aD):=(Heap.Ns.new s.heap (.type "dict")).keeps (ZaF _ _);refine{xok,rfl,I.bare,Un.kept keep,{_,m0,?_},?_,I.hok.fresh (Zf _),?_,λp hp=>absurd (show p∈([]:List (Addr×Obj)) from hp) (by simp),I.hok.kept keep,?_}
 .intro i x v U Y h3
  let hi:i < f.length:=by
   by_cases hi:i < f.length
   .exact hi
   .rw[Zp (by lia),YH]at Y;split at Y <;> cases Y
  rw[Zt hi]at Y;let hN:i < X.N.length:=by rw[<-I.len];exact hi
  let h1h:(dE g X.N)[i]?=aw x:=by
   let U:(dE g X.N++own)[i]?=aw x:=U
   rwa[Zt (by rw[jZ];exact hN)]at U
  let dx:=S.dis x (Zd h1h);let e:=gf X.env.scope x scope.names;let h3':(ga scope X.env.scope).names.lookup x=aw .local\/(ga scope X.env.scope).names.lookup x=aw .cell\/(ga scope X.env.scope).names.lookup x=aw .free:=h3
  let C:scope.names.lookup x=aw .free:=by
   cases Q:scope.names.lookup x with
   |none=>rw[Q]at e;rcases h3' with z |z |z <;> (rw[show(ga scope X.env.scope).names.lookup x=aD from e]at z;cases z)
   |some k=>
    rw[Q]at e dx;cases k with
    |free=>rfl
    |«local»=>exact absurd rfl dx.1
    |cell=>exact absurd rfl dx.2
    |_=>rcases h3' with z |z |z <;> (rw[show(ga scope X.env.scope).names.lookup x=_ from e]at z;simp[pF]at z)
  let h1':X.N[i]?=aw x:=by
   rcases qh g X.N h1h with z |⟨j,hj,z⟩
   .exact z
   .rw[z,S.hd j hj]at C;cases C
  let J:=Zaw C;let kX:=S.fr (x,.free) J rfl;let{m,hn,Q}:=I.loc;let{u,r,l}:=Q i x v h1' Y (kX.elim (λz=>.inr (.inl z)) λz=>.inr (.inr z));refine{u,r,.inr {?_,?_}}
  .let k3:(ga scope X.env.scope).names.lookup x=aw (pF X.env.scope x .free):=by rw[C]at e;exact e
   let k4:pF X.env.scope x .free = .cell\/pF X.env.scope x .free = .free:=by delta pF;split <;> simp
   rcases k4 with z |z
   .exact .inl (by show(ga scope X.env.scope).names.lookup x=_;rw[k3,z])
   .exact .inr (by show(ga scope X.env.scope).names.lookup x=_;rw[k3,z])
  .rcases l with ⟨lk,_⟩ |⟨_,c,Z,z⟩
   .let lk':X.env.scope.names.lookup x=aw .local:=lk;rcases kX with q |q <;> (rw[q]at lk';cases lk')
   .calc{c,?_,z.keeps keep};let{c',hc'}:=gZ (cells:=X.env.cells) (acc:=[]) (.inl J);let{c2,hl2}:=f9 (l:=(wp scope s⁻¹ X.env).cells) {c',by rw[E];exact ZB _ hc'};rcases B x c2 hl2 with a |⟨a,_⟩
    .rcases eG _ _ _ _ _ a with q |q
     .exact nomatch q
     .rw[dA S.uniq q]at C;cases C
    .rw[Z]at a;cases a;exact hl2
 .intro x c h;rcases B x c h with a |⟨a,_⟩
  .exact{_,(ok.empty x c a).1}
  .let{v,z}:=I.cell x c a;exact{v,z.keeps keep}
 .intro x c h;rcases B x c h with a |⟨a,_⟩
  .exact I.hok.fresh (ZJ (YM _) (L x c a))
  .exact I.freeC x c a
 .show(f++ZP own.length aD).length=(dE g X.N++own).length;rw[Ze,Ze,X2,jZ,I.len]
end
abbrev tP(J:It)(g:TG)(T:TS)(D:Ends)(c:St)(H:Hp):Prop:=∃W:Nat->Nat->St->Hp->Prop,(∃m,W 0 m c H)/\∀i m c H,W i m c H ->
 (J.stop i H/\D.nx c H)\/(J.go i H/\∃N:St->Hp->Prop,(∀b h,N b h->∃f,f < m/\W (i+1) f b h)/\∀x h,J.yld i H x h->g x c h λd j=>T {D with nx:=N,ct:=N,bk:=D.nx} d j)
abbrev PTs(Y:Cx)(ifs:List Expr)(t:TT):Prop:=
 ∀ (p:List (Addr×Obj)) (s:Shared) (b:St) (H:Hp) (Q:Bool->Hp->Prop),Inv Y p b H s->t b H Q->wpAny (model Y.prog Y.w) Y.A (rm ifs Y.env) (TP Y p b Q) Y.xe s
abbrev F2:TT:=λ_ H Q=>Q aN H
def F3:PTs Y [] F2:=λ_ _ _ H _ I h=>by
 delta rm;rw[XF];exact Zbk ⟨H,I,h⟩
def F4(hc:PT Y c t):PTs Y [c] t:=λp s d H Q I h=>by
 delta rm;rw[WE];simp![if_true,XF];calc ZaZ (ZaZ (thn (hc p s d H Q I h) λb f q=>Zbk ?_));exact Zbk q
abbrev PTl(Y:Cx)(E:Expr)(c:List W9)(f:Scope)(l:Pos)(h:Addr)(d:Nat)(t:TS):Prop:=
 ∀ (p:List (Addr×Obj)) (s:Shared) (u:St) (H:Hp) (D:Ends),Inv Y p u H s->t D u H ->
  match c[d+1]? with
  |none=>wpAny (model Y.prog Y.w) Y.A (eval E Y.env) (λx q=>wpAny (model Y.prog Y.w) Y.A (call (.builtin "list.append") [.ref h,x]) (λ_ n=>∃b j,Inv Y p b j n/\D.nx b j) (λ_ _=>False) q) (λ_ _=>False) s
  | some k=>k.is_async=0/\wpAny (model Y.prog Y.w) Y.A (eval k.iter Y.env) (λx q=>wpAny (model Y.prog Y.w) Y.A (Zap k.iter Y.env x) (λX n=>wpAny (model Y.prog Y.w) Y.A (pyIter X) (λI v=>
    wpAny (model Y.prog Y.w) Y.A (runOwn (.compStart (.ListComp E c f l) (d+1) I (.ref h) Y.env) Y.env) (λ_ y=>∃b j,Inv Y p b j y/\D.nx b j) (λ_ _=>False) v) (λ_ _=>False) n) (λ_ _=>False) q) (λ_ _=>False) s
abbrev fW(T:TT)(t:TS):TS:=λD b H=>T b H λc h=>if c=aN then t D b h else D.nx b h
abbrev Kr(b:Addr)(T:TE):TS:=λD c H=>T c H λx h=>∃X,h b=aw (.lst X)/\X.length < sizeLine/\D.nx c (upd h b (.lst (X++[x])))
section
variable {Y:Cx} {elt:Expr} {gens:List W9} {scope:Scope} {pos:Pos} {acc:Addr} {d:Nat}
def BU(c:Y.xe=λ_ _=>False)(L:gens[d+1]?=aD)(O:PE Y elt T):PTl Y elt gens scope pos acc d (Kr acc T):=by
 intro p s b H D I h;rw[L];let f:=O p s b H _ I h;rw[c]at f;calc thn f λx J ⟨v,B,l,u,X,n,E,q⟩=>?_;let z:=qg p J b B (.ref acc) [v] (.ref acc) [x] (λy k=>y = .non/\D.nx b k) l rfl (.cons u .nil) ⟨acc,X,v,rfl,rfl,n,E,rfl,q⟩;rw[c]at z;exact thn z λy U ⟨Z,j,C,r6,e6,Q⟩=>⟨b,j,C,Q⟩
def mS{A:Around}{R:Result->Shared->Prop}{prog:Program}{w:World}{s:Shared}{T I:Expr}{ifs:List Expr}{it acc:Value}{env:Env}(l:gens[d]?=aw ⟨T,I,ifs,0⟩)
  (k:codeAny (model prog w) A (.compLoop (.ListComp elt gens scope pos) d it acc env) R s)
  (h:wpAny (model prog w) A (pyIter it) (λb c=>codeAny (model prog w) A (.compLoop (.ListComp elt gens scope pos) d b acc env) R c) (notedBy (model prog w) A env λx c=>R (.error x) c) s) :
  codeAny (model prog w) A (.compStart (.ListComp elt gens scope pos) d it acc env) R s:=by
 calc codeAny_of_tree ?_;show wpAny _ _ ((compStart (.ListComp elt gens scope pos) d it acc env).onRaise (λx=>do noteFrame x env;standAt theWindowsPlace)) _ _ s;calc wpAny_notedAt ?_;delta compStart;let j:(clausesOf (.ListComp elt gens scope pos))[d]?=aw ⟨T,I,ifs,0⟩:=l;simp![j,Option.elim];show wpAny _ _ (ask >>= _) _ _ s;calc ZaZ (wpAny_askSetting (wpAny_ite ?_));split
 .first
   |exact ZaZ (Zbk (Zbk (And.intro rfl k)))
   |exact Zbk (And.intro rfl k)
 .first
   |exact ZaZ (Zbr (ZaZ (Zbv (ZaZ (Zbd h (λb c f=>Zbk (And.intro rfl f)) λ_ _ x=>x)))))
   |(calc ZaZ (Zbr ?_);show wpAny _ _ (standAt I.pos >>= _) _ _ s;exact ZaZ (Zbv (ZaZ (Zbd h (λb c f=>Zbk (And.intro rfl f)) λ_ _ x=>x))))
def qi
  (hx:Y.xe=λ_ _=>False) (hc:Y.calm=aN) (hg:gens[d]?=aw ⟨tg,iter,ifs,0⟩) (T:Turn Y.prog Y.w Y.K tg J y it tn) (I2:Inv Y p σ H s) (st2:tn 0 s.heap) (f2:∀b∈y,iI Y p H b)
  (hgt:PG Y tg g) (hts:PTs Y ifs ti) (htl:PTl Y elt gens scope pos acc d t) (hW:tP J g (fW ti t) D σ H) :
  codeAny (model Y.prog Y.w) Y.A (.compLoop (.ListComp elt gens scope pos) d (.ref it) (.ref acc) Y.env) (λr U=>r = .ok .next/\∃c H',Inv Y p c H' U/\D.nx c H') s:=by
 let{W,⟨m0,w0⟩,O}:=hW;let h:∀ {H':Hp},(∀b∈y,H' b=aD)->∀b∈y,iI Y p H' b:=λX b hb=>{X b hb,(f2 b hb).2};calc codeAny_loop rfl (λn U=>∃i c H',Inv Y p c H' U/\tn i U.heap/\(∀b∈y,H' b=aD)/\W i n c H') (λn s3 hI=>?_) m0 {0,σ,H,I2,st2,λb hb=>(f2 b hb).1,w0};let{i,f,H3,I3,Q,C,w3}:=hI;show wpAny _ _ ((compTurn (.ListComp elt gens scope pos) d (.ref it) (.ref acc) Y.env).onRaise (λx=>do noteFrame x Y.env;theTreesLotGoes x)) _ _ s3;calc wpAny_noted (Zbd (E:=λ_ _=>False) ?_ (λ_ _ q=>q) λ_ _ z=>z.elim);calc F0 hg ?_;rcases O i n f H3 w3 with ⟨stop,qn⟩ |⟨go,N,hN,step⟩
 .calc thn (T.done Y rfl rfl rfl hc i p s3 f H3 _ I3 (h C) Q stop) λr s4 ⟨hr,I4⟩=>?_;subst hr;exact⟨rfl,f,H3,I4,qn⟩
 .calc thn (T.item Y rfl rfl rfl hc i p s3 f H3 _ I3 (h C) Q go) λr s4 ⟨u,hr,h4⟩=>?_;subst hr;calc thn h4 λ_ s5 ⟨x,H5,I5,r5,y5,l,fr5⟩=>?_;let I5':=I5.pinned (h fr5) (T.obj _ _ l)
  let again:∀ {j:St} {k:Hp} {B:Shared},Inv Y (p++mI y s5.heap) j k B->N j k->∃m,m < n/\∃i c H',Inv Y p c H' B/\tn i B.heap/\(∀b∈y,H' b=aD)/\W i m c H':=λ{j k B} I n7=>by
   let{m',hm,w7}:=hN j k n7;calc{m',hm,i+1,j,k,I.unpinned,T.keep _ _ _ l λb hb o e=>(I.pin (b,o) (ZB _ (ZB _ (fC hb e)))).1,λb hb=>?_,w7};let{o,e,dd}:=T.obj _ _ l b hb;exact(I.pin (b,o) (ZB _ (ZB _ (fC hb e)))).2.1
  let hG:=hgt _ s5 f H5 x u _ I5' r5 (step x H5 y5);rw[hx]at hG;calc thn hG λ_ s6 ⟨L,H6,I6,q6⟩=>?_;let hT:=hts _ s6 L H6 _ I6 q6;rw[hx]at hT;calc thn hT λok B ⟨k,I,Z⟩=>?_;cases ok with
  |false=>
   simp![ZN,if_false]at Z ⊢;exact{by trivial,again I Z}
  |true=>
   simp![if_true]at Z ⊢;let v:=htl _ B L k _ I Z;cases X:gens[d+1]? with
   |none=>
    rw[X]at v;exact thn v λx s8 h8=>thn h8 λ_ s9 ⟨σ9,H9,I9,q9⟩=>{by trivial,again I9 q9}
   |some g'=>
    rw[X]at v;let{ha,v}:=v;exact{ha,thn v λx s8 h8=>thn h8 λx' s9 h9=>thn h9 λit' s10 h10=>thn h10 λ_ s11 ⟨σ9,H9,I9,q9⟩=>{by trivial,again I9 q9}}
abbrev BV(wi:TI)(g:TG)(T:TT)(t:TS):TS:=λD b H=>wi b H λJ h=>tP J g (fW T t) D b h
def F5(k:gens[d+1]?=aw ⟨y,b,ifs,0⟩)
  (hi:PI Y y b wi) (f:PG Y y g) (l:PTs Y ifs E) (j:PTl Y elt gens scope pos acc (d+1) t) (n:Y.xe=λ_ _=>False:=by rfl) (hc:Y.calm=aN:=by rfl) (hs:∀x,Zap b Y.env x=pure x:=by intro _;rfl) :
  PTl Y elt gens scope pos acc d (BV wi g E t):=by
 intro p s C H D I h;rw[k];calc⟨rfl,?_⟩;let u:=hi p s C H _ I h;rw[n]at u;calc thn u λv s5 B=>Zbi (hs v) (thn B λO Z Q=>?_);let{it,fp,tn,J,H6,e,U,T,c,z,W}:=Q;subst e;let L:=qi (elt:=elt) (gens:=gens) (scope:=scope) (pos:=pos) (acc:=acc) n hc k T U c z f l j W;calc wpAny_runOwn (Zai (mS k L (T.self _ 0 Z _ _ c L)) λr s8 X=>?_);let{rfl,q}:=X;exact q
end
abbrev BW(own:Nat)(wi:TI)(g:TG)(T:Addr->TS):TE:=λc H Q=>wi c H λJ h=>∀b,h b=aD ->
 tP J g (T b) {nx:=λ_ d=>Q (.ref b) d,rt:=λ_ _=>False} (c++ZP own aD) (upd h b (.lst []))
section
variable {X:Cx} {elt f j:Expr} {k:List Expr} {l:List W9} {scope:Scope} {pos:Pos} {own:List Str} {n:List Nat} {w:TI} {g:TG} {ti:TT} {t:Addr->TS}
def mU{v:List (Addr×Obj)}{σ:St}{Q:VK}{itv:Value}{s2:Shared}{E:Value->Shared->Prop}(hc:X.calm=aN)(S:CmScope own n X.N scope X.env.scope)
  (hgt:∀C ex s H,PG (cxC X own n scope C ex s H) f g) (hts:∀C ex s H,PTs (cxC X own n scope C ex s H) k ti)
  (htl:∀C ex s H h,PTl (cxC X own n scope C ex s H) elt (⟨f,j,k,0⟩::l) scope pos h 0 (t h))
  (h2:PIE X v σ f (λJ H1=>∀h,H1 h=aD->tP J g (fW ti (t h)) {nx:=λ_ y=>Q (.ref h) y,rt:=λ_ _=>False} (σ++ZP own.length aD) (upd H1 h (.lst []))) itv s2)
  {RR:Value->Addr->Result->Shared->Prop} (hRR:∀h C y s',Inv X v σ y s'->iI X v y C->(∃m,s'.heap.Ns C m)->Q (.ref h) y->RR (.ref h) C (.ok .next) s') :
  wpAny (model X.prog X.w) X.A (newList []) (λh u=>wpAny (model X.prog X.w) X.A (Zax scope X.env.globals (cm X.env.cells scope.names []) [] X.env.qual aD .none (aw X.env)) (λz U=>
   codeAny (model X.prog X.w) X.A (.compStart (.ListComp elt (⟨f,j,k,0⟩::l) scope pos) 0 itv h {z with scope:=relabel scope X.env}) (RR h z.locals) U) E u) E s2:=by
 let{it,B,tn,J,H2,e,I2,T,st2,f2,R}:=h2;subst e;calc Zbg ?_;let Z:Inv X v σ (upd H2 s2⁻¹ (.lst [])) {s2 with heap:=s2.heap.push {cls:=.type "list",dict:=aD,data:=.seq ([]:List Value).toArray}}:=I2.lnew (its:=[]) (t':=s2.toks) .nil (Z2 _);let W:=R s2⁻¹ (I2.hok.fresh (Zf _));generalize hs3:({s2 with heap:=s2.heap.push {cls:=.type "list",dict:=aD,data:=.seq ([]:List Value).toArray}}:Shared)=u at Z ⊢;let e3:u.heap=s2.heap.push {cls:=.type "list",dict:=aD,data:=.seq ([]:List Value).toArray}:=by rw[<-hs3]
 let k3:∀b o,s2.heap.get? b=aw o->u.heap.get? b=aw o:=λb o e=>by rw[e3];exact Zc _ e
 let st3:tn 0 u.heap:=T.keep _ _ _ st2 λb _ o e=>k3 b o e;let fne:∀b∈B,b < s2⁻¹:=λb hb=>let ⟨o,e,_⟩:=T.obj _ _ st2 b hb;Zv e;let I:∀b∈B,iI X v (upd H2 s2⁻¹ (.lst [])) b:=λb hb=>{by rw[ae (ZH (fne b hb))];exact(f2 b hb).1,(f2 b hb).2};let fo3:∀b∈B,b < u.heap.objs.size:=λb hb=>let ⟨o,e,_⟩:=T.obj _ _ st3 b hb;Zv e;calc zU ?_;let I4:=Z.compStart S I fo3;generalize hH3:upd H2 s2⁻¹ (.lst [])=H3 at Z I4 I W
 let eE:({scope:=relabel scope X.env,locals:=u.heap.objs.size,globals:=X.env.globals,cells:=Zae (u.heap.objs.size+1) scope.names (cm X.env.cells scope.names []),qual:=X.env.qual,func:=aD,code:=X.env.code,frame:=X.env.frame,builtins:=X.env.builtins}:Env)=wp scope u.heap.objs.size X.env:=by
  delta wp;rw[F1]
 generalize hs4:({u with heap:=ZaE (u.heap.push {cls:=.type "dict",data:=.dict #[]}) scope.names}:Shared)=U at I4 ⊢;let k4:∀b o,u.heap.get? b=aw o->U.heap.get? b=aw o:=λb o e=>by rw[<-hs4];exact ZaF _ _ b o (Zc _ e)
 let st4:tn 0 U.heap:=T.keep _ _ _ st3 λb _ o e=>k4 b o e
 let f4:∀b∈B,iI (cxC X own n scope u.heap.objs.size B u H3) [] H3 b:=λb hb=>by
  refine{(I b hb).1,ZH (fo3 b hb),I4.ok.exfs b hb,.inl hb,λx c hl=>(I4.ok.exf b hb).2 x c hl,λp hp=>absurd (show p∈([]:List (Addr×Obj)) from hp) (by simp)}
 let L:=qi (Y:=cxC X own n scope u.heap.objs.size B u H3) (elt:=elt) (gens:=⟨f,j,k,0⟩::l) (d:=0) (scope:=scope) (pos:=pos) (acc:=s2⁻¹) rfl hc rfl T I4 st4 f4 (hgt _ _ _ _) (hts _ _ _ _) (htl _ _ _ _ _) W;let C:=mS (elt:=elt) (gens:=⟨f,j,k,0⟩::l) (d:=0) (scope:=scope) (pos:=pos) rfl L (T.self _ 0 U _ _ st4 L);show codeAny (model X.prog X.w) X.A (.compStart (.ListComp elt (⟨f,j,k,0⟩::l) scope pos) 0 (.ref it) (.ref s2⁻¹) {scope:=relabel scope X.env,locals:=u.heap.objs.size,globals:=X.env.globals,cells:=Zae (u.heap.objs.size+1) scope.names (cm X.env.cells scope.names []),qual:=X.env.qual,func:=aD,code:=X.env.code,frame:=X.env.frame,builtins:=X.env.builtins}) (RR (.ref s2⁻¹) u.heap.objs.size) U;rw[eE];calc Zai C λr s' hr=>?_;let{rfl,σ',y,O,q}:=hr;let{mC,nC,_}:=id O.loc;let freeC:y u.heap.objs.size=aD:=O.free;calc hRR _ _ y s' ?_ (Z.fpOk (Zf _) freeC) ⟨mC,nC⟩ q;exact Z.call' (ch:=B) O.os O.base O.hok O.bare λb hb=>{(I b hb).2.2.2.1,(I b hb).2.1,(I b hb).2.2.2.2.1,(I b hb).2.2.2.2.2}
def F6(hc:X.calm=aN)(S:CmScope own n X.N scope X.env.scope)(hi:PI X f j w)
  (u:∀C ex s H,PG (cxC X own n scope C ex s H) f g) (J:∀C ex s H,PTs (cxC X own n scope C ex s H) k ti)
  (B:∀C ex s H c,PTl (cxC X own n scope C ex s H) elt (⟨f,j,k,0⟩::l) scope pos c 0 (t c))
  (n:∀x,Zap j X.env x=pure x:=by intro _;rfl) :
  PE X (.ListComp elt (⟨f,j,k,0⟩::l) scope pos) (BW own.length w g λc=>fW ti (t c)):=by
 intro p s L H Q I h;rw[eval_ListComp];calc Za1 (use:=aD) (cl:=cm X.env.cells scope.names []) rfl n (yd λy z E=>I.ok.has y.1 (S.fr y z E)) S.kind (λy z E=>dA S.uniq (by rw[<-E];exact z)) ?_;calc thn (hi p s L H _ I h) λv s1 T=>thn T λU s2 h2=>?_;calc mU hc S u J B h2 (RR:=λc C=>compPost (model X.prog X.w) X.A X.xe aD (EP X p L Q) c C) λc C O s' Y d Z q=>?_;let{m,nm}:=Z;calc{m,nm,λh' sb=>{.ref c,O,?_,rfl,q}};exact Y.turned (t':=s'.toks) (λb o hb e=>(sb.2 b hb).trans e) d.1 d.2.1 d.2.2.2.1 d.2.2.2.2.1 d.2.2.2.2.2
def F7{i:Nat}(hc:X.calm=aN)(S:CmScope own n X.N scope X.env.scope)(hN:X.N.Nodup)(Z:X.N[i]?=aw x)(hx:X.env.scope.names.lookup x=aw .local)(hi:PI X f j w)
  (J:∀C ex s H,PG (cxC X own n scope C ex s H) f g) (hts:∀C ex s H,PTs (cxC X own n scope C ex s H) k ti)
  (T:∀C ex s H c,PTl (cxC X own n scope C ex s H) elt (⟨f,j,k,0⟩::l) scope pos c 0 (t c))
  (hsw:ZaS (.ListComp elt (⟨f,j,k,0⟩::l) scope pos) (aw (.Name x p)) B.line X.env=pure aN:=by rfl)
  (n:∀x,Zap j X.env x=pure x:=by intro _;rfl) :
  PS X (.Assign [.Name x p] (.ListComp elt (⟨f,j,k,0⟩::l) scope pos) B) (Bz (BW own.length w g λc=>fW ti (t c)) (tH i)):=by
 intro d s σ H D I h;rw[exec_Assign_Name_used _ _ _ _ hsw];calc ZaZ (Zbv (ZaZ ?_));show wpAny _ X.A (do let _ <-comprehension (.ListComp elt (⟨f,j,k,0⟩::l) scope pos) scope X.env _ (newList []) aS (eval j X.env) (aw (assign (.Name x p) X.env))) _ _ s
 refine ZaZ (Zbd (Za1 (use:=aw (assign (.Name x p) X.env)) (Q:=λ_ E=>SP X d D .next E) (cl:=cm X.env.cells scope.names []) rfl n (yd λy O Y=>I.ok.has y.1 (S.fr y O Y)) S.kind (λy O Y=>dA S.uniq (by rw[<-Y];exact O))
  ?_) (λ_ E hq=>Zbk (Zbk hq)) λ_ _ e=>e)
 calc thn (hi d s σ H _ I h) λv s1 h1=>thn h1 λitv s2 h2=>?_;calc mU (Q:=λy L=>tH i y σ L D.nx) hc S J hts T h2 (RR:=λc C=>compPost (model X.prog X.w) X.A X.xe (aw (assign (.Name x p) X.env)) (λ_ E=>SP X d D .next E) c C) λc C L E I' u m' q=>?_;let{m,nm}:=m';show wpAny _ X.A (assign (.Name x p) X.env (.ref c)) _ _ _;calc wpAny_assign_Name (pY (v:=.ref c) I' hN Z (.inl hx) rfl (λs'' U hch=>?_) (.inr hx));let{a,sb1,ha}:=hch
 let ne:C≠a:=by
  rcases ha with e |e
  .rw[e];exact u.2.1
  .exactλz=>u.2.2.2.2.1 x a e z.symm
 calc{m,nm.sameBut sb1 ne,λh' sb=>{_,L,?_,q}};exact U.turned (t':=s''.toks) (λb o hb e=>(sb.2 b hb).trans e) u.1 u.2.1 u.2.2.2.1 u.2.2.2.2.1 u.2.2.2.2.2
end
end L2
namespace HT
open PySem PyProof.Rows
section
variable {prog:Program} {w:World} {A:Around} {E:Value->Shared->Prop} {s:Shared}
def BX{t b:Addr}{u:List Value}{Q:Value->Shared->Prop}(v:IsTup s.heap t ([]:List Value).toArray)(hb:IsTup s.heap b u.toArray)(h:Q (.ref b) s):wpAny (model prog w) A (OS .Add (.ref t) (.ref b)) Q E s:=by
 let{⟨y,z,l,sl⟩,p,q,n,hd}:=id v;let{⟨C,j,data2,k⟩,d,f,B,c}:=id hb;simp! at q hd f c;subst q hd f c
 exact Zak ⟨_,p,rfl⟩ ⟨_,d,rfl⟩ Zay ZaM VA Vo (Vi _ _)
   (tuple_addW0 t b _ u.toArray n B z j sl k (by simp)) ⟨p,d,h⟩
def ik{t sl:Addr}{I:Array Value}{k v:Value}{lo hi:Option Int}{Q:Value->Shared->Prop}(b:IsTup s.heap t I)(hs:s.heap.IsSliceOf sl k v .none)(p:IsPart k lo)(q:IsPart v hi)
  (hw:sIx I.size 0 lo=0/\sIx I.size I.size hi=I.size) (h:Q (.ref t) s):wpAny (model prog w) A (getItem (.ref t) (.ref sl)) Q E s:=by
 let{os,j,d,u}:=id hs;let f:s.TypeIs (.ref sl) "slice" := ⟨os,j,d⟩;let{o,y,z,n,hd}:=id b;delta getItem
 try with_reducible refine Za8 ?_
 first |refine ZaZ (Zbk ?_) |skip
 refine ZaZ (Zbt b.typeIs (by decide) ?_)
 refine ZaZ (wpAny_callSpecial?_slot (name:=Str.ofString "__getitem__") b.typeIs W5
  (Za0 W5 b.typeIs entry_tuple_getitem ?_ (args_tuple_getitem _ _)))
 show wpAny _ _ (Builtin.Tuple.tupleItemsOf (.ref t) >>= _) _ _ s;calc ZaZ (tupleItemsOf_ b ?_);calc ZaZ (Zbz f ?_);rw[if_pos (by decide)];refine ZaZ (fe hs p q ?_)
 let c:((((sIx I.size 0 lo:Nat):Int) == 0 && (1:Int) == 1 && (sIx I.size I.size hi - sIx I.size 0 lo) == I.size)=aN):=by
  rw[hw.1,hw.2];simp
 show wpAny _ _ (if (((sIx I.size 0 lo:Nat):Int) == 0 && (1:Int) == 1 && (sIx I.size I.size hi - sIx I.size 0 lo) == I.size)=aN then _ else _) _ _ s;rw[if_pos c];let l:s.TypeIs (.ref t) "tuple" := b.typeIs
 first
  | (refine ZaZ (m:=Builtin.Tuple.tupleIsExact _) ?_
     delta Builtin.Tuple.tupleIsExact;calc ZaZ (Zbz l (Zbk ?_));rw[if_pos (by decide)];exact ZaZ (Zbr (Zbk {_,rfl,Zbk h})))
end
end HT
namespace L2
open PySem PySem.Spec PyProof.Rows
def tQ{s:Shared}{h':Heap}{o:Obj}(c:∀b x,b∉[s⁻¹]->(s.heap.push o).get? b=aw x->h'.get? b=aw x):∀b x,s.heap.get? b=aw x->h'.get? b=aw x:=
 λb x e=>c b x (λh=>by rw[ZG.mp h]at e;exact ZI _ (Zv e)) (Zc _ e)
section
variable {X:Cx}
abbrev Ry(K:VX):R2:=λx y H Q=>∃a b c Y,x = .ref a/\y = .ref b/\SqT K H a c/\SqT K H b Y/\c.length+Y.length<=sizeLine ∧
 (c=[]->Q (.ref b) H)/\(c≠[]->Y=[]->Q (.ref a) H)/\(c≠[]->Y≠[]->∀p,H p=aD->Q (.ref p) (upd H p (.tup (c++Y))))
def F8:OpR X (OS .Add) (Ry X.K):=by
 intro p s z H x y v u Q I k j h;let{a,b,l,Y,rfl,rfl,f,hb,B,q,n,J}:=h;by_cases c:l=[]
 .subst c;cases k;cases j;let{L,r1,C,_}:=I.tuple f;let{d,r2,E,_}:=I.tuple hb;cases r1;exact HT.BX C E {.ref b,H,I,rfl,q rfl}
 .exact FW p s z H _ _ v u Q I k j {a,b,l,Y,rfl,rfl,f,hb,c,B,n c,J c}
abbrev UB(K:VX):V->Option Int->Option Int->Hp->VK->Prop:=λx lo hi H Q=>∃a b,x = .ref a/\SqT K H a b ∧
 ((HT.sIx b.length 0 lo=0/\HT.sIx b.length b.length hi=b.length)->Q (.ref a) H) ∧
 (¬ (HT.sIx b.length 0 lo=0/\HT.sIx b.length b.length hi=b.length)->∀p,H p=aD->Q (.ref p) (upd H p (.tup (mR b lo hi))))
def F9:SlR X (UB X.K):=by
 intro p s z H x v B u lo hi sl Q I q hs k l h;let{a,b,rfl,j,y,C}:=h;by_cases d:(HT.sIx b.length 0 lo=0/\HT.sIx b.length b.length hi=b.length)
 .cases q;let{f,r,n,E}:=I.tuple j;let c:f.toArray.size=b.length:=by rw[Zk];exact r.length.symm
  calc{"tuple",_,PyProof.Rows.slot_tuple_getitem.lookup,n.typeIs,?_};exact HT.ik n hs k l (by rw[c];exact d) {.ref a,H,I,rfl,y d}
 .exact L3 p s z H _ v B u lo hi sl Q I q hs k l {a,b,rfl,j,d,C d}
def tR:aV X (.builtin "isinstance") (λxs H Q=>∃x n t b,xs=[x,.ty n]/\TyOf X.K H x t/\Up X.K t (.type n)=aw b/\Q (.bl b) H):=by
 intro p s f H xs U Q I r h;let{x,n,t,b,rfl,ty,e,q}:=h;let{u,j,rfl,d,c}:=mL r;cases c;exact zO I d ty e λT=>{.bl b,H,I.tok T,rfl,q}
def iL:∀ {bs:List Bool} {u:List Value},aJ (bs.map V.bl) u->u=bs.map Value.bool
 |[],_,.nil=>rfl
 |_::_,_,.cons r t=>by rw[Zy,iL t];cases r;rfl
def zV(hc:X.calm=aN):aV X (.builtin "all") (λxs H Q=>∃ (l:Addr) (bs:List Bool),xs=[.ref l]/\SqL X.K H l (bs.map V.bl)/\Q (.bl (bs.all id)) H):=by
 intro j s O H xs Z Q I r h;let{l,bs,rfl,y,q}:=h;let{u,rfl,J}:=bQ r;cases J;let{B,z,p,U}:=I.list y;let e:=iL z;subst e;let d:=p.isList;let f:l < s⁻¹:=by let{_,e,_}:=d;exact Zv e
 refine call_all_walk (Zbl d ?_)
 refine⟨s⁻¹,[s⁻¹,l],[s⁻¹],_,_,_,λi=>(bs[i]?).getD aN,rfl,Walks.list (A:=X.A.in1) (I.ok.hd hc) _ l (ZH f) _,
  {{_,Zs _ rfl,rfl,rfl},d.push _},λi v s' L E' C k=>?_,λY T n=>?_⟩
 .let c:(bs.map Value.bool)[i]?=aw v:=by simpa using C
  rw[Zq]at c;cases hb:bs[i]? with
  |none=>rw[hb]at c;cases c
  |some b=>
   rw[hb]at c;let E:Value.bool b=v:=Option.some.inj c;subst E;simp![hb,ZX]at k;exact Zbw k
 .let e:((Zi (bs.map Value.bool).toArray.size).all λi=>(bs[i]?).getD aN)=bs.all id:=by
   rw[Zk,Za,Xu];simp![Yc,ZQ,id];constructor
   .intro h b hb;let{i,hi,rfl}:=X7.mp hb;let:=h i hi
    rwa[gEG hi,ZX]at this
   .intro h i hi;rw[gEG hi,ZX];exact h _ (ZT hi)
  rw[e];exact{.bl (bs.all id),H,I.kept (t':=T) (tQ n),rfl,q}
def zW(hc:X.calm=aN):aV X (.builtin "any") (λxs H Q=>∃ (l:Addr) (bs:List Bool),xs=[.ref l]/\SqL X.K H l (bs.map V.bl)/\Q (.bl (bs.any id)) H):=by
 intro j s O H xs Z Q I r h;let{l,bs,rfl,y,q}:=h;let{u,rfl,J}:=bQ r;cases J;let{B,z,p,U}:=I.list y;let e:=iL z;subst e;let d:=p.isList;let f:l < s⁻¹:=by let{_,e,_}:=d;exact Zv e
 refine call_any_walk (Zbl d ?_)
 refine⟨s⁻¹,[s⁻¹,l],[s⁻¹],_,_,_,λi=>(bs[i]?).getD aS,rfl,Walks.list (A:=X.A.in1) (I.ok.hd hc) _ l (ZH f) _,
  {{_,Zs _ rfl,rfl,rfl},d.push _},λi v s' L E' C k=>?_,λY T n=>?_⟩
 .let c:(bs.map Value.bool)[i]?=aw v:=by simpa using C
  rw[Zq]at c;cases hb:bs[i]? with
  |none=>rw[hb]at c;cases c
  |some b=>
   rw[hb]at c;let E:Value.bool b=v:=Option.some.inj c;subst E;simp![hb,ZX]at k;exact Zbw k
 .let e:((Zi (bs.map Value.bool).toArray.size).any λi=>(bs[i]?).getD aS)=bs.any id:=by
   rw[Zk,Za,Xu];simp![XN,ZQ,id];constructor
   .rintro⟨i,hi,h⟩;rw[gEG hi,ZX]at h;exact⟨_,ZT hi,h⟩
   .rintro⟨b,hb,h⟩;let{i,hi,rfl}:=X7.mp hb;exact{i,hi,by rw[gEG hi,ZX];exact h}
  rw[e];exact{.bl (bs.any id),H,I.kept (t':=T) (tQ n),rfl,q}
def Mb:OpR X (Zaj .Is) (λx y H Q=>∃b c,x = .bl b/\y = .bl c/\Q (.bl (b == c)) H):=by
 intro p s j H x y v u Q I f d h;let{b,c,rfl,rfl,q}:=h;cases f;cases d;exact is_bool {.bl _,H,I,rfl,q}
def zX:OpR X (Zaj .IsNot) (λx y H Q=>∃b c,x = .bl b/\y = .bl c/\Q (.bl (b != c)) H):=by
 intro p s j H x y v u Q I f d h;let{b,c,rfl,rfl,q}:=h;cases f;cases d;exact isnot_bool {.bl _,H,I,rfl,q}
def mV(hc:X.calm=aN):∀ {p:List (Addr×Obj)} {s:Shared} {z:St} {H:Hp} {Q:VK} {r:Addr} {n:Nat} {t u v:Tok},Inv X p z H s->IsRange s.heap r 0 n 1 t u v->n<=1000->(∀l,H l=aD->Q (.ref l) (upd H l (.lst ((Zi n).map λ(i:Nat)=>V.int i)))) ->
  wpAny (model X.prog X.w) X.A (call (.type "list") [.ref r]) (EP X p z Q) X.xe s:=by
 intro p s z H Q r n t u v I U hn q;let C:Builtin.Range.small 0 n 1=aN:=small_one (by lia) (by lia) (by lia) (by lia);refine call_list_range (n:=n) (I.ok.hd hc) U C (by rw[ZaG];split <;> lia) (by lia) λh' E b L O B h=>?_;calc{.ref s⁻¹,_,I.laid (t':=E) (o:=.lst ((Zi n).map λ(i:Nat)=>V.int i)) O (Zf _) ?_,rfl,q _ (I.hok.fresh (Zf _))};let f:b.size=n:=h.1;refine{by rw[Za,ZC];exact Y0 (zS hn),b.toList,L,?_,by simpa using B}
 let go:∀ (m:Nat) (k:Nat) (l:List Value),l.length=m->(∀j x,l[j]?=aw x->∃E,x=Value.int (((k+j:Nat):Nat):Int) E)->aJ ((List.range' k m).map λ(i:Nat)=>V.int i) l:=by
  intro m
  induction m with
  |zero=>intro k l d _;cases l with |nil=>exact .nil |cons _ _=>cases d
  |succ m Y=>
   intro k l d c;cases l with
   |nil=>cases d
   |cons x l=>
    rw[List.range'_succ,Zy];let{t,e}:=c 0 x rfl;calc .cons {t,by simpa using e} (Y (k+1) l (by simpa using d) λj y J=>?_);let{t',Z}:=c (j+1) y (by simpa using J);exact{t',by rw[Z,show((k+(j+1):Nat):Int)=((k+1+j:Nat):Int) from by lia]}
 rw[List.range_eq_range'];calc go n 0 b.toList (by simpa using f) λj x c=>?_;let{T,e}:=h.2 j x (by simpa using c);exact{T,by rw[e,show(0:Int)+(j:Nat) * 1=((0+j:Nat):Int) from by lia]}
end
section
variable {κ:Type} [DecidableEq κ]
abbrev j6(b:List (κ×V))(k:κ):Option V:=(b.find? λc=>decide (c.1=k)).map (·.2)
abbrev mW(b:List (κ×V))(k:κ)(v:V):List (κ×V):=
 if (b.any λc=>decide (c.1=k))=aN then b.map (λc=>if c.1=k then (c.1,v) else c) else b++[(k,v)]
def jp{p:κ×V}{r:List (κ×V)}{k:κ}(e:p.1=k):j6 (p::r) k=aw p.2:=by simp[j6,YQ,e]
def gg{p:κ×V}{r:List (κ×V)}{k:κ}(e:¬ p.1=k):j6 (p::r) k=j6 r k:=by simp[j6,YQ,e]
def mX(k:κ):∀b:List (κ×V),(b.any λc=>decide (c.1=k))=(j6 b k).isSome
 |[]=>rfl
 |p::r=>by
  rw[Yu];by_cases e:p.1=k
  .simp![jp e,decide_eq_true e,Bool.true_or,Wj]
  .rw[gg e,decide_eq_false e,Wg];exact mX k r
def kP(b:List (κ×V))(k:κ)(v:V):(mW b k v).length<=b.length+1:=by
 delta mW;split
 .rw[Za];omega
 .rw[Ze,Zo,Z4];omega
def vY.isSome_eq(r:vY o u):o.isSome=u.isSome:=by
 cases o with
 |none=>cases u with
  |none=>rfl
  |some _=>exact(show False from r).elim
 |some _=>cases u with
  |none=>exact(show False from r).elim
  |some _=>rfl
def KV.val{c:List (κ×V)}{v:List (κ×Value)}(r:KV c v)(k:κ):vY (j6 c k) (valueAt v k):=by
 delta KV at r
 induction r with
 |nil=>exact True.intro
 |@cons p q ps qs h t ih=>
  let{d,f}:=h;by_cases e:p.1=k
  .let E:q.1=k:=d.symm.trans e;let b:valueAt (q::qs) k=aw q.2:=by simp[valueAt,YQ,E]
   rw[jp e,b];exact f
  .let E:¬ q.1=k:=λz=>e (d.trans z);let b:valueAt (q::qs) k=valueAt qs k:=by simp[valueAt,YQ,E]
   rw[gg e,b];exact ih
def KV.any{b:List (κ×V)}{v:List (κ×Value)}(r:KV b v)(k:κ):(b.any λc=>decide (c.1=k))=v.any λc=>decide (c.1=k):=by
 delta KV at r
 induction r with
 |nil=>rfl
 |cons h t I=>rw[Yu,Yu,I,h.1]
def KV.repl(r:KV d v)(k:κ)(f:aE y u) :
  KV (d.map λb=>if b.1=k then (b.1,y) else b) (v.map λb=>if b.1=k then (b.1,u) else b):=by
 delta KV at r ⊢
 induction r with
 |nil=>exact .nil
 |@cons p q ps qs h t ih=>
  rw[Zy,Zy];calc .cons ?_ ih;let{c,j}:=h;by_cases e:p.1=k
  .rw[if_pos e,if_pos (c.symm.trans e)];exact⟨c,f⟩
  .rw[if_neg e,if_neg (λz=>e (c.trans z))];exact⟨c,j⟩
def KV.put(r:KV b v)(k:κ)(c:aE y u):KV (mW b k y) (stored v k u):=by
 delta mW stored;rw[r.any k];by_cases e:(v.any λd=>decide (d.1=k))=aN
 .rw[if_pos e,if_pos e];exact r.repl k c
 .rw[if_neg e,if_neg e];exact Paired.snoc r ⟨rfl,c⟩
def KV.length(r:KV k v):k.length=v.length:=Paired.length r
end
def qj(r:aE (kV k) u):(bf P w).is k u=aN:=by
 cases k with
 |inl i=>let{t,e}:=(show ∃t,u=Value.int i t from r);subst e;exact tv P w i t
 |inr x=>let{t,e}:=(show ∃t,u=Value.str x t from r);subst e;exact tw P w x t
def qk:∀ {ks:List Key} {u:List Value},aJ (ks.map kV) u->ItemsAre (bf P w) ks u
 |[],_,r=>by rw[Z0]at r;cases r;exact .nil
 |k::ks,_,r=>by
  rw[Zy]at r;cases r with
  |cons h t=>exact .cons (qj h) (qk t)
@[inline]abbrev KT(H:Hp):List (List NK×V)->List (List NK×Addr×Value)->Prop:=Paired λp q=>p.1=q.1/\iH H p.1 q.2.1/\aE p.2 q.2.2
def KT.val{H:Hp}{c:List (List NK×V)}{xs:List (List NK×Addr×Value)}(r:KT H c xs)(k:List NK):vY (j6 c k) ((atKey xs k).map (·.2)):=by
 induction r with
 |nil=>exact True.intro
 |@cons p q ps qs h t ih=>
  let{d,_,f}:=h;by_cases e:p.1=k
  .let E:q.1=k:=d.symm.trans e;let b:atKey (q::qs) k=aw q.2:=by simp[atKey,YQ,E]
   rw[jp e,b];exact f
  .let E:¬ q.1=k:=λz=>e (d.trans z);let b:atKey (q::qs) k=atKey qs k:=by simp[atKey,YQ,E]
   rw[gg e,b];exact ih
def KT.repl(r:KT H d xs)(k:List NK)(j:aE y u) :
  KT H (d.map λc=>if c.1=k then (c.1,y) else c) (xs.map (putAt k u)):=by
 induction r with
 |nil=>exact .nil
 |@cons p q ps qs h t ih=>
  rw[Zy,Zy];calc .cons ?_ ih;let{b,f,l}:=h;delta putAt;by_cases e:p.1=k
  .rw[if_pos e,if_pos (b.symm.trans e)];exact⟨b,f,j⟩
  .rw[if_neg e,if_neg (λz=>e (b.trans z))];exact⟨b,f,l⟩
def KT.put(r:KT H c xs)(k:List NK)(hb:iH H k b)(d:aE y u) :
  KT H (mW c k y) (storedH xs k b u):=by
 let e:(c.any λf=>decide (f.1=k))=(atKey xs k).isSome:=by
  rw[mX,(r.val k).isSome_eq,YT]
 delta mW storedH;rw[e];by_cases q:(atKey xs k).isSome=aN
 .rw[if_pos q,if_pos q];exact r.repl k d
 .rw[if_neg q,if_neg q];exact Paired.snoc r ⟨rfl,hb,d⟩
def KT.keeps(r:KT H k xs)(h:∀b y,H b=aw (.tup y)->c b=aw (.tup y)):KT c k xs:=
 Paired.mapP r λ_ _ z=>{z.1,z.2.1.mono h,z.2.2}
section
variable {P:Program} {w:World} {H:Hp} {h:Heap} {a:Addr}
def Ks(ok:HOk P w H h)(e:Rd H a u):ba P w H h a u:=e.ok ok
def tS(ok:HOk P w H h)(e:Rd H a (.dK k)):k.length<=sizeLine/\(a == ZaU)=aS/\∃vs,KV k vs/\h.DictOf (bf P w) a vs:=
 show ba P w H h a (.dK k) from Ks ok e
def Rz(ok:HOk P w H h)(e:H a=aw (.dK k)):k.length<=sizeLine/\(a == ZaU)=aS/\∃vs,KV k vs/\h.DictOf (bf P w) a vs:=tS ok (.inl e)
def BZ(ok:HOk P w H h)(e:H a=aw (.tup (ks.map kV))):IsTupleKey (bf P w) h ks a:=by
 let{_,I,r,o,b,c,n,d,_}:=(show ba P w H h a (.tup (ks.map kV)) from ok a _ e);exact{o,I.toArray,n,b,c,d,by simpa using qk r}
def eI{ks:List NK}(ok:HOk P w H h)(e:iH H ks a):(e9 P w).is h ks a:=by
 let{X,E,c}:=e;let{_,I,r,o,f,l,n,u,_}:=(show ba P w H h a (.tup X) from ok a _ E);refine{o,I.toArray,n,f,l,u,?_}
 let all:∀ {ks:List NK} {X:List V} {us:List Value},Paired (vZ H) ks X->aJ X us->Paired (NIs P w h) ks us:=by
  intro ks X us p
  induction p generalizing us with
  |nil=>intro q;cases q;exact .nil
  |@cons k x ks X hk _ ih=>
   intro q;cases q with
   |cons Q j=>
    calc .cons ?_ (ih j);cases k with
    |non=>cases hk;exact Q
    |one k=>cases hk;exact qj (P:=P) (w:=w) Q
    |tup d=>let{b,rfl,hb}:=hk;cases Q;exact{b,rfl,BZ ok hb}
 simpa using all c r
def tU(ok:HOk P w H h)(e:Rd H a (.dT k)):k.length<=sizeLine/\(a == ZaU)=aS ∧
  ∃xs,KT H k xs/\h.DictOfH (e9 P w) a xs:=by
 let{z,y,xs,r,o,j,E,c,d,f,h4,b}:=(show ba P w H h a (.dT k) from Ks ok e);refine{z,y,xs,r,o,j,E,c,d,f,h4,λx hx=>?_,b}
 let all:∀ {l:List (List NK×V)} {m:List (List NK×Addr×Value)},KT H l m->∀x∈m,(e9 P w).is h x.1 x.2.1:=by
  intro l m q
  induction q with
  |nil=>intro x hx;exact nomatch hx
  |@cons p q ps qs hq t ih=>
   intro x hx;rcases Zn.mp hx with e |hx
   .subst e;exact eI ok (by rw[<-hq.1];exact hq.2.1)
   .exact ih x hx
 exact all r x hx
def RA(ok:HOk P w H h)(e:H a=aw (.dT k)):k.length<=sizeLine/\(a == ZaU)=aS ∧
  ∃xs,KT H k xs/\h.DictOfH (e9 P w) a xs:=tU ok (.inl e)
end
abbrev B0(H:Hp)(a:Addr)(y:V)(r:Option V):Prop:=
 (∃c k,Rd H a (.dK c)/\y=kV k/\r=j6 c k)\/∃c k b,Rd H a (.dT c)/\y = .ref b/\iH H k b/\r=j6 c k
abbrev RB(H:Hp)(a:Addr)(y v:V)(h:Hp):Prop:=
 (∃c k,H a=aw (.dK c)/\y=kV k/\c.length < sizeLine/\h=upd H a (.dK (mW c k v))) ∨
 ∃c k b,H a=aw (.dT c)/\y = .ref b/\iH H k b/\c.length < sizeLine/\h=upd H a (.dT (mW c k v))
section
variable {X:Cx} {d:List (Addr×Obj)} {f:St} {H:Hp} {s:Shared} {a:Addr} {y v:V} {u r:Value} {o:Option V} {A:Around} {E:Value->Shared->Prop}
def Inv.big(I:Inv X d f H s):ZaU < s⁻¹:=by
 let h:Zav < s⁻¹:=(I.mod.glob.keeps I.bk).lt;exact WT (by decide) h
def zY(Y:A.units+2 < cLine)(I:Inv X d f H s)(g:B0 H a y (aw v))(L:aE y u)(h:∀j O,Inv X d f H O->aE v j->Q j O) :
  wpAny (model X.prog X.w) A (getItem (.ref a) u) Q E s:=by
 rcases g with ⟨C,k,e,B,l⟩ |⟨C,k,b,e,B,T,l⟩
 .subst B;let{z,hd,U,rel,J}:=tS I.hok e;let{j,n,c}:=vY.some_of (v:=v) (o:=valueAt U k) (by rw[l];exact rel.val k);exact wpAny_getItem_of (qj L) J.mapOf n (h j _ (I.tok _) c)
 .subst B;cases (show u=Value.ref b from L);let{z,hd,xs,rel,J}:=tU I.hok e;let{j,n,c}:=vY.some_of (v:=v) (o:=(atKey xs k).map (·.2)) (by rw[l];exact rel.val k);let{p,Z,q}:=ZE.mp n;calc wpAny_getItem_heap (show _+1 < _ from Y) (eI I.hok T) J Z ?_;rw[q];exact h j _ (I.tok _) c
def UC(C:A.units+2 < cLine)(I:Inv X d f H s)(g:B0 H a y o)(p:aE y u)(h:∀B,Inv X d f H B->Q (.bool o.isSome) B) :
  wpAny (model X.prog X.w) A (Zaj .In u (.ref a)) Q E s:=by
 rcases g with ⟨n,k,e,c,l⟩ |⟨n,k,b,e,c,J,l⟩
 .subst c;let{z,hd,L,rel,j}:=tS I.hok e;calc wpAny_in_of (qj p) hd j.mapOf ?_;rw[<-(rel.val k).isSome_eq,<-l];exact h _ (I.tok _)
 .subst c;cases (show u=Value.ref b from p);let{z,hd,O,rel,j}:=tU I.hok e;calc wpAny_in_heap (show _+1 < _ from C) (eI I.hok J) hd j ?_;let q:=(rel.val k).isSome_eq;rw[YT]at q;rw[<-q,<-l];exact h _ (I.tok _)
def Ga(C:A.units+2 < cLine)(I:Inv X d f H s)(g:B0 H a y o)(p:aE y u)(h:∀B,Inv X d f H B->Q (.bool (!o.isSome)) B) :
  wpAny (model X.prog X.w) A (Zaj .NotIn u (.ref a)) Q E s:=by
 rcases g with ⟨n,k,e,c,l⟩ |⟨n,k,b,e,c,J,l⟩
 .subst c;let{z,hd,L,rel,j}:=tS I.hok e;calc wpAny_notIn_of (qj p) hd j.mapOf ?_;rw[<-(rel.val k).isSome_eq,<-l];exact h _ (I.tok _)
 .subst c;cases (show u=Value.ref b from p);let{z,hd,O,rel,j}:=tU I.hok e;calc wpAny_notIn_heap (show _+1 < _ from C) (eI I.hok J) hd j ?_;let q:=(rel.val k).isSome_eq;rw[YT]at q;rw[<-q,<-l];exact h _ (I.tok _)
def ye{t':Nat}(I:Inv X d f H s)(mu:Mut (H a))(hs:Heap.SameBut a s.heap h')(h:∃q,h'.get? a=aw q)(new:ba X.prog X.w (upd H a ob) h' a ob) :
  Inv X d f (upd H a ob) {s with heap:=h',toks:=t'}:=
 I.write (x:=a) (e:=a) mu (.inl rfl) (λb q hb z=>(hs.2 b hb).trans z) h new
def Mc(z:k.length<=sizeLine)(hd:(a == ZaU)=aS)(rel:KV k b)(c:h'.DictOf (bf P w) a b) :
  ba P w h h' a (.dK k):=⟨z,hd,b,rel,c⟩
def zZ(hu:A.units+2 < cLine)(I:Inv X d f H s)(g:RB H a y v H')(ry:aE y u)(Z:aE v r)(h:∀s',Inv X d f H' s'->Q () s') :
  wpAny (model X.prog X.w) A (setItem (.ref a) u r) Q E s:=by
 rcases g with ⟨j,k,e,L,l,C⟩ |⟨j,k,b,e,L,T,l,C⟩
 .subst L C;let{z,hd,vs,rel,O}:=Rz I.hok e;let B:vs.length<=sizeLine:=by rw[<-rel.length];exact z
  let J:(mW j k v).length<=sizeLine:=by let:=kP j k v;omega
  calc wpAny_setItem_pairs (hsz:=B) (qj ry) O λY n hs=>h _ ?_;let he:∃q,Y.get? a=aw q:=let ⟨q,_,_,p,_⟩:=n;⟨q,p⟩;exact ye I (by rw[e];exact True.intro) hs he (Mc J hd (rel.put k Z) n)
 .subst L C;cases (show u=Value.ref b from ry);let{z,hd,xs,rel,O}:=RA I.hok e;let B:xs.length<=sizeLine:=by rw[<-Paired.length rel];exact z
  let J:(mW j k v).length<=sizeLine:=by let:=kP j k v;omega
  calc wpAny_setItem_heap (hsz:=B) (show _+1 < _ from hu) (eI I.hok T) O λY n hs=>h _ ?_;let{q,es,ep,p,h2,h3,h4,_,h5}:=n;calc ye I (by rw[e];exact True.intro) hs ⟨q,p⟩ {J,hd,_,(rel.put k T Z).keeps λc ys U=>?_,q,es,ep,p,h2,h3,h4,h5};rw[ae (pX U e (λz=>nomatch z))];exact U
end
def tV(I:Inv X p f H s)(g:B0 H a y o):s.TypeIs (.ref a) "dict" := by
 rcases g with ⟨c,k,e,_,_⟩ |⟨c,k,b,e,_,_,_⟩
 .let{_,_,v,_,d}:=tS I.hok e;exact d.typeIs
 .let{_,_,h,_,d}:=tU I.hok e;exact d.typeIs
def B1(h:Heap)(hb:ZaU < h.objs.size):ba P w H (h.push {cls:=.type "dict",data:=.dict #[]}) h.objs.size (.dT []):=
 {Z2 _,beq_eq_false_iff_ne.mpr (Ne.symm (ZH hb)),[],.nil,_,#[],0,Zs _ rfl,⟨rfl,rfl,rfl⟩,rfl,rfl,Xf}
abbrev B2:TE:=λ_ H Q=>∀p,H p=aD->Q (.ref p) (upd H p (.dT []))
section
variable {X:Cx} {pos:Pos}
def B3:PE X (.Dict [] [] pos) B2:=λp s b H Q I h=>
 wpAny_Dict_empty {.ref s⁻¹,_,I.laid (a:=s⁻¹) (o:=.dT []) (t':=s.toks) (λ_ _ q=>Zc _ q) (Zf _) (B1 s.heap I.big),rfl,h _ (I.hok.fresh (Zf _))}
end
end L2
namespace HT
open PySem PyProof.Rows
open AutoSeq1 (wpAny_loadPart')
section
variable {prog:Program} {w:World} {A:Around} {E:Value->Shared->Prop} {s:Shared}
def lP{i:Nat}(h:s.heap.IsTupleIter it t i)(f:s.heap.IsTuple t I)(j:I[i]?=aw x)
  (k:∀h',h'.IsTupleIter it t (i+1)->Heap.SameBut it s.heap h'->Q x {s with heap:=h'}):wpAny (model prog w) A (Builtin.SmallTypes.nextOf (.ref it)) Q E s:=by
 let{o,b,l,hd}:=id h;let{O,d,_,n,c}:=f;delta Builtin.SmallTypes.nextOf
 refine ZaZ (wpAny_callSpecial?_slot (name:=Str.ofString "__next__") h.typeIs VE
  (Za0 VE h.typeIs Vp ?_ (Vj _)))
 show wpAny _ _ (field (.ref it) 0 >>= _) _ _ s;calc ZaZ (Za5 b hd (x:=.ref t) rfl ?_);show wpAny _ _ (if (Value.ref t == Value.none)=aN then _ else _) _ _ s;rw[if_neg (show ¬ ((Value.ref t == Value.none)=aN) from Zh)];show wpAny _ _ (field (.ref it) 1 >>= _) _ _ s;calc ZaZ (Za5 b hd (x:=.int i 0) rfl ?_);show wpAny _ _ (ZaL (.ref t) >>= _) _ _ s;calc ZaZ (Zbs d c ?_);simp![ZK,j];refine ZaZ (wpAny_setField b hd (by simp) (Zbk {x,rfl,Zbk (k _ ?_ (Heap.SameBut.update ..))}))
 exact⟨_,Z5 _ b (Obj.isFreed_of_fields (Obj.data_mapFields hd _)),(Obj.cls_mapFields ..).trans l,by
  rw[Obj.data_mapFields hd];simp[rawInt]⟩
def mY{i:Nat}(f:A.handled=aD)(h:s.heap.IsTupleIter it t i)(j:s.heap.IsTuple t I)(k:I[i]?=aD)
  (l:∀h' e,Heap.ExtBut it s.heap h'->(∃o,h'.get? e=aw o/\o.cls = .type "StopIteration")->E (.ref e) {s with heap:=h'}):wpAny (model prog w) A (Builtin.SmallTypes.nextOf (.ref it)) Q E s:=by
 let{o,c,p,hd}:=id h;let{O,d,_,n,b}:=j;delta Builtin.SmallTypes.nextOf
 refine ZaZ (wpAny_callSpecial?_slot (name:=Str.ofString "__next__") h.typeIs VE
  (Za0 VE h.typeIs Vp ?_ (Vj _)))
 show wpAny _ _ (field (.ref it) 0 >>= _) _ _ s;calc ZaZ (Za5 c hd (x:=.ref t) rfl ?_);show wpAny _ _ (if (Value.ref t == Value.none)=aN then _ else _) _ _ s;rw[if_neg (show ¬ ((Value.ref t == Value.none)=aN) from Zh)];show wpAny _ _ (field (.ref it) 1 >>= _) _ _ s;calc ZaZ (Za5 c hd (x:=.int i 0) rfl ?_);show wpAny _ _ (ZaL (.ref t) >>= _) _ _ s;calc ZaZ (Zbs d b ?_);simp![ZK,k];calc ZaZ (Zbr (ZaZ (wpAny_setField c hd (by simp) ?_)));show wpAny _ _ (newExc (.type "StopIteration") [] >>= _) _ _ _;calc ZaZ ?_;simp![newExc,newTuple];calc ZaZ (Zbg ?_ (by size_fits));calc ZaZ (m:=firstArgMember _ _) (Zbi (a:=Value.none) (by first |rfl |(simp![firstArgMember];rfl)) ?_);calc Zbg ?_ (by size_fits);simp![raiseNew];refine ZaZ (wpAny_handled ?_)
 first |rw[show A.in1.handled=aD from f] |rw[f]
 calc ZaZ (Zbk (wpAny_throw ?_));exact l _ _ (((Heap.SameBut.update ..).extBut.push _).push _) {_,Zs _ rfl,rfl}
end
def B4(p:A.handled=aD)(it l:Addr)(d:l≠it)(I:Array Value) :
  Draws prog w A it [it,l] I.size (λi v=>I[i]?=aw v) (λi h=>h.IsTupleIter it l i/\h.IsTuple l I) where
 live:=λ_ _ st=>let ⟨o,ho,_⟩:=st.1;⟨o,ho⟩
 frame:=λ_ _ _ st f=>{st.1.at λo e=>f it (by simp) o e,let ⟨o,e,r⟩:=st.2;{o,f l (by simp) o e,r}}
 item:=λi s Q E hi st n=>by
  calc lP st.1 st.2 (x:=I[i]) (by simp[hi]) λj c b=>?_;exact n _ j s.toks (by simp[hi]) {c,let ⟨o,e,r⟩:=st.2;{o,b.extBut l o d e,r}} b
 done:=λs Q E st k=>mY p st.1 st.2 (by simp) k
def tW(l:Addr)(items:Array Value)(n:Nat)(f:Option Addr)(sl:Array (Option Value)) :
  Meets (Builtin.«enumerate.__new__» ⟨[.type "enumerate",.ref l],[]⟩) (λ_ R s=>s.heap.get? l=aw {cls:=.type "tuple",dict:=f,data:=.seq items n,slots:=sl} ∧
   R (.ok (.ret (.ref (s.heap.push {cls:=.type "tuple_iterator",data:=.fields #[.ref l,.int 0 0]}).objs.size)))
    {s with heap:=(s.heap.push {cls:=.type "tuple_iterator",data:=.fields #[.ref l,.int 0 0]}).push {cls:=.type "enumerate",data:=.fields #[.none,.bool aS,.ref s⁻¹,rawInt 0,.none,.none]}}):=
 .of_wp λprog w A R s h=>by
  let{p,g,d,T,os}:=s;let{b,h}:=h;let k:=sub_enumerate;let j:Heap.IsTuple (Shared.heap ⟨p,g,d,T,os⟩) l items:=⟨_,b,rfl,n,rfl⟩
  wp_walk using Zbc b
  calc wpAny_stack_any λst=>Zbk ?_;split
  .rename_i c _ _ _ _ _;cases (c == Value.type "enumerate")
   .wp_walk using Zbc b,Zbn j
    exact⟨_,rfl,h⟩
   .wp_walk using Zbc b,Zbn j
    exact⟨_,rfl,h⟩
  .wp_walk using Zbc b,Zbn j
   exact⟨_,rfl,h⟩
def wq(p:IsTup s.heap l I)
  (h:∀h',IsEnum h' (s⁻¹+1) s⁻¹ 0 .none->h'.IsTupleIter s⁻¹ l 0->h'.objs.size=s⁻¹+2 ->
   (∀b o,s.heap.get? b=aw o->h'.get? b=aw o)->Q (.ref (s⁻¹+1)) {s with heap:=h'}) :
  wpAny (model prog w) A (call (.type "enumerate") [.ref l]) Q E s:=by
 let{⟨c,f,q,sl⟩,u,d,n,hd}:=p;replace d:c = .type "tuple" := d;replace hd:q = .seq I n:=hd;subst d hd
 refine callType_new PySem.F.called_enumerate (by decide) (PySem.F.typeCall_enumerate_1 _) (PySem.F.newCall_enumerate_1 _) (λobj=>Vh obj _) PySem.F.entry_enumerate_new
  (tW l I n f sl) {u,?_}
 let j:(s.heap.push {cls:=.type "tuple_iterator",data:=.fields #[.ref l,.int 0 0]}).objs.size=s⁻¹+1:=Yz ..;show _/\_;rw[j]
 let k:IsEnum ((s.heap.push {cls:=.type "tuple_iterator",data:=.fields #[.ref l,.int 0 0]}).push
   {cls:=.type "enumerate",data:=.fields #[.none,.bool aS,.ref s⁻¹,rawInt 0,.none,.none]}) (s⁻¹+1) s⁻¹ 0 .none:=by
  let:=Zs (s.heap.push {cls:=.type "tuple_iterator",data:=.fields #[.ref l,.int 0 0]})
   (o:={cls:=.type "enumerate",data:=.fields #[.none,.bool aS,.ref s⁻¹,rawInt 0,.none,.none]}) rfl
  rw[j]at this;exact this
 exact{⟨_,k,rfl⟩,h _ k {_,Zc _ (Zs _ rfl),rfl,rfl} (by rw[Yz,j]) λb o x=>Zc _ (Zc _ x)}
end HT
namespace L2
open PySem PySem.Spec PyProof.Rows
abbrev Ite(K:VX)(a:Addr)(b:VX->Hp->Addr->List V->Prop):It:=
 {λi H=>∃X x,b K H a X/\X[i]?=aw x,λi H x h=>∃T,H T=aD/\x = .ref T/\∀X v,b K H a X->X[i]?=aw v->h=upd H T (.tup [.int i,v]),λi H=>∃X,b K H a X/\X.length=i}
def Inv.turnedLaid{X:Cx}{p:List (Addr×Obj)}{j:St}{H:Hp}{s:Shared}{h':Heap}{T:Addr}{o:HO}{t':Nat}{ch:List Addr}(I:Inv X p j H s)(d:∀b∈ch,iI X p H b)
  (k:∀b ob,b∉ch->s.heap.get? b=aw ob->h'.get? b=aw ob) (l:s⁻¹<=T) (new:ba X.prog X.w (upd H T o) h' T o):Inv X p j (upd H T o) {s with heap:=h',toks:=t'}:=by
 let fr:=I.hok.fresh l;let neT:∀b ob,s.heap.get? b=aw ob->b≠T:=λb ob e=>ZH (ZD (Zv e) l)
 refine I.step (g':=s.gens) (d':=s.drawn) (ch:=ch) (λb hb=>{(d b hb).2.2.2.1,(d b hb).2.1,(d b hb).2.2.2.2.1,(d b hb).2.2.2.2.2}) (λb ob _ _ h e _=>k b ob h e) (λb ob _ _ h e _=>{ob.slots,k b ob h e})
  (λb ob _ e n=>by rw[ae (neT b ob e)];exact n) (λb ob h e=>{ob,k b ob h e}) (λb y q=>by rw[ae (aP q fr)];exact q) (λb u y q=>by rw[ae (aP q fr)];exact q)
  (λb ps q=>{#[],by rw[ae (aP q fr),q];simp}) (λm J=>?_) (λb u q=>?_) I.bare
 .let{ob,B,E,f,C}:=J;exact{ob,B,E,k _ ob (λz=>(d _ z).2.1 rfl) f,C}
 .by_cases hb:b=T
  .subst hb;rw[az]at q;cases q;exact new
  .rw[ae hb]at q;refine(I.hok b u q).stay (λc v h Q=>k c v (λz=>?_) Q) (λc q=>by rw[ae (aP q fr)];exact q) λc y q=>by rw[ae (aP q fr)];exact q
   let n:=(d c z).1;rcases h with w |w
   .rw[w,q]at n;cases n
   .rw[w]at n;cases n
def Inv.turnedAll{X:Cx}{p:List (Addr×Obj)}{j:St}{H:Hp}{s:Shared}{h':Heap}{t':Nat}{ch:List Addr}(I:Inv X p j H s)(d:∀b∈ch,iI X p H b)
  (k:∀b ob,b∉ch->s.heap.get? b=aw ob->h'.get? b=aw ob):Inv X p j H {s with heap:=h',toks:=t'}:=by
 refine I.step (g':=s.gens) (d':=s.drawn) (ch:=ch) (λb hb=>{(d b hb).2.2.2.1,(d b hb).2.1,(d b hb).2.2.2.2.1,(d b hb).2.2.2.2.2}) (λb ob _ _ h e _=>k b ob h e) (λb ob _ _ h e _=>{ob.slots,k b ob h e})
  (λb ob _ e n=>n) (λb ob h e=>{ob,k b ob h e}) (λb l q=>q) (λb u l q=>q)
  (λb ps q=>{#[],by rw[q];simp}) (λm C=>?_) (λb u q=>?_) I.bare
 .let{ob,y,E,f,B}:=C;exact{ob,y,E,k _ ob (λz=>(d _ z).2.1 rfl) f,B}
 .calc(I.hok b u q).stay (λc v h Q=>k c v (λz=>?_) Q) (λc q=>q) λc l q=>q;let n:=(d c z).1;rcases h with w |w
  .rw[w,q]at n;cases n
  .rw[w]at n;cases n
def wu{P:Program}{w:World}{K:VX}{elts:List Expr}{x1:Nat}{tp:Pos}(a e it:Addr)(Y:e≠it) :
  Turn P w K (.Tuple elts x1 tp) (Ite K a SqT) [e,it] e (λi h=>(∃O,IsEnum h e it i O)/\h.IsTupleIter it a i) where
 mem:=by simp
 obj:=λi h st b hb=>by
  let{⟨O,B⟩,o,L,c,d}:=st;rcases Zn.mp hb with z |z
  .subst z;exact{_,B,λv z=>by let z':Data.fields _=Data.cell v:=z;cases z'}
  .let z':=ZG.mp z;subst z';exact{o,L,λv z=>by rw[d]at z;cases z}
 keep:=λi h h' st k=>{let ⟨O,B⟩:=st.1;{O,k e (by simp) _ B},st.2.at λo L=>k it (by simp) o L}
 item:=by
  intro X hP hw hK hc i pins s σ H E I hf st hg;subst hP hw hK;let{xs,x,hq,hx}:=hg;let{f,rv,p,hz}:=I.tuple hq;let{u,hu,ru}:=rv.get hx;let{⟨O,B⟩,l}:=st;let Z:s.heap.IsTuple a f.toArray:=p
  let hae:e≠a:=λz=>by
   subst z;let{o,C,hc',n,j}:=id Z;rw[B]at C;cases C;let z':Data.fields _=Data.seq f.toArray n:=j;cases z'
  let U:a≠it:=λz=>by
   subst z;let{o,C,hc',n,j}:=id Z;let{o',T,c',d'}:=id l;rw[T]at C;cases C;rw[d']at j;cases j
  let hi:i < f.toArray.size:=by
   let:=(Zb.mp hu).1
   simpa using this
  refine wpAny_pyNext_enum_itemD (HT.B4 (A:=X.A.in1) (I.ok.hd hc) it a U f.toArray) B ⟨l,Z⟩ hi Y (by simp[Y,hae]) λy h' tk hP C hs' hT hsz hk=>?_
  let ey:y=u:=by
   let z:f.toArray[i]?=aw u:=by simpa using hu
   rw[z]at hP;exact(Option.some.inj hP).symm
  subst ey;calc{_,rfl,?_};calc wpAny_letOwnedTupleGo_enum C λh2 he2 Q=>?_;let J:e < s⁻¹:=Zv B;let hilt:it < s⁻¹:=by let{o,L,_}:=l;exact Zv L
  let hT2:h2.get? s⁻¹=aw {cls:=.type "tuple",data:=.seq #[.int i tk,y]}:=(Q.2 _ (Wp J)).trans hT;let fresh:=I.hok.fresh (Zf s⁻¹);refine{.ref s⁻¹,upd H s⁻¹ (.tup [.int i,x]),?_,rfl,{_,fresh,rfl,λys v hy hv=>?_},{{y,by simpa using he2},hs'.1.at λo L=>(Q.2 it (Ne.symm Y)).trans L},λb hb=>?_}
  .exact I.turnedLaid (t':=tk+1) hf (λb ob hb eb=>(Q.2 b λz=>hb (by simp[z])).trans (hk b ob (λz=>hb (by simp[z])) (λz=>hb (by simp[z])) eb)) (Zf _)
    {by show 2<=sizeLine;decide,[.int i tk,y],.cons ⟨tk,rfl⟩ (.cons ru .nil),⟨_,hT2,rfl,_,rfl,rfl⟩}
  .rw[I.tuple_inj hy hq,hx]at hv;cases hv;rfl
  .rcases Zn.mp hb with z |z
   .rw[z,ae (ZH J)];exact(hf e (by simp)).1
   .rw[ZG.mp z,ae (ZH hilt)];exact(hf it (by simp)).1
 done:=by
  intro X hP hw hK hc i pins s σ H E I hf st hg;subst hP hw hK;let{xs,hq,hx}:=hg;let{f,rv,p,hz}:=I.tuple hq;let{⟨O,B⟩,l}:=st;let Z:s.heap.IsTuple a f.toArray:=p
  let U:a≠it:=λz=>by
   subst z;let{o,C,hc',n,j}:=id Z;let{o',T,c',d'}:=id l;rw[T]at C;cases C;rw[d']at j;cases j
  let hn:f.toArray.size=i:=by rw[Zk,<-rv.length,hx]
  subst hn;calc wpAny_pyNext_enum_endD (HT.B4 (A:=X.A.in1) (I.ok.hd hc) it a U f.toArray) B ⟨l,Z⟩ λh' eb=>{rfl,?_};exact I.turnedAll (t':=s.toks) hf λb ob hb q=>eb b ob (λz=>hb (by simp[z])) q
 self:=λ_ _ _ _ _ st h=>let ⟨⟨O,B⟩,_⟩:=st;wpAny_pyIter_enum B h
abbrev RC(K:VX)(T:TA):TI:=λb H R=>T b H λv h=>∃a X,v=[.ref a]/\SqT K h a X/\R (Ite K a SqT) h
section
variable {X:Cx} {E:List Expr} {x:Nat} {t:Pos}
def Md{a:Expr}{T:TA}{p f:Pos}(Y:Gl X "enumerate")(hm:X.mg "enumerate" = aD)(U:PA X [a] T)(hs:ZaP [a] X.env=[(aS,eval a X.env)]:=by rfl):PI X (.Tuple E x t) (.Call (.Name "enumerate" p) [a] [] f) (RC X.K T):=by
 intro c s v H R I h;calc Call_ (eF I Y hm PyProof.Rows.boot_enumerate (W4 (thn (U f c s v H _ I h) λus d ⟨vs,k,j,r1,Q⟩=>?_) hs rfl));let{l,xs,e,O,q}:=Q;subst e;let{u,rfl,ru}:=bQ r1;cases ru;let{its,rv,Z,hz}:=j.tuple O;calc HT.wq Z λL y n B J=>wpAny_pyIter_enum y ?_;let C:Inv X c v k {d with heap:=L}:=j.kept (t':=d.toks) J;let fr:∀b,d.heap.objs.size<=b->iI X c k b:=λb hb=>j.fpOk hb (j.hok.fresh hb);calc{_,[d.heap.objs.size+1,d.heap.objs.size],_,_,k,rfl,C,wu l _ _ (Nat.succ_ne_self _),⟨⟨_,y⟩,n⟩,λb hb=>?_,q};rcases Zn.mp hb with z |z
 .rw[z];exact fr _ (YM _)
 .rw[ZG.mp z];exact fr _ (Zf _)
end
section
variable {X:Cx}
def kQ:aV X (.type "range") (λxs H Q=>∃j:Int,xs=[.int j]/\∀p,H p=aD->Q (.ref p) (upd H p (.rng 0 j))):=by
 intro c s f H xs U Q I r h;let{j,rfl,q}:=h;let{u,rfl,d}:=bQ r;let{t,rfl}:=d;exact call_range_1 {.ref s⁻¹,_,I.laid (t':=s.toks+1+1) (o:=.rng 0 j) (λb o e=>Zc _ e) (Zf _) {_,_,_,Zs _ rfl},rfl,q _ (I.hok.fresh (Zf _))}
def rq(hc:X.calm=aN):aV X (.type "list") (λxs H Q=>∃ (p:Addr) (n:Nat),xs=[.ref p]/\H p=aw (.rng 0 n)/\n<=1000/\∀l,H l=aD->Q (.ref l) (upd H l (.lst ((Zi n).map λ(i:Nat)=>V.int i)))):=by
 intro b s j H xs U Q I r h;let{p,n,rfl,d,c,q}:=h;let{u,rfl,f}:=bQ r;cases f;let{t,u,v,e}:=(show ba X.prog X.w H s.heap p (.rng 0 n) from I.hok p _ d);exact mV hc I e c q
end
abbrev j7:List Str->Bool
 |[]=>aN
 |x::r=>!r.contains x && j7 r
def jq:∀ {l:List Str},j7 l=aN->l.Nodup
 |[],_=>Xf
 |x::r,h=>by
  delta j7 at h;rw[bAE]at h;calc Z9.mpr {λm=>?_,jq h.2};let:=h.1;simp[m]at this
abbrev cmB(own:List Str)(hs:List Nat)(N:List Str)(b sc:Scope):Bool:=
 (b.kind == .function) && j7 (dE hs N++own) && j7 (b.names.map (·.1)) && ((dE hs N).all λx=>b.names.lookup x != aw .local && b.names.lookup x != aw .cell) &&
 (b.names.all λy=>y.2 != .free || (sc.names.lookup y.1 == aw .cell || sc.names.lookup y.1 == aw .free)) && hs.all λi=>(b.names.lookup (BS i)).isNone
def B5(hs:List Nat)(h:cmB own hs N b sc=aN):CmScope own hs N b sc:=by
 delta cmB at h;simp![bAE,Yc]at h;let{⟨⟨⟨⟨f,n⟩,l⟩,h4⟩,c⟩,j}:=h;refine{by simpa using f,jq n,jq l,λx d=>?_,λy k p=>?_,λi hi=>by simpa using j i hi}
 .let:=h4 x d
  simpa using this
 .let:=c y k;rw[p]at this
  simpa using this
section
variable {X:Cx} {T l a:Expr} {c:TE} {d:TA} {es:List Expr} {t:TGs} {p pos:Pos} {n k:Nat} {E:List Expr} {f:Nat} {g:Pos} {o e:Expr} {h:TE} {i:TA} {name:Str} {A C:Pos}
abbrev Kt(K:VX):List V->Hp->VK->Prop:=λj H Q=>∃x n t b,j=[x,.ty n]/\TyOf K H x t/\Up K t (.type n)=aw b/\Q (.bl b) H
def rA(K:VX)(b:X.K=K:=by rfl):aV X (.builtin "isinstance") (Kt K):=b▸tR
end
def mZ:∀ {xs:List V} {U:List Value},aJ xs U->xs.all dU=aN->U.countP (eqU x)=xs.countP λy=>eqV y x
 |_,_,.nil,_=>rfl
 |y::xs,u::U,.cons r t,f=>by
  rw[Yt,bAE]at f;rw[Xo,Xo,wo r f.1,mZ t f.2]
section
variable {X:Cx}
abbrev Gb(K:VX):V->List V->Hp->VK->Prop:=λx v H Q=>∃p b y,x = .ref p/\v=[y]/\SqT K H p b/\dU y=aN/\b.all dU=aN/\Q (.int ((b.countP λz=>eqV z y:Nat):Int)) H
def z4(K:VX)(k:X.K=K:=by rfl):MtR X "tuple.count" (Gb K):=by
 subst k;intro f s U H x Y v us Q I L C h;let{p,O,y,rfl,rfl,B,l,fs,q}:=h;cases L;let{u,rfl,T}:=C.one;let{b,r,⟨⟨E,J,d,sl⟩,e,c,n,hd⟩,Z}:=I.tuple B;simp! at c hd;subst c hd;calc Zad VB ⟨_,e,rfl⟩ F.entry_tuple_count (F.args_tuple_count_2 _ _) (SeqAt.tuple_countAt p b.toArray n J sl u (eqU y)) {e,λw j=>dD T l r fs w (by simpa using j),?_};refine{.int _,H,I.tok _,⟨_,rfl⟩,?_}
 let z:(b.toArray.toList.countP (eqU y))=O.countP λz=>eqV z y:=by
  rw[Wd];exact mZ r fs
 rw[z];exact q
end
end L2
namespace Dw
open PySem PySem.Spec PyProof.Rows L2
inductive D where
 |non |bl (b:Bool) |int (i:Int) |str (x:Str) |tup (ds:List D) |lst (ds:List D) |dic (ks:List Key) (ds:List D)
mutual
noncomputable def Br(N:List Addr)(H:Hp):D->V->Prop
 |.non,v=>v = .non
 |.bl b,v=>v = .bl b
 |.int i,v=>v = .int i
 |.str x,v=>v = .str x
 |.tup ds,v=>∃a X,v = .ref a/\H a=aw (.tup X)/\BrL N H ds X
 |.lst ds,v=>∃a X,v = .ref a/\a∉N/\H a=aw (.lst X)/\BrL N H ds X
 |.dic ks ds,v=>∃a X,v = .ref a/\a∉N/\H a=aw (.dK (ks.zip X))/\ks.length=ds.length/\BrL N H ds X
noncomputable def BrL(N:List Addr)(H:Hp):List D->List V->Prop
 |[],xs=>xs=[]
 |d::ds,xs=>∃x r,xs=x::r/\Br N H d x/\BrL N H ds r
end
mutual
noncomputable def dep:D->Nat
 |.tup ds=>lQ ds+1
 |.lst ds=>lQ ds+1
 |.dic _ ds=>lQ ds+1
 |_=>0
noncomputable def lQ:List D->Nat
 |[]=>0
 |d::ds=>max (dep d) (lQ ds)
end
mutual
noncomputable def wid:D->Nat
 |.tup ds=>max ds.length (ww ds)
 |.lst ds=>max ds.length (ww ds)
 |.dic _ ds=>max ds.length (ww ds)
 |_=>0
noncomputable def ww:List D->Nat
 |[]=>0
 |d::ds=>max (wid d) (ww ds)
end
abbrev isB:D->Bool |.bl _=>aN |_=>aS
abbrev isW(d:D):Bool:=match d with |.int _=>aN |_=>aS
abbrev iM(d:D)(a b:Int):Bool:=match d with |.int i=>decide (a<=i) && decide (i<=b) |_=>aS
abbrev isT(d:D)(a b:Int):Bool:=match d with |.tup ds=>decide (a<=(ds.length:Int)) && decide ((ds.length:Int)<=b) |_=>aS
def ql{b:Type}(n:Nat)(f:Nat->List b):(Zi (n+1)).flatMap f=(Zi n).flatMap f++f n:=by
 rw[Xw,We];simp
def yf{b:Type}{n m:Nat}{f:Nat->List b}(h:∀i,i < n->(f i).length<=m):((Zi n).flatMap f).length<=n * m:=by
 induction n with
 |zero=>simp
 |succ n I=>
  rw[ql,Ze];let:=I λi hi=>h i (by omega);let:=h n (by omega);rw[XU];omega
abbrev jr(d:List D)(lo hi:Option Int):List D:=(d.drop (HT.sIx d.length 0 lo)).take (HT.sIx d.length d.length hi - HT.sIx d.length 0 lo)
def yg{n:Nat}:∀ {ds:List D},(∀d∈ds,dep d<=n)->lQ ds<=n
 |[],_=>by rw[lQ];omega
 |e::ds,h=>by
  rw[lQ];let:=h e Zj;let:=yg (ds:=ds) λd hd=>h d (Zg _ hd);omega
def yh{n:Nat}:∀ {ds:List D},(∀d∈ds,wid d<=n)->ww ds<=n
 |[],_=>by rw[ww];omega
 |e::ds,h=>by
  rw[ww];let:=h e Zj;let:=yh (ds:=ds) λd hd=>h d (Zg _ hd);omega
structure Fit(n m:Nat)(d:D):Prop where
 de:dep d<=n
 wi:wid d<=m
def Fit.up{n m c b:Nat}(h:Fit n m d)(f:n<=c)(j:m<=b):Fit c b d:={ZJ h.de f,ZJ h.wi j}
def Fit.tup{n m:Nat}(hl:b.length<=m)(h:∀d∈b,Fit n m d):Fit (n+1) m (.tup b):=by
 refine{?_,?_}
 .rw[dep];let:=yg (n:=n) λd hd=>(h d hd).de;omega
 .rw[wid];let:=yh (n:=m) λd hd=>(h d hd).wi;omega
def Me(n:Nat)(a:Int)(h:0<=a):HT.sIx n 0 (aw a)=min a.toNat n:=by
 show(if a < 0 then (a+(n:Int)).toNat else min a.toNat n)=_;rw[if_neg (by omega)]
def B6(n:Nat)(a:Int)(h:0<=a):HT.sIx n n (aw a)=min a.toNat n:=by
 show(if a < 0 then (a+(n:Int)).toNat else min a.toNat n)=_;rw[if_neg (by omega)]
def Fit.lst{n m:Nat}(h:Fit n m (.tup d)):Fit n m (.lst d):={by let:=h.de;simp![dep]at this ⊢;exact this,by let:=h.wi;simp![wid]at this ⊢;exact this}
abbrev qm(q:Int×Int):D:=.tup [.int q.1,.int q.2]
abbrev mg2(M:List (List Int))(i j:Nat):Int:=(((M[i]?).getD [])[j]?).getD 0
structure Mat(n:Nat)(M:List (List Int)):Prop where
 len:M.length=n
 row:∀r∈M,r.length=n
 ent:∀r∈M,∀x∈r,1<=x/\x<=99
def Mat.at{n:Nat}(h:Mat n M){i j:Nat}(hi:i < n)(k:j < n):∃r,M[i]?=aw r/\r.length=n/\r[j]?=aw (mg2 M i j)/\1<=mg2 M i j/\mg2 M i j<=99:=by
 let b:i < M.length:=by rw[h.len];exact hi
 let E:M[i]?=aw M[i]:=gEG b;let d:=h.row _ (ZT b);let c:j < M[i].length:=by omega
 let f:mg2 M i j=M[i][j]:=by delta mg2;rw[E,ZX,gEG c,ZX]
 let:=h.ent _ (ZT b) _ (ZT c);exact{M[i],E,d,by rw[f,gEG c],by omega,by omega}
abbrev tX(n k:Nat)(M:List (List Int)):Prop:=∀a b q,a < n->b < n->q < k->mg2 M a b<=mg2 M a q+mg2 M q b
def B7{n k:Nat}(h:Mat n M)(d:k < n)(p:tX n k M)(u:∀i j,i < n->j < n->mg2 M' i j=min (mg2 M i j) (mg2 M i k+mg2 M k j)):tX n (k+1) M':=by
 intro a b q f hb B;let c:q < n:=by omega
 let{_,_,_,_,C,_}:=h.at f hb;let{_,_,_,_,E,_}:=h.at f d;let{_,_,_,_,Q,_}:=h.at d hb;let{_,_,_,_,v,_}:=h.at d d;let{_,_,_,_,J,_}:=h.at f c;let{_,_,_,_,y,_}:=h.at c hb;let{_,_,_,_,L,_}:=h.at d c;let{_,_,_,_,O,_}:=h.at c d;rw[u a b f hb,u a q f c,u q b c hb];by_cases e:q=k
 .subst e;omega
 .let l:q < k:=by omega
  let T:=p a b q f hb l;let z:=p k b q d hb l;let I:=p a k q f d l;omega
abbrev iO(M:List (List Int)):List D:=M.map λr=>.tup (r.map .int)
abbrev aY(M:List (List Int))(n c i:Nat):List Int:=(Zi n).map λj=>if mg2 M i c+mg2 M c j < mg2 M i j then mg2 M i c+mg2 M c j else mg2 M i j
def tY(M:List (List Int))(n c i:Nat):(aY M n c i).length=n:=by delta aY;rw[Za,ZC]
def tZ(M:List (List Int)){n c i j:Nat}(h:j < n):(aY M n c i)[j]?=aw (if mg2 M i c+mg2 M c j < mg2 M i j then mg2 M i c+mg2 M c j else mg2 M i j):=by
 delta aY;rw[Zq,Yn h];rfl
def Gc{n c:Nat}(h:Mat n M)(hc:c < n):∀i j,i < n->j < n->mg2 ((Zi n).map (aY M n c)) i j=min (mg2 M i j) (mg2 M i c+mg2 M c j):=λi j hi b=>by
 let e:mg2 ((Zi n).map (aY M n c)) i j=if mg2 M i c+mg2 M c j < mg2 M i j then mg2 M i c+mg2 M c j else mg2 M i j:=by
  show((((Zi n).map (aY M n c))[i]?.getD [])[j]?).getD 0=_;rw[Zq,Yn hi];show((aY M n c i)[j]?).getD 0=_;rw[tZ M b];rfl
 rw[e];split <;> omega
def B8{n c:Nat}(h:Mat n M)(hc:c < n):Mat n ((Zi n).map (aY M n c)):=by
 refine{by rw[Za,ZC],λr d=>?_,λr d x k=>?_}
 .let{u,_,rfl}:=Zz.mp d;exact tY M n c u
 .let{u,b,rfl}:=Zz.mp d;rw[ZQ]at b;delta aY at k;let{j,f,rfl}:=Zz.mp k;rw[ZQ]at f;let{_,_,_,_,p,Q}:=h.at b f;let{_,_,_,_,l,v}:=h.at b hc;let{_,_,_,_,y,q}:=h.at hc f;split <;> omega
def cg:∀ (n:Nat) (l:List Int),l.Nodup->(∀x∈l,0<=x/\x < (n:Int))->l.length<=n
 |0,l,_,h=>by
  cases l with
  |nil=>exact Zf _
  |cons x l=>have:=h x Zj;lia
 |n+1,l,nd,h=>by
  by_cases c:(n:Int)∈l
  .let I:=cg n (l.erase n) (nd.erase _) λx b=>by
    let d:=h x (List.mem_of_mem_erase b);let f:x≠(n:Int):=λe=>(List.Nodup.not_mem_erase nd) (e▸b)
    lia
   rw[List.length_erase_of_mem c]at I;let:=List.length_pos_of_mem c
   lia
  .let I:=cg n l nd λx b=>by
    let d:=h x b;let f:x≠(n:Int):=λe=>c (e▸b)
    lia
   lia
abbrev yi:Key->PyData
 |.inl i=>.int i
 |.inr x=>.str x
mutual
noncomputable def bc:D->PyData
 |.non=>.none
 |.bl b=>.bool b
 |.int i=>.int i
 |.str x=>.str x
 |.tup ds=>.tuple (bG ds)
 |.lst ds=>.list (bG ds)
 |.dic ks ds=>.dict ((ks.map yi).zip (bG ds))
noncomputable def bG:List D->List PyData
 |[]=>[]
 |d::ds=>bc d::bG ds
end
mutual
noncomputable def shw:D->Prop
 |.int i=>i.natAbs.log2 < 1920
 |.tup ds=>m6 ds
 |.lst ds=>m6 ds
 |.dic _ _=>False
 |_=>True
noncomputable def m6:List D->Prop
 |[]=>True
 |d::ds=>shw d/\m6 ds
end
section
variable {P:Program} {w:World} {N:List Addr} {H:Hp} {h:Heap}
mutual
theorem gh(ok:HOk P w H h):∀ (d:D) {v:V} {u:Value},Br N H d v->aE v u->shw d->∃l,Reads h u (bc d) l
 |.non,v,u,b,r,hs=>by simp![Br]at b;subst b;cases r;exact{_,by simp![bc];exact .none}
 |.bl x,v,u,b,r,hs=>by simp![Br]at b;subst b;cases r;exact{_,by simp![bc];exact .bool _}
 |.int i,v,u,b,r,hs=>by simp![Br]at b;subst b;let{t,rfl}:=r;exact{_,by simp![bc];exact .int _ _}
 |.str x,v,u,b,r,hs=>by simp![Br]at b;subst b;let{t,rfl}:=r;exact{_,by simp![bc];exact .str _ _}
 |.tup ds,v,u,b,r,hs=>by
  simp![Br]at b;let{a,X,rfl,f,k}:=b;cases r;let{_,I,j,o,e,c,n,q,_}:=ok a _ f;let{l,z}:=j8 ok ds k j (by simpa only[shw] using hs);simp![bc];exact{_,.tuple e c q (by simpa using z)}
 |.lst ds,v,u,b,r,hs=>by
  simp![Br]at b;let{a,X,rfl,_,f,k}:=b;cases r;let{_,I,n,j,e}:=ok a _ f;let{l,z}:=j8 ok ds k j (by simpa only[shw] using hs);simp![bc];exact{_,.list e rfl rfl (by simpa using z)}
 |.dic ks ds,v,u,b,r,hs=>by simp![shw]at hs
theorem j8(ok:HOk P w H h):∀ (c:List D) {xs:List V} {u:List Value},BrL N H c xs->aJ xs u->m6 c->∃f,ReadsAll h u (bG c) f
 |[],xs,u,b,r,_=>by simp![BrL]at b;subst b;cases r;exact{_,by simp![bG];exact .nil}
 |d::c,xs,u,b,r,hs=>by
  simp![BrL]at b;let{x,l,rfl,j,k}:=b;cases r with
  |cons r1 r2=>
   let{f,Z}:=gh ok d j r1 (by simp![m6]at hs;exact hs.1);let{bs,z}:=j8 ok c k r2 (by simp![m6]at hs;exact hs.2);simp![bG];exact{_,.cons Z z}
end
mutual
theorem Gd(ok:HOk P w H h):∀ (d:D) {v:V} {u:Value},Br N H d v->aE v u->shw d->(bc d).shown.length<=sizeLine->∃bs,ReadAtMost h (bc d).depth bs/\ReprK P w bs h (bc d).depth u (bc d).shown
 |.non,v,u,b,r,_,_=>by simp![Br]at b;subst b;cases r;exact{[],(λ_ m=>nomatch m),by simp![bc,VQ];exact .of_is ReprIs.none _ _ _}
 |.bl x,v,u,b,r,_,_=>by simp![Br]at b;subst b;cases r;exact{[],(λ_ m=>nomatch m),by simp![bc,VQ];exact .of_is (ReprIs.bool _) _ _ _}
 |.int i,v,u,b,r,hs,_=>by simp![Br]at b;subst b;let{t,rfl}:=r;exact{[],(λ_ m=>nomatch m),by simp![bc,VQ];exact .of_is (ReprIs.int t (by simpa only[shw] using hs)) _ _ _}
 |.str x,v,u,b,r,_,hz=>by simp![Br]at b;subst b;let{t,rfl}:=r;exact{[],(λ_ m=>nomatch m),by simp![bc,VQ]at hz ⊢;exact .of_is (ReprIs.str x t hz) _ _ _}
 |.tup ds,v,u,b,r,hs,hz=>by
  let{J,f}:=gh ok (.tup ds) b r hs;simp![Br]at b;let{a,X,rfl,z,p}:=b;cases r;let{_,I,B,o,e,c,n,q,_}:=ok a _ z;simp![bc,VQ,VN]at hz f ⊢;let{bs,m,k}:=gj ok ds p B (by simpa only[shw] using hs) λt C=>ZJ (tupleText_mem_le C) hz;let out:a∉bs:=Zaz f (by simp![VN];lia) m;let j:=ReadAtMost.cons f (by simp![VN];lia) m;simp![VN]at j;exact{a::bs,j,ReprK.tuple e c q out (by simpa using k)}
 |.lst ds,v,u,b,r,hs,hz=>by
  let{J,f}:=gh ok (.lst ds) b r hs;simp![Br]at b;let{a,X,rfl,_,z,p}:=b;cases r;let{_,I,n,B,e}:=ok a _ z;simp![bc,VQ,VN]at hz f ⊢;let{bs,m,k}:=gj ok ds p B (by simpa only[shw] using hs) λt C=>ZJ (listText_mem_le C) hz;let out:a∉bs:=Zaz f (by simp![VN];lia) m;let j:=ReadAtMost.cons f (by simp![VN];lia) m;simp![VN]at j;calc{a::bs,j,?_};cases I with
  |nil=>
   cases E:VR (bG ds) with
   |nil=>simp![listText_nil];exact ReprK.listEmpty e rfl rfl
   |cons _ _=>rw[E]at k;cases k
  |cons y l=>exact ReprK.list e rfl rfl out (by simpa using k.length_eq) (λi Y Q=>k.item i Y (by simpa using Q))
 |.dic ks ds,v,u,b,r,hs,hz=>by simp![shw]at hs
theorem gj(ok:HOk P w H h):∀ (c:List D) {xs:List V} {u:List Value},BrL N H c xs->aJ xs u->m6 c->(∀t∈VR (bG c),t.length<=sizeLine)->∃bs,ReadAtMost h (VO (bG c)) bs/\ReprAllK P w bs h (VO (bG c)) u (VR (bG c))
 |[],xs,u,b,r,_,_=>by simp![BrL]at b;subst b;cases r;exact{[],(λ_ m=>nomatch m),by simp![bG,VR];exact .nil}
 |d::c,xs,u,b,r,hs,hz=>by
  simp![BrL]at b;let{x,l,rfl,p,v}:=b;cases r with
  |cons r1 r2=>
   simp![bG,VR,VO,m6]at hz hs ⊢;let{j,m1,k}:=Gd ok d p r1 hs.1 (hz _ Zj);let{B,f,q}:=gj ok c v r2 hs.2 λt n=>hz t (Zg _ n);calc{j++B,(m1.mono (WF _ _)).append (f.mono (Wx _ _)),?_};exact .cons ((k.more λb z=>ZW _ z).level_le (WF _ _)) (q.more_le (λb z=>ZB _ z) (Wx _ _))
end
end
section
variable {X:Cx}
structure Shn(d:D):Prop where
 sh:shw d
 sz:(bc d).shown.length<=sizeLine
 dp:(bc d).depth<=100
abbrev Mf:List V->Hp->VK->Prop:=λb H Q=>∃x N d,b=[x]/\Br N H d x/\Shn d/\Q (.str (bc d).shown) H
def wx{k:Nat}(hr:Room k X.A):aV X (.builtin "repr") Mf:=by
 intro U s σ H xs us Q I r h;let{x,N,d,rfl,b,⟨hs,B,hd⟩,q}:=h;let{u,rfl,p}:=bQ r;let hun:=hr.un;let O:X.A.units+1 < cLine:=by lia
 let Y:X.A.in1.guards=aw []:=hr.gd;let j:∀C t T,(∀b o,s.heap.get? b=aw o->C.get? b=aw o)->∃x' t',Value.str (bc d).shown t=Value.str x' t'/\EP X U σ Q (Value.str (bc d).shown t) {s with heap:=C,toks:=T}:=λC t T J=>{_,_,rfl,.str _,H,I.kept (t':=T) J,⟨t,rfl⟩,q};cases d with
 |non=>
  simp![Br]at b;subst b;cases p;exact P.repr_of_none {.str _,H,I.tok _,⟨_,rfl⟩,by simpa only[bc,VQ] using q}
 |bl y=>
  simp![Br]at b;subst b;cases p;exact P.repr_of_bool {.str _,H,I.tok _,⟨_,rfl⟩,by simpa only[bc,VQ] using q}
 |int i=>
  simp![Br]at b;subst b;let{t,rfl}:=p;exact P.repr_of_int (by simpa only[shw] using hs) {.str _,H,I.tok _,⟨_,rfl⟩,by simpa only[bc,VQ] using q}
 |str y=>
  simp![Br]at b;subst b;let{t,rfl}:=p;exact P.repr_of_str {.str _,H,I.tok _,⟨_,rfl⟩,by simpa only[bc,VQ] using q} (by simpa only[bc,VQ] using B)
 |tup v=>
  let{as,f}:=gh I.hok (.tup v) b p hs;simp![Br]at b;let{a,ys,rfl,ha,Z}:=b;cases p;let{_,L,rv,o,e,c,n,q',_}:=I.hok a _ ha;simp![bc,VQ,VN]at B f hd j;let{bs,m,E}:=gj I.hok v Z rv (by simpa only[shw] using hs) λt ht=>ZJ (tupleText_mem_le ht) B;let out:a∉bs:=Zaz f (by simp![VN];lia) m;calc call_repr_slot O ⟨o,e,c⟩ F.slot_tuple_repr ?_;exact call_tuple_reprK e c q' out (by simpa using E) Y (λb _=>Clear.nil b) (by show X.A.units+1+(_+1) < cLine;lia) (λ_ _ z=>z) (λC t T J=>j C t T J) B
 |lst v=>
  let{as,f}:=gh I.hok (.lst v) b p hs;simp![Br]at b;let{a,ys,rfl,_,ha,Z}:=b;cases p;let{_,L,n,rv,e}:=I.hok a _ ha;simp![bc,VQ,VN]at B f hd j;let{bs,m,E}:=gj I.hok v Z rv (by simpa only[shw] using hs) λt ht=>ZJ (listText_mem_le ht) B;let out:a∉bs:=Zaz f (by simp![VN];lia) m;calc call_repr_slot O ⟨_,e,rfl⟩ F.slot_list_repr.toG ?_;cases L with
  |nil=>
   cases k2:VR (bG v) with
   |nil=>
    rw[k2]at j;simp![listText_nil]at j;exact call_list_repr_empty ⟨_,e,rfl⟩ e rfl (j s.heap _ _ λ_ _ z=>z)
   |cons _ _=>rw[k2]at E;cases E
  |cons y l=>
   exact call_list_reprK e rfl rfl out (by simpa using E.length_eq) (λi y' q2=>E.item i y' (by simpa using q2)) Y (λb _=>Clear.nil b) (by show X.A.units+1+(_+1) < cLine;lia) (λ_ _ z=>z) (λC t T J=>j C t T J) B
 |dic ks v=>simp![shw]at hs
end
mutual
noncomputable def sz:D->Nat
 |.non=>10
 |.bl _=>10
 |.int _=>60
 |.str x=>(reprText x).length
 |.tup ds=>szL ds+4
 |.lst ds=>szL ds+4
 |.dic ks ds=>szL ds+62 * ks.length+4
noncomputable def szL:List D->Nat
 |[]=>0
 |d::ds=>sz d+2+szL ds
end
mutual
noncomputable def bnd(B:Nat):D->Prop
 |.int i=>i.natAbs < B
 |.tup ds=>jt B ds
 |.lst ds=>jt B ds
 |.dic _ _=>False
 |_=>True
noncomputable def jt(B:Nat):List D->Prop
 |[]=>True
 |d::ds=>bnd B d/\jt B ds
end
def Mg{i:Int}(h:i.natAbs < 10 ^ 50):i.natAbs.log2 < 1920:=by
 by_cases z:i.natAbs=0
 .rw[z];decide
 .let:i.natAbs.log2 < 167:=(WV z).mpr (ZD h (by decide))
  lia
mutual
theorem yj:∀ (d:D),bnd (10 ^ 50) d->shw d
 |.non,_=>by simp![shw]
 |.bl _,_=>by simp![shw]
 |.str _,_=>by simp![shw]
 |.int i,h=>by simp![shw,bnd]at h ⊢;exact Mg h
 |.tup ds,h=>by simp![shw,bnd]at h ⊢;exact m7 ds h
 |.lst ds,h=>by simp![shw,bnd]at h ⊢;exact m7 ds h
 |.dic ks ds,h=>by simp![bnd]at h
theorem m7:∀ (b:List D),jt (10 ^ 50) b->m6 b
 |[],_=>by simp![m6]
 |d::b,h=>by simp![m6,jt]at h ⊢;exact{yj d h.1,m7 b h.2}
end
def yk:∀ (T:List Str) (k:Nat) (b:Str),(ZaV k b T).length<=b.length+piled T
 |[],k,b=>by show b.length<=_;lia
 |t::r,k,b=>by
  let I:=yk r (k+1) (b++(if k > 0 then ", " else "" : String)++t);show(ZaV (k+1) (b++(if k > 0 then ", " else "" : String)++t) r).length<=_;rw[piled_cons]
  let e:(b++(if k > 0 then ", " else "" : String)++t).length<=b.length+2+t.length:=by
   rw[ZaQ,ZaQ];let:(Str.ofString (if k > 0 then ", " else "" : String)).length<=2:=by split <;> decide
   lia
  lia
def rB(ts:List Str):(Str.join ", " ts).length<=piled ts:=by
 cases ts with
 |nil=>decide
 |cons t r=>have:=join_length_add (t::r) (by simp);lia
def Gf(ts:List Str):(listText ts).length<=piled ts+4:=by
 delta listText;rw[ZaQ];let h:=yk ts 0 "[";let d:(Str.ofString "[").length=1:=by decide
 let c:(Str.ofString "]").length=1:=by decide
 let b:(ZaV 0 (Str.ofString "[") ts).length<=(Str.ofString "[").length+piled ts:=h;show(ZaV 0 (Str.ofString "[") ts).length+(Str.ofString "]").length<=_
 lia
def B9(T:List Str):(tupleText T).length<=piled T+4:=by
 delta tupleText;rw[ZaQ,ZaQ];let c:=rB T;let b:(Str.ofString "(").length=1:=by decide
 let h:(Str.ofString (if T.length == 1 then ",)" else ")" : String)).length<=2:=by split <;> decide
 show(Str.ofString "(").length+_+(Str.ofString (if T.length == 1 then ",)" else ")" : String)).length<=_
 lia
def Mh{i:Int}(h:i.natAbs < 10 ^ 50):(Str.ofString (toString i)).length<=51:=by
 rw[ofString_len];exact int_text_length_le10 (by decide) h
mutual
theorem t0:∀ (d:D),bnd (10 ^ 50) d->(bc d).shown.length<=sz d
 |.non,_=>by simp![bc,VQ,sz];decide
 |.bl b,_=>by simp![bc,VQ,sz];cases b <;> decide
 |.int i,h=>by
  simp![bc,VQ,sz,bnd]at h ⊢;let:=Mh h;show(Str.ofString (toString i)).length<=60
  lia
 |.str x,_=>by simp![bc,VQ,sz];exact Zf _
 |.tup ds,h=>by
  simp![bc,VQ,sz,bnd]at h ⊢;let:=j9 ds h;let:=B9 (VR (bG ds))
  lia
 |.lst ds,h=>by
  simp![bc,VQ,sz,bnd]at h ⊢;let:=j9 ds h;let:=Gf (VR (bG ds))
  lia
 |.dic ks ds,h=>by simp![bnd]at h
theorem j9:∀ (b:List D),jt (10 ^ 50) b->piled (VR (bG b))<=szL b
 |[],_=>by simp[bG,VR,piled,szL]
 |d::b,h=>by
  simp![bG,VR,szL,jt,piled_cons]at h ⊢;let f:=t0 d h.1;let c:=j9 b h.2
  lia
end
def ua:∀ (ks:List Key) (b:List PyData),VP ((ks.map yi).zip b)<=VO b
 |[],b=>by simp[VP]
 |k::ks,[]=>by simp[VP]
 |k::ks,d::b=>by
  let I:=ua ks b;simp![Zy,Yg,VP,VO];let:(yi k).depth=0:=by cases k <;> simp[yi,VN]
  rw[this]
  lia
mutual
theorem ub:∀ (d:D),(bc d).depth<=dep d
 |.non=>by simp[bc,VN]
 |.bl _=>by simp[bc,VN]
 |.int _=>by simp[bc,VN]
 |.str _=>by simp[bc,VN]
 |.tup ds=>by simp![bc,VN,dep];let:=hU ds;lia
 |.lst ds=>by simp![bc,VN,dep];let:=hU ds;lia
 |.dic ks ds=>by
  simp![bc,VN,dep];let:=hU ds;let:=ua ks (bG ds)
  lia
theorem hU:∀ (b:List D),VO (bG b)<=lQ b
 |[]=>by simp[bG,VO,lQ]
 |d::b=>by
  simp![bG,VO,lQ];let:=ub d;let:=hU b
  lia
end
structure Bd(B s:Nat)(d:D):Prop where
 bn:bnd B d
 sz:sz d<=s
mutual
theorem Ca{B b:Nat}(h:B<=b):∀ (d:D),bnd B d->bnd b d
 |.non,_=>by simp![bnd]
 |.bl _,_=>by simp![bnd]
 |.str _,_=>by simp![bnd]
 |.int i,z=>by simp![bnd]at z ⊢;lia
 |.tup ds,z=>by simp![bnd]at z ⊢;exact rC h ds z
 |.lst ds,z=>by simp![bnd]at z ⊢;exact rC h ds z
 |.dic ks ds,z=>by simp![bnd]at z
theorem rC{B c:Nat}(h:B<=c):∀ (b:List D),jt B b->jt c b
 |[],_=>by simp![jt]
 |d::b,z=>by simp![jt]at z ⊢;exact{Ca h d z.1,rC h b z.2}
end
def Bd.shn{B s:Nat}(h:Bd B s d)(c:B<=10 ^ 50)(hs:s<=sizeLine)(hd:dep d<=100):Shn d:=
 have b:=Ca c d h.bn
 {yj d b,ZJ (t0 d b) (ZJ h.sz hs),ZJ (ub d) hd}
def ym{B:Nat}:∀ {b:List D},(∀d∈b,bnd B d)->jt B b
 |[],_=>by simp![jt]
 |d::b,h=>by simp![jt];exact{h d Zj,ym λe m=>h e (Zg _ m)}
def Mi{B s:Nat}(h:∀d∈b,bnd B d)(hs:szL b+4<=s):Bd B s (.tup b):={by simp![bnd];exact ym h,by simp![sz];exact hs}
def Mj{B s:Nat}(h:Bd B s (.tup d)):Bd B s (.lst d):=by
 let c:=h.bn;let b:=h.sz;exact{by simp![bnd]at c ⊢;exact c,by simp![sz]at b ⊢;exact b}
end Dw
namespace Ev
open PySem PySem.Spec PyProof.Rows L2
inductive D where
 |non |bl (b:Bool) |int (i:Int) |str (x:Str) |tup (ds:List D) |ref (n:Nat)
inductive Ob where
 |lst (ds:List D) |frz (ds:List D) |dic (ks:List (List NK)) (ds:List D) |tbl (x:Str) (pos:Pos) (qual:Str) |dfz (ks:List (List NK)) (ds:List D)
@[inline]abbrev Sto:=List Ob
@[inline]abbrev Rho:=List (Option D)
mutual
noncomputable def VD(K:VX)(m:List Addr)(H:Hp):D->V->Prop
 |.non,v=>v = .non
 |.bl b,v=>v = .bl b
 |.int i,v=>v = .int i
 |.str x,v=>v = .str x
 |.tup ds,v=>∃a X,v = .ref a/\H a=aw (.tup X)/\VDs K m H ds X
 |.ref n,v=>∃a,m[n]?=aw a/\v = .ref a
noncomputable def VDs(K:VX)(m:List Addr)(H:Hp):List D->List V->Prop
 |[],xs=>xs=[]
 |d::ds,xs=>∃x r,xs=x::r/\VD K m H d x/\VDs K m H ds r
end
structure Ext(m:List Addr)(H:Hp)(m':List Addr)(H':Hp):Prop where
 pre:m <+: m'
 keep:∀a o,H a=aw o->a∉m->H' a=aw o
 new:∀a,a∈m'->a∉m->H a=aD
abbrev DfO(o:Obj)(ks:List (List NK))(d:List D):Prop:=ks.length=d.length/\∃E,o.data = .dict E ks.length
abbrev ObR(K:VX)(m:List Addr)(H:Hp)(a:Addr):Ob->Prop
 |.lst ds=>∃v,H a=aw (.lst v)/\VDs K m H ds v
 |.frz ds=>∃o v,H a=aw (.frz o (.lst v))/\VDs K m H ds v
 |.dic ks ds=>∃v,H a=aw (.dT (ks.zip v))/\ks.length=ds.length/\VDs K m H ds v
 |.tbl x pos qual=>FZ K x a/\∃ps,TabOk a pos qual H ps
 |.dfz ks ds=>∃o v,H a=aw (.frz o (.dT (ks.zip v)))/\DfO o ks ds/\VDs K m H ds v
structure Rel(K:VX)(m:List Addr)(S:Sto)(H:Hp):Prop where
 len:m.length=S.length
 nd:m.Nodup
 ob:∀ (i:Nat) (o:Ob),S[i]?=aw o->∃a,m[i]?=aw a/\ObR K m H a o
structure EnvR(K:VX)(m:List Addr)(H:Hp)(ρ:Rho)(σ:L2.St):Prop where
 len:ρ.length=σ.length
 at_:∀ (i:Nat) (d:D),ρ[i]?=aw (aw d)->∃v,σ[i]?=aw (aw v)/\VD K m H d v
def Ext.refl(m:List Addr)(H:Hp):Ext m H m H:={Yp m,λ_ _ h _=>h,λ_ h n=>absurd h n}
def Ext.trans(x:Ext m H m1 d)(y:Ext m1 d c H2):Ext m H c H2:=by
 refine{x.pre.trans y.pre,λa o h n=>?_,λa h n=>?_}
 .let f:a∉m1:=λz=>by let:=x.new a z n;rw[this]at h;cases h
  exact y.keep a o (x.keep a o h n) f
 .by_cases b:a∈m1
  .exact x.new a b n
  .cases e:H a with
   |none=>rfl
   |some o=>
    let:=x.keep a o e n;rw[y.new a h b]at this;cases this
section
variable {K:VX} {m M:List Addr} {S s:Sto} {H f:Hp} {a:Addr}
def Rel.ex(R:Rel K m S H)(k:a∈m):∃o ob,H a=aw o/\ObR K m H a ob:=by
 let{i,hi,e}:=List.getElem_of_mem k;let j:i < S.length:=by rw[<-R.len];exact hi
 let{b,hb,r}:=R.ob i S[i] (gEG j);let:b=a:=by rw[gEG hi]at hb;rw[<-e];exact(Option.some.inj hb).symm
 subst this;cases c:S[i] with
 |lst d=>rw[c]at r;let{v,h,q}:=r;exact{_,.lst d,h,v,h,q}
 |frz d=>rw[c]at r;let{o,v,h,q}:=r;exact{_,.frz d,h,o,v,h,q}
 |dic ks d=>rw[c]at r;let{v,h,q}:=r;exact{_,.dic ks d,h,v,h,q}
 |tbl T p q=>rw[c]at r;let{e,ps,h}:=r;exact{_,.tbl T p q,h.at_,e,ps,h}
 |dfz ks d=>rw[c]at r;let{o,v,h,q}:=r;exact{_,.dfz ks d,h,o,v,h,q}
def Rel.no(R:Rel K m S H)(h:H a=aD):a∉m:=λz=>by
 let{o,_,e,_}:=R.ex z;rw[h]at e;cases e
def Rel.notTup(R:Rel K m S H)(h:H a=aw (.tup xs)):a∉m:=λz=>by
 let{o,ob,e,r}:=R.ex z;cases ob with
 |lst d=>let{v,q,_}:=r;rw[q]at h;cases h
 |frz d=>let{o,v,q,_}:=r;rw[q]at h;cases h
 |dic ks d=>let{v,q,_}:=r;rw[q]at h;cases h
 |tbl T p q=>let{e,ps,z}:=r;rw[z.at_]at h;cases h
 |dfz ks d=>let{o,v,q,_}:=r;rw[q]at h;cases h
def Rel.notCd{c:Addr}{Q:Str}(R:Rel K m S H)(h:H a=aw (cdO c Q)):a∉m:=λz=>by
 delta cdO at h;let{o,ob,e,r}:=R.ex z;cases ob with
 |lst d=>let{v,q,_}:=r;rw[q]at h;cases h
 |frz d=>let{o,v,q,_}:=r;rw[q]at h;cases h
 |dic ks d=>let{v,q,_}:=r;rw[q]at h;cases h
 |tbl T p q=>let{e,ps,z}:=r;rw[z.at_]at h;cases h
 |dfz ks d=>let{o,v,q,_}:=r;rw[q]at h;cases h
def Tup.ext(R:Rel K m S H)(x:Ext m H M f)(h:H a=aw (.tup xs)):f a=aw (.tup xs):=x.keep _ _ h (R.notTup h)
def l8{i:Nat}(h:m <+: M)(e:m[i]?=aw a):M[i]?=aw a:=by
 let{t,rfl}:=h;let hi:i < m.length:=(Zb.mp e).1;rw[Zt hi];exact e
mutual
theorem VD.mono0(pre:m <+: M)(T:∀a xs,H a=aw (.tup xs)->f a=aw (.tup xs)):∀ {d:D} {v:V},VD K m H d v->VD K M f d v
 |.non,v,h=>by rw[VD]at h ⊢;exact h
 |.bl _,v,h=>by rw[VD]at h ⊢;exact h
 |.int _,v,h=>by rw[VD]at h ⊢;exact h
 |.str _,v,h=>by rw[VD]at h ⊢;exact h
 |.tup ds,v,h=>by
  rw[VD]at h ⊢;let{a,xs,e,q,r}:=h;exact{a,xs,e,T a xs q,VDs.mono0 pre T r}
 |.ref n,v,h=>by
  rw[VD]at h ⊢;let{a,q,e}:=h;exact{a,l8 pre q,e}
theorem VDs.mono0(pre:m <+: M)(T:∀a xs,H a=aw (.tup xs)->f a=aw (.tup xs)):∀ {b:List D} {v:List V},VDs K m H b v->VDs K M f b v
 |[],v,h=>by rw[VDs]at h ⊢;exact h
 |d::b,v,h=>by
  rw[VDs]at h ⊢;let{y,r,e,p,q}:=h;exact{y,r,e,VD.mono0 pre T p,VDs.mono0 pre T q}
end
def VD.mono(R:Rel K m S H)(x:Ext m H M f)(h:VD K m H d v):VD K M f d v:=VD.mono0 x.pre (λ_ _=>Tup.ext R x) h
def VDs.mono(R:Rel K m S H)(x:Ext m H M f)(h:VDs K m H d vs):VDs K M f d vs:=VDs.mono0 x.pre (λ_ _=>Tup.ext R x) h
def EnvR.mono(R:Rel K m S H)(x:Ext m H M f)(h:EnvR K m H b σ):EnvR K M f b σ:=
 {h.len,λi d e=>let ⟨v,p,q⟩:=h.at_ i d e;{v,p,VD.mono R x q}}
def VDs.length:∀ {b:List D} {v:List V},VDs K m H b v->b.length=v.length
 |[],v,h=>by rw[VDs]at h;rw[h];rfl
 |d::b,v,h=>by
  rw[VDs]at h;let{y,r,e,_,q}:=h;rw[e,Zo,Zo,VDs.length q]
def VDs.nil:VDs K m H [] []:=by rw[VDs]
def VDs.cons(h:VD K m H d v)(t:VDs K m H c b):VDs K m H (d::c) (v::b):=by rw[VDs];exact⟨v,b,rfl,h,t⟩
def VDs.get:∀ {c:List D} {b:List V} {i:Nat} {d:D},VDs K m H c b->c[i]?=aw d->∃v,b[i]?=aw v/\VD K m H d v
 |[],_,_,_,_,e=>by simp at e
 |d::c,b,0,d',h,e=>by
  rw[VDs]at h;let{y,r,rfl,p,q}:=h;simp at e;subst e;exact⟨y,rfl,p⟩
 |d::c,b,i+1,d',h,e=>by
  rw[VDs]at h;let{y,r,rfl,p,q}:=h;let{v,j,k}:=VDs.get (i:=i) q (by simpa using e);exact{v,by simpa using j,k}
def VDs.append:∀ {c E:List D} {v b:List V},VDs K m H c v->VDs K m H E b->VDs K m H (c++E) (v++b)
 |[],_,v,_,h,t=>by rw[VDs]at h;subst h;exact t
 |d::c,E,v,b,h,t=>by
  rw[VDs]at h;let{y,r,rfl,p,q}:=h;exact .cons p (VDs.append q t)
def VDs.drop:∀ {b:List D} {v:List V} (n:Nat),VDs K m H b v->VDs K m H (b.drop n) (v.drop n)
 |b,v,0,h=>h
 |[],v,n+1,h=>by rw[VDs]at h;subst h;exact .nil
 |d::b,v,n+1,h=>by
  rw[VDs]at h;let{y,r,rfl,p,q}:=h;exact VDs.drop n q
def VDs.take:∀ {b:List D} {v:List V} (n:Nat),VDs K m H b v->VDs K m H (b.take n) (v.take n)
 |b,v,0,h=>by simp![YK];exact .nil
 |[],v,n+1,h=>by rw[VDs]at h;subst h;exact .nil
 |d::b,v,n+1,h=>by
  rw[VDs]at h;let{y,r,rfl,p,q}:=h;exact .cons p (VDs.take n q)
def VDs.set:∀ {c:List D} {b:List V} {i:Nat} {d:D} {v:V},VDs K m H c b->VD K m H d v->VDs K m H (c.set i d) (b.set i v)
 |[],b,_,_,_,h,_=>by rw[VDs]at h;subst h;exact .nil
 |_::c,b,0,d,v,h,p=>by
  rw[VDs]at h;let{y,r,rfl,_,q}:=h;exact .cons p q
 |_::c,b,i+1,d,v,h,p=>by
  rw[VDs]at h;let{y,r,rfl,j,q}:=h;exact .cons j (VDs.set q p)
def Ext.beside(R:Rel K m S H)(h:H a=aD)(o:HO):Ext m H m (upd H a o):=
 {Yp m,λb u e _=>by rw[ae (aP e h)];exact e,λb z n=>absurd z n}
def Rel.ext_keep(R:Rel K m S H)(x:Ext m H m f)(k:∀b∈m,f b=H b):Rel K m S f:=by
 calc{R.len,R.nd,λi o e=>?_};let{b,hb,r}:=R.ob i o e;let h:b∈m:=Zd hb;calc{b,hb,?_};cases o with
 |lst d=>let{v,p,q}:=r;exact{v,(k b h).trans p,VDs.mono R x q}
 |frz d=>let{o,v,p,q}:=r;exact{o,v,(k b h).trans p,VDs.mono R x q}
 |dic ks d=>let{v,p,l,q}:=r;exact{v,(k b h).trans p,l,VDs.mono R x q}
 |tbl T p q=>
  let{e,ps,z}:=r;calc{e,ps,(k _ h).trans z.at_,z.tr,λC n=>?_};let{c,u,E}:=z.cd C n;calc{c,u,?_};by_cases j:c∈m
  .exact(k _ j).trans E
  .exact x.keep _ _ E j
 |dfz ks d=>let{o,v,p,l,q}:=r;exact{o,v,(k b h).trans p,l,VDs.mono R x q}
def Rel.beside(R:Rel K m S H)(h:H a=aD)(o:HO):Rel K m S (upd H a o):=
 R.ext_keep (Ext.beside R h o) λb hb=>ae λz=>R.no h (z▸hb)
def Rel.adoptP{a:Addr}{ob:Ob}(R:Rel K m S H)(n:a∉m)(h:ObR K (m++[a]) H a ob):Rel K (m++[a]) (S++[ob]) H:=by
 let p:=YA m [a];let g:∀ {E:List D} {ws:List V},VDs K m H E ws->VDs K (m++[a]) H E ws:=λz=>VDs.mono0 p (λ_ _ t=>t) z;calc{by simp[R.len],Ye.mpr {R.nd,by simp,λx u y j=>by simp at j;subst j;exactλz=>n (z▸u)},λi o e=>?_};by_cases hi:i < S.length
 .rw[Zt hi]at e;let{b,hb,r}:=R.ob i o e;calc{b,l8 p hb,?_};cases o with
  |lst d=>let{v,p,q}:=r;exact{v,p,g q}
  |frz d=>let{o,v,p,q}:=r;exact{o,v,p,g q}
  |dic ks d=>let{v,p,l,q}:=r;exact{v,p,l,g q}
  |tbl T p q=>exact r
  |dfz ks d=>let{o,v,p,l,q}:=r;exact{o,v,p,l,g q}
 .rw[Zp (by lia)]at e
  let c:i - S.length=0:=by
   let:=(Zb.mp e).1;simp at this;lia
  rw[c]at e;let k:ob=o:=by simpa using e
  subst k;calc{a,?_,h};rw[Zp (by rw[R.len];lia),R.len,c];rfl
def Rel.adopt(R:Rel K m S H)(n:a∉m)(h:H a=aw (.lst v))(q:VDs K m H d v):Rel K (m++[a]) (S++[.lst d]) H:=R.adoptP n {v,h,VDs.mono0 (YA m [a]) (λ_ _ t=>t) q}
def Ext.adopt(x:Ext m H m f)(h:H a=aD):Ext m H (m++[a]) f:=
 ⟨YA m [a],x.keep,λb hb nb=>by
  rcases ZR.mp hb with z |z
  .exact absurd z nb
  .simp at z;subst z;exact h⟩
def Rel.write(R:Rel K m S H){i:Nat}(hi:m[i]?=aw a)(q:VDs K m H I v):Ext m H m (upd H a (.lst v))/\Rel K m (S.set i (.lst I)) (upd H a (.lst v)):=by
 let k:a∈m:=Zd hi;let x:Ext m H m (upd H a (.lst v)):={Yp m,λb u e n=>by rw[ae (show b≠a fromλz=>n (by rw[z];exact k))];exact e,λb z n=>absurd z n};calc{x,by simp[R.len],R.nd,λj o e=>?_};rw[YC]at e;by_cases h:i=j
 .subst h;rw[if_pos rfl]at e;split at e
  .let O:=Option.some.inj e;subst O;exact{a,hi,v,az,VDs.mono R x q}
  .cases e
 .rw[if_neg h]at e;let{b,hb,r}:=R.ob j o e
  let ne:b≠a:=λz=>by
   subst z;let B:=Zb.mp hi;let Q:=Zb.mp hb;exact h ((Y1 R.nd).mp (B.2.trans Q.2.symm))
  calc{b,hb,?_};cases o with
  |lst E=>let{c,p,q}:=r;exact{c,by rw[ae ne];exact p,VDs.mono R x q}
  |frz E=>let{o,c,p,q}:=r;exact{o,c,by rw[ae ne];exact p,VDs.mono R x q}
  |dic ks E=>let{c,p,l,q}:=r;exact{c,by rw[ae ne];exact p,l,VDs.mono R x q}
  |tbl T p q=>
   let{e,ps,z}:=r;calc{e,ps,by rw[ae ne];exact z.at_,z.tr,λJ L=>?_};let{C,U,d}:=z.cd J L;exact{C,U,by rw[ae (show C≠a fromλy=>R.notCd d (y.symm▸k))];exact d}
  |dfz ks E=>let{o,c,p,l,q}:=r;exact{o,c,by rw[ae ne];exact p,l,VDs.mono R x q}
def Rel.lst(R:Rel K m S H){i:Nat}(e:S[i]?=aw (.lst d)):∃a vs,m[i]?=aw a/\H a=aw (.lst vs)/\VDs K m H d vs:=by
 let{a,h,vs,p,q}:=R.ob i _ e;exact⟨a,vs,h,p,q⟩
end
abbrev aR(S:Sto)(n:Nat):Option (List D):=match S[n]? with
 |some (.lst ds)=>aw ds
 |some (.frz ds)=>aw ds
 |_=>aD
def Rel.seq{K:VX}{m:List Addr}{S:Sto}{H:Hp}(R:Rel K m S H){i:Nat}{d:List D}(e:aR S i=aw d):∃a vs,m[i]?=aw a/\SqL K H a vs/\VDs K m H d vs:=by
 delta aR at e;cases h:S[i]? with
 |none=>rw[h]at e;cases e
 |some o=>
  rw[h]at e;cases o with
  |lst E=>cases e;let{a,b,vs,p,q}:=R.ob i _ h;exact{a,vs,b,.inl (.inl p),q}
  |frz E=>cases e;let{a,b,o,vs,p,q}:=R.ob i _ h;exact{a,vs,b,.inl (.inr ⟨o,p⟩),q}
  |dic ks E=>cases e
  |tbl T p q=>cases e
  |dfz ks d=>cases e
@[inline]abbrev XE:=Rho->Sto->Option (D×Sto)
@[inline]abbrev XT:=Rho->Sto->Option (Bool×Sto)
@[inline]abbrev XA:=Rho->Sto->Option (List D×Sto)
abbrev bnd{c b:Type}(x:Option (c×Sto))(f:c->Sto->Option (b×Sto)):Option (b×Sto):=match x with
 |none=>aD
 |some (a,S)=>f a S
def ac{c b:Type}{x:Option (c×Sto)}{f:c->Sto->Option (b×Sto)}{r:b×Sto}(h:bnd x f=aw r):∃a S,x=aw (a,S)/\f a S=aw r:=by
 delta bnd at h;cases x with
 |none=>cases h
 |some p=>exact⟨p.1,p.2,rfl,h⟩
structure Aft(K:VX)(m:List Addr)(H:Hp)(S':Sto)(m':List Addr)(H':Hp):Prop where
 ext:Ext m H m' H'
 rel:Rel K m' S' H'
abbrev tE(K:VX)(x:XE):TE:=λj H Q=>∃m f S d c,EnvR K m H f j/\Rel K m S H/\x f S=aw (d,c)/\∀b h v,Aft K m H c b h->VD K b h d v->Q v h
abbrev tT(K:VX)(x:XT):TT:=λj H Q=>∃m d S b c,EnvR K m H d j/\Rel K m S H/\x d S=aw (b,c)/\∀f h,Aft K m H c f h->Q b h
abbrev tAr(K:VX)(x:XA):TA:=λj H Q=>∃m d S f c,EnvR K m H d j/\Rel K m S H/\x d S=aw (f,c)/\∀b h v,Aft K m H c b h->VDs K b h f v->Q v h
abbrev SqB(K:VX)(T:Bool)(H:Hp)(a:Addr)(v:List V):Prop:=if T=aN then H a=aw (.tup v) else SqL K H a v
abbrev ju(K:VX)(x:XA):TE:=λk H Q=>∃m f S j d,EnvR K m H f k/\Rel K m S H/\x f S=aw (j,d)/\∀c h a v,Aft K m H d c h->h a=aw (.lst v)->a∉c->(∀b,b∈m->b≠a)->H a=aD->VDs K c h j v->Q (.ref a) h
section
variable {X:Cx} {e:Expr} {K:VX} {m M c:List Addr} {H j k:Hp} {S l A:Sto}
def PE.imp(h:PE X e t)(f:∀b H Q,t' b H Q->t b H Q):PE X e t':=λp s b H Q I q=>h p s b H Q I (f b H Q q)
def PT.imp(h:PT X e t)(f:∀b H Q,t' b H Q->t b H Q):PT X e t':=λp s b H Q I q=>h p s b H Q I (f b H Q q)
def PA.imp(h:PA X E t)(f:∀d H Q,t' d H Q->t d H Q):PA X E t':=λp b s d H Q I q=>h p b s d H Q I (f d H Q q)
def PS.imp{st:Stmt}{t t':TS}(h:PS X st t)(f:∀D b H,t' D b H->t D b H):PS X st t':=λp s b H D I q=>h p s b H D I (f D b H q)
def PSs.imp{st:List Stmt}{t t':TS}(h:PSs X st t)(f:∀D b H,t' D b H->t D b H):PSs X st t':=λp s b H D I q=>h p s b H D I (f D b H q)
def PI.imp(h:PI X T it t)(f:∀b H Q,t' b H Q->t b H Q):PI X T it t':=λp s b H Q I q=>h p s b H Q I (f b H Q q)
def PI.or(h:PI X T it t)(h':PI X T it t'):PI X T it (λb H Q=>t b H Q\/t' b H Q):=λp s b H Q I q=>q.elim (h p s b H Q I) (h' p s b H Q I)
def OpR.imp(h:OpR X f r)(g:∀x y H Q,r' x y H Q->r x y H Q):OpR X f r':=λp s d H x y v u Q I n b q=>h p s d H x y v u Q I n b (g _ _ _ _ q)
def OpR.or(h:OpR X f r)(h':OpR X f z):OpR X f (λx y H Q=>r x y H Q\/z x y H Q):=λp s d H x y v u Q I n b q=>
 q.elim (h p s d H x y v u Q I n b) (h' p s d H x y v u Q I n b)
def aV.imp(h:aV X f r)(g:∀x H Q,r' x H Q->r x H Q):aV X f r':=λp s b H n u Q I d q=>h p s b H n u Q I d (g _ _ _ q)
def aV.or(h:aV X f r)(h':aV X f v):aV X f (λx H Q=>r x H Q\/v x H Q):=λp s b H n u Q I d q=>
 q.elim (h p s b H n u Q I d) (h' p s b H n u Q I d)
def Aft.refl(R:Rel K m S H):Aft K m H S m H:={Ext.refl m H,R}
def Aft.trans(x:Aft K m H l M j)(y:Aft K M j A c k):Aft K m H A c k:={x.ext.trans y.ext,y.rel}
abbrev rS(K:VX)(f:D->D->Sto->Option (D×Sto)):R2:=λv w H Q=>∃m S a b d p,Rel K m S H/\VD K m H a v/\VD K m H b w/\f a b S=aw (d,p)/\∀n h u,Aft K m H p n h->VD K n h d u->Q u h
abbrev rS1(K:VX)(f:D->Sto->Option (D×Sto)):V->Hp->VK->Prop:=λv H Q=>∃m S a d n,Rel K m S H/\VD K m H a v/\f a S=aw (d,n)/\∀b h u,Aft K m H n b h->VD K b h d u->Q u h
abbrev rSA(K:VX)(f:List D->Sto->Option (D×Sto)):List V->Hp->VK->Prop:=λv H Q=>∃m S b d p,Rel K m S H/\VDs K m H b v/\f b S=aw (d,p)/\∀n h u,Aft K m H p n h->VD K n h d u->Q u h
abbrev rSq(K:VX)(f:Bool->List D->Sto->Option (D×Sto)):V->Hp->VK->Prop:=λv H Q=>∃m S T q a p d n,Rel K m S H/\v = .ref a/\SqB K T H a p/\VDs K m H q p/\f T q S=aw (d,n)/\∀b h u,Aft K m H n b h->VD K b h d u->Q u h
abbrev uc(f:D->D->Sto->Option (D×Sto))(x y:XE):XE:=λd S=>bnd (x d S) λa l=>bnd (y d l) λb A=>f a b A
abbrev xUn(f:D->Sto->Option (D×Sto))(x:XE):XE:=λb S=>bnd (x b S) λa l=>f a l
abbrev m8(f:List D->Sto->Option (D×Sto))(x:XA):XE:=λb S=>bnd (x b S) λa l=>f a l
abbrev lU(f:Bool->List D->Sto->Option (D×Sto))(x:XA):XE:=λb S=>bnd (x b S) λd l=>f aS d l
abbrev ay(d:D)(S:Sto):Option (Bool×List D):=match d with
 |.tup b=>aw (aN,b)
 |.ref n=>(aR S n).map λb=>(aS,b)
 |_=>aD
abbrev ak(f:Bool->List D->Sto->Option (D×Sto))(d:D)(S:Sto):Option (D×Sto):=match ay d S with
 |some r=>f r.1 r.2 S
 |none=>aD
abbrev lV(f:Bool->List D->Sto->Option (D×Sto))(x:XE):XE:=λb S=>bnd (x b S) λd l=>ak f d l
def rD{f:D->D->Sto->Option (D×Sto)}{x y:XE}{z:L2.St}{H:Hp}{Q:VK}(h:tE K (uc f x y) z H Q):tOp (rS K f) (tE K x) (tE K y) z H Q:=by
 let{m,B,S,d,T,E,R,e,q}:=h;let{a,l,C,e}:=ac e;let{b,A,U,e}:=ac e;calc{m,B,S,a,l,E,R,C,λM j v n O=>{M,B,l,b,A,E.mono R n.ext,n.rel,U,λc k w p L=>?_}};exact{c,A,a,b,d,T,p.rel,O.mono n.rel p.ext,L,e,λI J u Y vd=>q I J u ((n.trans p).trans Y) vd}
def Cb{f:D->Sto->Option (D×Sto)}{x:XE}{n:L2.St}{H:Hp}{Q:VK}(h:tE K (xUn f x) n H Q):tUn (rS1 K f) (tE K x) n H Q:=by
 let{m,B,S,d,y,E,R,e,q}:=h;let{a,l,J,e}:=ac e;exact{m,B,S,a,l,E,R,J,λM j v b p=>{M,l,a,d,y,b.rel,p,e,λI C u z vd=>q I C u (b.trans z) vd}}
def Cc{f:List D->Sto->Option (D×Sto)}{x:XA}{n:L2.St}{H:Hp}{Q:VK}(h:tE K (m8 f x) n H Q):tCB (rSA K f) (tAr K x) n H Q:=by
 let{m,B,S,d,y,E,R,e,q}:=h;let{a,l,J,e}:=ac e;exact{m,B,S,a,l,E,R,J,λM j v b p=>{M,l,a,d,y,b.rel,p,e,λI C u z vd=>q I C u (b.trans z) vd}}
def Ml{f:Bool->List D->Sto->Option (D×Sto)}{x:XA}{n:L2.St}{H:Hp}{Q:VK}(h:tE K (lU f x) n H Q):tUn (rSq K f) (ju K x) n H Q:=by
 let{m,C,S,d,y,E,R,e,q}:=h;let{p,l,L,e}:=ac e;exact{m,C,S,p,l,E,R,L,λM j a v b z _ _ _ vd=>{M,l,aS,p,a,v,d,y,b.rel,rfl,show SqL K j a v from SqL.of z,vd,e,λJ I u B vd=>q J I u (b.trans B) vd}}
abbrev z5(i:Nat):XE:=λb S=>match b[i]? with
 |some (aw d)=>aw (d,S)
 |_=>aD
abbrev xC(d:D):XE:=λ_ S=>aw (d,S)
def Mm{i:Nat}(h:tE K (z5 i) f H Q):zG i f H Q:=by
 let{m,n,S,d,u,E,R,e,q}:=h;delta z5 at e;cases b:n[i]? with
 |none=>rw[b]at e;cases e
 |some o=>
  rw[b]at e;cases o with
  |none=>cases e
  |some y=>
   cases e;let{v,p,vd}:=E.at_ i d b;exact{v,p,q m H v (Aft.refl R) vd}
def Cd(b:∀m H,VD K m H d v)(h:tE K (xC d) f H Q):tC v f H Q:=by
 let{m,p,S,u,n,E,R,e,q}:=h;cases e;exact q m H v (Aft.refl R) (b m H)
def kc:VD K m H .non .non:=by rw[VD]
def cp:VD K m H (.bl b) (.bl b):=by rw[VD]
def bg{i:Int}:VD K m H (.int i) (.int i):=by rw[VD]
def m9:VD K m H (.str x) (.str x):=by rw[VD]
def iP(h:H a=aw (.tup v))(q:VDs K m H d v):VD K m H (.tup d) (.ref a):=by rw[VD];exact⟨a,v,rfl,h,q⟩
def VD.ints{i:Int}(h:VD K m H (.int i) v):v = .int i:=by rw[VD]at h;exact h
def VD.bls(h:VD K m H (.bl i) v):v = .bl i:=by rw[VD]at h;exact h
def VD.strs(h:VD K m H (.str i) v):v = .str i:=by rw[VD]at h;exact h
def VD.nons(h:VD K m H .non v):v = .non:=by rw[VD]at h;exact h
def VD.tups(h:VD K m H (.tup d) v):∃a vs,v = .ref a/\H a=aw (.tup vs)/\VDs K m H d vs:=by rw[VD]at h;exact h
def VD.refs{n:Nat}(h:VD K m H (.ref n) v):∃a,m[n]?=aw a/\v = .ref a:=by rw[VD]at h;exact h
abbrev z6:XA:=λ_ S=>aw ([],S)
abbrev yn(x:XE)(y:XA):XA:=λb S=>bnd (x b S) λa l=>bnd (y b l) λd A=>aw (a::d,A)
def Mn(h:tAr K z6 b H Q):ji b H Q:=by
 let{m,f,S,n,d,E,R,e,q}:=h;cases e;exact q m H [] (Aft.refl R) .nil
def Gg{x:XE}{y:XA}{n:L2.St}{H:Hp}{Q:List V->Hp->Prop}(h:tAr K (yn x y) n H Q):cf (tE K x) (tAr K y) n H Q:=by
 let{m,p,S,J,I,E,R,e,q}:=h;let{a,l,C,e}:=ac e;let{b,A,B,e}:=ac e;cases e;calc{m,p,S,a,l,E,R,C,λM j v d z=>{M,p,l,b,_,E.mono R d.ext,d.rel,B,λc k w f u=>?_}};exact q c k _ (d.trans f) (.cons (z.mono d.rel f.ext) u)
abbrev ng(d:List D)(S:Sto):Option (D×Sto):=if d.length<=1000 then aw (.tup d,S) else aD
def nh{n:Nat}(h:n<=1000):n<=sizeLine:=by rw[ZaN];lia
def jv{f:List D}{v:List V}{Q:VK}(R:Rel K m S H)(vd:VDs K m H f v)(q:∀d h u,Aft K m H S d h->VD K d h (.tup f) u->Q u h):∀p,H p=aD->Q (.ref p) (upd H p (.tup v)):=λp b=>
 q m _ _ {Ext.beside R b _,R.beside b _} (iP az (vd.mono R (Ext.beside R b _)))
def rE{f:List D}{v:List V}{Q:VK}(R:Rel K m S H)(vd:VDs K m H f v)(q:∀d b u,Aft K m H (S++[.lst f]) d b->VD K d b (.ref S.length) u->Q u b):∀p,H p=aD->Q (.ref p) (upd H p (.lst v)):=λp h=>by
 let x:=Ext.beside R h (.lst v);calc q (m++[p]) _ _ {x.adopt h,(R.beside h _).adopt (R.no h) az (vd.mono R x)} ?_;rw[VD];exact{p,by rw[Zp (by rw[R.len];exact Zf _),R.len,ZY];rfl,rfl}
def rF{n:List D}{v:List V}{Q:VK}(R:Rel K m S H)(vd:VDs K m H n v)(q:∀f d a v,Aft K m H S f d->d a=aw (.lst v)->a∉f->(∀b,b∈m->b≠a)->H a=aD->VDs K f d n v->Q (.ref a) d):∀p,H p=aD->Q (.ref p) (upd H p (.lst v)):=λp h=>
 q m _ _ _ {Ext.beside R h _,R.beside h _} az (R.no h) (λb hb z=>R.no h (z▸hb)) h (vd.mono R (Ext.beside R h _))
def Mo{x:XA}{d:L2.St}{H:Hp}{Q:VK}(h:tE K (m8 ng x) d H Q):LY (tAr K x) d H Q:=by
 let{m,z,S,L,I,E,R,e,q}:=h;let{a,l,C,e}:=ac e;delta ng at e;split at e
 .rename_i B;cases e;exact{m,z,S,a,_,E,R,C,λM j J b v=>{nh (by rw[<-v.length];exact B),jv b.rel v λy p u f n=>q y p u (b.trans f) n}}
 .cases e
abbrev qo(x:XA):XA:=λb S=>bnd (x b S) λd l=>if d.length<=1000 then aw (d,l) else aD
def Gh{x:XA}{f:L2.St}{H:Hp}{Q:VK}(h:ju K (qo x) f H Q):Rp (tAr K x) f H Q:=by
 let{m,C,S,ds,S',E,R,e,q}:=h;let{a,l,Z,e}:=ac e;split at e
 .rename_i J;cases e;refine{m,C,S,_,_,E,R,Z,λM j vs d v=>{nh (by rw[<-v.length];exact J),rF d.rel v λI B u U T Y L n p z=>?_}}
  let O:H u=aD:=by
   cases e:H u with
   |none=>rfl
   |some o=>
    by_cases y:u∈m
    .exact absurd rfl (n u (d.ext.pre.subset y))
    .let:=d.ext.keep u o e y;rw[this]at p;cases p
  exact q I B u U (d.trans T) Y L (λb hb=>n b (d.ext.pre.subset hb)) O z
 .cases e
def gk{d:D}{v:V}{tu:Bool}{ds:List D}(R:Rel K m S H)(vd:VD K m H d v)(e:ay d S=aw (tu,ds)):∃a vs,v = .ref a/\SqB K tu H a vs/\VDs K m H ds vs:=by
 delta ay at e;cases d with
 |tup f=>
  cases e;let{a,vs,e,q,r}:=vd.tups;exact⟨a,vs,e,q,r⟩
 |ref n=>
  let{a,h,E}:=vd.refs;cases hs:aR S n with
  |none=>simp[hs]at e
  |some f=>
   simp[hs]at e;let{rfl,rfl}:=e;let{b,vs,hb,q,r}:=R.seq hs;rw[h]at hb;cases hb;exact⟨a,vs,E,q,r⟩
 |_=>cases e
def Mp{f:Bool->List D->Sto->Option (D×Sto)}{x:XE}{p:L2.St}{H:Hp}{Q:VK}(h:tE K (lV f x) p H Q):tUn (rSq K f) (tE K x) p H Q:=by
 let{m,J,S,d,z,E,R,e,q}:=h;let{a,l,U,e}:=ac e;calc{m,J,S,a,l,E,R,U,λM j v n y=>?_};delta ak at e;split at e
 .rename_i r hi;let{b,B,T,C,vds}:=gk (tu:=r.1) (ds:=r.2) n.rel y hi;exact{M,l,r.1,r.2,b,B,d,z,n.rel,T,C,vds,e,λO L u I vd=>q O L u (n.trans I) vd}
 .cases e
abbrev fE(x:XA):XE:=λb S=>bnd (x b S) λd l=>aw (.ref l.length,l++[.lst d])
def ud{x:XA}{n:L2.St}{H:Hp}{Q:VK}(h:tE K (fE x) n H Q):ju K x n H Q:=by
 let{m,v,S,d,J,E,R,e,q}:=h;let{B,l,C,e}:=ac e;cases e;calc{m,v,S,B,l,E,R,C,λM j a L f u p I y vd=>?_};refine q (M++[a]) j _ {{f.ext.pre.trans (YA _ _),f.ext.keep,λb hb nb=>?_},f.rel.adopt p u vd} ?_
 .rcases ZR.mp hb with z |z
  .exact f.ext.new b z nb
  .simp at z;subst z;exact y
 .rw[VD];exact{a,by rw[Zp (by rw[f.rel.len];exact Zf _),f.rel.len,ZY];rfl,rfl}
end
abbrev eqL(f:D->D->Option Bool):List D->List D->Option Bool
 |[],[]=>aw aN
 |x::xs,y::ys=>match f x y,eqL f xs ys with
  |some a,aw b=>aw (a && b)
  |_,_=>aD
 |_,_=>aw aS
abbrev eqB:D->D->Option Bool
 |.non,.non=>aw aN
 |.bl a,.bl b=>aw (a == b)
 |.int a,.int b=>aw (a == b)
 |.str a,.str b=>aw (a == b)
 |.bl a,.int b=>aw ((if a then 1 else 0) == b)
 |.int a,.bl b=>aw (a == (if b then 1 else 0))
 |_,_=>aD
abbrev eqD(_:Nat)(S:Sto)(x y:D):Option Bool:=match x,y with
 |.tup xs,.tup ys=>eqL eqB xs ys
 |.ref a,.ref b=>match aR S a,aR S b with
  |some xs,aw ys=>if a=b then aw aN else if xs.length=ys.length then eqL eqB xs ys else aw aS
  |_,_=>aD
 |x,y=>eqB x y
section
variable {X:Cx} {K:VX} {m:List Addr} {H:Hp} {S:Sto}
def ue{f:D->D->Option Bool}:∀ {xs Y:List D} {b:Bool},eqL f xs Y=aw b->∃g:Nat->Bool,(∀j x y,xs[j]?=aw x->Y[j]?=aw y->f x y=aw (g j))/\b=((Zi (min xs.length Y.length)).all g && (xs.length == Y.length))
 |[],[],b,h=>by simp[eqL]at h;exact{λ_=>aN,λj x y e=>by simp at e,by simp[<-h]}
 |[],_::_,b,h=>by simp[eqL]at h;exact{λ_=>aN,λj x y e=>by simp at e,by simp[<-h]}
 |_::_,[],b,h=>by simp[eqL]at h;exact{λ_=>aN,λj x y _ e=>by simp at e,by simp[<-h]}
 |x::xs,y::Y,b,h=>by
  rw[eqL]at h;split at h
  .rename_i a c k p;cases h;let{g,n,q}:=ue p;refine⟨λj=>match j with |0=>a |j+1=>g j,λj u l d E=>?_,?_⟩
   .cases j with
    |zero=>cases d;cases E;exact k
    |succ j=>exact n j u l d E
   .rw[q];simp![Zo,Nat.succ_min_succ,List.range_succ_eq_map,Yt,Xg];rw[Bool.and_assoc,show(xs.length+1 == Y.length+1)=(xs.length == Y.length) by simp];rfl
  .cases h
def yo{c:List V}{its:List Value}{xs:List D}(p:VDs K m H xs c)(r:aJ c its){j:Nat}(l:j < its.toArray.size):∃x v,xs[j]?=aw x/\VD K m H x v/\aE v its.toArray[j]:=by
 let h:j < its.length:=by simpa using l
 let l1:=p.length;let L:=r.length;let{v,f,vd}:=p.get (i:=j) (d:=xs[j]'(by lia)) (gEG _);let{u,b,k}:=r.get f;rw[gEG h]at b;cases b;exact{_,v,gEG (by lia),vd,k}
def Ce{A:Around}{s:Shared}{x y:D}{v w:V}{u U:Value}{b:Bool}(c:VD K m H x v)(d:VD K m H y w)(r1:aE v u)(r2:aE w U)(h:eqB x y=aw b):VS A s u U b/\SeqAt.RcAt A s u U b/\VT A s u U (!b):=by
 delta eqB at h;split at h
 .cases h;cases c.nons;cases d.nons;cases r1;cases r2;exact{.same _,.none_none,.none_none}
 .cases h;cases c.bls;cases d.bls;cases r1;cases r2;exact{.bool_bool _ _,.bool_bool _ _,.bool_bool _ _}
 .cases h;cases c.ints;cases d.ints;let{t,rfl}:=r1;let{T,rfl}:=r2;exact{.int_int _ _ _ _,.int_int _ _ _ _,.int_int _ _ _ _}
 .cases h;cases c.strs;cases d.strs;let{t,rfl}:=r1;let{T,rfl}:=r2;exact{.str_str _ _ _ _,.str_str _ _ _ _,.str_str _ _ _ _}
 .cases h;cases c.bls;cases d.ints;cases r1;let{T,rfl}:=r2;exact{.bool_int _ _ _,.bool_int _ _ _,.bool_int _ _ _}
 .cases h;cases c.ints;cases d.bls;let{t,rfl}:=r1;cases r2;exact{.int_bool _ _ _,.int_bool _ _ _,.int_bool _ _ _}
 .cases h
def uf{s:Shared}{A:Around}{xs Y:List D}{l u:List V}{c I:List Value}{b:Bool}(p:VDs K m H xs l)(q:VDs K m H Y u)(r1:aJ l c)(r2:aJ u I)(h:eqL eqB xs Y=aw b):∃g:Nat->Bool,(∀j (k:j < c.toArray.size) (n:j < I.toArray.size),VS A.in1 s c.toArray[j] I.toArray[j] (g j))/\b=((Zi (min c.toArray.size I.toArray.size)).all g && (c.toArray.size == I.toArray.size)):=by
 let{g,C,hb}:=ue h;calc{g,λj k n=>?_,by rw[hb,Zk,Zk,<-r1.length,<-p.length,<-r2.length,<-q.length]};let{x,v,J,B,d}:=yo p r1 k;let{y,w,E,z,f}:=yo q r2 n;exact(Ce B z d f (C j x y J E)).1
def RD{A:Around}{Q:List (Addr×Obj)}{σ:L2.St}{s:Shared}{x y:D}{v w:V}{u u':Value}{b:Bool}(I:Inv X Q σ H s)(R:Rel X.K m S H)(n:Nat)(E:VD X.K m H x v)(O:VD X.K m H y w)(r1:aE v u)(r2:aE w u')(h:eqD n S x y=aw b)(f:A.units < cLine) :
  SeqAt.RcAt A s u u' b/\VT A s u u' (!b):=by
 delta eqD at h;split at h
 .let{a,vs,rfl,sq,p}:=E.tups;let{a',ws,rfl,C,q}:=O.tups;cases r1;cases r2;let{J,Y,T,_}:=I.tuple (.of sq);let{Z,k2,B,_}:=I.tuple (.of C);let{g,L,rfl}:=uf (s:=s) (A:=A) p q Y k2 h;exact{SeqAt.RcAt.tuples T B f L,PySem.SeqAt.RcNeAt.tuples T B f L}
 .rename_i k k';let{c,hc,rfl}:=E.refs;let{c',U,rfl}:=O.refs;cases r1;cases r2;split at h
  .rename_i es es' hs hs';let{b1,vs,hb,sq,p}:=R.seq hs;rw[hb]at hc;cases hc;let{b2,ws,l,C,q}:=R.seq hs';rw[l]at U;cases U;let{J,Y,T,_}:=I.list sq;let{Z,k2,B,_}:=I.list C;split at h
   .rename_i hk;subst hk;rw[hb]at l;cases l;cases h;let z:=SeqAt.RcAt.lists (A:=A) (e:=λ_=>aN) T.isList T.isList rfl f λj E O=>SeqAt.EqAt.same _;let z':=PySem.SeqAt.RcNeAt.lists (A:=A) (e:=λ_=>aN) T.isList T.isList rfl f λj E O=>SeqAt.EqAt.same _;rw[show(Zi J.toArray.size).all (λ_=>aN)=aN by simp]at z z';exact⟨z,z'⟩
   .let l1:J.toArray.size=es.length:=by rw[Zk,<-Y.length,<-p.length]
    let l2:Z.toArray.size=es'.length:=by rw[Zk,<-k2.length,<-q.length]
    split at h
    .rename_i hl;let{g,L,rfl}:=uf (s:=s) (A:=A) p q Y k2 h;let d:J.toArray.size=Z.toArray.size:=by rw[l1,l2,hl]
     rw[<-d,XV,beq_self_eq_true,WN];exact{SeqAt.RcAt.lists T.isList B.isList d f L,PySem.SeqAt.RcNeAt.lists T.isList B.isList d f L}
    .rename_i hl;cases h;let d:(J.toArray.size != Z.toArray.size)=aN:=by rw[l1,l2];simpa using hl
     exact{SeqAt.RcAt.lists_lengths T.isList B.isList d f,PySem.SeqAt.RcNeAt.lists_lengths T.isList B.isList d f}
  .cases h
 .exact(Ce E O r1 r2 h).2
abbrev eqS(x y:D)(S:Sto):Option (D×Sto):=(eqD 60 S x y).map λb=>(.bl b,S)
abbrev neS(x y:D)(S:Sto):Option (D×Sto):=(eqD 60 S x y).map λb=>(.bl (!b),S)
def pX{x y:D}{b:Bool}(h:eqD 60 S x y=aw b):neS x y S=aw (.bl (!b),S):=by delta neS;rw[h];rfl
def Mq(B:X.A.units+64 < cLine):OpR X (Zaj .Eq) (rS X.K eqS):=by
 intro p s z H x y v u Q I n k h;let{m,S,a,b,d,C,R,j,f,e,q}:=h;let{c,l,e}:=ZE.mp e;cases e;exact(RD I R 60 j f n k l (by lia)).1 _ _ _ _ {.bl c,H,I,rfl,q m H _ (Aft.refl R) cp}
def Mr(B:X.A.units+64 < cLine):OpR X (Zaj .NotEq) (rS X.K neS):=by
 intro p s z H x y v u Q I n k h;let{m,S,a,b,d,C,R,j,f,e,q}:=h;let{c,l,e}:=ZE.mp e;cases e;exact(RD I R 60 j f n k l (by lia)).2 _ _ _ _ {.bl (!c),H,I,rfl,q m H _ (Aft.refl R) cp}
end
abbrev ff:List D->Option (List Key)
 |[]=>aw []
 |.int i::ds=>(ff ds).map (.inl i::·)
 |.str x::ds=>(ff ds).map (.inr x::·)
 |_=>aD
abbrev z7:D->Option NK
 |.non=>aw .non
 |.int i=>aw (.one (.inl i))
 |.str x=>aw (.one (.inr x))
 |.tup ds=>(ff ds).map .tup
 |_=>aD
abbrev kR:List D->Option (List NK)
 |[]=>aw []
 |d::ds=>match z7 d,kR ds with
  |some k,aw ks=>aw (k::ks)
  |_,_=>aD
abbrev lW:D->Option (List NK)
 |.tup ds=>kR ds
 |_=>aD
abbrev atD:List (List NK)->List D->List NK->Option D
 |a::kss,d::ds,k=>if a=k then aw d else atD kss ds k
 |_,_,_=>aD
abbrev gm(k:List NK)(v:D):List (List NK)->List D->List D
 |a::kss,d::ds=>(if a=k then v else d)::gm k v kss ds
 |_,_=>[]
section
variable {K:VX} {m:List Addr} {H:Hp} {S:Sto}
def ni:∀ {d:List D} {ks:List Key} {b:List V},ff d=aw ks->VDs K m H d b->b=ks.map kV
 |[],_,_,e,h=>by cases e;rw[VDs]at h;exact h
 |.int i::d,ks,b,e,h=>by
  simp![ff]at e;let{k,E,rfl}:=ZE.mp e;rw[VDs]at h;let{v,r,rfl,c,f}:=h;rw[c.ints,ni E f];rfl
 |.str x::d,ks,b,e,h=>by
  simp![ff]at e;let{k,E,rfl}:=ZE.mp e;rw[VDs]at h;let{v,r,rfl,c,f}:=h;rw[c.strs,ni E f];rfl
 |.non::_,_,_,e,_=>by simp[ff]at e
 |.bl _::_,_,_,e,_=>by simp[ff]at e
 |.tup _::_,_,_,e,_=>by simp[ff]at e
 |.ref _::_,_,_,e,_=>by simp[ff]at e
def Gi{d:D}{k:NK}{v:V}(e:z7 d=aw k)(h:VD K m H d v):vZ H k v:=by
 cases d with
 |non=>cases e;exact h.nons
 |int i=>cases e;exact h.ints
 |str x=>cases e;exact h.strs
 |tup f=>
  simp![z7]at e;let{ks,E,rfl}:=ZE.mp e;let{a,c,rfl,b,q}:=h.tups;exact{a,rfl,by rw[<-ni E q];exact b}
 |_=>cases e
def ug:∀ {c:List D} {ks:List NK} {b:List V},kR c=aw ks->VDs K m H c b->Paired (vZ H) ks b
 |[],_,_,e,h=>by cases e;rw[VDs]at h;subst h;exact .nil
 |d::c,ks,b,e,h=>by
  rw[VDs]at h;let{v,r,rfl,j,l}:=h;simp![kR]at e;split at e
  .rename_i k f n E;cases e;exact .cons (Gi n j) (ug E l)
  .cases e
def rG{d:D}{ks:List NK}{v:V}(e:lW d=aw ks)(h:VD K m H d v):∃a,v = .ref a/\iH H ks a:=by
 cases d with
 |tup f=>
  let{a,c,rfl,b,q}:=h.tups;exact{a,rfl,c,b,ug e q}
 |_=>cases e
def Rel.dic(R:Rel K m S H){n:Nat}{k:List (List NK)}{d:List D}{x:V}(c:S[n]?=aw (.dic k d))(v:VD K m H (.ref n) x):∃a vs,x = .ref a/\m[n]?=aw a/\H a=aw (.dT (k.zip vs))/\k.length=d.length/\VDs K m H d vs:=by
 let{a,b,vs,f,j,l}:=R.ob n _ c;let{p,h,rfl}:=v.refs;rw[b]at h;cases h;exact⟨a,vs,rfl,b,f,j,l⟩
def Rel.dicR(R:Rel K m S H){n:Nat}{k:List (List NK)}{d:List D}{x:V}(hn:S[n]?=aw (.dic k d)\/S[n]?=aw (.dfz k d))(v:VD K m H (.ref n) x):∃a vs,x = .ref a/\m[n]?=aw a/\Rd H a (.dT (k.zip vs))/\k.length=d.length/\VDs K m H d vs:=by
 rcases hn with hn |hn
 .let{a,vs,q,p,j,E}:=R.dic hn v;exact{a,vs,q,p,.inl j,E}
 .let{a,b,o,vs,c,f,l}:=R.ob n _ hn;let{u,h,rfl}:=v.refs;rw[b]at h;cases h;exact{a,vs,rfl,b,.inr ⟨o,c⟩,f.1,l}
def rH:∀ {b:List (List NK)} {c:List D} {f:List V} {k:List NK},b.length=c.length->VDs K m H c f->atD b c k=aD->j6 (b.zip f) k=aD/\k∉b
 |[],_,_,_,_,_,_=>{rfl,by simp}
 |a::b,d::c,f,k,hl,h,e=>by
  rw[VDs]at h;let{v,r,rfl,n,l}:=h;simp![atD]at e;split at e
  .cases e
  .rename_i ne;let{j,I}:=rH (by simpa using hl) l e;calc{?_,λz=>(Zn.mp z).elim (λz=>ne z.symm) I};rw[Yg,gg ne];exact j
 |_::_,[],_,_,hl,_,_=>by simp at hl
def l9:∀ {b:List (List NK)} {f:List D} {c:List V} {k:List NK} {d:D},VDs K m H f c->atD b f k=aw d->∃v,j6 (b.zip c) k=aw v/\VD K m H d v
 |[],_,_,_,_,_,e=>by simp[atD]at e
 |a::b,d::f,c,k,d',h,e=>by
  rw[VDs]at h;let{v,r,rfl,j,l}:=h;simp![atD]at e;rw[Yg];split at e
  .rename_i eq;cases e;exact{v,jp eq,j}
  .rename_i ne;rw[gg ne];exact l9 l e
 |_::_,[],_,_,_,_,e=>by simp[atD]at e
abbrev inK(neg:Bool)(x y:D)(S:Sto):Option (D×Sto):=match lW x,y with
 | some k,.ref n=>(match S[n]? with
  |some (.dic kss ds)=>aw (.bl (neg != (atD kss ds k).isSome),S)
  | _=>aD)
 |_,_=>aD
def uh{neg:Bool}{x y d:D}{f:Sto}(e:inK neg x y S=aw (d,f)):∃k n b c,lW x=aw k/\y = .ref n/\S[n]?=aw (.dic b c)/\d = .bl (neg != (atD b c k).isSome)/\f=S:=by
 delta inK at e;split at e
 .rename_i k n j;split at e
  .rename_i b c h;cases e;exact⟨k,n,b,c,j,rfl,h,rfl,rfl⟩
  .cases e
 .cases e
def rJ(R:Rel K m S H){n:Nat}{c:List (List NK)}{f:List D}{x y:D}{k:List NK}{u v:V}(I:lW x=aw k)(j:S[n]?=aw (.dic c f)\/S[n]?=aw (.dfz c f))(p:VD K m H x u)(z:VD K m H (.ref n) v):∃a b,v = .ref a/\u = .ref b/\∃o,B0 H a (.ref b) o/\o.isSome=(atD c f k).isSome/\∀d,atD c f k=aw d->∃w,o=aw w/\VD K m H d w:=by
 let{b,rfl,l}:=rG I p;let{a,q,rfl,_,B,C,vds}:=R.dicR j z;refine{a,b,rfl,rfl,j6 (c.zip q) k,.inr ⟨_,k,b,B,rfl,l,rfl⟩,?_,λd e=>?_}
 .cases e:atD c f k with
  |none=>rw[(rH C vds e).1];rfl
  |some d=>let{w,E,_}:=l9 vds e;rw[E];rfl
 .let{w,E,h}:=l9 vds e;exact⟨w,E,h⟩
abbrev ixK(d y:D)(S:Sto):Option (D×Sto):=match lW y,d with
 | some k,.ref n=>(match S[n]? with
  |some (.dic kss ds)=>(atD kss ds k).map λv=>(v,S)
  |some (.dfz kss ds)=>(atD kss ds k).map λv=>(v,S)
  | _=>aD)
 |_,_=>aD
def Cf{x y d:D}{j:Sto}(e:ixK x y S=aw (d,j)):∃k n b c,lW y=aw k/\x = .ref n/\(S[n]?=aw (.dic b c)\/S[n]?=aw (.dfz b c))/\atD b c k=aw d/\j=S:=by
 delta ixK at e;split at e
 .rename_i k n l;split at e
  .rename_i b c h;let{v,f,E}:=ZE.mp e;cases E;exact{k,n,b,c,l,rfl,.inl h,f,rfl}
  .rename_i b c h;let{v,f,E}:=ZE.mp e;cases E;exact{k,n,b,c,l,rfl,.inr h,f,rfl}
  .cases e
 .cases e
abbrev Cg(o y v:D)(S:Sto):Option Sto:=match lW y,o with
 | some k,.ref n=>(match S[n]? with
  |some (.dic kss ds)=>if kss.length < 100000 then aw (if (atD kss ds k).isSome=aN then S.set n (.dic kss (gm k v kss ds)) else S.set n (.dic (kss++[k]) (ds++[v]))) else aD
  | _=>aD)
 |_,_=>aD
def z8{o y v:D}{c:Sto}(e:Cg o y v S=aw c):∃k n b d,lW y=aw k/\o = .ref n/\S[n]?=aw (.dic b d)/\b.length < 100000/\c=if (atD b d k).isSome=aN then S.set n (.dic b (gm k v b d)) else S.set n (.dic (b++[k]) (d++[v])):=by
 delta Cg at e;split at e
 .rename_i k n j;split at e
  .rename_i b d h;split at e
   .rename_i f;exact{k,n,b,d,j,rfl,h,f,(Option.some.inj e).symm}
   .cases e
  .cases e
 .cases e
def Ch{k:List NK}{v:D}{w:V}(n:VD K m H v w):∀ {b:List (List NK)} {j:List D} {f:List V},b.length=j.length->VDs K m H j f->∃c,(b.zip f).map (λl=>if l.1=k then (l.1,w) else l)=b.zip c/\VDs K m H (gm k v b j) c
 |[],[],f,_,h=>{[],by simp,by simp![gm];rw[VDs]}
 |[],_::_,_,hl,_=>by simp at hl
 |_::_,[],_,hl,_=>by simp at hl
 |a::b,d::j,f,hl,h=>by
  rw[VDs]at h;let{u,r,rfl,p,q}:=h;let{c,y,E}:=Ch n (by simpa using hl) q;rw[Yg,Zy,y];simp![gm];by_cases e:a=k
  .rw[if_pos e,if_pos e];exact{w::c,by rw[Yg],.cons n E}
  .rw[if_neg e,if_neg e];exact{u::c,by rw[Yg],.cons p E}
def rK{k:List NK}{v:D}:∀ {b:List (List NK)} {c:List D},b.length=c.length->b.length=(gm k v b c).length
 |[],[],_=>rfl
 |[],_::_,hl=>by simp at hl
 |_::_,[],hl=>by simp at hl
 |a::b,d::c,hl=>by simp![gm,Zo];rw[rK (by simpa using hl)]
def Rel.writeD(R:Rel K m S H){i:Nat}{a:Addr}{k:List (List NK)}{d:List D}{v:List V}(hi:m[i]?=aw a)(hl:k.length=d.length)(q:VDs K m H d v):Aft K m H (S.set i (.dic k d)) m (upd H a (.dT (k.zip v))):=by
 let B:a∈m:=Zd hi;let x:Ext m H m (upd H a (.dT (k.zip v))):={Yp m,λb u e n=>by rw[ae (show b≠a fromλz=>n (by rw[z];exact B))];exact e,λb z n=>absurd z n};calc{x,by simp[R.len],R.nd,λj o e=>?_};rw[YC]at e;by_cases h:i=j
 .subst h;rw[if_pos rfl]at e;split at e
  .let O:=Option.some.inj e;subst O;exact{a,hi,v,az,hl,VDs.mono R x q}
  .cases e
 .rw[if_neg h]at e;let{b,hb,r}:=R.ob j o e
  let ne:b≠a:=λz=>by
   subst z;let I:=Zb.mp hi;let Q:=Zb.mp hb;exact h ((Y1 R.nd).mp (I.2.trans Q.2.symm))
  calc{b,hb,?_};cases o with
  |lst E=>let{c,p,q}:=r;exact{c,by rw[ae ne];exact p,VDs.mono R x q}
  |frz E=>let{o,c,p,q}:=r;exact{o,c,by rw[ae ne];exact p,VDs.mono R x q}
  |dic ks E=>let{c,p,l,q}:=r;exact{c,by rw[ae ne];exact p,l,VDs.mono R x q}
  |tbl T p q=>
   let{e,ps,z}:=r;calc{e,ps,by rw[ae ne];exact z.at_,z.tr,λJ L=>?_};let{C,U,f}:=z.cd J L;exact{C,U,by rw[ae (show C≠a fromλy=>R.notCd f (y.symm▸B))];exact f}
  |dfz ks E=>let{o,c,p,l,q}:=r;exact{o,c,by rw[ae ne];exact p,l,VDs.mono R x q}
def Gj(R:Rel K m S H){n:Nat}{f:List (List NK)}{h:List D}{y v:D}{k:List NK}{u o w:V}(E:lW y=aw k)(T:S[n]?=aw (.dic f h))(Y:f.length < 100000)(U:VD K m H y u)(J:VD K m H (.ref n) o)(q:VD K m H v w) :
  ∃a b H',o = .ref a/\u = .ref b/\RB H a (.ref b) w H'/\Aft K m H (if (atD f h k).isSome=aN then S.set n (.dic f (gm k v f h)) else S.set n (.dic (f++[k]) (h++[v]))) m H':=by
 let{b,rfl,B}:=rG E U;let{a,j,rfl,z,L,l,vds}:=R.dic T J;let p:f.length=j.length:=by rw[l,vds.length]
 let I:(f.zip j).length < sizeLine:=by rw[Xx,ZaN];lia
 refine{a,b,_,rfl,rfl,.inr ⟨_,k,b,L,rfl,B,I,rfl⟩,?_}
 let any:((f.zip j).any λC=>decide (C.1=k))=(atD f h k).isSome:=by
  rw[mX];cases e:atD f h k with
  |none=>rw[(rH l vds e).1];rfl
  |some d=>let{w,O,_}:=l9 vds e;rw[O];rfl
 delta mW;rw[any];by_cases c:(atD f h k).isSome=aN
 .rw[if_pos c,if_pos c];let{Z,X,Q}:=Ch q l vds;rw[X];exact R.writeD z (rK l) Q
 .rw[if_neg c,if_neg c];let e:f.zip j++[(k,w)]=(f++[k]).zip (j++[w]):=by rw[List.zip_append p];rfl
  rw[e];exact R.writeD z (by rw[Ze,Ze,l];rfl) (vds.append (.cons q .nil))
end
abbrev Ms(a b:Nat)(S:Sto):Option (D×Sto):=match S[a]? with
 | some (.lst xs)=>(match S[b]? with
  |some (.lst ys)=>if xs.length+ys.length<=100000 then aw (.ref S.length,S++[.lst (xs++ys)]) else aD
  | _=>aD)
 |_=>aD
abbrev lX:D->D->Sto->Option (D×Sto)
 |.int i,.int j,S=>aw (.int (i+j),S)
 |.tup xs,.tup ys,S=>if xs.length+ys.length<=1000 then aw (.tup (xs++ys),S) else aD
 |.ref a,.ref b,S=>Ms a b S
 |.str x,.str y,S=>if x.length+y.length<=100000 then aw (.str (x++y),S) else aD
 |_,_,_=>aD
abbrev RE:D->D->Sto->Option (D×Sto)
 |.int i,.int j,S=>aw (.int (i - j),S)
 |_,_,_=>aD
abbrev jw(i j:Int):Bool:=(decide (-(2 ^ 64) < i) && decide (i < 2 ^ 64)) || (decide (-(2 ^ 64) < j) && decide (j < 2 ^ 64))
abbrev z9:D->D->Sto->Option (D×Sto)
 |.int i,.int j,S=>if jw i j=aN then aw (.int (i * j),S) else aD
 |_,_,_=>aD
abbrev Mu:D->D->Sto->Option (D×Sto)
 |.int i,.int j,S=>if 0 < j then aw (.int (i % j),S) else aD
 |_,_,_=>aD
abbrev Ci:D->D->Sto->Option (D×Sto)
 |.int i,.int j,S=>if 0 < j/\j < 1298074214633706907132624082305024 then aw (.int (i / j),S) else aD
 |_,_,_=>aD
abbrev Mv:D->D->Sto->Option (D×Sto)
 |.int i,.int j,S=>if 0<=j/\j<=1000000/\i.natAbs < 2 ^ 64 then aw (.int (i ^ j.toNat),S) else aD
 |_,_,_=>aD
inductive BOp where |add |sub |mul |mod |fdiv |pow
abbrev bX:BOp->D->D->Sto->Option (D×Sto)
 |.add=>lX |.sub=>RE |.mul=>z9 |.mod=>Mu |.fdiv=>Ci |.pow=>Mv
abbrev BOp.op:BOp->VM
 |.add=>.Add |.sub=>.Sub |.mul=>.Mult |.mod=>.Mod |.fdiv=>.FloorDiv |.pow=>.Pow
section
variable {X:Cx} {K:VX} {m:List Addr} {H:Hp} {S:Sto}
def hV{op:VM}{f:D->D->Sto->Option (D×Sto)}{C:Int->Int->Prop}{g:Int->Int->Int}(n:OpR X (OS op) (rI C λi j=>.int (g i j)))
  (l:∀a b S d k,f a b S=aw (d,k)->∃i j,a = .int i/\b = .int j/\C i j/\d = .int (g i j)/\k=S):OpR X (OS op) (rS X.K f):=by
 calc OpR.imp n λx y H Q h=>?_;let{m,S,a,b,d,k,R,p,v,e,q}:=h;let{i,j,rfl,rfl,c,rfl,rfl}:=l _ _ _ _ _ e;exact{i,j,p.ints,v.ints,c,q m H _ (Aft.refl R) bg}
def wy:OpR X (OS .Add) (λx y H Q=>∃m S xs Y,Rel X.K m S H/\VD X.K m H (.tup xs) x/\VD X.K m H (.tup Y) y/\xs.length+Y.length<=1000/\∀f c u,Aft X.K m H S f c->VD X.K f c (.tup (xs++Y)) u->Q u c):=by
 calc OpR.imp F8 λx y H Q h=>?_;let{m,S,xs,Y,R,j,v,B,q}:=h;let{a,n,rfl,sa,d}:=j.tups;let{b,z,rfl,p,k}:=v.tups;let l1:=d.length;let l:=k.length;refine{a,b,n,z,rfl,rfl,.of sa,.of p,nh (by lia),λe=>?_,λ_ e=>?_,λ_ _=>jv R (d.append k) q}
 .subst e;let e:xs=[]:=Z1.mp (by simpa using l1);subst e;exact q m H _ (Aft.refl R) v
 .subst e;let e:Y=[]:=Z1.mp (by simpa using l);subst e;rw[Z8]at q;exact q m H _ (Aft.refl R) j
def Gk:OpR X (OS .Add) (rS X.K lX):=by
 calc OpR.imp (OpR.or LQ (OpR.or wy (OpR.or wb L9))) λx y H Q h=>?_;let{m,S,a,b,d,S',R,l,v,e,q}:=h;cases a with
 |int i=>
  cases b with
  |int j=>cases e;exact .inl {i,j,l.ints,v.ints,q m H _ (Aft.refl R) bg}
  |_=>simp[lX]at e
 |tup z=>
  cases b with
  |tup Y=>
   simp![lX]at e;split at e
   .rename_i n;cases e;exact .inr (.inl ⟨m,S,z,Y,R,l,v,n,q⟩)
   .cases e
  |_=>simp[lX]at e
 |str i=>
  cases b with
  |str j=>
   simp![lX]at e;split at e
   .rename_i n;cases e;exact .inr (.inr (.inl {i,j,l.strs,v.strs,by rw[ZaN];lia,q m H _ (Aft.refl R) m9}))
   .cases e
  |_=>simp[lX]at e
 |ref i=>
  cases b with
  |ref j=>
   simp![lX,Ms]at e;split at e
   .rename_i z B;split at e
    .rename_i Y C;split at e
     .rename_i n;cases e;let{a,E,O,L,p}:=R.lst B;let{c,I,T,J,u}:=R.lst C;let{a',f,Z}:=l.refs;let{c',k,U}:=v.refs;rw[O]at f;cases f;rw[T]at k;cases k;exact .inr (.inr (.inr {a,c,E,I,Z,U,L,J,by rw[ZaN,<-p.length,<-u.length];lia,rE R (p.append u) q}))
     .cases e
    .cases e
   .cases e
  |_=>simp[lX]at e
 |_=>cases b <;> simp[lX]at e
def Gm:OpR X (OS .Mult) (rS X.K z9):=by
 calc OpR.imp LS λx y H Q h=>?_;let{m,S,a,b,d,k,R,f,v,e,q}:=h;cases a with
 |int i=>
  cases b with
  |int j=>
   simp![z9]at e;split at e
   .rename_i c;cases e;simp![jw,Xb,bAE,decide_eq_true_eq]at c;exact{i,j,f.ints,v.ints,c,q m H _ (Aft.refl R) bg}
   .cases e
  |_=>simp[z9]at e
 |_=>cases b <;> simp[z9]at e
def Cj:OpR X (OS .FloorDiv) (rI (λ_ j=>0 < j/\j < 1298074214633706907132624082305024) λi j=>.int (i / j)):=opI λi j _ _ _ _ _ h q=>by
 let c:(0:Int) < j:=h.1;let d:j < 1298074214633706907132624082305024:=h.2
 exact floordiv_int (by lia) (by rw[Int.fdiv_eq_ediv_of_nonneg i (by lia)];exact q) (.inl (PyProof.noPylong_of_log2 (by
  let b:j.natAbs≠0:=by lia
  let:j.natAbs.log2 < 110:=(WV b).mpr (by lia)
  lia)))
def Gn(o:BOp):OpR X (OS o.op) (rS X.K (bX o)):=by
 cases o with
 |add=>exact Gk
 |sub=>
  calc hV (C:=λ_ _=>True) (g:=λi j=>i - j) (OpR.imp LR λx y H Q ⟨i,j,a,b,_,q⟩=>⟨i,j,a,b,q⟩) λa b S d c e=>?_;cases a <;> cases b <;> simp[bX,RE]at e;exact⟨_,_,rfl,rfl,trivial,e.1.symm,e.2.symm⟩
 |mul=>exact Gm
 |mod=>
  calc hV LU λa b S d c e=>?_;cases a <;> cases b <;> simp[bX,Mu]at e;rename_i i j;exact⟨i,j,rfl,rfl,e.1,e.2.1.symm,e.2.2.symm⟩
 |fdiv=>
  calc hV Cj λa b S d c e=>?_;cases a <;> cases b <;> simp[bX,Ci]at e;rename_i i j;exact⟨i,j,rfl,rfl,e.1,e.2.1.symm,e.2.2.symm⟩
 |pow=>
  calc hV LV λa b S d c e=>?_;cases a <;> cases b <;> simp[bX,Mv]at e;rename_i i j;exact⟨i,j,rfl,rfl,e.1,e.2.1.symm,e.2.2.symm⟩
abbrev Aa(p:Int->Int->Bool):D->D->Sto->Option (D×Sto)
 |.int i,.int j,S=>aw (.bl (p i j),S)
 |_,_,_=>aD
abbrev Ku:D->Bool
 |.non=>aN
 |_=>aS
abbrev isB(neg:Bool):D->D->Sto->Option (D×Sto)
 |d,.non,S=>aw (.bl (neg != Ku d),S)
 |.bl a,.bl b,S=>aw (.bl (neg != (a == b)),S)
 |_,_,_=>aD
abbrev cN:D->Bool
 |.non=>aN |.bl _=>aN |.int _=>aN |.str _=>aN |_=>aS
abbrev eqF:D->D->Bool
 |.non,.non=>aN
 |.bl a,.bl b=>a == b
 |.bl a,.int b=>(if a then 1 else 0) == b
 |.int a,.bl b=>a == (if b then 1 else 0)
 |.int a,.int b=>a == b
 |.str a,.str b=>a == b
 |_,_=>aS
abbrev inF(x:D)(d:List D):Bool:=d.any λy=>eqF y x
abbrev inS(neg:Bool)(x y:D)(S:Sto):Option (D×Sto):=match ay y S with
 |some (_,ds)=>if cN x=aN/\ds.all cN=aN then aw (.bl (neg != inF x ds),S) else aD
 |none=>inK neg x y S
inductive COp where |eq |ne |lt |le |gt |ge |is |t |s |o
abbrev ao:COp->D->D->Sto->Option (D×Sto)
 |.eq=>eqS |.ne=>neS
 |.lt=>Aa λi j=>decide (i < j) |.le=>Aa λi j=>decide (i<=j) |.gt=>Aa λi j=>decide (j < i) |.ge=>Aa λi j=>decide (j<=i)
 |.is=>isB aS |.t=>isB aN |.s=>inS aS |.o=>inS aN
abbrev COp.op:COp->CmpOp
 |.eq=>.Eq |.ne=>.NotEq |.lt=>.Lt |.le=>.LtE |.gt=>.Gt |.ge=>.GtE |.is=>.Is |.t=>.IsNot |.s=>.In |.o=>.NotIn
def fF(c:OpR X (Zaj op) (rI0 λi j=>.bl (p i j))):OpR X (Zaj op) (rS X.K (Aa p)):=by
 calc OpR.imp c λx y H Q h=>?_;let{m,S,a,b,d,k,R,f,v,e,q}:=h;cases a <;> cases b <;> simp[Aa]at e;let{rfl,rfl}:=e;exact{_,_,f.ints,v.ints,q m H _ (Aft.refl R) cp}
def ma(h:VD K m H x v)(f:cN x=aN):dU v=aN:=by
 cases x <;> simp[cN]at f
 .cases h.nons;rfl
 .cases h.bls;rfl
 .cases h.ints;rfl
 .cases h.strs;rfl
def Ck(h:VD K m H x v)(f:cN x=aN)(h':VD K m H y w)(b:cN y=aN):eqV v w=eqF x y:=by
 cases x <;> simp[cN]at f <;> cases y <;> simp[cN]at b <;> simp[VD]at h h' <;> subst h <;> subst h' <;> rfl
def jx:∀ {b:List D} {v:List V},VDs K m H b v->b.all cN=aN->v.all dU=aN
 |[],v,h,_=>by rw[VDs]at h;rw[h];rfl
 |d::b,v,h,f=>by
  rw[VDs]at h;let{x,r,rfl,p,q}:=h;rw[Yt,bAE]at f;rw[Yt,ma p f.1,jx q f.2];rfl
def wz(h:VD K m H x v)(f:cN x=aN):∀ {c:List D} {b:List V},VDs K m H c b->c.all cN=aN->inV v b=inF x c
 |[],b,h,_=>by rw[VDs]at h;rw[h];rfl
 |d::c,b,h',f'=>by
  rw[VDs]at h';let{y,r,rfl,p,q}:=h';rw[Yt,bAE]at f';let I:=wz h f q f'.2;delta inV inF at I ⊢;rw[Yu,Yu,Ck p f'.1 h f,I]
def qp(h:VD K m H x v)(f:cN x=aN):∀ {c:List D} {b:List V},VDs K m H c b->c.all cN=aN->(b.countP λz=>eqV z v)=c.countP λz=>eqF z x
 |[],b,h,_=>by rw[VDs]at h;rw[h];rfl
 |d::c,b,h',f'=>by
  rw[VDs]at h';let{y,r,rfl,p,q}:=h';rw[Yt,bAE]at f';rw[Xo,Xo,Ck p f'.1 h f,qp h f q f'.2]
def rL(h:SqB K T H a vs):SqL K H a vs\/SqT K H a vs:=by
 cases T with
 |false=>exact .inl h
 |true=>exact .inr (.of h)
def Mw(hu:X.A.units+64 < cLine):OpR X (Zaj .In) (rS X.K (inS aS)):=by
 intro c s E H x y v u Q I B z h;let{m,S,a,b,d,S',R,j,l,e,q}:=h;delta inS at e;split at e
 .rename_i tu L hi;let{p,J,rfl,Z,vds}:=gk R l hi;split at e
  .rename_i f;cases e;calc zP c s E H x _ v u Q I B z {p,J,rfl,rL Z,ma j f.1,jx vds f.2,q m H _ (Aft.refl R) ?_};rw[if_neg (by decide),wz j f.1 vds f.2]
   simpa using cp
  .cases e
 .let{k,n,C,L,O,rfl,Y,rfl,rfl}:=uh e;let{a,b,rfl,rfl,o,g,U,_}:=rJ (y:=.ref n) R O (.inl Y) j l;cases z;calc UC (show X.A.units+2 < cLine by lia) I g B λs' T=>{.bl _,H,T,rfl,?_};rw[U];exact q m H _ (Aft.refl R) (by simpa using cp)
def Ab(hu:X.A.units+64 < cLine):OpR X (Zaj .NotIn) (rS X.K (inS aN)):=by
 intro c s E H x y v u Q I B z h;let{m,S,a,b,d,S',R,j,l,e,q}:=h;delta inS at e;split at e
 .rename_i tu L hi;let{p,J,rfl,Z,vds}:=gk R l hi;split at e
  .rename_i f;cases e;calc rj c s E H x _ v u Q I B z {p,J,rfl,rL Z,ma j f.1,jx vds f.2,q m H _ (Aft.refl R) ?_};rw[if_pos rfl,wz j f.1 vds f.2]
   simpa using cp
  .cases e
 .let{k,n,C,L,O,rfl,Y,rfl,rfl}:=uh e;let{a,b,rfl,rfl,o,g,U,_}:=rJ (y:=.ref n) R O (.inl Y) j l;cases z;calc Ga (show X.A.units+2 < cLine by lia) I g B λs' T=>{.bl _,H,T,rfl,?_};rw[U];exact q m H _ (Aft.refl R) (by simpa using cp)
def Cm(h:VD K m H d v):decide (v=V.non)=Ku d:=by
 cases d with
 |non=>cases h.nons;rfl
 |bl _=>cases h.bls;rfl
 |int _=>cases h.ints;rfl
 |str _=>cases h.strs;rfl
 |tup _=>let{_,_,e,_}:=h.tups;subst e;rfl
 |ref _=>let{_,_,e}:=h.refs;subst e;rfl
def Mx:OpR X (Zaj .Is) (rS X.K (isB aS)):=by
 calc OpR.imp (OpR.or LW Mb) λx y H Q h=>?_;let{m,S,a,b,d,f,R,c,v,e,q}:=h;cases b with
 |non=>
  simp[isB]at e;let{rfl,rfl}:=e;exact .inl {v.nons,q m H _ (Aft.refl R) (by rw[Cm c];exact cp)}
 |bl j=>
  cases a with
  |bl i=>
   simp[isB]at e;let{rfl,rfl}:=e;exact .inr {i,j,c.bls,v.bls,q m H _ (Aft.refl R) cp}
  |_=>simp[isB]at e
 |_=>cases a <;> simp[isB]at e
def Ac:OpR X (Zaj .IsNot) (rS X.K (isB aN)):=by
 calc OpR.imp (OpR.or FN zX) λx y H Q h=>?_;let{m,S,a,b,d,f,R,c,v,e,q}:=h;cases b with
 |non=>
  simp[isB]at e;let{rfl,rfl}:=e;exact .inl {v.nons,q m H _ (Aft.refl R) (by rw[Cm c];exact cp)}
 |bl j=>
  cases a with
  |bl i=>
   simp[isB]at e;let{rfl,rfl}:=e;exact .inr {i,j,c.bls,v.bls,q m H _ (Aft.refl R) (by simpa[bne] using cp)}
  |_=>simp[isB]at e
 |_=>cases a <;> simp[isB]at e
def hX(h:X.A.units+64 < cLine)(o:COp):OpR X (Zaj o.op) (rS X.K (ao o)):=by
 cases o with
 |eq=>exact Mq h
 |ne=>exact Mr h
 |lt=>exact fF Rk
 |le=>exact fF Rm
 |gt=>exact fF Rn
 |ge=>exact fF Ro
 |is=>exact Mx
 |t=>exact Ac
 |s=>exact Mw h
 |o=>exact Ab h
end
section
variable {X:Cx} {K:VX} {m:List Addr} {H:Hp} {S:Sto}
abbrev ixS(d i:D)(S:Sto):Option (D×Sto):=match i with
 | .int k=>(match d with
  |.str z=>if z.length<=100000 then (atI z.cps.toList k).map λc=>(.str ⟨#[c]⟩,S) else aD
  | d=>(match ay d S with
   |some (_,ds)=>(atI ds k).map λx=>(x,S)
   | none=>aD))
 |i=>ixK d i S
def My{k:Int}(h:VDs K m H b c)(e:atI b k=aw d):∃v,atI c k=aw v/\VD K m H d v:=by
 delta atI at e ⊢;rw[<-h.length];cases hi:ixN b.length k with
 |none=>rw[hi]at e;cases e
 |some j=>
  rw[hi]at e;exact h.get e
def Cn{k:Int}(f:SqB K tu H a b)(vd:VDs K m H h b)(e:atI h k=aw d)(q:∀v,VD K m H d v->Q v H):rIx K (.ref a) (.int k) H Q:=by
 let{v,E,c}:=My vd e;cases tu with
 |false=>exact .inl {a,b,k,v,rfl,rfl,f,E,q v c}
 |true=>exact .inr (.inl {a,b,k,v,rfl,rfl,.of f,E,q v c})
def UD(hu:X.A.units+64 < cLine):IxR X (rS X.K ixS):=by
 intro j f l s O H x y v u Q I rx Y h hs;let{m,S,a,b,d,Z,R,J,U,e,q}:=h
 let B:ixK a b S=aw (d,Z)->wpAny (model X.prog X.w) X.A (subscriptTail j f v u) (EP X l O Q) X.xe s:=λe=>by
  let{k,n,kss,T,hk,rfl,hn,hd,rfl}:=Cf e;let{a',b',rfl,rfl,o,g,ho,hv}:=rJ (y:=.ref n) R hk hn U J;let{w,rfl,vw}:=hv d hd;cases rx;cases Y;exact tail_any (tV I g) PySem.F.slot_dict_getitem.lookup (zY (show X.A.units+2 < cLine by lia) I g rfl λw' s' I' C=>{w,H,I',C,q m H _ (Aft.refl R) vw}) hs
 cases b with
 |int k=>
  calc BO j f l s O H x y v u Q I rx Y ?_ hs;cases U.ints
  let main:∀r,ay a S=aw r->(atI r.2 k).map (λx=>(x,S))=aw (d,Z)->rIx X.K x (.int k) H Q:=by
   intro r hi e;cases E:atI r.2 k with
   |none=>rw[E]at e;cases e
   |some z=>
    rw[E]at e;cases e;let{p,vs,rfl,sq,vds}:=gk (tu:=r.1) (ds:=r.2) R J hi;exact Cn sq vds E λv vv=>q m H v (Aft.refl R) vv
  cases a with
  |str z=>
   simp![ixS]at e;split at e
   .rename_i hl;cases L:atI z.cps.toList k with
    |none=>rw[L]at e;cases e
    |some c=>
     rw[L]at e;cases e;exact .inr (.inr {z,k,c,J.strs,rfl,by rw[ZaN];lia,L,q m H _ (Aft.refl R) m9})
   .cases e
  |tup T=>exact main (aN,T) rfl e
  |ref n=>
   simp![ixS]at e;cases hi:ay (.ref n) S with
   |none=>rw[hi]at e;cases e
   |some r=>rw[hi]at e;exact main r hi e
  |_=>simp[ixS,ay]at e
 |_=>exact B e
abbrev wD(x:XA)(y:XE):XE:=λb S=>bnd (x b S) λh f=>bnd (y b f) λi c=>match i with
 |.int k=>(atI h k).map λd=>(d,c)
 |_=>aD
def Mz(h:tE K (wD x y) u H Q):tOp (rIx K) (ju K x) (tE K y) u H Q:=by
 let{m,j,S,d,S',E,R,e,q}:=h;let{l,p,Y,e}:=ac e;let{i,O,J,e}:=ac e;calc{m,j,S,l,p,E,R,Y,λm1 Z a B b U I n2 n3 vd=>{m1,j,p,i,O,E.mono R b.ext,b.rel,J,λL n w f C=>?_}};cases i with
 |int k=>
  cases C.ints;dsimp! at e;cases c:atI l k with
  |none=>rw[c]at e;cases e
  |some z=>
   rw[c]at e;cases e;exact Cn (tu:=false) (show SqL K n a B from SqL.of (f.ext.keep _ _ U I)) (vd.mono b.rel f.ext) c λv T=>q L n v (b.trans f) T
 |_=>cases e
abbrev jr(d:List D)(lo hi:Option Int):List D:=(d.drop (HT.sIx d.length 0 lo)).take (HT.sIx d.length d.length hi - HT.sIx d.length 0 lo)
def wG(h:VDs K m H d v)(lo hi:Option Int):VDs K m H (jr d lo hi) (mR v lo hi):=by
 delta jr mR;rw[<-h.length];exact(h.drop _).take _
abbrev slS(lo hi:Option Int)(d:D)(S:Sto):Option (D×Sto):=match d with
 |.tup b=>aw (.tup (jr b lo hi),S)
 | .ref n=>(match aR S n with
  |some b=>aw (.ref S.length,S++[.lst (jr b lo hi)])
  | none=>aD)
 |_=>aD
abbrev rSl(K:VX):V->Option Int->Option Int->Hp->VK->Prop:=λv lo hi H Q=>∃m S a d c,Rel K m S H/\VD K m H a v/\slS lo hi a S=aw (d,c)/\∀b h u,Aft K m H c b h->VD K b h d u->Q u h
def wH{vs:List V}{lo hi:Option Int}(h:HT.sIx vs.length 0 lo=0/\HT.sIx vs.length vs.length hi=vs.length):mR vs lo hi=vs:=by
 delta mR;rw[h.1,h.2];simp
def UE:SlR X (rSl X.K):=by
 intro c s z H x v C u lo hi sl Q I O hs L J h;calc(SlR.or F9 FX) c s z H x v C u lo hi sl Q I O hs L J ?_;let{m,S,a,d,U,R,l,e,q}:=h;cases a with
 |tup B=>
  cases e;let{p,j,rfl,f,vds}:=l.tups;calc .inl {p,j,rfl,.of f,λy=>?_,λ_=>jv R (wG vds lo hi) q};let:=wG vds lo hi;rw[wH y]at this;exact q m H _ (Aft.refl R) (iP f this)
 |ref n=>
  simp![slS]at e;cases k:aR S n with
  |none=>rw[k]at e;cases e
  |some B=>
   rw[k]at e;cases e;let{p,j,E,f,vds}:=R.seq k;let{T,b,rfl}:=l.refs;rw[E]at b;cases b;exact .inr {p,j,rfl,f,rE R (wG vds lo hi) q}
 |_=>cases e
@[inline]abbrev XO:=Rho->Sto->Option (Option Int×Sto)
abbrev tOI(K:VX)(x:XO):TO:=λf H Q=>∃m c S o b,EnvR K m H c f/\Rel K m S H/\x c S=aw (o,b)/\∀d h,Aft K m H b d h->Q o h
abbrev wJ:XO:=λ_ S=>aw (aD,S)
abbrev wK(x:XE):XO:=λb S=>bnd (x b S) λd c=>match d with
 |.int i=>aw (aw i,c)
 |_=>aD
def Go(h:tOI K wJ b H Q):x8 b H Q:=by
 let{m,d,S,o,c,E,R,e,q}:=h;cases e;exact q m H (Aft.refl R)
def Gp(h:tOI K (wK x) j H Q):Ko (tE K x) j H Q:=by
 let{m,k,S,o,n,E,R,e,q}:=h;let{d,c,l,e}:=ac e;calc{m,k,S,d,c,E,R,l,λm1 b v f vd=>?_};cases d with
 |int i=>cases e;exact{i,vd.ints,q m1 b f}
 |_=>cases e
def PO.imp(h:PO X e t)(f:∀b H Q,t' b H Q->t b H Q):PO X e t':=λp s b H Q I q=>h p s b H Q I (f b H Q q)
abbrev xSl(x:XE)(lo hi:XO):XE:=λb S=>bnd (x b S) λd f=>bnd (lo b f) λl c=>bnd (hi b c) λh j=>slS l h d j
def RF{x:XE}{lo hi:XO}{k:L2.St}{H:Hp}{Q:VK}(h:tE K (xSl x lo hi) k H Q):tSl (rSl K) (tE K x) (tOI K lo) (tOI K hi) k H Q:=by
 let{m,f,S,d,J,E,R,e,q}:=h;let{a,n,z,e}:=ac e;let{l,p,O,e}:=ac e;let{u,y,L,e}:=ac e;calc{m,f,S,a,n,E,R,z,λm1 Y v b vd=>{m1,f,n,l,p,E.mono R b.ext,b.rel,O,λT H2 c=>{T,f,p,u,y,E.mono R (b.trans c).ext,c.rel,L,λB Z j=>?_}}};exact{B,y,a,d,J,j.rel,vd.mono b.rel (c.trans j).ext,e,λm4 I w U C=>q m4 I w (((b.trans c).trans j).trans U) C}
abbrev nj(d:D)(S:Sto):Option (Bool×Sto):=match d with
 |.non=>aw (aS,S)
 |.bl b=>aw (b,S)
 |.int i=>aw (i != 0,S)
 |.str y=>if y.length<=100000 then aw ((y.length:Int) != 0,S) else aD
 |.tup c=>aw (!c.isEmpty,S)
 | .ref n=>(match aR S n with
  |some c=>aw (!c.isEmpty,S)
  | none=>aD)
def nk(h:VDs K m H d v):d.isEmpty=v.isEmpty:=by
 let:=h.length;cases d <;> cases v <;> simp at this ⊢
def MA(R:Rel K m S H)(vd:VD K m H d v)(e:nj d S=aw (b,l)):l=S/\FQ K v H b:=by
 cases d with
 |non=>cases e;cases vd.nons;exact⟨rfl,rfl⟩
 |bl _=>cases e;cases vd.bls;exact⟨rfl,rfl⟩
 |int _=>cases e;cases vd.ints;exact⟨rfl,rfl⟩
 |str y=>
  simp![nj]at e;split at e
  .rename_i u;cases e;cases vd.strs;exact{rfl,by rw[ZaN];lia,rfl}
  .cases e
 |tup q=>
  cases e;let{a,f,rfl,j,vds}:=vd.tups;exact{rfl,.inr (.inl {f,.of j,by rw[nk vds]})}
 |ref n=>
  simp![nj]at e;cases c:aR S n with
  |none=>rw[c]at e;cases e
  |some q=>
   rw[c]at e;cases e;let{p,f,k,j,vds}:=R.seq c;let{z,h,rfl}:=vd.refs;rw[k]at h;cases h;exact{rfl,.inl {f,j,by rw[nk vds]}}
abbrev Gq(x:XE):XT:=λb S=>bnd (x b S) λd c=>nj d c
def MB(h:tT K (Gq x) l H Q):(tE K x) l H λv H'=>∃k,FQ K v H' k/\Q k H':=by
 let{m,n,S,b,u,E,R,e,q}:=h;let{d,j,p,e}:=ac e;calc{m,n,S,d,j,E,R,p,λm1 f v c vd=>?_};let{rfl,t}:=MA c.rel vd e;exact{b,t,q m1 f c}
abbrev xB(x:XE):XT:=λc S=>bnd (x c S) λd f=>match d with
 |.bl b=>aw (b,f)
 |_=>aD
def RG(h:tT K (xB x) l H Q):(tE K x) l H λv H'=>∃k,v = .bl k/\Q k H':=by
 let{m,n,S,b,u,E,R,e,q}:=h;let{d,f,p,e}:=ac e;calc{m,n,S,d,f,E,R,p,λm1 c v j vd=>?_};cases d with
 |bl k=>cases e;exact{b,vd.bls,q m1 c j}
 |_=>cases e
abbrev dh(_:Bool)(d:List D)(S:Sto):Option (D×Sto):=aw (.int d.length,S)
abbrev cO(_:Bool)(d:List D)(S:Sto):Option (D×Sto):=aw (.tup d,S)
abbrev Ae:D->Bool
 |.bl _=>aN
 |_=>aS
abbrev pG:D->Bool
 |.bl b=>b
 |_=>aS
abbrev lY(T:Bool)(d:List D)(S:Sto):Option (D×Sto):=if T=aS/\d.all Ae=aN then aw (.bl (d.all pG),S) else aD
abbrev pH(T:Bool)(d:List D)(S:Sto):Option (D×Sto):=if T=aS/\d.all Ae=aN then aw (.bl (d.any pG),S) else aD
abbrev r1(r:V->Hp->VK->Prop):List V->Hp->VK->Prop
 |[x],H,Q=>r x H Q
 |_,_,_=>False
def ca(h:r1 r xs H Q):∃x,xs=[x]/\r x H Q:=by
 match xs,h with
 |[x],h=>exact⟨x,rfl,h⟩
def Af:aV X (.builtin "len") (r1 (rSq X.K dh)):=by
 calc aV.imp jm λf H Q h=>?_;let{_,rfl,m,S,T,j,a,v,d,c,R,rfl,b,vd,e,q}:=ca h;cases e;exact{a,v,rfl,rL b,q m H _ (Aft.refl R) (by rw[vd.length];exact bg)}
def Ag:aV X (.type "tuple") (r1 (rSq X.K cO)):=by
 calc aV.imp pE λf H Q h=>?_;let{_,rfl,m,S,T,j,a,v,d,c,R,rfl,b,vd,e,q}:=ca h;cases e;cases T with
 |false=>exact{a,v,rfl,.inl {b,jv R vd q}}
 |true=>exact{a,v,rfl,.inr {.of b,q m H _ (Aft.refl R) (iP b vd)}}
def wL:∀ {c:List D} {v:List V},VDs K m H c v->c.all Ae=aN->v=(c.map pG).map V.bl
 |[],v,h,_=>by rw[VDs]at h;rw[h];rfl
 |d::c,v,h,f=>by
  rw[VDs]at h;let{x,r,rfl,p,q}:=h;rw[Yt,bAE]at f;cases d with
  |bl b=>rw[p.bls,wL q f.2];rfl
  |_=>simp[Ae]at f
def MC(d:List D):(d.map pG).all id=d.all pG:=by rw[Xg];rfl
def MD(d:List D):(d.map pG).any id=d.any pG:=by rw[Wr];rfl
def Ah(hc:X.calm=aN):aV X (.builtin "all") (r1 (rSq X.K lY)):=by
 calc aV.imp (zV hc) λk H Q h=>?_;let{_,rfl,m,S,T,f,a,v,d,j,R,rfl,c,vd,e,q}:=ca h;delta lY at e;split at e
 .rename_i b;cases e;let{rfl,b}:=b;calc{a,f.map pG,rfl,?_,q m H _ (Aft.refl R) (by rw[MC];exact cp)};rw[<-wL vd b];exact c
 .cases e
def Ai(hc:X.calm=aN):aV X (.builtin "any") (r1 (rSq X.K pH)):=by
 calc aV.imp (zW hc) λk H Q h=>?_;let{_,rfl,m,S,T,f,a,v,d,j,R,rfl,c,vd,e,q}:=ca h;delta pH at e;split at e
 .rename_i b;cases e;let{rfl,b}:=b;calc{a,f.map pG,rfl,?_,q m H _ (Aft.refl R) (by rw[MD];exact cp)};rw[<-wL vd b];exact c
 .cases e
abbrev rTm(K:VX)(f:Bool->List D->Option (List D)):V->Hp->VK->Prop:=λv H Q=>∃m S T k a d E,Rel K m S H/\v = .ref a/\SqB K T H a d/\VDs K m H k d/\f T k=aw E ∧
 ∀c h p j,Aft K m H S c h->h p=aw (.lst j)->p∉c->(∀b,b∈m->b≠p)->H p=aD->VDs K c h E j->Q (.ref p) h
abbrev Co:D->D->Sto->Option (D×Sto)
 |.int i,.int j,S=>aw (.int (if j > i then j else i),S)
 |_,_,_=>aD
abbrev Cp:D->D->Sto->Option (D×Sto)
 |.int i,.int j,S=>aw (.int (if j < i then j else i),S)
 |_,_,_=>aD
abbrev two(f:D->D->Sto->Option (D×Sto)):List D->Sto->Option (D×Sto)
 |[a,b],S=>f a b S
 |_,_=>aD
def wM(h:VDs K m H [a,b] c):∃v w,c=[v,w]/\VD K m H a v/\VD K m H b w:=by
 rw[VDs]at h;let{v,r,rfl,p,q}:=h;rw[VDs]at q;let{w,f,rfl,d,Q}:=q;rw[VDs]at Q;subst Q;exact⟨v,w,rfl,p,d⟩
def Gr(h:VDs K m H [a] b):∃v,b=[v]/\VD K m H a v:=by
 rw[VDs]at h;let{v,r,rfl,p,q}:=h;rw[VDs]at q;subst q;exact⟨v,rfl,p⟩
def ui(h:two f c S=aw r):∃a b,c=[a,b]/\f a b S=aw r:=by
 match c,h with
 |[a,b],h=>exact⟨a,b,rfl,h⟩
def wN(hc:X.calm=aN):aV X (.builtin "max") (rSA X.K (two Co)):=by
 calc aV.imp (zL hc) λk H Q h=>?_;let{m,S,f,d,j,R,vd,e,q}:=h;let{a,b,rfl,E}:=ui e;let{v,w,rfl,p,c}:=wM vd;cases a <;> cases b <;> simp[Co]at E;let{rfl,rfl}:=E;exact{_,_,by rw[p.ints,c.ints],q m H _ (Aft.refl R) bg}
def wP(hc:X.calm=aN):aV X (.builtin "min") (rSA X.K (two Cp)):=by
 calc aV.imp (zM hc) λk H Q h=>?_;let{m,S,f,d,j,R,vd,e,q}:=h;let{a,b,rfl,E}:=ui e;let{v,w,rfl,p,c}:=wM vd;cases a <;> cases b <;> simp[Cp]at E;let{rfl,rfl}:=E;exact{_,_,by rw[p.ints,c.ints],q m H _ (Aft.refl R) bg}
inductive Ty where |int |bool |tuple |list |str
abbrev Ty.nm:Ty->String
 |.int => "int" |.bool => "bool" |.tuple => "tuple" |.list => "list" |.str => "str"
abbrev tyN(d:D)(S:Sto):Option String:=match d with
 |.non=>aw "NoneType" |.bl _=>aw "bool" |.int _=>aw "int" |.str _=>aw "str" |.tup _=>aw "tuple"
 | .ref n=>(match S[n]? with
  |some (.lst _)=>aw "list"
  |some (.frz _)=>aw "list"
  |some (.dic _ _)=>aw "dict"
  |some (.tbl _ _ _)=>aD
  |some (.dfz _ _)=>aD
  | none=>aD)
abbrev gr(t:Ty)(n:String):Bool:=n == t.nm || (match t with |.int=>n == "bool" |_=>aS)
abbrev nu(t:Ty)(d:D)(S:Sto):Option (D×Sto):=(tyN d S).map λn=>(.bl (gr t n),S)
def Gu(K:VX)(t:Ty):(Up K (.type "NoneType") (.type t.nm)=aw (gr t "NoneType"))/\(Up K (.type "bool") (.type t.nm)=aw (gr t "bool"))/\(Up K (.type "int") (.type t.nm)=aw (gr t "int")) ∧
  (Up K (.type "str") (.type t.nm)=aw (gr t "str"))/\(Up K (.type "tuple") (.type t.nm)=aw (gr t "tuple"))/\(Up K (.type "list") (.type t.nm)=aw (gr t "list"))/\(Up K (.type "dict") (.type t.nm)=aw (gr t "dict")):=by
 cases t <;> exact{by kernel_rfl,by kernel_rfl,by kernel_rfl,by kernel_rfl,by kernel_rfl,by kernel_rfl,by kernel_rfl}
def RH(R:Rel K m S H)(vd:VD K m H d v)(e:tyN d S=aw n):TyOf K H v (.type n):=by
 cases d with
 |non=>cases e;cases vd.nons;exact .non
 |bl _=>cases e;cases vd.bls;exact .bl _
 |int _=>cases e;cases vd.ints;exact .int _
 |str _=>cases e;cases vd.strs;exact .str _
 |tup c=>cases e;let{a,f,rfl,u,_}:=vd.tups;exact .tup u
 |ref k=>
  simp![tyN]at e;let{a,l,rfl}:=vd.refs;cases j:S[k]? with
  |none=>rw[j]at e;cases e
  |some o=>
   rw[j]at e;let{y,b,r}:=R.ob k o j;rw[l]at b;cases b;cases o with
   |lst c=>cases e;let{f,h,_}:=r;exact .lst h
   |frz c=>cases e;let{o,f,h,_}:=r;exact .frz h
   |dic ks c=>cases e;let{f,h,_}:=r;exact .dT h
   |tbl T p q=>cases e
   |dfz ks c=>cases e
def Cq(e:tyN d S=aw n):n = "NoneType"\/n = "bool"\/n = "int"\/n = "str"\/n = "tuple"\/n = "list"\/n = "dict" := by
 cases d with
 |ref k=>
  simp![tyN]at e;cases h:S[k]? with
  |none=>rw[h]at e;cases e
  |some o=>rw[h]at e;cases o <;> cases e <;> simp
 |_=>cases e <;> simp
def ME(K:VX)(t:Ty)(h:n = "NoneType"\/n = "bool"\/n = "int"\/n = "str"\/n = "tuple"\/n = "list"\/n = "dict"):Up K (.type n) (.type t.nm)=aw (gr t n):=by
 let{a,b,c,d,e,f,g}:=Gu K t;rcases h with rfl |rfl |rfl |rfl |rfl |rfl |rfl <;> assumption
abbrev RI(K:VX)(t:Ty)(T:TE):TE:=tCB (Kt K) (cf T (cf (tC (.ty t.nm)) ji))
def Gv(h:tE K (xUn (nu t) x) l H Q):RI K t (tE K x) l H Q:=by
 let{m,p,S,d,y,E,R,e,q}:=h;let{a,c,u,e}:=ac e;calc{m,p,S,a,c,E,R,u,λm1 j v f k=>?_};delta nu at e;cases b:tyN a c with
 |none=>rw[b]at e;cases e
 |some n=>
  rw[b]at e;cases e;exact{v,t.nm,_,_,rfl,RH f.rel k b,ME K t (Cq b),q m1 j _ f cp}
end
end Ev
namespace HT
open PySem PySem.Spec PyProof.Rows
section
variable {prog:Program} {w:World} {A:Around} {E:Value->Shared->Prop} {s:Shared}
def kf{sl:Addr}{n:Nat}{T:Tok}{Q:Int×Int×Nat->Shared->Prop}(hs:s.heap.IsSliceOf sl .none .none (.int (-1) T))
  (h:Q ((n:Int) - 1,-1,n) s):wpAny (model prog w) A (Builtin.Slice.sliceApplied (.ref sl) (pure (n:Int))) Q E s:=by
 let{os,c,d,b}:=id hs;delta Builtin.Slice.sliceApplied Builtin.Slice.sliceFields;calc ZaZ (ZaZ (Za5 c b (x:=.none) rfl (ZaZ (Za5 c b (x:=.none) rfl (ZaZ (Za5 c b (x:=.int (-1) T) rfl (Zbk ?_)))))));calc ZaZ (slicePart_int ?_);show wpAny _ _ (if ((-1:Int) == 0)=aN then _ else _) _ _ s;rw[if_neg (by decide)];calc ZaZ (slicePart_none (ZaZ (slicePart_none (ZaZ (Zbk ?_)))));show wpAny _ _ (match Builtin.Slice.sliceAdjust aD aD (-1) (n:Int) with |(lo,hi)=>pure (lo,(-1:Int),Builtin.Slice.slicePlaces lo hi (-1))) _ _ s
 let k:Builtin.Slice.sliceAdjust aD aD (-1) (n:Int)=((n:Int) - 1,-1):=by
  delta Builtin.Slice.sliceAdjust;simp
 rw[k];show wpAny _ _ (pure ((n:Int) - 1,(-1:Int),Builtin.Slice.slicePlaces ((n:Int) - 1) (-1) (-1))) _ _ s
 let j:Builtin.Slice.slicePlaces ((n:Int) - 1) (-1) (-1)=n:=by
  delta Builtin.Slice.slicePlaces;let f:¬ ((-1:Int) > 0):=by decide
  simp![f,if_false,show(- -1:Int)=1 from rfl,WR];split <;> omega
 rw[j];exact Zbk h
def Cr(xs:Array Value):((Zi xs.size).filterMap λ(m:Nat)=>xs[((xs.size:Int) - 1+(m:Int) * -1).toNat]?).toArray=xs.toList.reverse.toArray:=by
 let e:(Zi xs.size).filterMap (λ(m:Nat)=>xs[((xs.size:Int) - 1+(m:Int) * -1).toNat]?)=((Zi xs.size).map λk=>xs.size - 1 - k).filterMap (xs[·]?):=by
  rw[Wi]
  congr 1
  funext m
  show xs[((xs.size:Int) - 1+(m:Int) * -1).toNat]?=xs[xs.size - 1 - m]?
  congr 1
  omega
 rw[e,PySem.W.krv_range,List.filterMap_reverse,PySem.W.krv_all]
def jy{t sl:Addr}{I:Array Value}{T:Tok}{Q:Value->Shared->Prop}(c:IsTup s.heap t I)(hs:s.heap.IsSliceOf sl .none .none (.int (-1) T))
  (h:Q (.ref s⁻¹) {s with heap:=s.heap.push {cls:=.type "tuple",data:=.seq I.toList.reverse.toArray}})
  (f:I.size<=sizeLine):wpAny (model prog w) A (getItem (.ref t) (.ref sl)) Q E s:=by
 let b:sizeOk (.seq I.toList.reverse.toArray):=by
  show I.toList.reverse.toArray.size<=sizeLine;rw[Zk,Yo,Zu];exact f
 let{os,k,d,l}:=id hs;let j:s.TypeIs (.ref sl) "slice" := ⟨os,k,d⟩;delta getItem
 try with_reducible refine Za8 ?_
 first |refine ZaZ (Zbk ?_) |skip
 refine ZaZ (Zbt c.typeIs (by decide) ?_)
 refine ZaZ (wpAny_callSpecial?_slot (name:=Str.ofString "__getitem__") c.typeIs W5
  (Za0 W5 c.typeIs entry_tuple_getitem ?_ (args_tuple_getitem _ _)))
 show wpAny _ _ (Builtin.Tuple.tupleItemsOf (.ref t) >>= _) _ _ s;calc ZaZ (tupleItemsOf_ c ?_);calc ZaZ (Zbz j ?_);rw[if_pos (by decide)];calc ZaZ (kf hs ?_);show wpAny _ _ (if (((I.size:Int) - 1) == 0 && (-1:Int) == 1 && I.size == I.size)=aN then _ else _) _ _ s;rw[if_neg (by rw[show((-1:Int) == 1)=aS from rfl,X8,XD];exact Zh),Cr]
 first
  |exact ZaZ (m:=Builtin.Tuple.tupleExact _) (Zbg (Zbk {_,rfl,Zbk h}) b)
  |exact ZaZ (m:=Builtin.Tuple.tupleExact _) (Zbg (ZaZ (Zbk (Zbk {_,rfl,Zbk h}))) b)
  |exact ZaZ (ZaZ (m:=Builtin.Tuple.tupleExact _) (Zbg (Zbk (Zbk {_,rfl,Zbk h})) b))
  |exact ZaZ (ZaZ (m:=Builtin.Tuple.tupleExact _) (Zbg (Zbk {_,rfl,Zbk h}) b))
end
end HT
namespace Ev
open PySem PySem.Spec PyProof.Rows L2
section
variable {X:Cx} {e:Expr} {T:TE} {pos p2 p3 p4:Pos}
def aJ.rev:∀ {xs:List V} {u:List Value},aJ xs u->aJ xs.reverse u.reverse
 |[],_,.nil=>.nil
 |_::_,_,.cons r t=>by rw[Yl,Yl];exact(aJ.rev t).append (.cons r .nil)
def VDs.rev{K:VX}:∀ {b:List D} {v:List V},VDs K m H b v->VDs K m H b.reverse v.reverse
 |[],v,h=>by rw[VDs]at h;subst h;exact .nil
 |d::b,v,h=>by
  rw[VDs]at h;let{y,r,rfl,p,q}:=h;rw[Yl,Yl];exact(VDs.rev q).append (.cons p .nil)
abbrev wQ(d:D)(S:Sto):Option (D×Sto):=match d with
 |.tup b=>aw (.tup b.reverse,S)
 | .ref n=>(match aR S n with
  |some b=>aw (.ref S.length,S++[.lst b.reverse])
  | none=>aD)
 |_=>aD
def MF{k:Nat}(he:PE X e T):PE X (.Subscript e (.Slice aD aD (aw (.UnaryOp .USub (.Constant (.int 1) k p3) p4)) p2) pos) (tUn (rS1 X.K wQ) T):=by
 intro f s C H Q I h;calc Subscript_ (thn (he f s C H _ I h) λv s1 ⟨x,U,I1,r1,q1⟩=>?_);calc wpAny_Slice ?_;rw[Zao];calc Zbk (Zbk ?_);calc thn (x9 (x5 rb mH) f s1 C U (λo J=>o=aw (-1)/\J=U) I1 ⟨_,rfl,_,rfl,rfl,rfl⟩) λvk z ⟨o,J,I2,pk,ho,hH⟩=>?_;subst ho hH;cases pk with
 |int i Y=>
  let l:L2.Inv X f C J {z with heap:=z.heap.push {cls:=.type "slice",data:=.fields #[.none,.none,.int (-1) Y]}}:=I2.kept (t':=z.toks) λb ob q=>Zc _ q;let{m,S,a,d,S',R,Z,E,q}:=q1;cases a with
  |tup ds=>
   cases E;let{p,u,rfl,O,vds}:=Z.tups;cases r1;let{j,r,ht,y}:=l.tuple (.of O);let c:j.toArray.size=u.length:=by rw[Zk];exact r.length.symm
   calc tail_any (ops:=[.ref p,.ref z.heap.objs.size]) ht.typeIs PyProof.Rows.slot_tuple_getitem.lookup (HT.jy ht (Heap.IsSliceOf.new ..) ?_ (by rw[c];exact y)) (by with_unfolding_all rfl);calc{.ref _,_,l.laid (o:=.tup u.reverse) (λb ob q=>Zc _ q) (Zf _) ?_,rfl,jv R (VDs.rev vds) q _ (l.hok.fresh (Zf _))};exact{by rw[Yo];exact y,_,aJ.rev r,ra.new _ _}
  |ref n=>
   simp![wQ]at E;cases L:aR S n with
   |none=>rw[L]at E;cases E
   |some ds=>
    rw[L]at E;cases E;let{p,u,hp,O,vds}:=R.seq L;let{p',B,rfl}:=Z.refs;rw[hp]at B;cases B;cases r1;let{j,r,pl,y}:=l.list O;let c:j.toArray.size=u.length:=by rw[Zk];exact r.length.symm
    calc tail_any (ops:=[.ref p,.ref z.heap.objs.size]) pl.isList.typeIs PySem.slot_list_getitem.lookup (Za7 pl.isList (Heap.IsSliceOf.new ..) .none .none (.int (-1) Y) (by decide) ?_ (by rw[c];exact y)) (by with_unfolding_all rfl);rw[PySem.W.krv_pick];calc{.ref _,_,l.laid (o:=.lst u.reverse) (λb ob q=>Zc _ q) (Zf _) ?_,rfl,rE R (VDs.rev vds) q _ (l.hok.fresh (Zf _))};exact{by rw[Yo];exact y,_,0,aJ.rev r,Zs _ rfl}
  |_=>cases E
end
end Ev
namespace Ev
open PySem PySem.Spec PyProof.Rows L2
open PySem.W (KasT kas_sort kas_asc kas_desc kas_tail3 kas_descPart kas_count kas_place kas_bin kas_rev kas_ask KatTups)
abbrev bV{b:Type}(lt:Nat->Nat->Bool):KasT b->b
 |.ret a=>a
 |.ask i j k=>bV lt (k (lt i j))
abbrev KT{c:Type}(n:Nat)(P:c->Prop):KasT c->Prop
 |.ret a=>P a
 |.ask i j k=>i < n/\j < n/\∀b,KT n P (k b)
def KT.bind{c d:Type}{n:Nat}{P:c->Prop}{R:d->Prop}{f:c->KasT d}(l:∀a,P a->KT n R (f a)):∀ {t:KasT c},KT n P t->KT n R (t.bind f)
 |.ret a,h=>l a h
 |.ask i j k,h=>{h.1,h.2.1,λb=>KT.bind l (h.2.2 b)}
def KT.run{b:Type}{n:Nat}{P:b->Prop}{lt:Nat->Nat->Bool}:∀ {t:KasT b},KT n P t->P (bV lt t)
 |.ret a,h=>h
 |.ask i j k,h=>KT.run (t:=k (lt i j)) (h.2.2 (lt i j))
def nv{b:Type}{n:Nat}{P:b->Prop}{lt:Nat->Nat->Bool}{cmp:Nat->Nat->(Bool->Shared->Prop)->Shared->Prop}{s:Shared}(hc:∀i j,i < n->j < n->∀C:Bool->Shared->Prop,C (lt i j) s->cmp i j C s){Q:b->Shared->Prop} :
  ∀ {t:KasT b},KT n P t->Q (bV lt t) s->t.kasWp cmp Q s
 |.ret a,_,q=>q
 |.ask i j k,h,q=>hc i j h.1 h.2.1 _ (nv hc (h.2.2 (lt i j)) q)
abbrev Pm(n:Nat)(p:Array Nat):Prop:=p.Perm (YO (Zi n))
def Pm.at{n i:Nat}(h:Pm n p)(c:0 < n):p.getD i 0 < n:=by
 by_cases hi:i < p.size
 .let e:p.getD i 0=p[i]:=by simp[Array.getD,hi]
  rw[e];let b:p[i]∈p:=Ws hi;let:=h.mem_iff.mp b
  simpa using this
 .let e:p.getD i 0=0:=by simp[Array.getD,hi]
  omega
def Pm.rev{n i j:Nat}(h:Pm n p):Pm n (kas_rev p i j):=(mirror_perm p i j _).trans h
def wR{n:Nat}(h:Pm n p)(c:0 < n):∀f m,KT n (λ_=>True) (kas_asc p f m)
 |0,_=>trivial
 | f+1,m=>⟨h.at c,h.at c,λb=>by
  cases b with
  |true=>exact trivial
  | false=>exact wR h c f (m+1)⟩
def md{n:Nat}(c:0 < n):∀f (p:Array Nat) m q,Pm n p->KT n (λr:Array Nat×Nat×Nat=>Pm n r.1) (kas_desc f p m q)
 |0,p,m,q,h=>h
 | f+1,p,m,q,h=>⟨h.at c,h.at c,λb=>by
  cases b with
  |true=>
   show KT n _ (if q > 0 then kas_desc f (kas_rev p (m - (q+1)) m) (m+1) 0 else kas_desc f p (m+1) 0);split
   .exact md c f _ _ _ h.rev
   .exact md c f _ _ _ h
  | false=>exact⟨h.at c,h.at c,λd=>by
   cases d with
   |true=>exact h
   | false=>exact md c f _ _ _ h⟩⟩
def uj{n:Nat}{p:Array Nat}(b:0 < n)(h:Pm n p)(m r:Nat):KT n (λr:Nat×Array Nat=>Pm n r.2) (kas_tail3 m r p):=KT.bind (P:=λ_=>True) (f:=λm=>KasT.ret (m,kas_rev p 0 _)) (λ_ _=>(show KT n (λr:Nat×Array Nat=>Pm n r.2) (KasT.ret (_,kas_rev p 0 _)) from h.rev)) (wR h.rev b _ _)
def kT{n:Nat}{p:Array Nat}(b:0 < n)(h:Pm n p)(m r:Nat):KT n (λr:Nat×Array Nat=>Pm n r.2) (kas_descPart m r p):=KT.bind (λa c=>by
 show KT n _ (if a.2.2 > 0 then _ else _);split
 .exact uj b (Pm.rev c) _ _
 .exact uj b c _ _) (md b _ _ _ _ h)
def Cs{n:Nat}{p:Array Nat}(c:0 < n)(h:Pm n p)(r:Nat):KT n (λr:Nat×Array Nat=>Pm n r.2) (kas_count r p):=KT.bind (λa _=>by
 show KT n _ (if (a == r)=aN then _ else if a > 1 then _ else _);split
 .exact h
 .split
  .exact⟨h.at c,h.at c,λb=>by
    cases b with
    |true=>exact h
    | false=>exact kT c h.rev _ _⟩
  .exact kT c h _ _) (wR h c _ _)
def nA{n:Nat}{p:Array Nat}(c:0 < n)(h:Pm n p)(m:Nat):∀f l r,KT n (λ_=>True) (kas_place p m f l r)
 |0,_,_=>trivial
 |f+1,l,r=>by
  show KT n _ (if l ≥ r then _ else _);split
  .exact trivial
  .exact⟨h.at c,h.at c,λb=>by
    cases b with
    |true=>exact nA c h m f _ _
    | false=>exact nA c h m f _ _⟩
def Ct{n:Nat}(b:0 < n):∀f (p:Array Nat) m,Pm n p->KT n (Pm n) (kas_bin f p m)
 |0,p,_,h=>h
 |f+1,p,m,h=>KT.bind (λl _=>Ct b f _ _ ((bubble_perm p m _).trans h)) (nA b h m _ _ _)
def jz{n:Nat}(h:0 < n):KT n (Pm n) (kas_sort n):=KT.bind (λr b=>by
 show KT n _ (if r.1 < n then _ else _);split
 .exact Ct h _ _ _ b
 .exact b) (Cs h (Array.Perm.refl _) n)
section
variable {prog:Program} {w:World} {A:Around} {E:Value->Shared->Prop} {s:Shared}
def rN{a:Addr}{v:List Value}{n:Nat}{P:PySem.Fin->Shared->Prop}(y:s.heap.get? a=aw (seqObj "list" v.toArray n))(z:v.length < 64)(I:SortKind)(lt:Nat->Nat->Bool)
  (Z:2<=v.length->∀ (Q:SortKind->Shared->Prop),Q I {s with heap:=((s.heap.update a (Obj.mapSeq λ_=>#[])).push (seqObj "tuple" v.toArray 0)).push (seqObj "list" #[] 0)}->wpAny (model prog w) A (keyKind' v.toArray) Q E {s with heap:=((s.heap.update a (Obj.mapSeq λ_=>#[])).push (seqObj "tuple" v.toArray 0)).push (seqObj "list" #[] 0)})
  (L:∀i j,i < v.length->j < v.length->∀C:Bool->Shared->Prop,C (lt i j) {s with heap:=((s.heap.update a (Obj.mapSeq λ_=>#[])).push (seqObj "tuple" v.toArray 0)).push (seqObj "list" #[] 0)} ->
   kas_ask prog w A I v i j C {s with heap:=((s.heap.update a (Obj.mapSeq λ_=>#[])).push (seqObj "tuple" v.toArray 0)).push (seqObj "list" #[] 0)})
  (h:P (.done (.ret .none)) {s with heap:=sortedHeap s.heap a v (if v.length < 2 then v.toArray else YO ((bV lt (kas_sort v.length)).toList.map λi=>v.getD i Value.none))}) :
  wpAny (model prog w) A (Builtin.«list.sort» ⟨[.ref a],[]⟩) P E s:=by
 rw[list_sort_plain];let U:a < s⁻¹:=Zv y;calc ZaZ (listItems_at y rfl ?_);calc ZaZ (listUpdate_at y rfl ?_);obtain⟨T,f⟩:∃T,(s.heap.update a (Obj.mapSeq λ_=>#[])).get? a=aw (seqObj "list" #[] T):={_,get?_update_seq y (λ_=>#[])};calc ZaZ (seqEpoch_at f rfl ?_);calc ZaZ (wpAny_newTuple ?_);calc ZaZ (Zbf ?_);refine Za8 ?_
 let c:(((s.heap.update a (Obj.mapSeq λ_=>#[])).push (seqObj "tuple" v.toArray 0)).push (seqObj "list" #[] 0)).get? a=aw (seqObj "list" #[] T):=by
  rw[Xh _ _ _ (by rw[size_push',Yw];exact ZH (YD U)),Xh _ _ _ (by rw[Yw];exact ZH U)];exact f
 show wpAny (model prog w) A _ P E {s with heap:=((s.heap.update a (Obj.mapSeq λ_=>#[])).push (seqObj "tuple" v.toArray 0)).push (seqObj "list" #[] 0)};dsimp!;let B:v.toArray.size=v.length:=by simp
 by_cases k:v.toArray.size < 2
 .rw[if_pos k,if_pos k];calc ZaZ (Zbk ?_);rw[StateT.run_pure];calc ZaZ (Zbk ?_);dsimp!;calc ZaZ (seqEpoch_at c rfl ?_);calc ZaZ (listUpdate_at c rfl ?_ (hsz2:=by rw[Array.size_map];show(pairsOf v).size<=_;rw[pairsOf_size,ZaN];omega));simp![bne_self_eq_false,ZN,if_false];rw[if_pos (by rw[<-B];exact k)]at h
  let e:Array.map (λx:Keyed=>x.2) (v.toArray.zip v.toArray)=v.toArray:=by
   apply Wy.mp;rw[Wz,WA,WB (by simp)]
  calc Zbk ?_;show P _ {s with heap:=sortedHeap s.heap a v (Array.map (λx:Keyed=>x.2) (v.toArray.zip v.toArray))};rw[e];exact h
 .let u:2<=v.length:=by omega
  rw[if_neg k,if_neg k];rw[if_neg (by omega)]at h;refine ZaZ (Z u _ ?_)
  refine ZaZ (Zbd (V6 (κ:=I) (ks:=v) (Q:=λb l=>l={s with heap:=((s.heap.update a (Obj.mapSeq λ_=>#[])).push (seqObj "tuple" v.toArray 0)).push (seqObj "list" #[] 0)}/\arrOf b=(bV lt (kas_sort v.length)).map (V3 (v.toArray.zip v.toArray))/\(bV lt (kas_sort v.length)).size=v.length/\failedOf b=aD)
   (G:=λp l=>l={s with heap:=((s.heap.update a (Obj.mapSeq λ_=>#[])).push (seqObj "tuple" v.toArray 0)).push (seqObj "list" #[] 0)}/\p=bV lt (kas_sort v.length)) rfl u z (λp b l a1 a2 Y O=>{O.1,O.2▸a2,O.2▸a1,Y}) (nv L (jz (by omega)) ⟨rfl,rfl⟩)) ?_ λ_ _ e=>e)
  rintro⟨⟨⟩,b⟩ l ⟨rfl,J,d,X⟩;dsimp!;let q:=V7 rfl J;calc ZaZ (seqEpoch_at c rfl ?_);rw[q];calc ZaZ (listUpdate_at c rfl ?_ (hsz2:=by rw[Zk,Za,Zu,d,ZaN];omega));rw[X];simp![bne_self_eq_false,ZN,if_false];exact Zbk h
end
section
variable {prog:Program} {w:World} {A:Around} {E:Value->Shared->Prop} {s:Shared}
def Aj(hl:s.heap.IsList l v.toArray)(p:v.length < 64)(u:SortKind)(lt:Nat->Nat->Bool)
  (J:2<=v.length->∀ (A:Around) (f:Shared),(∀b o,s.heap.get? b=aw o->f.heap.get? b=aw o)->∀ (E:Value->Shared->Prop) (Q:SortKind->Shared->Prop),Q u f->wpAny (model prog w) A (keyKind' v.toArray) Q E f)
  (d:∀ (y:Around) (f:Shared),y=A.in1.in1->(∀b o,s.heap.get? b=aw o->f.heap.get? b=aw o)->∀i j,i < v.length->j < v.length->∀C:Bool->Shared->Prop,C (lt i j) f->kas_ask prog w y u v i j C f)
  (h:Q (.ref (s⁻¹+1)) {s with heap:=sortedAll s.heap v (if v.length < 2 then v.toArray else YO ((bV lt (kas_sort v.length)).toList.map λi=>v.getD i Value.none))}) :
  wpAny (model prog w) A (call (.builtin "sorted") [.ref l]) Q E s:=by
 calc Calls.call_function_entry kind_sorted plain_sorted entry_sorted (args_sorted1 _) ?_;delta Builtin.«sorted»;calc ZaZ (m:=checkCount "sorted" 1 1 _) (Zbk ?_);calc ZaZ (collect_list hl ?_);refine ZaZ (Zbf ?_)
 let n:((s.heap.push (seqObj "list" #[] 0)).update s⁻¹ (Obj.mapSeq (·++v.toArray))).objs.size=s⁻¹+1:=by
  rw[Yw,size_push']
 let k:(((s.heap.push (seqObj "list" #[] 0)).update s⁻¹ (Obj.mapSeq (·++v.toArray))).push (seqObj "list" v.toArray 0)).get? (s⁻¹+1)=aw (seqObj "list" v.toArray 0):=by
  rw[<-n];exact Zs _ rfl
 let keep:∀b o,s.heap.get? b=aw o->(((((s.heap.push (seqObj "list" #[] 0)).update s⁻¹ (Obj.mapSeq (·++v.toArray))).push (seqObj "list" v.toArray 0)).update (s⁻¹+1) (Obj.mapSeq λ_=>#[])).push (seqObj "tuple" v.toArray 0)).get? b=aw o:=λb o q=>by
  let d:b < s⁻¹:=Zv q;calc Zc _ ?_;rw[Xy _ _ _ _ (ZH (YD d))];calc Zc _ ?_;rw[Xy _ _ _ _ (ZH d)];exact Zc _ q
 show wpAny _ _ _ _ _ {s with heap:=((s.heap.push (seqObj "list" #[] 0)).update s⁻¹ (Obj.mapSeq (·++v.toArray))).push (seqObj "list" v.toArray 0)};rw[n];calc ZaZ (Za8 (Za0 slot_list_sort ⟨_,k,rfl⟩ entry_list_sort (rN k p u lt (λB Q q=>J B _ _ (λb o z=>Zc _ (keep b o z)) _ Q q) (λi j hi I C c=>d _ _ rfl (λb o z=>Zc _ (keep b o z)) i j hi I C c) {_,rfl,?_}) (args_list_sort _)));exact Zbk ⟨_,rfl,h⟩
end
end Ev
namespace Ev
open PySem PySem.Spec PyProof.Rows L2
open PySem.W (kas_sort KatTups)
section
variable {X:Cx} {K:VX} {m:List Addr} {H:Hp} {S:Sto}
def yp(r:aJ v its){i:Nat}(hi:i < v.length):aE (v.getD i .non) (its.getD i Value.none):=by
 let{u,e,b}:=r.get (gEG hi);rw[Zr,Zr,gEG hi,e];exact b
def qr{v:List V}{its:List Value}(r:aJ v its):∀ (l:List Nat),(∀i∈l,i < v.length)->aJ (l.map λi=>v.getD i .non) (l.map λi=>its.getD i Value.none)
 |[],_=>.nil
 |i::l,h=>.cons (yp r (h i Zj)) (qr r l λj b=>h j (Zg _ b))
def gu{n:Nat}{lt:Nat->Nat->Bool}(b:0 < n):(∀i∈(bV lt (kas_sort n)).toList,i < n)/\(bV lt (kas_sort n)).toList.length=n:=by
 let h:Pm n (bV lt (kas_sort n)):=(jz b).run;refine{λi hi=>?_,?_}
 .let:=h.mem_iff.mp (X6.mp hi)
  simpa using this
 .let:=h.size_eq;rw[Zu,this];simp
abbrev wU(x:Int):List Int->List Int
 |[]=>[x]
 |y::l=>if x<=y then x::y::l else y::wU x l
abbrev gw:List Int->List Int
 |[]=>[]
 |x::l=>wU x (gw l)
def kh(x:Int):∀l,(wU x l).Perm (x::l)
 |[]=>List.Perm.refl _
 |y::l=>by
  delta wU;split
  .exact List.Perm.refl _
  .exact((kh x l).cons y).trans (List.Perm.swap x y l)
def cE:∀l,(gw l).Perm l
 |[]=>List.Perm.refl _
 |x::l=>(kh x (gw l)).trans ((cE l).cons x)
def kU(x:Int):∀l:List Int,l.Pairwise (·<=·)->(wU x l).Pairwise (·<=·)
 |[],_=>by delta wU;simp
 |y::l,h=>by
  delta wU;rw[Z7]at h;split
  .rename_i c;calc Z7.mpr {λz hz=>?_,Z7.mpr h};rcases Zn.mp hz with rfl |hz
   .exact c
   .let:=h.1 z hz;lia
  .rename_i c;calc Z7.mpr {λz hz=>?_,kU x l h.2};rcases Zn.mp ((kh x l).mem_iff.mp hz) with rfl |hz
   .lia
   .exact h.1 z hz
def dj:∀l,(gw l).Pairwise (·<=·)
 |[]=>List.Pairwise.nil
 |x::l=>kU x _ (dj l)
def nB:∀ {a b:List Int},a.Perm b->a.Pairwise (·<=·)->b.Pairwise (·<=·)->a=b
 |[],b,p,_,_=>(List.Perm.nil_eq p)
 |x::a,[],p,_,_=>(List.Perm.nil_eq p.symm).symm
 |x::a,y::b,p,ha,hb=>by
  rw[Z7]at ha hb
  let e:x=y:=by
   let h1:=p.mem_iff.mp (Zj (a:=x) (l:=a));let h2:=p.mem_iff.mpr (Zj (a:=y) (l:=b));rcases Zn.mp h1 with rfl |h1
   .rfl
   .rcases Zn.mp h2 with h2 |h2
    .exact h2.symm
    .let:=ha.1 y h2;let:=hb.1 x h1
     lia
  subst e;rw[nB (List.Perm.cons_inv p) ha.2 hb.2]
def bv:∀ {ns:List Int} {u:List Value},aJ (ns.map V.int) u->IntsAre u ns
 |[],_,h=>by cases h;exact .nil
 |n::ns,_,h=>by
  cases h with
  |cons r1 r2=>let{t,rfl}:=r1;exact .cons n t (bv r2)
def wV:aV X (.builtin "sorted") (λxs H Q=>∃a ns,xs=[.ref a]/\SqL X.K H a (ns.map V.int)/\ns.length < 64/\∀p,H p=aD->Q (.ref p) (upd H p (.lst ((gw ns).map V.int)))):=by
 intro k s O H xs U Q I r h;let{a,ns,rfl,E,l,q}:=h;let{u,rfl,L}:=bQ r;cases L;let{d,j,y,f}:=I.list E;let c:=j.length;rw[Za]at c f;calc sorted_ints y.isList (bv j) (by lia) λout n v B J=>?_;let e:n=gw ns:=nB (B.trans (cE ns).symm) J (dj ns);subst e;let{e,C}:=sortedAll_at s.heap d out;refine{.ref (s⁻¹+1),_,I.laid (t':=s.toks) (a:=s⁻¹+1) (o:=.lst ((gw ns).map V.int)) (λb o z=>sortedAll_old z) (YM _) {by rw[Za,(cE ns).length_eq];exact f,out.toList,e,jX v,by simpa using C},rfl,q _ (I.hok.fresh (YM _))}
abbrev cP:List D->Option (List Int)
 |[]=>aw []
 |d::ds=>match d,cP ds with
  |.int i,aw ms=>aw (i::ms)
  |_,_=>aD
abbrev uk(_:Bool)(d:List D):Option (List D):=match cP d with
 |some ns=>if ns.length < 64 then aw ((gw ns).map D.int) else aD
 |none=>aD
def cQ:∀ {b:List D} {ns:List Int},cP b=aw ns->b=ns.map D.int
 |[],_,e=>by cases e;rfl
 |d::b,ns,e=>by
  simp![cP]at e;split at e
  .rename_i i c h;cases e;rw[cQ h];rfl
  .cases e
def bO:∀ {ns:List Int} {b:List V},VDs K m H (ns.map D.int) b->b=ns.map V.int
 |[],_,h=>by rw[Z0,VDs]at h;exact h
 |n::ns,_,h=>by
  rw[Zy,VDs]at h;let{v,r,rfl,d,c}:=h;rw[d.ints,bO c];rfl
def qt:∀ (ns:List Int),VDs K m H (ns.map D.int) (ns.map V.int)
 |[]=>by rw[Z0,Z0,VDs]
 |n::ns=>by rw[Zy,Zy,VDs];exact{_,_,rfl,bg,qt ns}
def rO(h:VDs K m H d c):∀ (l:List Nat),(∀i∈l,i < d.length)->VDs K m H (l.map λi=>d.getD i .non) (l.map λi=>c.getD i .non)
 |[],_=>by rw[Z0,Z0,VDs]
 |i::l,hl=>by
  rw[Zy,Zy,VDs];let{v,e,b}:=h.get (gEG (hl i Zj));calc{_,_,rfl,?_,rO h l λj f=>hl j (Zg _ f)};rw[Zr,Zr,gEG (hl i Zj),e];exact b
def Ak:aV X (.builtin "sorted") (r1 (rTm X.K λT d=>if T=aS then uk T d else aD)):=by
 calc aV.imp wV λj H Q h=>?_;let{_,rfl,m,S,T,d,a,v,es,R,rfl,b,vd,e,q}:=ca h;cases T with
 |true=>cases e
 |false=>
  let e:uk aS d=aw es:=by simpa using e
  delta uk at e;cases hi:cP d with
  |none=>rw[hi]at e;cases e
  |some ns=>
   rw[hi]at e;dsimp! at e;split at e
   .rename_i c;cases e;let f:=cQ hi;subst f;let E:=bO vd;subst E;exact{a,ns,rfl,b,c,rF R (qt _) q}
   .cases e
end
end Ev
namespace Ev
open PySem PySem.Spec PyProof.Rows L2
abbrev iQ:List Int->Int
 |[]=>0
 |n::ns=>ns.foldl (λa b=>if a < b then b else a) n
def jA:∀ (ns:List Int) (n:Int),(ns.foldl (λa b=>if a < b then b else a) n)∈n::ns/\∀x∈n::ns,x<=ns.foldl (λa b=>if a < b then b else a) n
 |[],n=>{Zj,λx hx=>by simp at hx;subst hx;exact ZU _}
 |m::ns,n=>by
  let{f,c}:=jA ns (if n < m then m else n);rw[List.foldl_cons];refine{?_,λx hx=>?_}
  .rcases Zn.mp f with h |h
   .rw[h];split <;> simp
   .exact Zg _ (Zg _ h)
  .let d:=c _ Zj;rcases Zn.mp hx with rfl |hx
   .split at d <;> split <;> omega
   .rcases Zn.mp hx with rfl |hx
    .split at d <;> split <;> omega
    .exact c x (Zg _ hx)
def wW{M:Int}(h:M∈ns)(c:∀a,a∈ns->a<=M):M=iQ ns:=by
 cases ns with
 |nil=>simp at h
 |cons n ns=>
  let{a,b}:=jA ns n;let:=c _ a;let:=b _ h;show M=ns.foldl _ n;omega
section
variable {X:Cx} {K:VX} {m:List Addr} {H:Hp} {S:Sto}
def Al(hc:X.calm=aN):aV X (.builtin "max") (λxs H Q=>∃a ns,xs=[.ref a]/\SqL X.K H a (ns.map V.int)/\ns≠[]/\Q (.int (iQ ns)) H):=by
 intro p s B H xs us Q I r h;let{a,ns,rfl,sq,f,q}:=h;let{u,rfl,ru}:=bQ r;cases ru;let{Z,L,O,hz}:=I.list sq;let hi:=bv L;let l:=O.isList;let{y,e}:=hi.allInts.items
 let b:ns=y.toList.map (·.1):=by
  let c:=hi.numsOf;rw[<-ZaB,<-e];exact c.symm
 let d:0 < y.size:=by
  let z:0 < ns.length:=Xz.mpr f;rw[b,Za,Zu]at z;exact z
 rw[e]at l;calc max_intList (I.ok.hd hc) l d λv E T J C=>?_;let{t,rfl}:=Zar J;let{b1,b2}:=argBest_gt (numAt y) (y.size - 1);let k:∀M:Int,M∈ns->(∀a,a∈ns->a<=M)->∃x H',Inv X p B H' {s with heap:=E,toks:=T}/\aE x (.int M t)/\Q x H':=λM c U=>{.int (iQ ns),H,I.kept C,{t,by rw[wW c U]},q};refine k _ ?_ λa n=>?_
 .rw[b,ZaA];exact getD_mem (by rw[Za,Zu];omega)
 .rw[b]at n;let{j,Y,rfl}:=mem_getD n;rw[Za,Zu]at Y;rw[<-ZaA];exact b2 j (by omega)
def rP(n:A.handled=aD)(hl:s.heap.IsTuple l (Zaq xs))(f:0 < xs.size)
  (h:∀v h' T,(Zaq xs)[argBest (λi j=>decide (numAt xs i > numAt xs j)) (xs.size - 1)]?=aw v->(∀b o,s.heap.get? b=aw o->h'.get? b=aw o)->Q v {s with heap:=h',toks:=T}) :
  wpAny (model prog w) A (call (.builtin "max") [.ref l]) Q E s:=by
 let d:l < s⁻¹:=by let{_,e,_}:=hl;exact Zv e
 calc call_max_walk (Zbn hl ?_);refine{_,[_,l],[_],_,_,_,_,rfl,Walks.tuple (A:=A.in1) n _ l (ZH d) (Zaq xs),{{_,Zs _ rfl,rfl,rfl},hl.push _},λc hc=>?_,by simpa[Zaq] using f,CmpOf.ints_gt (numAt xs) (λ_ _=>Zar),λv h' T k p=>?_}
 .show c < (s.heap.push _).objs.size;rw[Yz];rcases Zn.mp hc with rfl |hc
  .exact Y2 _
  .rcases Zn.mp hc with rfl |hc
   .exact YD d
   .cases hc
 .calc h v h' T (by simpa[Zaq] using k) λb o e=>p b o (λhm=>?_) (Zc _ e);rcases Zn.mp hm with e1 |hm
  .exact absurd (e1▸Zv e) (ZI _)
  .cases hm
def Am(hc:X.calm=aN):aV X (.builtin "max") (λxs H Q=>∃a ns,xs=[.ref a]/\SqT X.K H a (ns.map V.int)/\ns≠[]/\Q (.int (iQ ns)) H):=by
 intro p s C H xs us Q I r h;let{a,ns,rfl,sq,f,q}:=h;let{u,rfl,ru}:=bQ r;cases ru;let{l,O,U,hz}:=I.tuple sq;let hi:=bv O;let n:s.heap.IsTuple a l.toArray:=U;let{y,e}:=hi.allInts.items
 let b:ns=y.toList.map (·.1):=by
  let c:=hi.numsOf;rw[<-ZaB,<-e];exact c.symm
 let d:0 < y.size:=by
  let B:0 < ns.length:=Xz.mpr f;rw[b,Za,Zu]at B;exact B
 rw[e]at n;calc rP (I.ok.hd hc) n d λv J T L E=>?_;let{t,rfl}:=Zar L;let{b1,b2}:=argBest_gt (numAt y) (y.size - 1);let k:∀M:Int,M∈ns->(∀a,a∈ns->a<=M)->∃x H',Inv X p C H' {s with heap:=J,toks:=T}/\aE x (.int M t)/\Q x H':=λM c Y=>{.int (iQ ns),H,I.kept E,{t,by rw[wW c Y]},q};refine k _ ?_ λa z=>?_
 .rw[b,ZaA];exact getD_mem (by rw[Za,Zu];omega)
 .rw[b]at z;let{j,Z,rfl}:=mem_getD z;rw[Za,Zu]at Z;rw[<-ZaA];exact b2 j (by omega)
abbrev pJ(T:Bool)(d:List D)(S:Sto):Option (D×Sto):=match cP d with
 |some (n::ns)=>aw (.int (iQ (n::ns)),S)
 |_=>aD
def An(hc:X.calm=aN):aV X (.builtin "max") (r1 (rSq X.K pJ)):=by
 calc aV.imp (aV.or (Al hc) (Am hc)) λf H Q h=>?_;let{_,rfl,m,S,T,j,a,v,d,c,R,rfl,sq,vd,e,q}:=ca h;delta pJ at e;split at e
 .rename_i n ns hi;cases e;let b:=cQ hi;subst b;let E:=bO vd;subst E;rcases rL sq with sq |sq
  .exact .inl {a,n::ns,rfl,sq,by simp,q m H _ (Aft.refl R) bg}
  .exact .inr {a,n::ns,rfl,sq,by simp,q m H _ (Aft.refl R) bg}
 .cases e
abbrev ul(T:Bool)(d:List D)(S:Sto):Option (D×Sto):=match T,cP d with
 |false,aw ns=>aw (.int (WW ns),S)
 |_,_=>aD
def Ao(hc:X.calm=aN):aV X (.builtin "sum") (λxs H Q=>∃ (a:Addr) (ns:List Int),xs=[.ref a]/\SqL X.K H a (ns.map V.int)/\Q (.int (WW ns)) H):=by
 intro p s z H xs U Q I r h;let{a,ns,rfl,n,q}:=h;let{u,rfl,v}:=bQ r;cases v;let{l,j,k,B}:=I.list n;let hi:=bv j;let c:=k.isList;let{y,e}:=hi.allInts.items
 let b:ns=y.toList.map (·.1):=by
  let d:=hi.numsOf;rw[<-ZaB,<-e];exact d.symm
 rw[e]at c;calc sum_intListG (I.ok.hd hc) c λC E T f=>{.int (WW ns),H,I.kept f,{T,?_},q};rw[preSum_eq,b,Yd (by rw[Za,Zu];exact Zf _)]
def Ap(hc:X.calm=aN):aV X (.builtin "sum") (r1 (rSq X.K ul)):=by
 calc aV.imp (Ao hc) λj H Q h=>?_;let{_,rfl,m,S,T,k,a,v,d,f,R,rfl,b,vd,e,q}:=ca h;delta ul at e;split at e
 .rename_i ns hi;cases e;let c:=cQ hi;subst c;let E:=bO vd;subst E;exact{a,ns,rfl,b,q m H _ (Aft.refl R) bg}
 .cases e
end
def Cu(a d:Value):argsOk "max" ⟨[a],[(Str.ofString "default",d)]⟩:=by delta argsOk;kernel_rfl
section
variable {prog:Program} {w:World} {A:Around} {R:Result->Shared->Prop} {I S:Addr} {f g:List Addr} {n:Nat} {P:Nat->Value->Prop} {St:Nat->Heap->Prop} {bt:Nat->Nat->Bool} {k:List (Str×Value)}
def yq:(toString "max" ++ toString ".loop" : String) = "max.loop" := by decide
def nD(W:Walks prog w A.in1 I f g n P St)(O:CmpOf prog w A.in1 .Gt P bt)(B:S∉f):∀ (m i:Nat) (s:Shared) (b:Value) (c:Nat),i+1+m=n->St (i+1) s.heap->P (argBest bt i) b->s.heap.get? S=aw {cls:=.type "list",dict:=aD,data:=.seq #[b,b] c,slots:=#[]} ->
  (∀v h' C,P (argBest bt (n - 1)) v->(∀a o,a∉g->a≠S->s.heap.get? a=aw o->h'.get? a=aw o)->R (.ok (.ret v)) {s with heap:=h',toks:=C})->codeAny (model prog w) A (.builtin "max.loop" ⟨[.ref I,.none,.ref S],k⟩) R s
 |0,i,s,b,c,e,st,pb,gs,r=>by
  let J:S∉g:=λh=>B (W.sub _ h);calc Zah Vm ?_;rw[Around.under_plainId Vt _];show wpAny _ A.in1 (ZaL (.ref S) >>= _) _ _ s;calc ZaZ (Zbs gs rfl ?_);show wpAny _ A.in1 (tryCatch (pyNext (.ref I)) _ >>= _) _ _ s;calc ZaZ (Zbx (W.done s _ _ (by rw[<-e];exact st) λh' C u=>?_));show wpAny _ A.in1 (ZaW S (λ_=>#[]) >>= _) _ _ _;calc ZaZ (ZbA (u S _ J gs) rfl (ZaZ (Zbb (Zbk ?_))));exact r b _ C (by rw[<-e];exact pb) λa o j q z=>(ZO _ _ (Ne.symm q)).trans (u a o j z)
 |m+1,i,s,b,c,e,st,pb,gs,r=>by
  let J:S∉g:=λh=>B (W.sub _ h);calc Zah Vm ?_;rw[Around.under_plainId Vt _];show wpAny _ A.in1 (ZaL (.ref S) >>= _) _ _ s;calc ZaZ (Zbs gs rfl ?_);show wpAny _ A.in1 (tryCatch (pyNext (.ref I)) _ >>= _) _ _ s;calc ZaZ (Zbx (W.item (i+1) s _ _ (by lia) st λv h' C Q y u=>?_));let l:=u S _ J gs;show wpAny _ A.in1 (tryCatch (holding [v,v] (ZaH .Gt v b >>= _)) _ >>= _) _ _ _;calc ZaZ (Zbx (Za8 (ZaZ (O (i+1) (argBest bt i) v b _ _ _ Q pb ?_))));calc ZaZ (Za8 (Zbw ?_));calc ZaZ (Zbb (Zbk ?_));cases hb:bt (i+1) (argBest bt i) with
  |true=>
   simp![if_true];calc ZaZ (ZbA l rfl (ZaZ (Zbb ?_)));rw[yq];refine Zbk {ZaD Vt _,nD W O B m (i+1) _ v _ (by lia) (W.frame _ _ _ y λa af o z=>?_) (by simp![argBest,hb,if_true];exact Q) (Z5 _ l rfl) λE d T p L=>?_}
   .exact(ZO _ _ (λz:S=a=>B (by rw[z];exact af))).trans z
   .exact r E d T p λa o j q z=>L a o j q ((ZO _ _ (Ne.symm q)).trans (u a o j z))
  |false=>
   simp![ZN,if_false];calc ZaZ (Zbb ?_);rw[yq];calc Zbk {ZaD Vt _,nD W O B m (i+1) _ b c (by lia) y (by simp![argBest,hb,ZN,if_false];exact pb) l λE d T p L=>?_};exact r E d T p λa o j q z=>L a o j q (u a o j z)
def Aq(W:Walks prog w A.in1 I f g n P St)(Q:CmpOf prog w A.in1 .Gt P bt)(l:S∉f)(C:0 < n){c:Nat}(st:St 0 s.heap)(gs:s.heap.get? S=aw {cls:=.type "list",dict:=aD,data:=.seq #[] c,slots:=#[]})
  (r:∀v h' y,P (argBest bt (n - 1)) v->(∀a o,a∉g->a≠S->s.heap.get? a=aw o->h'.get? a=aw o)->R (.ok (.ret v)) {s with heap:=h',toks:=y}):codeAny (model prog w) A (.builtin "max.loop" ⟨[.ref I,.none,.ref S],k⟩) R s:=by
 let J:S∉g:=λh=>l (W.sub _ h);calc Zah Vm ?_;rw[Around.under_plainId Vt _];show wpAny _ A.in1 (ZaL (.ref S) >>= _) _ _ s;calc ZaZ (Zbs gs rfl ?_);show wpAny _ A.in1 (tryCatch (pyNext (.ref I)) _ >>= _) _ _ s;calc ZaZ (Zbx (W.item 0 s _ _ C st λv h' y O d u=>?_));let b:=u S _ J gs;show wpAny _ A.in1 (ZaW S (λ_=>#[v,v]) >>= _) _ _ _;calc ZaZ (ZbA b rfl ?_);rw[yq];refine Zbk {ZaD Vt _,nD W Q l (n - 1) 0 _ v _ (by lia) (W.frame _ _ _ d λa af o z=>?_) O (Z5 _ b rfl) λE j T p L=>?_}
 .exact(ZO _ _ (λz:S=a=>l (by rw[z];exact af))).trans z
 .exact r E j T p λa o B q z=>L a o B q ((ZO _ _ (Ne.symm q)).trans (u a o B z))
def Cv(W:Walks prog w A.in1 I f g 0 P St)(h:S∉f){c:Nat}(st:St 0 s.heap)(gs:s.heap.get? S=aw {cls:=.type "list",dict:=aD,data:=.seq #[] c,slots:=#[]})
  (r:∀h' T,(∀a o,a∉g->s.heap.get? a=aw o->h'.get? a=aw o)->R (.ok (.ret d)) {s with heap:=h',toks:=T}):codeAny (model prog w) A (.builtin "max.loop" ⟨[.ref I,.none,.ref S],[(Str.ofString "default",d)]⟩) R s:=by
 calc Zah Vm ?_;rw[Around.under_plainId Vt _];show wpAny _ A.in1 (ZaL (.ref S) >>= _) _ _ s;calc ZaZ (Zbs gs rfl ?_);show wpAny _ A.in1 (tryCatch (pyNext (.ref I)) _ >>= _) _ _ s;calc ZaZ (Zbx (W.done s _ _ st λh' T b=>?_));exact ZaZ (Zbr (Zbk (r h' T b)))
variable {E:Value->Shared->Prop} {s:Shared} {l:Addr} {xs:Array (Int×Tok)}
def Cw(B:A.handled=aD)(hl:s.heap.IsList l (Zaq xs))
  (y:0 < xs.size->∀v h' T,(Zaq xs)[argBest (λi j=>decide (numAt xs i > numAt xs j)) (xs.size - 1)]?=aw v->(∀b o,s.heap.get? b=aw o->h'.get? b=aw o)->Q v {s with heap:=h',toks:=T})
  (C:xs.size=0->∀h' T,(∀b o,s.heap.get? b=aw o->h'.get? b=aw o)->Q d {s with heap:=h',toks:=T}):wpAny (model prog w) A (call (.builtin "max") [.ref l] [(Str.ofString "default",d)]) Q E s:=by
 calc kmb_tree F.kind_max F.plain_max F.entry_max (Cu _ _) ?_;show wpAny _ A.in1 (Builtin.Builtins.bindParams "max" ["key","default"] 0 ⟨[],[(Str.ofString "default",d)]⟩ >>= _) _ _ s;calc ZaZ (Zbi (show Builtin.Builtins.bindParams "max" ["key","default"] 0 ⟨[],[(Str.ofString "default",d)]⟩=pure [aD,aw d] from rfl) ?_);calc ZaZ (Zbk ?_);calc ZaZ (iter_intList hl λJ e st c L=>?_);subst e;let W:=Walks.list (prog:=prog) (w:=w) (A:=A.in1) B s⁻¹ l L (Zaq xs);calc ZaZ (Zbg ?_);let O:∀b∈[s⁻¹,l],b < (s.heap.push {cls:=.type "list_iterator",data:=.fields #[.ref l,.int 0 0]}).objs.size:=c;rw[yq];by_cases q:xs.size=0
 .let u:(Zaq xs).size=0:=by simpa[Zaq] using q
  rw[u]at W;calc Zbk {ZaD Vt _,Cv W (λh=>ZI _ (c _ h)) (W.frame _ _ _ st λb _ o e=>Zc _ e) (Zs _ rfl) λh' T p=>?_};exact C q h' T (ZaC λb o hb e=>p b o hb (Zc _ e))
 .calc Zbk {ZaD Vt _,Aq W (CmpOf.ints_gt (numAt xs) (λ_ _=>Zar)) (λh=>ZI _ (c _ h)) (by simp[Zaq];lia) (W.frame _ _ _ st λb _ o e=>Zc _ e) (Zs _ rfl) λv h' T z p=>?_};exact y (by lia) v h' T (by simpa[Zaq] using z) (ZaC λb o hb e=>p b o hb (ZH (Zv e)) (Zc _ e))
end
abbrev pK(c:Int):List Int->Int
 |[]=>c
 |n::ns=>iQ (n::ns)
abbrev fX(c:Int)(T:Bool)(d:List D)(S:Sto):Option (D×Sto):=match T,cP d with
 |false,aw ns=>aw (.int (pK c ns),S)
 |_,_=>aD
section
variable {X:Cx} {K:VX} {m:List Addr} {H:Hp} {S:Sto} {e:Expr} {t:TA} {p pos kp b:Pos} {c:Int} {j:Nat}
def MG(hc:X.calm=aN)(hg:Gl X "max")(hm:X.mg "max" = aD)(hdb:(("max" : Str) == ("__debug__" : Str))=aS){de:Expr}(hd:PE X de (tC (.int c)))(C:PA X [e] t)(he:ZaP [e] X.env=(aS,eval e X.env)::ZaP [] X.env) :
  PE X (.Call (.Name "max" p) [e] [{aw "default",de,kp}] pos) (tCB (r1 (rSq X.K (fX c))) t):=by
 intro f s z H Q I h;calc ZaX (eF I hg hm WZ ?_ (by decide) hdb);calc callWith_kw (thn (C pos f s z H _ I h) λus s1 ⟨vs,J,I1,r,q1⟩=>?_) (by rw[he];rfl) (by rw[he];rfl) rfl rfl;calc thn (rd (nm:=aw "default") (kpos:=kp) hd wg pos f s1 z J _ I1 (show cf (tC (.int c)) ji z J (λzs k=>zs=[.int c]/\k=J) from ⟨rfl,rfl⟩)) λks s2 ⟨zs,k,B,rz,ez,eH⟩=>?_;subst ez eH;let{u,rfl,ru}:=bQ rz;let{tk,rfl}:=ru;let{_,rfl,m,S,tu,ds,a,ws,d,S',R,rfl,sq,vd,E,q}:=ca q1;let{u',rfl,Z}:=bQ r;cases Z;delta fX at E;split at E
 .rename_i ns hi;cases E;let ed:=cQ hi;subst ed;let ev:=bO vd;subst ev;let sq:SqL X.K k a (ns.map V.int):=sq;let{its,rv,pl,hz}:=B.list sq;let hi:=bv rv;let hl:=pl.isList;let{Y,ey}:=hi.allInts.items
  let l:ns=Y.toList.map (·.1):=by
   let L:=hi.numsOf;rw[<-ZaB,<-ey];exact L.symm
  let y:ns.length=Y.size:=by rw[l,Za,Zu]
  rw[ey]at hl;refine Cw (B.ok.hd hc) hl (λO v h' T hv U=>?_) (λO h' T U=>?_)
  .let{t',rfl}:=Zar hv;let{b1,b2}:=argBest_gt (numAt Y) (Y.size - 1)
   let et:pK c ns=iQ ns:=by
    cases ns with
    |nil=>rw[Z4]at y;lia
    |cons n ns=>rfl
   let key:∀M:Int,M∈ns->(∀a,a∈ns->a<=M)->∃x H',Inv X f z H' {s2 with heap:=h',toks:=T}/\aE x (.int M t')/\Q x H':=λM L h2=>{.int (pK c ns),k,B.kept U,{t',by rw[wW L h2,et]},q m k _ (Aft.refl R) bg};refine key _ ?_ λa C=>?_
   .rw[l,ZaA];exact getD_mem (by rw[Za,Zu];lia)
   .rw[l]at C;let{j,hj,rfl}:=mem_getD C;rw[Za,Zu]at hj;rw[<-ZaA];exact b2 j (by lia)
  .let en:ns=[]:=Z1.mp (by lia);subst en;exact{.int c,k,B.kept U,⟨tk,rfl⟩,q m k _ (Aft.refl R) bg}
 .cases E
end
section
variable {X:Cx} {K:VX} {m:List Addr} {H:Hp} {S:Sto}
abbrev cD(d:D)(S:Sto):Bool:=match d with
 |.ref n=>(aR S n).isSome
 |_=>aS
abbrev isTup:D->Bool
 |.tup _=>aN
 |_=>aS
abbrev rQ(c:D->Sto->Bool)(f:D->List D->Sto->Option (D×Sto))(x:XE)(y:XA):XE:=λh S=>bnd (x h S) λd b=>if c d b=aN then bnd (y h b) λk j=>f d k j else aD
abbrev rM(K:VX)(f:D->List D->Sto->Option (D×Sto)):V->List V->Hp->VK->Prop:=λv k H Q=>∃m S a b d j,Rel K m S H/\VD K m H a v/\VDs K m H b k/\f a b S=aw (d,j)/\∀c h u,Aft K m H j c h->VD K c h d u->Q u h
def nF(O:∀ {m H S d v},Rel K m S H->VD K m H d v->c d S=aN->tyV K T v H)(h:tE K (rQ c f x y) B H Q):tBM K T (rM K f) (tE K x) (tAr K y) B H Q:=by
 let{m,k,S,d,U,E,R,e,q}:=h;let{a,n,e1,e}:=ac e;split at e
 .rename_i Y;let{z,p,Z,e}:=ac e;calc{m,k,S,a,n,E,R,e1,λm1 H1 v b l=>{O b.rel l Y,m1,k,n,z,p,E.mono R b.ext,b.rel,Z,λm2 H2 vs j L=>?_}};exact{m2,p,a,z,d,U,j.rel,l.mono b.rel j.ext,L,e,λC J u I vd=>q C J u ((b.trans j).trans I) vd}
 .cases e
def Gw(B:∀ {m H S d v},Rel K m S H->VD K m H d v->c d S=aN->tyV K T v H)(h:tE K (rQ c f x z6) l H Q):Rv K T (rM K f) (tE K x) l H Q:=by
 let{m,n,S,d,C,E,R,e,q}:=h;let{a,k,L,e}:=ac e;split at e
 .rename_i I;let{Y,U,J,e}:=ac e;cases J;exact{m,n,S,a,k,E,R,L,λm1 O v b j=>{B b.rel j I,m1,k,a,[],d,C,b.rel,j,.nil,e,λp z u y vd=>q p z u (b.trans y) vd}}
 .cases e
def rR(R:Rel K m S H)(vd:VD K m H d v)(h:cD d S=aN):tyV K "list" v H:=by
 cases d with
 |ref n=>
  simp![cD]at h;let{k,hs}:=Yq.mp h;let{p,f,c,j,vds}:=R.seq hs;let{l,b,rfl}:=vd.refs;rw[c]at b;cases b;exact .inl ⟨rfl,f,j⟩
 |_=>cases h
def Cy(R:Rel K m S H)(vd:VD K m H d v)(h:(λd (_:Sto)=>isTup d) d S=aN):tyV K "tuple" v H:=by
 cases d with
 |tup f=>
  let{a,b,rfl,c,_}:=vd.tups;exact .inr (.inl {rfl,.inr ⟨b,c⟩})
 |_=>cases h
abbrev chg(n:Nat)(S:Sto)(f:List D->Option (D×List D)):Option (D×Sto):=match S[n]? with
 |some (.lst ds)=>(f ds).map λr=>(r.1,S.set n (.lst r.2))
 |_=>aD
def jB{n:Nat}(h:chg n S f=aw (d,k)):∃b E,S[n]?=aw (.lst b)/\f b=aw (d,E)/\k=S.set n (.lst E):=by
 delta chg at h;cases j:S[n]? with
 |none=>rw[j]at h;cases h
 |some o=>
  rw[j]at h;cases o with
  |lst b=>
   dsimp! at h;cases c:f b with
   |none=>rw[c]at h;cases h
   |some r=>rw[c]at h;cases h;exact⟨b,r.2,rfl,c,rfl⟩
  |_=>cases h
abbrev rV(d:D)(c:List D)(S:Sto):Option (D×Sto):=match d,c with
 |.ref n,[e]=>chg n S λb=>if b.length < 100000 then aw (.non,b++[e]) else aD
 |_,_=>aD
abbrev wX(d:D)(c:List D)(S:Sto):Option (D×Sto):=match d,c with
 |.ref n,[]=>chg n S λb=>(b[b.length - 1]?).map λx=>(x,b.dropLast)
 |_,_=>aD
abbrev iR(d:D)(c:List D)(S:Sto):Option (D×Sto):=match d,c with
 |.ref n,[.int i]=>chg n S λb=>match ixN b.length i with
  |some k=>(b[k]?).map λx=>(x,b.eraseIdx k)
  |none=>aD
 |_,_=>aD
def nG{n:Nat}(R:Rel K m S H)(vd:VD K m H (.ref n) v)(c:S[n]?=aw (.lst d)):∃a vs,v = .ref a/\m[n]?=aw a/\H a=aw (.lst vs)/\VDs K m H d vs:=by
 let{a,vs,b,f,q}:=R.lst c;let{j,h,e}:=vd.refs;rw[b]at h;cases h;exact⟨a,vs,e,b,f,q⟩
def fh{n:Nat}(R:Rel K m S H)(h:m[n]?=aw a)(vd:VDs K m H E b):Aft K m H (S.set n (.lst E)) m (upd H a (.lst b)):=let ⟨x,y⟩:=R.write h vd;⟨x,y⟩
def MH:MtR X "list.append" (rM X.K rV):=by
 intro b s f H x O v u Q I L J h;calc qg b s f H x O v u Q I L J ?_;let{m,S,a,as,d,S',R,C,j,e,q}:=h;delta rV at e;split at e
 .rename_i n z;let{U,Y,E,c,rfl}:=jB e;split at c
  .rename_i Z;cases c;let{p,k,rfl,B,l,vds}:=nG R C E;let{y,rfl,T}:=Gr j;refine{p,k,y,rfl,rfl,l,by rw[ZaN,<-vds.length];lia,q m _ _ (fh R B (vds.append (.cons T .nil))) kc}
  .cases c
 .cases e
def Gx(h:VDs K m H d b)(e:d[d.length - 1]?=aw x):∃v,b[b.length - 1]?=aw v/\VD K m H x v:=by rw[<-h.length];exact h.get e
def nI:∀ {b:List D} {v:List V} (k:Nat),VDs K m H b v->VDs K m H (b.eraseIdx k) (v.eraseIdx k)
 |[],v,k,h=>by rw[VDs]at h;subst h;exact .nil
 |d::b,v,0,h=>by
  rw[VDs]at h;let{y,r,rfl,p,q}:=h;exact q
 |d::b,v,k+1,h=>by
  rw[VDs]at h;let{y,r,rfl,p,q}:=h;exact .cons p (nI k q)
def um(h:VDs K m H d v):VDs K m H d.dropLast v.dropLast:=by
 rw[<-iJ,<-iJ,<-h.length];exact nI _ h
def Gy:MtR X "list.pop" (rM X.K wX):=by
 intro b s u H x Y v U Q I T O h;calc L7 b s u H x Y v U Q I T O ?_;let{m,S,a,as,d,S',R,J,j,e,q}:=h;delta wX at e;split at e
 .rename_i n;let{k,es,L,c,rfl}:=jB e;cases f:k[k.length - 1]? with
  |none=>rw[f]at c;cases c
  |some z=>
   rw[f]at c;cases c;let{p,B,rfl,E,C,vds}:=nG R J L;rw[VDs]at j;subst j;let{y,l,Z}:=Gx vds f;let A:=fh R E (um vds);exact{p,B,y,rfl,rfl,C,l,q m _ _ A (Z.mono R A.ext)}
 .cases e
def Ar:MtR X "list.pop" (rM X.K iR):=by
 intro c s J H x xs v Y Q I rx rs h;calc BR c s J H x xs v Y Q I rx rs ?_;let{m,S,a,as,d,S',R,va,L,e,q}:=h;delta iR at e;split at e
 .rename_i n i;let{l,es,hn,b,rfl}:=jB e;cases f:ixN l.length i with
  |none=>rw[f]at b;cases b
  |some k=>
   rw[f]at b;dsimp! at b;cases j:l[k]? with
   |none=>rw[j]at b;cases b
   |some z=>
    rw[j]at b;cases b;let{p,O,rfl,Z,u,vds}:=nG R va hn;let{y,rfl,U}:=Gr L;cases U.ints;let{y,C,vy}:=vds.get j;let A:=fh R Z (nI k vds);let{B,h2,h3,h4}:=re f;let T:=(I.lst u).choose_spec.choose_spec.2.2;let E:=vds.length;rw[ZaN]at T;exact{p,O,i,k,y,rfl,rfl,u,by lia,by lia,by rw[<-vds.length];exact B,C,q m _ _ A (vy.mono R A.ext)}
 .cases e
abbrev wY(d:D)(b:List D)(S:Sto):Option (D×Sto):=match d,b with
 |.tup ds,[x]=>if cN x=aN/\ds.all cN=aN then aw (.int (ds.countP λz=>eqF z x:Nat),S) else aD
 |_,_=>aD
def Gz:MtR X "tuple.count" (rM X.K wY):=by
 intro b s j H x J v u Q I C B h;calc z4 X.K rfl b s j H x J v u Q I C B ?_;let{m,S,a,T,d,O,R,n,k,e,q}:=h;delta wY at e;split at e
 .rename_i L z;split at e
  .rename_i c;cases e;let{p,l,rfl,E,vds}:=n.tups;let{y,rfl,f}:=Gr k;exact{p,l,y,rfl,rfl,.of E,ma f c.1,jx vds c.2,q m H _ (Aft.refl R) (by rw[qp f c.1 vds c.2];exact bg)}
  .cases e
 .cases e
abbrev kj(o i v:D)(S:Sto):Option Sto:=match o,i with
 | .ref n,.int k=>(match S[n]? with
  |some (.lst ds)=>(ixN ds.length k).map λj=>S.set n (.lst (ds.set j v))
  | _=>aD)
 |o,i=>Cg o i v S
abbrev RJ(K:VX):FJ:=λo i v H Q=>∃m S a b c d,Rel K m S H/\VD K m H a o/\VD K m H b i/\VD K m H c v/\kj a b c S=aw d/\∀f h,Aft K m H d f h->Q h
def RK(hu:X.A.units+64 < cLine):LH X (RJ X.K):=by
 intro f s U H o i v Z iv u Q I O L B h;let{m,S,a,b,c,S',R,J,C,E,e,q}:=h;delta kj at e;split at e
 .rename_i n k;cases d:S[n]? with
  |none=>rw[d]at e;cases e
  |some ob=>
   rw[d]at e;cases ob with
   |lst z=>
    dsimp! at e;cases l:ixN z.length k with
    |none=>rw[l]at e;cases e
    |some j=>
     rw[l]at e;cases e;let{p,Y,rfl,hp,hH,vds}:=nG R J d;cases C.ints;exact BP f s U H _ _ v Z iv u Q I O L B {p,Y,k,j,rfl,rfl,hH,by rw[<-vds.length];exact l,q m _ (fh R hp (vds.set E))}
   |_=>cases e
 .let{k,n,T,z,hk,rfl,d,hl,rfl}:=z8 e;let{a,b,y,rfl,rfl,g,A}:=Gj R hk d hl C J E;cases O;cases L;exact zZ (show X.A.units+2 < cLine by lia) I g rfl B λs' I'=>{y,I',q m y A}
mutual
noncomputable def fY(t:D->Option Dw.D):List D->Option (List Dw.D)
 |[]=>aw []
 |d::ds=>match t d,fY t ds with
  |some x,aw xs=>aw (x::xs)
  |_,_=>aD
end
abbrev dR:Nat->Sto->D->Option Dw.D
 |0,_,_=>aD
 |n+1,S,d=>match d with
  |.non=>aw .non
  |.bl b=>aw (.bl b)
  |.int i=>aw (.int i)
  |.str x=>aw (.str x)
  |.tup ds=>(fY (dR n S) ds).map .tup
  | .ref k=>(match S[k]? with
   |some (.lst ds)=>(fY (dR n S) ds).map .lst
   | _=>aD)
def nJ(k:∀d x v,t d=aw x->VD K m H d v->Dw.Br [] H x v):∀ {f:List D} {xs:List Dw.D} {c:List V},fY t f=aw xs->VDs K m H f c->Dw.BrL [] H xs c
 |[],xs,c,e,h=>by rw[VDs]at h;simp![fY]at e;cases e;rw[h,Dw.BrL]
 |d::f,xs,c,e,h=>by
  rw[VDs]at h;let{y,r,rfl,p,q}:=h;simp![fY]at e;cases b:t d with
  |none=>rw[b]at e;cases e
  |some x=>
   cases j:fY t f with
   |none=>rw[b,j]at e;cases e
   |some Y=>
    rw[b,j]at e;cases e;rw[Dw.BrL];exact{y,r,rfl,k _ _ _ b p,nJ k j q}
def rX(R:Rel K m S H):∀ (n:Nat) (d:D) (x:Dw.D) (v:V),dR n S d=aw x->VD K m H d v->Dw.Br [] H x v
 |0,_,_,_,e,_=>by simp[dR]at e
 |n+1,d,x,v,e,h=>by
  cases d with
  |non=>simp![dR]at e;cases e;rw[Dw.Br];exact h.nons
  |bl _=>simp![dR]at e;cases e;rw[Dw.Br];exact h.bls
  |int _=>simp![dR]at e;cases e;rw[Dw.Br];exact h.ints
  |str _=>simp![dR]at e;cases e;rw[Dw.Br];exact h.strs
  |tup c=>
   simp![dR]at e;cases b:fY (dR n S) c with
   |none=>rw[b]at e;cases e
   |some z=>
    rw[b]at e;cases e;let{a,j,rfl,y,p}:=h.tups;rw[Dw.Br];exact{a,j,rfl,y,nJ (rX R n) b p}
  |ref k=>
   simp![dR]at e;let{a,u,rfl}:=h.refs;cases l:S[k]? with
   |none=>rw[l]at e;cases e
   |some o=>
    rw[l]at e;let{C,f,r}:=R.ob k o l;rw[u]at f;cases f;cases o with
    |lst c=>
     dsimp! at e;cases b:fY (dR n S) c with
     |none=>rw[b]at e;cases e
     |some z=>
      rw[b]at e;cases e;let{j,B,p}:=r;rw[Dw.Br];exact{a,j,rfl,by simp,B,nJ (rX R n) b p}
    |frz c=>cases e
    |dic ks c=>cases e
    |tbl T p q=>cases e
    |dfz ks c=>cases e
open Classical in
abbrev nK(d:D)(S:Sto):Option (D×Sto):=match dR 100 S d with
 |some t=>if Dw.Shn t then aw (.str (Dw.bc t).shown,S) else aD
 |none=>aD
def wZ{k:Nat}(c:Room k X.A):aV X (.builtin "repr") (r1 (rS1 X.K nK)):=by
 calc aV.imp (Dw.wx c) λj H Q h=>?_;let{x,rfl,m,S,a,d,f,R,v,e,q}:=ca h;delta nK at e;cases b:dR 100 S a with
 |none=>rw[b]at e;cases e
 |some t=>
  rw[b]at e;dsimp! at e;split at e
  .rename_i hs;cases e;exact{x,[],t,rfl,rX R 100 a t x b v,hs,q m H _ (Aft.refl R) m9}
  .cases e
end
section
variable {X:Cx} {K:VX} {m:List Addr} {H:Hp} {S:Sto}
abbrev kW{α:Type}(xs:List α)(k:Nat)(y:α):List α:=xs.take k++y::xs.drop k
def MI:MtM X "list.insert" (λx j H Q=>∃l xs i y,x = .ref l/\j=[.int i,y]/\H l=aw (.lst xs)/\0<=i/\i<=100000/\xs.length < sizeLine/\Q .non (upd H l (.lst (kW xs (min i.toNat xs.length) y)))):=by
 intro p s O H x j v U Q I E d h;let{l,xs,i,y,rfl,rfl,k,Y,L,T,q}:=h;cases E;cases d with
 |cons C d=>
  let{u,rfl,J}:=aJ.one (show aJ [y] _ from d);let{t,rfl}:=C;let{z,b,n,r,B,e}:=I.lstM k
  let f:¬ (!Builtin.List.listFitsIndex i)=aN:=by
   delta Builtin.List.listFitsIndex;simp;omega
  calc Zad Vy ⟨_,e,rfl⟩ F.entry_list_insert (F.args_list_insert_3 _ _ _) (PySem.AutoListH.list_insert_list_int_val_1 l b.toArray n i t u f (by rw[Zk];omega)) {e,?_};let c:xs.length=b.length:=B;refine{.non,_,I.lset (its':=kW b (min i.toNat b.length) u) k e ?_ ?_ ?_,rfl,q}
  .simp![if_neg (show ¬ i < 0 by omega),Zk];delta kW;simp[Yk];rw[Yd (by rw[YI];omega)]
  .rw[c];exact aJ.append (aJ.take _ r) (.cons J (aJ.drop _ r))
  .delta kW;rw[Ze,Zo,Yi,YI];omega
abbrev w4(d:D)(c:List D)(S:Sto):Option (D×Sto):=match d,c with
 |.ref n,[.int i,e]=>if 0<=i/\i<=100000 then chg n S λb=>if b.length < 100000 then aw (.non,kW b (min i.toNat b.length) e) else aD else aD
 |_,_=>aD
def MJ(k:Nat)(h:VDs K m H d v)(b:VD K m H x y):VDs K m H (kW d k x) (kW v k y):=(h.take k).append (.cons b (h.drop k))
def GA:MtR X "list.insert" (rM X.K w4):=by
 intro b s j H x T v U Q I O L h;calc MI b s j H x T v U Q I O L ?_;let{m,S,a,as,d,S',R,E,k,e,q}:=h;delta w4 at e;split at e
 .rename_i n i z;split at e
  .rename_i hi;let{Y,Z,J,c,rfl}:=jB e;split at c
   .rename_i hl;cases c;let{p,l,rfl,C,B,vds}:=nG R E J;let{y1,y,rfl,u,f}:=wM k;cases u.ints;calc{p,l,i,y,rfl,rfl,B,hi.1,hi.2,by rw[ZaN,<-vds.length];omega,?_};rw[<-vds.length];exact q m _ _ (fh R C (MJ _ vds f)) kc
   .cases c
  .cases e
 .cases e
end
@[inline]abbrev Nxt:=Nat->Sto->Option (Option D)
@[inline]abbrev XI:=Rho->Sto->Option (Nxt×Sto)
structure ExtB(B:List Addr)(m:List Addr)(H:Hp)(m':List Addr)(H':Hp):Prop where
 pre:m <+: m'
 keep:∀a o,H a=aw o->a∉m->a∉B->H' a=aw o
 new:∀a,a∈m'->a∉m->H a=aD
 nb:∀b,b∈B->b∉m'
abbrev AtB(B:List Addr)(m:List Addr)(H:Hp):Prop:=∀b,b∈B->(∃v,H b=aw (.lst v))/\b∉m
def Ext.toB(c:AtB B m H)(x:Ext m H d H'):ExtB B m H d H':=⟨x.pre,λa o h n _=>x.keep a o h n,x.new,λb hb z=>by
 let{⟨v,e⟩,n}:=c b hb;let:=x.new b z n;rw[e]at this;cases this⟩
def ExtB.trans(x:ExtB B m H m1 d)(y:ExtB B m1 d c H2):ExtB B m H c H2:=by
 refine{x.pre.trans y.pre,λa o h n nb=>?_,λa h n=>?_,y.nb}
 .let f:a∉m1:=λz=>by let:=x.new a z n;rw[this]at h;cases h
  exact y.keep a o (x.keep a o h n nb) f nb
 .by_cases b:a∈m1
  .exact x.new a b n
  .cases e:H a with
   |none=>rfl
   |some o=>
    by_cases hb:a∈B
    .exact absurd h (y.nb a hb)
    .let:=x.keep a o e n hb;rw[y.new a h b]at this;cases this
def AtB.ext(h:AtB B m H)(x:Ext m H c H'):AtB B c H':=λb hb=>by
 let{⟨v,e⟩,n}:=h b hb;exact{{v,x.keep _ _ e n},(x.toB h).nb b hb}
abbrev IOk(K:VX)(B:List Addr)(J:It)(nx:Nxt)(m0:List Addr)(b:Hp):Prop:=∀ (m:List Addr) (S:Sto) (H:Hp) (i:Nat),ExtB B m0 b m H->Rel K m S H ->
 (nx i S=aw aD->J.stop i H)/\(∀d,nx i S=aw (aw d)->J.go i H/\∀x h,J.yld i H x h->Aft K m H S m h/\VD K m h d x)
abbrev tIt(K:VX)(B:List Addr)(x:XI):TI:=λf H R=>∃m d S nx c,EnvR K m H d f/\Rel K m S H/\AtB B m H/\x d S=aw (nx,c)/\∀b h J,Aft K m H c b h->IOk K B J nx b h->R J h
abbrev nxL(d:List D):Nxt:=λi _=>aw d[i]?
abbrev nxS(n:Nat):Nxt:=λi S=>(aR S n).map λd=>d[i]?
abbrev nxR(lo:Int)(n:Nat):Nxt:=λi _=>aw (if i < n then aw (.int (lo+i)) else aD)
abbrev qm(i:Nat)(d:D):D:=.tup [.int i,d]
abbrev enm(d:List D)(i:Nat):Option (Option D):=if i<=d.length then aw (d[i]?.map (qm i)) else aD
abbrev GC(d:List D):Nxt:=λi _=>enm d i
section
variable {X:Cx} {K:VX} {m B:List Addr} {H:Hp} {S:Sto}
def GD(R:Rel K m0 d b)(c:AtB B m0 b)(x:ExtB B m0 b m H)(h:b a=aw (.tup xs)):H a=aw (.tup xs):=x.keep _ _ h (R.notTup h) λz=>by
 let{⟨v,e⟩,_}:=c a z;rw[e]at h;cases h
def VDs.monoB(R:Rel K m0 f b)(c:AtB B m0 b)(x:ExtB B m0 b m H)(h:VDs K m0 b d vs):VDs K m H d vs:=VDs.mono0 x.pre (λ_ _=>GD R c x) h
def VD.monoB(R:Rel K m0 f b)(c:AtB B m0 b)(x:ExtB B m0 b m H)(h:VD K m0 b d v):VD K m H d v:=VD.mono0 x.pre (λ_ _=>GD R c x) h
def EnvR.monoB(R:Rel K m0 j b)(c:AtB B m0 b)(x:ExtB B m0 b m H)(h:EnvR K m0 b f σ):EnvR K m H f σ:=
 {h.len,λi d e=>let ⟨v,p,q⟩:=h.at_ i d e;{v,p,VD.monoB R c x q}}
def uo(h:∀m S H i o,ExtB B m0 H0 m H->Rel K m S H->nx i S=aw o->∃f b,o=f[i]?/\SqL K H a b/\VDs K m H f b):IOk K B (Itl K a) nx m0 H0:=by
 intro m S H i x R;refine⟨λe=>?_,λd e=>?_⟩
 .let{f,b,E,c,vd}:=h m S H i _ x R e;exact{b,c,by rw[<-vd.length];exact Z3.mp E.symm}
 .let{f,b,E,c,vd}:=h m S H i _ x R e;let{v,j,k}:=vd.get E.symm;calc{⟨b,v,c,j⟩,λy p ⟨l,n⟩=>?_};subst l;let:=n b c;rw[j]at this;cases this;exact{Aft.refl R,k}
def GF(j:Rel K m0 u H0)(f:AtB B m0 H0)(n:H0 a=aw (.tup vs))(vd:VDs K m0 H0 p vs):IOk K B (Itt K a) (nxL p) m0 H0:=by
 intro m S H i x R;let b:SqT K H a vs:=.of (GD j f x n);let c:=vd.monoB j f x;refine{λe=>{vs,b,?_},λd e=>?_}
 .rw[<-c.length];exact Z3.mp (Option.some.inj e)
 .let{v,h,k}:=c.get (Option.some.inj e);calc{⟨vs,v,b,h⟩,λy q ⟨E,l⟩=>?_};subst E;let:=l vs b;rw[h]at this;cases this;exact{Aft.refl R,k}
def yr{lo:Int}{n:Nat}:IOk K B (Itr lo n) (nxR lo n) m0 H0:=by
 intro m S H i x R;delta nxR;refine⟨λe=>?_,λd e=>?_⟩
 .split at e
  .cases e
  .show n<=i;lia
 .split at e
  .rename_i hi;cases e;exact{hi,λy b ⟨E,h⟩=>by subst E;subst h;exact{Aft.refl R,bg}}
  .cases e
def GG(h:∀m S H i o,ExtB B m0 H0 m H->Rel K m S H->nx i S=aw o->∃c b,enm c i=aw o/\j K H a b/\VDs K m H c b):IOk K B (Ite K a j) nx m0 H0:=by
 intro m S H i x R;refine⟨λe=>?_,λd e=>?_⟩
 .let{c,b,E,f,vd}:=h m S H i _ x R e;delta enm at E;split at E
  .rename_i J;calc{b,f,?_};rw[<-vd.length];cases hd:c[i]? with
   |none=>have:=Z3.mp hd;lia
   |some z=>rw[hd]at E;cases E
  .cases E
 .let{c,b,E,f,vd}:=h m S H i _ x R e;delta enm at E;split at E
  .cases hd:c[i]? with
   |none=>rw[hd]at E;cases E
   |some z=>
    rw[hd]at E;cases E;let{v,l,C}:=vd.get hd;calc{⟨b,v,f,l⟩,λy I ⟨T,n,u,p⟩=>?_};subst u;let q:=p b v f l;subst q;let k:=Ext.beside R n (.tup [.int i,v]);exact{{k,R.beside n _},iP az (.cons bg (.cons (C.mono R k) .nil))}
  .cases E
abbrev Vf(d:D):Option Nxt:=match d with
 |.tup ds=>aw (nxL ds)
 |.ref n=>aw (nxS n)
 |_=>aD
abbrev xIV(x:XE):XI:=λc S=>bnd (x c S) λd b=>match d with
 |.tup ds=>aw (nxL ds,b)
 |.ref n=>if (aR b n).isSome=aN then aw (nxS n,b) else aD
 |_=>aD
abbrev xIT(x:XA):XI:=λb S=>bnd (x b S) λd c=>aw (nxL d,c)
abbrev xEV(x:XE):XI:=λb S=>bnd (x b S) λd c=>match d with
 |.tup ds=>aw (GC ds,c)
 |_=>aD
abbrev lim(i:Int):Bool:=decide (-(2 ^ 62)<=i) && decide (i < 2 ^ 62)
abbrev xR1(x:XE):XI:=λb S=>bnd (x b S) λd c=>match d with
 |.int j=>if lim j=aN then aw (nxR 0 j.toNat,c) else aD
 |_=>aD
abbrev xR2(x y:XE):XI:=λb S=>bnd (x b S) λd f=>bnd (y b f) λe c=>match d,e with
 |.int i,.int j=>if lim i=aN/\lim j=aN then aw (nxR i (j - i).toNat,c) else aD
 |_,_=>aD
def gx{i:Int}(h:lim i=aN):-(2 ^ 62)<=i/\i < 2 ^ 62:=by simpa[lim] using h
def yt{n:Nat}(b:m0[n]?=aw a)(x:m0 <+: m)(R:Rel K m S H)(hs:aR S n=aw d):∃vs,SqL K H a vs/\VDs K m H d vs:=by
 let{p,vs,h,c,vd}:=R.seq hs;let:=l8 x b;rw[this]at h;cases h;exact⟨vs,c,vd⟩
def UF(b:AtB B m H)(h:H a=aD):a∉B:=λz=>by
 let{⟨v,e⟩,_}:=b a z;rw[h]at e;cases e
def UG(h:tIt K B (xIV x) z H R):BE K (tE K x) z H R\/Rf K (tE K x) z H R:=by
 let{m,C,S,nx,S',E,J,U,e,q}:=h;let{d,S1,L,e}:=ac e;cases d with
 |tup T=>
  cases e;calc .inr {m,C,S,_,_,E,J,L,λm1 j v b vd=>?_};let{a,k,rfl,f,vds}:=vd.tups;exact{a,rfl,{k,.of f},q m1 j _ b (GF b.rel (U.ext b.ext) f vds)}
 |ref n=>
  dsimp! at e;split at e
  .rename_i hs;cases e;calc .inl {m,C,S,_,_,E,J,L,λm1 j v b vd=>?_};let{a,I,rfl}:=vd.refs;let{T,p}:=Yq.mp hs;let{k,f,vds}:=yt I (Yp _) b.rel p;calc{a,rfl,⟨k,f⟩,q m1 j _ b (uo λm2 Z H2 i o O R2 c=>?_)};delta nxS at c;cases u:aR Z n with
   |none=>rw[u]at c;cases c
   |some Y=>
    rw[u]at c;cases c;let{Q,l,y}:=yt I O.pre R2 u;exact⟨Y,Q,rfl,l,y⟩
  .cases e
 |_=>cases e
def UH(h:tIt K B (xIT x) k H R):BE K (ju K x) k H R:=by
 let{m,l,S,nx,O,E,u,d,e,q}:=h;let{n,L,C,e}:=ac e;cases e;calc{m,l,S,_,_,E,u,C,λm1 j a v b f p J y vd=>{a,rfl,{v,.of f},q m1 j _ b (uo λQ T I i o c R2 z=>?_)}};cases z;exact{n,v,rfl,.of (c.keep _ _ f p (UF d y)),vd.monoB b.rel (d.ext b.ext) c}
def RL(h:tIt K B (xEV x) n H R):RC K (cf (tE K x) ji) n H R:=by
 let{m,p,S,nx,L,E,y,j,e,q}:=h;let{d,J,C,e}:=ac e;cases d with
 |tup u=>
  cases e;calc{m,p,S,_,_,E,y,C,λm1 l v b vd=>?_};let{a,f,rfl,k,vds}:=vd.tups;refine{a,f,rfl,.of k,q m1 l _ b (GG λO Q I i o c R2 z=>{u,f,z,.of (GD b.rel (j.ext b.ext) c k),vds.monoB b.rel (j.ext b.ext) c})}
 |_=>cases e
def RM(h:tIt K B (xR1 x) l H R):Ki (cf (tE K x) ji) l H R:=by
 let{m,p,S,nx,z,E,k,y,e,q}:=h;let{d,f,u,e}:=ac e;calc{m,p,S,d,f,E,k,u,λm1 c v n vd=>?_};cases d with
 |int j=>
  dsimp! at e;split at e
  .rename_i b;cases e;exact{j,by rw[vd.ints],(gx b).1,(gx b).2,q m1 c _ n yr}
  .cases e
 |_=>cases e
def RN(h:tIt K B (xR2 x y) p H R):Kj (cf (tE K x) (cf (tE K y) ji)) p H R:=by
 let{m,k,S,nx,U,E,n,T,e,q}:=h;let{d,l,O,e}:=ac e;let{c,L,C,e}:=ac e;calc{m,k,S,d,l,E,n,O,λm1 Q v f vd=>{m1,k,l,c,L,E.mono n f.ext,f.rel,C,λJ u w I z=>?_}};cases d with
 |int i=>
  cases c with
  |int j=>
   dsimp! at e;split at e
   .rename_i b;cases e;exact{i,j,by rw[vd.ints,z.ints],{(gx b.1).1,(gx b.1).2,(gx b.2).1,(gx b.2).2},q J u _ (f.trans I) yr}
   .cases e
  |_=>cases e
 |_=>cases e
inductive Tg where
 |n (i:Nat) |tup (ts:List Tg)
mutual
noncomputable def aA:Tg->D->Rho->Option Rho
 |.n i,d,ρ=>if i < ρ.length then aw (ρ.set i (aw d)) else aD
 |.tup ts,.tup ds,ρ=>aO ts ds ρ
 |_,_,_=>aD
noncomputable def aO:List Tg->List D->Rho->Option Rho
 |[],[],ρ=>aw ρ
 |t::ts,d::ds,ρ=>match aA t d ρ with
  |some b=>aO ts ds b
  |none=>aD
 |_,_,_=>aD
end
abbrev tTg(K:VX)(t:Tg):TG:=λx h H Q=>∃m S f d b,Rel K m S H/\EnvR K m H f h/\VD K m H d x/\aA t d f=aw b/\∀c,EnvR K m H b c->Q c H
abbrev Cz(K:VX)(T:List Tg):TGs:=λj h H Q=>∃m S d f b,Rel K m S H/\EnvR K m H d h/\VDs K m H f j/\aO T f d=aw b/\∀c,EnvR K m H b c->Q c H
def EnvR.set{i:Nat}(E:EnvR K m H f c)(h:VD K m H d v):EnvR K m H (f.set i (aw d)) (c.set i (aw v)):=by
 calc{by simp[E.len],λj k e=>?_};rw[YC]at e;rw[YC,<-E.len];by_cases b:i=j
 .rw[if_pos b]at e ⊢;split at e
  .rename_i l;rw[if_pos l];cases e;exact⟨v,rfl,h⟩
  .cases e
 .rw[if_neg b]at e ⊢;exact E.at_ j k e
def rY{i:Nat}(h:tTg K (.n i) x b H Q):tH i x b H Q:=by
 let{m,S,f,d,c,R,E,vd,e,q}:=h;simp![aA]at e;split at e
 .cases e;exact q _ (E.set vd)
 .cases e
def ML{n:Nat}(j:n=T.length)(h:tTg K (.tup T) x k H Q):Rb K n (Cz K T) x k H Q:=by
 let{m,S,f,d,b,R,E,vd,e,q}:=h;cases d with
 |tup c=>
  simp![aA]at e;let{a,v,rfl,l,vds}:=vd.tups;refine{a,v,rfl,.of l,?_,m,S,f,c,b,R,E,vds,e,q}
  let len:∀ (T:List Tg) (c:List D) (f b:Rho),aO T c f=aw b->T.length=c.length:=by
   intro T
   induction T with
   |nil=>intro c f b e;cases c with |nil=>rfl |cons _ _=>simp[aO]at e
   |cons t T I=>
    intro c f b e;cases c with
    |nil=>simp[aO]at e
    |cons d c=>
     simp![aO]at e;split at e
     .simp[I _ _ _ e]
     .cases e
  rw[j,<-vds.length];exact(len _ _ _ _ e).symm
 |_=>simp[aA]at e
def GH(h:Cz K [] xs b H Q):Ra xs b H Q:=by
 let{m,S,f,d,c,R,E,vd,e,q}:=h;cases d with
 |nil=>simp[aO]at e;subst e;rw[VDs]at vd;exact{vd,q _ E}
 |cons _ _=>simp[aO]at e
def CA(h:Cz K (t::T) xs l H Q):Kh (tTg K t) (Cz K T) xs l H Q:=by
 let{m,S,j,c,f,R,E,vd,e,q}:=h;cases c with
 |nil=>simp[aO]at e
 |cons d c=>
  simp![aO]at e;rw[VDs]at vd;let{y,r,rfl,p,u}:=vd;cases hb:aA t d j with
  |none=>rw[hb]at e;cases e
  |some b=>
   rw[hb]at e;exact{y,r,rfl,m,S,j,d,b,R,E,p,hb,λn k=>⟨m,S,b,c,f,R,k,u,e,q⟩}
def PG.imp(h:PG X e t)(f:∀x b H Q,t' x b H Q->t x b H Q):PG X e t':=λp s b H v u Q I r q=>h p s b H v u Q I r (f v b H Q q)
def PGs.imp(h:PGs X E t)(f:∀x b H Q,t' x b H Q->t x b H Q):PGs X E t':=λp s b H v u Q I r q=>h p s b H v u Q I r (f v b H Q q)
end
inductive Fl where
 |nx |bk |ct |rt (d:D)
@[inline]abbrev XS:=Rho->Sto->Option (Fl×Rho×Sto)
abbrev CB(K:VX)(m:List Addr)(H:Hp)(f:Fl)(c:Rho)(D:Ends):Prop:=match f with
 |.nx=>∀b,EnvR K m H c b->D.nx b H
 |.bk=>∀b,EnvR K m H c b->D.bk b H
 |.ct=>∀b,EnvR K m H c b->D.ct b H
 |.rt d=>∀v,VD K m H d v->D.rt v H
abbrev tSt(K:VX)(x:XS):TS:=λD k H=>∃m f S j b d,EnvR K m H f k/\Rel K m S H/\x f S=aw (j,b,d)/\∀c h,Aft K m H d c h->CB K c h j b D
section
variable {X:Cx} {K:VX} {m:List Addr} {H:Hp} {S:Sto}
abbrev CC(x y:XS):XS:=λb S=>match x b S with
 |none=>aD
 |some (.nx,ρ1,S1)=>y ρ1 S1
 |some r=>aw r
abbrev Kv:XS:=λb S=>aw (.nx,b,S)
def GI{D:Ends}{b:L2.St}{H:Hp}(h:tSt K Kv D b H):Ke D b H:=by
 let{m,f,S,j,c,d,E,R,e,q}:=h;cases e;exact q m H (Aft.refl R) b E
def MM{x y:XS}{D:Ends}{l:L2.St}{H:Hp}(h:tSt K (CC x y) D l H):Q7 (tSt K x) (tSt K y) D l H:=by
 let{m,n,S,L,k,C,E,R,e,q}:=h;delta CC at e;cases f:x n S with
 |none=>rw[f]at e;cases e
 |some r=>
  let{p,c,u}:=r;rw[f]at e;calc{m,n,S,p,c,u,E,R,f,λm1 j b=>?_};cases p with
  |nx=>exactλv B=>{m1,c,u,L,k,C,B,b.rel,e,λJ z I=>q J z (b.trans I)}
  |bk=>cases e;exact q m1 j b
  |ct=>cases e;exact q m1 j b
  |rt d=>cases e;exact q m1 j b
abbrev uq(x:XE):XS:=λb S=>match x b S with
 |none=>aD
 |some (_,S1)=>aw (.nx,b,S1)
abbrev CD(x:XE):XS:=λb S=>match x b S with
 |none=>aD
 |some (d,S1)=>aw (.rt d,b,S1)
abbrev RO:XS:=λb S=>aw (.ct,b,S)
def GJ{x:XE}{D:Ends}{c:L2.St}{H:Hp}(h:tSt K (uq x) D c H):Kg (tE K x) D c H:=by
 let{m,j,S,u,l,p,E,R,e,q}:=h;delta uq at e;cases b:x j S with
 |none=>rw[b]at e;cases e
 |some r=>
  let{d,n}:=r;rw[b]at e;cases e;exact{m,j,S,d,_,E,R,b,λm1 k v f _=>q m1 k f c (E.mono R f.ext)}
def MN{x:XE}{D:Ends}{c:L2.St}{H:Hp}(h:tSt K (CD x) D c H):LC (tE K x) D c H:=by
 let{m,f,S,u,l,p,E,R,e,q}:=h;delta CD at e;cases b:x f S with
 |none=>rw[b]at e;cases e
 |some r=>
  let{d,n}:=r;rw[b]at e;cases e;exact{m,f,S,d,_,E,R,b,λm1 j v k vd=>q m1 j k v vd}
def MO{D:Ends}{b:L2.St}{H:Hp}(h:tSt K RO D b H):Kf D b H:=by
 let{m,f,S,j,c,d,E,R,e,q}:=h;cases e;exact q m H (Aft.refl R) b E
abbrev xIf(c:XT)(x y:XS):XS:=λd S=>match c d S with
 |none=>aD
 |some (b,S1)=>if b=aN then x d S1 else y d S1
def RP{c:XT}{x y:XS}{D:Ends}{v:L2.St}{H:Hp}(h:tSt K (xIf c x y) D v H):Q8 (tT K c) (tSt K x) (tSt K y) D v H:=by
 let{m,j,S,B,f,z,E,R,e,q}:=h;delta xIf at e;cases p:c j S with
 |none=>rw[p]at e;cases e
 |some r=>
  let{b,n}:=r;rw[p]at e;dsimp! at e;calc{m,j,S,b,n,E,R,p,λm1 C d=>?_};dsimp!;split
  .rename_i hb;rw[if_pos hb]at e;exact{m1,j,n,B,f,z,E.mono R d.ext,d.rel,e,λl u k=>q l u (d.trans k)}
  .rename_i hb;rw[if_neg hb]at e;exact{m1,j,n,B,f,z,E.mono R d.ext,d.rel,e,λl u k=>q l u (d.trans k)}
abbrev pL(x:XE)(t:Tg):XS:=λc S=>match x c S with
 |none=>aD
 |some (d,S1)=>(aA t d c).map λb=>(.nx,b,S1)
def w5{x:XE}{t:Tg}{D:Ends}{k:L2.St}{H:Hp}(h:tSt K (pL x t) D k H):Bz (tE K x) (tTg K t) D k H:=by
 let{m,b,S,B,u,z,E,R,e,q}:=h;delta pL at e;cases c:x b S with
 |none=>rw[c]at e;cases e
 |some r=>
  let{d,y}:=r;rw[c]at e;dsimp! at e;cases hb:aA t d b with
  |none=>rw[hb]at e;cases e
  |some l=>
   rw[hb]at e;cases e;exact{m,b,S,d,_,E,R,c,λm1 n v f vd=>{m1,_,b,d,_,f.rel,E.mono R f.ext,vd,hb,λj p=>q m1 n f j p}}
abbrev ur(v o i:XE):XS:=λb S=>match v b S with
 |none=>aD
 |some (dv,S1)=>match o b S1 with
  |none=>aD
  |some (d_o,S2)=>match i b S2 with
   |none=>aD
   |some (di,S3)=>(kj d_o di dv S3).map λc=>(.nx,b,c)
def GK{v o i:XE}{D:Ends}{l:L2.St}{H:Hp}(h:tSt K (ur v o i) D l H):Bz (tE K v) (Rc (tE K o) (tE K i) (RJ K)) D l H:=by
 let{m,c,S,fl,Z,S',E,R,e,q}:=h;delta ur at e;cases j:v c S with
 |none=>rw[j]at e;cases e
 |some r1=>
  let{B,u}:=r1;rw[j]at e;dsimp! at e;cases z:o c u with
  |none=>rw[z]at e;cases e
  |some r2=>
   let{k,C}:=r2;rw[z]at e;dsimp! at e;cases L:i c C with
   |none=>rw[L]at e;cases e
   |some T=>
    let{n,J}:=T;rw[L]at e;dsimp! at e;cases h4:kj k n B J with
    |none=>rw[h4]at e;cases e
    |some S4=>
     rw[h4]at e;cases e;calc{m,c,S,B,u,E,R,j,λm1 H1 v1 b y=>{m1,c,u,k,C,E.mono R b.ext,b.rel,z,λY H2 v2 d I=>{Y,c,C,n,J,E.mono R (b.trans d).ext,d.rel,L,λQ H3 v3 f p=>?_}}};exact{Q,J,k,n,B,_,f.rel,I.mono d.rel f.ext,p,y.mono b.rel (d.trans f).ext,h4,λm4 U O=>q m4 U (((b.trans d).trans f).trans O) l (E.mono R (((b.trans d).trans f).trans O).ext)}
abbrev eJ(nx:Nxt)(T:Tg)(b:XS):Nat->Nat->XS
 |0,_=>λ_ _=>aD
 |k+1,i=>λf S=>match nx i S with
  |none=>aD
  |some aD=>aw (.nx,f,S)
  |some (aw d)=>match aA T d f with
   |none=>aD
   |some c=>match b c S with
    |none=>aD
    |some (.nx,ρ2,S2)=>eJ nx T b k (i+1) ρ2 S2
    |some (.ct,ρ2,S2)=>eJ nx T b k (i+1) ρ2 S2
    |some (.bk,ρ2,S2)=>aw (.nx,ρ2,S2)
    |some (.rt d,ρ2,S2)=>aw (.rt d,ρ2,S2)
abbrev CF(it:XI)(T:Tg)(b:XS)(k:Nat):XS:=λc S=>match it c S with
 |none=>aD
 |some (nx,S1)=>eJ nx T b k 0 c S1
abbrev lpW(K:VX)(nx:Nxt)(T:Tg)(b:XS)(m1:List Addr)(n:Hp)(D:Ends)(i k:Nat)(p:L2.St)(H:Hp):Prop:=∃m j S l c f,EnvR K m H j p/\Rel K m S H/\Ext m1 n m H/\eJ nx T b k i j S=aw (l,c,f)/\∀d h,Aft K m H f d h->CB K d h l c D
def GL{nx:Nxt}{T:Tg}{b:XS}{J:It}{m1:List Addr}{U:Hp}{D:Ends}(hI:IOk K [] J nx m1 U)(k:Nat){m:List Addr}{B:Rho}{S:Sto}{f:L2.St}{H:Hp}{I:Fl}{c:Rho}{C:Sto}(E:EnvR K m H B f)(R:Rel K m S H)(x:Ext m1 U m H)(e:eJ nx T b k 0 B S=aw (I,c,C))(q:∀L h,Aft K m H C L h->CB K L h I c D) :
  ∃W:Nat->Nat->L2.St->Hp->Prop,(∃m,W 0 m f H)/\∀i m f H,W i m f H ->
   (J.stop i H/\D.nx f H)\/(J.go i H/\∃N:L2.St->Hp->Prop,(∀p h,N p h->∃L,L < m/\W (i+1) L p h)/\∀x h,J.yld i H x h->tTg K T x f h λO H2=>tSt K b {D with nx:=N,ct:=N,bk:=D.nx} O H2):=by
 calc{lpW K nx T b m1 U D,⟨k,m,B,S,I,c,C,E,R,x,e,q⟩,?_};intro i k f H z;let{m,B,S,I,c,C,E,R,x,e,q}:=z;cases k with
 |zero=>simp[eJ]at e
 |succ k=>
  simp![eJ]at e;cases Z:nx i S with
  |none=>rw[Z]at e;cases e
  |some o=>
   rw[Z]at e;let{h1,h2}:=hI m S H i (x.toB λb hb=>absurd hb (by simp)) R;cases o with
   |none=>cases e;exact .inl {h1 Z,q m H (Aft.refl R) f E}
   |some d=>
    let{go,hy}:=h2 d Z;dsimp! at e;cases hb:aA T d B with
    |none=>rw[hb]at e;cases e
    |some u=>
     rw[hb]at e;dsimp! at e;cases hx:b u S with
     |none=>rw[hx]at e;cases e
     |some r=>
      let{f2,l,S2}:=r;rw[hx]at e;calc .inr {go,lpW K nx T b m1 U D (i+1) k,λp h z=>{k,Y2 k,z},λy h yl=>?_};let{A,vd}:=hy y h yl;calc{m,S,B,d,u,A.rel,E.mono R A.ext,vd,hb,λO E2=>{m,u,S,f2,l,S2,E2,A.rel,hx,λY H3 j=>?_}};cases f2 with
      |nx=>exactλn Q=>{Y,l,S2,I,c,C,Q,j.rel,(x.trans A.ext).trans j.ext,e,λm4 H4 A4=>q m4 H4 ((A.trans j).trans A4)}
      |ct=>exactλn Q=>{Y,l,S2,I,c,C,Q,j.rel,(x.trans A.ext).trans j.ext,e,λm4 H4 A4=>q m4 H4 ((A.trans j).trans A4)}
      |bk=>cases e;exactλn Q=>q Y H3 (A.trans j) n Q
      |rt d=>cases e;exactλv vd=>q Y H3 (A.trans j) v vd
def MP{it:XI}{T:Tg}{b:XS}{k:Nat}{D:Ends}{d:L2.St}{H:Hp}(h:tSt K (CF it T b k) D d H):Rg (tIt K [] it) (tTg K T) (tSt K b) D d H:=by
 let{m,f,S,B,u,z,E,R,e,q}:=h;delta CF at e;cases hi:it f S with
 |none=>rw[hi]at e;cases e
 |some r=>
  let{nx,n}:=r;rw[hi]at e;exact{m,f,S,nx,n,E,R,λb hb=>absurd hb (by simp),hi,λm1 y J c p=>GL p k (E.mono R c.ext) c.rel (Ext.refl _ _) e λl v j=>q l v (c.trans j)}
abbrev bH(c:XT)(b:XS):Nat->XS
 |0=>λ_ _=>aD
 |k+1=>λf S=>match c f S with
  |none=>aD
  |some (aS,S1)=>aw (.nx,f,S1)
  |some (aN,S1)=>match b f S1 with
   |none=>aD
   |some (.nx,ρ2,S2)=>bH c b k ρ2 S2
   |some (.ct,ρ2,S2)=>bH c b k ρ2 S2
   |some (.bk,ρ2,S2)=>aw (.nx,ρ2,S2)
   |some (.rt d,ρ2,S2)=>aw (.rt d,ρ2,S2)
def CG{c:XT}{b:XS}{k:Nat}{D:Ends}{n:L2.St}{H:Hp}(h:tSt K (bH c b k) D n H):BC (tT K c) (tSt K b) D n H:=by
 calc{λk n H=>tSt K (bH c b k) D n H,⟨k,h⟩,λk n H h=>?_};let{m,C,S,fl,B,S',E,R,e,q}:=h;cases k with
 |zero=>simp[bH]at e
 |succ k=>
  simp![bH]at e;cases Q:c C S with
  |none=>rw[Q]at e;cases e
  |some r=>
   let{bb,O}:=r;rw[Q]at e;calc{m,C,S,bb,O,E,R,Q,λm1 H1 f=>?_};cases bb with
   |false=>cases e;exact q m1 H1 f n (E.mono R f.ext)
   |true=>
    dsimp! at e;cases J:b C O with
    |none=>rw[J]at e;cases e
    |some r=>
     let{Z,j,U}:=r;rw[J]at e;calc{λy Y=>tSt K (bH c b k) D y Y,λy Y z=>{k,Y2 k,z},m1,C,O,Z,j,U,E.mono R f.ext,f.rel,J,λI H3 p=>?_};cases Z with
     |nx=>exactλl u=>{I,j,U,fl,B,S',u,p.rel,e,λm4 L T=>q m4 L ((f.trans p).trans T)}
     |ct=>exactλl u=>{I,j,U,fl,B,S',u,p.rel,e,λm4 L T=>q m4 L ((f.trans p).trans T)}
     |bk=>cases e;exactλl u=>q I H3 (f.trans p) l u
     |rt d=>cases e;exactλv vd=>q I H3 (f.trans p) v vd
end
mutual
noncomputable def dW:Tg->Rho->Bool
 |.n i,ρ=>match ρ[i]? with
  |some aD=>aN
  |_=>aS
 |.tup ts,ρ=>gy ts ρ
noncomputable def gy:List Tg->Rho->Bool
 |[],_=>aN
 |t::ts,ρ=>dW t ρ && gy ts ρ
end
structure LeR(ρ ρ':Rho):Prop where
 len:ρ.length=ρ'.length
 at_:∀ (i:Nat) (d:D),ρ[i]?=aw (aw d)->ρ'[i]?=aw (aw d)
def LeR.refl(ρ:Rho):LeR ρ ρ:={rfl,λ_ _ h=>h}
mutual
theorem ut:∀ {t:Tg} {d:D} {k b:Rho},LeR c k->dW t c=aN->aA t d k=aw b->LeR c b
 |.n i,d,k,b,l,f,e=>by
  simp![aA]at e;split at e
  .cases e;calc{by simp[l.len],λj p h=>?_};rw[YC];by_cases n:i=j
   .subst n;simp![dW]at f;rw[h]at f;cases f
   .rw[if_neg n];exact l.at_ j p h
  .cases e
 |.tup ts,.tup ds,k,b,l,f,e=>by
  simp![aA]at e;simp![dW]at f;exact qu l f e
 |.tup ts,.non,_,_,_,_,e=>by simp[aA]at e
 |.tup ts,.bl _,_,_,_,_,e=>by simp[aA]at e
 |.tup ts,.int _,_,_,_,_,e=>by simp[aA]at e
 |.tup ts,.str _,_,_,_,_,e=>by simp[aA]at e
 |.tup ts,.ref _,_,_,_,_,e=>by simp[aA]at e
theorem qu:∀ {T:List Tg} {j:List D} {c b:Rho},LeR h c->gy T h=aN->aO T j c=aw b->LeR h b
 |[],[],c,b,l,_,e=>by simp![aO]at e;cases e;exact l
 |[],_::_,_,_,_,_,e=>by simp[aO]at e
 |_::_,[],_,_,_,_,e=>by simp[aO]at e
 |t::T,d::j,c,b,l,f,e=>by
  simp![aO]at e;simp![gy,bAE]at f;cases hb:aA t d c with
  |none=>rw[hb]at e;cases e
  |some k=>rw[hb]at e;exact qu (ut l f.1 hb) f.2 e
end
section
variable {X:Cx} {K:VX} {m:List Addr} {H:Hp} {S:Sto}
def EnvR.weaken(E:EnvR K m H b σ)(l:LeR c b):EnvR K m H c σ:={l.len.trans E.len,λi d h=>E.at_ i d (l.at_ i d h)}
abbrev bC(nx:Nxt)(T:Tg)(c:XA)(f:Rho):Nat->Nat->Sto->Option (List D×Sto)
 |0,_,_=>aD
 |k+1,i,S=>match nx i S with
  |none=>aD
  |some aD=>aw ([],S)
  |some (aw d)=>match aA T d f with
   |none=>aD
   |some b=>bnd (c b S) λE j=>bnd (bC nx T c f k (i+1) j) λl h=>aw (E++l,h)
abbrev CH(t:XT)(c:XA):XA:=λd S=>bnd (t d S) λb f=>if b=aN then c d f else aw ([],f)
abbrev Kw(x:XE):XA:=λb S=>bnd (x b S) λd c=>aw ([d],c)
abbrev km(it:XI)(T:Tg)(c:XA)(k:Nat):XA:=λb S=>if dW T b=aN then bnd (it b S) λnx d=>bC nx T c b k 0 d else aD
abbrev nM(own:Nat)(it:XI)(T:Tg)(c:XA)(k:Nat):XA:=λb S=>bnd (it b S) λnx f=>if dW T (b++ZP own aD)=aN then
 (bnd (bC nx T c (b++ZP own aD) k 0 f) λE d=>if E.length<=100000 then aw (E,d) else aD) else aD
abbrev tCl(K:VX)(b:Addr)(c:XA):TS:=λD n H=>∃m j S E k z l,EnvR K m H j n/\Rel K m S H/\b∉m/\H b=aw (.lst l)/\VDs K m H z l/\z.length+E.length<=100000/\c j S=aw (E,k) ∧
 ∀f h d v,ExtB [b] m H f h->Rel K f k h->h b=aw (.lst v)->VDs K f h (z++E) v->EnvR K f h j d->D.nx d h
def CJ(h:H c=aw (.lst v))(n:c∉m):AtB [c] m H:=λb hb=>by simp at hb;subst hb;exact⟨⟨v,h⟩,n⟩
def ExtB.refl(n:c∉m):ExtB [c] m H m H:={Yp m,λ_ _ h _ _=>h,λ_ h n=>absurd h n,λb hb=>by simp at hb;subst hb;exact n}
def ExtB.put(n:c∉m)(o:HO):ExtB [c] m H m (upd H c o):=⟨Yp m,λa u h _ nb=>by
 rw[ae (λz=>nb (by simp[z]))];exact h,λ_ h n=>absurd h n,λb hb=>by simp at hb;subst hb;exact n⟩
def Rel.extB(R:Rel K m S H)(h:AtB [d] m H)(x:ExtB [d] m H m H')(k:∀b∈m,H' b=H b):Rel K m S H':=by
 calc{R.len,R.nd,λi o e=>?_};let{b,hb,r}:=R.ob i o e;let c:b∈m:=Zd hb;calc{b,hb,?_};cases o with
 |lst f=>let{v,p,q}:=r;exact{v,(k b c).trans p,VDs.monoB R h x q}
 |frz f=>let{o,v,p,q}:=r;exact{o,v,(k b c).trans p,VDs.monoB R h x q}
 |dic ks f=>let{v,p,l,q}:=r;exact{v,(k b c).trans p,l,VDs.monoB R h x q}
 |tbl T p q=>
  let{e,ps,z}:=r;calc{e,ps,(k _ c).trans z.at_,z.tr,λn u=>?_};let{C,B,j}:=z.cd n u;calc{C,B,x.keep _ _ j (R.notCd j) λy=>?_};let{⟨v,E⟩,_}:=h C y;rw[j]at E;delta cdO at E;cases E
 |dfz ks f=>let{o,v,p,l,q}:=r;exact{o,v,(k b c).trans p,l,VDs.monoB R h x q}
def GM{c:Addr}{x:XE}{D:Ends}{u:L2.St}{H:Hp}(h:tCl K c (Kw x) D u H):Kr c (tE K x) D u H:=by
 let{m,J,S,T,Y,zs,p,E,R,C,B,I,O,e,q}:=h;let{d,U,Q,e}:=ac e;cases e;calc{m,J,S,d,_,E,R,Q,λm1 y v j vd=>?_};let L:=CJ B C;let l:y c=aw (.lst p):=j.ext.keep _ _ B C;let xB:=j.ext.toB L;let n:c∉m1:=xB.nb c (by simp);let k:=ExtB.put (H:=y) n (.lst (p++[v]));let f:=CJ l n;let Z:=I.length;simp![Zm]at O;calc{p,l,by rw[ZaN];lia,q m1 _ u (p++[v]) (xB.trans k) (j.rel.extB f k λb hb=>ae λz=>n (z▸hb)) az ?_ ((E.mono R j.ext).monoB j.rel f k)};exact VDs.append ((I.mono R j.ext).monoB j.rel f k) (.cons (vd.monoB j.rel f k) .nil)
def GN{d:Addr}{t:XT}{c:XA}{D:Ends}{k:L2.St}{H:Hp}(h:tCl K d (CH t c) D k H):fW (tT K t) (tCl K d c) D k H:=by
 let{m,y,S,T,Y,zs,v,E,R,B,z,I,U,e,q}:=h;let{b,C,e1,e}:=ac e;calc{m,y,S,b,C,E,R,e1,λm1 u f=>?_};let O:=CJ z B;let j:u d=aw (.lst v):=f.ext.keep _ _ z B;let xB:=f.ext.toB O;let p:d∉m1:=xB.nb d (by simp);dsimp!;split
 .rename_i hb;rw[if_pos hb]at e;exact{m1,y,C,T,Y,zs,v,E.mono R f.ext,f.rel,p,j,I.mono R f.ext,U,e,λm2 Q l n L R2 Z J E2=>q m2 Q l n (xB.trans L) R2 Z J E2}
 .rename_i hb;rw[if_neg hb]at e;cases e;calc q m1 u k v xB f.rel j ?_ (E.mono R f.ext);rw[Z8];exact I.mono R f.ext
def uu{t:TS}{D:Ends}{b:L2.St}{H:Hp}(h:t D b H):fW F2 t D b H:=by
 show if aN=aN then t D b H else D.nx b H
 rw[if_pos rfl];exact h
def MQ{b:Addr}{c:XA}{D:Ends}{d:L2.St}{H:Hp}(h:tCl K b c D d H):fW F2 (tCl K b c) D d H:=by
 exact uu h
abbrev clW(K:VX)(b:Addr)(nx:Nxt)(T:Tg)(c:XA)(j:Rho)(m1:List Addr)(q:Hp)(p:Ends)(i k:Nat)(u:L2.St)(H:Hp):Prop:=∃m S l E z n,EnvR K m H j u/\Rel K m S H/\ExtB [b] m1 q m H/\H b=aw (.lst n)/\VDs K m H z n/\z.length+E.length<=100000/\bC nx T c j k i S=aw (E,l)/\∀f h d v,ExtB [b] m H f h->Rel K f l h->h b=aw (.lst v)->VDs K f h (z++E) v->EnvR K f h j d->p.nx d h
def yu(hI:IOk K [b] J nx m1 Q)(hts:∀D l H,tCl K b c D l H->ts D l H)(k:Nat)
  (fr:dW T f=aN) (E:EnvR K m H f l) (R:Rel K m S H) (x:ExtB [b] m1 Q m H) (n:H b=aw (.lst vs)) (I:VDs K m H zs vs) (hl:zs.length+B.length<=100000) (e:bC nx T c f k 0 S=aw (B,S'))
  (q:∀u h j v,ExtB [b] m H u h->Rel K u S' h->h b=aw (.lst v)->VDs K u h (zs++B) v->EnvR K u h f j->U.nx j h):tP J (tTg K T) ts U l H:=by
 calc{clW K b nx T c f m1 Q U,⟨k,m,S,S',B,zs,vs,E,R,x,n,I,hl,e,q⟩,?_};intro i k l H z;let{m,S,S',B,zs,vs,E,R,x,n,I,hl,e,q}:=z;let C:b∉m:=x.nb b (by simp);let hB:=CJ n C;cases k with
 |zero=>simp[bC]at e
 |succ k=>
  simp![bC]at e;cases L:nx i S with
  |none=>rw[L]at e;cases e
  |some o=>
   rw[L]at e;let{h1,h2}:=hI m S H i x R;cases o with
   |none=>
    cases e;exact .inl {h1 L,q m H l vs (ExtB.refl C) R n (by rw[Z8];exact I) E}
   |some d=>
    let{go,hy}:=h2 d L;dsimp! at e;cases hb:aA T d f with
    |none=>rw[hb]at e;cases e
    |some p=>
     rw[hb]at e;dsimp! at e;let{e1,S1,c1,e}:=ac e;let{rs,S2,c2,e}:=ac e;cases e;rw[Ze]at hl;calc .inr {go,clW K b nx T c f m1 Q U (i+1) k,λj h z=>{k,Y2 k,z},λy h yl=>?_};let{A,vd}:=hy y h yl;let xA:=A.ext.toB hB;let Y:h b=aw (.lst vs):=A.ext.keep _ _ n C;calc{m,S,f,d,p,A.rel,E.mono R A.ext,vd,hb,λσ2 E2=>hts _ _ _ {m,p,S,e1,S1,zs,vs,E2,A.rel,C,Y,I.mono R A.ext,by lia,c1,λm3 H3 σ3 Z x3 R3 h3 v3 E3=>?_}};calc{m3,S1,_,rs,zs++e1,Z,E3.weaken (ut (LeR.refl f) fr hb),R3,(x.trans xA).trans x3,h3,v3,by rw[Ze];lia,c2,λm4 H4 O vs4 x4 R4 h4 v4 E4=>?_};calc q m4 H4 O vs4 ((xA.trans x3).trans x4) R4 h4 ?_ E4;rw[<-Yk];exact v4
def CK{b:Addr}{it:XI}{T:Tg}{t:TT}{c C:XA}{k:Nat}{D:Ends}{f:L2.St}{H:Hp}(l:∀D f H,tCl K b c D f H->fW t (tCl K b C) D f H)(h:tCl K b (km it T c k) D f H):BV (tIt K [b] it) (tTg K T) t (tCl K b C) D f H:=by
 let{m,L,S,es,S',zs,vs,E,R,y,u,Z,Q,e,q}:=h;delta km at e;split at e
 .rename_i fr;let{nx,U,e1,e}:=ac e;let p:=CJ u y;calc{m,L,S,nx,U,E,R,p,e1,λm1 H1 J d I=>?_};let xB:=d.ext.toB p;let n:b∉m1:=xB.nb b (by simp);exact yu I l k fr (E.mono R d.ext) d.rel (ExtB.refl n) (d.ext.keep _ _ u y) (Z.mono R d.ext) Q e λm2 O j v B R2 Y z E2=>q m2 O j v (xB.trans B) R2 Y z E2
 .cases e
def EnvR.more(E:EnvR K m H b c)(n:Nat):EnvR K m H (b++ZP n aD) (c++ZP n aD):=by
 calc{by simp[E.len],λi d e=>?_};by_cases hi:i < b.length
 .rw[Zt hi]at e;rw[Zt (by rw[<-E.len];exact hi)];exact E.at_ i d e
 .rw[Zp (by lia),YH]at e;split at e <;> cases e
def yv{own:Nat}{k:Nat}(y:∀acc D p H,tCl K acc c D p H->fW t (tCl K acc Y) D p H)(h:ju K (nM own it tg c k) p H Q):BW own (tIt K [] it) (tTg K tg) (λacc=>fW t (tCl K acc Y)) p H Q:=by
 let{m,ρ,S,es,S',E,R,e,q}:=h;let{nx,S1,e1,e}:=ac e;split at e
 .rename_i fr;let{es',L,e2,e}:=ac e;split at e
  .rename_i hl;cases e;calc{m,ρ,S,nx,S1,E,R,λb hb=>absurd hb (by simp),e1,λm1 I J f hI acc d=>?_};let U:=Ext.beside f.rel d (.lst []);let Z:=f.rel.beside d (.lst []);let B:=f.rel.no d
   let C:IOk K [acc] J nx m1 (upd I acc (.lst [])):=by
    intro u L H2 i j R2;refine hI u L H2 i ⟨j.pre,λa o h n _=>?_,λa h n=>?_,λb hb=>absurd hb (by simp)⟩ R2
    .let ne:a≠acc:=aP h d;exact j.keep a o (by rw[ae ne];exact h) n (by simp[ne])
    .let:=j.new a h n;by_cases l:a=acc
     .subst l;exact d
     .rw[ae l]at this;exact this
   refine yu (zs:=[]) (vs:=[]) C (y acc) k fr ((E.mono R f.ext |>.mono f.rel U).more own) Z (ExtB.refl B) az .nil (by simpa using hl) e2 λu H2 σ2 v j R2 h2 T E2=>?_
   let xx:Ext m1 I u H2:=⟨j.pre,λa o h n=>by
    let ne:a≠acc:=aP h d;exact j.keep a o (by rw[ae ne];exact h) n (by simp[ne]),λa h n=>by
    let:=j.new a h n;by_cases l:a=acc
    .subst l;exact d
    .rw[ae l]at this;exact this⟩
   let hn:H acc=aD:=by
    cases eh:H acc with
    |none=>rfl
    |some o=>
     by_cases O:acc∈m
     .exact absurd (f.ext.pre.subset O) B
     .let:=f.ext.keep acc o eh O;rw[d]at this;cases this
   exact q u H2 acc v (f.trans ⟨xx,R2⟩) h2 (j.nb acc (by simp)) (λb hb z=>B (f.ext.pre.subset (z▸hb))) hn (by simpa using T)
  .cases e
 .cases e
end
section
variable {X:Cx} {K:VX} {m:List Addr} {H:Hp} {S:Sto}
abbrev CL(x y:XE):XE:=λc S=>bnd (x c S) λd b=>match d with
 |.bl aN=>y c b
 |.bl aS=>aw (.bl aS,b)
 |_=>aD
abbrev xOr(x y:XE):XE:=λc S=>bnd (x c S) λd b=>match d with
 |.bl aN=>aw (.bl aN,b)
 |.bl aS=>y c b
 |_=>aD
abbrev As:D->Sto->Option (D×Sto)
 |.bl b,S=>aw (.bl (!b),S)
 |_,_=>aD
abbrev MR:D->Sto->Option (D×Sto)
 |.int i,S=>aw (.int (-i),S)
 |_,_=>aD
abbrev MS(c:XT)(x y:XE):XE:=λd S=>bnd (c d S) λb f=>if b=aN then x d f else y d f
def CM(h:tE K (CL x y) u H Q):Kb (tE K x) (tE K y) u H Q:=by
 let{m,j,S,d,z,E,R,e,q}:=h;let{a,f,C,e}:=ac e;calc{m,j,S,a,f,E,R,C,λm1 n v c p=>?_};cases a with
 |bl b=>
  calc{b,p.bls,?_};cases b with
  |true=>exact{m1,j,f,d,z,E.mono R c.ext,c.rel,e,λl B w k vd=>q l B w (c.trans k) vd}
  |false=>cases e;exact q m1 n _ c cp
 |_=>cases e
def Kx(h:tE K (xOr x y) u H Q):Q6 (tE K x) (tE K y) u H Q:=by
 let{m,j,S,d,z,E,R,e,q}:=h;let{a,f,C,e}:=ac e;calc{m,j,S,a,f,E,R,C,λm1 n v c p=>?_};cases a with
 |bl b=>
  calc{b,p.bls,?_};cases b with
  |false=>exact{m1,j,f,d,z,E.mono R c.ext,c.rel,e,λl B w k vd=>q l B w (c.trans k) vd}
  |true=>cases e;exact q m1 n _ c cp
 |_=>cases e
def MU(h:tE K (xUn As x) l H Q):Kc (tE K x) l H Q:=by
 let{m,n,S,d,u,E,R,e,q}:=h;let{a,j,p,e}:=ac e;calc{m,n,S,a,j,E,R,p,λm1 c v k f=>?_};cases a with
 |bl b=>cases e;exact{b,f.bls,q m1 c _ k cp}
 |_=>cases e
def GO:UnR X (unaryOp .USub) (rS1 X.K MR):=by
 intro p s c H x v Q I f h;calc rb p s c H x v Q I f ?_;let{m,S,a,d,j,R,b,e,q}:=h;cases a with
 |int i=>cases e;exact{i,b.ints,q m H _ (Aft.refl R) bg}
 |_=>cases e
def MV(h:tE K (MS c x y) v H Q):tIf (tT K c) (tE K x) (tE K y) v H Q:=by
 let{m,n,S,d,u,E,R,e,q}:=h;let{b,l,z,e}:=ac e;calc{m,n,S,b,l,E,R,z,λm1 B f=>?_};dsimp!;split
 .rename_i hb;rw[if_pos hb]at e;exact{m1,n,l,d,u,E.mono R f.ext,f.rel,e,λk p w j vd=>q k p w (f.trans j) vd}
 .rename_i hb;rw[if_neg hb]at e;exact{m1,n,l,d,u,E.mono R f.ext,f.rel,e,λk p w j vd=>q k p w (f.trans j) vd}
abbrev Au(f g:D->D->Sto->Option (D×Sto))(x y z:XE):XE:=λd S=>bnd (x d S) λa k=>bnd (y d k) λb j=>bnd (f a b j) λr h=>match r with
 |.bl aN=>bnd (z d h) λc l=>g b c l
 |.bl aS=>aw (.bl aS,h)
 |_=>aD
def CN(h:tE K (Au f g x y z) U H Q):v9 (rS K f) (rS K g) (tE K x) (tE K y) (tE K z) U H Q:=by
 let{m,p,S,d,S',E,R,e,q}:=h;let{a,J,e1,e}:=ac e;let{b,O,e2,e}:=ac e;let{r,T,e3,e}:=ac e;calc{m,p,S,a,J,E,R,e1,λm1 H1 v j va=>{m1,p,J,b,O,E.mono R j.ext,j.rel,e2,λm2 H2 w l I=>?_}};calc{m2,O,a,b,r,T,l.rel,va.mono j.rel l.ext,I,e3,λC H3 u n vr=>?_};cases r with
 |bl k=>
  calc{k,vr.bls,?_};cases k with
  |true=>
   dsimp! at e;let{c,L,Y,e}:=ac e;exact{C,p,T,c,L,E.mono R ((j.trans l).trans n).ext,n.rel,Y,λm4 H4 y B vc=>{m4,L,b,c,d,S',B.rel,I.mono l.rel (n.trans B).ext,vc,e,λm5 Z t A5 vd=>q m5 Z t ((((j.trans l).trans n).trans B).trans A5) vd}}
  |false=>cases e;exact q C H3 _ ((j.trans l).trans n) cp
 |_=>cases e
abbrev CO(x y:XT):XT:=λd S=>bnd (x d S) λb c=>if b=aN then y d c else aw (aS,c)
abbrev MW(x y:XT):XT:=λd S=>bnd (x d S) λb c=>if b=aN then aw (aN,c) else y d c
abbrev CP(x:XT):XT:=λc S=>bnd (x c S) λb d=>aw (!b,d)
def CQ(h:tT K (CO x y) p H Q):Q4 (tT K x) (tT K y) p H Q:=by
 let{m,j,S,d,u,E,R,e,q}:=h;let{b,f,z,e}:=ac e;calc{m,j,S,b,f,E,R,z,λm1 n c=>?_};dsimp!;split
 .rename_i hb;rw[if_pos hb]at e;exact{m1,j,f,d,u,E.mono R c.ext,c.rel,e,λl v k=>q l v (c.trans k)}
 .rename_i hb;rw[if_neg hb]at e;cases e;exact q m1 n c
def Ky(h:tT K (MW x y) p H Q):tOr (tT K x) (tT K y) p H Q:=by
 let{m,j,S,d,u,E,R,e,q}:=h;let{b,f,z,e}:=ac e;calc{m,j,S,b,f,E,R,z,λm1 n c=>?_};dsimp!;split
 .rename_i hb;rw[if_pos hb]at e;cases e;exact q m1 n c
 .rename_i hb;rw[if_neg hb]at e;exact{m1,j,f,d,u,E.mono R c.ext,c.rel,e,λl v k=>q l v (c.trans k)}
def MX(h:tT K (CP x) j H Q):Q5 (tT K x) j H Q:=by
 let{m,k,S,d,p,E,R,e,q}:=h;let{b,n,l,e}:=ac e;cases e;exact{m,k,S,b,_,E,R,l,λm1 c f=>q m1 c f}
@[inline]abbrev Calls:=Nat->List D->Sto->Option (D×Sto)
abbrev spC(K:VX)(g:List D->Sto->Option (D×Sto))(n:Nat):Sp:=λj H Q _=>∃m b S d f,VDs K m H b j/\Rel K m S H/\b.length=n/\g b S=aw (d,f)/\∀c h v,Aft K m H f c h->VD K c h d v->Q v h
abbrev uv(g:List D->Sto->Option (D×Sto))(n:Nat)(x:XA):XE:=λb S=>bnd (x b S) λd c=>if d.length=n then g d c else aD
def GP{n:Nat}(h:tE K (uv g n x) j H Q):Kl (spC K g n) [] E0 (tAr K x) j H Q:=by
 let{m,k,S,d,u,E,R,e,q}:=h;let{c,f,C,e}:=ac e;split at e
 .rename_i p;refine{m,k,S,c,f,E,R,C,λm1 I J b vd=>{m1,c,f,d,u,by rw[Z8];exact vd,b.rel,p,e,λz l v y B=>q z l v (b.trans y) B}}
 .cases e
end
abbrev cS(x y:Int×List Int):Bool:=if x.1=y.1 then HT.dC x.2 y.2 else decide (x.1 < y.1)
def nP:∀ns:List Int,HT.dC ns ns=aS
 |[]=>rfl
 |n::ns=>by rw[HT.mM,if_pos rfl];exact nP ns
def mf{b:List Value}{ns:List Int}(h:IntsAre b ns):∀ (j:Nat) v,b[j]?=aw v->∃n t,ns[j]?=aw n/\v = .int n t:=by
 induction h with
 |nil=>intro j v e;simp at e
 |cons a t _ I=>
  intro j v e;cases j with
  |zero=>cases e;exact⟨a,t,rfl,rfl⟩
  |succ j=>exact I j v (by simpa using e)
def qv{A:Around}{s:Shared}{p q:Addr}{xs y:Array Value}{ns ms:List Int}(C:A.units < cLine)(z:s.heap.IsTuple p xs)(B:s.heap.IsTuple q y)(d:IntsAre xs.toList ns)(I:IntsAre y.toList ms):∃e,VS A s (.ref p) (.ref q) e/\(e=aN ↔ ns=ms):=by
 by_cases e:p=q
 .subst e;let{o,T,_,n,hd}:=z;let{U,h,_,X,c}:=B;rw[T]at h;cases h;rw[hd]at c;cases c
  let en:ns=ms:=by
   let l1:=d.length;let L:=I.length;calc YS λj=>?_;cases f:xs.toList[j]? with
   |none=>
    let:=Z3.mp f;rw[Zw (by lia),Zw (by lia)]
   |some v=>
    let{a,t,l,rfl}:=mf d j v f;let{b,Y,k,E}:=mf I j _ f;cases E;rw[l,k]
  exact{aN,.same _,by simp[en]}
 .refine{_,.of_refs e (SeqAt.RcAt.tuples (e:=λj=>decide (ns[j]?=ms[j]?)) z B C λj O Q=>?_),?_}
  .let{a,t,l,E}:=mf d j xs[j] (by simp[O]);let{b,u,k,J}:=mf I j y[j] (by simp[Q]);rw[l,k,E,J,show decide (aw a=aw b)=(a == b) by simp[Xn]];exact .int_int a t b u
  .let l1:ns.length=xs.size:=by rw[<-d.length];exact Zu
   let L:ms.length=y.size:=by rw[<-I.length];exact Zu
   rw[<-l1,<-L,vW,decide_eq_true_eq]
section
open PySem.SeqAt
open PySem.AutoSeq1 (wpAny_loadPart')
open PySem.MeetsSeq PySem.MeetsSeq2 PySem.MeetsSeq3
def pM(l b:Addr)(x y:Int)(t u:Tok)(p q:Addr)(n n2:Nat)(dd L:Option Addr)(sl J:Array (Option Value))(ns I:List Int) :
  Meets (Builtin.«tuple.__lt__» ⟨[.ref l,.ref b],[]⟩)
   (λA R s=>s.heap.get? l=aw {cls:=.type "tuple",dict:=dd,data:=.seq #[.int x t,.ref p] n,slots:=sl}/\s.heap.get? b=aw {cls:=.type "tuple",dict:=L,data:=.seq #[.int y u,.ref q] n2,slots:=J} ∧
    (∃xs Y,IsTup s.heap p xs/\IsTup s.heap q Y/\IntsAre xs.toList ns/\IntsAre Y.toList I)/\A.in1.units < cLine ∧
    R (.ok (.ret (.bool (cS (x,ns) (y,I))))) s):=
 .of_wp λprog w A R s h=>by
  let{B,g,d,T,os}:=s;let{hl,hb,⟨xs,Y,X,tq,i1,i2⟩,Z,h}:=h;let f2:=AutoSeq1.sub_tuple_tuple
  wp_walk using Zbc hl,Zbc hb,Za6 _ (λc b O=>b.1=aD/\O=⟨B,g,d,T,os⟩/\((c=[(.int x t,.int y u),(.ref p,.ref q)])\/(c=[(.ref p,.ref q)]/\x=y)\/(c=[]/\x=y/\ns=I))) _
  case turn=>
   rintro⟨v,z⟩ c b O ⟨k,rfl,j⟩;rcases j with j |⟨j,hxy⟩ |⟨j,_⟩
   .injection j with hvz hrest;injection hvz with hv hz;subst hv hz;let{e,U,f}:=HT.tL A.in1 ⟨B,g,d,T,os⟩ x t y u;calc ZaZ (U prog w _ _ ?_);cases e with
    |true=>
     wp_walk
     exact{rfl,rfl,.inr (.inl {hrest,f.mp rfl})}
    |false=>
     let C:=HT.tM A.in1 ⟨B,g,d,T,os⟩ x t y u prog w
     wp_walk using C
     calc{_,rfl,?_};delta cS at h;rw[if_neg (λq=>absurd (f.mpr q) Zh)]at h
     simpa using h
   .injection j with hvz hrest;injection hvz with hv hz;subst hv hz hxy;let{e,U,f}:=qv (A:=A.in1) (s:=⟨B,g,d,T,os⟩) Z X tq i1 i2;calc ZaZ (U prog w _ _ ?_);delta cS at h;rw[if_pos rfl]at h;cases e with
    |true=>
     wp_walk
     exact{rfl,rfl,.inr (.inr {hrest,rfl,f.mp rfl})}
    |false=>
     let C:∀ (E:Value->Shared->Prop) (Q:Value->Shared->Prop),Q (.bool (HT.dC ns I)) ⟨B,g,d,T,os⟩->wpAny (model prog w) A.in1 (ZaH .Lt (.ref p) (.ref q)) Q E ⟨B,g,d,T,os⟩:=λE Q hq=>HT.mP (s:=⟨B,g,d,T,os⟩) X tq i1 i2 Z hq
     wp_walk using C
     exact{_,rfl,by simpa using h}
   .cases j
  case fin=>
   rintro⟨b1,b2⟩ O ⟨k,rfl,j⟩;simp! at k;subst k;rcases j with j |⟨j,_⟩ |⟨_,hxy,hnm⟩
   .cases j
   .cases j
   .subst hxy hnm;delta cS at h;rw[if_pos rfl,nP]at h
    wp_walk
    exact{_,rfl,by simpa[Builtin.Tuple.tupleCompareSizes] using h}
  case h=>exact{rfl,rfl,.inl rfl}
end
section
variable {prog:Program} {w:World} {A:Around} {R:Result->Shared->Prop} {I S:Addr} {f g:List Addr} {n:Nat} {P:Nat->Value->Prop} {St:Nat->Heap->Prop} {bt:Nat->Nat->Bool} {base:Heap} {d:Value}
abbrev MY(prog:Program)(w:World)(A:Around)(base:Heap)(P:Nat->Value->Prop)(bt:Nat->Nat->Bool):Prop:=
 ∀i j b v (s:Shared) (Q:Value->Shared->Prop) (E:Value->Shared->Prop),(∀a o,base.get? a=aw o->s.heap.get? a=aw o)->P i b->P j v->Q (.bool (bt i j)) s->wpAny (model prog w) A (ZaH .Lt b v) Q E s
def CT(a d:Value):argsOk "min" ⟨[a],[(Str.ofString "default",d)]⟩:=by delta argsOk;kernel_rfl
def yw:(toString "min" ++ toString ".loop" : String) = "min.loop" := by decide
def nQ(W:Walks prog w A.in1 I f g n P St)(U:MY prog w A.in1 base P bt)(C:S∉f)(bw:∀a∈g,base.get? a=aD)(L:base.get? S=aD):∀ (m i:Nat) (s:Shared) (b:Value) (c:Nat),i+1+m=n->St (i+1) s.heap->P (argBest bt i) b->(∀a o,base.get? a=aw o->s.heap.get? a=aw o)->s.heap.get? S=aw {cls:=.type "list",dict:=aD,data:=.seq #[b,b] c,slots:=#[]} ->
  (∀v h' E,P (argBest bt (n - 1)) v->(∀a o,a∉g->a≠S->s.heap.get? a=aw o->h'.get? a=aw o)->R (.ok (.ret v)) {s with heap:=h',toks:=E})->codeAny (model prog w) A (.builtin "min.loop" ⟨[.ref I,.none,.ref S],[(Str.ofString "default",d)]⟩) R s
 |0,i,s,b,c,e,st,pb,kb,gs,r=>by
  let O:S∉g:=λh=>C (W.sub _ h);calc Zah Vn ?_;rw[Around.under_plainId Vu _];show wpAny _ A.in1 (ZaL (.ref S) >>= _) _ _ s;calc ZaZ (Zbs gs rfl ?_);show wpAny _ A.in1 (tryCatch (pyNext (.ref I)) _ >>= _) _ _ s;calc ZaZ (Zbx (W.done s _ _ (by rw[<-e];exact st) λh' E k=>?_));show wpAny _ A.in1 (ZaW S (λ_=>#[]) >>= _) _ _ _;calc ZaZ (ZbA (k S _ O gs) rfl (ZaZ (Zbb (Zbk ?_))));exact r b _ E (by rw[<-e];exact pb) λa o p y z=>(ZO _ _ (Ne.symm y)).trans (k a o p z)
 |m+1,i,s,b,c,e,st,pb,kb,gs,r=>by
  let O:S∉g:=λh=>C (W.sub _ h);calc Zah Vn ?_;rw[Around.under_plainId Vu _];show wpAny _ A.in1 (ZaL (.ref S) >>= _) _ _ s;calc ZaZ (Zbs gs rfl ?_);show wpAny _ A.in1 (tryCatch (pyNext (.ref I)) _ >>= _) _ _ s;calc ZaZ (Zbx (W.item (i+1) s _ _ (by lia) st λv h' E Y B k=>?_));let u:=k S _ O gs;let X:∀a o,base.get? a=aw o->a∉g/\a≠S:=λa o h=>{λz=>(by rw[bw a z]at h;cases h),λz=>(by rw[z,L]at h;cases h)};let l:∀a o,base.get? a=aw o->h'.get? a=aw o:=λa o h=>k a o (X a o h).1 (kb a o h);show wpAny _ A.in1 (tryCatch (holding [v,v] (ZaH .Lt v b >>= _)) _ >>= _) _ _ _;calc ZaZ (Zbx (Za8 (ZaZ (U (i+1) (argBest bt i) v b _ _ _ l Y pb ?_))));calc ZaZ (Za8 (Zbw ?_));calc ZaZ (Zbb (Zbk ?_));cases hb:bt (i+1) (argBest bt i) with
  |true=>
   simp![if_true];calc ZaZ (ZbA u rfl (ZaZ (Zbb ?_)));rw[yw];refine Zbk {ZaD Vu _,nQ W U C bw L m (i+1) _ v _ (by lia) (W.frame _ _ _ B λa af o z=>?_) (by simp![argBest,hb,if_true];exact Y) (λa o h=>(ZO _ _ (Ne.symm (X a o h).2)).trans (l a o h)) (Z5 _ u rfl) λJ j T q Q=>?_}
   .exact(ZO _ _ (λz:S=a=>C (by rw[z];exact af))).trans z
   .exact r J j T q λa o p y z=>Q a o p y ((ZO _ _ (Ne.symm y)).trans (k a o p z))
  |false=>
   simp![ZN,if_false];calc ZaZ (Zbb ?_);rw[yw];calc Zbk {ZaD Vu _,nQ W U C bw L m (i+1) _ b c (by lia) B (by simp![argBest,hb,ZN,if_false];exact pb) l u λJ j T q Q=>?_};exact r J j T q λa o p y z=>Q a o p y (k a o p z)
def Av{s:Shared}(W:Walks prog w A.in1 I f g n P St)(Y:MY prog w A.in1 base P bt)(p:S∉f)(bw:∀a∈g,base.get? a=aD)(E:base.get? S=aD)(L:0 < n){c:Nat}(st:St 0 s.heap)(J:∀a o,base.get? a=aw o->s.heap.get? a=aw o)(gs:s.heap.get? S=aw {cls:=.type "list",dict:=aD,data:=.seq #[] c,slots:=#[]})
  (r:∀v h' y,P (argBest bt (n - 1)) v->(∀a o,a∉g->a≠S->s.heap.get? a=aw o->h'.get? a=aw o)->R (.ok (.ret v)) {s with heap:=h',toks:=y}):codeAny (model prog w) A (.builtin "min.loop" ⟨[.ref I,.none,.ref S],[(Str.ofString "default",d)]⟩) R s:=by
 let Q:S∉g:=λh=>p (W.sub _ h);calc Zah Vn ?_;rw[Around.under_plainId Vu _];show wpAny _ A.in1 (ZaL (.ref S) >>= _) _ _ s;calc ZaZ (Zbs gs rfl ?_);show wpAny _ A.in1 (tryCatch (pyNext (.ref I)) _ >>= _) _ _ s;calc ZaZ (Zbx (W.item 0 s _ _ L st λv h' y X j l=>?_));let b:=l S _ Q gs;let B:∀a o,base.get? a=aw o->a∉g/\a≠S:=λa o h=>{λz=>(by rw[bw a z]at h;cases h),λz=>(by rw[z,E]at h;cases h)};show wpAny _ A.in1 (ZaW S (λ_=>#[v,v]) >>= _) _ _ _;calc ZaZ (ZbA b rfl ?_);rw[yw];refine Zbk {ZaD Vu _,nQ W Y p bw E (n - 1) 0 _ v _ (by lia) (W.frame _ _ _ j λa af o z=>?_) X (λa o h=>(ZO _ _ (Ne.symm (B a o h).2)).trans (l a o (B a o h).1 (J a o h))) (Z5 _ b rfl) λO k T q U=>?_}
 .exact(ZO _ _ (λz:S=a=>p (by rw[z];exact af))).trans z
 .exact r O k T q λa o C u z=>U a o C u ((ZO _ _ (Ne.symm u)).trans (l a o C z))
def CU{s:Shared}(W:Walks prog w A.in1 I f g 0 P St)(b:S∉f){c:Nat}(st:St 0 s.heap)(gs:s.heap.get? S=aw {cls:=.type "list",dict:=aD,data:=.seq #[] c,slots:=#[]})
  (r:∀h' T,(∀a o,a∉g->s.heap.get? a=aw o->h'.get? a=aw o)->R (.ok (.ret d)) {s with heap:=h',toks:=T}):codeAny (model prog w) A (.builtin "min.loop" ⟨[.ref I,.none,.ref S],[(Str.ofString "default",d)]⟩) R s:=by
 calc Zah Vn ?_;rw[Around.under_plainId Vu _];show wpAny _ A.in1 (ZaL (.ref S) >>= _) _ _ s;calc ZaZ (Zbs gs rfl ?_);show wpAny _ A.in1 (tryCatch (pyNext (.ref I)) _ >>= _) _ _ s;calc ZaZ (Zbx (W.done s _ _ st λh' T k=>?_));exact ZaZ (Zbr (Zbk (r h' T k)))
variable {E:Value->Shared->Prop} {s:Shared} {l:Addr} {its:Array Value} {Q:Value->Shared->Prop}
def CV(hl:s.heap.IsList l its)
  (h:∀c:Shared,c={s with heap:=s.heap.push {cls:=.type "list_iterator",data:=.fields #[.ref l,.int 0 0]}} ->
   (c.heap.IsListIter s⁻¹ l 0/\c.heap.IsList l its)->(∀b∈[s⁻¹,l],b < c.heap.objs.size)->l≠s⁻¹->Q (.ref s⁻¹) c) :
  wpAny (model prog w) A (pyIter (.ref l)) Q E s:=by
 let j:l < s⁻¹:=by let{_,e,_}:=hl;exact Zv e
 calc Zbl hl (h _ rfl {{_,Zs _ rfl,rfl,rfl},hl.push _} (λb hb=>?_) (ZH j));show b < (s.heap.push _).objs.size;rw[Yz];simp![Zn,XQ,or_false]at hb;rcases hb with rfl |rfl
 .exact Y2 _
 .exact YD j
def CW(B:A.handled=aD)(hl:s.heap.IsList l its)(z:MY prog w A.in1 s.heap (λi v=>its[i]?=aw v) bt)
  (u:0 < its.size->∀v h' T,its[argBest bt (its.size - 1)]?=aw v->(∀b o,s.heap.get? b=aw o->h'.get? b=aw o)->Q v {s with heap:=h',toks:=T})
  (C:its.size=0->∀h' T,(∀b o,s.heap.get? b=aw o->h'.get? b=aw o)->Q d {s with heap:=h',toks:=T}):wpAny (model prog w) A (call (.builtin "min") [.ref l] [(Str.ofString "default",d)]) Q E s:=by
 calc kmb_tree F.kind_min F.plain_min F.entry_min (CT _ _) ?_;show wpAny _ A.in1 (Builtin.Builtins.bindParams "min" ["key","default"] 0 ⟨[],[(Str.ofString "default",d)]⟩ >>= _) _ _ s;calc ZaZ (Zbi (show Builtin.Builtins.bindParams "min" ["key","default"] 0 ⟨[],[(Str.ofString "default",d)]⟩=pure [aD,aw d] from rfl) ?_);calc ZaZ (Zbk ?_);calc ZaZ (CV hl λO e st c L=>?_);subst e;let W:=Walks.list (prog:=prog) (w:=w) (A:=A.in1) B s⁻¹ l L its;calc ZaZ (Zbg ?_);let U:∀b∈[s⁻¹,l],b < (s.heap.push {cls:=.type "list_iterator",data:=.fields #[.ref l,.int 0 0]}).objs.size:=c;rw[yw]
 let J:s.heap.get? s⁻¹=aD:=by
  cases q:s.heap.get? s⁻¹ with
  |none=>rfl
  |some o=>exact absurd (Zv q) (ZI _)
 by_cases k:its.size=0
 .rw[k]at W;calc Zbk {ZaD Vu _,CU W (λh=>ZI _ (c _ h)) (W.frame _ _ _ st λb _ o e=>Zc _ e) (Zs _ rfl) λh' T j=>?_};exact C k h' T (ZaC λb o hb e=>j b o hb (Zc _ e))
 .refine Zbk {ZaD Vu _,Av (base:=s.heap) W z (λh=>ZI _ (c _ h)) ?_ ?_ (by lia) (W.frame _ _ _ st λb _ o e=>Zc _ e) (λa o e=>Zc _ (Zc _ e)) (Zs _ rfl) λv h' T y j=>?_}
  .intro a p;rw[ZG.mp p];exact J
  .cases q:s.heap.get? (s.heap.push {cls:=.type "list_iterator",data:=.fields #[.ref l,.int 0 0]}).objs.size with
   |none=>rfl
   |some o=>have:=Zv q;rw[Yz]at this;lia
  .exact u (by lia) v h' T y (ZaC λb o hb e=>j b o hb (ZH (Zv e)) (Zc _ e))
end
abbrev yx:D->Option (Int×List Int)
 |.tup [.int n,.tup es]=>(cP es).map λns=>(n,ns)
 |_=>aD
abbrev ip:List D->Option (List (Int×List Int))
 |[]=>aw []
 |d::ds=>match yx d,ip ds with
  |some w,aw ws=>aw (w::ws)
  |_,_=>aD
abbrev dF(b:List (Int×List Int))(i j:Nat):Bool:=cS (b.getD i (0,[])) (b.getD j (0,[]))
abbrev pO(T:Bool)(d:List D)(S:Sto):Option (D×Sto):=match T,ip d with
 |false,aw ws=>aw (d.getD (argBest (dF ws) (d.length - 1)) .non,S)
 |_,_=>aD
def rZ:∀ {f:List D} {c:List (Int×List Int)},ip f=aw c->c.length=f.length/\∀ (i:Nat) d,f[i]?=aw d->∃w,c[i]?=aw w/\d = .tup [.int w.1,.tup (w.2.map D.int)]
 |[],_,e=>by cases e;exact{rfl,λi d h=>by simp at h}
 |d::f,c,e=>by
  simp![ip]at e;split at e
  .rename_i w p b j;cases e;let{l,r}:=rZ j;calc{by rw[Zo,Zo,l],λi k h=>?_};cases i with
   |zero=>
    cases h;calc{w,rfl,?_};delta yx at b;split at b
    .rename_i n q;let{ns,E,rfl}:=ZE.mp b;rw[cQ E]
    .cases b
   |succ i=>exact r i k (by simpa using h)
  .cases e
def yy{b:Nat->Nat->Bool}:∀n,argBest b n<=n
 |0=>Zf _
 |n+1=>by
  simp![argBest];split
  .exact Zf _
  .exact Nat.le_succ_of_le (yy n)
section
variable {X:Cx} {K:VX} {m:List Addr} {H:Hp} {S:Sto} {e:Expr} {t:TA} {p pos kp c:Pos} {j:Nat}
def qw{d:List (Addr×Obj)}{C:L2.St}{s:Shared}(I:Inv X d C H s){n:Int}{ns:List Int}{v:V}{u:Value}(vd:VD X.K m H (.tup [.int n,.tup (ns.map D.int)]) v)(r:aE v u) :
  ∃l t q o nn f sl xs,u = .ref l/\o=({.type "tuple",f,.seq #[.int n t,.ref q] nn,sl}:Obj)/\s.heap.get? l=aw o/\IsTup s.heap q xs/\IntsAre xs.toList ns:=by
 let{l,vs,rfl,E,Q}:=vd.tups;let{a,b,rfl,U,O}:=wM Q;clear Q;cases U.ints;let{q,ws,rfl,J,qs}:=O.tups;let Y:=bO qs;subst Y;cases r;let{_,Z,L,o,B,h,nn,z,h4}:=I.hok l _ E;let{x,y,rfl,r1,r2}:=mL L;let{T,rfl}:=r1;cases r2;let{xs,rx,tx,_}:=I.tuple (.of J);let{cls,f,k,sl}:=o;simp! at h z;subst h z;exact{l,T,q,_,nn,f,sl,xs.toArray,rfl,rfl,B,tx,by simpa using bv rx}
def MZ(hu:X.A.units+64 < cLine)(hc:X.calm=aN)(hg:Gl X "min")(hm:X.mg "min" = aD)(hdb:(("min" : Str) == ("__debug__" : Str))=aS)(ha:PA X [e] t)(he:ZaP [e] X.env=(aS,eval e X.env)::ZaP [] X.env) :
  PE X (.Call (.Name "min" p) [e] [{aw "default",.Constant .none j c,kp}] pos) (tCB (r1 (rSq X.K pO)) t):=by
 intro k s σ H Q I h;calc ZaX (eF I hg hm W0 ?_ (by decide) hdb);calc callWith_kw (thn (ha pos k s σ H _ I h) λus s1 ⟨vs,H1,I1,r,q1⟩=>?_) (by rw[he];rfl) (by rw[he];rfl) rfl rfl;calc thn (rd (nm:=aw "default") (kpos:=kp) (Bo (X:=X) (j:=j) (pos:=c)) wg pos k s1 σ H1 _ I1 (show cf (tC .non) ji σ H1 (λzs f=>zs=[.non]/\f=H1) from ⟨rfl,rfl⟩)) λks s2 ⟨zs,f,B,rz,ez,eH⟩=>?_;subst ez eH;let{u,rfl,ru}:=bQ rz;cases ru;let{_,rfl,m,S,tu,n,a,ws,d,S',R,rfl,sq,vd,L,q}:=ca q1;let{u',rfl,ru'}:=bQ r;cases ru';delta pO at L;split at L
 .rename_i T hw;cases L;let{lw,at_}:=rZ hw;let sq:SqL X.K f a ws:=sq;let{b,rv,pl,hz}:=B.list sq;let ld:=vd.length;let lr:=rv.length
  let there:∀ (i:Nat) v,b.toArray[i]?=aw v->∃x d,n[i]?=aw d/\T[i]?=aw x/\d = .tup [.int x.1,.tup (x.2.map D.int)]/\∃y,ws[i]?=aw y/\VD X.K m f d y/\aE y v:=λi v C=>by
   let C:b[i]?=aw v:=by simpa using C
   let hi:i < n.length:=by let:=(Zb.mp C).1;lia
   let{y,U,vy}:=vd.get (gEG hi);let{v',J,ry}:=rv.get U;rw[C]at J;cases J;let{x,O,ex}:=at_ i _ (gEG hi);exact{x,_,gEG hi,O,ex,y,U,vy,ry}
  refine CW (bt:=dF T) (B.ok.hd hc) pl.isList ?_ (λE v h' tk' C hk=>?_) (λE h' tk' hk=>?_)
  .intro i j vi vj s3 Q3 E3 kp pi pj hq;let{x,d1,l,O,rfl,y1,_,v1,r1}:=there i vi pi;let{y,d2,hd2,U,rfl,y2,_,v2,r2}:=there j vj pj;let{l1,t1,p1,o1,n1,dd1,sl1,xs1,rfl,rfl,g1,Y,i1}:=qw B v1 r1;let{l2,t2,p2,o2,n2,Z,sl2,xs2,rfl,rfl,g2,tp2,i2}:=qw B v2 r2
   let e:dF T i j=cS x y:=by
    delta dF;rw[Zr,Zr,O,U];rfl
   rw[e]at hq
   exact ZaI (op:=.Lt) {_,kp _ _ g1,rfl} {_,kp _ _ g2,rfl} VF Vq (Vk _ _) (pM l1 l2 x.1 y.1 t1 t2 p1 p2 n1 n2 dd1 Z sl1 sl2 x.2 y.2)
    {kp _ _ g1,kp _ _ g2,{xs1,xs2,Y.keeps kp,tp2.keeps kp,i1,i2},(show X.A.units+1+1 < cLine by lia),show Value.bool (cS x y)≠Value.notImplemented/\Q3 (.bool (cS x y)) s3 from {(λz=>nomatch z),hq}} (show X.A.units+1 < cLine by lia)
  .let hn:0 < n.length:=by let:b.toArray.size=b.length:=Zk;lia
   let{x,d1,l,O,ed,y1,_,v1,r1}:=there _ v C;let e:b.toArray.size=n.length:=by rw[Zk];lia
   rw[e]at l;calc{y1,f,B.kept hk,r1,?_};rw[show n.getD (argBest (dF T) (n.length - 1)) .non=d1 by rw[Zr,l];rfl]at q;exact q m f _ (Aft.refl R) v1
  .let en:n=[]:=Z1.mp (by rw[Zk]at E;lia);subst en;exact{.non,f,B.kept hk,rfl,q m f _ (Aft.refl R) kc}
 .cases L
end
end Ev
namespace L2
open PySem PySem.Spec PyProof.Rows PySem.SeqAt AutoSeq1
def M0{d:Type}(f:Nat->d->Sem (ForInStep d))(I:Nat->d->Shared->Prop)(Q:d->Shared->Prop)(n:Nat)
  (turn:∀i b s,i < n->I i b s->wpAny M A (f i b) (λr k=>match r with |.yield B=>I (i+1) B k |.done B=>Q B k) E s)
  (fin:∀b s,I n b s->Q b s) (b:d) (h:I 0 b s):wpAny M A (forIn [0:n] b f) Q E s:=by
 rw[Std.Legacy.Range.forIn_eq_forIn_range'];refine Za6 _ (λc b s=>∃i,i<=n/\c=List.range' i (n - i)/\I i b s) _ (λx c b s ⟨i,hi,e,h⟩=>?_) (λb s ⟨i,hi,e,h⟩=>?_) _ _ {0,Z2 _,by simp[Std.Legacy.Range.size],h}
 .let j:i < n:=Nat.lt_of_not_le λz=>by rw[show n - i=0 by omega]at e;cases e
  rw[show n - i=(n - i - 1)+1 by omega,List.range'_succ]at e;cases e;calc Zbd (turn _ b s j h) (λr k l=>?_) λ_ _ p=>p;cases r with
  |done B=>exact l
  |yield B=>exact{x+1,j,by rw[show n - x - 1=n - (x+1) by omega],l}
 .let:n - i=0:=by
   cases q:n - i with
   |zero=>rfl
   |succ m=>rw[q,List.range'_succ]at e;cases e
  obtain rfl:i=n:=by omega
  exact fin b s h
def pP(l:Addr)(I:Array Value)(n:Nat)(C:Option Addr)(sl:Array (Option Value))(x:Value)(e:Value->Bool)(j:Nat)(J:j < I.size)
  (k:e I[j]=aN) (f:∀m (L:m < I.size),m < j->e I[m]=aS) :
  Meets (Builtin.«tuple.index» ⟨[.ref l,x],[]⟩)
   (λA R s=>s.heap.get? l=aw {cls:=.type "tuple",dict:=C,data:=.seq I n,slots:=sl}/\(∀y,y∈I->EqAt A.in1 s y x (e y))/\R (.ok (.ret (.int j s.toks))) {s with toks:=s.toks+1}):=
 .of_wp λprog w A R s h=>by
  let{B,g,d,T,os}:=s;let{z,E,h}:=h
  wp_walk using Zbc z,M0 _ (λi b p=>b.1=aD/\i<=j/\p=⟨B,g,d,T,os⟩) _
  case turn=>
   rintro i b p hi ⟨hb,v,rfl⟩;let c:i < I.size:=by simpa using hi
   rw[Array.getElem?_eq_getElem c];calc ZaZ (E _ (Ws c) prog w _ _ ?_);by_cases q:i=j
   .subst q;rw[k]
    wp_walk
    exact⟨_,rfl,h⟩
   .rw[f i c (by omega)]
    wp_walk
    exact{rfl,by omega,rfl}
  case fin=>
   rintro b p ⟨_,u,_⟩;rw[XV]at u;omega
  case h=>exact{rfl,Z2 _,rfl}
end L2
namespace L2
open PySem PySem.Spec PyProof.Rows PySem.SeqAt AutoSeq1
variable {P:Program} {w:World} {A:Around} {E:Value->Shared->Prop} {s:Shared} {d it:Addr} {o:Obj} {es:Array DictEntry} {ep i:Nat}
def Aw(hd:(d == ZaU)=aS)(b:s.heap.get? d=aw o)(hc:o.ExactDict)(h:o.data = .dict es ep)
  (f:Q (.ref s⁻¹) {s with heap:=s.heap.push {cls:=.type "dict_keyiterator",data:=.fields #[.ref d,.int 0 0,.int es.size 0,.int ep 0]}}):wpAny (model P w) A (pyIter (.ref d)) Q E s:=by
 let c:s.TypeIs (.ref d) "dict" := ⟨o,b,hc.1⟩;calc wpAny_pyIter_slot c F.slot_dict_iter (Za0 F.slot_dict_iter c F.entry_dict_iter ?_ (F.args_dict_iter_1 _));let z:Builtin.Dict.showsAll d=pure ():=by delta Builtin.Dict.showsAll;rw[hd];rfl
 delta Builtin.«dict.__iter__»;delta Builtin.Dict.dictSlotNone;calc ZaZ (ZaZ (Zbh c (Zbk ?_)));show wpAny _ _ (Builtin.Dict.showsAll d >>= _) _ _ s;rw[z];calc ZaZ (Zbk (ZaZ (Za2 b h (ZaZ (Za3 b h ?_)))));calc ZaZ (Zbg (Zbk {_,rfl, "dict_keyiterator",_,{_,Zs _ rfl,rfl},F.slot_dict_keyiterator_next.lookup,?_}));exact f
def Ax(h:s.heap.IsKeyIter it d i es.size ep)(j:s.heap.get? d=aw o)(f:o.data = .dict es ep)(k:es[i]?=aw e)
  (l:∀h',h'.IsKeyIter it d (i+1) es.size ep->Heap.SameBut it s.heap h'->Q (aw e.key) {s with heap:=h'}):wpAny (model P w) A (pyNext (.ref it)) Q E s:=by
 let{O,hi,n,b}:=id h;delta pyNext
 refine ZaZ (ZaY (wpAny_callSpecial?_slot (name:=Str.ofString "__next__") h.typeIs Vw
  (Za0 Vw h.typeIs Vl ?_ (Vg _))))
 wp_walk using Zby h.typeIs,wpAny_fieldsOf hi b,Za2 j f,Za3 j f,Zba h.typeIs
 let p:(if (i:Int) < 0 then aD else es[(i:Int).toNat]?)=aw e:=by rw[if_neg (by omega)];exact k
 rw[p]
 let c:(s.heap.update it (Obj.mapFields (·.setIfInBounds 1 (rawInt ((i:Int)+1))))).IsKeyIter it d (i+1) es.size ep:=
  {_,Z5 _ hi (Obj.isFreed_of_fields (Obj.data_mapFields b _)),(Obj.cls_mapFields ..).trans n,by rw[Obj.data_mapFields b];simp[rawInt]}
 let own:Builtin.Dict_items.ownsTuple "dict_keyiterator" = aS:=by decide
 wp_walk using Zby h.typeIs,Zba h.typeIs
 simp![own,ZN,if_false];rw[b];show wpAny _ _ (if 0+1 < 4 then update it (Obj.mapFields λx=>x.setIfInBounds 1 (rawInt ((i:Int)+1))) else _) _ _ _;rw[if_pos (by decide)];refine wpAny_update hi ?_
 wp_walk using Zba c.typeIs
 exact{_,rfl,Zbk (l _ c (Heap.SameBut.update ..))}
def CY(p:A.handled=aD)(h:s.heap.IsKeyIter it d i es.size ep)(k:s.heap.get? d=aw o)(c:o.data = .dict es ep)(l:es.size<=i)
  (n:∀h',Heap.ExtBut it s.heap h'->Q aD {s with heap:=h'}):wpAny (model P w) A (pyNext (.ref it)) Q E s:=by
 let{O,hi,u,f}:=id h;delta pyNext
 refine ZaZ (ZaY (wpAny_callSpecial?_slot (name:=Str.ofString "__next__") h.typeIs Vw
  (Za0 Vw h.typeIs Vl ?_ (Vg _))))
 wp_walk using Zby h.typeIs,wpAny_fieldsOf hi f,Za2 k c,Za3 k c,Zba h.typeIs
 let q:(if (i:Int) < 0 then aD else es[(i:Int).toNat]?)=aD:=by rw[if_neg (by omega)];exact Array.getElem?_eq_none l
 rw[q];let own:Builtin.Dict_items.ownsTuple "dict_keyiterator" = aS:=by decide
 wp_walk using Zby h.typeIs
 simp![own,ZN,if_false];rw[f];show wpAny _ _ (if 0 < 4 then update it _ else _) _ _ _;rw[if_pos (by decide)];calc wpAny_update hi ?_;let j:A.in1.handled=aD:=p
 wp_walk
 simp![raiseNew];calc ZaZ (wpAny_handled ?_);rw[j];calc ZaZ (Zbk (wpAny_throw ?_));calc ZaZ (Za9 (T := "StopIteration") (b:=true) {_,Zs _ rfl,rfl} isSubtype_stop ?_);exact Zbk (n _ (((Heap.SameBut.update ..).extBut.push _).push _))
end L2
namespace L2
open PySem PySem.Spec PyProof.Rows PySem.SeqAt AutoSeq1
section
variable {P:Program} {w:World} {κ:Type} [DecidableEq κ] {knd:VI P w κ} {A:Around} {E:Value->Shared->Prop} {s:Shared}
structure DQ(knd:VI P w κ)(h:Heap)(q:Addr)(xs:List (κ×Addr×Value)):Prop where
 ex:∃o es,h.get? q=aw o/\o.ExactDict/\o.data = .dict es xs.length/\es.toList=xs.map (entryOfKey knd)
def GQ(f:knd.room A)(h:knd.is s.heap k a)(n:DQ knd s.heap q xs)(b:∀x∈xs,knd.is s.heap x.1 x.2.1)(l:(xs.map (·.1)).Nodup)(B:k∉xs.map (·.1))(u:xs.length<=sizeLine)
  (y:∀h' t,DQ knd h' q (xs++[(k,a,v)])->Heap.SameBut q s.heap h'->Q () {s with heap:=h',toks:=t}):wpAny (model P w) A (dictSet q (.ref a) v) Q E s:=by
 let{o,C,c,z,hd,d}:=n.ex;delta dictSet
 try with_reducible refine Za8 ?_
 calc ZaZ (knd.pyHash f h ?_);delta dictSetHashed
 try with_reducible refine Za8 ?_
 calc ZaZ (wpAny_dictFind_heap (s:={s with toks:=s.toks+knd.draws k}) f h c hd d b l (λ_=>?_) λj p e=>absurd (Zz.mpr {_,Zd e,rfl}) B);calc ZaZ (Zbr (wpAny_updateDictKeys (hz:=by let e:=size_of_entries d;omega) (s:={s with toks:=s.toks+knd.draws k}) c hd (y _ _ {_,_,Z5 _ c (Obj.isFreed_of_dict (Obj.data_mapDictKeys hd _)),z.mapDictKeys _,(Obj.data_mapDictKeys hd _).trans (by rw[Ze];rfl),?_} (Heap.SameBut.update ..))));simp[d,entryOfKey]
def hY:plainId "dict.update.loop" = aN:=by decide +kernel
def qx:entryFor table "dict.update.loop" = aw Builtin.«dict.update.loop»:=entryFor_of_tree (by kernel_rfl)
abbrev Kpt(c h:Heap):Prop:=∀b o,c.get? b=aw o->h.get? b=aw o
def CZ{h0:Heap}{l q it:Addr}{ts:List Addr}{xs:List (κ×Addr×Value)}(hl:h0.IsList l (ts.map Value.ref).toArray)(ht:∀ (j:Nat) x,xs[j]?=aw x->∃t,ts[j]?=aw t/\h0.IsTuple t #[.ref x.2.1,x.2.2])(hlen:ts.length=xs.length)(hn:(xs.map (·.1)).Nodup)(hK:∀h,Kpt h0 h->∀x∈xs,knd.is h x.1 x.2.1)(hsz:xs.length<=sizeLine)(hq:h0.objs.size<=q)(hi:h0.objs.size<=it)(f:q≠it)(k:Nat) :
  ∀i:Nat,xs.length - i=k->i<=xs.length->MeetsIn P w (Builtin.«dict.update.loop» ⟨[.ref q,.ref it,rawInt i,.none],[]⟩)
   (λA R s=>A.handled=aD/\knd.room A.in1/\Kpt h0 s.heap/\DQ knd s.heap q (xs.take i)/\s.heap.IsListIter it l i/\∀h' t',Kpt h0 h'->DQ knd h' q xs->R (.ok (.ret .none)) {s with heap:=h',toks:=t'}):=by
 let O:∀ {b:Addr} {o:Obj},h0.get? b=aw o->b≠q/\b≠it:=λ{b o} e=>{λz=>absurd (Zv e) (by rw[z];exact Nat.not_lt.mpr hq),λz=>absurd (Zv e) (by rw[z];exact Nat.not_lt.mpr hi)}
 induction k with
 |zero=>
  intro i hk X A R s h;let{u,g,d,p,os}:=s;let{hh,Z,kp,J,st,h}:=h;let hij:i=xs.length:=by omega
  subst hij;let{ol,el,cl,n,dl}:=hl;let hL:u.IsList l (ts.map Value.ref).toArray:={ol,kp _ _ el,cl,n,dl};let fin:=λ(Q:Option Value->Shared->Prop) (E:Value->Shared->Prop)=>Zbo (prog:=P) (w:=w) (A:=A.in1) (E:=E) (Q:=Q) (s:=⟨u,g,d,p,os⟩) hh st hL (by simp;omega)
  wp_walk using fin _ _
  intro h' eb;calc ZaZ (Zbk (Zbk ?_));calc h h' p (λb o e=>eb b o (O e).2 (kp b o e)) ?_;rw[Yx]at J;let{o,es,eq,r}:=J.ex;exact{o,es,eb _ _ f eq,r}
 |succ k ih=>
  intro i hk X A R s h;let{u,g,d,p,os}:=s;let{hh,Z,kp,J,st,h}:=h;let{ol,el,cl,n,dl}:=hl;let hL:u.IsList l (ts.map Value.ref).toArray:={ol,kp _ _ el,cl,n,dl};obtain⟨x,L⟩:∃x,xs[i]?=aw x:={_,gEG (by omega)};let{t,e1,ot,et,ct,nt,dt}:=ht i x L;let itm:=λ(Q:Option Value->Shared->Prop) (E:Value->Shared->Prop)=>Zbp (prog:=P) (w:=w) (A:=A.in1) (E:=E) (Q:=Q) (s:=⟨u,g,d,p,os⟩) (x:=.ref t) st hL (by simp[e1])
  wp_walk using itm _ _
  intro h1 st1 C;let{cls,dd,data,sl}:=ot;simp! at ct dt;subst ct dt;let c:Kpt h0 h1:=λb o e=>(C.2 b (O e).2).trans (kp b o e);let B:=c _ _ et
  let dq1:DQ knd h1 q (xs.take i):=by
   let{o,es,eq,r}:=J.ex;exact{o,es,(C.2 q f).trans eq,r}
  let mem:∀y∈xs.take i,y∈xs:=λy Y=>YW Y;let hx':x∈xs:=Zd L;let split:xs.take (i+1)=xs.take i++[x]:=by rw[WK,L];rfl
  let nd:((xs.take i++[x]).map (·.1)).Nodup:=by
   rw[<-split,XM];exact List.Sublist.nodup (Wq _ _) hn
  rw[ZF,Ye]at nd;let st:=λ(Q:Unit->Shared->Prop) (E:Value->Shared->Prop)=>GQ (A:=A.in1) (E:=E) (Q:=Q) (s:=⟨h1,g,d,p,os⟩) (v:=x.2.2) Z (hK h1 c x hx') dq1 (λy Y=>hK h1 c y (mem y Y)) nd.1 (λz=>nd.2.2 _ z _ (by simp) rfl) (by rw[Yi];omega)
  let prs:∀ (Q:List Value->Shared->Prop) (E:Value->Shared->Prop),Q [.ref x.2.1,x.2.2] ⟨h1,g,d,p,os⟩->wpAny (model P w) A.in1 (Builtin.Dict.pairItems (.ref t)) Q E ⟨h1,g,d,p,os⟩:=λQ E q=>by
   delta Builtin.Dict.pairItems;calc ZaZ (Zbz (T := "tuple") ⟨_,B,rfl⟩ ?_);rw[if_pos (by decide)];exact ZaZ (Zbs B rfl (Zbk q))
  calc ZaZ (Za8 (ZaZ (Zbx (prs _ _ ?_))));calc Za8 (st _ _ λh2 t2 U I=>?_);calc Zbk {ZaD hY _,Zah qx ?_};rw[Around.under_plainId hY _];let hc:((i:Int)+1)=((i+1:Nat):Int):=by push_cast;rfl
  rw[hc];let{oi,ei,ri}:=st1;calc ih (i+1) (by omega) (by omega) A R _ {hh,Z,λb o e=>(I.2 b (O e).1).trans (c b o e),?_,{oi,(I.2 it (Ne.symm f)).trans ei,ri},h};rw[split];exact U
def GR:typeLookup (.type "list") "keys" = pure aD:=by rw[typeLookup_type,builtinLookup_eq_fast];kernel_rfl
end
section
variable {P:Program} {w:World} {A:Around} {E:Value->Shared->Prop} {s:Shared} {a:Addr} {its:Array Value} {n:Nat} {b:Array (Option Value)}
def GS(l:A.handled=aD)(c:s.heap.get? a=aw {cls:=.type "list",dict:=aD,data:=.seq its n,slots:=b})(k:∀h' t',Kpt s.heap h'->Q aD {s with heap:=h',toks:=t'}) :
  wpAny (model P w) A (getAttr? (.ref a) "keys") Q E s:=by
 let{f,g,d,z,os}:=s;let j:∀T,(⟨f,g,d,T,os⟩:Shared).TypeIs (.ref a) "list" := λ_=>⟨_,c,rfl⟩;let q:=sub_AttributeError;let B:=F.slot_list_getattribute.lookup;let v:=F.slot_list_getattribute.bind (.ref a);let y:=am_list_getattr_none;delta getAttr? getAttrBy? getAttrBy
 repeat (any_goals (first |assumption |exact j _ |((with_reducible show wpAny _ _ (call (Value.builtin "list.__getattribute__") _ _) _ _ _);refine Zad F.slot_list_getattribute (j _) am_entry_list_getattribute (F.args_list_getattribute_2 _ _) (meets_getattribute_miss_list a its n b "keys" _ GR (by decide)) ⟨c,l,λh' T e h=>?_⟩) |wp_step))
 let{t',u,p}:=h.there;let kp:Kpt f h':=h.keeps;show wpAny _ _ (getattributeRaised _ _ _ _ _ _ _) _ _ _;delta getattributeRaised
 repeat (any_goals (first |assumption |wp_step))
 exact k h' T kp
end
section
variable {P:Program} {w:World} {κ:Type} [DecidableEq κ] {knd:VI P w κ} {A:Around} {E:Value->Shared->Prop} {s:Shared}
def w6{l:Addr}{ts:List Addr}{xs:List (κ×Addr×Value)}{Q:Value->Shared->Prop}{n:Nat}{sl:Array (Option Value)}(p:s.heap.get? l=aw {cls:=.type "list",dict:=aD,data:=.seq (ts.map Value.ref).toArray n,slots:=sl})(Z:∀ (j:Nat) x,xs[j]?=aw x->∃t,ts[j]?=aw t/\s.heap.IsTuple t #[.ref x.2.1,x.2.2])(d:ts.length=xs.length)(Y:(xs.map (·.1)).Nodup)(O:∀h,Kpt s.heap h->∀x∈xs,knd.is h x.1 x.2.1)(u:xs.length<=sizeLine)(B:A.handled=aD)(J:knd.room A.in1.in1)
  (h:∀h' t',Kpt s.heap h'->DQ knd h' s⁻¹ xs->Q (.ref s⁻¹) {s with heap:=h',toks:=t'}):wpAny (model P w) A (call (.type "dict") [.ref l]) Q E s:=by
 calc callType_codes (Q₁:=λobj c=>obj = .ref s⁻¹/\c={s with heap:=s.heap.push {cls:=.type "dict",data:=.dict #[]}}) F.kt_called_dict (F.kt_typeCall_dict_1 _) F.entry_dict_init (kt_code_dict_new _ ⟨rfl,rfl⟩) ?_;rintro obj c ⟨rfl,rfl⟩;let T:({s with heap:=s.heap.push {cls:=.type "dict",data:=.dict #[]}}:Shared).TypeIs (.ref s⁻¹) "dict" := {_,Zs _ rfl,rfl};let kp:Kpt s.heap (s.heap.push {cls:=.type "dict",data:=.dict #[]}):=λb o e=>Zc _ e;let y:A.in1.in1.handled=aD:=B;let I:({s with heap:=s.heap.push {cls:=.type "dict",data:=.dict #[]}}:Shared).TypeIs (.ref l) "list" := {_,kp _ _ p,rfl};calc{T,F.args_dict_init_2 _ _,?_};delta Builtin.«dict.__init__»;calc ZaZ ?_;delta Builtin.Dict.selfAndRest;calc ZaZ (Zbh T (Zbk ?_));show wpAny _ _ (Builtin.Dict.updateFrom "dict.__init__" s⁻¹ (.ref l) [] .none) _ _ _;delta Builtin.Dict.updateFrom;calc ZaZ (Zbz I ?_);rw[if_pos (by decide)];calc ZaZ (GS y (kp _ _ p) λf C k=>?_);rw[if_pos (show(aD:Option Value).isNone=aN from rfl)];calc ZaZ (Zbr (ZaZ ?_));let v:=k _ _ (kp _ _ p);calc Zbl (s:={s with heap:=f,toks:=C}) ⟨_,v,rfl,n,rfl⟩ ?_;calc Zbk {ZaD hY _,Zah qx ?_};rw[Around.under_plainId hY _];let L:s⁻¹ < f.objs.size:=Zv (k _ _ (Zs _ rfl));let z:Kpt s.heap (f.push {cls:=.type "list_iterator",data:=.fields #[.ref l,.int 0 0]}):=λb o e=>Zc _ (k _ _ (kp _ _ e));refine CZ (knd:=knd) (h0:=s.heap) (q:=s⁻¹) (it:=f.objs.size) (ts:=ts) (xs:=xs) ⟨_,p,rfl,n,rfl⟩ Z d Y O u (Zf _) (Y0 L) (ZH L) _ 0 rfl (Z2 _) A.in1 _ _ {B,J,z,{_,#[],Zc _ (k _ _ (Zs _ rfl)),⟨rfl,rfl,rfl⟩,rfl,rfl},{_,Zs _ rfl,rfl,rfl},λh' t' U X=>{rfl,h h' t' U X}}
end
section
variable {P:Program} {w:World} {A:Around} {E:Value->Shared->Prop} {s:Shared} {r:Addr} {n:Nat} {t u v:Tok}
@[inline]abbrev Kz:Nat->Value->Prop:=λi v=>∃t,v = .int (0+i * 1) t
def pQ(B:A.handled=aD)(C:IsRange s.heap r 0 n 1 t u v)(k:Builtin.Range.small 0 n 1=aN)(q:Builtin.Range.rangeSize 0 n 1=n)(h:n<=2 ^ 24)
  (z:∀ (h':Heap) (T:Nat) (c:Array Value),s⁻¹<=h'.objs.size->(∀b o,s.heap.get? b=aw o->h'.get? b=aw o)->ItemsOf Kz c n->Q c.toList {s with heap:=h',toks:=T}):wpAny (model P w) A (collect (.ref r)) Q E s:=by
 delta collect;calc ZaZ (wpAny_runValue (Zah F.entry_proto_collect ?_));rw[Around.under_plainId F.plain_proto_collect _];show wpAny _ A.in1 (newList [] >>= λl=>again (.builtin "list.__iadd__" ⟨[l,.ref r],[]⟩)) _ _ s;calc ZaZ (Zbg ?_);calc Zbk {ZaD F.plain_list_iadd _,Zah F.entry_list_iadd ?_};rw[Around.under_plainId F.plain_list_iadd _];let y:(s.heap.push {cls:=.type "list",data:=.seq ([]:List Value).toArray}).get? s⁻¹=aw {cls:=.type "list",data:=.seq ([]:List Value).toArray}:=Zs _ rfl;show wpAny _ A.in1 (Builtin.List.listExtendWith (.ref s⁻¹) (.ref r) (.ref s⁻¹)) _ _ _;calc wpAny_extend_range (A:=A) (n:=n) (R:=λr p=>match r with |.ok (.ret v)=>wpAny (model P w) A (match v with |.ref a=>(do match (<-load a).data with |.seq xs _=>pure xs.toList |_=>unsupported "internal:collect") |_=>unsupported "internal:collect") Q E p |.ok _=>False |.error e=>E e p) (s:={s with heap:=s.heap.push {cls:=.type "list",data:=.seq ([]:List Value).toArray}}) (c₀:=0) B (Zc _ C) k q h _ _ y λh' T d J I f j=>?_;show wpAny _ A (load s⁻¹ >>= _) _ _ _;calc ZaZ (wpAny_load f ?_);exact Zbk (z h' T d (Y0 (Zv f)) (λb o e=>I b o (ZH (Zv e)) (Zc _ e)) j)
def uw(O:A.handled=aD)(q:IsRange s.heap r 0 n 1 t u v)(k:Builtin.Range.small 0 n 1=aN)(I:Builtin.Range.rangeSize 0 n 1=n)(f:n<=2 ^ 24)
  (L:∀ (h':Heap) (T:Nat) (acc:Array Value),s⁻¹<=h'.objs.size->(∀b o,s.heap.get? b=aw o->h'.get? b=aw o)->ItemsOf Kz acc n->Q (.ref h'.objs.size) {s with heap:=h'.push {cls:=.type "tuple",data:=.seq acc},toks:=T}):wpAny (model P w) A (call (.type "tuple") [.ref r]) Q E s:=by
 refine callType_codes (Q₁:=λobj c=>c.TypeIs obj "tuple"/\Q obj c) F.called_tuple (F.typeCall_tuple_1 _) F.entry_object_init ?_ λobj c h=>?_
 .calc codeAny_call_builtin F.plain_tuple_new F.entry_tuple_new (Zbi (F.newCall_tuple_1 _) ?_);let p:=sub_tuple_self;let l:=init_tuple_lookup;let B:=madeHere_tuple;let C:s.TypeIs (.ref r) "range" := ⟨_,q,rfl⟩;let y:=F.sub_range_tuple;let J:=λ(Q:List Value->Shared->Prop) (E:Value->Shared->Prop)=>pQ (P:=P) (w:=w) (A:=A.in1.in1) (E:=E) (Q:=Q) (s:=s) (show A.in1.in1.handled=aD from O) q k I f
  wp_walk using Zbz C,J _ _
  intro h' T acc j z d;calc ZaZ (Zbk ?_);show wpAny _ _ (Builtin.Tuple.tupleExact acc.toList.toArray >>= λv=>ret v) _ _ _;delta Builtin.Tuple.tupleExact;let e:acc.toList.toArray=acc:=by simp
  rw[e];calc ZaZ (Zbg ?_ (by show acc.size<=sizeLine;rw[d.1,ZaN];omega));exact Zbk {{_,Zs _ rfl,rfl},L h' T acc j z d}
 .exact{h.1,Vh obj _,object_init_meets F.called_tuple.init.lookup F.called_tuple.made (by decide) P w A.in1 _ c ⟨h.1,rfl,h.2⟩}
end
end L2
namespace Ev
open PySem PySem.Spec PyProof.Rows L2
open PySem.W (KasT kas_sort kas_ask)
section
variable {prog:Program} {w:World} {A:Around} {E:Value->Shared->Prop} {s:Shared} {a kS:Addr} {vs:List Value} {f:Value} {P:PySem.Fin->Shared->Prop} {d:Nat}
def C0(J:Nat->Array Value->Shared->Prop)(y:vs.length < 64)(sz:∀i b c,J i b c->b.size=i)(at_:∀i b c,J i b c->∃e,c.heap.get? kS=aw (seqObj "list" b e))
  (turn:∀i v b c,vs[i]?=aw v->J i b c->wpAny (model prog w) A (call f [v]) (λk l=>(∃e,l.heap.get? kS=aw (seqObj "list" b e))/\J (i+1) (b.push k) {l with heap:=l.heap.update kS (Obj.mapSeq (·.push k))}) (λ_ _=>False) c)
  (fin:∀b c,J vs.length b c->wpAny (model prog w) A (ksk_end a aS vs.toArray d (.ref kS) b) P E c) (z:J 0 #[] s):wpAny (model prog w) A (ksk_rest a f aS vs.toArray d (.ref kS)) P E s:=by
 delta ksk_rest;refine ZaZ (Zbr ?_)
 first
  |rw[List.forIn_toArray]
  |(rw[<-YN];simp![Wd])
  |rw[<-YN]
 refine ZaZ (ksk_fold (λi c=>∃b,J i b c) vs 0 s ⟨#[],z⟩ (λj x c q h=>?_) λc h=>?_)
 .let{b,h}:=h;rw[YE]at h ⊢;let I:=(Zb.mp q).1;let C:=sz _ _ _ h;calc ZaZ (ZaY (Zbd (turn j x b c q h) (λk l B=>?_) λ_ _ u=>u.elim));let{⟨e,p⟩,n}:=B
  try dsimp!
  calc ZaZ (listUpdate_at p rfl ?_ (by rw[ZaN];omega) (ZJ (Wt (WG ..)) (by rw[ZaN];omega)));exact Zbk {rfl,b.push k,n}
 .let{b,h}:=h;rw[YE]at h;let{e,p}:=at_ _ _ _ h
  try dsimp!
  exact ZaZ (listItems_at p rfl (fin b c h))
def GU{e:Nat}(J:SortKind)(lt:Nat->Nat->Bool)(hk:s.heap.get? kS=aw (seqObj "list" k e))(ha:s.heap.get? a=aw (seqObj "list" #[] d))(B:kS≠a)(hl:k.toList.length=vs.length)(I:vs.length < 64)
  (kd:2<=vs.length->∀ (Q:SortKind->Shared->Prop),Q J s->wpAny (model prog w) A (keyKind' k) Q E s)
  (X:∀i j,i < vs.length->j < vs.length->∀C:Bool->Shared->Prop,C (lt i j) s->kas_ask prog w A J k.toList i j C s)
  (h:∀h' c,(∀b o,b≠a->b≠kS->s.heap.get? b=aw o->h'.get? b=aw o)->h'.get? a=aw (seqObj "list" (if vs.length < 2 then vs.toArray else YO ((bV lt (kas_sort vs.length)).toList.map λi=>vs.getD i Value.none)) c)->h'.objs.size=s⁻¹->P (.done (.ret .none)) {s with heap:=h'}) :
  wpAny (model prog w) A (ksk_end a aS vs.toArray d (.ref kS) k) P E s:=by
 let kz:k.size=vs.length:=by rw[<-Zu];exact hl
 let T:∀ {st:SortSt} {out:List Value},(arrOf st).map (·.2)=out.toArray->out.length=vs.length->failedOf st=aD->(if vs.length < 2 then vs.toArray else YO ((bV lt (kas_sort vs.length)).toList.map λi=>vs.getD i Value.none))=out.toArray->wpAny (model prog w) A (ksk_tail a aS d (.ref kS) st) P E s:=λ{st out} ho hlo z he=>by
  let Z:=Heap.SameBut.update s.heap kS (Obj.mapSeq λ_=>(#[]:Array Value));let n:(s.heap.update kS (Obj.mapSeq λ_=>(#[]:Array Value))).get? a=aw (seqObj "list" #[] d):=(Z.2 a B.symm).trans ha;obtain⟨U,L⟩:∃U,((s.heap.update kS (Obj.mapSeq λ_=>(#[]:Array Value))).update a (Obj.mapSeq λ_=>(arrOf st).map (·.2))).get? a=aw (seqObj "list" ((arrOf st).map (·.2)) U):={_,get?_update_seq n λ_=>(arrOf st).map (·.2)};let s2:=Heap.SameBut.update (s.heap.update kS (Obj.mapSeq λ_=>(#[]:Array Value))) a (Obj.mapSeq λ_=>(arrOf st).map (·.2));delta ksk_tail
  try dsimp!
  calc ZaZ (listUpdate_at hk rfl ?_ (by rw[kz,ZaN];omega) (Z2 _));calc ZaZ (Zbb ?_);calc ZaZ (seqEpoch_at n rfl ?_);simp![ZN,if_false];calc ZaZ (listUpdate_at n rfl ?_ (Z2 _) (by rw[ho,Zk,hlo,ZaN];omega));rw[z];simp![bne_self_eq_false,ZN,if_false];calc Zbk (h _ U (λb o n1 n2 e=>?_) (by rw[he,<-ho];exact L) (by rw[Yw,Yw]));exact(s2.2 b n1).trans ((Z.2 b n2).trans e)
 delta ksk_end
 try dsimp!
 simp![ZN,if_false];by_cases q:vs.toArray.size < 2
 .rw[if_pos q,if_pos q];calc ZaZ (Zbk ?_);rw[StateT.run_pure];calc ZaZ (Zbk ?_);dsimp!;calc T (out:=vs) ?_ rfl rfl (by rw[if_pos (by simpa using q)]);show Array.map (λx:Keyed=>x.2) (k.zip vs.toArray)=_;apply Wy.mp;rw[Wz,WA,WB (by simp[kz])]
 .rw[if_neg q,if_neg q];let y:2<=vs.length:=by simpa using q
  calc ZaZ (kd y _ ?_);let er:k.zip vs.toArray=k.toList.toArray.zip vs.toArray:=by rw[X9]
  rw[er]
  refine ZaZ (Zbd (V6 (κ:=J) (ks:=k.toList) (vs:=vs) (Q:=λl v=>v=s/\arrOf l=(bV lt (kas_sort vs.length)).map (V3 (k.toList.toArray.zip vs.toArray))/\(bV lt (kas_sort vs.length)).size=vs.length/\failedOf l=aD)
   (G:=λp v=>v=s/\p=bV lt (kas_sort vs.length)) hl y I (λp l v a1 a2 a3 Y=>{Y.1,Y.2▸a2,Y.2▸a1,a3}) (nv X (jz (by omega)) ⟨rfl,rfl⟩)) ?_ λ_ _ e=>e)
  rintro⟨⟨⟩,l⟩ v ⟨rfl,O,u,z⟩;dsimp!;exact T (out:=(bV lt (kas_sort vs.length)).toList.map λi=>vs.getD i Value.none) (V7 hl O) (by rw[Za,Zu];exact u) z (by rw[if_neg (by omega)])
end
section
variable {prog:Program} {w:World} {A:Around} {E:Value->Shared->Prop} {s:Shared} {l q:Addr} {vs:List Value} {Q:Value->Shared->Prop}
def w8(hl:s.heap.IsList l vs.toArray)(T:vs.length < 64)(Y:SortKind)(lt:Nat->Nat->Bool)(J:Nat->Nat->Array Value->Shared->Prop)
  (J0:∀U f,(∀b o,s.heap.get? b=aw o->U.get? b=aw o)->U.get? (s⁻¹+1)=aw (seqObj "list" #[] f)->U.get? (s⁻¹+3)=aw (seqObj "list" #[] 0)->U.objs.size=s⁻¹+4->J f 0 #[] {s with heap:=U})
  (at_:∀f i n d,J f i n d->n.size=i/\(∃e,d.heap.get? (s⁻¹+3)=aw (seqObj "list" n e))/\d.heap.get? (s⁻¹+1)=aw (seqObj "list" #[] f))
  (turn:∀f i v n d,vs[i]?=aw v->J f i n d->wpAny (model prog w) A.in1.in1 (call (.ref q) [v]) (λk L=>(∃e,L.heap.get? (s⁻¹+3)=aw (seqObj "list" n e))/\J f (i+1) (n.push k) {L with heap:=L.heap.update (s⁻¹+3) (Obj.mapSeq (·.push k))}) (λ_ _=>False) d)
  (kd:∀f n d,J f vs.length n d->2<=vs.length->∀ (A:Around) (E:Value->Shared->Prop) (Q:SortKind->Shared->Prop),Q Y d->wpAny (model prog w) A (keyKind' n) Q E d)
  (p:∀f n d,J f vs.length n d->∀i j,i < vs.length->j < vs.length->∀C:Bool->Shared->Prop,C (lt i j) d->kas_ask prog w A.in1.in1 Y n.toList i j C d)
  (h:∀f n d h' c,J f vs.length n d->(∀b o,b≠s⁻¹+1->b≠s⁻¹+3->d.heap.get? b=aw o->h'.get? b=aw o)->h'.get? (s⁻¹+1)=aw (seqObj "list" (if vs.length < 2 then vs.toArray else YO ((bV lt (kas_sort vs.length)).toList.map λi=>vs.getD i Value.none)) c)->h'.objs.size=d.heap.objs.size->Q (.ref (s⁻¹+1)) {d with heap:=h'}) :
  wpAny (model prog w) A (call (.builtin "sorted") [.ref l] [(Str.ofString "key",.ref q)]) Q E s:=by
 calc call_function_entry_kw kind_sorted plain_sorted entry_sorted (ksk_s1 _ _) ?_;delta Builtin.«sorted»;calc ZaZ (m:=checkCount "sorted" 1 1 _) (Zbk ?_);calc ZaZ (collect_list hl ?_ (by rw[ZaN];omega));calc ZaZ (Zbf ?_ (by rw[ZaN];omega));let u:((s.heap.push (seqObj "list" #[] 0)).update s⁻¹ (Obj.mapSeq (·++vs.toArray))).objs.size=s⁻¹+1:=by rw[Yw,size_push']
 let y:(((s.heap.push (seqObj "list" #[] 0)).update s⁻¹ (Obj.mapSeq (·++vs.toArray))).push (seqObj "list" vs.toArray 0)).get? (s⁻¹+1)=aw (seqObj "list" vs.toArray 0):=by
  rw[<-u];exact Zs _ rfl
 let keep:∀b o,s.heap.get? b=aw o->(((s.heap.push (seqObj "list" #[] 0)).update s⁻¹ (Obj.mapSeq (·++vs.toArray))).push (seqObj "list" vs.toArray 0)).get? b=aw o:=λb o q=>by
  let p:b < s⁻¹:=Zv q;rw[Xh _ _ _ (by rw[u];exact ZH (YD p)),Xy _ _ _ _ (ZH p),Xh _ _ _ (ZH p)];exact q
 let Z:(((s.heap.push (seqObj "list" #[] 0)).update s⁻¹ (Obj.mapSeq (·++vs.toArray))).push (seqObj "list" vs.toArray 0)).objs.size=s⁻¹+2:=by rw[size_push',u]
 show wpAny _ _ _ _ _ {s with heap:=((s.heap.push (seqObj "list" #[] 0)).update s⁻¹ (Obj.mapSeq (·++vs.toArray))).push (seqObj "list" vs.toArray 0)};rw[u];generalize (((s.heap.push (seqObj "list" #[] 0)).update s⁻¹ (Obj.mapSeq (·++vs.toArray))).push (seqObj "list" vs.toArray 0))=I at *;refine ZaZ (Za8 (wpAny_call_entry_kw slot_list_sort ⟨_,y,rfl⟩ entry_list_sort ?body (ksk_l1 _ _)))
 case body=>
  show wpAny (model prog w) A.in1.in1 (Builtin.«list.sort» ⟨[.ref (s⁻¹+1)],[(Str.ofString "key",.ref q)]⟩) _ _ {s with heap:=I};rw[ksk_t1];delta ksk_tree;obtain⟨f,X⟩:∃f,(I.update (s⁻¹+1) (Obj.mapSeq λ_=>(#[]:Array Value))).get? (s⁻¹+1)=aw (seqObj "list" #[] f):={_,get?_update_seq y λ_=>#[]};let s1:=Heap.SameBut.update I (s⁻¹+1) (Obj.mapSeq λ_=>(#[]:Array Value));calc ZaZ (listItems_at y rfl ?_);calc ZaZ (listUpdate_at y rfl ?_ (by rw[Zk,ZaN];omega) (Z2 _));calc ZaZ (seqEpoch_at X rfl ?_);calc ZaZ (wpAny_newTuple ?_ (by show vs.length<=_;rw[ZaN];omega));calc ZaZ (Zbf ?_ (Z2 _));calc Za8 ?_;let O:((I.update (s⁻¹+1) (Obj.mapSeq λ_=>(#[]:Array Value))).push (seqObj "tuple" vs.toArray 0)).objs.size=s⁻¹+3:=by rw[size_push',Yw,Z]
  let g:∀kS,((I.update (s⁻¹+1) (Obj.mapSeq λ_=>(#[]:Array Value))).push (seqObj "tuple" vs.toArray 0)).objs.size=kS->kS=s⁻¹+3:=λkS e=>by rw[<-e];exact O
  try dsimp!
  rw[O];refine C0 (s:={s with heap:=((I.update (s⁻¹+1) (Obj.mapSeq λ_=>(#[]:Array Value))).push (seqObj "tuple" vs.toArray 0)).push (seqObj "list" #[] 0)}) (J f) T (λi n d B=>(at_ f i n d B).1) (λi n d B=>(at_ f i n d B).2.1) (turn f) (λn d B=>?_) (J0 _ f (λb o e=>?_) ?_ ?_ ?_)
  .let{z,⟨e,O⟩,ha}:=at_ _ _ _ _ B;calc GU (kS:=s⁻¹+3) (a:=s⁻¹+1) Y lt O ha (show s⁻¹+3≠s⁻¹+1 by omega) (by rw[Zu];exact z) T (λI Q qq=>kd f n d B I _ _ Q qq) (λi j hi hj C c=>p f n d B i j hi hj C c) λh' c k1 k2 k3=>{_,rfl,?_};exact Zbk {_,rfl,h f n d h' c B k1 k2 k3}
  .calc Zc _ (Zc _ ?_);exact(s1.2 b (ZH (YD (Zv e)))).trans (keep b o e)
  .exact Zc _ (Zc _ X)
  .rw[<-O];exact Zs _ rfl
  .rw[size_push',O]
end
end Ev
namespace L2
open PySem PySem.Spec PyProof.Rows
open PySem.W (kla_fn kla_obj kla_callFunE kla_codeExpr)
def GV{P:Program}{w:World}{K:VX}{mg:Str->Option Value}{base:Heap}{k:Nat}{q C:Addr}{name d:Str}{p:W6}{body:Expr}{c:Scope}{pm l:Value}{N ps:List Str}{A:Around}{outer:List Env}{s:Shared}{H:Hp}{U:List Value}{j:List V}{Q:VK}{t:TE}
  (S:FnScope N ps c) (B:Room (k+1) A) (E:Env0 P w K mg base A outer s H) (T:s.heap.get? q=aw (kla_obj name d p body c [] pm C l)) (z:s.heap.CodeRec (.ref C) d)
  (hb:No (kla_fn name d p body c [] pm (.ref C) l) ⟨U,[]⟩=pure (ps.zip U)) (hl:j.length=ps.length) (r:aJ j U)
  (h:PE (jj CX0 P w K mg base N d c q (.ref C) A outer s H E0) body t) (Z:t (fb N j) H Q) :
  codeAny (model P w) A (.call (.ref q) ⟨U,[]⟩) (CR CX0 outer P w H s Q E0) s:=by
 let lim:s.heap.NoLimit:=E.mod.nolimit.keeps λb o e=>(E.bs b o e).1
 let f:∀y∈ps.zip U,c.names.lookup y.1=aw .local\/(c.names.lookup y.1=aw .cell/\((Zae (s⁻¹+1) c.names []).lookup y.1).isSome=aN):=λ⟨n,v⟩ O=>by
  rcases S.par n (Xv O).1 with q |q
  .exact .inl q
  .exact .inr {q,VY _ _ _ (.inl q)}
 calc kla_callFunE B.depth T rfl S.co S.gen rfl z ?_;rw[hb];calc Zbk ?_;calc Zbe S.kind f λenv he s1 x=>?_;subst he;calc{lim.keeps x.toInCall.keep,kla_codeExpr ?_};let I:Inv (jj CX0 P w K mg base N d c q (.ref C) A outer s H E0) [] (fb N j) H s1:=qd S B.hd E hl r x;calc Zbd (h [] s1 (fb N j) H _ I Z) (λu Y hs=>?_) λe Y hs=>hs;let{v,L,J,X,q}:=hs;exact⟨v,L,J.os,J.bare,J.base,J.hok,X,q⟩
end L2
namespace L2
open PySem PySem.Spec PyProof.Rows
open PySem.W (kla_fn kla_obj kla_eval kla_makeFunction kla_makeFunctionHit CodeHd tabObj)
abbrev fnO(q:Addr)(o:Obj):HO:=.ext λh=>h.get? q=aw o
def RQ(x:h.CodeRec (.ref C) q):ba P w H h C (cdO C q):=by
 let{c,O,v,t,e,b,r}:=x;cases e;exact{⟨C,O,v,t,rfl,b,r⟩,⟨O,b⟩,λd f ⟨c,O,v,t,e,b,r⟩ k=>by cases e;exact{C,O,v,t,rfl,k _ b,r}}
def KA(x:h.get? q=aw o):ba P w H h q (fnO q o):={x,⟨o,x⟩,λc b e k=>k _ e}
def Inv.grow{t':Nat}(I:Inv X p v H s)(h:H T=aw (.tbl ps))(c:d T=aw (.tbl (ps++more)))
  (kp:∀b o,b≠T->s.heap.get? b=aw o->h'.get? b=aw o) (k:h'.get? T=aw {cls:=.none,data:=.fields (ps++more)})
  (O:∀b o,b≠T->H b=aw o->d b=aw o) (j:∀b o,d b=aw o->(b=T\/H b=aw o)\/(s⁻¹<=b/\ba X.prog X.w d h' b o)):Inv X p v d {s with heap:=h',toks:=t'}:=by
 let tT:=I.hok T _ h;let tT:s.heap.get? T=aw {cls:=.none,data:=.fields ps}:=tT;let neT:∀ {b:Addr},H b=aD->b≠T:=λe z=>by rw[z,h]at e;cases e
 refine I.step (g':=s.gens) (d':=s.drawn) (ch:=[]) (λ_ z=>nomatch z) (λb o _ _ _ e n=>kp b o (neT n) e) (λb o _ _ _ e n=>{o.slots,kp b o (neT n) e}) (λb o _ e n=>?_) (λb o _ e=>?_) (λb L e=>O b _ (λz=>by rw[z,h]at e;cases e) e) (λb o u e=>O b _ (λz=>by rw[z,h]at e;cases e) e) (λb Q e=>?_) (λm J=>?_) (λb o e=>?_) I.bare
 .cases q:d b with
  |none=>rfl
  |some u=>
   rcases j b u q with (z |z) |z
   .exact absurd z (neT n)
   .rw[n]at z;cases z
   .exact absurd (ZD (Zv e) z.1) (ZI _)
 .by_cases z:b=T
  .subst z;exact⟨_,k⟩
  .exact{o,kp b o z e}
 .by_cases z:b=T
  .subst z;rw[h]at e;cases e;exact⟨more,c⟩
  .exact{#[],by rw[O b _ z e];simp}
 .let{o,C,l,e,r}:=J;exact{o,C,l,kp _ _ (neT I.free) e,r}
 .by_cases Z:b=T
  .subst Z;rw[c]at e;cases e;exact k
  .rcases j b o e with (z |z) |z
   .exact absurd z Z
   .calc(I.hok b o z).stay (λB u f E=>?_) (λB E=>O B _ (λz=>by rw[z,h]at E;cases E) E) λB L E=>O B _ (λz=>by rw[z,h]at E;cases E) E;calc kp B u (λy=>?_) E;rcases f with y' |y'
    .exact Z (y'.symm.trans y)
    .rw[y,h]at y';cases y'
   .exact z.2
def M1(I:Inv X pins σ H s)(U:H T=aw (.tbl ps))(v:VV ps.toList)
  (u:X.env.code = .ref c) (C:CodeHd s.heap c T) (hg:s.heap.Ns Zav mg) (hb:s.heap.BuiltinsAt mg T) (hgT:Zav≠T) (hcl:Zaf d X.env=pure []) (hdef:Zal p X.env=([],[]))
  (hin:∀cv,Zag k ps.toList=aw cv->∃c',cv = .ref c'/\H c'=aw (cdO c' (X.env.qual ++ "<lambda>")))
  (h:∀c' q y f E s',Inv X pins σ E s'->E T=aw (.tbl y)->VV y.toList->Zag k y.toList=aw (.ref c')->E c'=aw (cdO c' (X.env.qual ++ "<lambda>")) ->
   E q=aw (fnO q (kla_obj "<lambda>" (X.env.qual ++ "<lambda>") p body d [] ((mg "__name__").getD .none) c' f))->(∀b o,b≠T->H b=aw o->E b=aw o)->(∀b o,E b=aw o->b=T\/H b=aw o\/s⁻¹<=b)->s⁻¹<=q->Q (.ref q) s') :
  wpAny (model X.prog X.w) X.A (eval (.Lambda p body d k) X.env) Q X.xe s:=by
 let tT:s.heap.get? T=aw {cls:=.none,data:=.fields ps}:=I.hok T _ U;let lT:=Zv tT;calc kla_eval hdef ?_;cases O:Zag k ps.toList with
 |none=>
  calc kla_makeFunction hcl I.ok.glob hg u C tT v O hgT hb λc' f j tk hx n hlt J htb=>?_;let nT:c'≠T:=λz=>by rw[z]at n;exact absurd (ZD lT n) (ZI _)
  let Y:j.objs.size≠T:=λz=>by let:=ZD lT n;omega
  let qc:j.objs.size≠c':=λz=>by omega
  let kp:∀b o,b≠T->s.heap.get? b=aw o->(j.push (kla_obj "<lambda>" (X.env.qual ++ "<lambda>") p body d [] ((mg "__name__").getD .none) c' f)).get? b=aw o:=λb o nb e=>Zc _ (hx b o nb e);let gq:(j.push (kla_obj "<lambda>" (X.env.qual ++ "<lambda>") p body d [] ((mg "__name__").getD .none) c' f)).get? j.objs.size=aw (kla_obj "<lambda>" (X.env.qual ++ "<lambda>") p body d [] ((mg "__name__").getD .none) c' f):=Zs _ rfl;let B:∀ {b:Addr},s⁻¹<=b->H b=aD:=λe=>I.hok.fresh e
  refine h c' j.objs.size (ps++#[rawInt k.line,rawInt k.col,.ref c']) f (upd (upd (upd H T (.tbl (ps++#[rawInt k.line,rawInt k.col,.ref c']))) c' (cdO c' (X.env.qual ++ "<lambda>"))) j.objs.size (fnO j.objs.size _)) _
   (I.grow (more:=#[rawInt k.line,rawInt k.col,.ref c']) U ?_ kp (Zc _ htb) (λb o nb e=>?_) λb o e=>?_) ?_ ?_ ?_ ?_ az (λb o nb e=>?_) (λb o e=>?_) (by omega)
  .rw[ae Y.symm,ae nT.symm,az]
  .rw[ae (λz=>by rw[z,B (by omega)]at e;cases e),ae (λz=>by rw[z,B n]at e;cases e),ae nb];exact e
  .by_cases Z:b=j.objs.size
   .subst Z;rw[az]at e;cases e;exact .inr {by omega,KA gq}
   .rw[ae Z]at e;by_cases z2:b=c'
    .subst z2;rw[az]at e;cases e;exact .inr {n,RQ (J.push _)}
    .rw[ae z2]at e;by_cases L:b=T
     .exact .inl (.inl L)
     .rw[ae L]at e;exact .inl (.inr e)
  .rw[ae Y.symm,ae nT.symm,az]
  .rw[Wf];exact TriplesOk_snoc _ _ _ _ v
  .rw[Wf];exact codeAmong_snoc _ v O
  .rw[ae qc.symm,az]
  .rw[ae (λz=>by rw[z,B (by omega)]at e;cases e),ae (λz=>by rw[z,B n]at e;cases e),ae nb];exact e
  .by_cases Z:b=j.objs.size
   .exact .inr (.inr (by rw[Z];omega))
   .rw[ae Z]at e;by_cases z2:b=c'
    .exact .inr (.inr (by rw[z2];omega))
    .rw[ae z2]at e;by_cases L:b=T
     .exact .inl L
     .rw[ae L]at e;exact .inr (.inl e)
 |some cv=>
  let{c',rfl,hc'}:=hin cv O;calc kla_makeFunctionHit hcl I.ok.glob hg u C tT v O hb λf j tk hk l=>?_;let kp:∀b o,b≠T->s.heap.get? b=aw o->(j.push (kla_obj "<lambda>" (X.env.qual ++ "<lambda>") p body d [] ((mg "__name__").getD .none) c' f)).get? b=aw o:=λb o _ e=>Zc _ (hk b o e);let gq:(j.push (kla_obj "<lambda>" (X.env.qual ++ "<lambda>") p body d [] ((mg "__name__").getD .none) c' f)).get? j.objs.size=aw (kla_obj "<lambda>" (X.env.qual ++ "<lambda>") p body d [] ((mg "__name__").getD .none) c' f):=Zs _ rfl;let B:∀ {b:Addr},s⁻¹<=b->H b=aD:=λe=>I.hok.fresh e;let Y:j.objs.size≠T:=λz=>absurd (ZD lT (z▸l)) (ZI _);let qc:j.objs.size≠c':=λz=>absurd (ZD (I.hok.lt hc') (z▸l)) (ZI _);refine h c' j.objs.size ps f (upd H j.objs.size (fnO j.objs.size _)) _ (I.grow (more:=#[]) U ?_ kp ?_ (λb o nb e=>?_) λb o e=>?_) ?_ v O ?_ az (λb o nb e=>?_) (λb o e=>?_) l
  .rw[ae Y.symm,Wk];exact U
  .rw[Wk];exact Zc _ (hk _ _ tT)
  .rw[ae (λz=>by rw[z,B l]at e;cases e)];exact e
  .by_cases Z:b=j.objs.size
   .subst Z;rw[az]at e;cases e;exact .inr {l,KA gq}
   .rw[ae Z]at e;exact .inl (.inr e)
  .rw[ae Y.symm];exact U
  .rw[ae qc.symm];exact hc'
  .rw[ae (λz=>by rw[z,B l]at e;cases e)];exact e
  .by_cases Z:b=j.objs.size
   .exact .inr (.inr (by rw[Z];omega))
   .rw[ae Z]at e;exact .inr (.inl e)
end L2
namespace Ev
open PySem PySem.Spec PyProof.Rows L2
open PySem.W (KasT kas_sort kas_ask)
abbrev GW(H:Hp)(k:V->List V)(v:List V)(ks:List Value):Prop:=ks.length<=v.length/\∀ (j:Nat) x,j < ks.length->v[j]?=aw x->∃r,ks[j]?=aw (.ref r)/\H r=aw (.tup (k x))
section
variable {X:Cx} {d:List (Addr×Obj)} {f:L2.St} {H:Hp} {s:Shared} {l q:Addr} {vs:List V} {Q:Value->Shared->Prop}
def ir(r:aJ vs its):∀ {is:List Nat},aJ (is.map λi=>vs.getD i .non) (is.map λi=>its.getD i Value.none)
 |[]=>.nil
 | i::is=>.cons (by
   show L2.aE (vs.getD i .non) (its.getD i Value.none);by_cases h:i < vs.length
   .let{u,c,b}:=r.get (gEG h);rw[Zr,Zr,c,gEG h];exact b
   .rw[Zr,Zr,Zw (by omega),Zw (by rw[<-r.length];omega)];exact rfl) (ir r)
def Ay(I:L2.Inv X d f H s)(hl:SqL X.K H l vs)(h64:vs.length < 64)(κ:SortKind)(lt:Nat->Nat->Bool)(key:V->List V)
  (hlam:∀ (L:Shared) (B:Hp) (x:V) (u:Value),Env0 X.prog X.w X.K X.mg X.base X.A.in1.in1 X.stack L B->(∀b o,H b=aw o->B b=aw o)->x∈vs->aE x u->codeAny (model X.prog X.w) X.A.in1.in1 (.call (.ref q) ⟨[u],[]⟩) (CR CX0 X.stack X.prog X.w B L (λv U=>(∃r,v = .ref r/\U r=aw (.tup (key x)))/\∀b o,B b=aw o->U b=aw o) E0) L)
  (kd:∀L B ks,L2.Inv X d f B L->GW B key vs ks->ks.length=vs.length->(∀b o,H b=aw o->B b=aw o)->2<=vs.length->∀ (A:Around) (E:Value->Shared->Prop) (Q:SortKind->Shared->Prop),Q κ L->wpAny (model X.prog X.w) A (keyKind' ks.toArray) Q E L)
  (hlt:∀L B ks,L2.Inv X d f B L->GW B key vs ks->ks.length=vs.length->(∀b o,H b=aw o->B b=aw o)->∀i j,i < vs.length->j < vs.length->∀C:Bool->Shared->Prop,C (lt i j) L->kas_ask X.prog X.w X.A.in1.in1 κ ks i j C L)
  (h:∀a B L,L2.Inv X d f B L->B a=aw (.lst (if vs.length < 2 then vs else (bV lt (kas_sort vs.length)).toList.map λi=>vs.getD i .non))->H a=aD->(∀b o,H b=aw o->B b=aw o)->Q (.ref a) L) :
  wpAny (model X.prog X.w) X.A (call (.builtin "sorted") [.ref l] [(Str.ofString "key",.ref q)]) Q X.xe s:=by
 let{O,rv,pl,hz}:=I.list hl;let lv:vs.length=O.length:=rv.length;let Hn:∀ {b:Addr},s⁻¹<=b->H b=aD:=λe=>I.hok.fresh e
 refine w8 (J:=λe1 i kA L=>∃B,L2.Inv X d f B L/\(∀b o,H b=aw o->B b=aw o)/\L.heap.get? (s⁻¹+1)=aw (seqObj "list" #[] e1)/\B (s⁻¹+1)=aD/\(∃e,L.heap.get? (s⁻¹+3)=aw (seqObj "list" kA e))/\B (s⁻¹+3)=aD/\kA.size=i/\GW B key vs kA.toList)
  pl.isList (by omega) κ lt (λh1 e1 k1 k2 k3 k4=>{H,I.kept k1,λ_ _ e=>e,k2,Hn (by omega),⟨0,k3⟩,Hn (by omega),rfl,Z2 _,λj x hj=>absurd hj (XY j)})
  (λe1 i kA L hJ=>let ⟨B,_,_,a1,_,a3,_,z,_⟩:=hJ;⟨z,a3,a1⟩) (λe1 i v kA L hv hJ=>?turn) (λe1 kA L hJ h2 A E Q qq=>?kd) (λe1 kA L hJ i j hi hj C c=>?lt) λe1 kA L h' c hJ k1 k2 k3=>?fin
 case turn=>
  let{B,Z,mo,a1,n1,⟨e,a3⟩,n3,z,ky}:=hJ
  obtain⟨x,hx,rx⟩:∃x,vs[i]?=aw x/\aE x v:=by
   let hi:i < vs.length:=by rw[lv];exact(Zb.mp hv).1
   let{u,hu,ru}:=rv.get (gEG hi);rw[hv]at hu;cases hu;exact{_,gEG hi,ru}
  calc wpAny_call (Zai (hlam L B x v Z.env0.in1.in1 mo (Zd hx) rx) λr s'' hq=>?_);cases r with
  |error e=>exact hq.elim
  |ok fl=>
   cases fl with
   |next=>exact False.elim hq
   |brk=>exact False.elim hq
   |cont=>exact False.elim hq
   |ret u=>
    let{w,U,os,bare,un,hok,rw',⟨r,rfl,hr⟩,mo2}:=hq;obtain rfl:u = .ref r:=rw'
    let nst:∀ {b:Addr},s⁻¹<=b->b∉frs X.stack:=λ{b} hb hm=>by
     rcases Zn.mp (I.stkSub b hm) with e |e
     .exact absurd (ZD I.lt (e▸hb)) (ZI _)
     .exact I.nofs hb e
    let b1:=un.keep _ _ a1 n1 (nst (by omega)) (by simp);let b3:=un.keep _ _ a3 n3 (nst (by omega)) (by simp);let m1:=un.free _ _ a1 n1 (by simp);let m3:=un.free _ _ a3 n3 (by simp);let{v',H3,I3,rv3,⟨e3,eH⟩}:=Z.after (Q:=λv H3=>v = .ref r/\H3=U) {.ref r,U,os,bare,un,hok,rfl,rfl,rfl};subst eH;let s1:=Heap.SameBut.update s''.heap (s⁻¹+3) (Obj.mapSeq (·.push (.ref r)));refine{⟨e,b3⟩,H3,?_,λb o eb=>mo2 b o (mo b o eb),(s1.2 _ (show s⁻¹+1≠s⁻¹+3 by omega)).trans b1,m1,{_,get?_update_seq b3 (·.push (.ref r))},m3,by rw[WG,z],?_}
    .let tk:=I3.turned (it:=s⁻¹+3) (t':=s''.toks) (λb o nb eb=>(s1.2 b nb).trans eb) m3 (λT=>absurd (Yh (Y3 _ 3) (T.symm▸I.lt:s⁻¹+3 < s⁻¹)) (ZI _)) (.inr (by let:=I.sz;omega)) (λy c ey T=>by
      let{vv,oo,ho,_}:=I.cell y c ey;exact absurd (Yh (Y3 _ 3) (T▸Zv ho:s⁻¹+3 < s⁻¹)) (ZI _)) (λpp hp T=>absurd (Yh (Y3 _ 3) (T▸Zv (I.pin pp hp).1:s⁻¹+3 < s⁻¹)) (ZI _))
     exact tk
    .calc{by rw[XH,Ze,Zm,Zu,z];let:=(Zb.mp hx).1;omega,λj y hj hy=>?_};rw[XH,Ze,Zm,Zu,z]at hj;rw[XH];by_cases hji:j < i
     .let{rr,er,hr'}:=ky.2 j y (by rw[Zu,z];exact hji) hy;exact{rr,by rw[Zt (by rw[Zu,z];exact hji)];exact er,mo2 _ _ hr'}
     .obtain rfl:j=i:=by omega
      rw[hx]at hy;cases hy;exact{r,by rw[Zp (by rw[Zu,z];exact Zf _),Zu,z,ZY];rfl,hr}
 case kd=>
  let{B,Z,mo,a1,n1,a3,n3,z,ky}:=hJ;let:=kd L B kA.toList Z ky (by rw[Zu,z,lv]) mo (by omega) A E Q qq
  rwa[X9]at this
 case lt=>
  let{B,Z,mo,a1,n1,a3,n3,z,ky}:=hJ;exact hlt L B kA.toList Z ky (by rw[Zu,z,lv]) mo i j (by omega) (by omega) C c
 case fin=>
  let{B,Z,mo,a1,n1,⟨e,a3⟩,n3,z,ky}:=hJ;let big:∀ {b k:Nat},b=s⁻¹+k->¬ b < s⁻¹:=λ{b k} e=>by omega
  let hch:∀b∈[s⁻¹+1,s⁻¹+3],(b∈X.ex\/X.s₀.heap.objs.size<=b)/\b≠X.env.locals/\(∀x c,X.env.cells.lookup x=aw c->c≠b)/\∀p∈X.pn++d,p.1≠b:=λb hb=>by
   obtain⟨k,ek⟩:∃k:Nat,b=s⁻¹+k:=by
    rcases Zn.mp hb with e |hb
    .exact⟨1,e⟩
    .exact{3,ZG.mp hb}
   calc{.inr (by let:=I.sz;omega),λT=>big ek (T.symm▸I.lt),λy c ey T=>?_,λpp hp T=>big ek (T▸Zv (I.pin pp hp).1)};let{vv,oo,ho,_}:=I.cell y c ey;exact big ek (T▸Zv ho)
  let out:∃os:List Value,aJ (if vs.length < 2 then vs else (bV lt (kas_sort vs.length)).toList.map λi=>vs.getD i .non) os/\(if O.length < 2 then O.toArray else YO ((bV lt (kas_sort O.length)).toList.map λi=>O.getD i Value.none))=os.toArray:=by
   rw[lv];by_cases h2:O.length < 2
   .rw[if_pos h2,if_pos h2];exact⟨O,rv,rfl⟩
   .rw[if_neg h2,if_neg h2];exact{_,ir rv,rfl}
  let{os,ro,eo}:=out;rw[eo]at k2;refine h (s⁻¹+1) (upd B (s⁻¹+1) (.lst _)) {L with heap:=h'} ?_ az (Hn (by omega)) λb o eb=>by rw[ae (λz=>by rw[z,Hn (by omega)]at eb;cases eb)];exact mo b o eb
  let nn:∀ {b u},B b=aw u->b≠s⁻¹+1/\b≠s⁻¹+3:=λ{b u} e=>{(λz=>by rw[z,n1]at e;cases e),(λz=>by rw[z,n3]at e;cases e)};let nc:∀ {b:Addr},b∉[s⁻¹+1,s⁻¹+3]->b≠s⁻¹+1/\b≠s⁻¹+3:=λ{b} hb=>{λz=>hb (by simp[z]),λz=>hb (by simp[z])};let cl:=λb hb=>(hch b hb).2.1;refine Z.step (g':=L.gens) (d':=L.drawn) (t':=L.toks) (ch:=[s⁻¹+1,s⁻¹+3]) hch (λb o _ _ Y e _=>k1 b o (nc Y).1 (nc Y).2 e) (λb o _ _ Y e _=>{o.slots,k1 b o (nc Y).1 (nc Y).2 e}) (λb o Y e n=>by rw[ae (nc Y).1];exact n) (λb o Y e=>{o,k1 b o (nc Y).1 (nc Y).2 e}) (λb xs e=>by rw[ae (nn e).1];exact e) (λb o u e=>by rw[ae (nn e).1];exact e) (λb ps e=>{#[],by rw[ae (nn e).1,e];simp}) (λm hm=>?_) (λb u e=>?_) Z.bare
  .let{o,es,ep,ho,r}:=hm;exact{o,es,ep,k1 _ o (Ne.symm (cl _ (by simp))) (Ne.symm (cl _ (by simp))) ho,r}
  .by_cases zb:b=s⁻¹+1
   .subst zb;rw[az]at e;cases e;calc{?_,os,c,ro,k2};let:=ro.length;let e2:=congrArg Array.size eo;rw[this];let e2:_=os.length:=e2.trans Zk;rw[<-e2,ZaN];split
    .rw[Zk];omega
    .rw[Zk,Za,Zu];let pm:Pm O.length (bV lt (kas_sort O.length)):=(jz (n:=O.length) (by omega)).run (lt:=lt);let:(bV lt (kas_sort O.length)).size=O.length:=(Array.Perm.size_eq pm).trans (by simp);omega
   .rw[ae zb]at e;refine(Z.hok b u e).stay (λb' v hb' q=>k1 b' v ?_ ?_ q) (λb' q=>by rw[ae (nn q).1];exact q) λb' xs q=>by rw[ae (nn q).1];exact q
    .rcases hb' with y |y
     .rw[y];exact(nn e).1
     .exact(nn y).1
    .rcases hb' with y |y
     .rw[y];exact(nn e).2
     .exact(nn y).2
end
section
open PySem.SeqAt
variable {prog:Program} {w:World} {A:Around} {E:Value->Shared->Prop} {s:Shared}
def yz{a b:Int}{n k:Nat}(f:A.units < cLine)(v:s.heap.get? x=aw O)(J:O.data = .seq #[.int a u,.ref p] n)(z:s.heap.get? y=aw B)(X:B.data = .seq #[.int b L,.ref q] k)
  (T:IsTup s.heap p xs) (l:IsTup s.heap q Y) (j:IntsAre xs.toList ns) (I:IntsAre Y.toList Q) (h:C (cS (a,ns) (b,Q)) s):wpAny (model prog w) A (keyLt' (tuples' aN) (.ref x) (.ref y)) C E s:=by
 calc PySem.W.kat_lt v J z X ?_;show PySem.W.KatLex prog w A aN _ C [(.int a u,.int b L),(.ref p,.ref q)] 0 s;delta cS at h;calc wpAny_eqBool_int ?_;cases d:a == b with
 |true=>
  rw[if_pos rfl];rw[if_pos (by simpa using d)]at h;let{e,U,c}:=qv (A:=A) (s:=s) f T l j I;calc U prog w _ _ ?_;cases e with
  |true=>
   let:=c.mp rfl;subst this;rw[nP]at h;exact h
  |false=>
   rw[if_neg Zh];exact PySem.W.kat_one _ _ (HT.mP T l j I f h)
 |false=>
  rw[if_neg Zh];rw[if_neg (by simpa using d)]at h;exact oneLt_int h
end
end Ev
namespace Ev
open PySem PySem.Spec PyProof.Rows L2
open PySem.W (kas_sort kas_ask KatTups)
abbrev GY(h:Heap)(v:Value)(w:Int×List Int):Prop:=∃r o t p n X,v = .ref r/\h.get? r=aw o/\o.cls = .type "tuple"/\o.data = .seq #[.int w.1 t,.ref p] n/\IsTup h p X/\IntsAre X.toList w.2
def r9:∀ {its:List Value} {ws:List (Int×List Int)},(∀i,i < its.length->GY h (its.getD i Value.none) (ws.getD i (0,[])))->∃fs:List Value,KatTups h its fs/\fs.length=its.length/\∀v∈fs,∃i t,v = .int i t
 |[],_,_=>{[],KatTups.nil,rfl,λv b=>by simp at b}
 |v::its,ws,hp=>by
  let{r,o,t,p,n,X,d,e,c,hd,_}:=hp 0 (by simp)
  let{fs,k,f,hi}:=r9 (its:=its) (ws:=ws.tail) λi hi=>by
   let:=hp (i+1) (by simpa using hi);cases ws with
   |nil=>simpa using this
   |cons _ _=>simpa using this
  let E:v = .ref r:=by simpa using d
  subst E
  exact⟨.int (ws.getD 0 (0,[])).1 t::fs,KatTups.cons e c hd rfl k,by simp[f],λw hw=>by
   rcases Zn.mp hw with rfl |hw
   .exact⟨_,_,rfl⟩
   .exact hi w hw⟩
inductive LotsV(H:Hp):List V->List (List Int)->Prop where
 |nil:LotsV H [] []
 |cons {r:Addr} {ns:List Int} {vs:List V} {ls:List (List Int)}:H r=aw (.tup (ns.map V.int))->LotsV H vs ls->LotsV H (.ref r::vs) (ns::ls)
def LotsV.at(h:LotsV H v ls):v.length=ls.length/\∀ (i:Nat) x,v[i]?=aw x->∃r ns,x = .ref r/\ls[i]?=aw ns/\H r=aw (.tup (ns.map V.int)):=by
 induction h with
 |nil=>exact{rfl,λi x e=>by cases e}
 |cons b _ I=>
  calc{by simp[I.1],λi x e=>?_};cases i with
  |zero=>cases e;exact⟨_,_,rfl,rfl,b⟩
  |succ i=>exact I.2 i x e
abbrev M2(H:Hp):V->Int
 | .ref r=>(match H r with
  |some (.tup xs)=>xs.length
  | _=>0)
 |_=>0
abbrev Az(H:Hp)(x:V):List V:=[.int (M2 H x),x]
abbrev eK(ls:List (List Int))(i:Nat):Int×List Int:=((ls.getD i []).length,ls.getD i [])
section
variable {X:Cx} {d:List (Addr×Obj)} {f:L2.St} {H:Hp} {s:Shared} {l q:Addr} {vs:List V} {ls:List (List Int)} {Q:Value->Shared->Prop}
def nR(I:L2.Inv X d f j C)(J:LotsV H vs ls)(z:∀b o,H b=aw o->j b=aw o)(O:GW j (Az H) vs ks)(hk:ks.length=vs.length)(i:Nat)(hi:i < vs.length):GY C.heap (ks.getD i Value.none) (eK ls i):=by
 let{p,ns,ex,E,k}:=J.at.2 i _ (gEG hi);let{r,v,h}:=O.2 i _ (by omega) (gEG hi);rw[Zr,v];delta eK;rw[Zr,E];rw[ex]at h
 let E:M2 H (.ref p)=ns.length:=by
  show(match H p with |some (.tup c)=>(c.length:Int) |_=>0)=_;rw[k];simp
 delta Az at h;rw[E]at h;let{_,L,u,o,n,B,nn,Z,h4}:=I.hok r _ h;let{x,y,rfl,r1,r2}:=mL u;let{T,rfl}:=r1;cases r2;let{c,Y,U,_}:=I.tuple (.of (z _ _ k));exact{r,o,T,p,nn,c.toArray,rfl,n,B,Z,U,by simpa using bv Y}
def AA(I:L2.Inv X d f H s)(hu:X.A.in1.in1.units < cLine)(hl:SqL X.K H l vs)(Z:LotsV H vs ls)(Y:vs.length < 64)
  (z:∀ (y:Shared) (k:Hp) (x:V) (u:Value),Env0 X.prog X.w X.K X.mg X.base X.A.in1.in1 X.stack y k->(∀b o,H b=aw o->k b=aw o)->x∈vs->aE x u->codeAny (model X.prog X.w) X.A.in1.in1 (.call (.ref q) ⟨[u],[]⟩) (CR CX0 X.stack X.prog X.w k y (λv B=>(∃r,v = .ref r/\B r=aw (.tup (Az H x)))/\∀b o,k b=aw o->B b=aw o) E0) y)
  (h:∀a k y,L2.Inv X d f k y->k a=aw (.lst (if vs.length < 2 then vs else (bV (λi j=>cS (eK ls i) (eK ls j)) (kas_sort vs.length)).toList.map λi=>vs.getD i .non))->H a=aD->(∀b o,H b=aw o->k b=aw o)->Q (.ref a) y) :
  wpAny (model X.prog X.w) X.A (call (.builtin "sorted") [.ref l] [(Str.ofString "key",.ref q)]) Q X.xe s:=by
 refine Ay I hl Y (tuples' aN) (λi j=>cS (eK ls i) (eK ls j)) (Az H) z (λy k ks L U J O h2 A E Q qq=>?_) (λy k ks L U J O i j hi hj C c=>?_) h
 .let ws:∀i,i < ks.length->GY y.heap (ks.getD i Value.none) (((Zi vs.length).map (eK ls)).getD i (0,[])):=λi hi=>by
   let:=nR L Z O U J i (by omega);let e:((Zi vs.length).map (eK ls)).getD i (0,[])=eK ls i:=by rw[Zr,Zq,Yn (by omega)];rfl
   rw[e];exact this
  let{fs,kt,fl,fi}:=r9 ws
  exact V5 (T:=.type "int") kt (by omega) (λv hv=>by
   let{i,t,rfl}:=fi v hv;exact PySem.W.Looks.of_pure rfl) (by decide) qq
 .let{r,o,t,p,n,xs,e1,e2,e3,e4,e5,e6}:=nR L Z O U J i hi;let{r',o',t',p',n',xs',d1,d2,d3,d4,d5,d6}:=nR L Z O U J j hj;delta kas_ask;rw[e1,d1];exact yz hu e2 e4 d2 d4 e5 d5 e6 d6 c
end
end Ev
namespace L2
open PySem PySem.Spec PyProof.Rows
abbrev Itd(hi:Int)(n:Nat):It:={λi _=>i < n,λi H x h=>h=H/\x = .int (hi - i),λi _=>n<=i}
def AB{P:Program}{w:World}{K:VX}{tg:Expr}(it:Addr)(lo:Int)(n:Nat):Turn P w K tg (Itd lo n) [it] it (λi h=>VJ h it (lo+(i:Nat) * (-1)) ((n:Int) - (i:Nat)) (-1)) where
 mem:=by simp
 obj:=λi h st b hb=>by
  let e:b=it:=by simpa using hb
  subst e
  exact⟨_,st,λv z=>by
   let Z:Data.fields _=Data.cell v:=z;cases Z⟩
 keep:=λi h f st k=>k it (by simp) _ st
 item:=by
  intro X J j u B i p s Q H E I d st C;subst J j u;let{L,y,U,O,l,q}:=d it (by simp);let W:=Walks.range (prog:=X.prog) (w:=X.w) (I.ok.hd B) it lo (-1) n;calc W.item i s _ _ C st λv f T hv c kk=>?_;let{t,rfl}:=hv;let I1:Inv X p Q H {s with heap:=f,toks:=T}:=I.turned (λb o hb e=>kk b o (by simpa using hb) e) L y O l q;refine{_,rfl,tI (s:={s with heap:=f,toks:=T}) (n := "range_iterator") c rfl rfl (by decide) {.int (lo - i),H,I1,{t,?_},⟨rfl,rfl⟩,c,λb hb=>(d b hb).1}}
  congr 1
  omega
 done:=by
  intro X J j u B i p s Q H E I d st C;subst J j u;let{L,y,U,O,l,q}:=d it (by simp);exact Zbq (I.ok.hd B) st (by let:n<=i:=C;omega) λf Y=>{rfl,I.turned (t':=s.toks) (λb o hb e=>Y b o hb e) L y O l q}
 self:=λ_ _ _ _ _ st h=>Zbm st h
section
variable {X:Cx} {T:Expr}
def w9{a:Int}(b:-(2 ^ 62)<=a)(h:a < 2 ^ 62):Builtin.Range.small a (-1) (-1)=aN:=by
 delta Builtin.Range.small;rw[Pi];simp![Builtin.Range.rangeFitsLong,bAE,Xb,decide_eq_true_eq,beq_iff_eq,show ¬ (-1:Int) > 0 by decide,if_false];split <;> omega
def GZ{p:List (Addr×Obj)}{c:St}{H:Hp}{s:Shared}{R:It->Hp->Prop}{E:Value->Shared->Prop}{lo:Int}{t u v:Tok}{f:Nat}(I:Inv X p c H s)(j:-(2 ^ 62)<=lo)(k:lo < 2 ^ 62)
  (q:R (Itd lo (lo+1).toNat) H):wpAny (model X.prog X.w) X.A (pyIter (.ref s⁻¹)) (PIE X p c T R) E {s with heap:=s.heap.push {cls:=.type "range",data:=.fields #[.int lo t,.int (-1) u,.int (-1) v]},toks:=f}:=by
 calc wpAny_pyIter_range (IsRange.new ..) (w9 j k) ?_;let d:Inv X p c H {s with heap:=s.heap.push {cls:=.type "range",data:=.fields #[.int lo t,.int (-1) u,.int (-1) v]},toks:=f}:=I.kept λb o e=>Zc _ e
 refine⟨(s.heap.push {cls:=.type "range",data:=.fields #[.int lo t,.int (-1) u,.int (-1) v]}).objs.size,[(s.heap.push {cls:=.type "range",data:=.fields #[.int lo t,.int (-1) u,.int (-1) v]}).objs.size],_,_,H,rfl,
  d.kept (t':=f) λb o e=>Zc _ e,AB _ lo (lo+1).toNat,?_,λb hb=>?_,q⟩
 .let l:lo+((0:Nat):Int) * (-1)=lo:=by simp
  let h:(((lo+1).toNat:Nat):Int) - ((0:Nat):Int)=Builtin.Range.rangeSize lo (-1) (-1):=by rw[Pi];split <;> omega
  show VJ _ _ (lo+((0:Nat):Int) * (-1)) ((((lo+1).toNat:Nat):Int) - ((0:Nat):Int)) (-1);rw[l,h];exact Zs _ rfl
 .let e:b=(s.heap.push {cls:=.type "range",data:=.fields #[.int lo t,.int (-1) u,.int (-1) v]}).objs.size:=by simpa using hb
  subst e;exact d.fpOk (Zf _) (d.hok.fresh (Zf _))
abbrev iDn(c:TA):TI:=λb H R=>c b H λv h=>∃i:Int,v=[.int i,.int (-1),.int (-1)]/\(-(2 ^ 62)<=i/\i < 2 ^ 62)/\R (Itd i (i+1).toNat) h
def RS{a b c:Expr}{n:TA}{p d:Pos}(B:Gl X "range")(E:X.mg "range" = aD)(y:PA X [a,b,c] n)(hs:ZaP [a,b,c] X.env=(aS,eval a X.env)::ZaP [b,c] X.env)(l:(backTo d (ZaP [b,c] X.env)).any (·.1)=aS) :
  PI X T (.Call (.Name "range" p) [a,b,c] [] d) (iDn n):=by
 intro j s u H R I h;calc Call_ (eF I B E boot_range (W4 (thn (y d j s u H _ I h) λU Z ⟨O,L,v,r1,Q⟩=>?_) hs l));let{i,e,⟨Q,z⟩,q}:=Q;subst e;cases r1 with
 |cons r f=>
  cases f with
  |cons C f=>
   cases f with
   |cons k f=>
    cases f;let{t,rfl}:=r;let{Y,rfl}:=C;let{J,rfl}:=k;exact call_range_3 (by decide) (GZ v Q z q) (.inl (PyProof.noPylong_of_log2 (by decide +kernel)))
end
end L2
namespace Ev
open PySem PySem.Spec PyProof.Rows L2
abbrev nxD(hi:Int)(n:Nat):Nxt:=λi _=>aw (if i < n then aw (.int (hi - i)) else aD)
section
variable {K:VX} {m M:List Addr} {H a:Hp} {S:Sto} {B:List Addr}
def M3{lo:Int}{n:Nat}:IOk K B (Itd lo n) (nxD lo n) M a:=by
 intro m S H i x R;delta nxD;refine⟨λe=>?_,λd e=>?_⟩
 .split at e
  .cases e
  .show n<=i;lia
 .split at e
  .rename_i hi;cases e;exact{hi,λy b ⟨E,h⟩=>by subst E;subst h;exact{Aft.refl R,bg}}
  .cases e
abbrev xDn(x:XE):XI:=λb S=>bnd (x b S) λd c=>match d with
 |.int j=>if lim j=aN then aw (nxD j (j+1).toNat,c) else aD
 |_=>aD
def RT(h:tIt K B (xDn x) k H R):iDn (cf (tE K x) (cf (tC (.int (-1))) (cf (tC (.int (-1))) ji))) k H R:=by
 let{m,n,S,nx,y,E,j,u,e,q}:=h;let{d,f,p,e}:=ac e;calc{m,n,S,d,f,E,j,p,λm1 c v l vd=>?_};cases d with
 |int i=>
  dsimp! at e;split at e
  .rename_i b;cases e;exact{i,by rw[vd.ints],{(gx b).1,(gx b).2},q m1 c _ l M3}
  .cases e
 |_=>cases e
end
end Ev
namespace Ev
open PySem PySem.Spec PyProof.Rows L2
open PySem.W (kas_sort KatTups)
section
variable {X:Cx} {K:VX} {m:List Addr} {H:Hp} {S:Sto}
abbrev xa(d:D)(b:List D)(S:Sto):Option (D×Sto):=match d,b with
 | .tup ds,[.int x]=>(match cP ds with
  |some ns=>if x∈ns then aw (.int (ns.idxOf x:Nat),S) else aD
  | none=>aD)
 |_,_=>aD
def G0:MtR X "tuple.index" (rM X.K xa):=by
 intro E s σ H x xs v us Q I rx rs h;let{m,S,a,as,d,S',R,U,L,e,q}:=h;delta xa at e;split at e
 .rename_i O z;cases hi:cP O with
  |none=>rw[hi]at e;cases e
  |some ns=>
   rw[hi]at e;dsimp! at e;split at e
   .rename_i hm;cases e;let{p,ws,rfl,sq,vds}:=U.tups;let{y,rfl,vy}:=Gr L;let T:=cQ hi;subst T;let Y:=bO vds;subst Y;cases vy.ints;cases rx;let{u,rfl,ru}:=bQ rs;let{b,r,⟨⟨cls,dd,C,sl⟩,e,B,n,hd⟩,hz}:=I.tuple (SqT.of (K:=X.K) sq);simp! at B hd;subst B hd;let l:b.length=ns.length:=by rw[<-r.length];simp
    let f:ns.idxOf z < ns.length:=Xa.mpr hm
    let at_:∀ (j:Nat) (k:j < b.toArray.size) (c:j < ns.length),eqU (.int z) b.toArray[j]=(ns[j] == z):=λj k c=>by
     let{u,Z,t,rt}:=r.get (i:=j) (x:=.int ns[j]) (by rw[Zq,gEG c];rfl)
     let:b.toArray[j]=u:=by
      let:=Zb.mp Z
      simpa using this.2
     rw[this,rt];rfl
    refine Zad VC ⟨_,e,rfl⟩ F.entry_tuple_index (F.args_tuple_index_2 _ _) (pP p b.toArray n dd sl u (eqU (.int z)) (ns.idxOf z) (by simpa[l] using f) ?_ λj k c=>?_) {e,λw J=>dD ru rfl r (by simp[dU]) w (by simpa using J),?_}
    .rw[at_ _ (by simpa[l] using f) f,Wl f];simp
    .rw[at_ _ k (WT c f)];let:=List.not_of_lt_findIdx (p:=(· == z)) (xs:=ns) c
     simpa using this
    .exact{.int _,H,I.tok _,⟨_,rfl⟩,q m H _ (Aft.refl R) bg}
   .cases e
 .cases e
def ux(hc:X.calm=aN):aV X (.type "tuple") (λxs H Q=>∃ (p:Addr) (n:Nat),xs=[.ref p]/\H p=aw (.rng 0 n)/\n<=1000/\∀l,H l=aD->Q (.ref l) (upd H l (.tup ((Zi n).map λ(i:Nat)=>V.int i)))):=by
 intro L s σ H xs us Q I r h;let{p,n,rfl,hp,hn,q}:=h;let{u,rfl,ru}:=bQ r;cases ru;let{t,u,v,e}:=(show ba X.prog X.w H s.heap p (.rng 0 n) from I.hok p _ hp);let E:Builtin.Range.small 0 n 1=aN:=small_one (by lia) (by lia) (by lia) (by lia);refine uw (n:=n) (I.ok.hd hc) e E (by rw[ZaG];split <;> lia) (by lia) λC J d f U c=>?_;calc{.ref C.objs.size,_,I.laid (t':=J) (a:=C.objs.size) (o:=.tup ((Zi n).map λ(i:Nat)=>V.int i)) (λb o e=>Zc _ (U b o e)) f ?_,rfl,q _ (I.hok.fresh f)};refine{by rw[Za,ZC,ZaN];lia,d.toList,?_,by simpa using ra.new C d}
 let go:∀ (m:Nat) (k:Nat) (l:List Value),l.length=m->(∀j x,l[j]?=aw x->∃J,x=Value.int (((k+j:Nat):Nat):Int) J)->aJ ((List.range' k m).map λ(i:Nat)=>V.int i) l:=by
  intro m
  induction m with
  |zero=>intro k l B _;cases l with |nil=>exact .nil |cons _ _=>cases B
  |succ m Y=>
   intro k l B z;cases l with
   |nil=>cases B
   |cons x l=>
    rw[List.range'_succ,Zy];let{t,e}:=z 0 x rfl;calc .cons {t,by simpa using e} (Y (k+1) l (by simpa using B) λj y O=>?_);let{t',Z}:=z (j+1) y (by simpa using O);exact{t',by rw[Z,show((k+(j+1):Nat):Int)=((k+1+j:Nat):Int) from by lia]}
 rw[List.range_eq_range'];calc go n 0 d.toList (by simpa using c.1) λj x z=>?_;let{T,e}:=c.2 j x (by simpa using z);exact{T,by rw[e,show(0:Int)+(j:Nat) * 1=((0+j:Nat):Int) from by lia]}
abbrev C1(x:XE):XE:=λb S=>bnd (x b S) λd c=>match d with
 |.int i=>if 0<=i/\i<=1000 then aw (.tup ((Zi i.toNat).map λj=>.int (Int.ofNat j)),c) else aD
 |_=>aD
def G1(f:List Nat):VDs K m H (f.map λj=>D.int (Int.ofNat j)) (f.map λ(j:Nat)=>V.int j):=by
 induction f with
 |nil=>rw[Z0,Z0,VDs]
 |cons i l I=>rw[Zy,Zy,VDs];exact⟨_,_,rfl,bg,I⟩
def G2(h:tE K (C1 x) y H Q):tE K x y H λv b=>∃i:Nat,v = .int i/\i<=1000/\∀p,b p=aD->∀l,upd b p (.rng 0 i) l=aD->Q (.ref l) (upd (upd b p (.rng 0 i)) l (.tup ((Zi i).map λ(j:Nat)=>V.int j))):=by
 let{m,B,S,J,n,E,R,e,q}:=h;let{d,I,C,e}:=ac e;cases d with
 |int i=>
  dsimp! at e;split at e
  .rename_i hi;cases e;calc{m,B,S,.int i,_,E,R,C,λm1 b v f vd=>{i.toNat,by rw[vd.ints];congr 1;lia,by lia,λp k l u=>?_}};let c:Aft K m1 b n m1 (upd b p (.rng 0 i.toNat)):={Ext.beside f.rel k _,f.rel.beside k _};let z:Aft K m1 (upd b p (.rng 0 i.toNat)) n m1 (upd (upd b p (.rng 0 i.toNat)) l (.tup ((Zi i.toNat).map λ(j:Nat)=>V.int j))):={Ext.beside c.rel u _,c.rel.beside u _};exact q m1 _ _ (f.trans (c.trans z)) (iP az (G1 _))
  .cases e
 |_=>cases e
end
section
variable {X:Cx} {K:VX} {m:List Addr} {H:Hp} {S:Sto}
abbrev prK:List D->Option (List (List NK)×List D)
 |[]=>aw ([],[])
 | .tup [k,v]::ds=>(match lW k,prK ds with
  |some k,aw r=>aw (k::r.1,v::r.2)
  | _,_=>aD)
 |_=>aD
abbrev pR(T:Bool)(d:List D)(S:Sto):Option (D×Sto):=if T=aS then (match prK d with
 |some r=>if r.1.Nodup/\r.1.length<=1000 then aw (.ref S.length,S++[.dfz r.1 r.2]) else aD
 | none=>aD) else aD
structure PrV(P:Program)(w:World)(K:VX)(m:List Addr)(H:Hp)(h:Heap)(ks:List (List NK))(es:List D)(ts:List Addr)(ys:List V)(xs:List (List NK×Addr×Value)):Prop where
 len:ts.length=xs.length
 keys:xs.map (·.1)=ks
 pr:Paired (λ(p:List NK×V) (q:List NK×Addr×Value)=>p.1=q.1/\iH H p.1 q.2.1/\aE p.2 q.2.2) (ks.zip ys) xs
 kl:ks.length=es.length
 vds:VDs K m H es ys
 tup:∀ (j:Nat) x,xs[j]?=aw x->∃t,ts[j]?=aw t/\h.IsTuple t #[.ref x.2.1,x.2.2]
def prs{c:List (Addr×Obj)}{s:Shared}{L:L2.St}(I:Inv X c L H s):∀ {q:List D} {r:List (List NK)×List D} {f:List V} {its:List Value},prK q=aw r->VDs X.K m H q f->aJ f its->∃T Y xs,its=T.map Value.ref/\PrV X.prog X.w X.K m H s.heap r.1 r.2 T Y xs
 |[],_,_,_,e,h,v=>by
  cases e;rw[VDs]at h;subst h;cases v;exact{[],[],[],rfl,rfl,rfl,.nil,rfl,by rw[VDs],λj x z=>by simp at z}
 |d::q,r,f,its,e,h,v=>by
  rw[VDs]at h;let{y,rs,rfl,J,h2}:=h;delta prK at e;split at e
  .rename_i C;cases C
  .rename_i k0 v0 ds0 C;cases C;split at e
   .rename_i k r' O Z;cases e;let{t,ws,rfl,sq,vw}:=J.tups;let{a,b,rfl,va,vb}:=wM vw;let{p,rfl,Q}:=rG O va;cases v with
    |@cons _ u _ us r1 r2=>
     cases r1;let{T,Y,xs,rfl,P}:=prs I Z h2 r2;let{it2,rr,⟨o,E,hc,n,hd⟩,_}:=I.tuple (SqT.of (K:=X.K) sq);let{u1,U,rfl,B,l}:=mL rr;cases B;refine{t::T,b::Y,(k,p,U)::xs,rfl,by simp[P.len],by simp[P.keys],.cons ⟨rfl,Q,l⟩ P.pr,by simp[P.kl],?_,λj x z=>?_}
     .rw[VDs];exact⟨_,_,rfl,vb,P.vds⟩
     .cases j with
      |zero=>cases z;exact⟨t,rfl,o,E,hc,n,hd⟩
      |succ j=>exact P.tup j x z
   .cases e
  .cases e
def AC(hc:X.calm=aN)(hu:X.A.units+64 < cLine):aV X (.type "dict") (r1 (rSq X.K pR)):=by
 intro Y s σ H j us Q I r h;let{_,rfl,m,S,tu,ds,a,vs,d,S',R,rfl,sq,vd,e,q}:=ca h;delta pR at e;split at e
 .rename_i ht;subst ht;split at e
  .rename_i f hr;split at e
   .rename_i U;cases e;let{u,rfl,ru}:=bQ r;cases ru;let{its,rv,⟨o,n,eo,v,C,O⟩,hz}:=I.list sq;let{ts,y,j,rfl,P}:=prs I hr vd rv;let{cls,dd,T,sl}:=o;simp! at v C O;subst v C O;let B:j.length=f.1.length:=by rw[<-P.keys];simp
    refine w6 (knd:=e9 X.prog X.w) (ts:=ts) (xs:=j) eo P.tup P.len (by rw[P.keys];exact U.1) (λh kp x hx=>?_) (by rw[B,ZaN];lia) (I.ok.hd hc) (show X.A.units+1+1+1 < cLine by lia) λh' t' kp dq=>?_
    .let hk:HOk X.prog X.w H h:=(I.kept (t':=s.toks) kp).hok
     let:∀ {l:List (List NK×V)} {L:List (List NK×Addr×Value)},Paired (λ(p:List NK×V) (q:List NK×Addr×Value)=>p.1=q.1/\iH H p.1 q.2.1/\aE p.2 q.2.2) l L->∀x∈L,iH H x.1 x.2.1:=by
      intro l L z
      induction z with
      |nil=>intro x hx;cases hx
      |cons k _ ih=>
       intro x hx;rcases Zn.mp hx with rfl |hx
       .rw[<-k.1];exact k.2.1
       .exact ih x hx
     exact eI hk (this P.pr x hx)
    .let{o,E,Z,e2,J,e4}:=dq.ex;let c:H s⁻¹=aD:=I.hok.fresh (Zf _);let yl:y.length=f.1.length:=by rw[<-P.vds.length,P.kl]
     refine{.ref s⁻¹,_,I.laid (t':=t') (o:=.frz o (.dT (f.1.zip y))) kp (Zf _) {Z,by rw[Xx,ZaN];lia,?_,j,FB (λ_ _ z=>{z.1,z.2.1.mono λb y e=>by rw[ae (aP e c)];exact e,z.2.2}) P.pr,o,E,_,Z,e2,J,e4,by rw[P.keys];exact U.1},rfl,?_}
     .let:=I.big;simp![beq_eq_false_iff_ne];exact Wp this
     .let nm:s⁻¹∉m:=R.no c;let x0:Ext m H m (upd H s⁻¹ (.frz o (.dT (f.1.zip y)))):=Ext.beside R c _;refine q (m++[s⁻¹]) _ _ {x0.adopt c,(R.beside c _).adoptP nm {o,y,az,{P.kl,E,by rw[J,B]},?_}} ?_
      .exact VDs.mono0 (YA m _) (λb y e=>by rw[ae (aP e c)];exact e) P.vds
      .rw[VD];exact{s⁻¹,by rw[Zp (by rw[R.len];exact Zf _),R.len,ZY];rfl,rfl}
   .cases e
  .cases e
 .cases e
abbrev kD:Key->D
 |.inl i=>.int i
 |.inr x=>.str x
abbrev nkD:NK->D
 |.non=>.non
 |.one k=>kD k
 |.tup ks=>.tup (ks.map kD)
abbrev nkT(ks:List NK):D:=.tup (ks.map nkD)
def C2(k:Key):VD K m H (kD k) (kV k):=by
 cases k with
 |inl i=>exact bg
 |inr x=>exact m9
def yA:∀ks:List Key,VDs K m H (ks.map kD) (ks.map kV)
 |[]=>by rw[Z0,Z0,VDs]
 |k::ks=>by rw[Zy,Zy,VDs];exact{_,_,rfl,C2 k,yA ks}
def RU{k:NK}{x:V}(h:vZ H k x):VD K m H (nkD k) x:=by
 cases k with
 |non=>cases h;exact kc
 |one k=>cases h;exact C2 k
 |tup ks=>let{b,rfl,hb}:=h;exact iP hb (yA ks)
def M4{ks:List NK}{b:Addr}(h:iH H ks b):VD K m H (nkT ks) (.ref b):=by
 let{c,e,r}:=h;calc iP e ?_;clear e
 induction r with
 |nil=>rw[Z0,VDs]
 |cons h _ I=>rw[Zy,VDs];exact{_,_,rfl,RU h,I}
abbrev Itk(a:Addr)(n:Nat):It:=
 ⟨λi H=>∃o E k p,H a=aw (.frz o (.dT k))/\o.data = .dict E n/\k.length=n/\k[i]?=aw p,
   λi H x h=>h=H/\∃b,x = .ref b/\∀o k p,H a=aw (.frz o (.dT k))->k[i]?=aw p->iH H p.1 b,
   λi H=>∃o E k,H a=aw (.frz o (.dT k))/\o.data = .dict E n/\k.length=n/\n<=i⟩
def qy{c b:Type}{F:c->b->Prop}:∀ {l:List c} {L:List b},Paired F l L->l.length=L.length/\∀ (i:Nat) x,l[i]?=aw x->∃y,L[i]?=aw y/\F x y
 |_,_,.nil=>{rfl,λi x e=>by simp at e}
 |_,_,.cons h t=>by
  let{d,f}:=qy t;calc{by simp[d],λi x e=>?_};cases i with
  |zero=>cases e;exact⟨_,rfl,h⟩
  |succ i=>exact f i x e
def sd{P:Program}{w:World}{h:Heap}{a:Addr}{o:Obj}{k:List (List NK×V)}{E:Array DictEntry}{n:Nat}(x:ba P w H h a (.frz o (.dT k)))(hd:o.data = .dict E n) :
  h.get? a=aw o/\(a == ZaU)=aS/\o.ExactDict/\E.size=k.length/\∀ (i:Nat) p,k[i]?=aw p->∃b en,E[i]?=aw en/\en.key = .ref b/\iH H p.1 b:=by
 let{d,I,hs,J,pr,O,z,B,j,v,f,c,_}:=x;rw[d]at j;cases j;rw[hd]at f;cases f;let{l1,L}:=qy pr;calc{d,hs,v,by rw[size_of_entries c,l1],λi p u=>?_};let{y,q,C,l,_}:=L i p u;exact{y.2.1,_,by rw[entry_at c,q];rfl,rfl,l}
def AE{P:Program}{w:World}{K:VX}{tg:Expr}(a it:Addr)(n:Nat):Turn P w K tg (Itk a n) [it] it (λi h=>h.IsKeyIter it a i n n) where
 mem:=by simp
 obj:=λi h st b hb=>by
  let e:b=it:=by simpa using hb
  subst e;let{o,e,c,d}:=st;exact{o,e,λv z=>by rw[d]at z;cases z}
 keep:=λi h y st k=>st.at λo e=>k it (by simp) o e
 item:=by
  intro X hP C Q hc i j s σ H E I u st Y;subst hP C Q;let{o,q,Z,p,B,hd,U,hp}:=Y;let{f0,T,f2,f3,J,L}:=u it (by simp);let{O,_,_,sz,ent}:=sd (I.hok a _ B) hd;let{b,en,e1,e2,e3}:=ent i p hp;let f:n=q.size:=by rw[sz,U]
  calc Ax (es:=q) (ep:=n) (i:=i) (by rw[<-f];exact st) O hd e1 λy l sb=>?_;rw[<-f]at l;let I1:Inv X j σ H {s with heap:=y}:=I.turned (t':=s.toks) (λb o hb e=>(sb.2 b hb).trans e) f0 T f3 J L;let{o2,g1,g2,g3}:=id l;calc{_,rfl,tI (s:={s with heap:=y}) g1 g2 g3 (by decide) {.ref b,H,I1,e2,{rfl,b,rfl,λo' kvs' p' h1 h2=>?_},l,λb hb=>(u b hb).1}};rw[B]at h1;cases h1;rw[hp]at h2;cases h2;exact e3
 done:=by
  intro X hP C Q hc i j s σ H E I u st Y;subst hP C Q;let{o,q,Z,B,hd,U,hx}:=Y;let{f0,T,f2,f3,J,L}:=u it (by simp);let{O,_,_,sz,ent}:=sd (I.hok a _ B) hd;let f:n=q.size:=by rw[sz,U]
  exact CY (es:=q) (ep:=n) (i:=i) (I.ok.hd hc) (by rw[<-f];exact st) O hd (by lia) λy eb=>{rfl,I.turned (t':=s.toks) (λb o hb e=>eb b o hb e) f0 T f3 J L}
 self:=λ_ _ _ _ _ st h=>wpAny_pyIter_keyiter st h
abbrev KC(T:TE):TI:=λb H R=>T b H λx h=>∃a o E k n,x = .ref a/\h a=aw (.frz o (.dT k))/\o.data = .dict E n/\k.length=n/\R (Itk a n) h
def G3{z l:Expr}{T:TE}(hl:PE X l T):PI X z l (KC T):=by
 intro p s j H R I h;calc thn (hl p s j H _ I h) λv d ⟨x,f,c,r1,Q⟩=>?_;let{a,o,B,u,n,rfl,k,hd,y,q}:=Q;cases r1;let{E,hs,ex,sz,_}:=sd (c.hok a _ k) hd;calc Aw hs E ex hd ?_;rw[sz,y];calc{d.heap.objs.size,[d.heap.objs.size],_,_,f,rfl,c.kept (t':=d.toks) λb o e=>Zc _ e,AE a _ n,{_,Zs _ rfl,rfl,rfl},λb hb=>?_,q};let e:b=d.heap.objs.size:=by simpa using hb
 subst e;exact c.fpOk (Zf _) (c.hok.fresh (Zf _))
abbrev nxK(p:Nat)(ks:List (List NK)):Nxt:=λi S=>match S[p]? with
 |some (.dfz ks' _)=>if ks'=ks then aw ((ks.map nkT)[i]?) else aD
 |_=>aD
def C3{B m0:List Addr}{H0:Hp}{p:Nat}{a:Addr}{ks:List (List NK)}(O:m0[p]?=aw a):IOk K B (Itk a ks.length) (nxK p ks) m0 H0:=by
 intro m S H i x R
 let l:∀ {r:Option D},nxK p ks i S=aw r->r=(ks.map nkT)[i]?/\∃o E v,H a=aw (.frz o (.dT (ks.zip v)))/\o.data = .dict E ks.length/\(ks.zip v).length=ks.length/\v.length=ks.length:=λ{r} e=>by
  delta nxK at e;split at e
  .rename_i u U J;split at e
   .rename_i q;subst q;cases e;let{Y,f,o,v,h,⟨j,E,n⟩,h4}:=R.ob p _ J;rw[l8 x.pre O]at f;cases f;let C:v.length=u.length:=by rw[<-h4.length,j]
    exact{rfl,o,E,v,h,n,by rw[Xx,C,XV],C}
   .cases e
  .cases e
 refine{λe=>?_,λd e=>?_}
 .let{c,o,E,v,h,j,n,h4}:=l e;exact{o,E,_,h,j,n,by simpa using Z3.mp c.symm}
 .let{c,o,E,v,h,j,n,h4}:=l e;rw[Zq]at c;let{k,q,c}:=ZE.mp c.symm;subst c;let hi:=(Zb.mp q).1
  let z:(ks.zip v)[i]?=aw (k,v[i]'(by lia)):=by
   rw[List.getElem?_zip_eq_some];exact{q,gEG (by lia)}
  calc{⟨o,E,_,_,h,j,n,z⟩,λy T ⟨L,b,Q,I⟩=>?_};subst L;subst Q;exact{Aft.refl R,M4 (I o _ _ h z)}
abbrev xDK(x:XE):XI:=λc S=>bnd (x c S) λd b=>match d with
 | .ref n=>(match b[n]? with
  |some (.dfz ks _)=>aw (nxK n ks,b)
  | _=>aD)
 |_=>aD
def RV{B:List Addr}{x:XE}{c:L2.St}{R:It->Hp->Prop}(h:tIt K B (xDK x) c H R):KC (tE K x) c H R:=by
 let{m,u,S,nx,U,E,z,Q,e,q}:=h;let{d,T,J,e}:=ac e;cases d with
 |ref n=>
  dsimp! at e;split at e
  .rename_i ks O p;cases e;calc{m,u,S,_,_,E,z,J,λm1 k v f vd=>?_};let{a,j,rfl}:=vd.refs;let{Y,b,o,L,l,⟨C,y,I⟩,h4}:=f.rel.ob n _ p;rw[j]at b;cases b;exact{a,o,y,_,ks.length,rfl,l,I,by rw[Xx,<-h4.length,C,XV],q m1 k _ f (C3 j)}
  .cases e
 |_=>cases e
abbrev iu{α:Type}(b:List (Int×List Int))(d:α)(v:List α):List α:=if v.length < 2 then v else (bV (dF b) (kas_sort v.length)).toList.map λi=>v.getD i d
abbrev M5(d:List D):Option (List D):=match ip d with
 |some b=>if d.length < 64 then aw (iu b .non d) else aD
 |none=>aD
abbrev KD(H:Hp)(c:List V)(b:List (Int×List Int)):Prop:=c.length=b.length/\∀ (i:Nat) v,c[i]?=aw v->∃w r p,b[i]?=aw w/\v = .ref r/\H r=aw (.tup [.int w.1,.ref p])/\H p=aw (.tup (w.2.map V.int))
def xc(hu:X.A.units+64 < cLine):aV X (.builtin "sorted") (λxs H Q=>∃a f d,xs=[.ref a]/\SqL X.K H a f/\KD H f d/\f.length < 64/\∀p,H p=aD->Q (.ref p) (upd H p (.lst (iu d .non f)))):=by
 intro pins s σ H xs us Q I r h;let{a,f,d,rfl,sq,⟨wl,wv⟩,h64,q}:=h;let{u,rfl,ru}:=bQ r;cases ru;let{c,y,pl,hz}:=I.list sq;let k:=y.length
 let U:∀i,i < c.length->GY s.heap (c.getD i Value.none) (d.getD i (0,[])):=λi hi=>by
  let l:i < f.length:=by lia
  let{w,r,p,Z,Y,O,L}:=wv i _ (gEG l);let B:=yp y l;rw[Zr,gEG l,ZX,Y]at B;let B:c.getD i Value.none = .ref r:=B;rw[B,Zr,Z];let{it2,r2,⟨o,eo,hc,n,hd⟩,_}:=I.tuple (SqT.of (K:=X.K) O);let{u1,u2,rfl,⟨J,rfl⟩,ru2}:=mL r2;cases ru2;let{it3,r3,tp,_}:=I.tuple (SqT.of (K:=X.K) L);exact{r,o,J,p,n,_,rfl,eo,hc,hd,tp,by simpa using wm r3}
 refine Aj pl.isList (by lia) (tuples' aN) (dF d) (λh2 A s' kp E Q' hq=>?_) (λA s' eA kp i j hi hj C hC=>?_) ?_
 .let{fs,kt,hf,hi}:=r9 (h:=s'.heap) (ws:=d) λi hi=>by
   let{r,o,J,p,n,xs,Z,Y,O,L,⟨o5,e5,e6⟩,e7}:=U i hi;exact{r,o,J,p,n,xs,Z,kp _ _ Y,O,L,{o5,kp _ _ e5,e6},e7}
  calc V5 (T:=.type "int") kt (by lia) (λv hv=>?_) (by decide) hq;let{i,t,rfl}:=hi v hv;exact PySem.W.Looks.of_pure rfl
 .let{r1,o1,J,p1,n1,x1,a1,a2,a3,a4,⟨o5,a5,a6⟩,a7}:=U i hi;let{r2,o2,t3,p2,n2,x2,b1,b2,b3,b4,⟨o6,b5,b6⟩,b7}:=U j hj;show wpAny _ A (keyLt' (tuples' aN) (c.getD i Value.none) (c.getD j Value.none)) C _ s';rw[a1,b1];exact yz (by rw[eA];show X.A.units+1+1 < cLine;lia) (kp _ _ a2) a4 (kp _ _ b2) b4 {o5,kp _ _ a5,a6} {o6,kp _ _ b5,b6} a7 b7 hC
 .let hv:aJ (iu d .non f) (if c.length < 2 then c else (bV (dF d) (kas_sort c.length)).toList.map λi=>c.getD i Value.none):=by
   delta iu;rw[k];split
   .exact y
   .exact qr y _ λi hi=>by rw[k];exact(gu (by lia)).1 i hi
  let sl:(iu d V.non f).length=f.length:=by
   delta iu;split
   .rfl
   .rw[Za,(gu (by lia)).2]
  let eo:(if c.length < 2 then c.toArray else YO ((bV (dF d) (kas_sort c.length)).toList.map λi=>c.getD i Value.none))=(if c.length < 2 then c else (bV (dF d) (kas_sort c.length)).toList.map λi=>c.getD i Value.none).toArray:=by split <;> rfl
  rw[eo];let{e,he}:=sortedAll_at s.heap c (if c.length < 2 then c else (bV (dF d) (kas_sort c.length)).toList.map λi=>c.getD i Value.none).toArray;exact{.ref (s⁻¹+1),_,I.laid (t':=s.toks) (a:=s⁻¹+1) (o:=.lst (iu d .non f)) (λb o z=>sortedAll_old z) (YM _) {by rw[sl];exact hz,_,e,hv,he},rfl,q _ (I.hok.fresh (YM _))}
abbrev C4(T:Bool)(d:List D):Option (List D):=if T=aS then (match uk T d with
 |some r=>aw r
 | none=>M5 d) else aD
def RX{d:List D}{b:List V}{ws:List (Int×List Int)}(e:ip d=aw ws)(h:VDs K m H d b):KD H b ws:=by
 let{l,f}:=rZ e;calc{by rw[l,h.length],λi v c=>?_};let hi:i < d.length:=by let:=(Zb.mp c).1;rw[h.length];exact this
 let{J,E,j}:=h.get (gEG hi);rw[c]at E;cases E;let{w,C,z}:=f i _ (gEG hi);rw[z]at j;let{r,L,rfl,q,u}:=j.tups;let{x,y,rfl,n,k}:=wM u;cases n.ints;let{p,Y,rfl,B,I}:=k.tups;let:=bO I;subst this;exact⟨w,r,p,C,rfl,q,B⟩
def qz(f:X.A.units+64 < cLine):aV X (.builtin "sorted") (r1 (rTm X.K C4)):=by
 calc aV.imp (aV.or Ak (xc f)) λp H Q h=>?_;let{_,rfl,m,S,T,d,a,v,E,R,rfl,c,vd,e,q}:=ca h;delta C4 at e;split at e
 .rename_i j;subst j;cases b:uk aS d with
  |some r=>
   rw[b]at e;cases e;exact .inl ⟨m,S,aS,d,a,v,E,R,rfl,c,vd,b,q⟩
  |none=>
   rw[b]at e;dsimp! at e;delta M5 at e;split at e
   .rename_i l k;split at e
    .rename_i n;cases e;calc .inr {a,v,l,rfl,c,RX k vd,by rw[<-vd.length];exact n,rF R ?_ q};delta iu;rw[<-vd.length];split
     .exact vd
     .exact rO vd _ λi hi=>(gu (by lia)).1 i hi
    .cases e
   .cases e
 .cases e
end
end Ev
namespace Ev
open PySem PySem.Spec PyProof.Rows L2
open PySem.W (CodeHd kla_obj kla_fn)
abbrev UI(T:Addr)(p:Pos)(c:Str)(ob:Addr->Value->Obj):TE:=λ_ H Q=>∃ps,TabOk T p c H ps/\∀d q f C h,TabOk T p c h f->h d=aw (cdO d c)->h q=aw (fnO q (ob d C))->H q=aD->(∀b o,b≠T->H b=aw o->h b=aw o)->Q (.ref q) h
def M6(b:X.env.code = .ref c)(C:CodeHd X.base c T)(hb:X.base.BuiltinsAt X.mg T)(k:Zav≠T)(n:Zaf scope X.env=pure [])(f:Zal params X.env=([],[])) :
  PE X (.Lambda params body scope pos) (UI T pos (X.env.qual ++ "<lambda>") λj d=>kla_obj "<lambda>" (X.env.qual ++ "<lambda>") params body scope [] ((X.mg "__name__").getD .none) j d):=by
 intro y s Y H Q I h;let{ps,l,h}:=h;calc M1 I l.at_ l.tr b (C.keeps I.bk) (I.mod.glob.keeps I.bk) (hb.keeps I.bk) k n f l.cd λj q p d u s' E z J L v B O new U=>?_;calc{.ref q,u,E,rfl,h j q p d u {z,J,λZ e=>?_} v B (I.hok.fresh U) O};rw[L]at e;cases e;exact⟨j,rfl,v⟩
end Ev
namespace Ev
open PySem PySem.Spec PyProof.Rows L2
open PySem.W (CodeHd kla_obj kla_fn kas_sort)
abbrev M7(v:List V)(ls:List (List Int)):List V:=if v.length < 2 then v else (bV (λi j=>cS (eK ls i) (eK ls j)) (kas_sort v.length)).toList.map λi=>v.getD i .non
abbrev KF(K:VX)(T:Addr)(p:Pos)(q:Str)(t:TA):TE:=λf H Q=>t f H λu h=>∃a v l ps,u=[.ref a]/\SqL K h a v/\LotsV h v l/\v.length < 64/\a≠T/\TabOk T p q h ps/\∀r c d,TabOk T p q c d->c r=aw (.lst (M7 v l))->h r=aD->(∀b o,b≠T->h b=aw o->c b=aw o)->Q (.ref r) c
abbrev uy(x:Str)(p c d f b:Pos)(C:Nat):Expr:=.Tuple [.Call (.Name "len" p) [.Name x c] [] d,.Name x f] C b
def G4{P:Program}{w:World}{K:VX}{mg:Str->Option Value}{base:Heap}{k X:Nat}{q C r:Addr}{x name Q:Str}{d:W6}{c:Scope}{pm j:Value}{A:Around}{outer:List Env}{s:Shared}{H:Hp}{ns:List Int}{O J U y T:Pos}
  (S:FnScope [x] [x] c) (h:c.names.lookup x=aw .local) (I:c.names.lookup ("len" : Str)=aw NameKind.globalImplicit) (B:mg "len" = aD) (f:(x == ("__debug__" : Str))=aS) (n:(x == ("__classdict__" : Str))=aS) (Z:Room (k+1) A) (E:Env0 P w K mg base A outer s H)
  (hq:H q=aw (fnO q (kla_obj name Q d (uy x O J U y T X) c [] pm C j))) (L:H C=aw (cdO C Q)) (hb:No (kla_fn name Q d (uy x O J U y T X) c [] pm (.ref C) j) ⟨[.ref r],[]⟩=pure [(x,.ref r)]) (l:H r=aw (.tup (ns.map V.int))) :
  codeAny (model P w) A (.call (.ref q) ⟨[.ref r],[]⟩) (CR CX0 outer P w H s (λv u=>(∃t,v = .ref t/\u t=aw (.tup [.int ns.length,.ref r]))/\∀b o,H b=aw o->u b=aw o) E0) s:=by
 let v0:PE (jj CX0 P w K mg base [x] Q c q (.ref C) A outer s H E0) (.Name x J) (zG 0):=v5 (i:=0) rfl (.inl h) f n;let Y:PE (jj CX0 P w K mg base [x] Q c q (.ref C) A outer s H E0) (.Name x y) (zG 0):=v5 (i:=0) rfl (.inl h) f n;calc GV (t:=LY (cf (tCB _ (cf (zG 0) ji)) (cf (zG 0) ji))) S Z E (E.hok q _ hq).1 (E.hok C _ L).1 hb rfl (.cons (show L2.aE (.ref r) (.ref r) from rfl) .nil) (BJ (l5 (f8 jm I B Zaa (l5 v0 rc)) (l5 Y rc))) ?_;refine{.ref r,rfl,r,_,rfl,.inr (.of l),.ref r,rfl,by rw[ZaN];show 2<=16777216;decide,λp hp=>{{p,rfl,?_},λb o e=>?_}}
 .rw[az,Za]
 .rw[ae (λz=>by rw[z,hp]at e;cases e)];exact e
def LotsV.mono(h:LotsV H v ls)(m:∀b xs,H b=aw (.tup xs)->c b=aw (.tup xs)):LotsV c v ls:=by
 induction h with
 |nil=>exact .nil
 |cons d _ I=>exact .cons (m _ _ d) I
def G5{k cx:Nat}(hr:Room (k+3) X.A)(hg:Gl X "sorted")(hm:X.mg "sorted" = aD)(hdb:(("sorted" : Str) == ("__debug__" : Str))=aS)
  (S:FnScope [x] [x] scope) (Y:scope.names.lookup x=aw .local) (hgl:scope.names.lookup ("len" : Str)=aw NameKind.globalImplicit) (hml:X.mg "len" = aD) (hd1:(x == ("__debug__" : Str))=aS) (hd2:(x == ("__classdict__" : Str))=aS)
  (J:∀pm v d u,No (kla_fn "<lambda>" (X.env.qual ++ "<lambda>") params (uy x p1 p2 p3 p4 p5 cx) scope [] pm (.ref v) d) ⟨[u],[]⟩=pure [(x,u)])
  (E:X.env.code = .ref c) (C:CodeHd X.base c T) (hb:X.base.BuiltinsAt X.mg T) (hgT:Zav≠T) (hcl:Zaf scope X.env=pure []) (Z:Zal params X.env=([],[]))
  (ha:PA X [e] t) (he:ZaP [e] X.env=(aS,eval e X.env)::ZaP [] X.env) :
  PE X (.Call (.Name "sorted" p) [e] [{aw "key",.Lambda params (uy x p1 p2 p3 p4 p5 cx) scope lp,kp}] pos) (KF X.K T lp (X.env.qual ++ "<lambda>") t):=by
 intro n s σ H Q I h;calc ZaX (eF I hg hm W2 ?_ (by decide) hdb);calc callWith_kw (thn (ha pos n s σ H _ I h) λus s1 ⟨vs,H1,I1,r,q1⟩=>?_) (by rw[he];rfl) (by rw[he];rfl) rfl rfl;let{a,vs',ls,ps,rfl,sq,hL,h64,aT,tb,q}:=q1
 refine thn (rd (nm:=aw "key") (kpos:=kp) (M6 (X:=X) (pos:=lp) (params:=params) (body:=uy x p1 p2 p3 p4 p5 cx) (scope:=scope) E C hb hgT hcl Z) wg pos n s1 σ H1 (λzs l=>∃v O f d,zs=[.ref O]/\TabOk T lp (X.env.qual ++ "<lambda>") l f/\l v=aw (cdO v (X.env.qual ++ "<lambda>"))/\l O=aw (fnO O (kla_obj "<lambda>" (X.env.qual ++ "<lambda>") params (uy x p1 p2 p3 p4 p5 cx) scope [] ((X.mg "__name__").getD .none) v d))/\∀b o,b≠T->H1 b=aw o->l b=aw o) I1
  {ps,tb,λv O f d H' L t2 t3 _ B=>⟨v,O,f,d,rfl,L,t2,t3,B⟩}) λks s2 ⟨zs,l,I2,rz,v,O,f,d,ez,L,t2,t3,B⟩=>?_
 subst ez;let{u,rfl,ru}:=bQ rz;cases ru;let{u',rfl,ru'}:=bQ r;cases ru';let nT:∀ {b xs},H1 b=aw (.tup xs)->b≠T:=λ{b xs} e z=>by rw[z,tb.at_]at e;cases e
 let sq2:SqL X.K l a vs':=by
  rcases sq with (z |⟨o,z⟩) |z
  .exact .inl (.inl (B _ _ aT z))
  .exact .inl (.inr {o,B _ _ aT z})
  .exact .inr z
 let U:=hL.mono λb xs e=>B b _ (nT e) e;refine AA I2 (hr.in1.in1.units0) sq2 U h64 (λs' H' y u e0 mo hy ry=>?_) λr H3 s3 I3 z1 z2 z3=>?_
 .let{j,hj}:=YF hy;let{r,ns,rfl,_,hr2}:=U.at.2 j y hj;obtain rfl:u = .ref r:=ry
  let key:Az l (.ref r)=[.int ns.length,.ref r]:=by
   delta Az
   let:M2 l (.ref r)=ns.length:=by
    show(match l r with |some (.tup xs)=>(xs.length:Int) |_=>0)=_;rw[hr2];simp
   rw[this]
  rw[key];exact G4 (k:=k) S Y hgl hml hd1 hd2 hr.in1.in1 e0 (mo _ _ t3) (mo _ _ t2) (J _ _ _ _) (mo _ _ hr2)
 .refine{.ref r,H3,I3,rfl,q r H3 f {z3 _ _ L.at_,L.tr,λcv e=>?_} z1 ?_ λb o nb e=>z3 _ _ (B b o nb e)}
  .let{c2,e1,e2}:=L.cd cv e;exact{c2,e1,z3 _ _ e2}
  .cases hz:H1 r with
   |none=>rfl
   |some o=>
    by_cases rT:r=T
    .rw[rT,L.at_]at z2;cases z2
    .rw[B _ _ rT hz]at z2;cases z2
end Ev
namespace Ev
open PySem PySem.Spec PyProof.Rows L2
mutual
inductive CE where |non |bl (b:Bool) |int (i:Int) |str (x:Str) |v (i:Nat) |con (k:Nat)(v:Int) |tup (es:List CE) |lst (es:List CE) |dic0 |b (o:BOp)(a b:CE) |neg (a:CE) |m (o:COp)(a b:CE) |h (o p:COp)(a b c:CE) |d (a b:CE) |or (a b:CE) |n (a:CE) |ite (c a b:CE) |x (a b:CE) |sl (a:CE)(lo hi:Option CE) |c (f:Nat)(es:List CE) |s (t:Ty)(a:CE) |e (a:CE) |all (a:CE) |any (a:CE) |t (a:CE) |l (a:CE) |srt (a:CE) |w (a:CE) |y (a:CE)(c:Int) |sm (a:CE) |rev (a:CE) |z (a:CE) |mx (a b:CE) |mn (a b:CE) |rep (a:CE) |o (own:List Str)(elt:CE)(cls:List Cl) |app (o e:CE) |pop (o:CE) |q (o e:CE) |ins (o i e:CE) |cnt (o e:CE) |idx (o e:CE) |u (a:CE) |k (a:CE)
inductive CI where
 |p (a:CE) |r1 (a:CE) |r2 (a b:CE) |dn (a:CE) |dk (a:CE) |en (a:CE)
inductive Cl where
 |mk (tg:Tg) (it:CI) (cond:Option CE)
end
abbrev ai:CE->Bool
 |.lst _=>aN |.o _ _ _=>aN |.l _=>aN |.srt _=>aN
 |_=>aS
abbrev LF:Nat:=1000000
abbrev xNo{b:Type}:Rho->Sto->Option (b×Sto):=λ_ _=>aD
abbrev cT(T:Bool)(d:List D):Option (List D):=C4 T d
abbrev AF(f:Bool->List D->Option (List D))(x:XA):XA:=λb S=>bnd (x b S) λd c=>(f aS d).map λE=>(E,c)
abbrev AG(f:Bool->List D->Option (List D))(x:XE):XA:=λc S=>bnd (x c S) λd b=>match ay d b with
 |some r=>(f r.1 r.2).map λE=>(E,b)
 |none=>aD
abbrev AH(x:XE):XA:=λb S=>bnd (x b S) λd c=>match d with
 |.int i=>if 0<=i/\i<=1000 then aw ((Zi i.toNat).map λj=>.int (Int.ofNat j),c) else aD
 |_=>aD
abbrev C5:XE:=λ_ S=>aw (.ref S.length,S++[.dic [] []])
abbrev cnd(t:CE->XT):Option CE->XA->XA
 |some c,x=>CH (t c) x
 |none,x=>x
abbrev opt(t:CE->XE):Option CE->XO
 |some l=>wK (t l)
 |none=>wJ
mutual
noncomputable def evE(C:Calls)(h:Nat->Nat):Nat->CE->XE
 |0,_=>xNo
 |n+1,e=>match e with
  |.non=>xC .non
  |.bl b=>xC (.bl b)
  |.int i=>xC (.int i)
  |.str x=>xC (.str x)
  |.v i=>z5 i
  |.con _ v=>xC (.int v)
  |.tup es=>m8 ng (evA C h n es)
  |.lst es=>fE (qo (evA C h n es))
  |.dic0=>C5
  |.b o a b=>uc (bX o) (evE C h n a) (evE C h n b)
  |.neg a=>xUn MR (evE C h n a)
  |.m o a b=>uc (ao o) (evE C h n a) (evE C h n b)
  |.h o p a b c=>Au (ao o) (ao p) (evE C h n a) (evE C h n b) (evE C h n c)
  |.d a b=>CL (evE C h n a) (evE C h n b)
  |.or a b=>xOr (evE C h n a) (evE C h n b)
  |.n a=>xUn As (evE C h n a)
  |.ite c a b=>MS (evT C h n c) (evE C h n a) (evE C h n b)
  |.x a b=>if ai a=aN then wD (dG C h n a) (evE C h n b) else uc ixS (evE C h n a) (evE C h n b)
  |.sl a lo hi=>xSl (evE C h n a) (opt (evE C h n) lo) (opt (evE C h n) hi)
  |.c f es=>uv (C f) (h f) (evA C h n es)
  |.s t a=>xUn (nu t) (evE C h n a)
  |.e a=>if ai a=aN then lU dh (dG C h n a) else lV dh (evE C h n a)
  |.all a=>if ai a=aN then lU lY (dG C h n a) else lV lY (evE C h n a)
  |.any a=>if ai a=aN then lU pH (dG C h n a) else lV pH (evE C h n a)
  |.t a=>if ai a=aN then lU cO (dG C h n a) else lV cO (evE C h n a)
  |.l a=>fE (AH (evE C h n a))
  |.srt a=>fE (if ai a=aN then AF cT (dG C h n a) else AG cT (evE C h n a))
  |.w a=>if ai a=aN then lU pJ (dG C h n a) else lV pJ (evE C h n a)
  |.y a c=>if ai a=aN then lU (fX c) (dG C h n a) else lV (fX c) (evE C h n a)
  |.sm a=>if ai a=aN then lU ul (dG C h n a) else lV ul (evE C h n a)
  |.rev a=>xUn wQ (evE C h n a)
  |.z a=>if ai a=aN then lU pO (dG C h n a) else lV pO (evE C h n a)
  |.mx a b=>m8 (two Co) (evA C h n [a,b])
  |.mn a b=>m8 (two Cp) (evA C h n [a,b])
  |.rep a=>xUn nK (evE C h n a)
  | .o own elt cls=>fE (match cls with
   |[]=>xNo
   | ⟨tg,it,cond⟩::rest=>nM own.length (evI C h n it) tg (cnd (evT C h n) cond (il C h n elt rest)) LF)
  |.app o a=>rQ cD rV (evE C h n o) (evA C h n [a])
  |.pop o=>rQ cD wX (evE C h n o) z6
  |.q o a=>rQ cD iR (evE C h n o) (evA C h n [a])
  |.ins o i a=>rQ cD w4 (evE C h n o) (evA C h n [i,a])
  |.cnt o a=>rQ (λd _=>isTup d) wY (evE C h n o) (evA C h n [a])
  |.idx o a=>rQ (λd _=>isTup d) xa (evE C h n o) (evA C h n [a])
  |.u a=>C1 (evE C h n a)
  |.k a=>if ai a=aN then lU pR (dG C h n a) else lV pR (evE C h n a)
noncomputable def evA(C:Calls)(b:Nat->Nat):Nat->List CE->XA
 |0,_=>xNo
 |n+1,es=>match es with
  |[]=>z6
  |e::es=>yn (evE C b n e) (evA C b n es)
noncomputable def dG(C:Calls)(b:Nat->Nat):Nat->CE->XA
 |0,_=>xNo
 |n+1,e=>match e with
  |.lst es=>qo (evA C b n es)
  |.l a=>AH (evE C b n a)
  |.srt a=>if ai a=aN then AF cT (dG C b n a) else AG cT (evE C b n a)
  |.o own elt cls=>match cls with
   |[]=>xNo
   |⟨tg,it,cond⟩::rest=>nM own.length (evI C b n it) tg (cnd (evT C b n) cond (il C b n elt rest)) LF
  |_=>xNo
noncomputable def il(C:Calls)(b:Nat->Nat):Nat->CE->List Cl->XA
 |0,_,_=>xNo
 |n+1,elt,cls=>match cls with
  |[]=>Kw (evE C b n elt)
  |⟨tg,it,cond⟩::rest=>km (evI C b n it) tg (cnd (evT C b n) cond (il C b n elt rest)) LF
noncomputable def evI(C:Calls)(c:Nat->Nat):Nat->CI->XI
 |0,_=>xNo
 |n+1,it=>match it with
  |.p a=>if ai a=aN then xIT (dG C c n a) else xIV (evE C c n a)
  |.r1 a=>xR1 (evE C c n a)
  |.dn a=>xDn (evE C c n a)
  |.dk a=>xDK (evE C c n a)
  |.r2 a b=>xR2 (evE C c n a) (evE C c n b)
  |.en a=>xEV (evE C c n a)
noncomputable def evT(C:Calls)(d:Nat->Nat):Nat->CE->XT
 |0,_=>xNo
 |n+1,e=>match e with
  |.m o a b=>xB (uc (ao o) (evE C d n a) (evE C d n b))
  |.h o p a b c=>xB (Au (ao o) (ao p) (evE C d n a) (evE C d n b) (evE C d n c))
  |.d a b=>CO (evT C d n a) (evT C d n b)
  |.or a b=>MW (evT C d n a) (evT C d n b)
  |.n a=>CP (evT C d n a)
  |.ite _ _ _=>xNo
  |e=>Gq (evE C d n e)
end
abbrev gz:List Str:=["len","isinstance","all","any","tuple","list","max","min","repr","range","enumerate","int","bool","str","sorted","zip","sum","dict"]
structure Tab where
 con:List (Str×Int)
 fns:List (Str×Nat)
structure Blk where
 sc:Scope
 fs:Option Scope
 N:List Str
abbrev Blk.glo(b:Blk)(x:Str):Bool:=b.sc.names.lookup x == aw .globalImplicit && !(x == ("__debug__" : Str))
abbrev Blk.vis(b:Blk)(x:Str):Bool:=(match b.sc.names.lookup x with
 |some .local=>aN
 |some .cell=>aN
 |some .free=>aN
 | _=>aS) && !(x == ("__debug__" : Str)) && !(x == ("__classdict__" : Str))
abbrev Blk.own(b:Blk)(x:Str):Bool:=match b.sc.names.lookup x with
 |some .local=>aN
 | some .cell=>(match b.fs with
  |none=>aN
  | some sc=>sc.names.lookup x == aw .cell)
 |_=>aS
def bR{P:Prop}[Decidable P]{f:P->Bool}(h:(if p:P then f p else aS)=aN):∃p,f p=aN:=by
 by_cases p:P
 .rw[dif_pos p]at h;exact⟨p,h⟩
 .rw[dif_neg p]at h;cases h
def an2{a b:Bool}(h:(a && b)=aN):a=aN/\b=aN:=by cases a;cases h;exact⟨rfl,h⟩
def an3{a b c:Bool}(h:(a && b && c)=aN):a=aN/\b=aN/\c=aN:={(an2 (an2 h).1).1,(an2 (an2 h).1).2,(an2 h).2}
def an4{a b c d:Bool}(h:(a && b && c && d)=aN):a=aN/\b=aN/\c=aN/\d=aN:={(an3 (an2 h).1).1,(an3 (an2 h).1).2.1,(an3 (an2 h).1).2.2,(an2 h).2}
def an5{a b c d e:Bool}(h:(a && b && c && d && e)=aN):a=aN/\b=aN/\c=aN/\d=aN/\e=aN:={(an4 (an2 h).1).1,(an4 (an2 h).1).2.1,(an4 (an2 h).1).2.2.1,(an4 (an2 h).1).2.2.2,(an2 h).2}
def an6{a b c d e f:Bool}(h:(a && b && c && d && e && f)=aN):a=aN/\b=aN/\c=aN/\d=aN/\e=aN/\f=aN:={(an5 (an2 h).1).1,(an5 (an2 h).1).2.1,(an5 (an2 h).1).2.2.1,(an5 (an2 h).1).2.2.2.1,(an5 (an2 h).1).2.2.2.2,(an2 h).2}
abbrev l1{b:Type}(l:List b)(k:b->Bool):Bool:=match l with
 |[]=>aS
 |x::t=>t.isEmpty && k x
abbrev lC{b:Type}(l:List b)(k:b->List b->Bool):Bool:=match l with
 |[]=>aS
 |x::t=>k x t
def fj{b:Type}{l:List b}{k:b->List b->Bool}(h:lC l k=aN):∃x t,l=x::t/\k x t=aN:=by
 cases l with
 |nil=>cases h
 |cons x t=>exact⟨x,t,rfl,h⟩
def fG{b:Type}{l:List b}(h:l.isEmpty=aN):l=[]:=by cases l;rfl;cases h
def iS{b:Type}{l:List b}{k:b->Bool}(h:l1 l k=aN):∃x,l=[x]/\k x=aN:=by
 cases l with
 |nil=>cases h
 |cons x t=>let{d,c}:=an2 h;cases fG d;exact⟨x,rfl,c⟩
abbrev aF(e:Expr):Bool:=!(e.ctorIdx == 22 || e.ctorIdx == 26 || e.ctorIdx == 7)
abbrev se(e:Expr)(k:BoolOp->List Expr->Pos->Bool):Bool:=if h:e.ctorIdx=0 then @Expr.BoolOp.elim (λ_=>Bool) e h k else aS
def qA{e:Expr}{k:BoolOp->List Expr->Pos->Bool}(h:se e k=aN):∃c X b,e = .BoolOp c X b/\k c X b=aN:=by
 let{d,h}:=bR h;exact Expr.BoolOp.elim (motive_1:=λe=>∀f,@Expr.BoolOp.elim (λ_=>Bool) e f k=aN->∃c X b,e = .BoolOp c X b/\k c X b=aN) e d (λc X b _ j=>⟨c,X,b,rfl,j⟩) d h
abbrev C6(e:Expr)(k:Expr->VM->Expr->Pos->Bool):Bool:=if h:e.ctorIdx=2 then @Expr.BinOp.elim (λ_=>Bool) e h k else aS
def C7{e:Expr}{k:Expr->VM->Expr->Pos->Bool}(h:C6 e k=aN):∃d X c b,e = .BinOp d X c b/\k d X c b=aN:=by
 let{f,h}:=bR h;exact Expr.BinOp.elim (motive_1:=λe=>∀j,@Expr.BinOp.elim (λ_=>Bool) e j k=aN->∃d X c b,e = .BinOp d X c b/\k d X c b=aN) e f (λd X c b _ l=>⟨d,X,c,b,rfl,l⟩) f h
abbrev jC(e:Expr)(k:UnaryOp->Expr->Pos->Bool):Bool:=if h:e.ctorIdx=3 then @Expr.UnaryOp.elim (λ_=>Bool) e h k else aS
def nS{e:Expr}{k:UnaryOp->Expr->Pos->Bool}(h:jC e k=aN):∃c X b,e = .UnaryOp c X b/\k c X b=aN:=by
 let{d,h}:=bR h;exact Expr.UnaryOp.elim (motive_1:=λe=>∀f,@Expr.UnaryOp.elim (λ_=>Bool) e f k=aN->∃c X b,e = .UnaryOp c X b/\k c X b=aN) e d (λc X b _ j=>⟨c,X,b,rfl,j⟩) d h
abbrev C8(e:Expr)(k:Expr->Expr->Expr->Pos->Bool):Bool:=if h:e.ctorIdx=5 then @Expr.IfExp.elim (λ_=>Bool) e h k else aS
def C9{e:Expr}{k:Expr->Expr->Expr->Pos->Bool}(h:C8 e k=aN):∃d X c b,e = .IfExp d X c b/\k d X c b=aN:=by
 let{f,h}:=bR h;exact Expr.IfExp.elim (motive_1:=λe=>∀j,@Expr.IfExp.elim (λ_=>Bool) e j k=aN->∃d X c b,e = .IfExp d X c b/\k d X c b=aN) e f (λd X c b _ l=>⟨d,X,c,b,rfl,l⟩) f h
abbrev KG(e:Expr)(k:List (Option Expr)->List Expr->Pos->Bool):Bool:=if h:e.ctorIdx=6 then @Expr.Dict.elim (λ_=>Bool) e h k else aS
def G6{e:Expr}{k:List (Option Expr)->List Expr->Pos->Bool}(h:KG e k=aN):∃c X b,e = .Dict c X b/\k c X b=aN:=by
 let{d,h}:=bR h;exact Expr.Dict.elim (motive_1:=λe=>∀f,@Expr.Dict.elim (λ_=>Bool) e f k=aN->∃c X b,e = .Dict c X b/\k c X b=aN) e d (λc X b _ j=>⟨c,X,b,rfl,j⟩) d h
abbrev ko(e:Expr)(k:Expr->List W9->Scope->Pos->Bool):Bool:=if h:e.ctorIdx=8 then @Expr.ListComp.elim (λ_=>Bool) e h k else aS
def kY{e:Expr}{k:Expr->List W9->Scope->Pos->Bool}(h:ko e k=aN):∃d X c b,e = .ListComp d X c b/\k d X c b=aN:=by
 let{f,h}:=bR h;exact Expr.ListComp.elim (motive_1:=λe=>∀j,@Expr.ListComp.elim (λ_=>Bool) e j k=aN->∃d X c b,e = .ListComp d X c b/\k d X c b=aN) e f (λd X c b _ l=>⟨d,X,c,b,rfl,l⟩) f h
abbrev nU(e:Expr)(k:Expr->List CmpOp->List Expr->Pos->Bool):Bool:=if h:e.ctorIdx=15 then @Expr.Compare.elim (λ_=>Bool) e h k else aS
def nV{e:Expr}{k:Expr->List CmpOp->List Expr->Pos->Bool}(h:nU e k=aN):∃d X c b,e = .Compare d X c b/\k d X c b=aN:=by
 let{f,h}:=bR h;exact Expr.Compare.elim (motive_1:=λe=>∀j,@Expr.Compare.elim (λ_=>Bool) e j k=aN->∃d X c b,e = .Compare d X c b/\k d X c b=aN) e f (λd X c b _ l=>⟨d,X,c,b,rfl,l⟩) f h
abbrev yB(e:Expr)(k:Expr->List Expr->List Keyword->Pos->Bool):Bool:=if h:e.ctorIdx=16 then @Expr.Call.elim (λ_=>Bool) e h k else aS
def yC{e:Expr}{k:Expr->List Expr->List Keyword->Pos->Bool}(h:yB e k=aN):∃d X c b,e = .Call d X c b/\k d X c b=aN:=by
 let{f,h}:=bR h;exact Expr.Call.elim (motive_1:=λe=>∀j,@Expr.Call.elim (λ_=>Bool) e j k=aN->∃d X c b,e = .Call d X c b/\k d X c b=aN) e f (λd X c b _ l=>⟨d,X,c,b,rfl,l⟩) f h
abbrev fk(e:Expr)(k:Const->Nat->Pos->Bool):Bool:=if h:e.ctorIdx=19 then @Expr.Constant.elim (λ_=>Bool) e h k else aS
def dX{e:Expr}{k:Const->Nat->Pos->Bool}(h:fk e k=aN):∃c X b,e = .Constant c X b/\k c X b=aN:=by
 let{d,h}:=bR h;exact Expr.Constant.elim (motive_1:=λe=>∀f,@Expr.Constant.elim (λ_=>Bool) e f k=aN->∃c X b,e = .Constant c X b/\k c X b=aN) e d (λc X b _ j=>⟨c,X,b,rfl,j⟩) d h
abbrev nW(e:Expr)(k:Expr->Str->Pos->Bool):Bool:=if h:e.ctorIdx=20 then @Expr.Attribute.elim (λ_=>Bool) e h k else aS
def sf{e:Expr}{k:Expr->Str->Pos->Bool}(h:nW e k=aN):∃c X b,e = .Attribute c X b/\k c X b=aN:=by
 let{d,h}:=bR h;exact Expr.Attribute.elim (motive_1:=λe=>∀f,@Expr.Attribute.elim (λ_=>Bool) e f k=aN->∃c X b,e = .Attribute c X b/\k c X b=aN) e d (λc X b _ j=>⟨c,X,b,rfl,j⟩) d h
abbrev dH(e:Expr)(k:Expr->Expr->Pos->Bool):Bool:=if h:e.ctorIdx=21 then @Expr.Subscript.elim (λ_=>Bool) e h k else aS
def dm{e:Expr}{k:Expr->Expr->Pos->Bool}(h:dH e k=aN):∃c X b,e = .Subscript c X b/\k c X b=aN:=by
 let{d,h}:=bR h;exact Expr.Subscript.elim (motive_1:=λe=>∀f,@Expr.Subscript.elim (λ_=>Bool) e f k=aN->∃c X b,e = .Subscript c X b/\k c X b=aN) e d (λc X b _ j=>⟨c,X,b,rfl,j⟩) d h
abbrev Da(e:Expr)(k:Str->Pos->Bool):Bool:=if h:e.ctorIdx=23 then @Expr.Name.elim (λ_=>Bool) e h k else aS
def yD{e:Expr}{k:Str->Pos->Bool}(h:Da e k=aN):∃b X,e = .Name b X/\k b X=aN:=by
 let{c,h}:=bR h;exact Expr.Name.elim (motive_1:=λe=>∀d,@Expr.Name.elim (λ_=>Bool) e d k=aN->∃b X,e = .Name b X/\k b X=aN) e c (λb X _ f=>⟨b,X,rfl,f⟩) c h
abbrev KH(e:Expr)(k:List Expr->Pos->Bool):Bool:=if h:e.ctorIdx=24 then @Expr.List.elim (λ_=>Bool) e h k else aS
def G7{e:Expr}{k:List Expr->Pos->Bool}(h:KH e k=aN):∃b X,e = .List b X/\k b X=aN:=by
 let{c,h}:=bR h;exact Expr.List.elim (motive_1:=λe=>∀d,@Expr.List.elim (λ_=>Bool) e d k=aN->∃b X,e = .List b X/\k b X=aN) e c (λb X _ f=>⟨b,X,rfl,f⟩) c h
abbrev Db(e:Expr)(k:List Expr->Nat->Pos->Bool):Bool:=if h:e.ctorIdx=25 then @Expr.Tuple.elim (λ_=>Bool) e h k else aS
def Dc{e:Expr}{k:List Expr->Nat->Pos->Bool}(h:Db e k=aN):∃c X b,e = .Tuple c X b/\k c X b=aN:=by
 let{d,h}:=bR h;exact Expr.Tuple.elim (motive_1:=λe=>∀f,@Expr.Tuple.elim (λ_=>Bool) e f k=aN->∃c X b,e = .Tuple c X b/\k c X b=aN) e d (λc X b _ j=>⟨c,X,b,rfl,j⟩) d h
abbrev xf(e:Expr)(k:Option Expr->Option Expr->Option Expr->Pos->Bool):Bool:=if h:e.ctorIdx=26 then @Expr.Slice.elim (λ_=>Bool) e h k else aS
def uz{e:Expr}{k:Option Expr->Option Expr->Option Expr->Pos->Bool}(h:xf e k=aN):∃d X c b,e = .Slice d X c b/\k d X c b=aN:=by
 let{f,h}:=bR h;exact Expr.Slice.elim (motive_1:=λe=>∀j,@Expr.Slice.elim (λ_=>Bool) e j k=aN->∃d X c b,e = .Slice d X c b/\k d X c b=aN) e f (λd X c b _ l=>⟨d,X,c,b,rfl,l⟩) f h
abbrev xg(e:Expr):Bool:=!(e.ctorIdx == 22 || yB e λf E ks _=>f.ctorIdx == 23 && E.isEmpty && ks.isEmpty)
abbrev M8(e:Expr):Bool:=!(e.ctorIdx == 0 || e.ctorIdx == 5 || e.ctorIdx == 15 || jC e λo _ _=>decide (o = .Not))
abbrev nX(own N:List Str):List Nat:=(Zi N.length).filter λi=>match N[i]? with
 |some x=>own.contains x
 |none=>aS
abbrev Blk.inner(b:Blk)(own:List Str)(c:Scope):Blk:={ga c b.sc,aw c,dE (nX own b.N) b.N++own}
abbrev Dd(e:Expr):Option (Str×Pos):=if h:e.ctorIdx=23 then aw (@Expr.Name.elim (λ_=>Str×Pos) e h λx p=>(x,p)) else aD
abbrev AI(e:Expr):Option (List Expr×Nat×Pos):=if h:e.ctorIdx=25 then aw (@Expr.Tuple.elim (λ_=>List Expr×Nat×Pos) e h λE k p=>(E,k,p)) else aD
def KJ{b:Type}{P:Prop}[Decidable P]{f:P->b}{r:b}(h:(if p:P then aw (f p) else aD)=aw r):∃p,f p=r:=by
 by_cases p:P
 .rw[dif_pos p]at h;cases h;exact⟨p,rfl⟩
 .rw[dif_neg p]at h;cases h
def sg{e:Expr}{x:Str}{p:Pos}(h:Dd e=aw (x,p)):e = .Name x p:=by
 let{b,h}:=KJ h;exact Expr.Name.elim (motive_1:=λe=>∀c,Expr.Name.elim (motive_1:=λ_=>Str×Pos) e c (λx p=>(x,p))=(x,p)->e = .Name x p) e b (λ_ _ _ d=>by cases d;rfl) b h
def si{e:Expr}{E:List Expr}{k:Nat}{p:Pos}(h:AI e=aw (E,k,p)):e = .Tuple E k p:=by
 let{b,h}:=KJ h;exact Expr.Tuple.elim (motive_1:=λe=>∀c,Expr.Tuple.elim (motive_1:=λ_=>List Expr×Nat×Pos) e c (λE k p=>(E,k,p))=(E,k,p)->e = .Tuple E k p) e b (λ_ _ _ _ d=>by cases d;rfl) b h
abbrev oA{b:Type}(o:Option b)(k:b->Bool):Bool:=match o with
 |some r=>k r
 |none=>aS
def AJ{b:Type}{o:Option b}{k:b->Bool}(h:oA o k=aN):∃r,o=aw r/\k r=aN:=by
 cases o with
 |none=>cases h
 |some r=>exact⟨r,rfl,h⟩
def De{a b:Bool}(h:(a || b)=aN):a=aN\/b=aN:=by cases a;exact .inr h;exact .inl rfl
mutual
noncomputable def xh(b:Blk)(e:Expr):Tg->Bool
 |.n i=>oA (Dd e) λr=>b.N[i]? == aw r.1 && b.own r.1
 |.tup ts=>oA (AI e) λr=>nY b r.1 ts
noncomputable def nY(b:Blk)(E:List Expr):List Tg->Bool
 |[]=>E.isEmpty
 |t::ts=>lC E λe E=>xh b e t && aF e && nY b E ts
end
abbrev M9(e:Expr):Bool:=fk e λc _ _=>decide (c = .none)
abbrev sBl(v:Bool)(e:Expr):Bool:=fk e λc _ _=>decide (c = .bool v)
abbrev nZ(v:Int)(e:Expr):Bool:=fk e λc _ _=>decide (c = .int v)
abbrev RY(v:Str)(e:Expr):Bool:=fk e λc _ _=>decide (c = .str v)
abbrev yE(k:Str->Bool)(e:Expr):Bool:=Da e λx _=>k x
abbrev Na(k:List Expr->Bool)(e:Expr):Bool:=Db e λE _ _=>k E
abbrev RZ(k:List Expr->Bool)(e:Expr):Bool:=KH e λE _=>k E
abbrev R5(o:VM)(k l:Expr->Bool)(e:Expr):Bool:=C6 e λx op y _=>decide (op=o) && k x && l y
abbrev uA(k:Expr->Bool)(e:Expr):Bool:=jC e λo x _=>decide (o = .USub) && k x
abbrev Nb(k:Expr->Bool)(e:Expr):Bool:=jC e λo x _=>decide (o = .Not) && k x
abbrev Nc(o:CmpOp)(k l:Expr->Bool)(e:Expr):Bool:=nU e λx os Y _=>l1 os λop=>l1 Y λy=>decide (op=o) && k x && l y && aF y
abbrev Ng(o p:CmpOp)(k l m:Expr->Bool)(e:Expr):Bool:=nU e λx os Y _=>lC os λop os=>l1 os λO=>lC Y λy Y=>l1 Y λz=>decide (op=o) && decide (O=p) && k x && l y && m z && aF z
abbrev Df(o:BoolOp)(k l:Expr->Bool)(e:Expr):Bool:=se e λop v _=>lC v λx v=>l1 v λy=>decide (op=o) && k x && l y
abbrev Dg(o:BoolOp)(k l:Expr->Bool)(e:Expr):Bool:=se e λop v p=>lC v λx v=>lC v λy v=>lC v λz Y=>decide (op=o) && k x && l (.BoolOp o (y::z::Y) p)
abbrev R6(k l m:Expr->Bool)(e:Expr):Bool:=C8 e λx y z _=>k x && l y && m z
abbrev sIx(k l:Expr->Bool)(e:Expr):Bool:=dH e λx y _=>k x && l y && aF y
abbrev sSl(k:Expr->Bool)(l m:Option Expr->Bool)(e:Expr):Bool:=dH e λx s _=>xf s λy z w _=>w.isNone && k x && l y && m z
abbrev R7(k:Expr->Bool)(e:Expr):Bool:=dH e λx s _=>xf s λy z w _=>y.isNone && z.isNone && k x && oA w λe=>uA (nZ 1) e
abbrev sCN(e:Expr)(k:Str->List Expr->List Keyword->Bool):Bool:=yB e λf E ks _=>Da f λx _=>k x E ks
abbrev KL(k:Str->Bool)(l:List Expr->Bool)(e:Expr):Bool:=sCN e λx E ks=>lC E λe E=>ks.isEmpty && k x && l (e::E)
abbrev xi(b:Blk)(f:Str)(k:List Expr->Bool)(e:Expr):Bool:=sCN e λx E ks=>lC E λe E=>ks.isEmpty && x == f && b.glo x && k (e::E)
abbrev bW(b:Blk)(f:Str)(k:Expr->Bool)(e:Expr):Bool:=sCN e λx E ks=>l1 E λe=>ks.isEmpty && x == f && b.glo x && k e && aF e
abbrev R8(c:Int)(ks:List Keyword):Bool:=l1 ks λw=>w.arg == aw (Str.ofString "default") && (nZ c w.value || uA (nZ (-c)) w.value)
abbrev KM(b:Blk)(k:Expr->Bool)(e:Expr):Bool:=sCN e λx E ks=>l1 E λe=>(l1 ks λw=>w.arg == aw (Str.ofString "default") && M9 w.value) && x == "min" && b.glo x && k e && aF e
abbrev sDn(b:Blk)(k:Expr->Bool)(e:Expr):Bool:=sCN e λx E ks=>lC E λc E=>lC E λd E=>l1 E λf=>ks.isEmpty && x == "range" && b.glo x && (k c && aF c && uA (nZ 1) d && uA (nZ 1) f)
abbrev KN(b:Blk)(c:Int)(k:Expr->Bool)(e:Expr):Bool:=sCN e λx E ks=>l1 E λe=>R8 c ks && x == "max" && b.glo x && k e && aF e
abbrev xj(b:Blk)(f:Str)(k l:Expr->Bool)(e:Expr):Bool:=sCN e λx E ks=>lC E λe E=>l1 E λc=>ks.isEmpty && (x == f && b.glo x && k e && aF e && l c && aF c)
abbrev xk(m:Str)(k:Expr->Bool)(l:List Expr->Bool)(e:Expr):Bool:=yB e λf E ks p=>nW f λx c b=>ks.isEmpty && c == m && xg x && (b.endLine == p.line) && k x && l E
abbrev KO(k:Expr->Expr->Expr->List Expr->List W9->Scope->Bool)(e:Expr):Bool:=ko e λe gs b _=>lC gs λg gs=>decide (g.is_async=0) && k e g.target g.iter g.ifs gs b
abbrev KP(e:Expr):Bool:=KG e λks v _=>ks.isEmpty && v.isEmpty
def bI{x y:Str}(h:(x == y)=aN):x=y:=eq_of_beq h
section
variable {e:Expr} {k l m:Expr->Bool}
def Dh(h:M9 e=aN):∃a p,e = .Constant .none a p:=by
 let{c,a,p,rfl,h}:=dX h;cases of_decide_eq_true h;exact⟨a,p,rfl⟩
def R9{v:Bool}(h:sBl v e=aN):∃a p,e = .Constant (.bool v) a p:=by
 let{c,a,p,rfl,h}:=dX h;cases of_decide_eq_true h;exact⟨a,p,rfl⟩
def kq{v:Int}(h:nZ v e=aN):∃a p,e = .Constant (.int v) a p:=by
 let{c,a,p,rfl,h}:=dX h;cases of_decide_eq_true h;exact⟨a,p,rfl⟩
def Nh{v:Str}(h:RY v e=aN):∃a p,e = .Constant (.str v) a p:=by
 let{c,a,p,rfl,h}:=dX h;cases of_decide_eq_true h;exact⟨a,p,rfl⟩
def sj{k:Str->Bool}(h:yE k e=aN):∃x p,e = .Name x p/\k x=aN:=yD h
def Di{k:List Expr->Bool}(h:Na k e=aN):∃x a p,e = .Tuple x a p/\k x=aN:=Dc h
def Ni{k:List Expr->Bool}(h:RZ k e=aN):∃x p,e = .List x p/\k x=aN:=G7 h
def Nj{o:VM}(h:R5 o k l e=aN):∃x y p,e = .BinOp x o y p/\k x=aN/\l y=aN:=by
 let{x,op,y,p,rfl,h}:=C7 h;let{b,z}:=an3 h;cases of_decide_eq_true b;exact⟨x,y,p,rfl,z⟩
def n4(h:uA k e=aN):∃x p,e = .UnaryOp .USub x p/\k x=aN:=by
 let{op,x,p,rfl,h}:=nS h;let{b,z}:=an2 h;cases of_decide_eq_true b;exact⟨x,p,rfl,z⟩
def Dj(h:Nb k e=aN):∃x p,e = .UnaryOp .Not x p/\k x=aN:=by
 let{op,x,p,rfl,h}:=nS h;let{b,z}:=an2 h;cases of_decide_eq_true b;exact⟨x,p,rfl,z⟩
def Dk{o:CmpOp}(h:Nc o k l e=aN):∃x y p,e = .Compare x [o] [y] p/\k x=aN/\l y=aN/\aF y=aN:=by
 let{x,os,Y,p,rfl,h}:=nV h;let{op,rfl,h}:=iS h;let{y,rfl,h}:=iS h;let{b,z}:=an4 h;cases of_decide_eq_true b;exact⟨x,y,p,rfl,z⟩
def Dm{o p:CmpOp}(h:Ng o p k l m e=aN):∃x y z q,e = .Compare x [o,p] [y,z] q/\k x=aN/\l y=aN/\m z=aN/\aF z=aN:=by
 let{x,os,Y,q,rfl,h}:=nV h;let{op,os,rfl,h}:=fj h;let{O,rfl,h}:=iS h;let{y,Y,rfl,h}:=fj h;let{z,rfl,h}:=iS h;let{b,c,Z}:=an6 h;cases of_decide_eq_true b;cases of_decide_eq_true c;exact⟨x,y,z,q,rfl,Z⟩
def sr{o:BoolOp}(h:Df o k l e=aN):∃x y p,e = .BoolOp o [x,y] p/\k x=aN/\l y=aN:=by
 let{op,v,p,rfl,h}:=qA h;let{x,v,rfl,h}:=fj h;let{y,rfl,h}:=iS h;let{b,z}:=an3 h;cases of_decide_eq_true b;exact⟨x,y,p,rfl,z⟩
def su{o:BoolOp}(h:Dg o k l e=aN):∃x y z Y p,e = .BoolOp o (x::y::z::Y) p/\k x=aN/\l (.BoolOp o (y::z::Y) p)=aN:=by
 let{op,v,p,rfl,h}:=qA h;let{x,v,rfl,h}:=fj h;let{y,v,rfl,h}:=fj h;let{z,v,rfl,h}:=fj h;let{b,Z}:=an3 h;cases of_decide_eq_true b;exact⟨x,y,z,v,p,rfl,Z⟩
def Nk(h:R6 k l m e=aN):∃x y z p,e = .IfExp x y z p/\k x=aN/\l y=aN/\m z=aN:=by
 let{x,y,z,p,rfl,h}:=C9 h;exact{x,y,z,p,rfl,an3 h}
def Se(h:sIx k l e=aN):∃x y p,e = .Subscript x y p/\k x=aN/\l y=aN/\aF y=aN:=by
 let{x,y,p,rfl,h}:=dm h;exact{x,y,p,rfl,an3 h}
def Sf{l m:Option Expr->Bool}(h:sSl k l m e=aN):∃x y z p q,e = .Subscript x (.Slice y z aD p) q/\k x=aN/\l y=aN/\m z=aN:=by
 let{x,s,q,rfl,h}:=dm h;let{y,z,w,p,rfl,h}:=uz h;let{b,Z}:=an4 h;cases w;exact⟨x,y,z,p,q,rfl,Z⟩;cases b
def Nm(h:R7 k e=aN):∃x n p f b c,e = .Subscript x (.Slice aD aD (aw (.UnaryOp .USub (.Constant (.int 1) n b) c)) f) p/\k x=aN:=by
 let{x,s,q,rfl,h}:=dm h;let{y,z,w,p,rfl,h}:=uz h;let{j,B,C,h4}:=an4 h;let{u,rfl,h4}:=AJ h4;let{v,c,rfl,d}:=n4 h4;let{n,b,rfl}:=kq d;cases y <;> cases z <;> first |exact⟨x,n,q,p,b,c,rfl,C⟩ |(cases j;done) |(cases B;done)
def n5{k:Str->List Expr->List Keyword->Bool}(h:sCN e k=aN):∃x p E ks q,e = .Call (.Name x p) E ks q/\k x E ks=aN:=by
 let{f,E,ks,q,rfl,h}:=yC h;let{x,p,rfl,h}:=yD h;exact⟨x,p,E,ks,q,rfl,h⟩
def G8{k:Str->Bool}{l:List Expr->Bool}(h:KL k l e=aN):∃x X E p q,e = .Call (.Name x p) (X::E) [] q/\k x=aN/\l (X::E)=aN:=by
 let{x,p,E,ks,q,rfl,h}:=n5 h;let{X,E,rfl,h}:=fj h;let{b,z}:=an3 h;cases fG b;exact⟨x,X,E,p,q,rfl,z⟩
def uB{b:Blk}{f:Str}{k:List Expr->Bool}(h:xi b f k e=aN):∃x E p q,e = .Call (.Name f p) (x::E) [] q/\b.glo f=aN/\k (x::E)=aN:=by
 let{x,p,E,ks,q,rfl,h}:=n5 h;let{X,E,rfl,h}:=fj h;let{c,d,z}:=an4 h;cases fG c;cases bI d;exact⟨X,E,p,q,rfl,z⟩
def aW{b:Blk}{f:Str}(h:bW b f k e=aN):∃x p q,e = .Call (.Name f p) [x] [] q/\b.glo f=aN/\k x=aN/\aF x=aN:=by
 let{x,p,E,ks,q,rfl,h}:=n5 h;let{X,rfl,h}:=iS h;let{c,d,z}:=an5 h;cases fG c;cases bI d;exact⟨X,p,q,rfl,z⟩
def Nn{c:Int}{ks:List Keyword}(h:R8 c ks=aN):∃v q,ks=[{aw "default",v,q}]/\(nZ c v || uA (nZ (-c)) v)=aN:=by
 let{⟨a,v,q⟩,rfl,h}:=iS h;let{b,z}:=an2 h;obtain E:=eq_of_beq b;exact{v,q,by rw[show a=_ from E],z}
def G9{b:Blk}{c:Int}(h:KN b c k e=aN):∃x p q v Q,e = .Call (.Name "max" p) [x] [{aw "default",v,Q}] q/\(nZ c v || uA (nZ (-c)) v)=aN/\b.glo "max" = aN/\k x=aN/\aF x=aN:=by
 let{x,p,E,ks,q,rfl,h}:=n5 h;let{X,rfl,h}:=iS h;let{d,f,z}:=an5 h;let{v,Q,rfl,j}:=Nn d;cases bI f;exact⟨X,p,q,v,Q,rfl,j,z⟩
def Ha{b:Blk}(h:KM b k e=aN):∃x p q j c Q,e = .Call (.Name "min" p) [x] [{aw "default",.Constant .none j c,Q}] q/\b.glo "min" = aN/\k x=aN/\aF x=aN:=by
 let{x,p,B,ks,q,rfl,h}:=n5 h;let{X,rfl,h}:=iS h;let{f,u,z}:=an5 h;let{⟨a,v,Q⟩,rfl,y}:=iS f;let{h4,d}:=an2 y;let{j,c,n}:=Dh d;let E:=eq_of_beq h4;cases bI u;exact{X,p,q,j,c,Q,by rw[show v=_ from n,show a=_ from E],z}
def KQ{b:Blk}(h:sDn b k e=aN):∃x p q n d r2 f v c,e = .Call (.Name "range" p) [x,.UnaryOp .USub (.Constant (.int 1) n d) r2,.UnaryOp .USub (.Constant (.int 1) f v) c] [] q/\b.glo "range" = aN/\k x=aN/\aF x=aN:=by
 let{x,p,E,ks,q,rfl,h}:=n5 h;let{L,E,rfl,h}:=fj h;let{Q,E,rfl,h}:=fj h;let{O,rfl,h}:=iS h;let{B,I,J,h4}:=an4 h;let{z,C,y,j}:=an4 h4;let{u,r2,rfl,y}:=n4 y;let{n,d,rfl}:=kq y;let{u,c,rfl,j}:=n4 j;let{f,v,rfl}:=kq j;cases bI I;cases fG B;exact⟨L,p,q,n,d,r2,f,v,c,rfl,J,z,C⟩
def n6{b:Blk}{f:Str}(h:xj b f k l e=aN):∃x y p q,e = .Call (.Name f p) [x,y] [] q/\b.glo f=aN/\k x=aN/\aF x=aN/\l y=aN/\aF y=aN:=by
 let{x,p,E,ks,q,rfl,h}:=n5 h;let{X,E,rfl,h}:=fj h;let{y,rfl,h}:=iS h;let{c,Y}:=an2 h;let{d,z}:=an6 Y;cases fG c;cases bI d;exact⟨X,y,p,q,rfl,z⟩
def kr{m:Str}{l:List Expr->Bool}(h:xk m k l e=aN):∃x b E p,e = .Call (.Attribute x m b) E [] p/\xg x=aN/\(b.endLine == p.line)=aN/\k x=aN/\l E=aN:=by
 let{f,E,ks,p,rfl,h}:=yC h;let{x,j,b,rfl,h}:=sf h;let{c,d,z}:=an6 h;cases fG c;cases bI d;exact⟨x,b,E,p,rfl,z⟩
def yF{k:Expr->Expr->Expr->List Expr->List W9->Scope->Bool}(h:KO k e=aN):∃E t i ifs gs b p,e = .ListComp E (⟨t,i,ifs,0⟩::gs) b p/\k E t i ifs gs b=aN:=by
 let{E,gs,b,p,rfl,h}:=kY h;let{⟨t,i,ifs,d⟩,gs,rfl,h}:=fj h;let{c,z}:=an2 h;cases of_decide_eq_true c;exact⟨E,t,i,ifs,gs,b,p,rfl,z⟩
def Hb(h:KP e=aN):∃p,e = .Dict [] [] p:=by
 let{ks,v,p,rfl,h}:=G6 h;let{c,b}:=an2 h;cases fG c;cases fG b;exact⟨p,rfl⟩
end
abbrev Dn(f:Expr->CE->Bool)(l:Option Expr):Option CE->Bool
 |none=>l.isNone
 |some c=>oA l λe=>f e c
abbrev Dp(f:Expr->CE->Bool)(l:List Expr):Option CE->Bool
 |none=>l.isEmpty
 |some c=>l1 l λe=>f e c
abbrev clC(c:List Cl)(k:Tg->CI->Option CE->List Cl->Bool):Bool:=match c with
 |[]=>aS
 |⟨tg,it,cond⟩::rest=>k tg it cond rest
def KR{c:List Cl}{k:Tg->CI->Option CE->List Cl->Bool}(h:clC c k=aN):∃T it cond b,c=⟨T,it,cond⟩::b/\k T it cond b=aN:=by
 cases c with
 |nil=>cases h
 |cons g b=>let{T,it,cond}:=g;exact⟨T,it,cond,b,rfl,h⟩
mutual
noncomputable def aG(T:Tab):Nat->Blk->Expr->CE->Bool
 |0,_,_,_=>aS
 |n+1,b,e,c=>match c with
  |.non=>M9 e
  |.bl v=>sBl v e
  |.int i=>nZ i e
  |.str x=>RY x e
  |.v i=>yE (λx=>b.N[i]? == aw x && b.vis x) e
  |.con k v=>yE (λx=>T.con[k]? == aw (x,v) && b.glo x) e
  |.tup cs=>Na (λE=>fm T n b E cs) e
  |.lst cs=>RZ (λE=>fm T n b E cs) e
  |.dic0=>KP e
  |.b o a c=>R5 o.op (λx=>aG T n b x a) (λx=>aG T n b x c) e
  |.neg a=>uA (λx=>aG T n b x a) e
  |.m o a c=>Nc o.op (λx=>aG T n b x a) (λx=>aG T n b x c) e
  |.h o p a c d=>Ng o.op p.op (λx=>aG T n b x a) (λx=>aG T n b x c) (λx=>aG T n b x d) e
  |.d a c=>Df .And (λx=>aG T n b x a) (λx=>aG T n b x c) e || Dg .And (λx=>aG T n b x a) (λx=>aG T n b x c) e
  |.or a c=>Df .Or (λx=>aG T n b x a) (λx=>aG T n b x c) e || Dg .Or (λx=>aG T n b x a) (λx=>aG T n b x c) e
  |.n a=>Nb (λx=>aG T n b x a) e
  |.ite t a c=>R6 (λx=>fH T n b x t) (λx=>aG T n b x a) (λx=>aG T n b x c) e
  |.x a c=>sIx (λx=>aG T n b x a) (λx=>aG T n b x c) e
  |.sl a lo hi=>sSl (λx=>aG T n b x a) (λl=>Dn (aG T n b) l lo) (λl=>Dn (aG T n b) l hi) e
  |.c f cs=>KL (λx=>oA T.fns[f]? (λy=>y.1 == x) && b.glo x) (λE=>fm T n b E cs) e
  |.s t a=>xj b "isinstance" (λx=>aG T n b x a) (yE λy=>y == Str.ofString t.nm && b.glo y) e
  |.e a=>bW b "len" (λx=>aG T n b x a) e
  |.all a=>bW b "all" (λx=>aG T n b x a) e
  |.any a=>bW b "any" (λx=>aG T n b x a) e
  |.t a=>bW b "tuple" (λx=>aG T n b x a) e
  |.l a=>bW b "list" (bW b "range" λx=>aG T n b x a) e
  |.srt a=>bW b "sorted" (λx=>aG T n b x a) e
  |.w a=>bW b "max" (λx=>aG T n b x a) e
  |.y a c=>KN b c (λx=>aG T n b x a) e
  |.sm a=>bW b "sum" (λx=>aG T n b x a) e
  |.rev a=>R7 (λx=>aG T n b x a) e
  |.z a=>KM b (λx=>aG T n b x a) e
  |.mx a c=>xi b "max" (λE=>fm T n b E [a,c]) e
  |.mn a c=>xi b "min" (λE=>fm T n b E [a,c]) e
  |.rep a=>bW b "repr" (λx=>aG T n b x a) e
  |.o own elt cls=>clC cls λq I cond j=>KO (λu t i ifs gs h=>cmB own (nX own b.N) b.N h b.sc && uC T n b t i I && xh (b.inner own h) t q && Dp (fH T n (b.inner own h)) ifs cond && qB T n (b.inner own h) u gs elt j) e
  |.app o a=>xk "append" (λx=>aG T n b x o) (λE=>fm T n b E [a]) e
  |.pop o=>xk "pop" (λx=>aG T n b x o) (λE=>E.isEmpty) e
  |.q o a=>xk "pop" (λx=>aG T n b x o) (λE=>fm T n b E [a]) e
  |.ins o i a=>xk "insert" (λx=>aG T n b x o) (λE=>fm T n b E [i,a]) e
  |.cnt o a=>xk "count" (λx=>aG T n b x o) (λE=>fm T n b E [a]) e
  |.idx o a=>xk "index" (λx=>aG T n b x o) (λE=>fm T n b E [a]) e
  |.u a=>bW b "tuple" (bW b "range" λx=>aG T n b x a) e
  |.k a=>bW b "dict" (λx=>aG T n b x a) e
noncomputable def fm(T:Tab):Nat->Blk->List Expr->List CE->Bool
 |0,_,_,_=>aS
 |n+1,b,E,cs=>match cs with
  |[]=>E.isEmpty
  |c::cs=>lC E λe E=>aG T n b e c && aF e && fm T n b E cs
noncomputable def qB(T:Tab):Nat->Blk->Expr->List W9->CE->List Cl->Bool
 |0,_,_,_,_,_=>aS
 |n+1,b,e,gs,elt,cls=>match cls with
  |[]=>gs.isEmpty && aG T n b e elt
  |⟨tg,it,cond⟩::rest=>lC gs λg gs=>decide (g.is_async=0) && uC T n b g.target g.iter it && xh b g.target tg && Dp (fH T n b) g.ifs cond && qB T n b e gs elt rest
noncomputable def uC(T:Tab):Nat->Blk->Expr->Expr->CI->Bool
 |0,_,_,_,_=>aS
 |n+1,b,t,e,c=>match c with
  |.p a=>aG T n b e a && aF e
  |.r1 a=>bW b "range" (λx=>aG T n b x a) e
  |.dn a=>sDn b (λx=>aG T n b x a) e
  |.dk a=>aG T n b e a && aF e
  |.r2 a c=>xj b "range" (λx=>aG T n b x a) (λx=>aG T n b x c) e
  |.en a=>bW b "enumerate" (λx=>aG T n b x a) e && Na (λ_=>aN) t
noncomputable def fH(T:Tab):Nat->Blk->Expr->CE->Bool
 |0,_,_,_=>aS
 |n+1,b,e,c=>match c with
  |.m o a c=>Nc o.op (λx=>aG T n b x a) (λx=>aG T n b x c) e
  |.h o p a c d=>Ng o.op p.op (λx=>aG T n b x a) (λx=>aG T n b x c) (λx=>aG T n b x d) e
  |.d a c=>Df .And (λx=>fH T n b x a) (λx=>fH T n b x c) e || Dg .And (λx=>fH T n b x a) (λx=>fH T n b x c) e
  |.or a c=>Df .Or (λx=>fH T n b x a) (λx=>fH T n b x c) e || Dg .Or (λx=>fH T n b x a) (λx=>fH T n b x c) e
  |.n a=>Nb (λx=>fH T n b x a) e
  |.ite _ _ _=>aS
  |c=>aG T n b e c && M8 e
end
def hZ{T:Tab}{n:Nat}{b:Blk}{t e:Expr}{c:CI}(h:uC T n b t e c=aN)(d:∀e,aF e=aN->∀env x,Zap e env x=pure x):∀env x,Zap e env x=pure x:=by
 cases n with
 |zero=>cases h
 |succ n=>
  cases c with
  |p a=>exact d e (an2 h).2
  |dk a=>exact d e (an2 h).2
  |r1 a=>let{x,p,q,rfl,_}:=aW h;intro _ _;rfl
  |dn a=>let{x,p,q,u,j,r2,l,k,f,rfl,_}:=KQ h;intro _ _;rfl
  |r2 a c=>let{x,y,p,q,rfl,_}:=n6 h;intro _ _;rfl
  |en a=>let{x,p,q,rfl,_}:=aW (an2 h).1;intro _ _;rfl
structure CtxOk(T:Tab)(C:Calls)(ar:Nat->Nat)(k:Nat)(b:Blk)(X:Cx):Prop where
 calm:X.calm=aN
 xe:X.xe=λ_ _=>False
 hN:X.N=b.N
 hs:X.env.scope=b.sc
 nd:b.N.Nodup
 fn:∀x,(match b.fs with |none=>aN |some sc=>sc.names.lookup x == aw .cell)=aN->X.fn x=aN
 room:Room k X.A
 con:∀ (i:Nat) (x:Str) (v:Int),T.con[i]?=aw (x,v)->∃tk,X.mg x=aw (.int v tk)
 bl:∀x,x∈gz->X.mg x=aD
 fns:∀ (i:Nat) (y:Str×Nat),T.fns[i]?=aw y->ar i=y.2/\∃f fd ps,X.mg y.1=aw (.ref f)/\V8 X.K (.ref f)=aN/\pZ X.K fd ps []/\FnOk X.prog X.w X.K X.mg X.base CX0 k f fd ps (spC X.K (C i) (ar i))
section
variable {T:Tab} {C:Calls} {a:Nat->Nat} {k:Nat} {b:Blk} {X:Cx}
def am{e:Expr}{E:List Expr}{env:Env}(h:aF e=aN):ZaP (e::E) env=(aS,eval e env)::ZaP E env:=by
 cases e <;> first |rfl |(exact absurd h Zh)
def uD{e:Expr}(h:aF e=aN):yc e:=by
 intro o i;cases e <;> first |rfl |(exact absurd h Zh)
def iT{e:Expr}{op:CmpOp}(h:aF e=aN):OR op e=aS:=by
 cases e <;> first |rfl |(exact absurd h Zh)
def n8{e f:Expr}{op O:CmpOp}(h:aF e=aN):lastMarks [op,O] [f,e]=aS:=by
 show OR O e=aS;exact iT h
def fI{e:Expr}{env:Env}(h:aF e=aN):∀x,Zap e env x=pure x:=by
 intro x;cases e <;> first |rfl |(exact absurd h Zh)
def cF{e:Expr}{m:Str}{env:Env}{w:Sem Value}(h:xg e=aN):OF e m env w=w:=by
 cases e with
 |Call f c ks p=>
  cases f with
  |Name x q=>
   cases c with
   |nil=>cases ks with |nil=>exact absurd h Zh |cons _ _=>rfl
   |cons _ _=>rfl
  |_=>rfl
 |_=>first |rfl |(exact absurd h Zh)
def xm{e:Expr}{env:Env}(h:M8 e=aN):∀c,isTrue e env c=(do let v <-c;standAt e.pos;holding [v] (truthy v)):=by
 intro c;cases e with
 |UnaryOp op x p=>cases op <;> first |rfl |(exact absurd h Zh)
 |_=>first |rfl |(exact absurd h Zh)
def ku{E:List Expr}{env:Env}{p:Pos}(h:∀e∈E,aF e=aN):(backTo p (ZaP E env)).any (·.1)=aS:=by
 induction E with
 |nil=>rfl
 |cons e E I=>
  rw[am (h e Zj)];show(aS || (backTo p (ZaP E env)).any (·.1))=aS;rw[I λe c=>h e (Zg _ c)];rfl
def bz:∀ {n:Nat} {E:List Expr} {d:List CE},fm T n b E d=aN->∀e∈E,aF e=aN
 |0,_,_,h=>absurd h Zh
 |n+1,E,[],h=>λx hx=>by rw[fG h]at hx;cases hx
 |n+1,E,c::d,h=>by
  let{e,E,rfl,h}:=fj h;let{_,f,h}:=an3 h;intro x hx;rcases Zn.mp hx with rfl |hx
  .exact f
  .exact bz h x hx
def CtxOk.gl(G:CtxOk T C a k b X){x:Str}(h:b.glo x=aN):Gl X x/\(x == ("__debug__" : Str))=aS:=by
 delta Blk.glo at h;rw[bAE]at h;calc{?_,by simpa using h.2};show X.env.scope.names.lookup x=_;rw[G.hs]
 simpa using h.1
def CtxOk.vis(G:CtxOk T C a k b X){x:Str}(h:b.vis x=aN):Vis X.env.scope x/\(x == ("__debug__" : Str))=aS/\(x == ("__classdict__" : Str))=aS:=by
 delta Blk.vis at h;rw[bAE,bAE]at h;calc{?_,by simpa using h.1.2,by simpa using h.2};delta Vis;rw[G.hs];let c:=h.1.1;split at c
 .rename_i e;exact .inl e
 .rename_i e;exact .inr (.inl e)
 .rename_i e;exact .inr (.inr e)
 .cases c
def CtxOk.own(G:CtxOk T C a k b X){x:Str}(h:b.own x=aN):L2.Loc X.env.scope x/\(X.fn x=aN\/X.env.scope.names.lookup x=aw .local):=by
 delta Blk.own at h;delta L2.Loc;rw[G.hs];split at h
 .rename_i e;exact{.inl e,.inr e}
 .rename_i e;calc{.inr e,.inl (G.fn x ?_)};cases c:b.fs with
  |none=>rfl
  |some sc=>rw[c]at h;exact h
 .cases h
def CtxOk.inner(G:CtxOk T C a k b X){own:List Str}{c:Scope}(S:CmScope own (nX own b.N) b.N c b.sc){C':Addr}{ex:List Addr}{s:Shared}{H:Hp}:CtxOk T C a k (b.inner own c) (cxC X own (nX own b.N) c C' ex s H):=
 {G.calm,rfl,by show dE (nX own b.N) X.N++own=_;rw[G.hN];rfl,by show ga c X.env.scope=_;rw[G.hs];rfl,S.nd,λx h=>h,G.room,G.con,G.bl,G.fns}
def qC{e:Expr}{E:List Expr}{env:Env}(h:aF e=aN):On (e::E) env=(aS,assign e env)::On E env:=by
 cases e <;> first |rfl |(exact absurd h Zh)
mutual
theorem ia(G:CtxOk T C a k b X):∀ {e:Expr} {t:Tg},xh b e t=aN->PG X e (tTg X.K t)
 |e,.n i,h=>by
  let{r,c,h}:=AJ h;let{f,l}:=an2 h;rw[sg c];let o:=G.own l;exact PG.imp (FK (i:=i) (x:=r.1) (by rw[G.hN];exact G.nd) (by rw[G.hN];exact eq_of_beq f) o.1 o.2) λx j H Q q=>rY q
 |e,.tup ts,h=>by
  let{r,c,h}:=AJ h;rw[si c];let d:=qD h;exact PG.imp (LI G.calm (uE G h) rfl d.2) λx j H Q q=>ML d.1 q
theorem uE(G:CtxOk T C a k b X):∀ {E:List Expr} {c:List Tg},nY b E c=aN->PGs X E (Cz X.K c)
 |E,[],h=>by
  rw[fG h];exact PGs.imp FL λx f H Q q=>GH q
 |E,t::c,h=>by
  let{e,E,rfl,h}:=fj h;let{d,j,h}:=an3 h;exact PGs.imp (Bx (ia G d) (uE G h) (by rw[qC j];rfl)) λx f H Q q=>CA q
theorem qD:∀ {E:List Expr} {c:List Tg},nY b E c=aN->(On E X.env).length=c.length/\(On E X.env).findIdx? (·.1)=aD
 |E,[],h=>by
  rw[fG h];exact⟨rfl,rfl⟩
 |E,t::c,h=>by
  let{e,E,rfl,h}:=fj h;let{f,d,h}:=an3 h;let I:=qD h;rw[qC d];calc{congrArg (·+1) I.1,?_};rw[List.findIdx?_cons];simp[I.2]
end
end
structure Snd(T:Tab)(C:Calls)(ar:Nat->Nat)(k n:Nat):Prop where
 e:∀ (b:Blk) (X:Cx) (e:Expr) (c:CE),CtxOk T C ar k b X->aG T n b e c=aN->PE X e (tE X.K (evE C ar n c))
 tm:∀ (b:Blk) (X:Cx) (e:Expr) (c:CE),CtxOk T C ar k b X->ai c=aN->aG T n b e c=aN->PE X e (ju X.K (dG C ar n c))
 a:∀ (b:Blk) (X:Cx) (es:List Expr) (cs:List CE),CtxOk T C ar k b X->fm T n b es cs=aN->PA X es (tAr X.K (evA C ar n cs))
 t:∀ (b:Blk) (X:Cx) (e:Expr) (c:CE),CtxOk T C ar k b X->fH T n b e c=aN->PT X e (tT X.K (evT C ar n c))
 i:∀ (B:List Addr) (b:Blk) (X:Cx) (t e:Expr) (c:CI),CtxOk T C ar k b X->uC T n b t e c=aN->PI X t e (tIt X.K B (evI C ar n c))
 cl:∀ (b:Blk) (X:Cx) (e:Expr) (gs:List W9) (elt:CE) (cls:List Cl),CtxOk T C ar k b X->qB T n b e gs elt cls=aN ->
  ∀ (gens:List W9) (scope:Scope) (pos:Pos) (acc:Addr) (d:Nat),gens.drop (d+1)=gs->PTl X e gens scope pos acc d (tCl X.K acc (il C ar n elt cls))
section
variable {T:Tab} {C:Calls} {j:Nat->Nat} {k n:Nat} {b:Blk} {X:Cx}
def fo{e:Expr}{E:List Expr}{c:TE}{t:TA}(h:PE X e c)(f:PA X E t)(d:aF e=aN):PA X (e::E) (cf c t):=l5 h f (am d)
def Sg(I:Snd T C j k n)(E:List Expr)(d:List CE)(G:CtxOk T C j k b X)(h:fm T (n+1) b E d=aN):PA X E (tAr X.K (evA C j (n+1) d)):=by
 cases d with
 |nil=>rw[fG h];exact PA.imp rc λl H Q q=>Mn q
 |cons c d=>
  let{e,E,rfl,h}:=fj h;let{f,p,h}:=an3 h;exact PA.imp (fo (I.e b X e c G f) (I.a b X E d G h) p) λl H Q q=>Gg q
def cq{e:Expr}{c:TE}(h:PE X e c)(d:aF e=aN):PA X [e] (cf c ji):=fo h rc d
def dY{x:Str}{id:String}{e:Expr}{f:TE}{r:V->Hp->VK->Prop}{p c:Pos}(hc:aV X (.builtin id) (r1 r))(G:CtxOk T C j k b X)(l:b.glo x=aN)(hb:x∈gz)(v:NO x=aw (.builtin id))(u:x≠"__name__")(h:PE X e f)(d:aF e=aN) :
  PE X (.Call (.Name x p) [e] [] c) (tUn r f):=
 PE.imp (f8 hc (G.gl l).1 (G.bl x hb) v (cq h d) u (G.gl l).2 (am d) rfl) λy H Q q=>q
def yG{x:Str}{id:String}{e:Expr}{f:TE}{r:V->Hp->VK->Prop}{p c:Pos}(hc:aV X (.type id) (r1 r))(G:CtxOk T C j k b X)(l:b.glo x=aN)(hb:x∈gz)(v:NO x=aw (.type id))(u:x≠"__name__")(h:PE X e f)(d:aF e=aN) :
  PE X (.Call (.Name x p) [e] [] c) (tUn r f):=
 PE.imp (fc hc (G.gl l).1 (G.bl x hb) v (cq h d) u (G.gl l).2 (am d) rfl) λy H Q q=>q
def fJ{x:Str}{e:Expr}{a:CE}{f:Bool->List D->Sto->Option (D×Sto)}{ks:List Keyword}{p c:Pos}(I:Snd T C j k n)(G:CtxOk T C j k b X)(d:∀l:TE,PE X e l->PE X (.Call (.Name x p) [e] ks c) (tUn (rSq X.K f) l))(h:aG T n b e a=aN) :
  PE X (.Call (.Name x p) [e] ks c) (tE X.K (if ai a=aN then lU f (dG C j n a) else lV f (evE C j n a))):=by
 split
 .rename_i u;exact PE.imp (d _ (I.tm b X e a G u h)) λv H Q q=>Ml q
 .exact PE.imp (d _ (I.e b X e a G h)) λv H Q q=>Mp q
def yH{x y:Str}(h:(x == y)=aN):x=y:=eq_of_beq h
def mh{K:VX}{x:XE}{l:L2.St}{H:Hp}{Q Q':VK}(h:tE K x l H Q)(f:∀v c,Q v c->Q' v c):tE K x l H Q':=by
 let{m,y,S,d,u,E,R,e,q}:=h;exact{m,y,S,d,u,E,R,e,λp c v A vd=>f _ _ (q p c v A vd)}
abbrev ifT(C:Calls)(j:Nat->Nat)(n:Nat)(K:VX):Option CE->TT
 |none=>F2
 |some c=>tT K (evT C j n c)
def n9(I:Snd T C j k n)(G:CtxOk T C j k b X){ifs:List Expr}{cond:Option CE}(h:Dp (fH T n b) ifs cond=aN):PTs X ifs (ifT C j n X.K cond):=by
 cases cond with
 |none=>rw[fG h];exact F3
 |some c=>let{e,rfl,h}:=iS h;exact F4 (I.t b X e c G h)
def xn{K:VX}{cond:Option CE}{d:Addr}{c:XA}{D:Ends}{f:L2.St}{H:Hp}(q:tCl K d (cnd (evT C j n) cond c) D f H):fW (ifT C j n K cond) (tCl K d c) D f H:=by
 cases cond with
 |none=>exact MQ q
 |some c=>exact GN q
def uF(I:Snd T C j k n)(G:CtxOk T C j k b X){l:Option Expr}{lo:Option CE}(h:Dn (aG T n b) l lo=aN):PO X l (tOI X.K (opt (evE C j n) lo)):=by
 cases lo with
 |none=>
  cases l with
  |none=>exact PO.imp FV λd H Q q=>Go q
  |some _=>cases h
 |some c=>let{e,rfl,h}:=AJ h;exact PO.imp (x9 (I.e b X e c G h)) λd H Q q=>Gp q
def Np(L:Snd T C j k n)(e:Expr)(gs:List W9)(E:CE)(y:List Cl)(G:CtxOk T C j k b X)(h:qB T (n+1) b e gs E y=aN)(c:List W9)(l:Scope)(u:Pos)(p:Addr)(d:Nat)(hd:c.drop (d+1)=gs) :
  PTl X e c l u p d (tCl X.K p (il C j (n+1) E y)):=by
 let imp:∀ {t t':TS},PTl X e c l u p d t->(∀D v H,t' D v H->t D v H)->PTl X e c l u p d t':=λh f J s v H D I q=>h J s v H D I (f D v H q);cases y with
 |nil=>
  let{O,h}:=an2 h;cases fG O
  let U:c[d+1]?=aD:=by
   let:=congrArg Zl hd;simp at this;exact Z3.mpr (by omega)
  exact imp (BU G.xe U (L.e b X e E G h)) λD v H q=>GM q
 |cons g B=>
  let{tg,it,cond}:=g;let{⟨t,i,ifs,as⟩,gs',rfl,h}:=fj h;let{O,Z,h2,h3,h4}:=an5 h;cases of_decide_eq_true O
  let U:c[d+1]?=aw ⟨t,i,ifs,0⟩:=by
   let:=congrArg (·[0]?) hd
   simpa using this
  let Y:c.drop (d+1+1)=gs':=by
   let:=congrArg (Yr 1) hd
   simpa[List.drop_drop] using this
  let Q:=hZ Z (λe he env=>fI he) X.env;exact imp (F5 U (L.i [p] b X t i it G Z) (ia G h2) (n9 L G h3) (L.cl b X e gs' E B G h4 c l u p (d+1) Y) G.xe G.calm Q) λD v H q=>CK (λD v H z=>xn z) q
def Sh(I:Snd T C j k n)(B:List Addr)(t e:Expr)(c:CI)(G:CtxOk T C j k b X)(h:uC T (n+1) b t e c=aN):PI X t e (tIt X.K B (evI C j (n+1) c)):=by
 cases c with
 |p a=>
  let h:=an2 h;show PI X t _ (tIt X.K B (if ai a=aN then xIT (dG C j n a) else xIV (evE C j n a)));split
  .rename_i z;exact PI.imp (xZ (I.tm b X _ a G z h.1)) λd H R q=>UH q
  .exact PI.imp (PI.or (xZ (I.e b X _ a G h.1)) (LM (I.e b X _ a G h.1))) λd H R q=>UG q
 |r1 a=>
  let{x,p,q,rfl,f,l,h4}:=aW h;exact PI.imp (zI (G.gl f).1 (G.bl _ (by decide)) (cq (I.e b X x a G l) h4) (am h4)) λd H R q=>RM q
 |dk a=>exact PI.imp (G3 (I.e b X _ a G (an2 h).1)) λd H R q=>RV q
 |dn a=>
  let{x,p,q,O,Y,r2,Z,p3,L,rfl,f,l,h4}:=KQ h;let m1:∀ {n p r},PE X (.UnaryOp .USub (.Constant (.int 1) n p) r) (tC (.int (-1))):=λ{n p r}=>PE.imp (x5 rb mH) λd H Q q=>⟨1,rfl,q⟩;exact PI.imp (RS (G.gl f).1 (G.bl _ (by decide)) (fo (I.e b X x a G l) (fo m1 (cq m1 rfl) rfl) h4) (am h4) rfl) λd H R q=>RT q
 |r2 a c=>
  let{x,y,p,q,rfl,f,l,h4,v,u}:=n6 h;exact PI.imp (zJ (G.gl f).1 (G.bl _ (by decide)) (fo (I.e b X x a G l) (cq (I.e b X y c G v) u) h4) (by rw[am h4,am u];rfl) (am u)) λd H R q=>RN q
 |en a=>
  let h:=an2 h;let{x,p,q,rfl,f,l,h4}:=aW h.1;let{E,U,J,rfl,_}:=Di h.2;exact PI.imp (Md (G.gl f).1 (G.bl _ (by decide)) (cq (I.e b X x a G l) h4) (am h4)) λd H R q=>RL q
end
section
variable {T:Tab} {C:Calls} {w:Nat->Nat} {k n:Nat} {b:Blk} {X:Cx}
def fq{k:Nat}{A:Around}(r:Room k A):A.units+64 < cLine:=r.units
def jD(K:VX)(m:List Addr)(H:Hp):∀l:List Nat,VDs K m H (l.map λj=>D.int (Int.ofNat j)) (l.map λ(j:Nat)=>V.int j)
 |[]=>by rw[Z0,Z0,VDs]
 |a::l=>by rw[Zy,Zy,VDs];exact{_,_,rfl,bg,jD K m H l}
def Hc{K:VX}{m:List Addr}{H:Hp}{S:Sto}{p:Addr}{ks:List (List NK)}{d:List D}{v:List V}{Q:VK}(R:Rel K m S H)(h:H p=aD)(vd:VDs K m H d v)(hl:ks.length=d.length)(q:∀f c u,Aft K m H (S++[.dic ks d]) f c->VD K f c (.ref S.length) u->Q u c):Q (.ref p) (upd H p (.dT (ks.zip v))):=by
 let x:=Ext.beside R h (.dT (ks.zip v));let j:=R.beside h (.dT (ks.zip v));refine q (m++[p]) _ _ {x.adopt h,?_} ?_
 .exact j.adoptP (R.no h) (ob:=.dic ks d) {v,az,hl,VDs.mono0 (YA m [p]) (λ_ _ t=>t) (vd.mono R x)}
 .rw[VD];exact{p,by rw[Zp (by rw[R.len];exact Zf _),R.len,ZY];rfl,rfl}
def oe{E:List Expr}{a:CE}(h:fm T n b E [a]=aN):∃y,E=[y]:=by
 cases n with
 |zero=>exact absurd h Zh
 |succ n=>
  let{e,E,rfl,h}:=fj h;let h:=(an2 h).2;cases n with
  |zero=>exact absurd h Zh
  |succ n=>cases fG h;exact⟨e,rfl⟩
def Hd(I:Snd T C w k n){own:List Str}{E:CE}{l:Tg}{it:CI}{cond:Option CE}{d:List Cl}{e t i:Expr}{ifs:List Expr}{gs:List W9}{c:Scope}{p:Pos}(G:CtxOk T C w k b X)
  (J:cmB own (nX own b.N) b.N c b.sc=aN) (u:uC T n b t i it=aN) (B:xh (b.inner own c) t l=aN) (O:Dp (fH T n (b.inner own c)) ifs cond=aN) (h4:qB T n (b.inner own c) e gs E d=aN) :
  PE X (.ListComp e (⟨t,i,ifs,0⟩::gs) c p) (ju X.K (nM own.length (evI C w n it) l (cnd (evT C w n) cond (il C w n E d)) LF)):=by
 let S:CmScope own (nX own b.N) b.N c b.sc:=B5 _ J;let y:CmScope own (nX own b.N) X.N c X.env.scope:=by rw[G.hN,G.hs];exact S
 let j:=hZ u (λe L env=>fI L) X.env
 refine PE.imp (F6 (g:=tTg X.K l) (ti:=ifT C w n X.K cond) (t:=λf=>tCl X.K f (il C w n E d)) G.calm y (I.i [] b X t i it G u) (λh ex s H=>ia (G.inner S (C':=h) (ex:=ex) (s:=s) (H:=H)) B) (λh ex s H=>n9 I (G.inner S (C':=h) (ex:=ex) (s:=s) (H:=H)) O)
  (λh ex s H f=>I.cl _ _ e gs E d (G.inner S (C':=h) (ex:=ex) (s:=s) (H:=H)) h4 _ c p f 0 rfl) j) λv H Q q=>?_
 exact yv (λf D v H z=>xn z) q
def Nq{x:XE}{L:L2.St}{H:Hp}{Q:VK}{K:VX}(h:ju K (AH x) L H Q):tE K x L H λv c=>∃i:Nat,v = .int i/\i<=1000/\∀p,c p=aD->∀l,upd c p (.rng 0 i) l=aD->Q (.ref l) (upd (upd c p (.rng 0 i)) l (.lst ((Zi i).map λ(j:Nat)=>V.int j))):=by
 let{m,ρ,S,ds,U,E,R,e,q}:=h;let{d,S1,Z,e}:=ac e;cases d with
 |int i=>
  dsimp! at e;split at e
  .rename_i hi;cases e;calc{m,ρ,S,.int i,_,E,R,Z,λm1 c v f vd=>{i.toNat,by rw[vd.ints];congr 1;lia,by lia,λp I l u=>?_}};let B:Aft K m1 c U m1 (upd c p (.rng 0 i.toNat)):={Ext.beside f.rel I _,f.rel.beside I _};let A3:Aft K m1 (upd c p (.rng 0 i.toNat)) U m1 (upd (upd c p (.rng 0 i.toNat)) l (.lst ((Zi i.toNat).map λ(j:Nat)=>V.int j))):={Ext.beside B.rel u _,B.rel.beside u _};let y:l∉m1:=B.rel.no u
   let O:c l=aD:=by
    cases J:c l with
    |none=>rfl
    |some o=>rw[(Ext.beside f.rel I (.rng 0 i.toNat)).keep l o J y]at u;cases u
   let nH:H l=aD:=by
    cases J:H l with
    |none=>rfl
    |some o=>
     by_cases Y:l∈m
     .exact absurd (f.ext.pre.subset Y) y
     .rw[f.ext.keep l o J Y]at O;cases O
   calc q m1 _ l _ (f.trans (B.trans A3)) az y (λb hb z=>y (z▸f.ext.pre.subset hb)) nH ?_;exact jD _ _ _ _
  .cases e
 |_=>cases e
def He{c:L2.St}{H:Hp}{Q:VK}{K:VX}(h:tE K C5 c H Q):B2 c H Q:=by
 let{m,l,S,d,j,E,R,e,q}:=h;cases e;exactλp f=>Hc R f (show VDs K m H [] [] by rw[VDs]) rfl q
def Nt{f:Bool->List D->Option (List D)}{x:XE}{l:L2.St}{H:Hp}{Q:VK}{K:VX}(h:ju K (AG f x) l H Q):tUn (rTm K f) (tE K x) l H Q:=by
 let{m,B,S,J,S',E,R,e,q}:=h;let{d,S1,e1,e}:=ac e;cases hi:ay d S1 with
 |none=>rw[hi]at e;cases e
 |some r=>
  rw[hi]at e;dsimp! at e;cases j:f r.1 r.2 with
  |none=>rw[j]at e;cases e
  |some es=>
  rw[j]at e;cases e;calc{m,B,S,d,_,E,R,e1,λm1 H1 v c vd=>?_};let{a,z,O,sq,vds}:=gk (tu:=r.1) (ds:=r.2) c.rel vd hi;refine{m1,_,r.1,r.2,a,z,J,c.rel,O,sq,vds,j,λm2 U p I A2 Z n1 u n3 Y=>?_}
  let hn:H p=aD:=by
   cases L:H p with
   |none=>rfl
   |some o=>
    by_cases y:p∈m
    .exact absurd rfl (u p (c.ext.pre.subset y))
    .let:=c.ext.keep p o L y;rw[n3]at this;cases this
  exact q m2 U p I (c.trans A2) Z n1 (λb hb=>u b (c.ext.pre.subset hb)) hn Y
def Nu{f:Bool->List D->Option (List D)}{x:XA}{l:L2.St}{H:Hp}{Q:VK}{K:VX}(h:ju K (AF f x) l H Q):tUn (rTm K f) (ju K x) l H Q:=by
 let{m,B,S,O,S',E,R,e,q}:=h;let{j,S1,e1,e}:=ac e;cases d:f aS j with
 |none=>rw[d]at e;cases e
 |some es'=>
 rw[d]at e;cases e;calc{m,B,S,j,_,E,R,e1,λm1 z a v c Y na _ _ vd=>?_};refine{m1,_,aS,j,a,v,O,c.rel,rfl,show SqL K z a v from SqL.of Y,vd,d,λm2 L p I A2 Z n1 u n3 U=>?_}
 let hn:H p=aD:=by
  cases J:H p with
  |none=>rfl
  |some o=>
   by_cases y:p∈m
   .exact absurd rfl (u p (c.ext.pre.subset y))
   .let:=c.ext.keep p o J y;rw[n3]at this;cases this
 exact q m2 L p I (c.trans A2) Z n1 (λb hb=>u b (c.ext.pre.subset hb)) hn U
def Dq(I:Snd T C w k n)(e:Expr)(c:CE)(G:CtxOk T C w k b X)(E:ai c=aN)(h:aG T (n+1) b e c=aN):PE X e (ju X.K (dG C w (n+1) c)):=by
 cases c with
 |lst Z=>
  let{es,p,rfl,J}:=Ni h;exact PE.imp (LZ (I.a b X es Z G J)) λu H Q q=>Gh q
 |l a=>
  let{x,p,q,rfl,d,j,h4}:=aW h;let{y,p',q',rfl,L,h6,U}:=aW j
  exact PE.imp (fc (rq G.calm) (G.gl d).1 (G.bl _ (by decide)) WY (cq (fc kQ (G.gl L).1 (G.bl _ (by decide)) W1 (cq (I.e b X y a G h6) U) (by decide) (G.gl L).2 (am U) rfl) h4) (by decide) (G.gl d).2 (am h4) rfl) λu H Q q=>mh (Nq q) λv H1 ⟨i,ev,hi,z⟩=>by
    subst ev;exact{i,rfl,λp hp=>{p,i,rfl,az,hi,λl hl=>z p hp l hl}}
 |srt a=>
  let{x,p,q,rfl,d,j,h4}:=aW h;show PE X _ (ju X.K (if ai a=aN then AF cT (dG C w n a) else AG cT (evE C w n a)));split
  .rename_i E;exact PE.imp (dY (qz (fq G.room)) G d (by decide) W2 (by decide) (I.tm b X x a G E j) h4) λu H Q q=>Nu (f:=cT) q
  .exact PE.imp (dY (qz (fq G.room)) G d (by decide) W2 (by decide) (I.e b X x a G j) h4) λu H Q q=>Nt (f:=cT) q
 |o own elt cls=>
  let{tg,it,cond,O,rfl,hc}:=KR h;let{el,t,i,ifs,gs,B,p,rfl,J}:=yF hc;let{h0,Y,d,j,h4}:=an5 J;exact Hd I G h0 Y d j h4
 |_=>cases E
def mi{y:Expr}{p:Pos}(h:aF y=aN):((backTo p (ZaP [y] X.env)).all (λx=>!x.1) && (ON p (Zat [] X.env)).all (λx=>x.1.isSome) && decide (([y]:List Expr).length+([]:List Keyword).length+(if ([]:List Keyword).isEmpty then 0 else 1) < 30))=aN:=by
 rw[am h];rfl
def Nv{E:List Expr}{a c:CE}(h:fm T n b E [a,c]=aN):∃y z,E=[y,z]:=by
 cases n with
 |zero=>exact absurd h Zh
 |succ n=>
  let{e,E,rfl,h}:=fj h;let{z,rfl}:=oe (an2 h).2;exact⟨e,z,rfl⟩
def Si(I:Snd T C w k n)(e:Expr)(c:CE)(G:CtxOk T C w k b X)(h:aG T (n+1) b e c=aN):PE X e (tE X.K (evE C w (n+1) c)):=by
 let hu:=fq G.room
 let tmp:ai c=aN->evE C w (n+1) c=fE (dG C w (n+1) c)->PE X e (tE X.K (evE C w (n+1) c)):=λht he=>by
  rw[he];exact PE.imp (Dq I e c G ht h) λL H Q q=>ud q
 cases c with
 |non=>let{_,_,rfl}:=Dh h;exact PE.imp Bo λL H Q q=>Cd (λ_ _=>kc) q
 |bl v=>let{_,_,rfl}:=R9 h;exact PE.imp Q2 λL H Q q=>Cd (λ_ _=>cp) q
 |int v=>let{_,_,rfl}:=kq h;exact PE.imp mH λL H Q q=>Cd (λ_ _=>bg) q
 |str v=>let{_,_,rfl}:=Nh h;exact PE.imp Ly λL H Q q=>Cd (λ_ _=>m9) q
 |v i=>
  let{x,p,rfl,hh}:=sj h;let hh:=an2 hh;let v:=G.vis hh.2;exact PE.imp (v5 (i:=i) (by rw[G.hN];exact eq_of_beq hh.1) v.1 v.2.1 v.2.2) λL H Q q=>Mm q
 |con k' v=>
  let{x,p,rfl,hh}:=sj h;let hh:=an2 hh;let g:=G.gl hh.2;let{tk,hm}:=G.con k' x v (eq_of_beq hh.1);exact PE.imp (FE (v:=.int v) g.1 hm ⟨tk,rfl⟩ g.2) λL H Q q=>Cd (λ_ _=>bg) q
 |tup cs=>let{Y,_,_,rfl,hh}:=Di h;exact PE.imp (BJ (I.a b X Y cs G hh)) λL H Q q=>Mo q
 |lst cs=>exact tmp rfl rfl
 |dic0=>let{p,rfl}:=Hb h;exact PE.imp B3 λL H Q q=>He q
 |b o a U=>let{l,r,p,rfl,B,E}:=Nj h;exact PE.imp (Rh (Gn o) (I.e b X l a G B) (I.e b X r U G E)) λL H Q q=>rD q
 |neg a=>let{x,p,rfl,hh}:=n4 h;exact PE.imp (x5 GO (I.e b X x a G hh)) λL H Q q=>Cb q
 |m o a U=>let{l,r,p,rfl,B,E,h4}:=Dk h;exact PE.imp (FO (hX hu o) (I.e b X l a G B) (I.e b X r U G E) (iT h4)) λL H Q q=>rD q
 |h o Z a U d=>let{l,r,s,p,rfl,B,E,h4,O}:=Dm h;exact PE.imp (BG (hX hu o) (hX hu Z) (I.e b X l a G B) (I.e b X r U G E) (I.e b X s d G h4) (n8 O)) λL H Q q=>CN q
 |d a U=>
  rcases De h with h |h
  .let{x,y,p,rfl,h1,B}:=sr h;exact PE.imp (Bs (I.e b X x a G h1) (Bq (I.e b X y U G B))) λL H Q q=>CM q
  .let{x,y,z,ys,p,rfl,h1,B}:=su h;exact PE.imp (Bs (I.e b X x a G h1) (I.e b X _ U G B)) λL H Q q=>CM q
 |or a U=>
  rcases De h with h |h
  .let{x,y,p,rfl,h1,B}:=sr h;exact PE.imp (Kd (I.e b X x a G h1) (Bq (I.e b X y U G B))) λL H Q q=>Kx q
  .let{x,y,z,ys,p,rfl,h1,B}:=su h;exact PE.imp (Kd (I.e b X x a G h1) (I.e b X _ U G B)) λL H Q q=>Kx q
 |n a=>let{x,p,rfl,hh}:=Dj h;exact PE.imp (LB (I.e b X x a G hh)) λL H Q q=>MU q
 |ite t a U=>let{x,y,z,p,rfl,h1,B,E}:=Nk h;exact PE.imp (Bt (I.t b X x t G h1) (I.e b X y a G B) (I.e b X z U G E)) λL H Q q=>MV q
 |x a U=>
  let{x,y,p,rfl,h1,B,E}:=Se h;show PE X _ (tE X.K (if ai a=aN then wD (dG C w n a) (evE C w n U) else uc ixS (evE C w n a) (evE C w n U)));split
  .rename_i ht;exact PE.imp (Kq BO (I.tm b X x a G ht h1) (I.e b X y U G B) (uD E)) λL H Q q=>Mz q
  .exact PE.imp (Kq (UD hu) (I.e b X x a G h1) (I.e b X y U G B) (uD E)) λL H Q q=>rD q
 |sl a lo hi=>let{x,y,z,p,Z,rfl,h1,B,E}:=Sf h;exact PE.imp (BM UE (I.e b X x a G h1) (uF I G B) (uF I G E)) λL H Q q=>RF q
 |c f cs=>
  let{x,e,Y,p,Z,rfl,h12,E}:=G8 (k:=λx=>oA T.fns[f]? (λy=>y.1 == x) && b.glo x) (l:=λY=>fm T n b Y cs) (e:=e) h;let{h1,B}:=an2 h12
  .let{y,hy,h1}:=AJ h1;let hx:=yH h1;subst hx;let{ha,fa,fd,ps,hm,hk,hb,F}:=G.fns f y hy;let J:=bz E;let g:=G.gl B;exact PE.imp (FS F G.room g.1 hm hk hb .nil Rx (I.a b X (e::Y) cs G E) g.2 (am (J e Zj)) (ku λe he=>J e (Zg _ he))) λL H Q q=>GP q
 |s t a=>
  let{x,y,p,Z,rfl,B,O,h6,h7,_}:=n6 h;let{y,p'',rfl,h8}:=sj h7;let{E,h4}:=an2 h8;let hy:=yH E;subst hy
  let ty:PE X (.Name (Str.ofString t.nm) p'') (tC (.ty t.nm)):=by
   let g:=G.gl h4;cases t with
   |int=>exact jh g.1 (G.bl _ (by decide)) PyProof.Rows.boot_int rfl (by decide) g.2
   |bool=>exact jh g.1 (G.bl _ (by decide)) PyProof.Rows.boot_bool rfl (by decide) g.2
   |tuple=>exact jh g.1 (G.bl _ (by decide)) W3 rfl (by decide) g.2
   |list=>exact jh g.1 (G.bl _ (by decide)) WY rfl (by decide) g.2
   |str=>exact jh g.1 (G.bl _ (by decide)) PyProof.Rows.boot_str rfl (by decide) g.2
  exact PE.imp (f8 (rA X.K) (G.gl B).1 (G.bl _ (by decide)) PyProof.Rows.boot_isinstance (fo (I.e b X x a G O) (cq ty rfl) h6) (by decide) (G.gl B).2 (am h6) rfl) λL H Q q=>Gv q
 |e a=>let{x,p,Z,rfl,B,E,h4}:=aW h;exact fJ I G (λte z=>dY Af G B (by decide) Zaa (by decide) z h4) E
 |all a=>let{x,p,Z,rfl,B,E,h4}:=aW h;exact fJ I G (λte z=>dY (Ah G.calm) G B (by decide) PyProof.Rows.boot_all (by decide) z h4) E
 |any a=>let{x,p,Z,rfl,B,E,h4}:=aW h;exact fJ I G (λte z=>dY (Ai G.calm) G B (by decide) PyProof.Rows.boot_any (by decide) z h4) E
 |w a=>let{x,p,Z,rfl,B,E,h4}:=aW h;exact fJ I G (λte z=>dY (An G.calm) G B (by decide) WZ (by decide) z h4) E
 |y a c=>
  let{x,p,q,v,q',rfl,h1,B,E,h4}:=G9 h
  let hd:PE X v (tC (.int c)):=by
   rcases De h1 with h1 |h1
   .let{j,p,rfl}:=kq h1;exact mH
   .let{u,r,rfl,h1}:=n4 h1;let{j,p,rfl}:=kq h1;exact PE.imp (x5 rb mH) λL H Q q=>{-c,rfl,by show Q (.int (- -c)) H;rw[Int.neg_neg];exact q}
  exact fJ I G (λte z=>PE.imp (MG G.calm (G.gl B).1 (G.bl _ (by decide)) (G.gl B).2 hd (cq z h4) (am h4)) λL H Q q=>q) E
 |rev a=>let{x,k,p,p2,p3,p4,rfl,h1}:=Nm h;exact PE.imp (MF (I.e b X x a G h1)) λL H Q q=>Cb q
 |z a=>
  let{x,p,q,j,Z,q',rfl,B,E,h4}:=Ha h;exact fJ I G (λte z=>PE.imp (MZ hu G.calm (G.gl B).1 (G.bl _ (by decide)) (G.gl B).2 (cq z h4) (am h4)) λL H Q q=>q) E
 |sm a=>let{x,p,Z,rfl,B,E,h4}:=aW h;exact fJ I G (λte z=>dY (Ap G.calm) G B (by decide) PyProof.Rows.boot_sum (by decide) z h4) E
 |t a=>let{x,p,Z,rfl,B,E,h4}:=aW h;exact fJ I G (λte z=>yG Ag G B (by decide) W3 (by decide) z h4) E
 |l a=>exact tmp rfl rfl
 |srt a=>exact tmp rfl rfl
 |mx a U=>
  let{x,Y,p,Z,rfl,B,E}:=uB (b:=b) (f := "max") (k:=λY=>fm T n b Y [a,U]) (e:=e) h;let J:=bz E;exact PE.imp (f8 (wN G.calm) (G.gl B).1 (G.bl _ (by decide)) WZ (I.a b X (x::Y) [a,U] G E) (by decide) (G.gl B).2 (am (J x Zj)) (ku λe he=>J e (Zg _ he))) λL H Q q=>Cc q
 |mn a U=>
  let{x,Y,p,Z,rfl,B,E}:=uB (b:=b) (f := "min") (k:=λY=>fm T n b Y [a,U]) (e:=e) h;let J:=bz E;exact PE.imp (f8 (wP G.calm) (G.gl B).1 (G.bl _ (by decide)) W0 (I.a b X (x::Y) [a,U] G E) (by decide) (G.gl B).2 (am (J x Zj)) (ku λe he=>J e (Zg _ he))) λL H Q q=>Cc q
 |rep a=>let{x,p,Z,rfl,B,E,h4}:=aW h;exact PE.imp (dY (wZ G.room) G B (by decide) PyProof.Rows.boot_repr (by decide) (I.e b X x a G E) h4) λL H Q q=>Cb q
 |o own elt cls=>exact tmp rfl rfl
 |app o a=>
  let{x,ap,Y,p,rfl,B,E,h4,O}:=kr h;let{y,rfl}:=oe O;let J:=bz O y (by simp);exact PE.imp (tN Vr Vx PySem.F.type_list_append MH (I.e b X x o G h4) (I.a b X [y] [a] G O) (cF B) (mi J) E (am J) rfl) λL H Q q=>nF (λR vd c=>rR R vd c) q
 |pop o=>
  let{x,ap,Y,p,rfl,B,E,h4,O}:=kr h;cases Y with
  |cons _ _=>cases O
  |nil=>exact PE.imp (L6 Vr Vz VG Gy (I.e b X x o G h4) (cF B) E) λL H Q q=>Gw (λR vd c=>rR R vd c) q
 |q o a=>
  let{x,ap,Y,p,rfl,B,E,h4,O}:=kr h;let{y,rfl}:=oe O;let J:=bz O y (by simp);exact PE.imp (tN Vr Vz VG Ar (I.e b X x o G h4) (I.a b X [y] [a] G O) (cF B) (mi J) E (am J) rfl) λL H Q q=>nF (λR vd c=>rR R vd c) q
 |ins o i a=>
  let{x,ap,Y,p,rfl,B,E,h4,O}:=kr h;let{y,z,rfl}:=Nv O;let J:=bz O y (by simp);let hpz:=bz O z (by simp);exact PE.imp (tN Vr Vy PySem.F.type_list_insert GA (I.e b X x o G h4) (I.a b X [y,z] [i,a] G O) (cF B) (by rw[am J,am hpz];rfl) E (am J) (by rw[am hpz];rfl)) λL H Q q=>nF (λR vd c=>rR R vd c) q
 |cnt o a=>
  let{x,ap,Y,p,rfl,B,E,h4,O}:=kr h;let{y,rfl}:=oe O;let J:=bz O y (by simp);exact PE.imp (tN Vs VB PySem.F.type_tuple_count Gz (I.e b X x o G h4) (I.a b X [y] [a] G O) (cF B) (mi J) E (am J) rfl) λL H Q q=>nF (λR vd c=>Cy R vd c) q
 |idx o a=>
  let{x,ap,Y,p,rfl,B,E,h4,O}:=kr h;let{y,rfl}:=oe O;let J:=bz O y (by simp);exact PE.imp (tN Vs VC PySem.F.type_tuple_index G0 (I.e b X x o G h4) (I.a b X [y] [a] G O) (cF B) (mi J) E (am J) rfl) λL H Q q=>nF (λR vd c=>Cy R vd c) q
 |u a=>
  let{x,p,q,rfl,B,E,h4}:=aW h;let{y,Z,q',rfl,O,h6,h7}:=aW E
  exact PE.imp (fc (ux G.calm) (G.gl B).1 (G.bl _ (by decide)) W3 (cq (fc kQ (G.gl O).1 (G.bl _ (by decide)) W1 (cq (I.e b X y a G h6) h7) (by decide) (G.gl O).2 (am h7) rfl) h4) (by decide) (G.gl B).2 (am h4) rfl) λL H Q q=>mh (G2 q) λv H1 ⟨i,ev,hi,z⟩=>by
    subst ev;exact{i,rfl,λp hp=>{p,i,rfl,az,hi,λl hl=>z p hp l hl}}
 |k a=>let{x,p,Z,rfl,B,E,h4}:=aW h;exact fJ I G (λte z=>yG (AC G.calm (fq G.room)) G B (by decide) boot_dict (by decide) z h4) E
end
section
variable {T:Tab} {C:Calls} {A:Nat->Nat} {k n:Nat} {b:Blk} {X:Cx}
def yI{op:BoolOp}{v:List Expr}{p:Pos}{t:TT}(h:PT X (.BoolOp op v p) t):PW X (.BoolOp op v p) t:=λd c s f H Q I q=>h c s f H Q I q
def Sj(I:Snd T C A k n)(e:Expr)(c:CE)(G:CtxOk T C A k b X)(h:fH T (n+1) b e c=aN):PT X e (tT X.K (evT C A (n+1) c)):=by
 let E:=fq G.room
 let dflt:evT C A (n+1) c=Gq (evE C A n c)->(aG T n b e c && M8 e)=aN->PT X e (tT X.K (evT C A (n+1) c)):=λU B=>by
  rw[U];let B:=an2 B;exact PT.imp (BI (I.e b X e c G B.1) (xm B.2)) λv H Q q=>MB q
 cases c with
 |m o a u=>let{l,r,p,rfl,f,J,h4}:=Dk h;exact PT.imp (FP (hX E o) (I.e b X l a G f) (I.e b X r u G J) (iT h4)) λv H Q q=>rD (RG q)
 |h o O a u d=>let{l,r,s,p,rfl,f,J,h4,L}:=Dm h;exact PT.imp (BH (hX E o) (hX E O) (I.e b X l a G f) (I.e b X r u G J) (I.e b X s d G h4) (n8 L)) λv H Q q=>CN (RG q)
 |d a u=>
  rcases De h with h |h
  .let{x,y,p,rfl,j,f}:=sr h;exact PT.imp (Bp (I.t b X x a G j) (FF (I.t b X y u G f))).pt λv H Q q=>CQ q
  .let{x,y,z,Y,p,rfl,j,f}:=su h;exact PT.imp (Bp (I.t b X x a G j) (yI (I.t b X _ u G f))).pt λv H Q q=>CQ q
 |or a u=>
  rcases De h with h |h
  .let{x,y,p,rfl,j,f}:=sr h;exact PT.imp (Ka (I.t b X x a G j) (Lz (I.t b X y u G f))).pt λv H Q q=>Ky q
  .let{x,y,z,Y,p,rfl,j,f}:=su h;exact PT.imp (Ka (I.t b X x a G j) (yI (I.t b X _ u G f))).pt λv H Q q=>Ky q
 |n a=>let{x,p,rfl,j}:=Dj h;exact PT.imp (LA (I.t b X x a G j)) λv H Q q=>MX q
 |ite _ _ _=>cases h
 |_=>exact dflt rfl h
def snd:∀n,Snd T C A k n
 |0=>{λb X e c _ h=>absurd h Zh,λb X e c _ _ h=>absurd h Zh,λb X e c _ h=>absurd h Zh,λb X e c _ h=>absurd h Zh,λB b X t e c _ h=>absurd h Zh,λb X e gs E d _ h=>absurd h Zh}
 |n+1=>{λb X e c G h=>Si (snd n) e c G h,λb X e c G f h=>Dq (snd n) e c G f h,λb X l j G h=>Sg (snd n) l j G h,λb X e c G h=>Sj (snd n) e c G h,λB b X t e c G h=>Sh (snd n) B t e c G h,λb X e gs E d G h=>Np (snd n) e gs E d G h}
end
inductive CS where |a (t:Tg)(e:CE) |j (v o i:CE) |ex (e:CE) |ret (e:CE) |i (c:CE)(a b:List CS) |f (t:Tg)(it:CI)(b:List CS) |g (c:CE)(b:List CS) |cnt |never
abbrev Hf:XS:=λ_ _=>aD
mutual
noncomputable def evS(C:Calls)(d:Nat->Nat):Nat->CS->XS
 |0,_=>Hf
 |n+1,s=>match s with
  |.a t e=>pL (evE C d n e) t
  |.j v o i=>ur (evE C d n v) (evE C d n o) (evE C d n i)
  |.ex e=>uq (evE C d n e)
  |.ret e=>CD (evE C d n e)
  |.i c a b=>xIf (evT C d n c) (eM C d n a) (eM C d n b)
  |.f t it b=>CF (evI C d n it) t (eM C d n b) LF
  |.g c b=>bH (evT C d n c) (eM C d n b) LF
  |.cnt=>RO
  |.never=>Hf
noncomputable def eM(C:Calls)(b:Nat->Nat):Nat->List CS->XS
 |0,_=>Hf
 |n+1,ss=>match ss with
  |[]=>Kv
  |s::ss=>CC (evS C b n s) (eM C b n ss)
end
abbrev Ds:Expr->Bool
 |.Starred _ _=>aN
 |_=>aS
abbrev ib(sc:Scope)(l:Nat)(T:List Expr):List Str:=T.filterMap λ
 |.Name id pos=>if sc.names.lookup id == aw .local && pos.line == l then aw id else aD
 |_=>aD
abbrev yJ(sc:Scope)(ts vs:List Expr):Option (Option (List Str)):=
 if (!(ts.length == 2 || ts.length == 3) || vs.length != ts.length)=aN then aw aD
 else if (vs.any Ds)=aN then aw aD
 else if ((ib sc ((ts.head?.map (·.pos.line)).getD 0) ts).length != ts.length || (ib sc ((ts.head?.map (·.pos.line)).getD 0) ts).eraseDups.length != (ib sc ((ts.head?.map (·.pos.line)).getD 0) ts).length)=aN then aw aD
 else if (vs.all (foldedForSure 8))=aN then aw aD
 else if (vs.all (constantsAlone 8))=aN then aD
 else aw (aw (ib sc ((ts.head?.map (·.pos.line)).getD 0) ts))
def Sk{k k2:Nat}(n:env.blockKind = .function)(hs:env.scope=sc)(h:yJ sc ts v=aw r):ZaR [.Tuple ts k p] (.Tuple v k2 p2) env=pure r:=by
 delta yJ at h;delta ZaR
 let f:(v.any λ|.Starred ..=>aN |_=>aS)=v.any Ds:=by
  congr 1
 let E:(ts.filterMap λ
   |.Name id pos=>if env.kindOf id == aw .local && pos.line == ((ts.head?.map (·.pos.line)).getD 0) then aw id else aD
   | _=>aD)=ib sc ((ts.head?.map (·.pos.line)).getD 0) ts:=by
  delta ib Env.kindOf;rw[hs]
 let j:(env.blockKind != .function)=aS:=by rw[n];rfl
 simp![j,Y9];split at h
 .rename_i d;rw[if_pos d];cases h;rfl
 rename_i d;rw[if_neg d];split at h
 .rename_i b;cases h;exact if_pos (f.trans b)
 rename_i b;calc Eq.trans (if_neg λz=>b (f.symm.trans z)) ?_;split at h
 .rename_i c;cases h;rw[<-E]at c;exact if_pos c
 rename_i c;rw[<-E]at c h;calc Eq.trans (if_neg c) ?_;split at h
 .rename_i C;cases h;exact if_pos C
 rename_i C;calc Eq.trans (if_neg C) ?_;split at h
 .cases h
 rename_i l;cases h;exact if_neg l
abbrev Dt:Expr->Option (Scope×Pos)
 |.ListComp _ _ s p=>aw (s,p)
 |.SetComp _ _ s p=>aw (s,p)
 |.DictComp _ _ _ s p=>aw (s,p)
 |_=>aD
abbrev swW(sc:Scope)(v:Expr)(t:Str)(b:Pos):Bool:=match Dt v with
 |none=>aS
 |some (s,p)=>sc.names.lookup t == aw .local && b.line == p.line && !(s.names.any λy=>y.1 == t && (y.2 == .local || y.2 == .cell))
def Nw{line:Nat}(h:env.blockKind = .function)(hs:env.scope=sc):ZaS v (aw (.Name t pos)) line env=pure (swW sc v t pos):=by
 delta ZaS swW Dt;let E:(env.blockKind == .function)=aN:=by rw[h];rfl
 cases v <;> first |rfl |(simp![E,YR,Env.kindOf,hs];rfl)
def uG{l:Nat}(h:∀x p,T≠.Name x p):ZaT [T] v l env=pure aS:=by
 show ZaS v (aw T) l env=pure aS;delta ZaS;cases v <;> first |rfl |(cases T <;> first |rfl |(exact absurd rfl (h _ _)))
def yK(h:(∀E k p,v≠.Tuple E k p)\/(∃x p,T = .Name x p)\/(∃o i p,T = .Subscript o i p)):ZaR [T] v env=pure aD:=by
 delta ZaR;rcases h with h |⟨x,p,rfl⟩ |⟨o,i,p,rfl⟩
 .split
  .rename_i e;split at e
   .exact absurd rfl (h _ _ _)
   .exact absurd rfl (h _ _ _)
   .cases e
  .rfl
 .rfl
 .rfl
abbrev nmL:List Expr->Option (List Str)
 |[]=>aw []
 |e::es=>match Dd e,nmL es with
  |some r,aw xs=>aw (r.1::xs)
  |_,_=>aD
def uH(h:nmL b=aw (x::xs)):∃p E,b = .Name x p::E/\nmL E=aw xs:=by
 cases b with
 |nil=>cases h
 |cons e b=>
  rw[nmL]at h;split at h
  .rename_i r y c d;cases h;exact{_,b,by rw[sg c],d}
  .cases h
def Hg(h:nmL E=aw []):E=[]:=by
 cases E with
 |nil=>rfl
 |cons e E=>
  rw[nmL]at h;split at h <;> cases h
abbrev tgL:List Tg->Option (List Nat)
 |[]=>aw []
 |.n i::ts=>match tgL ts with
  |some is=>aw (i::is)
  |none=>aD
 |.tup _::_=>aD
def Du:∀ {T:List Tg} {is:List Nat},tgL T=aw is->T=is.map Tg.n
 |[],_,h=>by cases h;rfl
 |.n i::T,is,h=>by
  rw[tgL]at h;cases e:tgL T with
  |none=>rw[e]at h;cases h
  |some js=>rw[e]at h;cases h;rw[Du e];rfl
 |.tup _::_,_,h=>by cases h
abbrev Sl(b:Blk)(ns:List Str)(is:List Nat):Bool:=match ns with
 | [x,y]=>(match is with
  |[i,j]=>b.N[i]? == aw x && b.N[j]? == aw y && i != j && b.sc.names.lookup x == aw .local && b.sc.names.lookup y == aw .local
  | _=>aS)
 |_=>aS
abbrev UJ(e:Expr):Bool:=ko e λ_ _ _ _=>aN
abbrev UK(e:Expr):Bool:=e.ctorIdx == 24
abbrev xo(T:Tab)(n:Nat)(b:Blk)(d e:Expr)(t:Tg)(c:CE):Bool:=match t with
 | .n i=>(match Dd d with
  |some r=>aG T n b e c && b.N[i]? == aw r.1 && b.own r.1 && (!(swW b.sc e r.1 r.2) || (UJ e && b.sc.names.lookup r.1 == aw .local))
  | none=>aS)
 | .tup gs=>(match AI d with
  | some r=>aG T n b e c && (match AI e with
   | some q=>(match yJ b.sc r.1 q.1 with
    |some aD=>nY b r.1 gs
    | some (aw ns)=>(match tgL gs with
     |some is=>nmL r.1 == aw ns && q.1.length == ns.length && Sl b ns is
     | none=>aS)
    | none=>aS)
   | none=>!(UK e) && nY b r.1 gs)
  | none=>aS)
abbrev yL(e:Stmt)(k:Option Expr->Pos->Bool):Bool:=if h:e.ctorIdx=3 then @Stmt.Return.elim (λ_=>Bool) e h k else aS
def AK(h:yL e k=aN):∃b X,e = .Return b X/\k b X=aN:=by
 let{c,h}:=bR h;exact Stmt.Return.elim (motive_2:=λe=>∀d,@Stmt.Return.elim (λ_=>Bool) e d k=aN->∃b X,e = .Return b X/\k b X=aN) e c (λb X _ f=>⟨b,X,rfl,f⟩) c h
abbrev sv(e:Stmt)(k:List Expr->Expr->Pos->Bool):Bool:=if h:e.ctorIdx=5 then @Stmt.Assign.elim (λ_=>Bool) e h k else aS
def qE(h:sv e k=aN):∃c X b,e = .Assign c X b/\k c X b=aN:=by
 let{d,h}:=bR h;exact Stmt.Assign.elim (motive_2:=λe=>∀f,@Stmt.Assign.elim (λ_=>Bool) e f k=aN->∃c X b,e = .Assign c X b/\k c X b=aN) e d (λc X b _ j=>⟨c,X,b,rfl,j⟩) d h
abbrev So(e:Stmt)(k:Expr->Expr->List Stmt->List Stmt->Pos->Bool):Bool:=if h:e.ctorIdx=9 then @Stmt.For.elim (λ_=>Bool) e h k else aS
def Nx(h:So e k=aN):∃d X c b f,e = .For d X c b f/\k d X c b f=aN:=by
 let{j,h}:=bR h;exact Stmt.For.elim (motive_2:=λe=>∀l,@Stmt.For.elim (λ_=>Bool) e l k=aN->∃d X c b f,e = .For d X c b f/\k d X c b f=aN) e j (λd X c b f _ n=>⟨d,X,c,b,f,rfl,n⟩) j h
abbrev Dv(e:Stmt)(k:Expr->List Stmt->List Stmt->Pos->Bool):Bool:=if h:e.ctorIdx=11 then @Stmt.While.elim (λ_=>Bool) e h k else aS
def Dx(h:Dv e k=aN):∃d X c b,e = .While d X c b/\k d X c b=aN:=by
 let{f,h}:=bR h;exact Stmt.While.elim (motive_2:=λe=>∀j,@Stmt.While.elim (λ_=>Bool) e j k=aN->∃d X c b,e = .While d X c b/\k d X c b=aN) e f (λd X c b _ l=>⟨d,X,c,b,rfl,l⟩) f h
abbrev jIf(e:Stmt)(k:Expr->List Stmt->List Stmt->Pos->Bool):Bool:=if h:e.ctorIdx=12 then @Stmt.If.elim (λ_=>Bool) e h k else aS
def Sq(h:jIf e k=aN):∃d X c b,e = .If d X c b/\k d X c b=aN:=by
 let{f,h}:=bR h;exact Stmt.If.elim (motive_2:=λe=>∀j,@Stmt.If.elim (λ_=>Bool) e j k=aN->∃d X c b,e = .If d X c b/\k d X c b=aN) e f (λd X c b _ l=>⟨d,X,c,b,rfl,l⟩) f h
abbrev KS(e:Stmt)(k:Expr->Pos->Bool):Bool:=if h:e.ctorIdx=24 then @Stmt.Expr.elim (λ_=>Bool) e h k else aS
def Hh(h:KS e k=aN):∃b X,e = .Expr b X/\k b X=aN:=by
 let{c,h}:=bR h;exact Stmt.Expr.elim (motive_2:=λe=>∀d,@Stmt.Expr.elim (λ_=>Bool) e d k=aN->∃b X,e = .Expr b X/\k b X=aN) e c (λb X _ f=>⟨b,X,rfl,f⟩) c h
abbrev qF(e:Stmt)(k:Pos->Bool):Bool:=if h:e.ctorIdx=27 then @Stmt.Continue.elim (λ_=>Bool) e h k else aS
def uI(h:qF e k=aN):∃X,e = .Continue X/\k X=aN:=by
 let{b,h}:=bR h;exact Stmt.Continue.elim (motive_2:=λe=>∀c,@Stmt.Continue.elim (λ_=>Bool) e c k=aN->∃X,e = .Continue X/\k X=aN) e b (λX _ d=>⟨X,rfl,d⟩) b h
abbrev sx(e:Expr):Bool:=e.ctorIdx == 8 || e.ctorIdx == 9 || e.ctorIdx == 10
abbrev Sr(k:Expr->Expr->Bool)(s:Stmt):Bool:=sv s λT v _=>l1 T λb=>k b v
abbrev KU(k l m:Expr->Bool)(s:Stmt):Bool:=sv s λT z _=>l1 T λb=>dH b λx y _=>k z && l x && m y && aF y
abbrev zEx(k:Expr->Bool)(s:Stmt):Bool:=KS s λv _=>k v && !(sx v)
abbrev Ss(k:Expr->Bool)(s:Stmt):Bool:=yL s λv _=>oA v k
abbrev zIf(k:Expr->Bool)(l m:List Stmt->Bool)(s:Stmt):Bool:=jIf s λt p q _=>k t && l p && m q
abbrev Su(k:Expr->Expr->Bool)(l:List Stmt->Bool)(s:Stmt):Bool:=So s λT i p q _=>q.isEmpty && k T i && l p
abbrev Dy(k:Expr->Bool)(l:List Stmt->Bool)(s:Stmt):Bool:=Dv s λt p q _=>q.isEmpty && k t && l p
abbrev Sv(s:Stmt):Bool:=qF s λ_=>aN
section
variable {s:Stmt} {k l m:Expr->Bool}
def Ny{k:Expr->Expr->Bool}(h:Sr k s=aN):∃T v p,s = .Assign [T] v p/\k T v=aN:=by
 let{b,v,p,rfl,h}:=qE h;let{T,rfl,h}:=iS h;exact⟨T,v,p,rfl,h⟩
def Hi(h:KU k l m s=aN):∃x y q z p,s = .Assign [.Subscript x y q] z p/\k z=aN/\l x=aN/\m y=aN/\aF y=aN:=by
 let{T,v,p,rfl,h}:=qE h;let{b,rfl,h}:=iS h;let{x,y,q,rfl,h}:=dm h;exact{x,y,q,v,p,rfl,an4 h}
def Sw(h:zEx k s=aN):∃v p,s = .Expr v p/\k v=aN/\sx v=aS:=by
 let{v,p,rfl,h}:=Hh h;let{c,b}:=an2 h;exact{v,p,rfl,c,by cases e:sx v;rfl;rw[e]at b;cases b}
def Nz(h:Ss k s=aN):∃v p,s = .Return (aw v) p/\k v=aN:=by
 let{v,p,rfl,h}:=AK h;let{v,rfl,h}:=AJ h;exact⟨v,p,rfl,h⟩
def Sx{l m:List Stmt->Bool}(h:zIf k l m s=aN):∃t p q r,s = .If t p q r/\k t=aN/\l p=aN/\m q=aN:=by
 let{t,p,q,r,rfl,h}:=Sq h;exact{t,p,q,r,rfl,an3 h}
def NA{k:Expr->Expr->Bool}{l:List Stmt->Bool}(h:Su k l s=aN):∃T i p q,s = .For T i p [] q/\k T i=aN/\l p=aN:=by
 let{T,i,p,q,r,rfl,h}:=Nx h;let{b,z}:=an3 h;cases fG b;exact⟨T,i,p,r,rfl,z⟩
def Dz{l:List Stmt->Bool}(h:Dy k l s=aN):∃t p q,s = .While t p [] q/\k t=aN/\l p=aN:=by
 let{t,p,q,r,rfl,h}:=Dx h;let{b,z}:=an3 h;cases fG b;exact⟨t,p,r,rfl,z⟩
def NB(h:Sv s=aN):∃p,s = .Continue p:=by let{p,rfl,_}:=uI h;exact⟨p,rfl⟩
end
mutual
noncomputable def Sy(T:Tab):Nat->Blk->Stmt->CS->Bool
 |0,_,_,_=>aS
 |n+1,b,s,c=>match c with
  |.a t e=>Sr (λd v=>xo T n b d v t e) s
  |.j v o i=>KU (λx=>aG T n b x v) (λx=>aG T n b x o) (λx=>aG T n b x i) s
  |.ex e=>zEx (λx=>aG T n b x e) s
  |.ret e=>Ss (λx=>aG T n b x e) s
  |.i c x y=>zIf (λe=>fH T n b e c) (λp=>oh T n b p x) (λp=>oh T n b p y) s
  |.f t it x=>Su (λd i=>uC T n b d i it && xh b d t) (λp=>oh T n b p x) s
  |.g c x=>Dy (λe=>fH T n b e c) (λp=>oh T n b p x) s
  |.cnt=>Sv s
  |.never=>aN
noncomputable def oh(T:Tab):Nat->Blk->List Stmt->List CS->Bool
 |0,_,_,_=>aS
 |n+1,b,ss,cs=>match cs with
  |[]=>ss.isEmpty
  |c::cs=>lC ss λs ss=>Sy T n b s c && oh T n b ss cs
end
section
variable {T:Tab} {C:Calls} {l:Nat->Nat} {k n:Nat} {b:Blk} {X:Cx}
def Hj{c:Nat}(h:aG T (n+1) b (.Tuple E c p) (.tup d)=aN):fm T n b E d=aN:=h
def DA{j:Nat}(h:aG T (n+1) b (.Tuple q j p) c=aN):∃cs,c = .tup cs:=by
 cases c with
 |tup cs=>exact⟨cs,rfl⟩
 |o own E d=>
  cases d with
  |nil=>exact absurd h Zh
  |cons g f=>let{u,I,cond}:=g;exact absurd h Zh
 |_=>exact absurd h Zh
def oj:∀ (h:List Tg) (f:List D) (j c:Rho),aO h f j=aw c->h.length=f.length
 |[],[],_,_,_=>rfl
 |[],_::_,_,_,e=>by simp[aO]at e
 |_::_,[],_,_,e=>by simp[aO]at e
 |t::h,d::f,j,c,e=>by
  simp![aO]at e;split at e
  .simp[oj _ _ _ _ e]
  .cases e
def DB{K:VX}{x:XA}{u:List Tg}{D:Ends}{y:L2.St}{H:Hp}(h:tSt K (pL (m8 ng x) (.tup u)) D y H):tAr K x y H λB H1=>∃m1 d f j,EnvR K m1 H1 d y/\VDs K m1 H1 j B/\aO u j d=aw f/\∀c,EnvR K m1 H1 f c->D.nx c H1:=by
 let{m,d,S,O,f,U,E,R,e,q}:=h;delta pL at e;cases v:m8 ng x d S with
 |none=>rw[v]at e;cases e
 |some r=>
  rw[v]at e;let{j,Q,L,p}:=ac v;delta ng at p;split at p
  .cases p;dsimp! at e;simp![aA]at e;cases hb:aO u j d with
   |none=>rw[hb]at e;cases e
   |some J=>
    rw[hb]at e;cases e;exact{m,d,S,j,_,E,R,L,λm1 H1 B z vd=>{m1,d,_,j,E.mono R z.ext,vd,hb,λc I=>q m1 H1 z c I}}
  .cases p
def DC{K:VX}{x:XA}{j:L2.St}{H:Hp}{Q Q':List V->Hp->Prop}(h:tAr K x j H Q)(f:∀v c,Q v c->Q' v c):tAr K x j H Q':=by
 let{m,y,S,d,u,E,R,e,q}:=h;exact{m,y,S,d,u,E,R,e,λp c v A vd=>f _ _ (q p c v A vd)}
def DD{f c:Rho}{i:Nat}{d:D}(h:(if i < f.length then aw (f.set i (aw d)) else aD)=aw c):c=f.set i (aw d):=by
 split at h
 .cases h;rfl
 .cases h
def Hk{K:VX}{x:XA}{i j:Nat}{D:Ends}{d:L2.St}{H:Hp}(h:tSt K (pL (m8 ng x) (.tup [.n i,.n j])) D d H):Re i j (tAr K x) D d H:=by
 calc DC (DB h) λL J ⟨m1,O,B,z,E,vd,e,q⟩=>?_;let I:=oj _ _ _ _ e
 match z,I with
 |[a,c],_=>
  let{v,w,rfl,u,f}:=wM vd;calc{v,w,rfl,q _ ?_};simp![aO,aA]at e;split at e
  .rename_i r1 p;let:=DD p;subst this;split at e
   .rename_i r2 y;let:=DD y;subst this;cases e;exact(E.set u).set f
   .cases e
  .cases e
def DE(h:aG T (n+1) b (.ListComp e gs d p) c=aN):∃own E u it cond f t i ifs j,c = .o own E (⟨u,it,cond⟩::f)/\gs=⟨t,i,ifs,0⟩::j ∧
  cmB own (nX own b.N) b.N d b.sc=aN/\uC T n b t i it=aN/\xh (b.inner own d) t u=aN/\Dp (fH T n (b.inner own d)) ifs cond=aN/\qB T n (b.inner own d) e j E f=aN:=by
 cases c with
 |o own E v=>
  .let{u,it,cond,f,rfl,I}:=KR h;let{Q,t,i,ifs,j,q,U,z,B}:=yF I;cases z;let{O,y,J,L,h4}:=an5 B;exact⟨own,E,u,it,cond,f,t,i,ifs,j,rfl,rfl,O,y,J,L,h4⟩
 |_=>exact absurd h Zh
end
section
variable {T:Tab} {C:Calls} {A:Nat->Nat} {k n:Nat} {b:Blk} {X:Cx}
def Hl(h:X.env.scope.kind = .function):X.env.blockKind = .function:=by
 delta Env.blockKind;rw[h];rfl
def Hm{c:Type}{l:List c}(h:l.length=2):∃a b,l=[a,b]:=by
 match l,h with
 |[a,b],_=>exact⟨a,b,rfl⟩
def NC(G:CtxOk T C A k b X)(hk:X.env.scope.kind = .function){tg e:Expr}{t:Tg}{c:CE}{p:Pos}(h:xo T n b tg e t c=aN):PS X (.Assign [tg] e p) (tSt X.K (pL (evE C A n c) t)):=by
 let hb:=Hl hk;delta xo at h;cases t with
 |n i=>
  dsimp! at h;cases u:Dd tg with
  |none=>rw[u]at h;cases h
  |some r=>
  let{x,px}:=r;rw[u]at h;rw[sg u];simp![bAE]at h;let{⟨⟨E,h2⟩,d⟩,h4}:=h;let hi:X.N[i]?=aw x:=by rw[G.hN];simpa using h2
  let nd:X.N.Nodup:=by rw[G.hN];exact G.nd
  let o:=G.own d;let sw:=Nw (sc:=b.sc) (v:=e) (t:=x) (pos:=px) (line:=p.line) hb G.hs;cases B:swW b.sc e x px with
  |false=>
   rw[B]at sw;exact PS.imp (LK nd hi o.1 ((snd n).e b X e c G E) sw o.2) λD σ H q=>mh (w5 q) λv H' z=>rY z
  |true=>
   rw[B]at h4 sw;simp![Xp,Wg,bAE]at h4;let{h5,h4}:=h4;let{el,gs,f,pp,rfl,_}:=kY h5
   .cases n with
    |zero=>exact absurd E Zh
    |succ n=>
     let{own,Z,tg',it,cond,I,tt,ii,ifs,gs',rfl,rfl,c0,c1,c2,c3,c4}:=DE E;let S:CmScope own (nX own b.N) b.N f b.sc:=B5 _ c0;let S':CmScope own (nX own b.N) X.N f X.env.scope:=by rw[G.hN,G.hs];exact S
     let hpl:=hZ c1 (λe he env=>fI he) X.env;let u:X.env.scope.names.lookup x=aw .local:=by rw[G.hs];simpa using h4
     refine PS.imp (F7 (g:=tTg X.K tg') (ti:=ifT C A n X.K cond) (t:=λl=>tCl X.K l (il C A n Z I)) G.calm S' nd hi u ((snd n).i [] b X tt ii it G c1) (λU ex s H=>ia (G.inner S (C':=U) (ex:=ex) (s:=s) (H:=H)) c2) (λU ex s H=>n9 (snd n) (G.inner S (C':=U) (ex:=ex) (s:=s) (H:=H)) c3)
      (λU ex s H l=>(snd n).cl _ _ el gs' Z I (G.inner S (C':=U) (ex:=ex) (s:=s) (H:=H)) c4 _ f pp l 0 rfl) sw hpl) λD σ H q=>?_
     exact yv (λl D σ H z=>xn z) (ud (mh (w5 q) λv H' z=>rY z))
 |tup gs=>
  dsimp! at h;cases u:AI tg with
  |none=>rw[u]at h;cases h
  |some r=>
  let{J,L,pt}:=r;rw[u]at h;rw[si u];simp![bAE]at h;let{E,d}:=h;let so:ZaT [.Tuple J L pt] e p.line X.env=pure aS:=uG λx p z=>nomatch z
  let plain:∀ (B:ZaR [.Tuple J L pt] e X.env=pure aD) (hg:nY b J gs=aN),PS X (.Assign [.Tuple J L pt] e p) (tSt X.K (pL (evE C A n c) (.tup gs))):=λB hg=>
   PS.imp (BA ((snd n).e b X e c G E) (ia G (e:=.Tuple J L pt) (t:=.tup gs) hg) so B rfl) λD σ H q=>w5 q
  cases Q:AI e with
  |none=>
   rw[Q]at d;simp![bAE]at d;exact plain (yK (.inl λes k p z=>by rw[z]at Q;cases Q)) d.2
  |some q=>
   let{es,ke,pe}:=q;rw[Q]at d;obtain rfl:=si Q;cases n with
   |zero=>exact absurd E Zh
   |succ n=>
    let{cs,rfl}:=DA E;let ha:=Hj E;dsimp! at d;cases hr:yJ b.sc J es with
    |none=>rw[hr]at d;cases d
    |some w=>
     let B:=Sk (k:=L) (p:=pt) (k2:=ke) (p2:=pe) hb G.hs hr;rw[hr]at d;cases w with
     |none=>exact plain B d
     |some ns=>
      dsimp! at d;cases ht:tgL gs with
      |none=>rw[ht]at d;cases d
      |some is=>
       rw[ht]at d;simp![bAE]at d;let{⟨Y,O⟩,d}:=d;let hn:nmL J=aw ns:=by simpa using Y
       let hl:es.length=ns.length:=by simpa using O
       clear Y O;obtain rfl:=Du ht;delta Sl at d;split at d
       .rename_i x y;split at d
        .rename_i i j;let{p1,t1,rfl,hn1}:=uH hn;let{p2,t2,rfl,hn2}:=uH hn1;obtain rfl:=Hg hn2;let{a1,a2,rfl}:=Hm hl;simp![bAE]at d;let{⟨⟨⟨q2,q3⟩,q4⟩,q5⟩,q6}:=d;exact PS.imp (LL (i:=i) (j:=j) G.calm (by rw[G.hN];exact G.nd) (by rw[G.hN];simpa using q2) (by rw[G.hN];simpa using q3) (by simpa using q4) (by rw[G.hs];simpa using q5) (by rw[G.hs];simpa using q6) ((snd n).a b X _ cs G ha) B so) λD σ H q=>Hk q
        .cases d
       .cases d
def DF{l:Nat}(h:sx v=aS):ZaS v aD l X.env=pure aS:=by
 delta ZaS;cases v <;> first |rfl |(exact absurd h (λz=>Zh z.symm))
structure SndS(T:Tab)(C:Calls)(A:Nat->Nat)(k n:Nat):Prop where
 s:∀ (b:Blk) (X:Cx) (s:Stmt) (c:CS),CtxOk T C A k b X->X.env.scope.kind = .function->Sy T n b s c=aN->PS X s (tSt X.K (evS C A n c))
 ss:∀ (b:Blk) (X:Cx) (s:List Stmt) (c:List CS),CtxOk T C A k b X->X.env.scope.kind = .function->oh T n b s c=aN->PSs X s (tSt X.K (eM C A n c))
def Sz{K:VX}{D:Ends}{c:L2.St}{H:Hp}(h:tSt K Hf D c H):False:=by
 let{m,j,S,l,d,f,E,R,e,q}:=h;cases e
def SA:∀n,SndS T C A k n
 |0=>{λb X s c _ _ h=>absurd h Zh,λb X s c _ _ h=>absurd h Zh}
 |n+1=>by
  let I:=SA n;refine{λb X s c G l h=>?_,λb X ss u G l h=>?_}
  .let E:PassesOwn (model X.prog X.w) X.A X.env X.xe:=by rw[G.xe];exact PassesOwn.never
   cases c with
   |a t e=>let{Q,v,p,rfl,d}:=Ny h;exact NC G l d
   |j v o i=>
    let{x,y,Y,z,p,rfl,d,j,B,J}:=Hi h
    exact PS.imp (BA ((snd n).e b X z v G d) (LJ ((snd n).e b X x o G j) ((snd n).e b X y i G B) (RK (fq G.room)) (λv=>by
     cases y <;> first | rfl | (exact absurd J Zh))) (uG λx p z=>nomatch z) (yK (.inr (.inr ⟨_,_,_,rfl⟩))) rfl) λD f H q=>GK q
   |ex e=>let{v,p,rfl,d,j}:=Sw h;exact PS.imp (FI ((snd n).e b X v e G d) (DF j)) λD f H q=>GJ q
   |ret e=>let{v,p,rfl,d}:=Nz h;exact PS.imp (Bv ((snd n).e b X _ _ G d)) λD f H q=>MN q
   |i c x y=>let{t,p,q,r,rfl,d,j,B}:=Sx h;exact PS.imp (Q9 ((snd n).t b X _ _ G d) (I.ss b X _ _ G l j) (I.ss b X _ _ G l B)) λD f H q=>RP q
   |f t U x=>
    let{Q,i,p,O,rfl,d,j}:=NA h;let d:=an2 d;exact PS.imp (LN E G.calm ((snd n).i [] b X _ _ _ G d.1) (ia G d.2) (I.ss b X _ _ G l j) (hZ d.1 (λe L env=>fI L) X.env)) λD f H q=>MP q
   |g c x=>let{t,p,q,rfl,d,j}:=Dz h;exact PS.imp (BD E ((snd n).t b X _ _ G d) (I.ss b X _ _ G l j)) λD f H q=>CG q
   |cnt=>let{p,rfl}:=NB h;exact PS.imp tG λD f H q=>MO q
   |never=>exact PS.imp Bw λD f H q=>(Sz q).elim
  .cases u with
   |nil=>rw[fG h];exact PSs.imp FG λD f H q=>GI q
   |cons c u=>
    let{s,ss,rfl,h}:=fj h;let h:=an2 h;exact PSs.imp (Bu (I.s b X s c G l h.1) (I.ss b X ss u G l h.2)) λD f H q=>MM q
end
structure DefE where
 x:Str
 st:Stmt
 N:List Str
 ps:List Str
 body:List CS
 ks:Option (CE×Pos×Str):=aD
abbrev FU:Nat:=60
abbrev cu(ab:List DefE)(f:Nat):Nat:=match ab[f]? with
 |some d=>d.ps.length
 |none=>0
abbrev ND(C:Calls)(c:Nat->Nat)(d:DefE)(b:List D)(S:Sto):Option (D×Sto):=
 match eM C c FU d.body (b.map aw++ZP (d.N.length - b.length) aD) S with
 |some (.rt v,_,S')=>aw (v,S')
 |some (.nx,_,S')=>aw (.non,S')
 |_=>aD
abbrev KW:D->Option (List Int)
 |.tup ds=>cP ds
 |_=>aD
abbrev qG:List D->Option (List (List Int))
 |[]=>aw []
 |d::ds=>match KW d,qG ds with
  |some l,aw ls=>aw (l::ls)
  |_,_=>aD
abbrev c9{α:Type}(ls:List (List Int))(d:α)(v:List α):List α:=if v.length < 2 then v else (bV (λi j=>cS (eK ls i) (eK ls j)) (V4 v.length)).toList.map λi=>v.getD i d
abbrev xq(x:Str)(p:Pos)(q:Str)(n:Nat)(S:Sto)(ls:List (List Int))(E:List D):Prop:=S[1]?=aw (.tbl x p q)/\S[n]?=aw (.lst E)/\qG E=aw ls/\E.length < 64
open Classical in
abbrev DG(C:Calls)(c:Nat->Nat)(d:DefE)(z:CE×Pos×Str)(b:List D)(S:Sto):Option (D×Sto):=
 match evE C c FU z.1 (b.map aw++ZP (d.N.length - b.length) aD) S with
 |some (.ref n,S1)=>if h:∃l E,xq d.x z.2.1 z.2.2 n S1 l E then aw (.ref S1.length,S1++[.lst (c9 h.choose .non h.choose_spec.choose)]) else aD
 |_=>aD
def Ho{x:Str}{p:Pos}{q:Str}{n:Nat}{S:Sto}{ls l:List (List Int)}{E es':List D}(h:xq x p q n S ls E)(h':xq x p q n S l es'):ls=l/\E=es':=by
 let{_,a,b,_}:=h;let{_,c,B,_}:=h';rw[a]at c;cases c;rw[b]at B;cases B;exact⟨rfl,rfl⟩
def Hq{C:Calls}{j:Nat->Nat}{d:DefE}{z:CE×Pos×Str}{f:List D}{S c:Sto}{n:Nat}{ls:List (List Int)}{es:List D}(e:evE C j FU z.1 (f.map aw++ZP (d.N.length - f.length) aD) S=aw (.ref n,c))(h:xq d.x z.2.1 z.2.2 n c ls es):DG C j d z f S=aw (.ref c.length,c++[.lst (c9 ls .non es)]):=by
 delta DG;rw[e];dsimp!;let l:∃ls es,xq d.x z.2.1 z.2.2 n c ls es:=⟨ls,es,h⟩;rw[dif_pos l];let{p,E}:=Ho l.choose_spec.choose_spec h;let k:∀ (a:List (List Int)) (b:List D),a=ls->b=es->aw (D.ref c.length,c++[Ob.lst (c9 a .non b)])=aw (.ref c.length,c++[.lst (c9 ls .non es)]):=by rintro _ _ rfl rfl;rfl
 exact k _ _ p E
def NF{C:Calls}{f:Nat->Nat}{d:DefE}{z:CE×Pos×Str}{c:List D}{S h:Sto}{v:D}(e:DG C f d z c S=aw (v,h)):∃n b ls E,evE C f FU z.1 (c.map aw++ZP (d.N.length - c.length) aD) S=aw (.ref n,b)/\xq d.x z.2.1 z.2.2 n b ls E/\v = .ref b.length/\h=b++[.lst (c9 ls .non E)]:=by
 delta DG at e;split at e
 .rename_i n b k;split at e
  .rename_i j;cases e;exact⟨n,b,_,_,k,j.choose_spec.choose_spec,rfl,rfl⟩
  .cases e
 .cases e
abbrev evC(ab:List DefE):Nat->Calls
 |0=>λ_ _ _=>aD
 |k+1=>λf b S=>match ab[f]? with
  | some d=>(match d.ks with
   |none=>ND (evC ab k) (cu ab) d b S
   | some z=>if 3<=k then DG (evC ab k) (cu ab) d z b S else aD)
  |none=>aD
abbrev uJ(N ps:List Str)(sc:Scope):Bool:=sc.kind == .function && sc.isCoroutine == aS && sc.isGenerator == aS && j7 N && N.take ps.length == ps && (ps.all λx=>sc.names.lookup x == aw .local || sc.names.lookup x == aw .cell) && sc.names.all λy=>y.2 != .free
def sy{N ps:List Str}{sc:Scope}(h:uJ N ps sc=aN):FnScope N ps sc:=by
 delta uJ at h;simp![bAE,Yc]at h;let{⟨⟨⟨⟨⟨d,l⟩,k⟩,h4⟩,b⟩,f⟩,n}:=h;calc{by simpa using d,by simpa using l,by simpa using k,jq h4,by simpa using b,λx c=>?_,λy j=>by simpa using n y j};let:=f x c
 simpa using this
abbrev Hr(T:Tab)(d:DefE):Bool:=d.ks.isSome || uJ d.N d.ps (aH d.st) && oh T FU {aH d.st,aD,d.N} (b9 d.st) d.body
open PySem.W (CodeHd kla_fn) in
structure SrtOk(Tb:Tab)(d:DefE)(z:CE×Pos×Str):Prop where
 ex:∃ (x:Str) (params:W6) (scope:Scope) (e:Expr) (p kp pos p1 p2 p3 p4 p5 rp:Pos) (cx:Nat),
  b9 d.st=[.Return (aw (.Call (.Name "sorted" p) [e] [{aw "key",.Lambda params (uy x p1 p2 p3 p4 p5 cx) scope z.2.1,kp}] pos)) rp] ∧
  aG Tb FU {aH d.st,aD,d.N} e z.1=aN/\(aF e && ({aH d.st,aD,d.N}:Blk).glo "sorted" && uJ d.N d.ps (aH d.st) && uJ [x] [x] scope && (scope.names.lookup x == aw .local) && (scope.names.lookup ("len" : Str) == aw NameKind.globalImplicit) && !(x == ("__debug__" : Str)) && !(x == ("__classdict__" : Str)))=aN ∧
  (∀pm c' ctv u,No (kla_fn "<lambda>" z.2.2 params (uy x p1 p2 p3 p4 p5 cx) scope [] pm (.ref c') ctv) ⟨[u],[]⟩=pure [(x,u)]) ∧
  (∀L f cd,z.2.2=(envOfC d.x (aH d.st) L f cd).qual ++ "<lambda>")/\(∀env,Zaf scope env=pure [])/\(∀env,Zal params env=([],[]))
abbrev SB(base:Heap)(mg:Str->Option Value)(f:VH):Prop:=∃c T,f.code = .ref c/\VW base c T/\base.BuiltinsAt mg T/\Zav≠T
abbrev UL(st:Stmt):Pos:=match b9 st with
 |[.Return (aw (.Call _ _ [{_,.Lambda _ _ _ p,_}] _)) _]=>p
 |_=>⟨0,0,0,0⟩
abbrev Hs(con:List (Str×Int))(ab:List DefE):Prop:=∀d∈ab,∀z,d.ks=aw z->SrtOk ({con,ab.map λd=>(d.x,d.ps.length)}) d z
def Ht{con:List (Str×Int)}{ab:List DefE}{f:Nat}{dz:DefE}{z:CE×Pos×Str}(l:ab[f]?=aw dz)(p:dz.ks=aw z)(k:(ab.take f++ab.drop (f+1)).all (λd=>d.ks.isNone)=aN)(O:SrtOk ({con,ab.map λd=>(d.x,d.ps.length)}) dz z):Hs con ab:=λd hd y c=>by
 let{j,b}:=YF hd;by_cases e:j=f
 .subst e;rw[l]at b;cases b;rw[p]at c;cases c;exact O
 .let n:d∈ab.take f++ab.drop (f+1):=by
   rcases Nat.lt_or_gt_of_ne e with h |h
   .exact ZW _ (Zd (i:=j) (by rw[XJ h];exact b))
   .exact ZB _ (Zd (i:=j - (f+1)) (by rw[List.getElem?_drop,show f+1+(j - (f+1))=j by lia];exact b))
  let:=Yc.mp k d n;rw[c]at this;cases this
abbrev yM(con:List (Str×Int))(ab:List DefE):Tab:={con,ab.map λd=>(d.x,d.ps.length)}
structure TextOk(K:VX)(mg:Str->Option Value)(con:List (Str×Int))(ab:List DefE):Prop where
 con:∀ (i:Nat) (x:Str) (v:Int),con[i]?=aw (x,v)->∃tk,mg x=aw (.int v tk)
 bl:∀x,x∈gz->mg x=aD
 fn:∀ (i:Nat) (d:DefE),ab[i]?=aw d->∃f fd,mg d.x=aw (.ref f)/\V8 K (.ref f)=aN/\pZ K fd d.ps []/\Fun K d.x d.x d.st f fd
section
variable {P:Program} {w:World} {K:VX} {M:Str->Option Value} {base:Heap} {con:List (Str×Int)} {ab:List DefE}
def Hu{f:Addr}{k:VH}{ps:List Str}{i n:Nat}:FnOk P w K M base CX0 0 f k ps (spC K (evC ab 0 i) n):=
 {λv H Q E h=>(by let{m,j,S,d,c,_,_,_,e,_}:=h;cases e),λA outer s H b u v Q E _ _ _ _ h=>(by let{m,j,S,d,c,_,_,_,e,_}:=h;cases e)}
def qH{m:List Addr}{H:Hp}{N:List Str}{b:List D}{c:List V}(vd:VDs K m H b c):EnvR K m H (b.map aw++ZP (N.length - b.length) aD) (L2.fb N c):=by
 let k:=vd.length;delta L2.fb;calc{by simp[k],λi d e=>?_};by_cases hi:i < b.length
 .rw[Zt (by simpa using hi),Zq]at e;cases h:b[i]? with
  |none=>rw[h]at e;cases e
  |some l=>
   rw[h]at e;cases e;let{v,j,f}:=vd.get h;exact{v,by rw[Zt (by simp;omega),Zq,j];rfl,f}
 .rw[Zp (by simpa using hi),YH]at e;split at e <;> cases e
def yN{m:List Addr}{H:Hp}:∀ {c:List D} {b:List V} {ls:List (List Int)},qG c=aw ls->VDs K m H c b->LotsV H b ls
 |[],b,ls,e,h=>by cases e;rw[VDs]at h;subst h;exact .nil
 |d::c,b,ls,e,h=>by
  rw[VDs]at h;let{v,r,rfl,k,n}:=h;simp![qG]at e;split at e
  .rename_i l L E j;cases e;cases d with
   |tup q=>
    let{a,X,rfl,p,f}:=k.tups;let:=cQ E;subst this;let:=bO f;subst this;exact .cons p (yN j n)
   |_=>cases E
  .cases e
def Rel.tabs{m:List Addr}{S:Sto}{H H2:Hp}{x:Str}{d:Pos}{Q:Str}{T:Addr}{ps:Array Value}(R:Rel K m S H)(u:S[1]?=aw (.tbl x d Q))(c:m[1]?=aw T)(B:FZ K x T)(J:TabOk T d Q H2 ps)(kp:∀b o,b≠T->H b=aw o->H2 b=aw o):Aft K m H S m H2:=by
 let Y:T∈m:=Zd c;let X:Ext m H m H2:={Yp m,λb o e n=>kp b o (λz=>n (z▸Y)) e,λb z n=>absurd z n};calc{X,R.len,R.nd,λi o e=>?_};let{b,hb,r}:=R.ob i o e;by_cases hi:i=1
 .subst hi;rw[c]at hb;cases hb;rw[u]at e;cases e;exact⟨T,c,B,ps,J⟩
 .let nb:b≠T:=λz=>by
   subst z;let U:=Zb.mp c;let O:=Zb.mp hb;exact hi ((Y1 R.nd).mp (O.2.trans U.2.symm))
  calc{b,hb,?_};let{T',h,_,pz,Z}:=R.ob 1 _ u;rw[c]at h;cases h;cases o with
  |lst j=>let{v,p,q}:=r;exact{v,kp _ _ nb p,VDs.mono R X q}
  |frz j=>let{o,v,p,q}:=r;exact{o,v,kp _ _ nb p,VDs.mono R X q}
  |dic ks j=>let{v,p,l,q}:=r;exact{v,kp _ _ nb p,l,VDs.mono R X q}
  |dfz ks j=>let{o,v,p,l,q}:=r;exact{o,v,kp _ _ nb p,l,VDs.mono R X q}
  |tbl y p' q'=>
   let{e1,k,z}:=r;calc{e1,k,kp _ _ nb z.at_,z.tr,λE I=>?_};let{C,L,f}:=z.cd E I;exact{C,L,kp _ _ (λy=>by rw[y,Z.at_]at f;cases f) f}
def NG{k:Nat}{f:Addr}{fd:VH}{i:Nat}{d:DefE}{z:CE×Pos×Str}{Tb:Tab}(hz:d.ks=aw z)(hk:3<=k)(F:Fun K d.x d.x d.st f fd)(h0:SB base M fd)(O:SrtOk Tb d z)(KX:K.In base)(hd:ab[i]?=aw d)
  (ctx:∀ (j:Value) (A:Around) (outer:List Env) (s:Shared) (H:Hp) (E:XK),d.N.Nodup->Room k (A.deeper (envOfC d.x (aH d.st) s⁻¹ f j))->CtxOk Tb (evC ab k) (cu ab) k {aH d.st,aD,d.N} (jj CX0 P w K M base d.N d.x (aH d.st) f j A outer s H E).nox) (bl:∀x,x∈gz->M x=aD) :
  FnOk P w K M base CX0 (k+1) f fd d.ps (spC K (evC ab (k+1) i) d.ps.length):=by
 let{c,T,hc,C,hb,hgT}:=h0;let{x,l,I,e,p,kp,pos,p1,p2,p3,p4,p5,rp,cx,eb,ce,bs,bd,eq,cl,df}:=O.ex;simp![bAE,beq_iff_eq,Bool.not_eq_true']at bs;let{⟨⟨⟨⟨⟨⟨pe,gs⟩,fs⟩,ls⟩,l1⟩,l2⟩,d1⟩,d2}:=bs;let S:=sy fs;let{oc,od,kV,doc,pm,an,j,ct,osl,rfl,lk,b}:=F.ex;let hcv:j = .ref c:=hc;subst hcv
 let TF:∀ {a:Addr},FZ K d.x a->T=a:=λ{a} h=>by
  let{o',vs',_,_,_,_,_,_,_,e1,e2,e3,e4,_}:=C;delta VZ at b;dsimp! at b;cases J:K.lookup c with
  |none=>rw[J]at b;cases b
  |some oc'=>
   let z1:=KX c oc' J;rw[e1]at z1;cases z1;exact h f _ _ c o' vs' T lk rfl rfl rfl J e3 e4
 refine Km lk b S (λvs H Q E h=>?_) λA outer s H vs Q E hr h=>?_
 .let{m,ds,S,d',S',vd,_,J,_}:=h;rw[<-vd.length,J]
 .let G:=ctx (.ref c) A outer s H E S.nd hr;let hr3:Room (k - 3+3) (jj CX0 P w K M base d.N d.x (aH d.st) f (.ref c) A outer s H E).nox.A:=by rw[Nat.sub_add_cancel hk];exact hr
  refine{LC (KF K T z.2.1 z.2.2 (cf (tE K (evE (evC ab k) (cu ab) FU z.1)) ji)),?_,?_}
  .rw[eb];refine PSs.nox (FH (Bv ?_))
   let:=G5 (X:=(jj CX0 P w K M base d.N d.x (aH d.st) f (.ref c) A outer s H E).nox) (k:=k - 3) (cx:=cx) (T:=T) (c:=c) (x:=x) (params:=l) (scope:=I) (e:=e) (p:=p) (lp:=z.2.1) (kp:=kp) (pos:=pos) (p1:=p1) (p2:=p2) (p3:=p3) (p4:=p4) (p5:=p5) hr3 (G.gl gs).1 (bl _ (by decide)) (G.gl gs).2 (sy ls) l1 l2 (bl _ (by decide)) d1 d2
    (λpm c' ctv u=>by let y:=bd pm c' ctv u;rw[eq s⁻¹ f (.ref c)]at y;exact y) rfl C hb hgT (cl _) (df _) (cq ((snd FU).e _ _ e z.1 G ce) pe) (am pe)
   rw[eq s⁻¹ f (.ref c)];exact this
  .let{m,ds,S0,r,S',vd,R,J,e,q}:=h;simp![evC,hd,hz,if_pos hk]at e;let{n,S1,L,es,e1,⟨t1,t2,t3,t4⟩,rfl,rfl}:=NF e;calc{m,_,S0,_,S1,qH vd,R,e1,λm1 H1 v B vv=>?_};let{a,ha,rfl}:=vv.refs;let{a',U,ws,hw,Z}:=B.rel.ob n _ t2;rw[ha]at U;cases U;let{T',hT',tF,ps,tO}:=B.rel.ob 1 _ t1;let eT:=TF tF;subst eT;calc{a,ws,L,ps,rfl,.of hw,yN t3 Z,by rw[<-Z.length];exact t4,(λy=>by rw[y,tO.at_]at hw;cases hw),tO,λr H2 ps' u1 u2 u3 u4=>?_};let A2:=B.rel.tabs t1 hT' tF u1 u4;let nr:r∉m1:=B.rel.no u3
   let vw2:VDs K m1 H2 (c9 L .non es) (M7 ws L):=by
    let Y:=VDs.mono B.rel A2.ext Z;delta c9 M7;rw[<-Z.length];split
    .exact Y
    .exact rO Y _ λi hi=>(gu (by lia)).1 i hi
   calc q (m1++[r]) H2 (.ref r) (B.trans {A2.ext.adopt u3,A2.rel.adopt nr u2 vw2}) ?_;rw[VD];exact{r,by rw[Zp (by rw[B.rel.len];exact Zf _),B.rel.len,ZY];rfl,rfl}
def yO(T:TextOk K M con ab)(hc:ab.all (Hr (yM con ab))=aN)(KX:K.In base)(hA:Hs con ab)(hS:∀d∈ab,d.ks≠aD->∀f l,M d.x=aw (.ref f)->Fun K d.x d.x d.st f l->SB base M l):∀ (k i:Nat) (d:DefE),ab[i]?=aw d->∀f l,M d.x=aw (.ref f)->Fun K d.x d.x d.st f l->FnOk P w K M base CX0 k f l d.ps (spC K (evC ab k i) d.ps.length)
 |0,i,d,_,f,l,_,_=>Hu
 |k+1,i,d,hd,f,l,hm,F=>by
  let ih:=yO T hc KX hA hS k;let n:=Zd hd;let O:=Yc.mp hc d n
  let J:∀ (c:Value) (A:Around) (outer:List Env) (s:Shared) (H:Hp) (E:XK),d.N.Nodup->Room k (A.deeper (envOfC d.x (aH d.st) s⁻¹ f c))->CtxOk (yM con ab) (evC ab k) (cu ab) k {aH d.st,aD,d.N} (jj CX0 P w K M base d.N d.x (aH d.st) f c A outer s H E).nox:=λc A outer s H E nd Z=>by
    calc{rfl,rfl,rfl,rfl,nd,λ_ _=>rfl,Z,T.con,T.bl,λj y hy=>?_};let b:(ab.map λd=>(d.x,d.ps.length))[j]?=aw y:=hy;rw[Zq]at b;cases I:ab[j]? with
    |none=>rw[I]at b;cases b
    |some e=>
     rw[I]at b;cases b;let ha:cu ab j=e.ps.length:=by delta cu;rw[I]
     let{f',L,C,k',b',F'}:=T.fn j e I;calc{ha,f',L,e.ps,C,k',b',?_};rw[ha];exact ih j e I f' L C F'
  cases p:d.ks with
  |some z=>
   by_cases Y:3<=k
   .let h0:=hS d n (by rw[p];simp) f l hm F;exact NG (k:=k) p Y F h0 (hA d n z p) KX hd J T.bl
   .refine{λX H Q E h=>?_,λA outer s H args us X Q E _ _ _ _ h=>?_}
    .let{m,B,S,d',S',_,_,_,e,_}:=h;simp![evC,hd,p,if_neg Y]at e;cases e
    .let{m,B,S,d',S',_,_,_,e,_}:=h;simp![evC,hd,p,if_neg Y]at e;cases e
  |none=>
  delta Hr at O;rw[p,Option.isSome_none,Wg,bAE]at O;let S:=sy O.1;refine F.ok S (λX H Q E h=>?_) λc A outer s H X Q E Z h=>?_
  .let{m,B,S,d',S',vd,_,hl,_}:=h;rw[<-vd.length,hl]
  .let G:=J c A outer s H E S.nd Z;calc{_,(SA FU).ss _ _ (b9 d.st) d.body G S.kind O.2,?_};let{m,B,S0,r,S',vd,R,hl,e,q}:=h;simp![evC,hd,p,ND]at e;cases U:eM (evC ab k) (cu ab) FU d.body (B.map aw++ZP (d.N.length - B.length) aD) S0 with
   |none=>rw[U]at e;cases e
   |some z=>
    let{fl,ρ',S1}:=z;rw[U]at e;calc{m,_,S0,fl,ρ',S1,qH vd,R,U,λC H' A'=>?_};cases fl with
    |nx=>cases e;exactλσ _=>q C H' .non A' kc
    |rt v=>cases e;exactλu vu=>q C H' u A' vu
    |bk=>cases e
    |ct=>cases e
end
end Ev
namespace L2
open PySem PySem.Spec PyProof.Rows
abbrev KY(T:Addr)(ps:Array Value)(H:Hp):Prop:=H T=aw (.tbl ps)/\∀b,b≠T->H b=aD\/∃o X,H b=aw (.frz o (.lst X))
def AL{P:Program}{w:World}{K:VX}{mg mb:Str->Option Value}{CX:CXT}{k:Nat}{fa a T c:Addr}{ps:Array Value}{fd:VH}{x:Str}{sp:Sp}{s₁:Shared}{j:List Value}{ns:List Int}
  (KX:K.In s₁.heap) (hns:s₁.heap.Ns Zav mg) (hb:s₁.heap.Ns Zab mb) (hbb:∀x:Str,x≠"__name__"->mb x=NO x) (U:s₁.heap.NoLimit) (hg:s₁.gens=#[])
  (p:s₁.heap.TableAt c T ps) (hTK:K.lookup T=aD)
  (I:s₁.heap.get? a=aw {cls:=.type "list",data:=.seq j.toArray}) (hi:IntsAre j ns) (hl:ns.length<=sizeLine) (hr:Room k callerA)
  (hcd:VW s₁.heap c T) (hbm:s₁.heap.BuiltinsAt mg T) (F:∀base:Heap,K.In base->base.Ns Zav mg->VW base c T->base.BuiltinsAt mg T->FnOk P w K mg base CX k fa fd [x] sp) (J:∀ (s:Shared) (u:Value),BindsTo s fd ⟨[u],[]⟩ [(x,u)])
  (hsp:∀H:Hp,KY T ps H->SqL K H a (ns.map V.int)->sp [.ref a] H (λv _=>v = .bl aN) λ_ _ _=>False)
  (hCX:∀H e f,CX [] H s₁ (λ_ _ _=>False) e f->False) :
  codeAny (model P w) callerA (.call (.ref fa) ⟨[.ref a],[]⟩) (λr f=>r = .ok (.ret (.bool aN))/\OldK s₁.heap f.heap/\f.os=s₁.os/\AllBare f.gens) s₁:=by
 let rv:=jX hi;let lenV:=hi.length;let O:=p.2;let aT:a≠T:=λe=>by rw[e,O]at I;cases I
 let C:∀H:Hp,KY T ps H->SqL K H a (ns.map V.int)->HOk P w H s₁.heap->(∀b,H b≠aD->b=a\/b=T)->(H a≠aD->K.lookup a=aD) ->
   codeAny (model P w) callerA (.call (.ref fa) ⟨[.ref a],[]⟩) (λr f=>r = .ok (.ret (.bool aN))/\OldK s₁.heap f.heap/\f.os=s₁.os/\AllBare f.gens) s₁:=by
  intro H hO hS hok hA hK;let B:∀ {b:Addr} {o:Obj},s₁.heap.get? b=aw o->H b=aD->(mG s₁.heap H).get? b=aw o:=λe n=>Bn e n
  let noA:∀ {b:Addr} {o:Obj} {L:Array DictEntry} {ep:Nat},s₁.heap.get? b=aw o->o.data = .dict L ep->H b=aD:=λ{b o L ep} e d=>by
   cases q:H b with
   |none=>rfl
   |some u=>
    rcases hA b (by rw[q];simp) with e' |e'
    .subst e';rw[I]at e;cases e;let d':Data.seq j.toArray _=Data.dict L ep:=d;cases d'
    .subst e';rw[O]at e;cases e;let d':Data.fields ps=Data.dict L ep:=d;cases d'
  let l:∀ {b:Addr} {m:Str->Option Value},s₁.heap.Ns b m->(mG s₁.heap H).Ns b m:=λ{b m} ⟨o,L,ep,e,d,r⟩=>{o,L,ep,B e (noA e d),d,r}
  let Q:K.In (mG s₁.heap H):=λb o e=>B (KX b o e) (by
   cases q:H b with
   |none=>rfl
   |some u=>
    rcases hA b (by rw[q];simp) with e' |e'
    .subst e';rw[hK (by rw[q];simp)]at e;cases e
    .subst e';rw[hTK]at e;cases e)
  let hM:Mod K mg (mG s₁.heap H):={Q,l hns,{mb,l hb,hbb},let ⟨mc,h1,h2⟩:=U;{mc,l h1,h2}};let e0:Env0 P w K mg (mG s₁.heap H) callerA [] s₁ H:={rfl,hM,λb o e=>FD e,Wt (zF _ _),trivial,λb hb=>absurd (show b∈([]:List Addr) from hb) (by simp),hok,.of_eq hg}
  let noC:∀ {b:Addr} {o:Obj} {n:String},s₁.heap.get? b=aw o->o.cls = .type n->n≠"list"->b≠T->H b=aD:=λ{b o n} e d hn nb=>by
   cases q:H b with
   |none=>rfl
   |some u=>
    rcases hA b (by rw[q];simp) with e' |e'
    .subst e';rw[I]at e;cases e;let d':Value.type "list" = Value.type n:=d;cases d';exact absurd rfl hn
    .exact absurd e' nb
  let hcd':VW (mG s₁.heap H) c T:=by
   let{o,j,X,tf,E,tg,inF,text,tt,e1,e2,r}:=hcd;exact{o,j,X,tf,E,tg,inF,text,tt,B e1 (noC e1 e2 (by decide) r.2.2.2.2.2.2.2),e2,r}
  let hbm':(mG s₁.heap H).BuiltinsAt mg T:=by
   let{bm,o,b1,b2,b3,b4,b5,b6,r}:=hbm;exact{bm,o,b1,b2,b3,b4,B b5 (noC b5 b6 (by decide) b4),b6,r}
  calc Zai ((F _ Q (l hns) hcd' hbm').run callerA [] s₁ H ⟨[.ref a],[]⟩ [.ref a] [.ref a] _ _ hr e0 (J s₁ (.ref a)) (.cons rfl .nil) (hsp H hO hS)) λr f h=>?_;cases r with
  |error e=>exact(hCX H e f h).elim
  |ok fl=>
   cases fl with
   |next=>exact False.elim h
   |brk=>exact False.elim h
   |cont=>exact False.elim h
   |ret u=>
    let{v,H',os,bare,un,y,r',q}:=h;let q':v = .bl aN:=q;subst q';obtain rfl:u=Value.bool aN:=r'
    let Y:∀b o,b≠T->s₁.heap.get? b=aw o->f.heap.get? b=aw o:=λb o nb e=>by
     cases q:H b with
     |none=>exact un.keep b o e q (by intro z;exact absurd (show b∈([]:List Addr) from z) (by simp)) (by simp)
     |some u=>
      rcases hO.2 b nb with z |⟨ob,xs,z⟩
      .rw[q]at z;cases z
      .let z2:=un.frzs b ob _ z;let{e1,_}:=hok b _ z;let{e2,_}:=y b _ z2;rw[e]at e1;cases e1;exact e2
    let{more,em}:=un.tbls T ps hO.1;let gT:f.heap.get? T=aw {cls:=.none,data:=.fields (ps++more)}:=y T _ em;refine⟨rfl,{λb o e=>?_,λb o e=>?_},os,bare⟩
    .by_cases nb:b=T
     .subst nb;rw[O]at e;cases e;exact .inr (.inl ⟨p.isCodeTable,rfl,ps,more,rfl,gT⟩)
     .exact .inl (Y b o nb e)
    .by_cases nb:b=T
     .subst nb;exact⟨_,gT⟩
     .exact{o,Y b o nb e}
 let okT:∀ (H:Hp),H T=aw (.tbl ps)->ba P w H s₁.heap T (.tbl ps):=λH e=>O;cases hk:K.lookup a with
 |some o=>
  let e:=KX a o hk;rw[I]at e;cases e;refine C (λb=>if b=T then aw (.tbl ps) else aD) {if_pos rfl,λb nb=>.inl (if_neg nb)} (.inr {_,j.toArray,_,hk,rfl,rfl,rfl,by rw[Zk,lenV];exact hl,by simpa using rv}) (λb u z=>?_) (λb z=>?_) λz=>absurd (if_neg aT) z
  .by_cases hb:b=T
   .let Z:=(if_pos hb).symm.trans z;cases Z;subst hb;exact O
   .let Z:=(if_neg hb).symm.trans z;cases Z
  .by_cases hb:b=T
   .exact .inr hb
   .exact absurd (if_neg hb) z
 |none=>
  refine C (λb=>if b=T then aw (.tbl ps) else if b=a then aw (.frz {cls:=.type "list",data:=.seq j.toArray} (.lst (ns.map V.int))) else aD) {if_pos rfl,λb nb=>?_} (.inl (.inr {{cls:=.type "list",data:=.seq j.toArray},(if_neg aT).trans (if_pos rfl)})) (λb u z=>?_) (λb z=>?_) λ_=>hk
  .by_cases hb:b=a
   .exact .inr {_,_,(if_neg nb).trans (if_pos hb)}
   .exact .inl ((if_neg nb).trans (if_neg hb))
  .by_cases p:b=T
   .let Z:=(if_pos p).symm.trans z;cases Z;subst p;exact O
   .let z:=(if_neg p).symm.trans z;by_cases hb:b=a
    .let Z:=(if_pos hb).symm.trans z;cases Z;subst hb;exact{I,by rw[Za];exact hl,j,_,rv,I}
    .let Z:=(if_neg hb).symm.trans z;cases Z
  .by_cases p:b=T
   .exact .inr p
   .by_cases hb:b=a
    .exact .inl hb
    .exact absurd ((if_neg p).trans (if_neg hb)) z
end L2
namespace Ev
open PySem PySem.Spec PyProof.Rows L2
@[inline]abbrev yP:=(Str×Str)×(W6×List Stmt)×(Scope×Addr)×(List (Str×Addr)×Value)×(Addr×Option Str)
abbrev KZ(h:Heap):Value->Option Str
 | .ref c=>(match h.get? c with
  |some {_,_,.fields vs,_}=>(match vs.toList with |_ :: .str n _::_=>aw n |_=>aD)
  | _=>aD)
 |_=>aD
abbrev SC(h:Heap):Option Obj->Option yP
 |some {_,_,.func ⟨nm,qn,ps,.stmts b,sc,gl,cl,dv,_,_,_,_,cd,_,bi⟩,_}=>aw ((nm,qn),(ps,b),(sc,gl),(cl,dv),(bi,KZ h cd))
 |_=>aD
abbrev Hv(h:Heap)(x:Str):Option yP:=match h.nsMap Zav x with
 |some (.ref f)=>SC h (h.get? f)
 |_=>aD
abbrev yQ(d:DefE):Option yP:=aw ((d.x,d.x),(fD d.st,b9 d.st),(aH d.st,Zav),([],.none),(Zab,aw d.x))
abbrev SD(h:Heap)(x:Str):Option Int:=match h.nsMap Zav x with
 |some (.int v _)=>aw v
 |_=>aD
abbrev SE:Option Obj->Bool
 |some {.none,aD,.fields ps,sl}=>ps.isEmpty && sl.isEmpty
 |_=>aS
abbrev SF(h:Heap)(c:Addr):Option Obj->Bool
 | some {oc,od,.fields vs,os}=>(match (vs[11]?:Option Value) with
  |some (.ref P)=>PySem.W.codeHdIn [(c,{oc,od,.fields vs,os})] c P && SE (h.get? P) && Zav != P
  | _=>aS)
 |_=>aS
abbrev NH(h:Heap)(x:Str):Bool:=match h.nsMap Zav x with
 | some (.ref f)=>(match h.get? f with
  | some {_,_,.func fd,_}=>(match fd.code with
   |.ref c=>SF h c (h.get? c)
   | _=>aS)
  | _=>aS)
 |_=>aS
def NI{h:Heap}{x:Str}(e:NH h x=aN):∃f o d c O v T,h.nsMap Zav x=aw (.ref f)/\h.get? f=aw o/\o.data = .func d/\d.code = .ref c/\h.get? c=aw O/\O.data = .fields v/\v[11]?=aw (.ref T)/\VW h c T/\h.get? T=aw (Of #[])/\Zav≠T:=by
 delta NH at e;split at e
 .rename_i f l;split at e
  .rename_i L J d Q u;split at e
   .rename_i c z;cases j:h.get? c with
    |none=>rw[j]at e;cases e
    |some O=>
     rw[j]at e;delta SF at e;split at e
     .rename_i O y v os k;cases k;split at e
      .rename_i P C;simp![bAE]at e;let{⟨I,E⟩,B}:=e
       let n:h.get? P=aw (Of #[]):=by
        delta SE at E;split at E
        .rename_i ps sl p;simp![bAE,Array.isEmpty_iff]at E;let{rfl,rfl}:=E;exact p
        .cases E
       calc{f,_,d,c,_,v,P,l,u,rfl,z,j,rfl,C,PySem.W.codeHd_of_K (K:=[(c,{O,y,.fields v,os})]) (λb o q=>?_) I,n,by simpa using B};rw[Yv]at q;cases hb:b == c with
       |true=>
        rw[hb]at q;cases q;let:b=c:=by simpa using hb
        rw[this];exact j
       |false=>rw[hb]at q;cases q
      .cases e
     .cases e
   .cases e
  .cases e
 .cases e
abbrev SG(h:Heap)(d:DefE):Bool:=match d.ks with
 |none=>aN
 |some _=>NH h d.x
@[inline]abbrev DH:=Bool×List (Option yP)×List (Option Int)×List Bool×List Bool
abbrev NJ(con:List (Str×Int))(ab:List DefE)(h:Heap):DH:=(h.isNs Zav,ab.map (λd=>Hv h d.x),con.map (λc=>SD h c.1),gz.map (λx=>(h.nsMap Zav x).isNone),ab.map (SG h))
abbrev DI(con:List (Str×Int))(ab:List DefE):DH:=(aN,ab.map yQ,con.map (λc=>aw c.2),gz.map (λ_=>aN),ab.map λ_=>aN)
abbrev K0(d:DefE):Prop:=∀ (kV b pm:Value) (f:Option Addr) (c ct:Value) (u:List Value),u.length=d.ps.length->No (V1 d.x d.x (fD d.st) (b9 d.st) (aH d.st) .none kV b pm f c ct) ⟨u,[]⟩=pure (d.ps.zip u)
abbrev AM:List DefE->Prop
 |[]=>True
 |d::ds=>K0 d/\AM ds
def AM.at:∀ {b:List DefE} {d:DefE},AM b->d∈b->K0 d
 |e::b,d,h,hd=>by
  rcases Zn.mp hd with rfl |hd
  .exact h.1
  .exact AM.at h.2 hd
abbrev kZ(h:Heap)(f:Addr):VX:=match h.get? f with
 | some o=>(f,o)::(match o.data with
  | .func fd=>(match fd.code with
   |.ref c=>(match h.get? c with |some O=>[(c,O)] |none=>[])
   | _=>[])
  | _=>[])
 |none=>[]
abbrev cU(h:Heap)(d:DefE):VX:=match h.nsMap Zav d.x with
 |some (.ref f)=>kZ h f
 |_=>[]
abbrev SH(K:VX):Prop:=∀a o,K.lookup a=aw o->∀I n,o.data≠.seq I n
abbrev UM(h:Heap)(K:VX)(x:Str)(T:Addr):Prop:=h.get? T=aw (Of #[])/\Zav≠T/\K.lookup T=aD/\FZ K x T/\∃f o b c,h.nsMap Zav x=aw (.ref f)/\h.get? f=aw o/\o.data = .func b/\b.code = .ref c/\VW h c T
structure Says(con:List (Str×Int))(ab:List DefE)(h:Heap):Prop where
 ns:∃m,h.Ns Zav m
 frag:∃K:VX,K.In h/\SH K/\(∀d∈ab,d.ks≠aD->∃T,UM h K d.x T)/\∀mg,h.Ns Zav mg->TextOk K mg con ab
def dI{K:VX}{a:Addr}{o:Obj}(h:K.lookup a=aw o):(a,o)∈K:=by
 induction K with
 |nil=>cases h
 |cons p K I=>
  let{b,q}:=p;rw[Yv]at h;cases hb:a == b with
  |true=>
   rw[hb]at h;cases h;let:a=b:=by simpa using hb
   subst this;exact Zj
  |false=>rw[hb]at h;exact Zg _ (I h)
def DJ{K:VX}{a:Addr}{o:Obj}(h:(a,o)∈K):∃o',K.lookup a=aw o':=by
 induction K with
 |nil=>cases h
 |cons p K I=>
  let{b,q}:=p;rw[Yv];cases hb:a == b with
  |true=>exact⟨_,rfl⟩
  |false=>
   rcases Zn.mp h with e |h
   .cases e;simp at hb
   .exact I h
def DK{h:Heap}{f a:Addr}{o:Obj}(e:(a,o)∈kZ h f):h.get? a=aw o:=by
 delta kZ at e;cases d:h.get? f with
 |none=>rw[d]at e;cases e
 |some of=>
  rw[d]at e;dsimp! at e;rcases Zn.mp e with q |e
  .cases q;exact d
  .split at e
   .split at e
    .rename_i c j;cases b:h.get? c with
     |none=>rw[b]at e;cases e
     |some O=>
      rw[b]at e;dsimp! at e;rcases Zn.mp e with q |e
      .cases q;exact b
      .cases e
    .cases e
   .cases e
def sC{h:Heap}{a:Addr}{mg:Str->Option Value}(N:h.Ns a mg):h.nsMap a=mg:=by
 let{o,d,E,b,hd,_,c}:=N
 funext x
 delta Heap.nsMap;rw[b];dsimp!;rw[hd];exact c x
def uK{h:Heap}{d:DefE}(e:Hv h d.x=yQ d):∃f k p kV j pm q c ct O l cd v a t r C,h.nsMap Zav d.x=aw (.ref f)/\h.get? f=aw {k,p,.func (V1 d.x d.x (fD d.st) (b9 d.st) (aH d.st) .none kV j pm q (.ref c) ct),O} ∧
  h.get? c=aw {l,cd,.fields v,C}/\v.toList=a :: .str d.x t::r:=by
 delta Hv yQ at e;split at e
 .rename_i f u;delta SC at e;split at e
  .rename_i k p nm Q ps b sc gl cl I kV j pm q y ct J O B;simp![Option.some.injEq,Prod.mk.injEq]at e;let{⟨rfl,rfl⟩,⟨rfl,rfl⟩,⟨rfl,rfl⟩,⟨rfl,rfl⟩,rfl,e}:=e;delta KZ at e;split at e
   .rename_i c;split at e
    .rename_i l cd v C E;split at e
     .rename_i a n t r z;cases e;exact⟨f,k,p,kV,j,pm,q,c,ct,O,l,cd,v,a,t,r,C,u,B,E,z⟩
     .cases e
    .cases e
   .cases e
  .cases e
 .cases e
def Hw{con:List (Str×Int)}{ab:List DefE}(hb:AM ab){h:Heap}(e:NJ con ab h=DI con ab):Says con ab h:=by
 delta NJ DI at e;simp![Prod.mk.injEq]at e;let{e0,e1,e2,e3,e4}:=e;let N:=Heap.Ns.of_isNs e0;let D:∀d∈ab,Hv h d.x=yQ d:=λd hd=>Xi.mp e1 d hd
 let inK:∀a o,(a,o)∈ab.flatMap (cU h)->h.get? a=aw o:=λa o he=>by
  let{d,hd,he}:=Yj.mp he;let{f,J,od,kV,j,pm,U,c,ct,O,L,cd,E,X,t,r,I,b,k,l,u}:=uK (D d hd);delta cU at he;rw[b]at he;exact DK he
 let lk:∀a o,(a,o)∈ab.flatMap (cU h)->(ab.flatMap (cU h)).lookup a=aw o:=λa o he=>by
  let{o',q}:=DJ he;let z:=inK a o' (dI q);rw[inK a o he]at z;cases z;exact q
 refine{⟨_,N⟩,ab.flatMap (cU h),λa o q=>inK a o (dI q),λa o q its n hs=>?_,λd hd hk=>?_,λmg G=>?_}
 .let{d,hd,he}:=Yj.mp (dI q);let{f,J,od,kV,j,pm,U,c,ct,O,L,cd,E,X,t,r,I,b,k,l,u}:=uK (D d hd);delta cU at he;rw[b]at he;dsimp! at he;delta kZ at he;rw[k]at he;dsimp! at he;rw[l]at he;dsimp! at he;rcases Zn.mp he with z |he
  .cases z;cases hs
  .rcases Zn.mp he with z |he
   .cases z;cases hs
   .cases he
 .let z:=Xi.mp e4 d hd;delta SG at z;cases hz:d.ks with
  |none=>exact absurd hz hk
  |some y=>
   rw[hz]at z;let{f,o,fd,c,J,E,T,b,k,l,u,g5,g6,g7,g8,g9,g10}:=NI z;refine{T,g9,g10,?_,?_,f,o,fd,c,b,k,l,u,g8}
   .cases hl:(ab.flatMap (cU h)).lookup T with
    |none=>rfl
    |some q=>
     let iq:=inK T q (dI hl);rw[g9]at iq;cases iq;let{Q,p,he}:=Yj.mp (dI hl);let{f,J,od,kV,j,pm,U,c,ct,O,L,cd,E,X,t,r,I,B,C,Z,k4}:=uK (D Q p);delta cU at he;rw[B]at he;dsimp! at he;delta kZ at he;rw[C]at he;dsimp! at he;rw[Z]at he;dsimp! at he;rcases Zn.mp he with y |he
     .cases y
     .rcases Zn.mp he with y |he
      .cases y;simp at k4
      .cases he
   .intro f' o' fd' c' oc' vs' P' q1 q2 q3 q4 q5 q6 q7;let{Q,p,he}:=Yj.mp (dI q1);let{f2,oc2,od2,kV,j,pm,U,c2,ct,O,L,cd,vs2,X,t,r,I,B,C,Z,k4}:=uK (D Q p);delta cU at he;rw[B]at he;dsimp! at he;delta kZ at he;rw[C]at he;dsimp! at he;rw[Z]at he;dsimp! at he;rcases Zn.mp he with y |he
    .cases y;cases q2;let ex:Q.x=d.x:=q3;rw[ex,b]at B;cases B;rw[k]at C;cases C;cases l;rw[u]at q4;cases q4;let:=inK c oc' (dI q5);rw[g5]at this;cases this;rw[g6]at q6;cases q6;rw[g7]at q7;cases q7;rfl
    .rcases Zn.mp he with y |he
     .cases y;cases q2
     .cases he
 .let hm:=sC G;refine{λi x v hi=>?_,λx hx=>?_,λi d hi=>?_}
  .let z:=Xi.mp e2 (x,v) (Zd hi);delta SD at z;rw[hm]at z;dsimp! at z;split at z
   .rename_i v' t hv;cases z;exact⟨t,hv⟩
   .cases z
  .let z:=Xi.mp e3 x hx;rw[hm]at z
   simpa using z
  .let hd:=Zd hi;let{f,J,od,kV,j,pm,U,c,ct,O,L,cd,E,X,t,r,I,b,k,l,u}:=uK (D d hd)
   let m1:(f,_)∈ab.flatMap (cU h):=Yj.mpr ⟨d,hd,by
    show _∈cU h d;delta cU;rw[b];dsimp!;delta kZ;rw[k];exact Zj⟩
   let m2:(c,_)∈ab.flatMap (cU h):=Yj.mpr ⟨d,hd,by
    show _∈cU h d;delta cU;rw[b];dsimp!;delta kZ;rw[k];dsimp!;rw[l];exact Zg _ Zj⟩
   let l1:=lk _ _ m1;let l2:=lk _ _ m2;let kp:V8 (ab.flatMap (cU h)) (.ref f)=aN:=by delta V8;dsimp!;rw[l1]
   let Y:VZ (ab.flatMap (cU h)) (.ref c) d.x=aN:=by
    delta VZ;dsimp!;rw[l2];dsimp!;rw[u];simp
   let F:=Ma (st:=d.st) (x:=d.x) (qual:=d.x) l1 Y kp;refine{f,_,by rw[<-hm];exact b,kp,F.binds (hb.at hd),F}
def xr{con:List (Str×Int)}{ab:List DefE}{h h':Heap}(x:Says con ab h)(k:∀b o,h.get? b=aw o->h'.get? b=aw o):Says con ab h':=by
 let{⟨m,N⟩,K,KX,ns,Q,T}:=x
 let B:∀mg,h'.Ns Zav mg->h.Ns Zav mg:=λmg ⟨o,l,E,n,r⟩=>by
  let{o',es',Y,j,r'}:=N;let z:=k _ _ j;rw[n]at z;cases z;exact⟨o,l,E,j,r⟩
 let p:h'.Ns Zav m:=let ⟨o,l,E,n,r⟩:=N;{o,l,E,k _ _ n,r};calc{⟨m,p⟩,K,λa o q=>k _ _ (KX a o q),ns,λd hd C=>?_,λmg G=>T mg (B mg G)};let{T,u,L,X,Z,f,o,U,c,y,v,J,O,I}:=Q d hd C;exact{T,k _ _ u,L,X,Z,f,o,U,c,by rw[sC p,<-sC N];exact y,k _ _ v,J,O,I.keeps k}
abbrev sD(con:List (Str×Int))(ab:List DefE)(hb:AM ab):PySem.W.Hook:=
 {DH,λs=>NJ con ab s.heap,λ_=>DI con ab,λ_ h=>Says con ab h,λ_ _ e=>Hw hb e,λ_ _ _ x k=>xr x k}
def om{K:VX}{m:List Addr}{H:Hp}:∀ns:List Int,VDs K m H (ns.map D.int) (ns.map V.int)
 |[]=>by rw[Z0,Z0,VDs]
 |a::l=>by rw[Zy,Zy,VDs];exact{_,_,rfl,bg,om l}
def UN:VV (#[]:Array Value).toList:=by first |exact .nil |trivial |(delta VV;simp)
def Hx{l:PySem.W.OpenLaw}{n k i:Nat}{q:Program}{loose:List Str}{XP:(Str->Option Value)->Heap->Prop}{d:DefRec}{con:List (Str×Int)}{ab:List DefE}{hb:AM ab}{dl dz:DefE}{z:CE×Pos×Str}{x:Str}
  (hn:l.most=aw n) (hn2:n<=sizeLine) (hdf:d.params.defaults=[]) (hr:Room k callerA) (hx:d.name=dl.x) (hi:ab[i]?=aw dl) (h:dl.ps=[x]) (hc:ab.all (Hr (yM con ab))=aN) (hA:Hs con ab) (hdz:dz∈ab) (hz:dz.ks=aw z) (Z:(ab.all λd=>d.ks.isNone || d.x == dz.x)=aN)
  (main:∀ns:List Int,ns.length<=n->∃S',evC ab k i [.ref 0] [.frz (ns.map D.int),.tbl dz.x z.2.1 z.2.2]=aw (.bl aN,S')) :
  PySem.W.WalkO q loose XP (sD con ab hb).says l.row.toRowW d [] (λf vs=>PySem.call f vs):=by
 calc Att.attach_call hn hdf λw s₀ p mg mb fa o pm cd E a vs ns G Y ho hd hcd B Q C b hg=>?_;let{_,K,KX,noS,tb,TX}:=(show Says con ab p.heap from Y);let TX:=TX mg G.T.g;let{f,fd,hm,kp,_,F}:=TX.fn i dl hi;rw[hx]at B;rw[B]at hm;cases hm
 let bd:∀ (s:Shared) (u:Value),BindsTo s fd ⟨[u],[]⟩ [(x,u)]:=λs u=>by
  let{oc,od,kV,E,pm,an,U,ct,osl,rfl,lk,hcd}:=F.ex;let z:=(hb.at (Zd hi)) kV E pm an U ct [u] (by rw[h];rfl);rw[h]at z;exact .of_eq z
 let{T,t1,t2,t3,t4,fz',oz,fdz,c,t5,t6,t7,t8,t9}:=tb dz hdz (by rw[hz];simp);let hmz:mg dz.x=aw (.ref fz'):=by rw[<-sC G.T.g];exact t5
 let bm:p.heap.BuiltinsAt mg T:=by
  let{bm,ob,b1,b2,I,b4,b5,b6}:=G.T.bmain;refine{bm,ob,b1,b2,λy=>?_,λy=>?_,I,b4,b5,b6}
  .let{o,es,ep,ho,hd,_}:=G.T.g;rw[y,ho]at I;cases I;rw[hd]at b6;cases b6
  .rw[y,t1]at I;cases I;cases b4
 refine AL (CX:=CX0) (T:=T) (c:=c) (ps:=#[]) (sp:=spC K (evC ab k i) dl.ps.length) KX G.T.g G.T.b G.T.builtins G.T.nolimit hg (t9.tab t1) t3 Q C (ZJ b hn2) hr t9 bm (λbase KB _ cB bB=>by
  let:=yO (P:=l.row.toRowW.prog) (w:=w) (base:=base) TX hc KB hA (λd' hd' hk' f' fd' L F'=>?_) k i dl hi fa fd B F
  .rw[h]at this ⊢;exact this
  .let J:=Yc.mp Z d' hd'
   let ex:d'.x=dz.x:=by
    cases O:d'.ks with
    |none=>exact absurd O hk'
    |some y=>rw[O]at J;simpa using J
   rw[ex,hmz]at L;cases L;let{oc,od,kV,E,pm,an,U,ct,osl,ef,lk,hcd}:=F'.ex;let:=KX _ _ lk;rw[t6]at this;cases this;cases t7;exact⟨c,T,t8,cB,bB,t2⟩) bd (λH hO hS=>?_) λH e s' z=>z
 let X:∃o,H a=aw (.frz o (.lst (ns.map V.int))):=by
  rcases hS with (z |⟨o,z⟩) |⟨o,its,n',hk,hc,hdd,hdt,_⟩
  .by_cases aT:a=T
   .rw[aT,hO.1]at z;cases z
   .rcases hO.2 a aT with y |⟨o',xs,y⟩
    .rw[y]at z;cases z
    .rw[y]at z;cases z
  .exact⟨o,z⟩
  .exact absurd hdt (noS a o hk its n')
 let{o,X}:=X;let aT:a≠T:=λy=>by rw[y,hO.1]at X;cases X
 let{S',e}:=main ns b;refine{[a,T],[.ref 0],[.frz (ns.map D.int),.tbl dz.x z.2.1 z.2.2],.bl aN,S',?_,{rfl,by simp[aT],λj ob ej=>?_},by rw[h];rfl,e,λm' H' v A vv=>vv.bls}
 .rw[VDs];exact{_,_,rfl,by rw[VD];exact⟨a,rfl,rfl⟩,by rw[VDs]}
 .cases j with
  |zero=>cases ej;exact{a,rfl,o,_,X,om ns}
  |succ j=>
   cases j with
   |zero=>cases ej;exact{T,rfl,t4,#[],hO.1,UN,λcv ec=>by cases ec}
   |succ j=>simp at ej
end Ev
namespace Lw
open PySem Ev
abbrev top(i:Nat):Stmt:=PySem.Challenge.pw_downrings_k53_least_stuck_and_least_send.main.body.getD i (.Pass ⟨0,0,0,0⟩)
abbrev oq:List CS:=[.ret (.d (.s .int (.v 0)) (.n (.s .bool (.v 0))))]
abbrev k8:List CS:=[.ret (.d (.c 0 [.v 0]) (.h .le .le (.v 1) (.v 0) (.v 2)))]
abbrev k9:List CS:=[.ret (.c 1 [.v 0,.int 0,.con 0 9999])]
abbrev ou:List CS:=[.ret (.d (.s .tuple (.v 0)) (.h .le .le (.v 1) (.e (.v 0)) (.v 2)))]
abbrev jE:List CS:=[.i (.or (.n (.c 3 [.v 0,.int 0,.v 1])) (.n (.all (.o ["number"] (.c 1 [.v 2,.int 0,.b .sub (.v 1) (.int 1)]) [{.n 2,.p (.v 0),aD}])))) [.ret (.bl aS)] [],.ret (.all (.o ["number"] (.m .eq (.cnt (.v 0) (.v 2)) (.int 1)) [{.n 2,.p (.v 0),aD}]))]
abbrev qI:List CS:=[.ret (.t (.o ["other"] (.v 2) [{.n 2,.p (.v 0),aw (.m .ne (.v 2) (.v 1))}]))]
abbrev qJ:List CS:=[.a (.n 1) (.lst [.tup []]),.f (.n 2) (.p (.v 0)) [.a (.n 1) (.b .add (.v 1) (.o ["lot"] (.b .add (.v 3) (.tup [.v 2])) [{.n 3,.p (.v 1),aD}]))],.ret (.v 1)]
abbrev lc:List CS:=[.i (.n (.c 3 [.v 0,.int 4,.int 4])) [.ret (.bl aS)] [],.a (.tup [.n 1,.n 2,.n 3,.n 4]) (.v 0),.ret (.d (.c 1 [.v 1,.int 0,.con 1 8]) (.d (.c 1 [.v 2,.int 0,.con 2 60]) (.d (.c 8 [.v 3]) (.c 11 [.v 4]))))]
abbrev ow:List CS:=[.i (.n (.c 3 [.v 0,.int 1,.con 3 4])) [.ret (.bl aS)] [],.ret (.d (.all (.o ["row"] (.c 9 [.v 1,.e (.v 0)]) [{.n 1,.p (.v 0),aD}])) (.c 10 [.v 0]))]
abbrev jF:List CS:=[.ret (.d (.c 3 [.v 0,.v 1,.v 1]) (.all (.o ["gap"] (.c 1 [.v 2,.int 1,.con 4 99]) [{.n 2,.p (.v 0),aD}])))]
abbrev bT:List CS:=[.a (.n 1) (.l (.e (.v 0))),.ret (.all (.o ["a","b","c"] (.m .le (.x (.x (.v 0) (.v 2)) (.v 3)) (.b .add (.x (.x (.v 0) (.v 2)) (.v 4)) (.x (.x (.v 0) (.v 4)) (.v 3)))) [{.n 2,.p (.v 1),aD},{.n 3,.p (.v 1),aD},{.n 4,.p (.v 1),aD}]))]
abbrev lh:List CS:=[.i (.or (.n (.c 3 [.v 0,.int 0,.con 5 4])) (.n (.all (.o ["part"] (.c 12 [.v 1]) [{.n 1,.p (.v 0),aD}])))) [.ret (.bl aS)] [],.ret (.all (.o ["at"] (.m .gt (.x (.x (.v 0) (.v 1)) (.int 0)) (.x (.x (.v 0) (.b .sub (.v 1) (.int 1))) (.int 1))) [{.n 1,.r2 (.int 1) (.e (.v 0)),aD}]))]
abbrev jG:List CS:=[.ret (.d (.c 3 [.v 0,.int 2,.int 2]) (.d (.c 2 [.x (.v 0) (.int 0)]) (.d (.c 2 [.x (.v 0) (.int 1)]) (.m .lt (.x (.v 0) (.int 0)) (.x (.v 0) (.int 1))))))]
abbrev qK:List CS:=[.ret (.c 1 [.v 1,.int 0,.b .sub (.e (.x (.v 0) (.int 2))) (.int 1)])]
abbrev fu:List CS:=[.f (.tup [.n 2,.n 3]) (.p (.x (.v 0) (.int 3))) [.i (.h .le .lt (.v 2) (.v 1) (.v 3)) [.ret (.v 3)] []],.ret (.v 1)]
abbrev uL:List CS:=[.i (.n (.c 3 [.v 0,.int 4,.int 4])) [.ret (.bl aS)] [],.a (.tup [.n 1,.n 2,.n 3,.n 4]) (.v 0),.ret (.d (.c 7 [.v 1]) (.d (.c 16 [.v 1,.v 2]) (.d (.c 17 [.v 1,.v 3]) (.c 19 [.v 3,.v 4]))))]
abbrev oB:List CS:=[.i (.m .is (.v 1) .non) [.ret (.bl aN)] [],.ret (.d (.c 3 [.v 1,.int 2,.int 2]) (.d (.c 13 [.v 0,.x (.v 1) (.int 0)]) (.c 2 [.x (.v 1) (.int 1)])))]
abbrev iw:List CS:=[.ret (.d (.c 3 [.v 1,.int 0,.con 6 7]) (.all (.o ["part"] (.c 18 [.v 0,.v 2]) [{.n 2,.p (.v 1),aD}])))]
abbrev lj:List CS:=[.i (.n (.c 3 [.v 1,.int 7,.int 7])) [.ret (.bl aS)] [],.a (.tup [.n 2,.n 3,.n 4,.n 5,.n 6,.n 7,.n 8]) (.v 1),.i (.n (.all (.o ["minute"] (.c 2 [.v 9]) [{.n 9,.p (.tup [.v 3,.v 4,.v 5,.v 6]),aD}]))) [.ret (.bl aS)] [],.i (.n (.h .le .le (.b .add (.v 3) (.x (.v 0) (.int 1))) (.v 4) (.v 5))) [.ret (.bl aS)] [],.ret (.d (.c 13 [.v 0,.v 2]) (.d (.c 1 [.v 7,.int 0,.con 7 99]) (.c 1 [.v 8,.int 0,.x (.v 0) (.int 0)])))]
abbrev ll:List CS:=[.i (.n (.c 4 [.v 1,.e (.v 0)])) [.ret (.bl aS)] [],.ret (.all (.o ["number","glider"] (.or (.m .eq (.x (.v 3) (.int 6)) (.int 0)) (.m .s (.v 2) (.v 1))) [{.tup [.n 2,.n 3],.en (.v 0),aD}]))]
abbrev lm:List CS:=[.ret (.t (.o ["number"] (.v 1) [{.n 1,.r1 (.e (.x (.v 0) (.int 2))),aw (.m .o (.v 1) (.x (.v 0) (.int 3)))}]))]
abbrev lu:List CS:=[.i (.n (.c 15 [.v 0])) [.never] []]
abbrev pS:List CS:=[.a (.tup [.n 2,.n 3,.n 4,.n 5,.n 6,.n 7,.n 8]) (.v 0),.ret (.b .mul (.v 7) (.mx (.int 0) (.b .sub (.v 1) (.v 6))))]
abbrev fZ:List CS:=[.i (.n (.v 1)) [.ret (.x (.v 0) (.int 1))] [],.a (.tup [.n 2,.n 3]) (.x (.v 1) (.neg (.int 1))),.ret (.tup [.x (.x (.x (.v 0) (.int 2)) (.v 2)) (.int 0),.v 3])]
abbrev qL:List CS:=[.i (.m .is (.v 1) .non) [.ret (.int 0)] [],.ret (.b .add (.x (.v 1) (.int 1)) (.x (.x (.x (.x (.v 0) (.int 0)) (.int 2)) (.x (.v 1) (.int 0))) (.v 2)))]
abbrev oC:List CS:=[.a (.tup [.n 3,.n 4]) (.v 1),.ret (.h .le .lt (.x (.x (.x (.v 0) (.int 2)) (.v 3)) (.int 1)) (.v 2) (.b .sub (.v 4) (.x (.x (.v 0) (.int 0)) (.int 1))))]
abbrev f7:List CS:=[.ret (.e (.o ["landing"] (.v 3) [{.n 3,.p (.v 1),aw (.c 25 [.v 0,.v 3,.v 2])}]))]
abbrev dZ:List CS:=[.ret (.srt (.o ["glider"] (.x (.v 1) (.int 1)) [{.n 1,.p (.x (.v 0) (.int 2)),aD}]))]
abbrev iy:List CS:=[.a (.tup [.n 3,.n 4,.n 5,.n 6,.n 7,.n 8,.n 9]) (.x (.x (.v 0) (.int 2)) (.x (.x (.v 1) (.v 2)) (.int 0))),.ret (.d (.m .gt (.v 9) (.int 0)) (.d (.c 25 [.v 0,.x (.v 1) (.v 2),.v 4]) (.m .gt (.c 29 [.v 0,.v 1,.v 2,.v 4]) (.v 9))))]
abbrev iz:List CS:=[.a (.n 4) (.sl (.v 1) aD (aw (.v 2))),.a (.n 5) (.o ["when"] (.v 6) [{.n 6,.p (.c 27 [.v 0]),aw (.d (.m .gt (.v 6) (.v 3)) (.c 25 [.v 0,.x (.v 1) (.v 2),.v 6]))}]),.ret (.w (.o ["when"] (.b .add (.int 1) (.c 26 [.v 0,.v 4,.v 6])) [{.n 6,.p (.b .add (.lst [.v 3]) (.v 5)),aD}]))]
abbrev dJ:List CS:=[.a (.n 2) (.lst []),.f (.tup [.n 3,.n 4]) (.en (.v 1)) [.a (.n 5) (.c 32 [.v 0,.c 23 [.v 0,.v 2],.v 4,.v 3]),.i (.m .is (.v 5) .non) [.ret (.v 2)] [],.ex (.app (.v 2) (.tup [.v 4,.v 5])),.i (.c 28 [.v 0,.v 2,.v 3]) [.ret (.sl (.v 2) aD (aw (.v 3)))] []],.ret (.v 2)]
abbrev fv:List CS:=[.a (.n 1) (.c 30 [.v 0,.x (.v 0) (.int 3)]),.ret (.ite (.m .eq (.e (.v 1)) (.e (.x (.v 0) (.int 3)))) (.v 1) .non)]
abbrev fw:List CS:=[.a (.tup [.n 4,.n 5,.n 6,.n 7,.n 8,.n 9,.n 10]) (.x (.x (.v 0) (.int 2)) (.v 2)),.a (.n 11) (.c 14 [.x (.v 0) (.int 0),.mx (.v 6) (.c 24 [.v 0,.v 1,.v 4])]),.i (.or (.m .gt (.v 11) (.v 7)) (.c 33 [.v 0,.v 3,.v 11])) [.ret .non] [],.ret (.v 11)]
abbrev eB:List CS:=[.a (.tup [.n 3,.n 4,.n 5,.n 6]) (.x (.v 0) (.int 0)),.a (.n 7) (.c 27 [.v 0]),.a (.n 8) (.b .add (.v 3) (.v 1)),.ret (.d (.m .lt (.v 8) (.e (.v 7))) (.m .gt (.b .sub (.v 2) (.v 4)) (.x (.v 7) (.v 8))))]
abbrev jH:List CS:=[.a (.n 2) (.c 31 [.v 0]),.i (.m .is (.v 2) .non) [.ret .non] [],.a (.n 3) (.c 36 [.v 0,.v 1,.c 23 [.v 0,.v 2],.c 20 [.v 0],.dic0]),.i (.m .is (.v 3) .non) [.ret .non] [],.a (.tup [.n 4,.n 5]) (.v 3),.f (.tup [.n 6,.n 7]) (.p (.rev (.v 2))) [.a (.n 4) (.c 35 [.v 1,.x (.x (.v 0) (.int 2)) (.v 6),.v 7,.v 4])],.ret (.tup [.v 4,.b .add (.x (.v 0) (.int 3)) (.v 5)])]
abbrev uM:List CS:=[.i (.m .eq (.v 0) (.str "last")) [.ret (.mx (.v 2) (.v 3))] [],.i (.m .eq (.v 0) (.str "cost")) [.ret (.b .add (.c 22 [.v 1,.v 2]) (.v 3))] [],.ret (.mx (.c 22 [.v 1,.v 2]) (.v 3))]
abbrev eN:List CS:=[.i (.n (.v 3)) [.ret (.tup [.int 0,.tup []])] [],.a (.n 5) (.tup [.v 2,.v 3]),.i (.m .o (.v 5) (.v 4)) [.a (.n 6) (.o ["number"] (.c 37 [.v 0,.v 1,.v 2,.v 3,.v 7,.v 4]) [{.n 7,.p (.v 3),aD}]),.j (.z (.o ["way"] (.v 7) [{.n 7,.p (.v 6),aw (.m .t (.v 7) .non)}])) (.v 4) (.v 5)] [],.ret (.x (.v 4) (.v 5))]
abbrev lx:List CS:=[.a (.n 6) (.c 32 [.v 0,.v 2,.v 4,.b .sub (.e (.x (.v 0) (.int 2))) (.e (.v 3))]),.i (.m .is (.v 6) .non) [.ret .non] [],.a (.n 7) (.x (.x (.v 0) (.int 2)) (.v 4)),.a (.n 8) (.c 36 [.v 0,.v 1,.tup [.x (.v 7) (.int 0),.v 6],.c 5 [.v 3,.v 4],.v 5]),.i (.m .is (.v 8) .non) [.ret .non] [],.ret (.tup [.c 35 [.v 1,.v 7,.v 6,.x (.v 8) (.int 0)],.b .add (.tup [.v 4]) (.x (.v 8) (.int 1))])]
abbrev iA:List CS:=[.ex (.c 21 [.v 0]),.a (.n 1) (.lst []),.f (.n 2) (.p (.c 42 [.v 0])) [.i (.d (.n (.c 44 [.v 2,.v 1])) (.n (.c 41 [.c 40 [.v 0,.v 2]]))) [.ex (.app (.v 1) (.v 2))] []],.ret (.v 1)]
abbrev fA:List CS:=[.a (.n 1) (.c 38 [.v 0]),.a (.n 2) (.lst []),.f (.n 3) (.p (.c 42 [.v 0])) [.i (.d (.n (.c 44 [.v 3,.v 2])) (.n (.c 44 [.c 43 [.v 0,.v 3],.v 1]))) [.ex (.app (.v 2) (.v 3))] []],.ret (.v 2)]
abbrev iB:List CS:=[.a (.tup [.n 2,.n 3,.n 4,.n 5]) (.v 0),.a (.n 6) (.t (.o ["number"] (.x (.v 4) (.v 7)) [{.n 7,.p (.v 1),aD}])),.ret (.tup [.v 2,.v 3,.v 6,.t (.o ["number"] (.idx (.v 1) (.v 7)) [{.n 7,.p (.v 5),aw (.m .s (.v 7) (.v 1))}])])]
abbrev yR:List CS:=[.ret (.m .t (.c 34 [.v 0,.str "last"]) .non)]
abbrev kz:CE×Pos×Str:=(.c 6 [.l (.e (.x (.v 0) (.int 2)))],Ev.UL (top 60), "all_lots.<locals>.<lambda>")
abbrev qM:List CS:=[.ret (.t (.o ["number"] (.v 2) [{.n 2,.r1 (.e (.x (.v 0) (.int 2))),aw (.m .o (.v 2) (.v 1))}]))]
abbrev gA:List CS:=[.ret (.any (.o ["other"] (.all (.o ["number"] (.m .s (.v 3) (.v 0)) [{.n 3,.p (.v 2),aD}])) [{.n 2,.p (.v 1),aD}]))]
abbrev iC:List CS:=[.i (.m .lt (.v 1) (.e (.v 0))) [.ret (.x (.v 0) (.v 1))] [],.ret (.int 0)]
abbrev qN:List CS:=[.i (.m .ge (.v 0) (.b .pow (.int 10) (.int 18))) [.ret (.lst [.b .sub (.v 0) (.b .pow (.int 10) (.int 18))])] [],.a (.n 1) (.int 0),.f (.n 2) (.r1 (.int 64)) [.a (.n 3) (.b .mod (.b .mul (.b .add (.b .add (.b .mod (.v 0) (.int 2147483629)) (.b .mul (.int 7919) (.v 2))) (.int 1)) (.int 48271)) (.int 2147483647)),.a (.n 3) (.b .mod (.b .add (.b .add (.b .mul (.v 3) (.v 3)) (.b .mul (.int 69621) (.v 2))) (.int 7)) (.int 2147483587)),.a (.n 1) (.b .add (.b .mul (.v 1) (.int 2147483587)) (.v 3))],.ret (.lst [.v 1])]
abbrev oE:List CS:=[.a (.n 2) (.b .mod (.x (.v 0) (.int 0)) (.v 1)),.j (.b .fdiv (.x (.v 0) (.int 0)) (.v 1)) (.v 0) (.int 0),.ret (.v 2)]
abbrev fK:List CS:=[.a (.tup [.n 1,.n 2]) (.tup [.b .add (.int 1) (.c 47 [.v 0,.int 4]),.x (.lst [.int 3,.int 12,.int 40]) (.c 47 [.v 0,.int 3])]),.a (.n 3) (.o ["_law_a"] (.o ["_law_b"] (.b .add (.int 1) (.c 47 [.v 0,.v 2])) [{.n 7,.r1 (.v 1),aD}]) [{.n 6,.r1 (.v 1),aD}]),.f (.n 4) (.r1 (.v 1)) [.f (.n 5) (.r1 (.v 1)) [.j (.o ["_law_b"] (.mn (.x (.x (.v 3) (.v 5)) (.v 6)) (.b .add (.x (.x (.v 3) (.v 5)) (.v 4)) (.x (.x (.v 3) (.v 4)) (.v 6)))) [{.n 6,.r1 (.v 1),aD}]) (.v 3) (.v 5)]],.ret (.t (.o ["_law_row"] (.t (.v 6)) [{.n 6,.p (.v 3),aD}]))]
abbrev jI:List CS:=[.a (.tup [.n 1,.n 2]) (.tup [.lst [],.int 0]),.f (.n 3) (.r1 (.c 47 [.v 0,.x (.lst [.int 1,.int 5]) (.c 47 [.v 0,.int 2])])) [.a (.n 4) (.b .add (.v 2) (.c 47 [.v 0,.int 25])),.ex (.app (.v 1) (.tup [.v 4,.b .add (.b .add (.v 4) (.int 1)) (.c 47 [.v 0,.int 25])])),.a (.n 2) (.b .add (.x (.x (.v 1) (.neg (.int 1))) (.int 1)) (.int 1))],.ret (.tup [.x (.lst [.int 8,.int 1,.int 2,.int 3,.int 0]) (.c 47 [.v 0,.int 5]),.x (.lst [.int 0,.int 2,.int 9,.int 60]) (.c 47 [.v 0,.int 4]),.c 48 [.v 0],.t (.v 1)])]
abbrev ic:List CS:=[.a (.tup [.n 2,.n 3]) (.tup [.c 49 [.v 0],.lst []]),.a (.tup [.n 4,.n 5]) (.tup [.x (.lst [.int 5,.int 20,.int 60]) (.c 47 [.v 0,.int 3]),.x (.lst [.int 4,.int 30,.int 90,.int 400]) (.c 47 [.v 0,.int 4])]),.f (.n 6) (.r1 (.c 47 [.v 0,.b .add (.v 1) (.int 1)])) [.a (.n 7) (.c 47 [.v 0,.v 4]),.a (.n 8) (.b .add (.b .add (.v 7) (.x (.v 2) (.int 1))) (.x (.lst [.int 0,.c 47 [.v 0,.int 9]]) (.c 47 [.v 0,.int 2]))),.a (.tup [.n 9,.n 10]) (.tup [.b .add (.v 8) (.c 47 [.v 0,.v 5]),.b .add (.v 7) (.c 47 [.v 0,.v 5])]),.ex (.app (.v 3) (.lst [.c 47 [.v 0,.e (.x (.v 2) (.int 2))],.v 7,.v 8,.v 9,.v 10,.x (.lst [.int 0,.int 1,.int 7,.int 99]) (.c 47 [.v 0,.int 4]),.int 0]))],.a (.tup [.n 11,.n 12]) (.tup [.l (.e (.v 3)),.lst []]),.f (.n 13) (.r1 (.x (.lst [.int 0,.c 47 [.v 0,.b .add (.e (.v 3)) (.int 1)]]) (.c 47 [.v 0,.int 2]))) [.ex (.app (.v 12) (.q (.v 11) (.c 47 [.v 0,.e (.v 11)]))),.i (.d (.m .gt (.x (.v 2) (.int 0)) (.int 0)) (.m .eq (.c 47 [.v 0,.int 3]) (.int 0))) [.j (.b .add (.int 1) (.c 47 [.v 0,.x (.v 2) (.int 0)])) (.x (.v 3) (.x (.v 12) (.neg (.int 1)))) (.int 6)] []],.a (.n 14) (.x (.lst [.non,.tup [.c 47 [.v 0,.e (.x (.v 2) (.int 2))],.c 47 [.v 0,.int 30]]]) (.c 47 [.v 0,.int 2])),.ret (.tup [.v 2,.v 14,.t (.o ["_law_one"] (.t (.v 15)) [{.n 15,.p (.v 3),aD}]),.t (.v 12)])]
abbrev oG:List CS:=[.f (.tup [.n 2,.n 3]) (.p (.v 0)) [.i (.h .le .lt (.v 2) (.v 1) (.v 3)) [.a (.n 1) (.v 3)] []],.ret (.v 1)]
abbrev lA:List CS:=[.ret (.o ["_law_one","_law_minute"] (.v 3) [{.tup [.n 3,.n 4],.p (.v 1),aw (.h .le .lt (.x (.x (.x (.v 0) (.int 2)) (.v 3)) (.int 1)) (.v 2) (.b .sub (.v 4) (.x (.x (.v 0) (.int 0)) (.int 1))))}])]
abbrev oH:List CS:=[.a (.n 4) (.x (.x (.x (.v 0) (.int 2)) (.v 2)) (.int 1)),.a (.n 5) (.b .add (.lst [.v 4]) (.o ["_law_one","_law_when"] (.x (.x (.x (.v 0) (.int 2)) (.v 7)) (.int 1)) [{.tup [.n 7,.n 8],.p (.v 1),aD}])),.a (.n 6) (.o ["_law_at"] (.b .add (.int 1) (.e (.c 52 [.v 0,.v 1,.v 7]))) [{.n 7,.p (.v 5),aw (.h .le .lt (.v 4) (.v 7) (.b .sub (.v 3) (.x (.x (.v 0) (.int 0)) (.int 1))))}]),.ret (.y (.v 6) 0)]
abbrev fL:List CS:=[.a (.tup [.n 4,.n 5,.n 6,.n 7]) (.sl (.x (.x (.v 0) (.int 2)) (.v 2)) aD (aw (.int 4))),.i (.m .t (.v 1) .non) [.a (.n 6) (.mx (.v 6) (.b .add (.x (.v 1) (.int 1)) (.x (.x (.x (.x (.v 0) (.int 0)) (.int 2)) (.x (.v 1) (.int 0))) (.v 4))))] [],.a (.n 8) (.c 51 [.x (.x (.v 0) (.int 0)) (.int 3),.v 6]),.a (.n 9) (.sl (.srt (.o ["_law_one"] (.x (.v 10) (.int 1)) [{.n 10,.p (.x (.v 0) (.int 2)),aD}])) (aw (.b .add (.x (.x (.v 0) (.int 0)) (.int 0)) (.v 3))) aD),.i (.or (.m .gt (.v 8) (.v 7)) (.d (.m .ne (.v 9) (.lst [])) (.m .gt (.b .sub (.v 8) (.x (.x (.v 0) (.int 0)) (.int 1))) (.x (.v 9) (.int 0))))) [.ret .non] [],.ret (.v 8)]
abbrev iE:List CS:=[.a (.tup [.n 2,.n 3]) (.tup [.x (.v 0) (.int 1),.lst []]),.f (.tup [.n 4,.n 5]) (.en (.v 1)) [.a (.tup [.n 6,.n 7]) (.tup [.c 54 [.v 0,.v 2,.v 5,.v 4],.x (.x (.x (.v 0) (.int 2)) (.v 5)) (.int 6)]),.i (.or (.m .is (.v 6) .non) (.h .lt .lt (.int 0) (.v 7) (.c 53 [.v 0,.v 3,.v 5,.v 6]))) [.ret (.tup [.str "stuck",.v 4])] [],.ex (.app (.v 3) (.tup [.v 5,.v 6])),.a (.n 2) (.tup [.x (.x (.x (.v 0) (.int 2)) (.v 5)) (.int 0),.v 6])],.ret (.tup [.str "lands",.v 3])]
abbrev lB:List CS:=[.i (.m .eq (.v 2) (.str "last")) [.ret (.y (.o ["_law_one","_law_minute"] (.v 4) [{.tup [.n 3,.n 4],.p (.v 1),aD}]) 0)] [],.ret (.sm (.o ["_law_one","_law_minute"] (.b .mul (.x (.x (.x (.v 0) (.int 2)) (.v 3)) (.int 5)) (.mx (.int 0) (.b .sub (.v 4) (.x (.x (.x (.v 0) (.int 2)) (.v 3)) (.int 4))))) [{.tup [.n 3,.n 4],.p (.v 1),aD}]))]
abbrev bA:List CS:=[.a (.tup [.n 2,.n 3]) (.tup [.c 55 [.v 0,.x (.v 0) (.int 3)],.non]),.a (.n 4) (.ite (.m .eq (.x (.v 2) (.int 0)) (.str "lands")) (.lst [.tup [.x (.v 0) (.int 3),.x (.v 2) (.int 1)]]) (.lst [])),.g (.m .ne (.v 4) (.lst [])) [.a (.tup [.n 5,.n 6]) (.pop (.v 4)),.a (.n 7) (.ite (.m .eq (.v 5) (.tup [])) (.x (.v 0) (.int 1)) (.tup [.x (.x (.x (.v 0) (.int 2)) (.x (.v 5) (.neg (.int 1)))) (.int 0),.x (.x (.v 6) (.neg (.int 1))) (.int 1)])),.i (.m .eq (.e (.v 5)) (.e (.x (.v 0) (.int 2)))) [.a (.n 8) (.c 56 [.v 0,.v 6,.v 1]),.i (.or (.m .is (.v 3) .non) (.m .lt (.v 8) (.x (.v 3) (.int 0)))) [.a (.n 3) (.tup [.v 8,.v 5])] []] [],.f (.n 9) (.dn (.b .sub (.e (.x (.v 0) (.int 2))) (.int 1))) [.i (.m .o (.v 9) (.v 5)) [.a (.n 10) (.c 54 [.v 0,.v 7,.v 9,.e (.v 5)]),.i (.m .t (.v 10) .non) [.ex (.app (.v 4) (.tup [.b .add (.v 5) (.tup [.v 9]),.b .add (.v 6) (.lst [.tup [.v 9,.v 10]])]))] []] []]],.ret (.v 3)]
abbrev gC:List CS:=[.a (.tup [.n 2,.n 3,.n 4,.n 5]) (.v 0),.a (.n 6) (.t (.o ["_law_one"] (.idx (.v 1) (.v 7)) [{.n 7,.p (.v 5),aw (.m .s (.v 7) (.v 1))}])),.ret (.tup [.v 2,.v 3,.t (.o ["_law_one"] (.x (.v 4) (.v 7)) [{.n 7,.p (.v 1),aD}]),.v 6])]
abbrev lH:List CS:=[.ret (.m .t (.c 57 [.c 58 [.v 0,.v 1],.str "last"]) .non)]
abbrev oI:List CS:=[.a (.n 1) (.lst [.tup []]),.f (.n 2) (.r1 (.v 0)) [.a (.n 1) (.b .add (.v 1) (.o ["_law_lot"] (.b .add (.v 3) (.tup [.v 2])) [{.n 3,.p (.v 1),aD}]))],.ret (.o ["_law_long","_law_lot"] (.v 4) [{.tup [.n 3,.n 4],.p (.srt (.o ["_law_lot"] (.tup [.e (.v 3),.v 3]) [{.n 3,.p (.v 1),aD}])),aD}])]
abbrev iG:List CS:=[.a (.tup [.n 1,.n 2,.n 3,.n 4]) (.c 50 [.v 0,.int 5]),.a (.n 5) (.x (.lst [.int 1,.int 4,.int 25]) (.c 47 [.v 0,.int 3])),.a (.n 6) (.o ["_law_one"] (.b .add (.b .add (.sl (.v 7) aD (aw (.int 3))) (.tup [.b .add (.x (.v 7) (.int 2)) (.c 47 [.v 0,.v 5])])) (.sl (.v 7) (aw (.int 4)) aD)) [{.n 7,.p (.v 3),aD}]),.ret (.tup [.v 1,.v 2,.t (.v 6),.v 4])]
abbrev sE:List CS:=[.ret (.any (.o ["_law_other"] (.all (.o ["_law_one"] (.m .s (.v 3) (.v 0)) [{.n 3,.p (.v 2),aD}])) [{.n 2,.p (.v 1),aD}]))]
abbrev fB:List CS:=[.a (.n 1) (.u (.e (.x (.v 0) (.int 2)))),.a (.n 2) (.k (.o ["_law_lot"] (.tup [.v 6,.c 59 [.v 0,.v 6]]) [{.n 6,.p (.c 60 [.e (.x (.v 0) (.int 2))]),aD}])),.a (.tup [.n 3,.n 4]) (.tup [.lst [],.lst []]),.f (.n 5) (.dk (.v 2)) [.i (.d (.n (.x (.v 2) (.v 5))) (.n (.c 62 [.v 5,.v 3]))) [.ex (.app (.v 3) (.v 5))] [],.i (.d (.x (.v 2) (.t (.o ["_law_one"] (.v 6) [{.n 6,.p (.v 1),aw (.m .o (.v 6) (.v 5))}]))) (.n (.c 62 [.v 5,.v 4]))) [.ex (.app (.v 4) (.v 5))] []],.ret (.lst [.v 3,.v 4])]
abbrev K1:List CS:=[.f (.n 1) (.r1 (.mx (.int 1) (.mn (.e (.v 0)) (.int 3)))) [.a (.n 2) (.c 46 [.c 45 [.v 0,.v 1]]),.a (.n 3) (.c 61 [.v 2]),.a (.tup [.n 4,.n 5]) (.tup [.rep (.v 3),.rep (.c 63 [.v 3])]),.f (.n 6) (.r1 (.int 2)) [.a (.n 7) (.lst [.c 38 [.v 3],.c 39 [.v 3]]),.i (.or (.m .ne (.rep (.v 7)) (.v 5)) (.m .ne (.rep (.v 3)) (.v 4))) [.ret (.bl aS)] [],.f (.n 8) (.p (.v 7)) [.ex (.ins (.v 8) (.int 0) (.tup [.int 7]))]]],.ret (.bl aN)]
abbrev iU:DefE:={"is_whole",top 5,["thing"],["thing"],oq,aD}
abbrev gD:DefE:={"is_within",top 6,["thing","least","most"],["thing","least","most"],k8,aD}
abbrev gF:DefE:={"is_minute",top 7,["thing"],["thing"],k9,aD}
abbrev iV:DefE:={"is_tuple",top 8,["thing","least","most"],["thing","least","most"],ou,aD}
abbrev fM:DefE:={"are_unlike",top 9,["thing","many"],["thing","many"],jE,aD}
abbrev kB:DefE:={"without",top 10,["numbers","number"],["numbers","number"],qI,aD}
abbrev kC:DefE:={"lots_of",top 11,["numbers","lots","number"],["numbers"],qJ,aD}
abbrev gG:DefE:={"is_meadow",top 18,["thing","rings","sink","gaps","shuts"],["thing"],lc,aD}
abbrev iW:DefE:={"are_gaps",top 19,["thing"],["thing"],ow,aD}
abbrev fN:DefE:={"is_gap_row",top 20,["thing","many"],["thing","many"],jF,aD}
abbrev bu:DefE:={"no_glider_between_helps",top 21,["gaps","kinds"],["gaps"],bT,aD}
abbrev gH:DefE:={"are_shuts",top 22,["thing"],["thing"],lh,aD}
abbrev fO:DefE:={"is_stretch",top 23,["thing"],["thing"],jG,aD}
abbrev kE:DefE:={"is_kind",top 24,["meadow","thing"],["meadow","thing"],qK,aD}
abbrev cG:DefE:={"first_not_shut",top 25,["meadow","minute","begin","end"],["meadow","minute"],fu,aD}
abbrev oJ:DefE:={"is_sky",top 29,["thing","meadow","ahead","gliders","fixed"],["thing"],uL,aD}
abbrev iX:DefE:={"is_ahead",top 30,["meadow","thing"],["meadow","thing"],oB,aD}
abbrev eO:DefE:={"are_gliders",top 31,["meadow","thing"],["meadow","thing"],iw,aD}
abbrev gI:DefE:={"is_glider",top 32,["meadow","thing","kind","joins","first","last","due","weight","ring"],["meadow","thing"],lj,aD}
abbrev gJ:DefE:={"are_fixed",top 33,["gliders","thing"],["gliders","thing"],ll,aD}
abbrev gK:DefE:={"free_ones",top 34,["sky"],["sky"],lm,aD}
abbrev gL:DefE:={"check_sky",top 35,["thing"],["thing"],lu,aD}
abbrev pT:DefE:={"glider_cost",top 37,["glider","minute","kind","joins","first","last","due","weight","ring"],["glider","minute"],pS,aD}
abbrev c6:DefE:={"landing_ahead",top 38,["sky","sooner","number","minute"],["sky","sooner"],fZ,aD}
abbrev kF:DefE:={"gap_end",top 39,["sky","ahead","kind"],["sky","ahead","kind"],qL,aD}
abbrev iY:DefE:={"waits_at",top 40,["sky","landing","minute","number","lands"],["sky","landing","minute"],oC,aD}
abbrev c7:DefE:={"how_many_wait",top 41,["sky","landings","minute"],["sky","landings","minute"],f7,aD}
abbrev cw:DefE:={"joining_minutes",top 42,["sky"],["sky"],dZ,aD}
abbrev eP:DefE:={"is_too_high",top 43,["sky","landings","place","kind","joins","first","last","due","weight","ring"],["sky","landings","place"],iy,aD}
abbrev eS:DefE:={"ring_needed",top 44,["sky","landings","place","minute","sooner","later"],["sky","landings","place","minute"],iz,aD}
abbrev cb:DefE:={"soonest_landings",top 46,["sky","numbers","landings","place","number","minute"],["sky","numbers"],dJ,aD}
abbrev cH:DefE:={"fixed_landings",top 47,["sky","landings"],["sky"],fv,aD}
abbrev cI:DefE:={"soonest_minute",top 48,["sky","ahead","number","place","kind","joins","first","last","due","weight","ring","minute"],["sky","ahead","number","place"],fw,aD}
abbrev cy:DefE:={"leaves_too_late",top 49,["sky","place","minute","rings","sink","gaps","shuts","joins","one_too_many"],["sky","place","minute"],eB,aD}
abbrev fP:DefE:={"best_order",top 51,["sky","aim","landings","best","number","order","glider","minute"],["sky","aim"],jH,aD}
abbrev oK:DefE:={"joined",top 52,["aim","glider","minute","number"],["aim","glider","minute","number"],uM,aD}
abbrev bZ:DefE:={"best_behind",top 53,["sky","aim","ahead","left","known","key","ways"],["sky","aim","ahead","left","known"],eN,aD}
abbrev gM:DefE:={"best_with",top 54,["sky","aim","ahead","left","number","known","minute","glider","best"],["sky","aim","ahead","left","number","known"],lx,aD}
abbrev eU:DefE:={"least_stuck",top 56,["sky","found","lot"],["sky"],iA,aD}
abbrev cJ:DefE:={"least_sendings",top 57,["sky","stuck","found","lot"],["sky"],fA,aD}
abbrev eV:DefE:={"narrowed_to",top 58,["sky","lot","meadow","ahead","gliders","fixed","kept"],["sky","lot"],iB,aD}
abbrev sF:DefE:={"lands",top 59,["sky"],["sky"],yR,aD}
abbrev fQ:DefE:={"all_lots",top 60,["sky"],["sky"],[],aw kz}
abbrev kG:DefE:={"all_but",top 61,["sky","lot"],["sky","lot"],qM,aD}
abbrev lJ:DefE:={"holds_one",top 62,["lot","others"],["lot","others"],gA,aD}
abbrev eW:DefE:={"_law_cell_at",top 64,["_law_script","_law_k"],["_law_script","_law_k"],iC,aD}
abbrev kH:DefE:={"_law_pot",top 65,["_law_cell","_law_number","_law_j","_law_more"],["_law_cell"],qN,aD}
abbrev iZ:DefE:={"_law_take",top 66,["_law_pot_here","_law_wide","_law_found"],["_law_pot_here","_law_wide"],oE,aD}
abbrev i6:DefE:={"_law_gaps",top 67,["_law_pot_here","_law_many","_law_far","_law_found","_law_c","_law_a"],["_law_pot_here"],fK,aD}
abbrev fR:DefE:={"_law_meadow",top 68,["_law_pot_here","_law_shuts","_law_at","_law_turn","_law_begin"],["_law_pot_here"],jI,aD}
abbrev kI:DefE:={"_law_sky",top 69,["_law_pot_here","_law_most","_law_meadow_here","_law_gliders","_law_wide","_law_long","_law_number","_law_joins","_law_first","_law_last","_law_due_here","_law_left","_law_fixed","_law_turn","_law_ahead"],["_law_pot_here","_law_most"],ic,aD}
abbrev i7:DefE:={"_law_open",top 70,["_law_shuts","_law_minute","_law_begin","_law_end"],["_law_shuts","_law_minute"],oG,aD}
abbrev gN:DefE:={"_law_waits",top 71,["_law_sky_here","_law_landed","_law_at"],["_law_sky_here","_law_landed","_law_at"],lA,aD}
abbrev i8:DefE:={"_law_need",top 72,["_law_sky_here","_law_landed","_law_number","_law_minute","_law_joins","_law_known","_law_counts"],["_law_sky_here","_law_landed","_law_number","_law_minute"],oH,aD}
abbrev i9:DefE:={"_law_step",top 73,["_law_sky_here","_law_ahead","_law_number","_law_place","_law_kind","_law_joins","_law_first","_law_last","_law_minute","_law_late"],["_law_sky_here","_law_ahead","_law_number","_law_place"],fL,aD}
abbrev eX:DefE:={"_law_soonest",top 74,["_law_sky_here","_law_order","_law_ahead","_law_landed","_law_place","_law_number","_law_minute","_law_ring"],["_law_sky_here","_law_order"],iE,aD}
abbrev gO:DefE:={"_law_worth",top 75,["_law_sky_here","_law_landed","_law_aim"],["_law_sky_here","_law_landed","_law_aim"],lB,aD}
abbrev ja:DefE:={"_law_best",top 76,["_law_sky_here","_law_aim","_law_start","_law_found","_law_left","_law_order","_law_landed","_law_ahead","_law_worth_here","_law_number","_law_minute"],["_law_sky_here","_law_aim"],bA,aD}
abbrev dM:DefE:={"_law_narrowed",top 77,["_law_sky_here","_law_lot","_law_meadow_here","_law_ahead","_law_gliders","_law_fixed","_law_kept"],["_law_sky_here","_law_lot"],gC,aD}
abbrev gP:DefE:={"_law_lands",top 78,["_law_sky_here","_law_lot"],["_law_sky_here","_law_lot"],lH,aD}
abbrev jb:DefE:={"_law_lots",top 79,["_law_many","_law_found","_law_one"],["_law_many"],oI,aD}
abbrev eY:DefE:={"_law_crowded",top 80,["_law_pot_here","_law_meadow_here","_law_ahead","_law_gliders","_law_fixed","_law_far","_law_some"],["_law_pot_here"],iG,aD}
abbrev jJ:DefE:={"_law_within",top 81,["_law_lot","_law_others"],["_law_lot","_law_others"],sE,aD}
abbrev kJ:DefE:={"_law_due",top 82,["_law_sky_here","_law_every","_law_lands_here","_law_stuck","_law_sent","_law_lot"],["_law_sky_here"],fB,aD}
abbrev yS:DefE:={"law",top 83,["_law_script","_law_k","_law_pot_here","_law_sky_here","_law_kept","_law_due_here","_law_turn","_law_found","_law_some"],["_law_script"],K1,aD}
abbrev ab:List DefE:=[iU,gD,gF,iV,fM,kB,kC,gG,iW,fN,bu,gH,fO,kE,cG,oJ,iX,eO,gI,gJ,gK,gL,pT,c6,kF,iY,c7,cw,eP,eS,cb,cH,cI,cy,fP,oK,bZ,gM,eU,cJ,eV,sF,fQ,kG,lJ,eW,kH,iZ,i6,fR,kI,i7,gN,i8,i9,eX,gO,ja,dM,gP,jb,eY,jJ,kJ,yS]
abbrev con:List (Str×Int):=[("LAST_MINUTE",9999),("MOST_RINGS",8),("MOST_SINK",60),("MOST_KINDS",4),("MOST_GAP",99),("MOST_SHUTS",4),("MOST_GLIDERS",7),("MOST_WEIGHT",99)]
def chk:ab.all (Hr (yM con ab))=aN:=by kernel_rfl
def UO:Hs con ab:=Ht (f:=42) (dz:=fQ) (z:=kz) rfl rfl (by kernel_rfl) {_,_,_,_,_,_,_,_,_,_,_,_,_,_,rfl,by kernel_rfl,by kernel_rfl,λ_ _ _ _=>rfl,λ_ _ _=>rfl,λ_=>rfl,λ_=>rfl}
def us1:∀ {u:List Value},u.length=1->∃b,u=[b]
 |[b],_=>⟨b,rfl⟩
def us2:∀ {u:List Value},u.length=2->∃b c,u=[b,c]
 |[b,c],_=>⟨b,c,rfl⟩
def us3:∀ {u:List Value},u.length=3->∃c d b,u=[c,d,b]
 |[c,d,b],_=>⟨c,d,b,rfl⟩
def us4:∀ {u:List Value},u.length=4->∃c b f d,u=[c,b,f,d]
 |[c,b,f,d],_=>⟨c,b,f,d,rfl⟩
def us5:∀ {u:List Value},u.length=5->∃c b f d h,u=[c,b,f,d,h]
 |[c,b,f,d,h],_=>⟨c,b,f,d,h,rfl⟩
def us6:∀ {u:List Value},u.length=6->∃d b h f j c,u=[d,b,h,f,j,c]
 |[d,b,h,f,j,c],_=>⟨d,b,h,f,j,c,rfl⟩
def bind:AM ab:=by
 repeat' apply And.intro
 all_goals first |trivial |(intro _ _ _ _ _ _ u h;first |(let{_,rfl}:=us1 h;rfl) |(let{_,_,rfl}:=us2 h;rfl) |(let{_,_,_,rfl}:=us3 h;rfl) |(let{_,_,_,_,rfl}:=us4 h;rfl) |(let{_,_,_,_,_,rfl}:=us5 h;rfl) |(let{_,_,_,_,_,_,rfl}:=us6 h;rfl))
end Lw
section
open PySem PySem.W PyProof.Rows
noncomputable abbrev Lw.view:Program:={PySem.Challenge.pw_downrings_k53_least_stuck_and_least_send with main:={PySem.Challenge.pw_downrings_k53_least_stuck_and_least_send.main with body:=[Lw.top 83]}}
noncomputable abbrev Lw.loose:List PySem.Str:=List.map PySem.Str.ofString ["is_whole","is_within","is_minute","is_tuple","are_unlike","without","lots_of","is_meadow","are_gaps","is_gap_row","no_glider_between_helps","are_shuts","is_stretch","is_kind","first_not_shut","is_sky","is_ahead","are_gliders","is_glider","are_fixed","free_ones","check_sky","glider_cost","landing_ahead","gap_end","waits_at","how_many_wait","joining_minutes","is_too_high","ring_needed","soonest_landings","fixed_landings","soonest_minute","leaves_too_late","best_order","joined","best_behind","best_with","least_stuck","least_sendings","narrowed_to","lands","all_lots","all_but","holds_one","_law_cell_at","_law_pot","_law_take","_law_gaps","_law_meadow","_law_sky","_law_open","_law_waits","_law_need","_law_step","_law_soonest","_law_worth","_law_best","_law_narrowed","_law_lands","_law_lots","_law_crowded","_law_within","_law_due","LAST_MINUTE","MOST_RINGS","MOST_SINK","MOST_KINDS","MOST_GAP","MOST_SHUTS","MOST_GLIDERS","MOST_WEIGHT","RingError","NoSky"]
set_option maxHeartbeats 0 in
def Lw.said:PySem.Challenge.rw_downrings_k53_least_stuck_and_least_send.wellSaid=aN:=by kernel_rfl
set_option maxHeartbeats 0 in
def Lw.head(h:∀ns:List Int,ns.length<=63->∃b,Ev.evC Lw.ab 40 64 [.ref 0] [.frz (ns.map Ev.D.int),.tbl "all_lots" Lw.kz.2.1 Lw.kz.2.2]=aw (.bl aN,b)):PySem.Challenge.rw_downrings_k53_least_stuck_and_least_send.Holds:=by
 w_on;refine holds_law Lw.said λsaid=>?_
 refine holds_open (q:=Lw.view) (loose:=Lw.loose) (Xt:=(λs=>xlAt Lw.view [] s && recOk (RowW.records PySem.Challenge.rw_downrings_k53_least_stuck_and_least_send.row.toRowW) s)) (XP:=XL Lw.view []) (Yf:=(Hook.obs (Ev.sD Lw.con Lw.ab Lw.bind))) (Ya:=(Hook.val (Ev.sD Lw.con Lw.ab Lw.bind))) (YP:=Hook.says (Ev.sD Lw.con Lw.ab Lw.bind)) (N:=20000) ?hl (Hook.of _) (Hook.keeps _) (λs e=>xl_of s (Wa.mp e).1) XL.keeps (by rfl) (by rfl) (by rfl) (λs e=>recFacts_of (Wa.mp e).2) (by rfl) (by first |assumption |decide +kernel) (by decide +kernel) {rfl,rfl,rfl,rfl,rfl,by decide +kernel} ?hw ?hc
 case hw=>w_witness2
 case hl=>exactλw=>by kernel_rfl
 case hc=>exact Ev.Hx (l:=PySem.Challenge.rw_downrings_k53_least_stuck_and_least_send) (n:=63) (k:=40) (i:=64) (dl:=Lw.yS) rfl (by decide) rfl {rfl,by decide,by decide,rfl} rfl rfl rfl Lw.chk Lw.UO (dz:=Lw.fQ) (z:=Lw.kz) (Zd (i:=42) rfl) rfl (by kernel_rfl) h
end
namespace Ev
open PySem PySem.Spec PyProof.Rows L2
abbrev Ok{b:Type}(x:Option (b×Sto))(Q:b->Sto->Prop):Prop:=∃a S,x=aw (a,S)/\Q a S
abbrev OkS(x:Option (Fl×Rho×Sto))(Q:Fl->Rho->Sto->Prop):Prop:=∃f b S,x=aw (f,b,S)/\Q f b S
section
variable {g j:Type} {S s:Sto} {ρ l:Rho}
def aK{a:g}{Q:g->Sto->Prop}:Ok (aw (a,S)) Q=Q a S:=by
 apply propext;exact{λ⟨_,_,e,q⟩=>by cases e;exact q,λq=>⟨a,S,rfl,q⟩}
def bh{Q:g->Sto->Prop}:Ok aD Q=False:=propext {λ⟨_,_,e,_⟩=>(nomatch e),λh=>h.elim}
def bJ{x:Option (g×Sto)}{f:g->Sto->Option (j×Sto)}{Q:j->Sto->Prop}:Ok (bnd x f) Q=Ok x λa S=>Ok (f a S) Q:=by
 apply propext;constructor
 .rintro⟨b,s,e,q⟩;let{a,S,c,E}:=ac e;exact⟨a,S,c,b,s,E,q⟩
 .rintro⟨a,S,c,b,s,E,q⟩;exact⟨b,s,by rw[c];exact E,q⟩
def dN{c:Prop}[Decidable c]{x y:Option (g×Sto)}{Q:g->Sto->Prop}:Ok (if c then x else y) Q=if c then Ok x Q else Ok y Q:=by split <;> rfl
def NL{x:Option j}{f:j->g×Sto}{Q:g->Sto->Prop}:Ok (x.map f) Q=∃b,x=aw b/\Q (f b).1 (f b).2:=by
 apply propext;cases x with
 |none=>exact{λ⟨_,_,e,_⟩=>(nomatch e),λ⟨_,e,_⟩=>(nomatch e)}
 |some b=>exact{λ⟨a,S,e,q⟩=>{b,rfl,by let E:=Option.some.inj e;rw[E];exact q},λ⟨B,e,q⟩=>by cases e;exact⟨_,_,rfl,q⟩}
def Ok.mono{x:Option (g×Sto)}{Q Q':g->Sto->Prop}(h:Ok x Q)(f:∀a S,Q a S->Q' a S):Ok x Q':=let ⟨a,S,e,q⟩:=h;{a,S,e,f a S q}
def OkS.mono{x:Option (Fl×Rho×Sto)}{Q Q':Fl->Rho->Sto->Prop}(h:OkS x Q)(f:∀a ρ S,Q a ρ S->Q' a ρ S):OkS x Q':=let ⟨a,ρ,S,e,q⟩:=h;{a,ρ,S,e,f a ρ S q}
abbrev nxt(y:XS)(Q:Fl->Rho->Sto->Prop)(f:Fl)(ρ:Rho)(S:Sto):Prop:=match f with
 |.nx=>OkS (y ρ S) Q
 |f=>Q f ρ S
def Hy{x y:XS}{Q:Fl->Rho->Sto->Prop}:OkS (CC x y ρ S) Q=OkS (x ρ S) (nxt y Q):=by
 apply propext;delta CC;constructor
 .rintro⟨f,b,c,e,q⟩;split at e
  .cases e
  .rename_i d k h;exact⟨_,_,_,h,f,b,c,e,q⟩
  .rename_i r n h;cases e;cases f with
   |nx=>exact absurd rfl (n b c)
   |_=>exact⟨_,_,_,h,q⟩
 .rintro⟨f,b,c,e,q⟩;rw[e];cases f with
  |nx=>exact q
  |_=>exact⟨_,_,_,rfl,q⟩
def NM{c:XT}{x y:XS}{Q:Fl->Rho->Sto->Prop}:OkS (xIf c x y ρ S) Q=Ok (c ρ S) λb d=>if b=aN then OkS (x ρ d) Q else OkS (y ρ d) Q:=by
 apply propext;delta xIf;constructor
 .rintro⟨f,k,d,e,q⟩;cases h:c ρ S with
  |none=>rw[h]at e;cases e
  |some r=>
   let{b,n}:=r;rw[h]at e;calc{b,n,rfl,?_};dsimp! at e ⊢;split
   .rename_i hb;rw[if_pos hb]at e;exact⟨f,k,d,e,q⟩
   .rename_i hb;rw[if_neg hb]at e;exact⟨f,k,d,e,q⟩
 .rintro⟨b,n,e,q⟩;rw[e];dsimp!;split
  .rename_i hb;rw[if_pos hb]at q;exact q
  .rename_i hb;rw[if_neg hb]at q;exact q
def Hz{x:XE}{t:Tg}{Q:Fl->Rho->Sto->Prop}:OkS (pL x t ρ S) Q=Ok (x ρ S) λd S1=>∃b,aA t d ρ=aw b/\Q .nx b S1:=by
 apply propext;delta pL;constructor
 .rintro⟨f,b,S1,e,q⟩;cases h:x ρ S with
  |none=>rw[h]at e;cases e
  |some r=>
   let{d,n}:=r;rw[h]at e;dsimp! at e;cases c:aA t d ρ with
   |none=>rw[c]at e;cases e
   |some k=>rw[c]at e;cases e;exact⟨d,_,rfl,b,c,q⟩
 .rintro⟨d,n,e,b,E,q⟩;rw[e];dsimp!;rw[E];exact⟨_,_,_,rfl,q⟩
def DM{x:XE}{Q:Fl->Rho->Sto->Prop}:OkS (uq x ρ S) Q=Ok (x ρ S) λ_ S1=>Q .nx ρ S1:=by
 apply propext;delta uq;constructor
 .rintro⟨f,b,S1,e,q⟩;cases h:x ρ S with
  |none=>rw[h]at e;cases e
  |some r=>rw[h]at e;cases e;exact⟨_,_,rfl,q⟩
 .rintro⟨d,c,e,q⟩;rw[e];exact⟨_,_,_,rfl,q⟩
def HA{x:XE}{Q:Fl->Rho->Sto->Prop}:OkS (CD x ρ S) Q=Ok (x ρ S) λd S1=>Q (.rt d) ρ S1:=by
 apply propext;delta CD;constructor
 .rintro⟨f,b,S1,e,q⟩;cases h:x ρ S with
  |none=>rw[h]at e;cases e
  |some r=>rw[h]at e;cases e;exact⟨_,_,rfl,q⟩
 .rintro⟨d,c,e,q⟩;rw[e];exact⟨_,_,_,rfl,q⟩
def DN{v o i:XE}{Q:Fl->Rho->Sto->Prop}:OkS (ur v o i ρ S) Q=Ok (v ρ S) λa d=>Ok (o ρ d) λb p=>Ok (i ρ p) λc y=>∃S4,kj b c a y=aw S4/\Q .nx ρ S4:=by
 apply propext;delta ur;constructor
 .rintro⟨f,B,d,e,q⟩;cases h:v ρ S with
  |none=>rw[h]at e;cases e
  |some r=>
   rw[h]at e;dsimp! at e;cases k:o ρ r.2 with
   |none=>rw[k]at e;cases e
   |some r2=>
    rw[k]at e;dsimp! at e;cases n:i ρ r2.2 with
    |none=>rw[n]at e;cases e
    |some u=>
     rw[n]at e;dsimp! at e;cases h4:kj r2.1 u.1 r.1 u.2 with
     |none=>rw[h4]at e;cases e
     |some S4=>rw[h4]at e;cases e;exact⟨_,_,rfl,_,_,k,_,_,n,_,h4,q⟩
 .rintro⟨a,d,I,b,p,C,c,y,z,S4,E,q⟩;rw[I];dsimp!;rw[C];dsimp!;rw[z];dsimp!;rw[E];exact⟨_,_,_,rfl,q⟩
def HB{it:XI}{T:Tg}{b:XS}{k:Nat}{Q:Fl->Rho->Sto->Prop}:OkS (CF it T b k ρ S) Q=Ok (it ρ S) λnx c=>OkS (eJ nx T b k 0 ρ c) Q:=by
 apply propext;delta CF;constructor
 .rintro⟨f,n,c,e,q⟩;cases h:it ρ S with
  |none=>rw[h]at e;cases e
  |some r=>rw[h]at e;exact⟨_,_,rfl,_,_,_,e,q⟩
 .rintro⟨d,p,e,q⟩;rw[e];exact q
abbrev out(Q:D->Sto->Prop)(f:Fl)(_:Rho)(S:Sto):Prop:=match f with
 |.rt v=>Q v S
 |.nx=>Q .non S
 |_=>False
def NN{Q:D->Sto->Prop}{d:D}:out Q (.rt d) ρ S=Q d S:=rfl
def NP{Q:D->Sto->Prop}:out Q .nx ρ S=Q .non S:=rfl
def av{ab:List DefE}{k f:Nat}{d:DefE}{c:List D}{Q:D->Sto->Prop}(hd:ab[f]?=aw d)(b:c.map aw++ZP (d.N.length - c.length) aD=ρ)(h:OkS (eM (evC ab k) (cu ab) 60 d.body ρ S) (out Q))(u:d.ks=aD:=by rfl):Ok (evC ab (k+1) f c S) Q:=by
 subst b;simp![evC,hd,u,ND];let{p,n,y,e,q}:=h;show Ok (match eM (evC ab k) (cu ab) FU d.body _ S with |some (.rt v,_,s)=>aw (v,s) |some (.nx,_,s)=>aw (.non,s) |_=>aD) Q;delta FU;rw[e];cases p with
 |rt v=>exact⟨_,_,rfl,q⟩
 |nx=>exact⟨_,_,rfl,q⟩
 |bk=>exact q.elim
 |ct=>exact q.elim
def qO{nx:Nxt}{T:Tg}{c:XA}{N:Nat}(I:Nat->List D->Sto->Prop)
  (step:∀i b S,i < N->I i b S->∃d f,nx i S=aw (aw d)/\aA T d ρ=aw f/\Ok (c f S) λE p=>I (i+1) (b++E) p) (stop:∀b S,I N b S->nx N S=aw aD) :
  ∀ (n i k:Nat) (b:List D) (S:Sto),N=i+n->n < k->I i b S->Ok (bC nx T c ρ k i S) λE s=>I N (b++E) s
 |0,i,k+1,b,S,hN,hk,h=>by
  obtain rfl:N=i:=by omega
  simp![bC,stop b S h];exact{_,_,rfl,by show I _ (b++[]) S;rw[Z8];exact h}
 |n+1,i,k+1,b,S,hN,hk,h=>by
  let{d,f,J,y,E,p,C,v}:=step i b S (by omega) h;simp![bC,J,y,C,bnd];let{z,u,q,B}:=qO I step stop n (i+1) k (b++E) p (by omega) (by omega) v;simp![q];exact{_,_,rfl,by show I _ (b++(E++z)) u;rw[<-Yk];exact B}
def gQ{nx:Nxt}{T:Tg}{c:XA}{k:Nat}(N:Nat)(I:Nat->List D->Sto->Prop)(p:N < k)
  (step:∀i b S,i < N->I i b S->∃d f,nx i S=aw (aw d)/\aA T d ρ=aw f/\Ok (c f S) λE n=>I (i+1) (b++E) n) (stop:∀b S,I N b S->nx N S=aw aD) (h:I 0 [] S) :
  Ok (bC nx T c ρ k 0 S) (I N):=(qO I step stop N 0 k [] S (by omega) p h).mono λE s z=>by rw[XZ]at z;exact z
def oM{nx:Nxt}{T:Tg}{b:XS}{N:Nat}{Q:Fl->Rho->Sto->Prop}(I:Nat->Rho->Sto->Prop)
  (step:∀i ρ S,i < N->I i ρ S->∃d p,nx i S=aw (aw d)/\aA T d ρ=aw p/\OkS (b p S) λu c f=>match u with |.nx=>I (i+1) c f |.ct=>I (i+1) c f |.bk=>Q .nx c f |.rt d=>Q (.rt d) c f)
  (stop:∀ρ S,I N ρ S->nx N S=aw aD/\Q .nx ρ S) :
  ∀ (n i k:Nat) (ρ:Rho) (S:Sto),N=i+n->n < k->I i ρ S->OkS (eJ nx T b k i ρ S) Q
 |0,i,k+1,ρ,S,hN,hk,h=>by
  obtain rfl:N=i:=by omega
  simp![eJ,(stop ρ S h).1];exact{_,_,_,rfl,(stop ρ S h).2}
 |n+1,i,k+1,ρ,S,hN,hk,h=>by
  let{d,p,E,y,u,c,f,v,q}:=step i ρ S (by omega) h;simp![eJ,E,y,v];cases u with
  |nx=>exact oM I step stop n (i+1) k c f (by omega) (by omega) q
  |ct=>exact oM I step stop n (i+1) k c f (by omega) (by omega) q
  |bk=>exact⟨_,_,_,rfl,q⟩
  |rt d=>exact⟨_,_,_,rfl,q⟩
def ie{nx:Nxt}{T:Tg}{b:XS}{k:Nat}{Q:Fl->Rho->Sto->Prop}(N:Nat)(I:Nat->Rho->Sto->Prop)(p:N < k)
  (step:∀i ρ S,i < N->I i ρ S->∃d f,nx i S=aw (aw d)/\aA T d ρ=aw f/\OkS (b f S) λq c n=>match q with |.nx=>I (i+1) c n |.ct=>I (i+1) c n |.bk=>Q .nx c n |.rt d=>Q (.rt d) c n)
  (stop:∀ρ S,I N ρ S->nx N S=aw aD/\Q .nx ρ S) (h:I 0 ρ S):OkS (eJ nx T b k 0 ρ S) Q:=oM I step stop N 0 k ρ S (by omega) p h
end
mutual
noncomputable def TD(p:Nat)(S:Sto):Dw.D->D->Prop
 |.non,d=>d = .non
 |.bl b,d=>d = .bl b
 |.int i,d=>d = .int i
 |.str x,d=>d = .str x
 |.tup ts,d=>∃c,d = .tup c/\TDs p S ts c
 |.lst ts,d=>∃n c,d = .ref n/\n≠p/\S[n]?=aw (.lst c)/\TDs p S ts c
 |.dic _ _,_=>False
noncomputable def TDs(p:Nat)(S:Sto):List Dw.D->List D->Prop
 |[],ds=>ds=[]
 |t::ts,ds=>∃d r,ds=d::r/\TD p S t d/\TDs p S ts r
end
abbrev Kp(p:Nat)(S b:Sto):Prop:=∀i o,i≠p->S[i]?=aw o->b[i]?=aw o
abbrev Sm(S b:Sto):Prop:=∀ (i:Nat) (o:Ob),S[i]?=aw o->b[i]?=aw o
def Sm.kp{p:Nat}{S S':Sto}(h:Sm S S'):Kp p S S':=λi o _ e=>h i o e
def Sm.refl(S:Sto):Sm S S:=λ_ _ e=>e
def Sm.trans{S c S2:Sto}(a:Sm S c)(b:Sm c S2):Sm S S2:=λi o e=>b i o (a i o e)
def Sm.app(S X:Sto):Sm S (S++X):=λi o e=>by
 let hi:=(Zb.mp e).1;rw[Zt hi];exact e
def Kp.refl(p:Nat)(S:Sto):Kp p S S:=λ_ _ _ e=>e
def Kp.trans{p:Nat}{S c S2:Sto}(a:Kp p S c)(b:Kp p c S2):Kp p S S2:=λi o n e=>b i o n (a i o n e)
section
variable {p:Nat} {S s:Sto}
def NQ:TD p S .non .non:=by rw[TD]
def bK{i:Int}:TD p S (.int i) (.int i):=by rw[TD]
def bL{T:List Dw.D}{d:List D}(h:TDs p S T d):TD p S (.tup T) (.tup d):=by rw[TD];exact⟨d,rfl,h⟩
def bP:TDs p S [] []:=by rw[TDs]
def au{t:Dw.D}{d:D}{T:List Dw.D}{b:List D}(h:TD p S t d)(q:TDs p S T b):TDs p S (t::T) (d::b):=by rw[TDs];exact⟨d,b,rfl,h,q⟩
def TD.non{d:D}(h:TD p S .non d):d = .non:=by rw[TD]at h;exact h
def TD.bl{b:Bool}{d:D}(h:TD p S (.bl b) d):d = .bl b:=by rw[TD]at h;exact h
def TD.int{i:Int}{d:D}(h:TD p S (.int i) d):d = .int i:=by rw[TD]at h;exact h
def TD.str{x:Str}{d:D}(h:TD p S (.str x) d):d = .str x:=by rw[TD]at h;exact h
def TD.tup{T:List Dw.D}{d:D}(h:TD p S (.tup T) d):∃ds,d = .tup ds/\TDs p S T ds:=by rw[TD]at h;exact h
def TDs.cons{t:Dw.D}{T:List Dw.D}{b:List D}(h:TDs p S (t::T) b):∃d r,b=d::r/\TD p S t d/\TDs p S T r:=by rw[TDs]at h;exact h
def TDs.nil{d:List D}(h:TDs p S [] d):d=[]:=by rw[TDs]at h;exact h
def TDs.len:∀ {T:List Dw.D} {b:List D},TDs p S T b->b.length=T.length
 |[],_,h=>by rw[h.nil];rfl
 |t::T,_,h=>by let{d,r,rfl,_,q}:=h.cons;simp[q.len]
abbrev tyT:Dw.D->String
 |.non => "NoneType" |.bl _ => "bool" |.int _ => "int" |.str _ => "str" |.tup _ => "tuple" |.lst _ => "list" |.dic _ _ => "dict"
def SI{t:Dw.D}{d:D}(h:TD p S t d):tyN d S=aw (tyT t):=by
 cases t with
 |non=>rw[h.non];rfl
 |bl _=>rw[h.bl];rfl
 |int _=>rw[h.int];rfl
 |str _=>rw[h.str];rfl
 |tup _=>let{_,rfl,_}:=h.tup;rfl
 |lst _=>rw[TD]at h;let{n,b,rfl,_,e,_}:=h;simp![tyN,e];rfl
 |dic _ _=>rw[TD]at h;exact h.elim
def sG{ty:Ty}{t:Dw.D}{d:D}(h:TD p S t d):nu ty d S=aw (.bl (gr ty (tyT t)),S):=by
 delta nu;rw[SI h];rfl
end
def HC{n:Nat}:Ok (uv g n x c S) Q=Ok (x c S) λd b=>d.length=n/\Ok (g d b) Q:=by
 delta uv;rw[bJ]
 congr 1
 funext d b
 rw[dN,bh];apply propext;split
 .rename_i h;exact{λz=>⟨h,z⟩,λz=>z.2}
 .rename_i h;exact{λz=>z.elim,λz=>(h z.1).elim}
def NR:Ok (CL x y c S) Q=Ok (x c S) λd S1=>∃b,d = .bl b/\if b=aN then Ok (y c S1) Q else Q (.bl aS) S1:=by
 delta CL;rw[bJ]
 congr 1
 funext d S1
 apply propext;cases d with
 |bl b=>cases b <;> simp[aK]
 |_=>simp[bh]
def SJ:Ok (xOr x y f S) Q=Ok (x f S) λd c=>∃b,d = .bl b/\if b=aN then Q (.bl aN) c else Ok (y f c) Q:=by
 delta xOr;rw[bJ]
 congr 1
 funext d c
 apply propext;cases d with
 |bl b=>cases b <;> simp[aK]
 |_=>simp[bh]
def NS:Ok (As d S) Q=∃b,d = .bl b/\Q (.bl (!b)) S:=by
 apply propext;cases d with
 |bl b=>simp[As,aK]
 |_=>simp[As,bh]
def NT:Ok (Au f g x y z d S) Q=Ok (x d S) λa j=>Ok (y d j) λb h=>Ok (f a b h) λr S3=>∃c,r = .bl c/\if c=aN then Ok (z d S3) λe k=>Ok (g b e k) Q else Q (.bl aS) S3:=by
 delta Au;rw[bJ]
 congr 1
 funext a j
 rw[bJ]
 congr 1
 funext b h
 rw[bJ]
 congr 1
 funext r S3
 apply propext;cases r with
 |bl c=>cases c <;> simp[aK,bJ]
 |_=>simp[bh]
def NU{i:Nat}:Ok (z5 i b S) Q=∃d,b[i]?=aw (aw d)/\Q d S:=by
 apply propext;delta z5;cases h:b[i]? with
 |none=>simp[bh]
 |some o=>cases o with
  |none=>simp[bh]
  |some d=>simp[aK]
def SK{i j:Int}:Ok (ao .le (.int i) (.int j) S) Q=Q (.bl (decide (i<=j))) S:=aK
def SL{i j:Int}:Ok (ao .lt (.int i) (.int j) S) Q=Q (.bl (decide (i < j))) S:=aK
def SM{i j:Int}:Ok (ao .gt (.int i) (.int j) S) Q=Q (.bl (decide (j < i))) S:=aK
def SN{i j:Int}:Ok (ao .ge (.int i) (.int j) S) Q=Q (.bl (decide (j<=i))) S:=aK
def NV{i j:Int}:Ok (bX .add (.int i) (.int j) S) Q=Q (.int (i+j)) S:=aK
def NW{i j:Int}:Ok (bX .sub (.int i) (.int j) S) Q=Q (.int (i - j)) S:=aK
def SO:Ok (xB x c S) Q=Ok (x c S) λd S1=>∃b,d = .bl b/\Q b S1:=by
 delta xB;rw[bJ]
 congr 1
 funext d S1
 apply propext;cases d with
 |bl b=>simp[aK]
 |_=>simp[bh]
def HD{own k:Nat}:Ok (nM own it T c k b S) Q=Ok (it b S) λnx d=>dW T (b++ZP own aD)=aN/\Ok (bC nx T c (b++ZP own aD) k 0 d) λE S2=>E.length<=100000/\Q E S2:=by
 delta nM;rw[bJ]
 congr 1
 funext nx d
 rw[dN,bh];apply propext
 let e:Ok (bnd (bC nx T c (b++ZP own aD) k 0 d) λE S2=>if E.length<=100000 then aw (E,S2) else aD) Q=Ok (bC nx T c (b++ZP own aD) k 0 d) λE S2=>E.length<=100000/\Q E S2:=by
  rw[bJ]
  congr 1
  funext E S2
  rw[dN,bh,aK];apply propext;split
  .rename_i h;exact{λz=>⟨h,z⟩,λz=>z.2}
  .rename_i h;exact{λz=>z.elim,λz=>(h z.1).elim}
 rw[e];split
 .rename_i h;exact{λz=>⟨h,z⟩,λz=>z.2}
 .rename_i h;exact{λz=>z.elim,λz=>(h z.1).elim}
def DP{k:Nat}:Ok (km it T c k b S) Q=(dW T b=aN/\Ok (it b S) λnx d=>Ok (bC nx T c b k 0 d) Q):=by
 delta km;rw[dN,bh,bJ];apply propext;split
 .rename_i h;exact{λz=>⟨h,z⟩,λz=>z.2}
 .rename_i h;exact{λz=>z.elim,λz=>(h z.1).elim}
def HE:Ok (qo x b S) Q=Ok (x b S) λd S1=>d.length<=1000/\Q d S1:=by
 delta qo;rw[bJ]
 congr 1
 funext d S1
 rw[dN,bh,aK];apply propext;split
 .rename_i h;exact{λz=>⟨h,z⟩,λz=>z.2}
 .rename_i h;exact{λz=>z.elim,λz=>(h z.1).elim}
def HF:Ok (ng d S) Q=(d.length<=1000/\Q (.tup d) S):=by
 delta ng;rw[dN,bh,aK];apply propext;split
 .rename_i h;exact{λz=>⟨h,z⟩,λz=>z.2}
 .rename_i h;exact{λz=>z.elim,λz=>(h z.1).elim}
def mj{b:Type}(l:List b)(g:b->Bool)(S:Sto):lY aS (l.map λt=>D.bl (g t)) S=aw (.bl (l.all g),S):=by
 delta lY;let c:(l.map λt=>D.bl (g t)).all Ae=aN:=by rw[Xg];simp[Function.comp_def,Ae]
 let h:(l.map λt=>D.bl (g t)).all pG=l.all g:=by rw[Xg];rfl
 rw[if_pos ⟨rfl,c⟩,h]
def HG{S:Sto}{n:Nat}{lo:Int}{T:Tg}{c:XA}{l:Rho}{Q:List D->Sto->Prop}(hl:n<=100000)(g:Nat->Bool)
  (step:∀ (i:Nat) b,i < n->Sm S b->∃d,aA T (.int (lo+i)) l=aw d/\Ok (c d b) λE k=>E=[.bl (g i)]/\Sm b k) (q:∀b,Sm S b->Q ((Zi n).map λi=>.bl (g i)) b) :
  Ok (bC (nxR lo n) T c l LF 0 S) λE S2=>E.length<=100000/\Q E S2:=by
 refine(gQ n (λi f b=>Sm S b/\f=(Zi i).map λt=>.bl (g t)) (by delta LF;lia) (λi f b hi ⟨sm,h⟩=>?_) (λf b ⟨sm,h⟩=>?_) {Sm.refl S,by simp}).mono λE b ⟨sm,h⟩=>?_
 .let{d,p,E,k,u,rfl,j}:=step i b hi sm;calc{_,d,by show aw (if i < n then aw (D.int (lo+i)) else aD)=_;rw[if_pos hi],p,_,k,u,sm.trans j,?_};rw[h,Xw,ZF];rfl
 .show aw (if n < n then aw (D.int (lo+n)) else aD)=_;rw[if_neg (ZI n)]
 .subst h;exact{by rw[Za,ZC];exact hl,q b sm}
def xt{m n:Nat}(u:S[m]?=aw (.lst ((Zi n).map λj=>.int (Int.ofNat j))))(B:n<=1000)(f:Nat->List D)
  (step:∀ (i:Nat) b,i < n->Sm S b->∃d,aA T (.int i) y=aw d/\Ok (c d b) λE p=>E=f i/\Sm b p):Ok (bC (nxS m) T c y LF 0 S) λE S2=>E=(Zi n).flatMap f/\Sm S S2:=by
 refine(gQ n (λi h b=>Sm S b/\h=(Zi i).flatMap f) (by delta LF;lia) (λi h b hi ⟨sm,k⟩=>?_) (λh b ⟨sm,k⟩=>?_) {Sm.refl S,by simp}).mono λE b ⟨sm,k⟩=>⟨k,sm⟩
 .let{d,v,E,p,z,rfl,l}:=step i b hi sm;refine{.int i,d,?_,v,_,p,z,sm.trans l,?_}
  .show(aR b m).map (λq=>q[i]?)=_;simp![aR,sm _ _ u,ZL,Zq,Yn hi];rfl
  .rw[k,Dw.ql]
 .show(aR b m).map (λq=>q[n]?)=_;simp![aR,sm _ _ u,ZL];rw[Zw (by simp)]
def DR:Ok (fE x c S) Q=Ok (x c S) λd b=>Q (.ref b.length) (b++[.lst d]):=by
 delta fE;rw[bJ]
 congr 1
 funext d b
 rw[aK]
def NX(h:Ok (x c S) λd b=>∃i:Nat,d = .int i/\i<=1000/\Q ((Zi i).map λj=>.int (Int.ofNat j)) b):Ok (AH x c S) Q:=by
 delta AH;rw[bJ];calc h.mono λd b ⟨i,e,hi,q⟩=>?_;subst e;dsimp!;rw[if_pos (by lia),aK,ZK];exact q
def uN(is:List Int):(is.map D.int).all cN=aN:=by rw[Xg];simp[Function.comp_def,cN]
def DS(is:List Int)(i:Int)(S:Sto):wY (.tup (is.map D.int)) [.int i] S=aw (.int (is.count i:Nat),S):=by
 let e:((is.map D.int).countP λz=>eqF z (.int i))=is.count i:=by
  rw[List.countP_map];delta List.count
  congr 1
 simp![wY];rw[if_pos {rfl,uN is},e]
def eC(neg:Bool)(is:List Int)(i:Int)(S:Sto):inS neg (.int i) (.tup (is.map D.int)) S=aw (.bl (neg != decide (i∈is)),S):=by
 let e:inF (.int i) (is.map D.int)=decide (i∈is):=by
  delta inF;rw[Wr,Xu,XN];simp![Function.comp_def,eqF,beq_iff_eq,decide_eq_true_eq];exact{λ⟨x,b,e⟩=>e▸b,λh=>⟨i,h,rfl⟩}
 simp![inS,ay];rw[if_pos {rfl,uN is},e]
def HH(i j:Int)(S:Sto):ao .eq (.int i) (.int j) S=aw (.bl (decide (i=j)),S):=by
 simp![ao,eqS];let:eqD 60 S (.int i) (.int j)=aw (i == j):=rfl;rw[this];rfl
def HI(i j:Int)(S:Sto):ao .ne (.int i) (.int j) S=aw (.bl (!decide (i=j)),S):=pX (x:=.int i) (y:=.int j) (b:=decide (i=j)) rfl
def NY{i j:Int}:Ok (ao .eq (.int i) (.int j) S) Q=Q (.bl (decide (i=j))) S:=by rw[HH,aK]
def NZ{i j:Int}:Ok (ao .ne (.int i) (.int j) S) Q=Q (.bl (!decide (i=j))) S:=by rw[HI,aK]
def HJ{i:Nat}:aA (.n i) d b=if i < b.length then aw (b.set i (aw d)) else aD:=by simp![aA]
def DT:aA (.tup T) (.tup d) ρ=aO T d ρ:=by simp![aA]
def yT:aO [] [] ρ=aw ρ:=by simp![aO]
def uO{i:Nat}:aO (.n i::T) (d::f) c=if i < c.length then aO T f (c.set i (aw d)) else aD:=by
 simp![aO,aA];split
 .rename_i j h;split at h
  .rename_i b;cases h;rw[if_pos b]
  .cases h
 .rename_i h;split at h
  .cases h
  .rename_i b;rw[if_neg b]
def fS{i j:Nat}(d:i < c.length)(h:j < c.length):aA (.tup [.n i,.n j]) (.tup [a,b]) c=aw ((c.set i (aw a)).set j (aw b)):=by
 rw[DT,uO,if_pos d,uO,if_pos (by rw[Yb];exact h),yT]
def aB{a:Nat}(h:S[a]?=aw (.lst es)):aR S a=aw es:=by simp![aR,h]
def HK{a b n:Nat}(c:S[a]?=aw (.lst E))(d:S[b]?=aw (.lst []))(h:a≠b):eqD (n+1) S (.ref a) (.ref b)=aw E.isEmpty:=by
 show(match aR S a,aR S b with |some X,aw ys=>if a=b then aw aN else if X.length=ys.length then eqL eqB X ys else aw aS |_,_=>aD)=_;rw[aB c,aB d];show(if a=b then aw aN else if E.length=([]:List D).length then eqL eqB E [] else aw aS)=_;rw[if_neg h];cases E with
 |nil=>simp[eqL]
 |cons x X=>simp
def DU{a b:Nat}(c:S[a]?=aw (.lst E))(d:S[b]?=aw (.lst []))(h:a≠b):ao .ne (.ref a) (.ref b) S=aw (.bl (!E.isEmpty),S):=pX (HK c d h)
def DV(d:List D)(k:Nat)(h:k<=d.length):jr d aD (aw (k:Int))=d.take k:=by
 delta jr;rw[Dw.B6 _ _ (by lia),ZK,WH h];rfl
def N0{p:Nat}(h:TDs p S T d):ak dh (.tup d) S=aw (.int T.length,S):=by
 simp![ak,ay,dh,h.len]
section
variable {S g l t:Sto} {p:Nat} {Q:D->Sto->Prop} {ρ:Rho}
def N5{i j:Int}:Ok (bX .mod (.int i) (.int j) S) Q=(0 < j/\Q (.int (i % j)) S):=by
 simp![bX,Mu,dN,aK,bh];apply propext;split
 .rename_i h;exact{λz=>⟨h,z⟩,λz=>z.2}
 .rename_i h;exact{λz=>z.elim,λz=>(h z.1).elim}
def HL{i j:Int}:Ok (bX .fdiv (.int i) (.int j) S) Q=((0 < j/\j < 1298074214633706907132624082305024)/\Q (.int (i / j)) S):=by
 simp![bX,Ci,dN,aK,bh];apply propext;split
 .rename_i h;exact{λz=>⟨h,z⟩,λz=>z.2}
 .rename_i h;exact{λz=>z.elim,λz=>(h z.1).elim}
def N6{i j:Int}:Ok (bX .mul (.int i) (.int j) S) Q=(jw i j=aN/\Q (.int (i * j)) S):=by
 simp![bX,z9,dN,aK,bh];apply propext;split
 .rename_i h;exact{λz=>⟨h,z⟩,λz=>z.2}
 .rename_i h;exact{λz=>z.elim,λz=>(h z.1).elim}
def N7{i j:Int}:Ok (bX .pow (.int i) (.int j) S) Q=((0<=j/\j<=1000000/\i.natAbs < 2 ^ 64)/\Q (.int (i ^ j.toNat)) S):=by
 simp![bX,Mv,dN,aK,bh];apply propext;split
 .rename_i h;exact{λz=>⟨h,z⟩,λz=>z.2}
 .rename_i h;exact{λz=>z.elim,λz=>(h z.1).elim}
def yU{i j:Int}(b:-(2 ^ 64) < j)(h:j < 2 ^ 64):jw i j=aN:=by simp![jw,Xb,bAE,decide_eq_true_eq];exact .inr ⟨b,h⟩
def sH{i j:Int}(b:-(2 ^ 64) < i)(h:i < 2 ^ 64):jw i j=aN:=by simp![jw,Xb,bAE,decide_eq_true_eq];exact .inl ⟨b,h⟩
abbrev Pot(p:Nat)(S:Sto):Prop:=∃n:Int,S[p]?=aw (.lst [.int n])
structure Dr(p:Nat)(S g:Sto):Prop where
 kp:Kp p S g
 pot:Pot p g
def Dr.refl(h:Pot p S):Dr p S S:={Kp.refl p S,h}
def Dr.trans(a:Dr p S l)(b:Dr p l t):Dr p S t:={a.kp.trans b.kp,b.pot}
def Dr.sm(h:Pot p S)(s:Sm S g):Dr p S g:={s.kp,let ⟨n,e⟩:=h;{n,s _ _ e}}
def Dr.thenSm(a:Dr p S l)(s:Sm l t):Dr p S t:=a.trans (Dr.sm a.pot s)
def Pot.lt(h:Pot p S):p < S.length:=let ⟨_,e⟩:=h;(Zb.mp e).1
def N8:Kp p S (S.set p o):=λi u n e=>by rw[Zx (Ne.symm n)];exact e
def eZ(h:p < S.length):(S.set p o)[p]?=aw o:=by rw[ZV h]
def jK{n:Nat}{lo:Int}{T:Tg}{b:XS}{Q:Fl->Rho->Sto->Prop}(hl:n<=100000)(I:Nat->Rho->Sto->Prop)
  (step:∀ (i:Nat) ρ S,i < n->I i ρ S->∃f,aA T (.int (lo+i)) ρ=aw f/\OkS (b f S) λk c t=>match k with |.nx=>I (i+1) c t |.ct=>I (i+1) c t |.bk=>Q .nx c t |.rt d=>Q (.rt d) c t)
  (q:∀ρ g,I n ρ g->Q .nx ρ g) (j:I 0 ρ S):OkS (eJ (nxR lo n) T b LF 0 ρ S) Q:=by
 refine ie n I (by delta LF;lia) (λi ρ g hi h=>?_) (λρ g h=>{?_,q ρ g h}) j
 .let{f,E,z}:=step i ρ g hi h;exact{_,f,by show aw (if i < n then aw (D.int (lo+i)) else aD)=_;rw[if_pos hi],E,z}
 .show aw (if n < n then aw (D.int (lo+n)) else aD)=_;rw[if_neg (ZI n)]
def xu{n:Nat}{lo:Int}{T:Tg}{c:XA}{Q:List D->Sto->Prop}(hl:n<=100000)(I:Nat->List D->Sto->Prop)
  (step:∀ (i:Nat) b g,i < n->I i b g->∃d,aA T (.int (lo+i)) ρ=aw d/\Ok (c d g) λE l=>I (i+1) (b++E) l) (q:∀E g,I n E g->E.length<=100000/\Q E g) (j:I 0 [] S) :
  Ok (bC (nxR lo n) T c ρ LF 0 S) λE t=>E.length<=100000/\Q E t:=by
 refine(gQ n I (by delta LF;lia) (λi b g hi f=>?_) (λb g f=>?_) j).mono q
 .let{d,h,z}:=step i b g hi f;exact{_,d,by show aw (if i < n then aw (D.int (lo+i)) else aD)=_;rw[if_pos hi],h,z}
 .show aw (if n < n then aw (D.int (lo+n)) else aD)=_;rw[if_neg (ZI n)]
def N9:Ok (wD x y ρ S) Q=Ok (x ρ S) λb l=>Ok (y ρ l) λi t=>∃k,i = .int k/\∃d,atI b k=aw d/\Q d t:=by
 delta wD;rw[bJ]
 congr 1
 funext b l
 rw[bJ]
 congr 1
 funext i t
 apply propext;cases i with
 |int k=>simp[NL]
 |_=>simp[bh]
def Oa{i:Int}(h:0<=i)(b:i < ds.length):∃d,atI ds i=aw d/\ds[i.toNat]?=aw d:=by
 let hi:i.toNat < ds.length:=by lia
 calc{ds[i.toNat],?_,gEG hi};delta atI ixN;rw[if_pos h,if_pos (by lia)];exact gEG hi
def oO{nx:Nxt}{T:Tg}{c:XA}{Q:List D->Sto->Prop}(n:Nat)(j:Nat->D)(I:Nat->List D->Sto->Prop)(h:∀i b g,i<=n->I i b g->nx i g=aw (if i < n then aw (j i) else aD))(hl:n<=100000)
  (step:∀ (i:Nat) b g,i < n->I i b g->∃d,aA T (j i) ρ=aw d/\Ok (c d g) λE l=>I (i+1) (b++E) l) (q:∀E g,I n E g->E.length<=100000/\Q E g) (k:I 0 [] S) :
  Ok (bC nx T c ρ LF 0 S) λE t=>E.length<=100000/\Q E t:=by
 refine(gQ n I (by delta LF;lia) (λi b g hi f=>?_) (λb g f=>?_) k).mono q
 .let{d,u,z}:=step i b g hi f;exact{_,d,by rw[h i b g (by lia) f,if_pos hi],u,z}
 .rw[h n b g (Zf _) f,if_neg (ZI n)]
def DW{m i:Nat}(h:S[m]?=aw (.lst b))(E:Nat->D)(c:∀i d,b[i]?=aw d->E i=d):nxS m i S=aw (if i < b.length then aw (E i) else aD):=by
 show(aR S m).map (λb=>b[i]?)=_;rw[aB h,ZL];split
 .rename_i hi;rw[gEG hi,c i _ (gEG hi)]
 .rename_i hi;rw[Zw (by lia)]
structure RowsS(p:Nat)(S:Sto)(rs:List D)(M:List (List Int)):Prop where
 len:rs.length=M.length
 row:∀ (i:Nat) r,M[i]?=aw r->∃a,rs[i]?=aw (.ref a)/\a≠p/\S[a]?=aw (.lst (r.map D.int))
def RowsS.keep(h:RowsS p S b M)(k:Kp p S g):RowsS p g b M:={h.len,λi r c=>let ⟨a,e,n,z⟩:=h.row i r c;{a,e,n,k _ _ n z}}
def RowsS.nil:RowsS p S [] []:={rfl,λi r h=>by simp at h}
def RowsS.snoc{a:Nat}(h:RowsS p S j M)(n:a≠p)(z:S[a]?=aw (.lst (r.map D.int))):RowsS p S (j++[.ref a]) (M++[r]):=by
 calc{by simp[h.len],λi f c=>?_};by_cases hi:i < M.length
 .rw[Zt hi]at c;let{b,e,nb,Z}:=h.row i f c;exact{b,by rw[Zt (by rw[h.len];exact hi)];exact e,nb,Z}
 .rw[Zp (by lia)]at c
  let d:i - M.length=0:=by
   let:=(Zb.mp c).1;simp at this;lia
  rw[d]at c;cases c;exact{a,by rw[Zp (by rw[h.len];lia),h.len,d];rfl,n,z}
def aM:(S++[o])[S.length]?=aw o:=by rw[Zp (Zf _),ZY];rfl
def Kp.setNew{f:Nat}(h:Kp p S g)(b:S.length<=f):Kp p S (g.set f o):=λi u n e=>by
 let hi:=(Zb.mp e).1;rw[Zx (by lia)];exact h i u n e
def Pot.setNe{f:Nat}(h:Pot p S)(b:f≠p):Pot p (S.set f o):=by
 let{n,e}:=h;exact{n,by rw[Zx b];exact e}
abbrev aj(q:Int×Int):D:=.tup [.int q.1,.int q.2]
def gR:∀ (E:List (Int×Int)),TDs p S (E.map Dw.qm) (E.map aj)
 |[]=>bP
 |e::E=>au (bL (au bK (au bK bP))) (gR E)
def jc{f:Nat}(h:S[f]?=aw (.lst d))(hl:d.length < 100000):Ok (rV (.ref f) [e] S) Q=Q .non (S.set f (.lst (d++[e]))):=by
 simp![rV,chg,h];rw[if_pos hl];exact aK
def cV{f:Nat}(h:S[f]?=aw (.lst d)):cD (.ref f) S=aN:=by simp![cD,aB h];rfl
def mq{f:Nat}(h:S[f]?=aw (.lst (ds++[e]))):ixS (.ref f) (.int (-1)) S=aw (e,S):=by
 let:atI (ds++[e]) (-1:Int)=aw e:=by
  delta atI ixN;rw[if_neg (by decide),if_pos (by rw[Ze,Zm];lia)];show(ds++[e])[((-1:Int)+((ds++[e]).length:Int)).toNat]?=aw e;let:((-1:Int)+((ds++[e]).length:Int)).toNat=ds.length:=by rw[Ze,Zm];lia
  rw[this,Zp (Zf _),ZY];rfl
 simp![ixS,ay,aB h,ZL,this]
def BN{i:Nat}(h:b[i]?=aw d):ixS (.tup b) (.int i) S=aw (d,S):=by
 let hi:=(Zb.mp h).1
 let E:atI b (i:Int)=aw d:=by
  delta atI ixN;rw[if_pos (by lia),if_pos (by lia),ZK];exact h
 simp![ixS,ay,E,ZL]
def yb{i:Nat}(h:b[i]?=aw d):atI b (i:Int)=aw d:=by
 let hi:=(Zb.mp h).1;delta atI ixN;rw[if_pos (by lia),if_pos (by lia),ZK];exact h
def xv{n:Nat}(b:n≠p)(h:S[n]?=aw (.lst d))(q:TDs p S T d):TD p S (.lst T) (.ref n):=by rw[TD];exact⟨n,d,rfl,b,h,q⟩
def HM:ao .eq (.tup d) (.tup []) S=aw (.bl d.isEmpty,S):=by
 simp![ao,eqS]
 let:eqD 60 S (.tup d) (.tup [])=aw d.isEmpty:=by
  cases d <;> rfl
 rw[this];rfl
def HN:ao .ne (.tup d) (.tup []) S=aw (.bl (!d.isEmpty),S):=pX (x:=.tup d) (y:=.tup []) (b:=d.isEmpty) (by cases d <;> rfl)
def Oc:Ok (bX .add (.tup xs) (.tup y) S) Q=(xs.length+y.length<=1000/\Q (.tup (xs++y)) S):=by
 simp![bX,lX,dN,aK,bh];apply propext;split
 .rename_i h;exact{λz=>⟨h,z⟩,λz=>z.2}
 .rename_i h;exact{λz=>z.elim,λz=>(h z.1).elim}
end
@[inline]abbrev WP(b:Type):=Rho->Sto->(b->Sto->Prop)->Prop
abbrev Sd{b:Type}(w:WP b)(x:Rho->Sto->Option (b×Sto)):Prop:=∀c S Q,w c S Q->Ok (x c S) Q
def aZ{c b:Type}{x:Option (c×Sto)}{f:c->Sto->Option (b×Sto)}{Q:b->Sto->Prop}(h:Ok x λa S=>Ok (f a S) Q):Ok (bnd x f) Q:=bJ▸h
def bF{b:Type}{a:b}{S:Sto}{Q:b->Sto->Prop}(h:Q a S):Ok (aw (a,S)) Q:=⟨_,_,rfl,h⟩
abbrev wIf(b:Bool)(A B:Prop):Prop:=match b with
 |true=>A
 |false=>B
abbrev wBl(d:D)(Q:Bool->Prop):Prop:=match d with
 |.bl b=>Q b
 |.non=>False |.int _=>False |.str _=>False |.tup _=>False |.ref _=>False
abbrev cW(d:D)(Q:Int->Prop):Prop:=match d with
 |.int i=>Q i
 |.non=>False |.bl _=>False |.str _=>False |.tup _=>False |.ref _=>False
def oP{d:D}{Q:Bool->Prop}(h:wBl d Q):∃b,d = .bl b/\Q b:=by cases d <;> first |exact h.elim |exact⟨_,rfl,h⟩
def cL{d:D}{Q:Int->Prop}(h:cW d Q):∃b,d = .int b/\Q b:=by cases d <;> first |exact h.elim |exact⟨_,rfl,h⟩
abbrev UQ(o:Option D)(Q:D->Prop):Prop:=match o with
 |some d=>Q d
 |none=>False
abbrev xw:Rho->Nat->(D->Prop)->Prop
 |[],_,_=>False
 |o::_,0,Q=>UQ o Q
 |_::ρ,i+1,Q=>xw ρ i Q
def yV:∀ {ρ:Rho} {i:Nat} {Q:D->Prop},xw ρ i Q->∃d,ρ[i]?=aw (aw d)/\Q d
 |[],_,_,h=>h.elim
 |some d::_,0,_,h=>⟨d,rfl,h⟩
 |none::_,0,_,h=>h.elim
 |o::ρ,i+1,_,h=>by rw[YL];exact yV (ρ:=ρ) h
abbrev SQ(i:Nat):WP D:=λb S Q=>xw b i λd=>Q d S
def SR{i:Nat}:Sd (SQ i) (z5 i):=λb S Q h=>by
 rw[NU];exact yV h
abbrev wC(d:D):WP D:=λ_ S Q=>Q d S
def s_c{d:D}:Sd (wC d) (xC d):=λ_ _ _ h=>bF h
abbrev HP(g:D->D->Sto->(D->Sto->Prop)->Prop)(x y:WP D):WP D:=λc S Q=>x c S λa f=>y c f λb d=>g a b d Q
def DX{g:D->D->Sto->(D->Sto->Prop)->Prop}{f:D->D->Sto->Option (D×Sto)}{w v:WP D}{x y:XE}(hw:Sd w x)(c:Sd v y)(d:∀ {a b S Q},g a b S Q->Ok (f a b S) Q):Sd (HP g w v) (uc f x y):=
 λ_ _ _ h=>aZ ((hw _ _ _ h).mono λ_ _ h=>aZ ((c _ _ _ h).mono λ_ _ h=>d h))
abbrev wUn{b β:Type}(g:b->Sto->(β->Sto->Prop)->Prop)(x:WP b):WP β:=λd S Q=>x d S λa c=>g a c Q
def HQ{b c:Type}{g:b->Sto->(c->Sto->Prop)->Prop}{f:b->Sto->Option (c×Sto)}{w:WP b}{x:Rho->Sto->Option (b×Sto)}(hw:Sd w x)(d:∀ {a S Q},g a S Q->Ok (f a S) Q):Sd (wUn g w) (λj S=>bnd (x j S) f):=
 λ_ _ _ h=>aZ ((hw _ _ _ h).mono λ_ _ h=>d h)
abbrev wOk{c b:Type}(f:c->Sto->Option (b×Sto))(a:c)(S:Sto)(Q:b->Sto->Prop):Prop:=Ok (f a S) Q
abbrev wII:BOp->Int->Int->Sto->(D->Sto->Prop)->Prop
 |.add,i,j,S,Q=>Q (.int (i+j)) S
 |.sub,i,j,S,Q=>Q (.int (i - j)) S
 |.mul,i,j,S,Q=>jw i j=aN/\Q (.int (i * j)) S
 |.mod,i,j,S,Q=>0 < j/\Q (.int (i % j)) S
 |.fdiv,i,j,S,Q=>(0 < j/\j < 1298074214633706907132624082305024)/\Q (.int (i / j)) S
 |.pow,i,j,S,Q=>(0<=j/\j<=1000000/\i.natAbs < 2 ^ 64)/\Q (.int (i ^ j.toNat)) S
def Od{o:BOp}{i j:Int}{S:Sto}{Q:D->Sto->Prop}(h:wII o i j S Q):Ok (bX o (.int i) (.int j) S) Q:=by
 cases o with
 |add=>rw[NV];exact h
 |sub=>rw[NW];exact h
 |mul=>rw[N6];exact h
 |mod=>rw[N5];exact h
 |fdiv=>rw[HL];exact h
 |pow=>rw[N7];exact h
abbrev wTT:BOp->List D->List D->Sto->(D->Sto->Prop)->Prop
 |.add,xs,ys,S,Q=>xs.length+ys.length<=1000/\Q (.tup (xs++ys)) S
 |.sub,_,_,_,_=>False
 |.mul,_,_,_,_=>False
 |.mod,_,_,_,_=>False
 |.fdiv,_,_,_,_=>False
 |.pow,_,_,_,_=>False
def Oe{o:BOp}{i j:List D}{S:Sto}{Q:D->Sto->Prop}(h:wTT o i j S Q):Ok (bX o (.tup i) (.tup j) S) Q:=by
 cases o with
 |add=>rw[Oc];exact h
 |_=>exact h.elim
abbrev DY(o:BOp)(i:Int)(y:D)(S:Sto)(Q:D->Sto->Prop):Prop:=match y with
 |.int j=>wII o i j S Q
 |.non=>False |.bl _=>False |.str _=>False |.ref _=>False
 |.tup ys=>Ok (bX o (.int i) (.tup ys) S) Q
abbrev yW(o:BOp)(xs:List D)(y:D)(S:Sto)(Q:D->Sto->Prop):Prop:=match y with
 |.tup ys=>wTT o xs ys S Q
 |.non=>False |.bl _=>False |.str _=>False |.ref _=>False
 |.int j=>Ok (bX o (.tup xs) (.int j) S) Q
abbrev uQ(o:BOp)(x y:D)(S:Sto)(Q:D->Sto->Prop):Prop:=match x with
 |.int i=>DY o i y S Q
 |.tup xs=>yW o xs y S Q
 |.non=>Ok (bX o .non y S) Q
 |.bl b=>Ok (bX o (.bl b) y S) Q
 |.str b=>Ok (bX o (.str b) y S) Q
 |.ref b=>Ok (bX o (.ref b) y S) Q
def HR{o:BOp}{x y:D}{S:Sto}{Q:D->Sto->Prop}(h:uQ o x y S Q):Ok (bX o x y S) Q:=by
 cases x with
 |int i=>cases y with
  |int j=>exact Od h
  |tup Y=>exact h
  |_=>exact h.elim
 |tup X=>cases y with
  |int j=>exact h
  |tup Y=>exact Oe h
  |_=>exact h.elim
 |_=>exact h
abbrev wCI:COp->Int->Int->Sto->(D->Sto->Prop)->Prop
 |.eq,i,j,S,Q=>Q (.bl (decide (i=j))) S
 |.ne,i,j,S,Q=>Q (.bl (!decide (i=j))) S
 |.lt,i,j,S,Q=>Q (.bl (decide (i < j))) S
 |.le,i,j,S,Q=>Q (.bl (decide (i<=j))) S
 |.gt,i,j,S,Q=>Q (.bl (decide (j < i))) S
 |.ge,i,j,S,Q=>Q (.bl (decide (j<=i))) S
 |.is,_,_,_,_=>False
 |.t,_,_,_,_=>False
 |.s,_,_,_,_=>False
 |.o,_,_,_,_=>False
def Og{o:COp}{i j:Int}{S:Sto}{Q:D->Sto->Prop}(h:wCI o i j S Q):Ok (ao o (.int i) (.int j) S) Q:=by
 cases o with
 |eq=>rw[NY];exact h
 |ne=>rw[NZ];exact h
 |lt=>rw[SL];exact h
 |le=>rw[SK];exact h
 |gt=>rw[SM];exact h
 |ge=>rw[SN];exact h
 |_=>exact h.elim
abbrev Oh(o:COp)(i:Int)(y:D)(S:Sto)(Q:D->Sto->Prop):Prop:=match y with
 |.int j=>wCI o i j S Q
 |.non=>Ok (ao o (.int i) .non S) Q
 |.bl b=>Ok (ao o (.int i) (.bl b) S) Q
 |.str b=>Ok (ao o (.int i) (.str b) S) Q
 |.ref b=>Ok (ao o (.int i) (.ref b) S) Q
 |.tup b=>Ok (ao o (.int i) (.tup b) S) Q
abbrev AN(o:COp)(xs:List D)(y:D)(S:Sto)(Q:D->Sto->Prop):Prop:=match o with
 |.eq=>match y with
  |.tup ys=>match ys with
   |[]=>Q (.bl xs.isEmpty) S
   |y::ys=>Ok (ao .eq (.tup xs) (.tup (y::ys)) S) Q
  |.non=>Ok (ao .eq (.tup xs) .non S) Q
  |.bl b=>Ok (ao .eq (.tup xs) (.bl b) S) Q
  |.str b=>Ok (ao .eq (.tup xs) (.str b) S) Q
  |.ref b=>Ok (ao .eq (.tup xs) (.ref b) S) Q
  |.int b=>Ok (ao .eq (.tup xs) (.int b) S) Q
 |.ne=>match y with
  |.tup ys=>match ys with
   |[]=>Q (.bl (!xs.isEmpty)) S
   |y::ys=>Ok (ao .ne (.tup xs) (.tup (y::ys)) S) Q
  |.non=>Ok (ao .ne (.tup xs) .non S) Q
  |.bl b=>Ok (ao .ne (.tup xs) (.bl b) S) Q
  |.str b=>Ok (ao .ne (.tup xs) (.str b) S) Q
  |.ref b=>Ok (ao .ne (.tup xs) (.ref b) S) Q
  |.int b=>Ok (ao .ne (.tup xs) (.int b) S) Q
 |.is=>Ok (ao .is (.tup xs) y S) Q
 |.t=>Ok (ao .t (.tup xs) y S) Q
 |.s=>Ok (ao .s (.tup xs) y S) Q
 |.o=>Ok (ao .o (.tup xs) y S) Q
 |.lt=>False |.le=>False |.gt=>False |.ge=>False
abbrev wCx(o:COp)(x y:D)(S:Sto)(Q:D->Sto->Prop):Prop:=match x with
 |.int i=>Oh o i y S Q
 |.tup xs=>AN o xs y S Q
 |.non=>Ok (ao o .non y S) Q
 |.bl b=>Ok (ao o (.bl b) y S) Q
 |.str b=>Ok (ao o (.str b) y S) Q
 |.ref b=>Ok (ao o (.ref b) y S) Q
def Oi{o:COp}{x y:D}{S:Sto}{Q:D->Sto->Prop}(h:wCx o x y S Q):Ok (ao o x y S) Q:=by
 cases x with
 |int i=>cases y with
  |int j=>exact Og h
  |_=>exact h
 |tup X=>cases o with
  |eq=>cases y with
   |tup Y=>cases Y with
    |nil=>rw[HM,aK];exact h
    |cons y Y=>exact h
   |_=>exact h
  |ne=>cases y with
   |tup Y=>cases Y with
    |nil=>rw[HN,aK];exact h
    |cons y Y=>exact h
   |_=>exact h
  |lt=>exact h.elim
  |le=>exact h.elim
  |gt=>exact h.elim
  |ge=>exact h.elim
  |_=>exact h
 |_=>exact h
abbrev wCm(o:COp)(x y:D)(S:Sto)(Q:D->Sto->Prop):Prop:=match o with
 |.is=>Ok (ao .is x y S) Q
 |.t=>Ok (ao .t x y S) Q
 |.s=>Ok (ao .s x y S) Q
 |.o=>Ok (ao .o x y S) Q
 |.eq=>wCx .eq x y S Q
 |.ne=>wCx .ne x y S Q
 |.lt=>wCx .lt x y S Q
 |.le=>wCx .le x y S Q
 |.gt=>wCx .gt x y S Q
 |.ge=>wCx .ge x y S Q
def sI{o:COp}{x y:D}{S:Sto}{Q:D->Sto->Prop}(h:wCm o x y S Q):Ok (ao o x y S) Q:=by
 cases o <;> first |exact Oi h |exact h
abbrev Oj(o p:COp)(x y z:WP D):WP D:=λd S Q=>x d S λa j=>y d j λb h=>wCm o a b h λr f=>wBl r λc=>wIf c (z d f λe k=>wCm p b e k Q) (Q (.bl aS) f)
def K2{o p:COp}{w v u:WP D}{x y z:XE}(hw:Sd w x)(f:Sd v y)(d:Sd u z):Sd (Oj o p w v u) (Au (ao o) (ao p) x y z):=λ_ _ _ h=>by
 rw[NT];calc(hw _ _ _ h).mono λa k h=>(f _ _ _ h).mono λb j h=>(sI h).mono λr l h=>?_;let{c,e,h}:=oP h;calc{c,e,?_};cases c with
 |true=>exact(d _ _ _ h).mono λe n h=>sI h
 |false=>exact h
abbrev SS(x y:WP D):WP D:=λf S Q=>x f S λd c=>wBl d λb=>wIf b (y f c Q) (Q (.bl aS) c)
def SU{w v:WP D}{x y:XE}(hw:Sd w x)(b:Sd v y):Sd (SS w v) (CL x y):=λ_ _ _ h=>by
 rw[NR];calc(hw _ _ _ h).mono λa d h=>?_;let{c,e,h}:=oP h;calc{c,e,?_};cases c with
 |true=>exact b _ _ _ h
 |false=>exact h
abbrev wOr(x y:WP D):WP D:=λf S Q=>x f S λd c=>wBl d λb=>wIf b (Q (.bl aN) c) (y f c Q)
def UR{w v:WP D}{x y:XE}(hw:Sd w x)(b:Sd v y):Sd (wOr w v) (xOr x y):=λ_ _ _ h=>by
 rw[SJ];calc(hw _ _ _ h).mono λa d h=>?_;let{c,e,h}:=oP h;calc{c,e,?_};cases c with
 |false=>exact b _ _ _ h
 |true=>exact h
abbrev SV(x:WP D):WP D:=λf S Q=>x f S λd c=>wBl d λb=>Q (.bl (!b)) c
def SW{w:WP D}{x:XE}(hw:Sd w x):Sd (SV w) (xUn As x):=λ_ _ _ h=>aZ ((hw _ _ _ h).mono λa b h=>by
 rw[NS];exact oP h)
abbrev SX(x:WP D):WP D:=λc S Q=>x c S λd b=>cW d λi=>Q (.int (-i)) b
def SY{w:WP D}{x:XE}(hw:Sd w x):Sd (SX w) (xUn MR x):=λ_ _ _ h=>aZ ((hw _ _ _ h).mono λa b h=>by
 let{i,rfl,h}:=cL h;exact bF h)
abbrev SZ{α:Type}(c:WP Bool)(x y:WP α):WP α:=λd S Q=>c d S λb f=>wIf b (x d f Q) (y d f Q)
def Ta{c:WP Bool}{w v:WP D}{t:XT}{x y:XE}(hc:Sd c t)(hw:Sd w x)(d:Sd v y):Sd (SZ c w v) (MS t x y):=λ_ _ _ h=>aZ ((hc _ _ _ h).mono λb f h=>by
 cases b with
 |true=>exact hw _ _ _ h
 | false=>exact d _ _ _ h)
abbrev wO:Option (WP D)->WP (Option Int)
 |none=>λ_ S Q=>Q aD S
 |some w=>λc S Q=>w c S λd b=>cW d λi=>Q (aw i) b
abbrev xy(lo hi:Option Int)(d:D)(S:Sto)(Q:D->Sto->Prop):Prop:=match d with
 |.tup ds=>Q (.tup (jr ds lo hi)) S
 |.ref n=>Ok (slS lo hi (.ref n) S) Q
 |.non=>False |.bl _=>False |.str _=>False |.int _=>False
abbrev wSl(x:WP D)(lo hi:WP (Option Int)):WP D:=λb S Q=>x b S λd f=>lo b f λl c=>hi b c λh j=>xy l h d j Q
def US:Sd (wO aD) wJ:=λ_ _ _ h=>bF h
def UT{w:WP D}{x:XE}(hw:Sd w x):Sd (wO (aw w)) (wK x):=λ_ _ _ h=>aZ ((hw _ _ _ h).mono λd b h=>by
 let{i,rfl,h}:=cL h;exact bF h)
def UU{w:WP D}{l u:WP (Option Int)}{x:XE}{lo hi:XO}(hw:Sd w x)(hl:Sd l lo)(c:Sd u hi):Sd (wSl w l u) (xSl x lo hi):=λ_ _ _ h=>aZ ((hw _ _ _ h).mono λd j h=>aZ ((hl _ _ _ h).mono λa f h=>aZ ((c _ _ _ h).mono λb k h=>by
 cases d with
 |tup p=>exact bF h
 |ref n=>exact h
 | _=>exact h.elim)))
abbrev K3(g:List D->Sto->Option (D×Sto))(n:Nat)(x:WP (List D)):WP D:=λc S Q=>x c S λd b=>d.length=n/\Ok (g d b) Q
def Ol{g:List D->Sto->Option (D×Sto)}{n:Nat}{w:WP (List D)}{x:XA}(hw:Sd w x):Sd (K3 g n w) (uv g n x):=λ_ _ _ h=>by
 rw[HC];exact hw _ _ _ h
abbrev oQ(x:WP (List D)):WP D:=λc S Q=>x c S λd b=>Q (.ref b.length) (b++[.lst d])
def jL{w:WP (List D)}{x:XA}(hw:Sd w x):Sd (oQ w) (fE x):=λ_ _ _ h=>by rw[DR];exact hw _ _ _ h
abbrev fT:Nat->List CE->Prop->Prop
 |_,[],A=>A
 |0,_::_,_=>False
 |n+1,_::es,A=>fT n es A
def jM:∀ {n:Nat} {es:List CE} {A:Prop},fT n es A->es.length<=n/\A
 |n,[],_,h=>{Z2 _,by cases n <;> exact h}
 |0,_::_,_,h=>h.elim
 |n+1,_::es,_,h=>by rw[Zo];exact{Ww (jM (es:=es) h).1,(jM (es:=es) h).2}
abbrev wSh{α:Type}(E:List CE)(x:WP α):WP α:=λb S Q=>fT 60 E (x b S Q)
abbrev xz(c:D->Sto->Bool)(f:D->List D->Sto->Option (D×Sto))(x:WP D)(y:WP (List D)):WP D:=λh S Q=>x h S λd b=>c d b=aN/\y h b λk j=>Ok (f d k j) Q
def qP{c:D->Sto->Bool}{f:D->List D->Sto->Option (D×Sto)}{w:WP D}{v:WP (List D)}{x:XE}{y:XA}(hw:Sd w x)(b:Sd v y):Sd (xz c f w v) (rQ c f x y):=λ_ _ _ h=>aZ ((hw _ _ _ h).mono λd j h=>by
 rw[if_pos h.1];exact aZ (b _ _ _ h.2))
abbrev Om(x:WP D):WP (List D):=λc S Q=>x c S λd b=>∃i:Nat,d = .int i/\i<=1000/\Q ((Zi i).map λj=>.int (Int.ofNat j)) b
def K4{w:WP D}{x:XE}(hw:Sd w x):Sd (Om w) (AH x):=λ_ _ _ h=>NX (hw _ _ _ h)
abbrev Oo:WP (List D):=λ_ S Q=>Q [] S
def K5:Sd Oo z6:=λ_ _ _ h=>bF h
abbrev K6(x:WP D)(y:WP (List D)):WP (List D):=λb S Q=>x b S λa f=>y b f λd c=>Q (a::d) c
def Op{w:WP D}{v:WP (List D)}{x:XE}{y:XA}(hw:Sd w x)(b:Sd v y):Sd (K6 w v) (yn x y):=λ_ _ _ h=>aZ ((hw _ _ _ h).mono λd f h=>aZ ((b _ _ _ h).mono λj c h=>bF h))
abbrev UV(o:Option D)(A:Prop):Prop:=match o with
 |none=>A
 |some _=>False
abbrev wFr:Rho->Nat->Prop->Prop
 |[],_,_=>False
 |o::_,0,A=>UV o A
 |_::ρ,i+1,A=>wFr ρ i A
def sJ:∀ {ρ:Rho} {i:Nat} {A:Prop},wFr ρ i A->ρ[i]?=aw aD/\A
 |[],_,_,h=>h.elim
 |none::_,0,_,h=>⟨rfl,h⟩
 |some _::_,0,_,h=>h.elim
 |o::ρ,i+1,_,h=>by rw[YL];exact sJ (ρ:=ρ) h
abbrev uR:List Tg->Rho->Prop->Prop
 |[],_,A=>A
 |.n i::ts,ρ,A=>wFr ρ i (uR ts ρ A)
 |.tup us::ts,ρ,A=>dW (.tup us) ρ=aN/\uR ts ρ A
abbrev wFt:Tg->Rho->Prop->Prop
 |.n i,ρ,A=>wFr ρ i A
 |.tup ts,ρ,A=>uR ts ρ A
def qQ{i:Nat}{b:Rho}(h:b[i]?=aw aD):dW (.n i) b=aN:=by rw[dW,h]
def sK:∀ {T:List Tg} {b:Rho} {A:Prop},uR T b A->gy T b=aN/\A
 |[],_,_,h=>{by rw[gy],h}
 |.n i::T,b,_,h=>by
  let{e,h}:=sJ h;let{E,h}:=sK h;exact{by rw[gy,qQ e,E];rfl,h}
 |.tup us::T,b,_,h=>by
  let{e,h}:=h;let{E,h}:=sK h;exact{by rw[gy,e,E];rfl,h}
def xD{t:Tg}{b:Rho}{A:Prop}(h:wFt t b A):dW t b=aN/\A:=by
 cases t with
 |n i=>exact{qQ (sJ h).1,(sJ h).2}
 |tup T=>rw[dW];exact sK h
abbrev uS:List Str->Rho->(Rho->Prop)->Prop
 |[],r,Q=>Q r
 |_::own,r,Q=>uS own (aD::r) Q
abbrev uT:Rho->Rho->(Rho->Prop)->Prop
 |[],r,Q=>Q r
 |o::ρ,r,Q=>uT ρ r λb=>Q (o::b)
def yX:∀ {ρ r:Rho} {Q:Rho->Prop},uT ρ r Q->Q (ρ++r)
 |[],_,_,h=>h
 |o::ρ,r,Q,h=>yX (ρ:=ρ) (Q:=λb=>Q (o::b)) h
def yY:∀ {own:List Str} {k:Nat} {Q:Rho->Prop},uS own (ZP k aD) Q->Q (ZP (own.length+k) aD)
 |[],k,_,h=>by rw[Z4,YE];exact h
 |_::own,k,Q,h=>by
  let:=yY (own:=own) (k:=k+1) h;rw[Zo,show own.length+1+k=own.length+(k+1) by lia];exact this
abbrev K7(own:List Str)(it:WP Nxt)(T:Tg)(c:XA)(k:Nat):WP (List D):=λd S Q=>it d S λnx h=>uS own [] λr=>uT d r λb=>wFt T b (Ok (bC nx T c b k 0 h) λE f=>E.length<=100000/\Q E f)
def DZ{own:List Str}{k:Nat}{w:WP Nxt}{it:XI}{T:Tg}{c:XA}(hw:Sd w it):Sd (K7 own w T c k) (nM own.length it T c k):=λ_ _ _ h=>by
 rw[HD]
 exact(hw _ _ _ h).mono λnx b h=>by
  let h:=yX (yY (own:=own) (k:=0) h);exact xD h
abbrev D0(it:WP Nxt)(T:Tg)(c:XA)(k:Nat):WP (List D):=λb S Q=>wFt T b (it b S λnx d=>Ok (bC nx T c b k 0 d) Q)
def HS{k:Nat}{w:WP Nxt}{it:XI}{T:Tg}{c:XA}(hw:Sd w it):Sd (D0 w T c k) (km it T c k):=λ_ _ _ h=>by
 rw[DP];exact{(xD h).1,hw _ _ _ (xD h).2}
abbrev uU(d:D)(b:Sto)(Q:Nxt->Sto->Prop):Prop:=match d with
 |.tup ds=>Q (nxL ds) b
 |.ref n=>(aR b n).isSome=aN/\Q (nxS n) b
 |.non=>False |.bl _=>False |.str _=>False |.int _=>False
def UW{w:WP D}{x:XE}(hw:Sd w x):Sd (λc S Q=>w c S λd b=>uU d b Q) (xIV x):=λ_ _ _ h=>aZ ((hw _ _ _ h).mono λd b h=>by
 cases d with
 |tup f=>exact bF h
 |ref n=>dsimp!;rw[if_pos h.1];exact bF h.2
 | _=>exact h.elim)
abbrev HU(d:D)(b:Sto)(Q:Nxt->Sto->Prop):Prop:=match d with
 |.tup ds=>Q (GC ds) b
 |_=>False
def UX{w:WP D}{x:XE}(hw:Sd w x):Sd (λc S Q=>w c S λd b=>HU d b Q) (xEV x):=λ_ _ _ h=>aZ ((hw _ _ _ h).mono λd b h=>by
 cases d with
 |tup f=>exact bF h
 | _=>exact h.elim)
abbrev wOn{b β:Type}(f:b->β)(x:WP b):WP β:=λc S Q=>x c S λa d=>Q (f a) d
def K8{b j:Type}{f:b->j}{w:WP b}{x:Rho->Sto->Option (b×Sto)}(hw:Sd w x):Sd (wOn f w) (λk S=>bnd (x k S) λa c=>aw (f a,c)):=λ_ _ _ h=>aZ ((hw _ _ _ h).mono λd c h=>bF h)
abbrev wR1(x:WP D):WP Nxt:=λc S Q=>x c S λd b=>cW d λj=>lim j=aN/\Q (nxR 0 j.toNat) b
def UY{w:WP D}{x:XE}(hw:Sd w x):Sd (wR1 w) (xR1 x):=λ_ _ _ h=>aZ ((hw _ _ _ h).mono λd b h=>by
 let{i,rfl,h}:=cL h;dsimp!;rw[if_pos h.1];exact bF h.2)
abbrev wDn(x:WP D):WP Nxt:=λc S Q=>x c S λd b=>cW d λj=>lim j=aN/\Q (nxD j (j+1).toNat) b
def UZ{w:WP D}{x:XE}(hw:Sd w x):Sd (wDn w) (xDn x):=λ_ _ _ h=>aZ ((hw _ _ _ h).mono λd b h=>by
 cases d with
 |int j=>let{h,q}:=h;dsimp!;rw[if_pos h];exact bF q
 | _=>exact h.elim)
abbrev Oq(d:D)(P:Nat->Prop):Prop:=match d with
 |.ref n=>P n
 |_=>False
abbrev wDK(x:WP D):WP Nxt:=λc S Q=>x c S λd b=>Oq d λn=>∃ks f,b[n]?=aw (.dfz ks f)/\Q (nxK n ks) b
def U0{w:WP D}{x:XE}(hw:Sd w x):Sd (wDK w) (xDK x):=λ_ _ _ h=>aZ ((hw _ _ _ h).mono λd b h=>by
 cases d with
 |ref n=>let{ks,c,e,q}:=h;dsimp!;rw[e];exact bF q
 | _=>exact h.elim)
abbrev K9(x:WP D):WP D:=λc S Q=>x c S λd b=>cW d λi=>(0<=i/\i<=1000)/\Q (.tup ((Zi i.toNat).map λj=>.int (Int.ofNat j))) b
def Ot{w:WP D}{x:XE}(hw:Sd w x):Sd (K9 w) (C1 x):=λ_ _ _ h=>aZ ((hw _ _ _ h).mono λd b h=>by
 cases d with
 |int j=>let{h,q}:=h;dsimp!;rw[if_pos h];exact bF q
 | _=>exact h.elim)
abbrev wR2(x y:WP D):WP Nxt:=λb S Q=>x b S λd f=>y b f λe c=>cW d λi=>cW e λj=>(lim i=aN/\lim j=aN)/\Q (nxR i (j - i).toNat) c
def U1{w v:WP D}{x y:XE}(hw:Sd w x)(c:Sd v y):Sd (wR2 w v) (xR2 x y):=λ_ _ _ h=>aZ ((hw _ _ _ h).mono λd l h=>aZ ((c _ _ _ h).mono λe k h=>by
 let{i,rfl,f}:=cL h;let{j,rfl,b}:=cL f;dsimp!;rw[if_pos b.1];exact bF b.2))
abbrev cX(d:D)(S:Sto)(Q:Bool->Sto->Prop):Prop:=match d with
 |.bl b=>Q b S
 |.tup ds=>Q (!ds.isEmpty) S
 |.int i=>Q (i != 0) S
 |.non=>Q aS S
 |.str y=>Ok (nj (.str y) S) Q
 |.ref y=>Ok (nj (.ref y) S) Q
def D1{d:D}{S:Sto}{Q:Bool->Sto->Prop}(h:cX d S Q):Ok (nj d S) Q:=by cases d <;> first |exact bF h |exact h
abbrev wB(x:WP D):WP Bool:=λf S Q=>x f S λd c=>wBl d λb=>Q b c
def s_b{w:WP D}{x:XE}(hw:Sd w x):Sd (wB w) (xB x):=λ_ _ _ h=>by
 rw[SO];exact(hw _ _ _ h).mono λd b h=>oP h
abbrev La(x y:WP Bool):WP Bool:=λd S Q=>x d S λb c=>wIf b (y d c Q) (Q aS c)
abbrev Tc(x y:WP Bool):WP Bool:=λd S Q=>x d S λb c=>wIf b (Q aN c) (y d c Q)
abbrev Lb(x:WP Bool):WP Bool:=λd S Q=>x d S λb c=>Q (!b) c
def Ou{w v:WP Bool}{x y:XT}(hw:Sd w x)(c:Sd v y):Sd (La w v) (CO x y):=λ_ _ _ h=>aZ ((hw _ _ _ h).mono λb d h=>by
 cases b with
 |true=>exact c _ _ _ h
 | false=>exact bF h)
def Td{w v:WP Bool}{x y:XT}(hw:Sd w x)(c:Sd v y):Sd (Tc w v) (MW x y):=λ_ _ _ h=>aZ ((hw _ _ _ h).mono λb d h=>by
 cases b with
 |false=>exact c _ _ _ h
 | true=>exact bF h)
def Ov{w:WP Bool}{x:XT}(hw:Sd w x):Sd (Lb w) (CP x):=λ_ _ _ h=>aZ ((hw _ _ _ h).mono λb c h=>bF h)
abbrev Lc(t:WP Bool)(c:WP (List D)):WP (List D):=λf S Q=>t f S λb d=>wIf b (c f d Q) (Q [] d)
def Ow{t:WP Bool}{c:WP (List D)}{x:XT}{y:XA}(d:Sd t x)(hc:Sd c y):Sd (Lc t c) (CH x y):=λ_ _ _ h=>aZ ((d _ _ _ h).mono λb f h=>by
 cases b with
 |true=>exact hc _ _ _ h
 | false=>exact bF h)
abbrev HV(f:Bool->List D->Option (List D))(d:List D)(S:Sto)(Q:List D->Sto->Prop):Prop:=∃E,f aS d=aw E/\Q E S
abbrev HW(f:Bool->List D->Option (List D))(d:D)(S:Sto)(Q:List D->Sto->Prop):Prop:=∃r E,ay d S=aw r/\f r.1 r.2=aw E/\Q E S
def Te{f:Bool->List D->Option (List D)}{w:WP (List D)}{x:XA}(hw:Sd w x):Sd (λc S Q=>w c S λd b=>HV f d b Q) (AF f x):=λ_ _ _ h=>aZ ((hw _ _ _ h).mono λd b ⟨E,e,h⟩=>by rw[e];exact bF h)
def Tf{f:Bool->List D->Option (List D)}{w:WP D}{x:XE}(hw:Sd w x):Sd (λc S Q=>w c S λd b=>HW f d b Q) (AG f x):=λ_ _ _ h=>aZ ((hw _ _ _ h).mono λd b ⟨r,j,E,e,h⟩=>by
 rw[E];dsimp!;rw[e];exact bF h)
abbrev wNo{α:Type}:WP α:=λ_ _ _=>False
def sL{b:Type}{x:Rho->Sto->Option (b×Sto)}:Sd wNo x:=λ_ _ _ h=>h.elim
abbrev aQ(b:Bool)(x:WP (List D))(y:WP D)(c:Rho)(S:Sto)(KT:List D->Sto->Prop)(KV:D->Sto->Prop):Prop:=match b with
 |true=>x c S KT
 |false=>y c S KV
abbrev wOf{α:Type}(b:Bool)(x:WP (List D))(y:WP D)(gt:List D->Sto->(α->Sto->Prop)->Prop)(j:D->Sto->(α->Sto->Prop)->Prop):WP α:=λf S Q=>aQ b x y f S (λh c=>gt h c Q) (λd c=>j d c Q)
def s_of{c:Type}{b:Bool}{w:WP (List D)}{v:WP D}{gt:List D->Sto->(c->Sto->Prop)->Prop}{j:D->Sto->(c->Sto->Prop)->Prop}{x y:Rho->Sto->Option (c×Sto)}(hw:Sd (λh S Q=>w h S λl f=>gt l f Q) x)(k:Sd (λh S Q=>v h S λd f=>j d f Q) y):Sd (wOf b w v gt j) (if b=aN then x else y):=by
 cases b with
 |true=>exact hw
 |false=>exact k
def U2{b:Bool}{w:WP (List D)}{v u:WP D}{x:XA}{y z:XE}(hw:Sd w x)(p:Sd u z)(n:Sd v y):Sd (λf S Q=>aQ b w u f S (λl c=>v f c λi j=>cW i λk=>∃d,atI l k=aw d/\Q d j) (λd c=>v f c λi j=>Ok (ixS d i j) Q)) (if b=aN then wD x y else uc ixS z y):=λf S Q h=>by
 cases b with
 |true=>
  show Ok (wD x y f S) Q;rw[N9];exact(hw _ _ _ h).mono λl c h=>(n _ _ _ h).mono λi j h=>cL h
 |false=>exact aZ ((p _ _ _ h).mono λl c h=>aZ (n _ _ _ h))
abbrev wO2(t:CE->WP D):Option CE->Option (WP D)
 |none=>aD
 |some e=>aw (t e)
abbrev HX(t:CE->WP Bool):Option CE->WP (List D)->WP (List D)
 |some c,x=>Lc (t c) x
 |none,x=>x
abbrev D2(x y:D)(S:Sto)(Q:D->Sto->Prop):Prop:=cW x λi=>cW y λj=>Q (.int (if j > i then j else i)) S
abbrev D3(x y:D)(S:Sto)(Q:D->Sto->Prop):Prop:=cW x λi=>cW y λj=>Q (.int (if j < i then j else i)) S
abbrev w2(g:D->D->Sto->(D->Sto->Prop)->Prop):List D->Sto->(D->Sto->Prop)->Prop
 |[],_,_=>False
 |[_],_,_=>False
 |[x,y],S,Q=>g x y S Q
 |_::_::_::_,_,_=>False
def Lg{g:D->D->Sto->(D->Sto->Prop)->Prop}{f:D->D->Sto->Option (D×Sto)}(c:∀ {a b S Q},g a b S Q->Ok (f a b S) Q):∀ {d:List D} {S:Sto} {Q:D->Sto->Prop},w2 g d S Q->Ok (two f d S) Q
 |[],_,_,h=>h.elim
 |[_],_,_,h=>h.elim
 |[x,y],_,_,h=>c h
 |_::_::_::_,_,_,h=>h.elim
abbrev Lh:WP D:=λ_ S Q=>Q (.ref (Zl S)) (S++[.dic [] []])
abbrev wCf(i:CI->WP Nxt)(own:List Str)(t:CE->XT)(e:List Cl->XA):List Cl->WP (List D)
 |[]=>wNo
 |⟨tg,it,cond⟩::rest=>K7 own (i it) tg (cnd t cond (e rest)) LF
mutual
noncomputable def wE(C:Calls)(h:Nat->Nat):Nat->CE->WP D
 |0,_=>wNo
 |n+1,e=>match e with
  |.non=>wC .non
  |.bl b=>wC (.bl b)
  |.int i=>wC (.int i)
  |.str x=>wC (.str x)
  |.v i=>SQ i
  |.con _ v=>wC (.int v)
  |.tup es=>wSh es (wOn D.tup (wA C h n es))
  |.lst es=>oQ (wSh es (wA C h n es))
  |.dic0=>Lh
  |.b o a b=>HP (uQ o) (wE C h n a) (wE C h n b)
  |.neg a=>SX (wE C h n a)
  |.m o a b=>HP (wCm o) (wE C h n a) (wE C h n b)
  |.h o p a b c=>Oj o p (wE C h n a) (wE C h n b) (wE C h n c)
  |.d a b=>SS (wE C h n a) (wE C h n b)
  |.or a b=>wOr (wE C h n a) (wE C h n b)
  |.n a=>SV (wE C h n a)
  |.ite c a b=>SZ (wT C h n c) (wE C h n a) (wE C h n b)
  |.x a b=>λq S Q=>aQ (ai a) (wTm C h n a) (wE C h n a) q S (λu l=>wE C h n b q l λi j=>cW i λk=>∃d,atI u k=aw d/\Q d j) (λd l=>wE C h n b q l λi j=>Ok (ixS d i j) Q)
  |.sl a lo hi=>wSl (wE C h n a) (wO (wO2 (wE C h n) lo)) (wO (wO2 (wE C h n) hi))
  |.c f es=>K3 (C f) (h f) (wA C h n es)
  |.s t a=>wUn (wOk (nu t)) (wE C h n a)
  |.e a=>wOf (ai a) (wTm C h n a) (wE C h n a) (wOk (dh aS)) (wOk (ak dh))
  |.all a=>wOf (ai a) (wTm C h n a) (wE C h n a) (wOk (lY aS)) (wOk (ak lY))
  |.any a=>wOf (ai a) (wTm C h n a) (wE C h n a) (wOk (pH aS)) (wOk (ak pH))
  |.t a=>wOf (ai a) (wTm C h n a) (wE C h n a) (wOk (cO aS)) (wOk (ak cO))
  |.l a=>oQ (Om (wE C h n a))
  |.srt a=>oQ (wOf (ai a) (wTm C h n a) (wE C h n a) (HV cT) (HW cT))
  |.w a=>wOf (ai a) (wTm C h n a) (wE C h n a) (wOk (pJ aS)) (wOk (ak pJ))
  |.y a c=>wOf (ai a) (wTm C h n a) (wE C h n a) (wOk (fX c aS)) (wOk (ak (fX c)))
  |.sm a=>wOf (ai a) (wTm C h n a) (wE C h n a) (wOk (ul aS)) (wOk (ak ul))
  |.rev a=>wUn (wOk wQ) (wE C h n a)
  |.z a=>wOf (ai a) (wTm C h n a) (wE C h n a) (wOk (pO aS)) (wOk (ak pO))
  |.mx a b=>wUn (w2 D2) (wA C h n [a,b])
  |.mn a b=>wUn (w2 D3) (wA C h n [a,b])
  |.rep a=>wUn (wOk nK) (wE C h n a)
  |.o own elt cls=>oQ (wCf (wI C h n) own (evT C h n) (il C h n elt) cls)
  |.app o a=>xz cD rV (wE C h n o) (wA C h n [a])
  |.pop o=>xz cD wX (wE C h n o) Oo
  |.q o a=>xz cD iR (wE C h n o) (wA C h n [a])
  |.ins o i a=>xz cD w4 (wE C h n o) (wA C h n [i,a])
  |.cnt o a=>xz (λd _=>isTup d) wY (wE C h n o) (wA C h n [a])
  |.idx o a=>xz (λd _=>isTup d) xa (wE C h n o) (wA C h n [a])
  |.u a=>K9 (wE C h n a)
  |.k a=>wOf (ai a) (wTm C h n a) (wE C h n a) (wOk (pR aS)) (wOk (ak pR))
noncomputable def wA(C:Calls)(b:Nat->Nat):Nat->List CE->WP (List D)
 |0,_=>wNo
 |n+1,es=>match es with
  |[]=>Oo
  |e::es=>K6 (wE C b n e) (wA C b n es)
noncomputable def wTm(C:Calls)(b:Nat->Nat):Nat->CE->WP (List D)
 |0,_=>wNo
 |n+1,e=>match e with
  |.lst es=>wSh es (wA C b n es)
  |.l a=>Om (wE C b n a)
  |.srt a=>wOf (ai a) (wTm C b n a) (wE C b n a) (HV cT) (HW cT)
  |.o own elt cls=>wCf (wI C b n) own (evT C b n) (il C b n elt) cls
  |_=>wNo
noncomputable def wI(C:Calls)(c:Nat->Nat):Nat->CI->WP Nxt
 |0,_=>wNo
 |n+1,it=>match it with
  |.p a=>wOf (ai a) (wTm C c n a) (wE C c n a) (λj S Q=>Q (nxL j) S) uU
  |.r1 a=>wR1 (wE C c n a)
  |.dn a=>wDn (wE C c n a)
  |.dk a=>wDK (wE C c n a)
  |.r2 a b=>wR2 (wE C c n a) (wE C c n b)
  |.en a=>λh S Q=>wE C c n a h S λd f=>HU d f Q
noncomputable def wT(C:Calls)(d:Nat->Nat):Nat->CE->WP Bool
 |0,_=>wNo
 |n+1,e=>match e with
  |.m o a b=>wB (HP (wCm o) (wE C d n a) (wE C d n b))
  |.h o p a b c=>wB (Oj o p (wE C d n a) (wE C d n b) (wE C d n c))
  |.d a b=>La (wT C d n a) (wT C d n b)
  |.or a b=>Tc (wT C d n a) (wT C d n b)
  |.n a=>Lb (wT C d n a)
  |.ite _ _ _=>wNo
  |e=>wUn cX (wE C d n e)
end
abbrev wCl(C:Calls)(b:Nat->Nat)(n:Nat)(E:CE):List Cl->WP (List D)
 |[]=>wOn (λd=>[d]) (wE C b n E)
 |⟨tg,it,cond⟩::rest=>D0 (wI C b n it) tg (cnd (evT C b n) cond (il C b n E rest)) LF
def sM{C:Calls}{b:Nat->Nat}:∀ {n:Nat} {E:List CE} {j:Rho} {S f:Sto} {d:List D},evA C b n E j S=aw (d,f)->d.length=E.length
 |0,_,_,_,_,_,h=>by simp![evA,xNo]at h;cases h
 |n+1,[],_,_,_,_,h=>by simp![evA,z6]at h;cases h;rfl
 |n+1,e::E,_,_,_,_,h=>by
  simp![evA,yn]at h;let{a,p,q,h}:=ac h;let{l,k,c,h}:=ac h;cases h;rw[Zo,Zo,sM c]
structure SndW(C:Calls)(ar:Nat->Nat)(n:Nat):Prop where
 e:∀ {e:CE},Sd (wE C ar n e) (evE C ar n e)
 a:∀ {es:List CE},Sd (wA C ar n es) (evA C ar n es)
 m:∀ {e:CE},Sd (wTm C ar n e) (dG C ar n e)
 i:∀ {i:CI},Sd (wI C ar n i) (evI C ar n i)
 t:∀ {e:CE},Sd (wT C ar n e) (evT C ar n e)
section
variable {C:Calls} {A:Nat->Nat} {n:Nat}
def Th(h:SndW C A n){E:List CE}:Sd (wSh E (wOn D.tup (wA C A n E))) (m8 ng (evA C A n E)):=λf S Q w=>by
 let{le,w}:=jM w;let{d,c,b,q}:=h.a _ _ _ w;calc aZ {d,c,b,?_};let l:=sM b;show Ok (ng d c) Q;rw[HF];exact{by lia,q}
def D4(h:SndW C A n){E:List CE}:Sd (wSh E (wA C A n E)) (qo (evA C A n E)):=λf S Q w=>by
 let{le,w}:=jM w;let{d,c,b,q}:=h.a _ _ _ w;rw[HE];let l:=sM b;exact{d,c,b,by lia,q}
def Li(h:SndW C A n){o:Option CE}:Sd (wO (wO2 (wE C A n) o)) (opt (evE C A n) o):=by
 cases o with
 |none=>exact US
 |some e=>exact UT h.e
def HY{a b:D}{S:Sto}{Q:D->Sto->Prop}(h:D2 a b S Q):Ok (Co a b S) Q:=by
 let{i,rfl,d}:=cL h;let{j,rfl,c}:=cL d;exact bF c
def HZ{a b:D}{S:Sto}{Q:D->Sto->Prop}(h:D3 a b S Q):Ok (Cp a b S) Q:=by
 let{i,rfl,d}:=cL h;let{j,rfl,c}:=cL d;exact bF c
end
section
variable {C:Calls} {A:Nat->Nat} {n:Nat}
def Ti(h:SndW C A n){o:Option CE}{w:WP (List D)}{x:XA}(hw:Sd w x):Sd (HX (wT C A n) o w) (cnd (evT C A n) o x):=by
 cases o with
 |none=>exact hw
 |some c=>exact Ow h.t hw
def D5{c b:Type}{f:c->Sto->Option (b×Sto)}{a:c}{S:Sto}{Q:b->Sto->Prop}(h:wOk f a S Q):Ok (f a S) Q:=h
def s_q(h:SndW C A n){f:Bool->List D->Sto->Option (D×Sto)}{a:CE}:Sd (wOf (ai a) (wTm C A n a) (wE C A n a) (wOk (f aS)) (wOk (ak f))) (if ai a=aN then lU f (dG C A n a) else lV f (evE C A n a)):=
 s_of (HQ (f:=f aS) h.m D5) (HQ (f:=ak f) h.e D5)
def Lj(h:SndW C A n){a:CE}:Sd (wOf (ai a) (wTm C A n a) (wE C A n a) (HV cT) (HW cT)) (if ai a=aN then AF cT (dG C A n a) else AG cT (evE C A n a)):=s_of (Te h.m) (Tf h.e)
def s_u{g:D->Sto->Option (D×Sto)}{w:WP D}{x:XE}(hw:Sd w x):Sd (wUn (wOk g) w) (xUn g x):=HQ (f:=g) hw D5
def U3{w:WP (List D)}{x:XA}(hw:Sd w x):Sd (wUn (w2 D2) w) (m8 (two Co) x):=λ_ _ _ h=>aZ ((hw _ _ _ h).mono λ_ _ h=>Lg (λz=>HY z) h)
def U4{w:WP (List D)}{x:XA}(hw:Sd w x):Sd (wUn (w2 D3) w) (m8 (two Cp) x):=λ_ _ _ h=>aZ ((hw _ _ _ h).mono λ_ _ h=>Lg (λz=>HZ z) h)
def Ox:Sd Lh C5:=λ_ _ _ h=>bF h
def Tj{w:WP D}{x:XE}(hw:Sd w x):Sd (wUn cX w) (Gq x):=HQ (f:=nj) hw D1
def oT:∀n,SndW C A n
 |0=>⟨sL,sL,sL,sL,sL⟩
 |n+1=>by
  let h:=oT n;refine{λ{e}=>?_,λ{E}=>?_,λ{e}=>?_,λ{i}=>?_,λ{e}=>?_}
  .cases e with
   |non=>exact s_c
   |bl b=>exact s_c
   |int b=>exact s_c
   |str b=>exact s_c
   |v b=>exact SR
   |con b v=>exact s_c
   |tup E=>exact Th h
   |lst E=>exact jL (D4 h)
   |dic0=>exact Ox
   |b o a b=>exact DX h.e h.e HR
   |neg a=>exact SY h.e
   |m o a b=>exact DX h.e h.e sI
   |h o p a b c=>exact K2 h.e h.e h.e
   |d a b=>exact SU h.e h.e
   |or a b=>exact UR h.e h.e
   |n a=>exact SW h.e
   |ite c a b=>exact Ta h.t h.e h.e
   |x a b=>exact U2 h.m h.e h.e
   |sl a lo hi=>exact UU h.e (Li h) (Li h)
   |c f E=>exact Ol h.a
   |s t a=>exact s_u h.e
   |e a=>exact s_q h
   |all a=>exact s_q h
   |any a=>exact s_q h
   |t a=>exact s_q h
   |l a=>exact jL (K4 h.e)
   |srt a=>exact jL (Lj h)
   |w a=>exact s_q h
   |y a c=>exact s_q h
   |rev a=>exact s_u h.e
   |z a=>exact s_q h
   |sm a=>exact s_q h
   |mx a b=>exact U3 h.a
   |mn a b=>exact U4 h.a
   |rep a=>exact s_u h.e
   |o own k d=>cases d with
    |nil=>exact jL sL
    |cons c j=>cases c with |mk T I cond=>exact jL (DZ h.i)
   |app o a=>exact qP h.e h.a
   |pop o=>exact qP h.e K5
   |q o a=>exact qP h.e h.a
   |ins o i a=>exact qP h.e h.a
   |cnt o a=>exact qP h.e h.a
   |idx o a=>exact qP h.e h.a
   |u a=>exact Ot h.e
   |k a=>exact s_q h
  .cases E with
   |nil=>exact K5
   |cons e E=>exact Op h.e h.a
  .cases e with
   |lst E=>exact D4 h
   |l a=>exact K4 h.e
   |srt a=>exact Lj h
   |o own k d=>cases d with
    |nil=>exact sL
    |cons c j=>cases c with |mk T I cond=>exact DZ h.i
   |_=>exact sL
  .cases i with
   |p a=>exact s_of (K8 h.m) (UW h.e)
   |r1 a=>exact UY h.e
   |dn a=>exact UZ h.e
   |dk a=>exact U0 h.e
   |r2 a b=>exact U1 h.e h.e
   |en a=>exact UX h.e
  .cases e with
   |m o a b=>exact s_b (DX h.e h.e sI)
   |h o p a b c=>exact s_b (K2 h.e h.e h.e)
   |d a b=>exact Ou h.t h.t
   |or a b=>exact Td h.t h.t
   |n a=>exact Ov h.t
   |ite a b c=>exact sL
   |_=>exact Tj h.e
def U5{E:CE}{b:List Cl}:Sd (wCl C A n E b) (il C A (n+1) E b):=by
 cases b with
 |nil=>exact K8 (oT n).e
 |cons c d=>cases c with |mk T I cond=>exact HS (oT n).i
def Oy{E:CE}{c:List Cl}{o:Option CE}{b:Rho}{S:Sto}{Q:List D->Sto->Prop}(h:HX (wT C A (n+1)) o (wCl C A n E c) b S Q):Ok (cnd (evT C A (n+1)) o (il C A (n+1) E c) b S) Q:=Ti (oT (n+1)) U5 _ _ _ h
abbrev wNm:Nat->D->Rho->(Rho->Prop)->Prop
 |_,_,[],_=>False
 |0,d,_::ρ,Q=>Q (aw d::ρ)
 |i+1,d,o::ρ,Q=>wNm i d ρ λb=>Q (o::b)
def sN:∀ {i:Nat} {d:D} {ρ:Rho} {Q:Rho->Prop},wNm i d ρ Q->i < ρ.length/\Q (ρ.set i (aw d))
 |i,_,[],_,h=>by cases i <;> exact h.elim
 |0,d,_::ρ,Q,h=>{by simp,h}
 |i+1,d,o::ρ,Q,h=>by
  let:=sN (ρ:=ρ) (Q:=λb=>Q (o::b)) h;exact{by rw[Zo];lia,this.2}
abbrev wBs:List Tg->List D->Rho->(Rho->Prop)->Prop
 |[],[],ρ,Q=>Q ρ
 |[],_::_,_,_=>False
 |.n _::_,[],_,_=>False
 |.tup _::_,[],_,_=>False
 |.n i::ts,d::ds,ρ,Q=>wNm i d ρ λb=>wBs ts ds b Q
 |.tup us::ts,d::ds,ρ,Q=>∃b,aA (.tup us) d ρ=aw b/\wBs ts ds b Q
abbrev wTp(T:List Tg)(d:D)(b:Rho)(Q:Rho->Prop):Prop:=match d with
 |.tup ds=>wBs T ds b Q
 |.non=>False |.bl _=>False |.str _=>False |.int _=>False |.ref _=>False
abbrev wBd:Tg->D->Rho->(Rho->Prop)->Prop
 |.n i,d,ρ,Q=>wNm i d ρ Q
 |.tup ts,d,ρ,Q=>wTp ts d ρ Q
def D6{i:Nat}{d:D}{b:Rho}{Q:Rho->Prop}(h:wNm i d b Q):∃ρ1,aA (.n i) d b=aw ρ1/\Q ρ1:={_,by rw[HJ,if_pos (sN h).1],(sN h).2}
def xE:∀ {T:List Tg} {j:List D} {f:Rho} {Q:Rho->Prop},wBs T j f Q->∃b,aO T j f=aw b/\Q b
 |[],[],f,Q,h=>⟨f,yT,h⟩
 |[],_::_,_,_,h=>h.elim
 |.n _::_,[],_,_,h=>h.elim
 |.tup _::_,[],_,_,h=>h.elim
 |.n i::T,d::j,f,Q,h=>by
  let{b,e,q}:=D6 h;let{c,E,q}:=xE q;exact{c,by rw[aO,e];exact E,q}
 |.tup us::T,d::j,f,Q,h=>by
  let{b,e,q}:=h;let{c,E,q}:=xE q;exact{c,by rw[aO,e];exact E,q}
def Oz{t:Tg}{d:D}{b:Rho}{Q:Rho->Prop}(h:wBd t d b Q):∃ρ1,aA t d b=aw ρ1/\Q ρ1:=by
 cases t with
 |n i=>exact D6 h
 |tup T=>cases d with
  |tup c=>rw[DT];exact xE h
  |_=>exact h.elim
@[inline]abbrev WS:=Rho->Sto->(Fl->Rho->Sto->Prop)->Prop
abbrev rW(y:WS)(b:Rho)(S:Sto)(Q:Fl->Rho->Sto->Prop):Prop:=y b S Q
abbrev wNx(y:WS)(Q:Fl->Rho->Sto->Prop)(f:Fl)(b:Rho)(S:Sto):Prop:=match f with
 |.nx=>rW y b S Q
 |.rt d=>Q (.rt d) b S
 |.bk=>Q .bk b S
 |.ct=>Q .ct b S
mutual
noncomputable def wS(C:Calls)(A:Nat->Nat):Nat->CS->WS
 |0,_=>λ_ _ _=>False
 |n+1,s=>match s with
  |.a t e=>λf S Q=>wE C A n e f S λd h=>wBd t d f λj=>Q .nx j h
  |.j v o i=>λf S Q=>wE C A n v f S λa h=>wE C A n o f h λb l=>wE C A n i f l λc p=>∃k,kj b c a p=aw k/\Q .nx f k
  |.ex e=>λf S Q=>wE C A n e f S λ_ h=>Q .nx f h
  |.ret e=>λf S Q=>wE C A n e f S λd h=>Q (.rt d) f h
  |.i c a b=>λf S Q=>wT C A n c f S λt h=>wIf t (rW (wSs C A n a) f h Q) (rW (wSs C A n b) f h Q)
  |.f t it b=>λf S Q=>wI C A n it f S λnx h=>OkS (eJ nx t (eM C A n b) LF 0 f h) Q
  |.g c b=>λf S Q=>OkS (bH (evT C A n c) (eM C A n b) LF f S) Q
  |.cnt=>λf S Q=>Q .ct f S
  |.never=>λ_ _ _=>False
noncomputable def wSs(C:Calls)(A:Nat->Nat):Nat->List CS->WS
 |0,_=>λ_ _ _=>False
 |n+1,ss=>match ss with
  |[]=>λb S Q=>Q .nx b S
  |s::ss=>λb S Q=>wS C A n s b S (wNx (wSs C A n ss) Q)
end
structure SdS(C:Calls)(A:Nat->Nat)(n:Nat):Prop where
 s:∀ {s:CS} {ρ S Q},wS C A n s ρ S Q->OkS (evS C A n s ρ S) Q
 ss:∀ {ss:List CS} {ρ S Q},wSs C A n ss ρ S Q->OkS (eM C A n ss ρ S) Q
def D7:∀n,SdS C A n
 |0=>{λh=>by simp![wS]at h,λh=>by simp![wSs]at h}
 |n+1=>by
  let h:=D7 n;let g:SndW C A n:=oT n;refine{λ{s ρ S Q} w=>?_,λ{ss ρ S Q} w=>?_}
  .cases s with
   |a t e=>simp![evS,Hz];simp![wS]at w;exact(g.e _ _ _ w).mono λd j w=>Oz w
   |j v o i=>simp![evS,DN];simp![wS]at w;exact(g.e _ _ _ w).mono λa j w=>(g.e _ _ _ w).mono λb l w=>g.e _ _ _ w
   |ex e=>simp![evS,DM];simp![wS]at w;exact g.e _ _ _ w
   |ret e=>simp![evS,HA];simp![wS]at w;exact g.e _ _ _ w
   |i c a b=>
    simp![evS,NM];simp![wS]at w;calc(g.t _ _ _ w).mono λt j w=>?_;cases t with
    |true=>exact h.ss w
    |false=>exact h.ss w
   |f t I b=>simp![evS,HB];simp![wS]at w;exact g.i _ _ _ w
   |g c b=>simp![wS]at w;simp![evS];exact w
   |cnt=>simp![wS]at w;simp![evS];exact⟨_,_,_,rfl,w⟩
   |never=>simp![wS]at w
  .cases ss with
   |nil=>simp![wSs]at w;simp![eM];exact⟨_,_,_,rfl,w⟩
   |cons s ss=>
    simp![wSs]at w;simp![eM,Hy];calc(h.s w).mono λf k j w=>?_;cases f with
    |nx=>exact h.ss w
    |_=>exact w
def OA{ss:List CS}{b:Rho}{S:Sto}{Q:Fl->Rho->Sto->Prop}(h:rW (wSs C A n ss) b S Q):OkS (eM C A n ss b S) Q:=(D7 n).ss h
def D8{s:CS}{ss:List CS}{b:Rho}{S:Sto}{Q:Fl->Rho->Sto->Prop}(h:wS C A n s b S (wNx (wSs C A n ss) Q)):rW (wSs C A (n+1) (s::ss)) b S Q:=h
def H8{b:Rho}{S:Sto}{Q:Fl->Rho->Sto->Prop}(h:Q .nx b S):rW (wSs C A (n+1) []) b S Q:=h
end
def OB{ab:List DefE}{k f:Nat}{d:DefE}{z:CE×Pos×Str}{j:List D}{ρ:Rho}{S:Sto}{Q:D->Sto->Prop}(hd:ab[f]?=aw d)(p:d.ks=aw z)(l:3<=k)(c:j.map aw++ZP (d.N.length - j.length) aD=ρ)
  (h:wE (evC ab k) (cu ab) 60 z.1 ρ S λv b=>∃n ls E,v = .ref n/\xq d.x z.2.1 z.2.2 n b ls E/\Q (.ref b.length) (b++[.lst (c9 ls .non E)])):Ok (evC ab (k+1) f j S) Q:=by
 subst c;simp![evC,hd,p,if_pos l];let{v,b,e,n,ls,E,rfl,hs,q}:=(oT 60).e _ _ _ h;exact{_,_,Hq (by delta FU;exact e) hs,q}
section
variable {C:Calls} {u:Nat->Nat} {A B:Prop} {S v:Sto} {Q:D->Sto->Prop} {E:List D->Sto->Prop} {G:Nxt->Sto->Prop} {H:Bool->Prop} {I:Int->Prop} {J:D->Prop} {L:Rho->Prop} {M:Bool->Sto->Prop} {N:Fl->Rho->Sto->Prop} {t:Bool} {d x y:D} {i j:Int} {n m f:Nat} {s:Str} {o:BOp} {c p:COp} {ds xs Y:List D} {l h:Option Int} {T:Tg} {ts:List Tg} {ρ O:Rho} {es:List CE} {a b e:CE} {U ob X:Option CE} {own:List Str} {it:CI} {Z:List Cl} {ty:Ty} {w wl:WP (List D)} {wv:WP D} {sa sb:List CS} {ws:WS} {od:Option D} {g:D->D->Sto->(D->Sto->Prop)->Prop}
def OC:wE C u (n+1) (.non) ρ S Q=(Q .non S):=rfl
def Tk:wE C u (n+1) (.bl t) ρ S Q=(Q (.bl t) S):=rfl
def OD:wE C u (n+1) (.int i) ρ S Q=(Q (.int i) S):=rfl
def OE:wE C u (n+1) (.str s) ρ S Q=(Q (.str s) S):=rfl
def OG:wE C u (n+1) (.con m i) ρ S Q=(Q (.int i) S):=rfl
def OH:wE C u (n+1) (.v m) ρ S Q=(xw ρ m λd=>Q d S):=rfl
def OI:wE C u (n+1) (.tup es) ρ S Q=(fT 60 es (wA C u n es ρ S λds v=>Q (.tup ds) v)):=rfl
def OJ:wE C u (n+1) (.lst es) ρ S Q=(fT 60 es (wA C u n es ρ S λds v=>Q (.ref v.length) (v++[.lst ds]))):=rfl
def Ia:wE C u (n+1) (.dic0) ρ S Q=(Q (.ref (Zl S)) (S++[.dic [] []])):=rfl
def OK:wE C u (n+1) (.b o a b) ρ S Q=(wE C u n a ρ S λx v=>wE C u n b ρ v λy k=>uQ o x y k Q):=rfl
def OL:wE C u (n+1) (.neg a) ρ S Q=(wE C u n a ρ S λd v=>cW d λi=>Q (.int (-i)) v):=rfl
def OM:wE C u (n+1) (.m c a b) ρ S Q=(wE C u n a ρ S λx v=>wE C u n b ρ v λy k=>wCm c x y k Q):=rfl
def OO:wE C u (n+1) (.h c p a b e) ρ S Q=(wE C u n a ρ S λx v=>wE C u n b ρ v λy S2=>wCm c x y S2 λr k=>wBl r λt=>wIf t (wE C u n e ρ k λz q=>wCm p y z q Q) (Q (.bl aS) k)):=rfl
def OP:wE C u (n+1) (.d a b) ρ S Q=(wE C u n a ρ S λd v=>wBl d λt=>wIf t (wE C u n b ρ v Q) (Q (.bl aS) v)):=rfl
def Tl:wE C u (n+1) (.or a b) ρ S Q=(wE C u n a ρ S λd v=>wBl d λt=>wIf t (Q (.bl aN) v) (wE C u n b ρ v Q)):=rfl
def OQ:wE C u (n+1) (.n a) ρ S Q=(wE C u n a ρ S λd v=>wBl d λt=>Q (.bl (!t)) v):=rfl
def OT:wE C u (n+1) (.ite e a b) ρ S Q=(wT C u n e ρ S λt v=>wIf t (wE C u n a ρ v Q) (wE C u n b ρ v Q)):=rfl
def Tn:wE C u (n+1) (.x a b) ρ S Q=(aQ (ai a) (wTm C u n a) (wE C u n a) ρ S (λds v=>wE C u n b ρ v λi q=>cW i λk=>∃d,atI ds k=aw d/\Q d q) (λd v=>wE C u n b ρ v λi q=>Ok (ixS d i q) Q)):=rfl
def Ib:wE C u (n+1) (.sl a aD aD) ρ S Q=(wE C u n a ρ S λd v=>xy aD aD d v Q):=rfl
def Ic:wE C u (n+1) (.sl a aD (aw b)) ρ S Q=(wE C u n a ρ S λd v=>wE C u n b ρ v λy k=>cW y λj=>xy aD (aw j) d k Q):=rfl
def Ie:wE C u (n+1) (.sl a (aw b) aD) ρ S Q=(wE C u n a ρ S λd v=>wE C u n b ρ v λy k=>cW y λj=>xy (aw j) aD d k Q):=rfl
def Ig:wE C u (n+1) (.sl a (aw b) (aw e)) ρ S Q=(wE C u n a ρ S λd v=>wE C u n b ρ v λy S2=>cW y λj=>wE C u n e ρ S2 λz q=>cW z λk=>xy (aw j) (aw k) d q Q):=rfl
def Ih:wE C u (n+1) (.c f es) ρ S Q=(wA C u n es ρ S λds v=>ds.length=u f/\Ok (C f ds v) Q):=rfl
def Ii:wE C u (n+1) (.s ty a) ρ S Q=(wE C u n a ρ S λd v=>Ok (nu ty d v) Q):=rfl
def OU:wE C u (n+1) (.e a) ρ S Q=(aQ (ai a) (wTm C u n a) (wE C u n a) ρ S (λds v=>Ok (dh aS ds v) Q) (λd v=>Ok (ak dh d v) Q)):=rfl
def OV:wE C u (n+1) (.all a) ρ S Q=(aQ (ai a) (wTm C u n a) (wE C u n a) ρ S (λds v=>Ok (lY aS ds v) Q) (λd v=>Ok (ak lY d v) Q)):=rfl
def OW:wE C u (n+1) (.any a) ρ S Q=(aQ (ai a) (wTm C u n a) (wE C u n a) ρ S (λds v=>Ok (pH aS ds v) Q) (λd v=>Ok (ak pH d v) Q)):=rfl
def D9:wE C u (n+1) (.t a) ρ S Q=(aQ (ai a) (wTm C u n a) (wE C u n a) ρ S (λds v=>Ok (cO aS ds v) Q) (λd v=>Ok (ak cO d v) Q)):=rfl
def OX:wE C u (n+1) (.w a) ρ S Q=(aQ (ai a) (wTm C u n a) (wE C u n a) ρ S (λds v=>Ok (pJ aS ds v) Q) (λd v=>Ok (ak pJ d v) Q)):=rfl
def OY:wE C u (n+1) (.y a i) ρ S Q=(aQ (ai a) (wTm C u n a) (wE C u n a) ρ S (λds v=>Ok (fX i aS ds v) Q) (λd v=>Ok (ak (fX i) d v) Q)):=rfl
def To:wE C u (n+1) (.sm a) ρ S Q=(aQ (ai a) (wTm C u n a) (wE C u n a) ρ S (λds v=>Ok (ul aS ds v) Q) (λd v=>Ok (ak ul d v) Q)):=rfl
def Ea:wE C u (n+1) (.l a) ρ S Q=(wE C u n a ρ S λd v=>∃i:Nat,d = .int i/\i<=1000/\Q (.ref v.length) (v++[.lst ((Zi i).map λj=>.int (Int.ofNat j))])):=rfl
def OZ:wE C u (n+1) (.srt a) ρ S Q=(aQ (ai a) (wTm C u n a) (wE C u n a) ρ S (λds v=>∃es,cT aS ds=aw es/\Q (.ref v.length) (v++[.lst es])) (λd v=>∃r es,ay d v=aw r/\cT r.1 r.2=aw es/\Q (.ref v.length) (v++[.lst es]))):=rfl
def O0:wE C u (n+1) (.rev a) ρ S Q=(wE C u n a ρ S λd v=>Ok (wQ d v) Q):=rfl
def O1:wE C u (n+1) (.z a) ρ S Q=(aQ (ai a) (wTm C u n a) (wE C u n a) ρ S (λds v=>Ok (pO aS ds v) Q) (λd v=>Ok (ak pO d v) Q)):=rfl
def Tp:wE C u (n+1) (.mx a b) ρ S Q=(wA C u n [a,b] ρ S λds v=>w2 D2 ds v Q):=rfl
def Tq:wE C u (n+1) (.mn a b) ρ S Q=(wA C u n [a,b] ρ S λds v=>w2 D3 ds v Q):=rfl
def O2:wE C u (n+1) (.rep a) ρ S Q=(wE C u n a ρ S λd v=>Ok (nK d v) Q):=rfl
def Ij:wE C u (n+1) (.o own a (⟨T,it,X⟩::Z)) ρ S Q=(wI C u n it ρ S λnx v=>uS own [] λr=>uT ρ r λk=>wFt T k (Ok (bC nx T (cnd (evT C u n) X (il C u n a Z)) k LF 0 v) λes q=>es.length<=100000/\Q (.ref q.length) (q++[.lst es]))):=rfl
def O3:wE C u (n+1) (.app a b) ρ S Q=(wE C u n a ρ S λd v=>cD d v=aN/\wA C u n [b] ρ v λk q=>Ok (rV d k q) Q):=rfl
def O4:wE C u (n+1) (.pop a) ρ S Q=(wE C u n a ρ S λd v=>cD d v=aN/\Ok (wX d [] v) Q):=rfl
def Eb:wE C u (n+1) (.q a b) ρ S Q=(wE C u n a ρ S λd v=>cD d v=aN/\wA C u n [b] ρ v λk q=>Ok (iR d k q) Q):=rfl
def O5:wE C u (n+1) (.ins a b e) ρ S Q=(wE C u n a ρ S λd v=>cD d v=aN/\wA C u n [b,e] ρ v λk q=>Ok (w4 d k q) Q):=rfl
def O6:wE C u (n+1) (.idx a b) ρ S Q=(wE C u n a ρ S λd v=>isTup d=aN/\wA C u n [b] ρ v λk q=>Ok (xa d k q) Q):=rfl
def Ik:wE C u (n+1) (.u a) ρ S Q=(wE C u n a ρ S λd v=>cW d λi=>(0<=i/\i<=1000)/\Q (.tup ((Zi i.toNat).map λj=>.int (Int.ofNat j))) v):=rfl
def O7:wE C u (n+1) (.k a) ρ S Q=(aQ (ai a) (wTm C u n a) (wE C u n a) ρ S (λds v=>Ok (pR aS ds v) Q) (λd v=>Ok (ak pR d v) Q)):=rfl
def O8:wE C u (n+1) (.cnt a b) ρ S Q=(wE C u n a ρ S λd v=>isTup d=aN/\wA C u n [b] ρ v λk q=>Ok (wY d k q) Q):=rfl
def U6:wA C u (n+1) [] ρ S E=E [] S:=rfl
def U7:wA C u (n+1) (a::es) ρ S E=(wE C u n a ρ S λd v=>wA C u n es ρ v λds k=>E (d::ds) k):=rfl
def O9:wTm C u (n+1) (.lst es) ρ S E=fT 60 es (wA C u n es ρ S E):=rfl
def Ec:wTm C u (n+1) (.l a) ρ S E=(wE C u n a ρ S λd v=>∃i:Nat,d = .int i/\i<=1000/\E ((Zi i).map λj=>.int (Int.ofNat j)) v):=rfl
def Pa:wTm C u (n+1) (.srt a) ρ S E=(aQ (ai a) (wTm C u n a) (wE C u n a) ρ S (λds v=>∃es,cT aS ds=aw es/\E es v) (λd v=>∃r es,ay d v=aw r/\cT r.1 r.2=aw es/\E es v)):=rfl
def Il:wTm C u (n+1) (.o own a (⟨T,it,X⟩::Z)) ρ S E=(wI C u n it ρ S λnx v=>uS own [] λr=>uT ρ r λk=>wFt T k (Ok (bC nx T (cnd (evT C u n) X (il C u n a Z)) k LF 0 v) λes q=>es.length<=100000/\E es q)):=rfl
def Pb:wI C u (n+1) (.p a) ρ S G=(aQ (ai a) (wTm C u n a) (wE C u n a) ρ S (λds v=>G (nxL ds) v) (λd v=>uU d v G)):=rfl
def Tr:wI C u (n+1) (.en a) ρ S G=(wE C u n a ρ S λd v=>HU d v G):=rfl
def Ts:wI C u (n+1) (.r1 a) ρ S G=(wE C u n a ρ S λd v=>cW d λj=>lim j=aN/\G (nxR 0 j.toNat) v):=rfl
def Tt:wI C u (n+1) (.dk a) ρ S G=(wE C u n a ρ S λd v=>Oq d λn=>∃ks ds,v[n]?=aw (.dfz ks ds)/\G (nxK n ks) v):=rfl
def Tu:wI C u (n+1) (.dn a) ρ S G=(wE C u n a ρ S λd v=>cW d λj=>lim j=aN/\G (nxD j (j+1).toNat) v):=rfl
def Tv:wI C u (n+1) (.r2 a b) ρ S G=(wE C u n a ρ S λd v=>wE C u n b ρ v λe k=>cW d λi=>cW e λj=>(lim i=aN/\lim j=aN)/\G (nxR i (j - i).toNat) k):=rfl
def Pc:wT C u (n+1) (.m c a b) ρ S M=(wE C u n a ρ S λx v=>wE C u n b ρ v λy q=>wCm c x y q λd k=>wBl d λt=>M t k):=rfl
def Pd:wT C u (n+1) (.h c p a b e) ρ S M=(wE C u n a ρ S λx v=>wE C u n b ρ v λy q=>wCm c x y q λr k=>wBl r λt=>wIf t (wE C u n e ρ k λz S4=>wCm p y z S4 λd S5=>wBl d λt=>M t S5) (wBl (.bl aS) λt=>M t k)):=rfl
def Pe:wT C u (n+1) (.d a b) ρ S M=(wT C u n a ρ S λt v=>wIf t (wT C u n b ρ v M) (M aS v)):=rfl
def Tw:wT C u (n+1) (.or a b) ρ S M=(wT C u n a ρ S λt v=>wIf t (M aN v) (wT C u n b ρ v M)):=rfl
def Pf:wT C u (n+1) (.n a) ρ S M=(wT C u n a ρ S λt v=>M (!t) v):=rfl
def Tx:wT C u (n+1) (.bl t) ρ S M=(wE C u n (.bl t) ρ S λd v=>cX d v M):=rfl
def Pg:wT C u (n+1) (.v m) ρ S M=(wE C u n (.v m) ρ S λd v=>cX d v M):=rfl
def Im:wT C u (n+1) (.c f es) ρ S M=(wE C u n (.c f es) ρ S λd v=>cX d v M):=rfl
def Io:wT C u (n+1) (.s ty a) ρ S M=(wE C u n (.s ty a) ρ S λd v=>cX d v M):=rfl
def Ph:wT C u (n+1) (.all a) ρ S M=(wE C u n (.all a) ρ S λd v=>cX d v M):=rfl
def Pj:wT C u (n+1) (.any a) ρ S M=(wE C u n (.any a) ρ S λd v=>cX d v M):=rfl
def Pk:wT C u (n+1) (.e a) ρ S M=(wE C u n (.e a) ρ S λd v=>cX d v M):=rfl
def Tz:wT C u (n+1) (.x a b) ρ S M=(wE C u n (.x a b) ρ S λd v=>cX d v M):=rfl
def Pl:wT C u (n+1) (.lst es) ρ S M=(wE C u n (.lst es) ρ S λd v=>cX d v M):=rfl
def Pn:wT C u (n+1) (.tup es) ρ S M=(wE C u n (.tup es) ρ S λd v=>cX d v M):=rfl
def U8:wCl C u n a [] ρ S E=(wE C u n a ρ S λd v=>E [d] v):=rfl
def U9:wCl C u n a (⟨T,it,X⟩::Z) ρ S E=(wFt T ρ (wI C u n it ρ S λnx v=>Ok (bC nx T (cnd (evT C u n) X (il C u n a Z)) ρ LF 0 v) E)):=rfl
def Va:HX (wT C u n) aD w ρ S E=w ρ S E:=rfl
def Vb:HX (wT C u n) (aw a) w ρ S E=(wT C u n a ρ S λt v=>wIf t (w ρ v E) (E [] v)):=rfl
def Po:wS C u (n+1) (.a T a) ρ S N=(wE C u n a ρ S λd v=>wBd T d ρ λk=>N .nx k v):=rfl
def Ip:wS C u (n+1) (.j a b e) ρ S N=(wE C u n a ρ S λx v=>wE C u n b ρ v λy S2=>wE C u n e ρ S2 λz q=>∃k,kj y z x q=aw k/\N .nx ρ k):=rfl
def TB:wS C u (n+1) (.ex a) ρ S N=(wE C u n a ρ S λ_ v=>N .nx ρ v):=rfl
def Pp:wS C u (n+1) (.ret a) ρ S N=(wE C u n a ρ S λd v=>N (.rt d) ρ v):=rfl
def Pq:wS C u (n+1) (.i a sa sb) ρ S N=(wT C u n a ρ S λt v=>wIf t (rW (wSs C u n sa) ρ v N) (rW (wSs C u n sb) ρ v N)):=rfl
def Pr:wS C u (n+1) (.f T it sa) ρ S N=(wI C u n it ρ S λnx v=>OkS (eJ nx T (eM C u n sa) LF 0 ρ v) N):=rfl
def Ed:wS C u (n+1) (.g a sa) ρ S N=OkS (bH (evT C u n a) (eM C u n sa) LF ρ S) N:=rfl
def Ps:wS C u (n+1) .cnt ρ S N=N .ct ρ S:=rfl
def TC:wNx ws N .nx ρ S=rW ws ρ S N:=rfl
def TH:wNx ws N (.rt d) ρ S=N (.rt d) ρ S:=rfl
def TJ:wNx ws N .bk ρ S=N .bk ρ S:=rfl
def TK:wNx ws N .ct ρ S=N .ct ρ S:=rfl
def Pt:wIf (aN && t) A B=wIf t A B:=rfl
def Pu:wIf (aS && t) A B=B:=rfl
def Pv:wIf (aN || t) A B=A:=rfl
def Iq:wIf (aS || t) A B=wIf t A B:=rfl
def Ir:wIf (!(aN && t)) A B=wIf (!t) A B:=rfl
def Iu:wIf (!(aS && t)) A B=A:=rfl
def Iv:wIf (!(aN || t)) A B=B:=rfl
def Iw:wIf (!(aS || t)) A B=wIf (!t) A B:=rfl
def TL:wIf aN A B=A:=rfl
def TM:wIf aS A B=B:=rfl
def Pw:wIf (!aN) A B=B:=rfl
def Px:wIf (!aS) A B=A:=rfl
def TN:wBl (.bl t) H=H t:=rfl
def Py:cW (.int i) I=I i:=rfl
def Pz:xw (aw d::ρ) 0 J=J d:=rfl
def PC:xw (od::ρ) (n+1) J=xw ρ n J:=rfl
def TQ:wFr (aD::ρ) 0 A=A:=rfl
def TR:wFr (od::ρ) (n+1) A=wFr ρ n A:=rfl
def PD:uR [] ρ A=A:=rfl
def PF:uR (.n m::ts) ρ A=wFr ρ m (uR ts ρ A):=rfl
def TU:wFt (.n m) ρ A=wFr ρ m A:=rfl
def TV:wFt (.tup ts) ρ A=uR ts ρ A:=rfl
def PH:uS [] ρ L=L ρ:=rfl
def PJ:uS (s::own) ρ L=uS own (aD::ρ) L:=rfl
def PL:uT [] ρ L=L ρ:=rfl
def PM:uT (od::ρ) O L=uT ρ O λr=>L (od::r):=rfl
def TW:fT (n+1) [] A=A:=rfl
def TY:fT (n+1) (a::es) A=fT n es A:=rfl
def TZ:wNm 0 d (od::ρ) L=L (aw d::ρ):=rfl
def T0:wNm (n+1) d (od::ρ) L=wNm n d ρ λr=>L (od::r):=rfl
def T1:wBs [] [] ρ L=L ρ:=rfl
def T2:wBs (.n m::ts) (d::ds) ρ L=wNm m d ρ λr=>wBs ts ds r L:=rfl
def T3:wBd (.n m) d ρ L=wNm m d ρ L:=rfl
def T4:wBd (.tup ts) d ρ L=wTp ts d ρ L:=rfl
def T5:wTp ts (.tup ds) ρ L=wBs ts ds ρ L:=rfl
def Ix:wII .add i j S Q=Q (.int (i+j)) S:=rfl
def Iy:wII .sub i j S Q=Q (.int (i - j)) S:=rfl
def Iz:wII .mul i j S Q=(jw i j=aN/\Q (.int (i * j)) S):=rfl
def IA:wII .mod i j S Q=(0 < j/\Q (.int (i % j)) S):=rfl
def Ee:wII .fdiv i j S Q=((0 < j/\j < 1298074214633706907132624082305024)/\Q (.int (i / j)) S):=rfl
def IB:wII .pow i j S Q=((0<=j/\j<=1000000/\i.natAbs < 2 ^ 64)/\Q (.int (i ^ j.toNat)) S):=rfl
def IC:wTT .add xs Y S Q=(xs.length+Y.length<=1000/\Q (.tup (xs++Y)) S):=rfl
def IE:DY o i (.int j) S Q=wII o i j S Q:=rfl
def IG:yW o xs (.tup Y) S Q=wTT o xs Y S Q:=rfl
def IH:yW o xs (.int j) S Q=Ok (bX o (.tup xs) (.int j) S) Q:=rfl
def PN:uQ o (.int i) y S Q=DY o i y S Q:=rfl
def PP:uQ o (.tup xs) y S Q=yW o xs y S Q:=rfl
def PQ:uQ o (.ref n) y S Q=Ok (bX o (.ref n) y S) Q:=rfl
def PR:uQ o (.str s) y S Q=Ok (bX o (.str s) y S) Q:=rfl
def PU:wCI .eq i j S Q=Q (.bl (decide (i=j))) S:=rfl
def PV:wCm .eq x y S Q=wCx .eq x y S Q:=rfl
def PX:wCI .ne i j S Q=Q (.bl (!decide (i=j))) S:=rfl
def PY:wCm .ne x y S Q=wCx .ne x y S Q:=rfl
def PZ:wCI .lt i j S Q=Q (.bl (decide (i < j))) S:=rfl
def P0:wCm .lt x y S Q=wCx .lt x y S Q:=rfl
def P1:wCI .le i j S Q=Q (.bl (decide (i<=j))) S:=rfl
def P2:wCm .le x y S Q=wCx .le x y S Q:=rfl
def P3:wCI .gt i j S Q=Q (.bl (decide (j < i))) S:=rfl
def P4:wCm .gt x y S Q=wCx .gt x y S Q:=rfl
def P5:wCI .ge i j S Q=Q (.bl (decide (j<=i))) S:=rfl
def P6:wCm .ge x y S Q=wCx .ge x y S Q:=rfl
def P7:wCm .is x y S Q=Ok (ao .is x y S) Q:=rfl
def AO:wCm .t x y S Q=Ok (ao .t x y S) Q:=rfl
def Ef:wCm .s x y S Q=Ok (ao .s x y S) Q:=rfl
def AQ:wCm .o x y S Q=Ok (ao .o x y S) Q:=rfl
def T6:wCx c (.int i) y S Q=Oh c i y S Q:=rfl
def T7:wCx c (.tup xs) y S Q=AN c xs y S Q:=rfl
def T8:wCx c .non y S Q=Ok (ao c .non y S) Q:=rfl
def T9:wCx c (.bl t) y S Q=Ok (ao c (.bl t) y S) Q:=rfl
def Ua:wCx c (.str s) y S Q=Ok (ao c (.str s) y S) Q:=rfl
def Ub:wCx c (.ref n) y S Q=Ok (ao c (.ref n) y S) Q:=rfl
def P8:Oh c i (.int j) S Q=wCI c i j S Q:=rfl
def P9:AN .eq xs (.tup []) S Q=Q (.bl xs.isEmpty) S:=rfl
def Qa:AN .ne xs (.tup []) S Q=Q (.bl (!xs.isEmpty)) S:=rfl
def II:AN .eq xs (.tup (y::Y)) S Q=Ok (ao .eq (.tup xs) (.tup (y::Y)) S) Q:=rfl
def IJ:AN .ne xs (.tup (y::Y)) S Q=Ok (ao .ne (.tup xs) (.tup (y::Y)) S) Q:=rfl
def Qc:xy l h (.tup ds) S Q=Q (.tup (jr ds l h)) S:=rfl
def Qe:xy l h (.ref n) S Q=Ok (slS l h (.ref n) S) Q:=rfl
def Qg:uU (.tup ds) S G=G (nxL ds) S:=rfl
def Qh:uU (.ref n) S G=((aR S n).isSome=aN/\G (nxS n) S):=rfl
def Qj:HU (.tup ds) S G=G (GC ds) S:=rfl
def IK:cX (.bl t) S M=M t S:=rfl
def IL:cX (.tup ds) S M=M (!ds.isEmpty) S:=rfl
def IM:cX (.int i) S M=M (i != 0) S:=rfl
def IP:cX (.ref n) S M=Ok (nj (.ref n) S) M:=rfl
def Vc:w2 g [x,y] S Q=g x y S Q:=rfl
def Qk:D2 (.int i) (.int j) S Q=Q (.int (if j > i then j else i)) S:=rfl
def Qm:D3 (.int i) (.int j) S Q=Q (.int (if j < i then j else i)) S:=rfl
def IQ:aQ (ai (.lst es)) wl wv ρ S E Q=wl ρ S E:=rfl
def AR:aQ (ai (.l a)) wl wv ρ S E Q=wl ρ S E:=rfl
def IR:aQ (ai (.srt a)) wl wv ρ S E Q=wl ρ S E:=rfl
def Eg:aQ (ai (.o own a Z)) wl wv ρ S E Q=wl ρ S E:=rfl
def IS:aQ (ai (.non)) wl wv ρ S E Q=wv ρ S Q:=rfl
def Qo:aQ (ai (.bl t)) wl wv ρ S E Q=wv ρ S Q:=rfl
def IT:aQ (ai (.int i)) wl wv ρ S E Q=wv ρ S Q:=rfl
def IU:aQ (ai (.str s)) wl wv ρ S E Q=wv ρ S Q:=rfl
def IV:aQ (ai (.v m)) wl wv ρ S E Q=wv ρ S Q:=rfl
def IW:aQ (ai (.con m i)) wl wv ρ S E Q=wv ρ S Q:=rfl
def IX:aQ (ai (.tup es)) wl wv ρ S E Q=wv ρ S Q:=rfl
def Eh:aQ (ai (.dic0)) wl wv ρ S E Q=wv ρ S Q:=rfl
def IY:aQ (ai (.b o a b)) wl wv ρ S E Q=wv ρ S Q:=rfl
def IZ:aQ (ai (.neg a)) wl wv ρ S E Q=wv ρ S Q:=rfl
def I0:aQ (ai (.m c a b)) wl wv ρ S E Q=wv ρ S Q:=rfl
def I8:aQ (ai (.h c p a b e)) wl wv ρ S E Q=wv ρ S Q:=rfl
def Ja:aQ (ai (.d a b)) wl wv ρ S E Q=wv ρ S Q:=rfl
def Qp:aQ (ai (.or a b)) wl wv ρ S E Q=wv ρ S Q:=rfl
def Jb:aQ (ai (.n a)) wl wv ρ S E Q=wv ρ S Q:=rfl
def Jc:aQ (ai (.ite e a b)) wl wv ρ S E Q=wv ρ S Q:=rfl
def Qq:aQ (ai (.x a b)) wl wv ρ S E Q=wv ρ S Q:=rfl
def Qu:aQ (ai (.sl a U ob)) wl wv ρ S E Q=wv ρ S Q:=rfl
def Ei:aQ (ai (.c f es)) wl wv ρ S E Q=wv ρ S Q:=rfl
def Ej:aQ (ai (.s ty a)) wl wv ρ S E Q=wv ρ S Q:=rfl
def Jd:aQ (ai (.e a)) wl wv ρ S E Q=wv ρ S Q:=rfl
def Je:aQ (ai (.all a)) wl wv ρ S E Q=wv ρ S Q:=rfl
def Jf:aQ (ai (.any a)) wl wv ρ S E Q=wv ρ S Q:=rfl
def AS:aQ (ai (.t a)) wl wv ρ S E Q=wv ρ S Q:=rfl
def Jg:aQ (ai (.w a)) wl wv ρ S E Q=wv ρ S Q:=rfl
def Jh:aQ (ai (.y a i)) wl wv ρ S E Q=wv ρ S Q:=rfl
def Qv:aQ (ai (.sm a)) wl wv ρ S E Q=wv ρ S Q:=rfl
def Ji:aQ (ai (.rev a)) wl wv ρ S E Q=wv ρ S Q:=rfl
def Jj:aQ (ai (.z a)) wl wv ρ S E Q=wv ρ S Q:=rfl
def Qw:aQ (ai (.mx a b)) wl wv ρ S E Q=wv ρ S Q:=rfl
def Qx:aQ (ai (.mn a b)) wl wv ρ S E Q=wv ρ S Q:=rfl
def Jk:aQ (ai (.rep a)) wl wv ρ S E Q=wv ρ S Q:=rfl
def Jl:aQ (ai (.app a b)) wl wv ρ S E Q=wv ρ S Q:=rfl
def Jm:aQ (ai (.pop a)) wl wv ρ S E Q=wv ρ S Q:=rfl
def AU:aQ (ai (.q a b)) wl wv ρ S E Q=wv ρ S Q:=rfl
def Jn:aQ (ai (.ins a b e)) wl wv ρ S E Q=wv ρ S Q:=rfl
def Jo:aQ (ai (.idx a b)) wl wv ρ S E Q=wv ρ S Q:=rfl
def Ek:aQ (ai (.u a)) wl wv ρ S E Q=wv ρ S Q:=rfl
def Jp:aQ (ai (.k a)) wl wv ρ S E Q=wv ρ S Q:=rfl
def Qy{n:Nat}{P:Nat->Prop}:Oq (.ref n) P=P n:=rfl
def Jq:aQ (ai (.cnt a b)) wl wv ρ S E Q=wv ρ S Q:=rfl
def aa{k:Type}{z:Option (k×Sto)}{r:k}{S2:Sto}{K:k->Sto->Prop}(e:z=aw (r,S2))(q:K r S2):Ok z K:=⟨r,S2,e,q⟩
def dB(q:t=aN->A)(k:t=aS->B):wIf t A B:=by
 cases t with
 |true=>exact q rfl
 |false=>exact k rfl
end
end Ev
local macro_rules|`(tactic|k_go)=>do
 let f s:Lean.MacroM (Lean.TSyntax ``Lean.Parser.Tactic.simpLemma):=`(Lean.Parser.Tactic.simpLemma|↓$(Lean.mkIdent (`Ev++s.toName)):ident)
 let a ← ("OC Tk OD OE OG OH OI OJ Ia OK OL OM OO OP Tl OQ OT Tn Ib Ic Ie Ig Ih Ii OU OV OW D9 OX OY To Ea OZ O0 O1 Tp Tq O2 Ij O3 O4 Eb O5 O8 O6 Ik O7 U6 U7 O9 Ec Pa Il Pb Tr Ts Tv Tu Tt Qy Pc Pd Pe Tw Pf Tx Pg Im Io Ph Pj Pk Tz Pl Pn U8 U9 Va Vb Po Ip TB Pp Pq Pr Ed Ps TC TH TJ TK Pt Pu Pv Iq Ir Iu Iv Iw TL TM Pw Px TN Py Pz PC TQ TR PD PF TU TV PH PJ PL PM TW TY TZ T0 T1 T2 T3 T4 T5 Ix Iy Iz IA Ee IB IC IE IG IH PN PP PQ PR PU PV PX PY PZ P0 P1 P2 P3 P4 P5 P6 P7 AO Ef AQ T6 T7 T8 T9 Ua Ub P8 P9 Qa II IJ Qc Qe Qg Qh Qj IK IL IM IP Vc Qk Qm IQ AR IR Eg IS Qo IT IU IV IW IX Eh IY IZ I0 I8 Ja Qp Jb Jc Qq Qu Ei Ej Jd Je Jf AS Jg Jh Qv Ji Jj Qw Qx Jk Jl Jm AU Jn Jq Jo Ek Jp NN NP".splitOn).toArray.mapM f
 `(tactic|dsimp only[$a,*])
local macro_rules |`(tactic|k_is)=>`(tactic|((with_reducible first |refine Ev.OA ?_ |refine Ev.Oy ?_ |refine Ev.wcl_ok ?_ |skip);(try dsimp only[List.set_cons_zero,List.set_cons_succ]);(try k_go);(repeat ((with_reducible first |refine Ev.D8 ?_ |refine Ev.H8 ?_);(try k_go)))))
namespace Lw
open PySem Ev
variable {p:Nat} {S:Sto} {k:Nat} {Q:D->Sto->Prop}
def El(h:TD p S t d)(q:Q (.bl (Dw.isW t)) S):Ok (evC ab (k+1) 0 [d] S) Q:=by
 calc av (d:=iU) (ρ:=[aw d]) rfl rfl ?_;dsimp![iU,oq];k_is;calc aa (sG h) ?_;k_is;cases t <;> first |exact q |(k_is;rw[sG h,aK];exact q)
def qR{a b:Int}(h:TD p S t d)(q:Q (.bl (Dw.iM t a b)) S):Ok (evC ab (k+2) 1 [d,.int a,.int b] S) Q:=by
 calc av (d:=gD) (ρ:=[aw d,aw (.int a),aw (.int b)]) rfl rfl ?_;dsimp![gD,k8];k_is;calc{rfl,El h ?_};k_is;cases t with
 |int i=>
  obtain rfl:=h.int;dsimp![Dw.isW];k_is;dsimp![Dw.iM]at q;cases c:decide (a<=i) with
  |true=>rw[c]at q;exact q
  |false=>rw[c]at q;exact q
 |_=>exact q
def AV(h:TD p S t d)(q:Q (.bl (Dw.iM t 0 9999)) S):Ok (evC ab (k+3) 2 [d] S) Q:=by
 calc av (d:=gF) (ρ:=[aw d]) rfl rfl ?_;dsimp![gF,k9];k_is;exact{rfl,qR h q}
def Em{a b:Int}(h:TD p S t d)(q:Q (.bl (Dw.isT t a b)) S):Ok (evC ab (k+1) 3 [d,.int a,.int b] S) Q:=by
 calc av (d:=iV) (ρ:=[aw d,aw (.int a),aw (.int b)]) rfl rfl ?_;dsimp![iV,ou];k_is;calc aa (sG h) ?_;k_is;cases t with
 |tup T=>
  let{f,rfl,hs}:=h.tup;rw[show gr Ty.tuple (tyT (Dw.D.tup T))=aN from rfl];k_is;calc aa (N0 hs) ?_;k_is;dsimp![Dw.isT]at q;cases c:decide (a<=(T.length:Int)) with
  |true=>rw[c]at q;exact q
  |false=>rw[c]at q;exact q
 |_=>exact q
def aI{f:Int}(h:Pot p S)(b:0 < f)(j:f < 1298074214633706907132624082305024)(q:∀ (r:Int) c,0<=r->r < f->Dr p S c->Q (.int r) c):Ok (evC ab (k+1) 47 [.ref p,.int f] S) Q:=by
 let{n,e}:=h;let lt:p < S.length:=(Zb.mp e).1;calc av (d:=iZ) (ρ:=[aw (.ref p),aw (.int f),aD]) rfl rfl ?_;dsimp![iZ,oE];k_is;let ix:ixS (.ref p) (.int 0) S=aw (.int n,S):=by simp![ixS,ay,aR,e];rfl
 calc aa ix ?_;k_is;calc{b,?_};k_is;calc aa ix ?_;k_is;calc{⟨b,j⟩,?_};k_is;calc{S.set p (.lst [.int (n / f)]),by simp![kj,e];rfl,?_};exact q _ _ (WJ _ (by omega)) (Wm _ b) {N8,_,eZ lt}
def Jr{c:Nat}{ns:List Int}(h:S[0]?=aw (.frz (ns.map D.int)))(q:∀i:Int,Q (.int i) S):Ok (evC ab (k+1) 45 [.ref 0,.int c] S) Q:=by
 calc av (d:=eW) (ρ:=[aw (.ref 0),aw (.int c)]) rfl rfl ?_;dsimp![eW,iC];k_is;let ln:ak dh (.ref 0) S=aw (.int ns.length,S):=by simp![ak,ay,aR,h,ZL,dh,Za]
 calc aa ln ?_;k_is;refine dB (λf=>?_) λf=>?_
 .k_is;let j:=of_decide_eq_true f;let{d,l,E}:=Oa (ds:=ns.map D.int) (i:=c) (by omega) (by rw[Za];omega);let ix:ixS (.ref 0) (.int c) S=aw (d,S):=by simp![ixS,ay,aR,h,ZL,l]
  calc aa ix ?_;rw[Zq]at E;cases b:ns[(c:Int).toNat]? with
  |none=>rw[b]at E;cases E
  |some i=>rw[b]at E;cases E;exact q i
 .k_is;exact q 0
def Qz{c:Int}(q:∀n:Int,Q (.ref S.length) (S++[.lst [.int n]])):Ok (evC ab (k+1) 46 [.int c] S) Q:=by
 calc av (d:=kH) (ρ:=[aw (.int c),aD,aD,aD]) rfl rfl ?_;dsimp![kH,qN];k_is;calc{{by decide,by decide,by decide},?_};k_is;refine dB (λ_=>?_) λ_=>?_
 .k_is;calc{{by decide,by decide,by decide},?_};k_is;exact q _
 .k_is;calc{by decide,?_};refine jK (by decide) (λi f b=>b=S/\∃n:Int,∃u v,f=[aw (.int c),aw (.int n),u,v]) (λi f b hi ⟨h,n,u,v,E⟩=>?_) (λf b ⟨h,n,u,v,E⟩=>?_) ⟨rfl,0,aD,aD,rfl⟩
  .subst h E;calc{_,rfl,?_};k_is;calc{by decide,?_};k_is;calc{sH (by decide) (by decide),?_};k_is;calc{yU (by decide) (by decide),by decide,?_};k_is;let j:=WJ ((c % 2147483629+7919 * (0+(i:Int))+1) * 48271) (show(2147483647:Int)≠0 by decide);let l:=Wm ((c % 2147483629+7919 * (0+(i:Int))+1) * 48271) (show(0:Int) < 2147483647 by decide);calc{sH (by omega) (by omega),?_};k_is;calc{sH (by decide) (by decide),?_};k_is;calc{by decide,?_};k_is;calc{yU (by decide) (by decide),?_};k_is;exact⟨rfl,_,_,_,rfl⟩
  .subst h E;k_is;exact q n
end Lw
namespace Sn
open Ev
structure Sky where
 r:Int
 s:Int
 M:List (List Int)
 H:List (Int×Int)
 ah:Option (Int×Int)
 G:List (List Int)
 F:List Int
abbrev gi(G:List (List Int))(i:Int)(k:Nat):Int:=((G[i.toNat]?).getD []).getD k 0
abbrev fns:List (Int×Int)->Int->Int
 |[],m=>m
 |p::l,m=>if p.1<=m/\m < p.2 then p.2 else fns l m
abbrev opm:List (Int×Int)->Int->Int
 |[],m=>m
 |p::l,m=>opm l (if p.1<=m/\m < p.2 then p.2 else m)
abbrev Ris:Int->List (Int×Int)->Prop
 |_,[]=>True
 |lo,p::l=>lo < p.1/\p.1 < p.2/\Ris p.2 l
def jN:∀ {l:List (Int×Int)} {lo m:Int},Ris lo l->m<=lo->opm l m=m
 |[],_,_,_,_=>rfl
 |p::l,lo,m,h,hm=>by
  rw[Ris]at h;rw[opm,if_neg (by lia)];exact jN h.2.2 (by lia)
def yZ:∀ {l:List (Int×Int)} {lo m:Int},Ris lo l->opm l m=fns l m
 |[],_,_,_=>rfl
 |p::l,lo,m,h=>by
  rw[Ris]at h;rw[opm,fns];split
  .exact jN h.2.2 (ZU _)
  .exact yZ h.2.2
section
variable (K:Sky)
abbrev jn(g:Int):Int:=gi K.G g 1
abbrev gp(a b:Int):Int:=Dw.mg2 K.M a.toNat b.toNat
abbrev AW(ah:Option (Int×Int))(k:Int):Int:=match ah with
 |none=>0
 |some p=>p.2+gp K p.1 k
abbrev be(ah:Option (Int×Int))(g:Int):Int:=match ah with
 |none=>gi K.G g 2
 |some p=>if p.2+gp K p.1 (gi K.G g 0) > gi K.G g 2 then p.2+gp K p.1 (gi K.G g 0) else gi K.G g 2
abbrev js:List Int:=gw (K.G.map λg=>g.getD 1 0)
abbrev lZ(p:Nat)(m:Int):Bool:=match (js K)[(K.r+p).toNat]? with
 |some j=>decide (j < m - K.s)
 |none=>aS
abbrev step(ah:Option (Int×Int))(g:Int)(p:Nat):Option Int:=if (decide (gi K.G g 3 < opm K.H (be K ah g)) || lZ K p (opm K.H (be K ah g)))=aN then aD else aw (opm K.H (be K ah g))
abbrev aC(t:Int)(p:Int×Int):Bool:=decide (jn K p.1<=t) && decide (t < p.2 - K.s)
abbrev wts(L:List (Int×Int))(t:Int):Nat:=(L.filter (aC K t)).length
abbrev dg(L:List (Int×Int))(g m:Int):List Int:=((jn K g::L.map λp=>jn K p.1).filter λt=>decide (jn K g<=t) && decide (t < m - K.s))
abbrev gU(L:List (Int×Int))(g m:Int):Int:=pK 0 ((dg K L g m).map λt=>1+(wts K L t:Int))
abbrev jd(L:List (Int×Int))(g m:Int):List Int:=jn K g::(js K).filter λt=>decide (jn K g < t) && aC K t (g,m)
abbrev uV(L:List (Int×Int))(g m:Int):Int:=iQ ((jd K L g m).map λt=>1+(wts K L t:Int))
abbrev uW(L:List (Int×Int))(g m:Int):Bool:=decide (0 < gi K.G g 6) && (aC K (jn K g) (g,m) && decide (gi K.G g 6 < uV K L g m))
abbrev cz(L:List (Int×Int))(g m:Int):Bool:=decide (0 < gi K.G g 6) && decide (gi K.G g 6 < gU K L g m)
abbrev rn:List Int->Option (Int×Int)->List (Int×Int)->Nat ⊕ List (Int×Int)
 |[],_,L=>.inr L
 |g::os,ah,L=>match step K ah g L.length with
  |none=>.inl L.length
  |some m=>if cz K L g m=aN then .inl L.length else rn os (aw (gi K.G g 0,m)) (L++[(g,m)])
end
variable {K:Sky}
def y3(h:ns≠[]):iQ ns∈ns:=by
 cases ns with
 |nil=>exact absurd rfl h
 |cons n ns=>exact(jA ns n).1
def QA{x:Int}(h:x∈ns):x<=iQ ns:=by
 cases ns with
 |nil=>simp at h
 |cons n ns=>exact(jA ns n).2 x h
def xF(d:A≠[])(h:∀x∈A,∃y∈B,x<=y):iQ A<=iQ B:=by
 let{y,c,b}:=h _ (y3 d);exact Wu b (QA c)
def jO{c:Int}(h:ns≠[]):pK c ns=iQ ns:=by
 cases ns with
 |nil=>exact absurd rfl h
 |cons n ns=>rfl
def mv{b:Type}{p q:b->Bool}:∀ {l:List b},(∀x∈l,p x=aN->q x=aN)->(l.filter p).length<=(l.filter q).length
 |[],_=>Zf _
 |a::l,h=>by
  let I:=mv (l:=l) λx d=>h x (Zg _ d);let f:=h a Zj;rw[ZZ,ZZ];split
  .rename_i c;rw[if_pos (f c),Zo,Zo]
   lia
  .split
   .rw[Zo];lia
   .exact I
def En{j t:Int}(f:j<=t):∀ (L:List (Int×Int)),∃u,(u=j\/∃p∈L,u=jn K p.1)/\j<=u/\u<=t/\∀p∈L,aC K t p=aN->jn K p.1<=u
 |[]=>{j,.inl rfl,ZU _,f,λp k=>by simp at k}
 |p::L=>by
  let{u,b,n,l,h4}:=En f L;by_cases d:aC K t p=aN/\u < jn K p.1
  .refine{jn K p.1,.inr ⟨p,Zj,rfl⟩,by lia,?_,λq hq h=>?_}
   .let:=d.1;simp![aC,bAE,decide_eq_true_eq]at this;exact this.1
   .rcases Zn.mp hq with rfl |hq
    .exact ZU _
    .let:=h4 q hq h;lia
  .refine{u,?_,n,l,λq hq h=>?_}
   .rcases b with b |⟨q,hq,b⟩
    .exact .inl b
    .exact .inr {q,Zg _ hq,b}
   .rcases Zn.mp hq with rfl |hq
    .by_cases c:u < jn K q.1
     .exact absurd ⟨h,c⟩ d
     .lia
    .exact h4 q hq h
def Js{L:List (Int×Int)}{g m:Int}(h:jn K g < m - K.s)(n:∀p∈L,jn K p.1∈js K):uV K L g m=gU K L g m:=by
 let k:jn K g∈dg K L g m:=by
  delta dg;rw[ZM];exact{Zj,by simp[h]}
 let l:(dg K L g m).map (λt=>1+(wts K L t:Int))≠[]:=λz=>by
  rw[List.map_eq_nil_iff]at z;rw[z]at k;simp at k
 delta gU uV;rw[jO l];refine Int.le_antisymm (xF (by simp[jd]) λx c=>?_) (xF l λx c=>?_)
 .let{t,ht,rfl}:=Zz.mp c
  let d:jn K g<=t/\t < m - K.s:=by
   rcases Zn.mp ht with rfl |ht
   .exact{ZU _,h}
   .let:=(ZM.mp ht).2;simp![aC,bAE,decide_eq_true_eq]at this;exact⟨this.2.1,this.2.2⟩
  let{u,h1,j,q,h4}:=En (K:=K) d.1 L;refine{1+(wts K L u:Int),Zz.mpr {u,?_,rfl},?_}
  .delta dg;calc ZM.mpr {?_,by simp![bAE,decide_eq_true_eq];lia};rcases h1 with rfl |⟨p,b,rfl⟩
   .exact Zj
   .exact Zg _ (Zz.mpr ⟨p,b,rfl⟩)
  .let:wts K L t<=wts K L u:=mv λp b f=>by
    let a:=h4 p b f;simp![aC,bAE,decide_eq_true_eq]at f ⊢
    lia
   lia
 .let{t,ht,rfl}:=Zz.mp c;calc{1+(wts K L t:Int),Zz.mpr {t,?_,rfl},ZU _};delta dg at ht;let{h1,j}:=ZM.mp ht;simp![bAE,decide_eq_true_eq]at j;delta jd;by_cases e:t=jn K g
  .rw[e];exact Zj
  .calc Zg _ (ZM.mpr {?_,by simp![aC,bAE,decide_eq_true_eq];lia});rcases Zn.mp h1 with rfl |h1
   .exact absurd rfl e
   .let{p,b,rfl}:=Zz.mp h1;exact n p b
def AX{g m:Int}(h:¬ jn K g < m - K.s):gU K L g m=0:=by
 let:dg K L g m=[]:=by
  delta dg;rw[Xj];intro t _;simp![bAE,decide_eq_true_eq]
  lia
 delta gU;rw[this];rfl
def Jt{g m:Int}(b:∀p∈L,jn K p.1∈js K):uW K L g m=cz K L g m:=by
 delta uW cz;by_cases h:jn K g < m - K.s
 .rw[Js h b];let:aC K (jn K g) (g,m)=aN:=by simp![aC,bAE,decide_eq_true_eq];exact{ZU _,h}
  rw[this,YR]
 .rw[AX h];let:aC K (jn K g) (g,m)=aS:=by simp[aC,h]
  rw[this,XD];by_cases c:0 < gi K.G g 6
  .let e:decide (gi K.G g 6 < 0)=aS:=by simp;lia
   rw[e]
  .rw[decide_eq_false c];rfl
def Eo{g:Int}(h:0<=gi K.G g 2):(if AW K ah (gi K.G g 0) > gi K.G g 2 then AW K ah (gi K.G g 0) else gi K.G g 2)=be K ah g:=by
 cases ah with
 |none=>delta AW be;dsimp!;rw[if_neg (by lia)]
 |some p=>rfl
end Sn
namespace Lw
open PySem Ev Sn
variable {p:Nat} {S:Sto} {k:Nat} {Q:D->Sto->Prop}
def Ll{f:List D}{T:Tg}{b:XS}{c:Rho}{Q:Fl->Rho->Sto->Prop}(hl:f.length<=100000)(I:Nat->Rho->Sto->Prop)
  (step:∀ (i:Nat) d c j,f[i]?=aw d->I i c j->∃l,aA T d c=aw l/\OkS (b l j) λy h n=>match y with |.nx=>I (i+1) h n |.ct=>I (i+1) h n |.bk=>Q .nx h n |.rt d=>Q (.rt d) h n)
  (q:∀c j,I f.length c j->Q .nx c j) (v:I 0 c S):OkS (eJ (nxL f) T b LF 0 c S) Q:=by
 refine ie f.length I (by delta LF;lia) (λi c j hi u=>?_) (λc j u=>{?_,q c j u}) v
 .let{l,E,z}:=step i f[i] c j (gEG hi) u;exact{f[i],l,by show aw f[i]?=_;rw[gEG hi],E,z}
 .show aw f[f.length]?=_;rw[Zw (Zf _)]
def Ep{f:List D}{T:Tg}{b:XS}{c:Rho}{Q:Fl->Rho->Sto->Prop}(hl:f.length<=100000)(I:Nat->Rho->Sto->Prop)
  (step:∀ (i:Nat) d c j,f[i]?=aw d->I i c j->∃l,aA T (.tup [.int i,d]) c=aw l/\OkS (b l j) λy h n=>match y with |.nx=>I (i+1) h n |.ct=>I (i+1) h n |.bk=>Q .nx h n |.rt d=>Q (.rt d) h n)
  (q:∀c j,I f.length c j->Q .nx c j) (v:I 0 c S):OkS (eJ (GC f) T b LF 0 c S) Q:=by
 refine ie f.length I (by delta LF;lia) (λi c j hi u=>?_) (λc j u=>{?_,q c j u}) v
 .let{l,E,z}:=step i f[i] c j (gEG hi) u;calc{.tup [.int i,f[i]],l,?_,E,z};show enm f i=_;delta enm;rw[if_pos (by lia),gEG hi];rfl
 .show enm f f.length=_;delta enm;rw[if_pos (Zf _),Zw (Zf _)];rfl
def a9{z:Type}{nx:Nxt}{T:Tg}{c:XA}{I:Rho}{Q:List D->Sto->Prop}(l:List z)(E:z->D)(f:z->List D)(hl:l.length<=1000)(J:∀a∈l,(f a).length<=1)
  (v:∀i d,Sm S d->nx i d=aw ((l[i]?).map E))
  (step:∀ (i:Nat) a d,l[i]?=aw a->Sm S d->∃j,aA T (E a) I=aw j/\Ok (c j d) λu C=>u=f a/\Sm d C) (q:∀d,Sm S d->Q (l.flatMap f) d) :
  Ok (bC nx T c I LF 0 S) λu S2=>u.length<=100000/\Q u S2:=by
 refine(gQ l.length (λi n d=>Sm S d/\n=(l.take i).flatMap f) (by delta LF;lia) (λi n d hi ⟨sm,y⟩=>?_) (λn d ⟨sm,y⟩=>?_) {Sm.refl S,by simp}).mono λu d ⟨sm,y⟩=>?_
 .let{j,X,u,C,U,L,B}:=step i l[i] d (gEG hi) sm;calc{E l[i],j,by rw[v i d sm,gEG hi];rfl,X,u,C,U,sm.trans B,?_};rw[y,L,Z6 hi,We];simp
 .rw[v _ d sm,Zw (Zf _)];rfl
 .rw[Yx]at y;subst y;refine{?_,q d sm}
  let:∀m:List z,(∀a∈m,(f a).length<=1)->(m.flatMap f).length<=m.length:=λm=>by
   induction m with
   |nil=>intro _;simp
   |cons a m O=>
    intro h;rw[Xk,Ze,Zo];let:=h a Zj;let:=O λb hb=>h b (Zg _ hb)
    lia
  let:=this l J
  lia
def bN{c:Type}{l:List c}{E:c->D}:∀i b,Sm S b->nxL (l.map E) i b=aw ((l[i]?).map E):=λi b _=>by
 show aw (l.map E)[i]?=_;rw[Zq]
def c8{c:Type}{n:Nat}{l:List c}{E:c->D}(h:S[n]?=aw (.lst (l.map E))):∀i b,Sm S b->nxS n i b=aw ((l[i]?).map E):=λi b sm=>by
 show(aR b n).map (λd=>d[i]?)=_;rw[aB (sm _ _ h),ZL,Zq]
def bp{b:Type}(l:List b)(f:b->D):(l.flatMap λa=>[f a])=l.map f:=by
 induction l with
 |nil=>rfl
 |cons a l I=>rw[Xk,I];rfl
def bj{b:Type}(l:List b)(c:b->Bool)(f:b->D):(l.flatMap λa=>if c a=aN then [f a] else [])=(l.filter c).map f:=by
 induction l with
 |nil=>rfl
 |cons a l I=>
  rw[Xk,I,ZZ];split <;> rfl
abbrev ag(r:List Int):D:=.tup (r.map D.int)
abbrev ahE:Option (Int×Int)->D
 |none=>.non
 |some q=>.tup [.int q.1,.int q.2]
abbrev meE(K:Sky):D:=.tup [.int K.r,.int K.s,.tup (K.M.map ag),.tup (K.H.map aj)]
abbrev skE(K:Sky):D:=.tup [meE K,ahE K.ah,.tup (K.G.map ag),.tup (K.F.map D.int)]
structure Vd(K:Sky):Prop where
 r0:0<=K.r
 r8:K.r<=8
 s0:0<=K.s
 s60:K.s<=60
 m0:1<=K.M.length
 m4:K.M.length<=4
 row:∀r∈K.M,r.length=K.M.length
 ris:Ris (-1) K.H
 h4:K.H.length<=4
 ah0:∀q,K.ah=aw q->0<=q.1/\q.1 < K.M.length
 g7:K.G.length<=7
 gl:∀g∈K.G,g.length=7/\0<=g.getD 0 0/\g.getD 0 0 < K.M.length/\0<=g.getD 2 0
variable {K:Sky}
def sk0:ixS (skE K) (.int 0) S=aw (meE K,S):=rfl
def sk1:ixS (skE K) (.int 1) S=aw (ahE K.ah,S):=rfl
def sk2:ixS (skE K) (.int 2) S=aw (.tup (K.G.map ag),S):=rfl
def sk3:ixS (skE K) (.int 3) S=aw (.tup (K.F.map D.int),S):=rfl
def me0:ixS (meE K) (.int 0) S=aw (.int K.r,S):=rfl
def me1:ixS (meE K) (.int 1) S=aw (.int K.s,S):=rfl
def me2:ixS (meE K) (.int 2) S=aw (.tup (K.M.map ag),S):=rfl
def me3:ixS (meE K) (.int 3) S=aw (.tup (K.H.map aj),S):=rfl
def gl7(V:Vd K){g:Int}(u:0<=g)(q:g < K.G.length):∃a b c d e f h,K.G[g.toNat]?=aw [a,b,c,d,e,f,h]/\gi K.G g 0=a/\gi K.G g 1=b/\gi K.G g 2=c/\gi K.G g 3=d/\gi K.G g 6=h/\0<=a/\a < K.M.length/\0<=c:=by
 let hi:g.toNat < K.G.length:=by lia
 let{L,n,j,C}:=V.gl K.G[g.toNat] (ZT hi)
 match l:K.G[g.toNat],L with
 |[a,b,c,d,e,f,h],_=>
  let eq:K.G[g.toNat]?=aw [a,b,c,d,e,f,h]:=by rw[gEG hi,l]
  rw[l]at n j C;calc{a,b,c,d,e,f,h,eq,?_,?_,?_,?_,?_,n,j,C} <;> (delta gi;rw[eq];rfl)
def jP{i:Int}(c:0<=i)(h:b[i.toNat]?=aw d):ixS (.tup b) (.int i) S=aw (d,S):=by
 obtain⟨n,rfl⟩:∃n:Nat,i=(n:Int):={i.toNat,by lia};exact BN h
def dP{g:Int}(b:0<=g)(h:K.G[g.toNat]?=aw r):ixS (.tup (K.G.map ag)) (.int g) S=aw (ag r,S):=jP b (by rw[Zq,h];rfl)
def oU(V:Vd K){a b:Int}(c:0<=a)(d:a < K.M.length)(B:0<=b)(f:b < K.M.length):∃r,ixS (.tup (K.M.map ag)) (.int a) S=aw (ag r,S)/\ixS (ag r) (.int b) S=aw (.int (gp K a b),S):=by
 let hi:a.toNat < K.M.length:=by lia
 let j:=V.row K.M[a.toNat] (ZT hi);let h:b.toNat < K.M[a.toNat].length:=by lia
 calc{K.M[a.toNat],jP c (by rw[Zq,gEG hi];rfl),jP B ?_};rw[Zq,gEG h];let:gp K a b=K.M[a.toNat][b.toNat]:=by delta gp Dw.mg2;rw[gEG hi,ZX,gEG h];rfl
 rw[this];rfl
end Lw
namespace Lw
open PySem Ev Sn
variable {p:Nat} {S:Sto} {k:Nat} {Q:D->Sto->Prop} {K:Sky}
def uX{t u:Bool}{A B:Prop}(h:t=aN->u=aN->A)(hb:(t && u)=aS->B):wIf t (wIf u A B) B:=by
 cases t with
 |false=>exact hb rfl
 |true=>cases u with
  |true=>exact h rfl rfl
  |false=>exact hb rfl
def mw{b:Type}{l:List b}{i:Nat}{a:b}(h:l[i]?=aw a):l.drop i=a::l.drop (i+1):=by
 let{hi,e}:=Zb.mp h;rw[Y6 hi,e]
def oV{b:Type}{l:List b}{E:b->D}{i:Nat}{d:D}(h:(l.map E)[i]?=aw d):∃a,l[i]?=aw a/\d=E a:=by
 rw[Zq]at h;cases e:l[i]? with
 |none=>rw[e]at h;cases h
 |some a=>rw[e]at h;cases h;exact⟨a,rfl,rfl⟩
def QB{m:Int}(hl:K.H.length<=4)(q:Q (.int (fns K.H m)) S):Ok (evC ab (k+1) 14 [meE K,.int m] S) Q:=by
 calc av (d:=cG) (ρ:=[aw (meE K),aw (.int m),aD,aD]) rfl rfl ?_;dsimp![cG,fu];k_is;calc aa me3 ?_;k_is;refine Ll (by rw[Za];lia) (λi f c=>c=S/\fns K.H m=fns (K.H.drop i) m/\∃u v,f=[aw (meE K),aw (.int m),u,v]) (λi d f c hd ⟨j,E,u,v,b⟩=>?_) (λf c ⟨j,E,u,v,b⟩=>?_) ⟨rfl,rfl,aD,aD,rfl⟩
 .subst j b;let{pr,l,rfl}:=oV hd;calc{_,show aA (.tup [.n 2,.n 3]) (.tup [.int pr.1,.int pr.2]) _=_ from fS (by simp) (by simp),?_};k_is;rw[mw l,fns]at E;refine uX (λn y=>?_) λh=>?_
  .k_is;rw[if_pos {of_decide_eq_true n,of_decide_eq_true y}]at E;rw[E]at q;exact q
  .k_is;rw[if_neg (λz=>by rw[decide_eq_true z.1,decide_eq_true z.2]at h;cases h)]at E;exact⟨rfl,E,_,_,rfl⟩
 .subst j b;k_is;rw[Za,Y4,fns]at E;rw[E]at q;exact q
abbrev aq(K:Sky)(L:List (Int×Int)):Option (Int×Int):=match L.getLast? with
 |none=>K.ah
 |some p=>aw (gi K.G p.1 0,p.2)
abbrev InG(K:Sky)(L:List (Int×Int)):Prop:=∀p∈L,0<=p.1/\p.1 < K.G.length
def uY(V:Vd K){n:Nat}(j:S[n]?=aw (.lst (L.map aj)))(u:InG K L)(q:Q (ahE (aq K L)) S):Ok (evC ab (k+1) 23 [skE K,.ref n] S) Q:=by
 calc av (d:=c6) (ρ:=[aw (skE K),aw (.ref n),aD,aD]) rfl rfl ?_;dsimp![c6,fZ];k_is;let tr:nj (.ref n) S=aw (!(L.map aj).isEmpty,S):=by simp![nj,aB j]
 calc aa tr ?_;k_is;rcases X4 L with rfl |⟨L',z,rfl⟩
 .k_is;exact aa sk1 q
 .rw[X5]at j u q ⊢;rw[show(!!((L'++[z]).map aj).isEmpty)=aS by simp];k_is;let l:=u z (by simp);calc aa (mq (ds:=L'.map aj) (e:=aj z) (by rw[j,ZF];rfl)) ?_;rw[show aj z = .tup [.int z.1,.int z.2] from rfl];k_is;calc aa sk2 ?_;let{a,b,c,d,e,f,h,v,E,_}:=gl7 V l.1 l.2;calc aa (dP l.1 v) (aa (show ixS (ag [a,b,c,d,e,f,h]) (.int 0) S=aw (.int a,S) from rfl) ?_);k_is
  let:aq K (L'++[z])=aw (a,z.2):=by
   delta aq;rw[YX];simp[E]
  rw[this]at q;exact q
def Ju(V:Vd K){a:Option (Int×Int)}{kd:Int}(h:∀q,a=aw q->0<=q.1/\q.1 < K.M.length)(j:0<=kd)(n:kd < K.M.length)(q:Q (.int (AW K a kd)) S):Ok (evC ab (k+1) 24 [skE K,ahE a,.int kd] S) Q:=by
 calc av (d:=kF) (ρ:=[aw (skE K),aw (ahE a),aw (.int kd)]) rfl rfl ?_;dsimp![kF,qL];k_is;cases a with
 |none=>exact aa (show ao .is (ahE aD) .non S=aw (.bl aN,S) from rfl) (by k_is;exact q)
 |some z=>
  calc aa (show ao .is (ahE (aw z)) .non S=aw (.bl aS,S) from rfl) ?_;k_is;let{l,f}:=h z rfl;calc aa (show ixS (ahE (aw z)) (.int 1) S=aw (.int z.2,S) from rfl) ?_;calc aa sk0 (aa me2 (aa (show ixS (ahE (aw z)) (.int 0) S=aw (.int z.1,S) from rfl) ?_));let{r,c,b}:=oU (S:=S) V l f j n;calc aa c (aa b ?_);k_is;exact q
def oW(V:Vd K){z:Int×Int}{t:Int}(j:0<=z.1)(l:z.1 < K.G.length)(q:Q (.bl (aC K t z)) S):Ok (evC ab (k+1) 25 [skE K,aj z,.int t] S) Q:=by
 calc av (d:=iY) (ρ:=[aw (skE K),aw (aj z),aw (.int t),aD,aD]) rfl rfl ?_;dsimp![iY,oC];rw[show aj z = .tup [.int z.1,.int z.2] from rfl];k_is;calc aa sk2 ?_;let{a,b,c,d,e,f,h,E,_,u,_}:=gl7 V j l;calc aa (dP j E) (aa (show ixS (ag [a,b,c,d,e,f,h]) (.int 1) S=aw (.int b,S) from rfl) ?_);k_is;let n:aC K t z=(decide (b<=t) && decide (t < z.2 - K.s)):=by delta aC jn;rw[u]
 rw[n]at q;cases C:decide (b<=t) with
 |false=>rw[C]at q;k_is;exact q
 |true=>
  rw[C]at q;k_is;calc aa sk0 (aa me1 ?_);k_is;exact q
def QC(V:Vd K){L:List (Int×Int)}{n:Nat}{t:Int}(h:S[n]?=aw (.lst (L.map aj)))(f:InG K L)(hl:L.length<=1000)(q:∀b,Sm S b->Q (.int (wts K L t)) b):Ok (evC ab (k+2) 26 [skE K,.ref n,.int t] S) Q:=by
 calc av (d:=c7) (ρ:=[aw (skE K),aw (.ref n),aw (.int t)]) rfl rfl ?_;dsimp![c7,f7];k_is;calc{by rw[aB h];rfl,?_};refine a9 L aj (λz=>if aC K t z=aN then [aj z] else []) hl (λz _=>by split <;> simp) (c8 h) (λi z b c sm=>{_,rfl,?_}) λb sm=>?_
 .let:=f z (Zd c);k_is;calc{rfl,oW V this.1 this.2 ?_};k_is;cases aC K t z with
  |true=>k_is;exact{rfl,Sm.refl _}
  |false=>k_is;exact{rfl,Sm.refl _}
 .rw[bj];calc aa (show dh aS ((L.filter (aC K t)).map aj) b=aw (.int (wts K L t),b) by delta dh wts;rw[Za]) ?_;k_is;exact q b sm
def dr:∀ (xs:List Int),cP (xs.map D.int)=aw xs
 |[]=>rfl
 |x::xs=>by simp![Zy,cP,dr xs]
def uZ(h:xs.length < 64):cT aS (xs.map D.int)=aw ((gw xs).map D.int):=by
 delta cT C4 uk;rw[if_pos rfl,dr];dsimp!;rw[if_pos h]
def Er:(js K).length=K.G.length:=by delta js;rw[(cE _).length_eq,Za]
def ve(V:Vd K)(q:∀S',Sm S S'->S'[Zl S' - 1]?=aw (.lst ((js K).map D.int))->Zl S<=Zl S' - 1->Q (.ref (Zl S' - 1)) S'):Ok (evC ab (k+1) 27 [skE K] S) Q:=by
 calc av (d:=cw) (ρ:=[aw (skE K)]) rfl rfl ?_;dsimp![cw,dZ];k_is;calc aa sk2 ?_;k_is;refine a9 K.G ag (λg=>[.int (g.getD 1 0)]) (by let:=V.g7;lia) (λ_ _=>Zf _) bN (λi g S' n sm=>{_,rfl,?_}) λS' sm=>?_
 .let{L,_}:=V.gl g (Zd n)
  match g,L with
  |[a,b,c,d,e,f,h],_=>
   k_is;exact aa (show ixS (ag [a,b,c,d,e,f,h]) (.int 1) S'=aw (.int b,S') from rfl) {rfl,Sm.refl _}
 .rw[bp];refine{_,show cT aS (K.G.map λg=>D.int (g.getD 1 0))=aw ((js K).map D.int) from ?_,?_}
  .let:=uZ (xs:=K.G.map λg=>g.getD 1 0) (by rw[Za];let:=V.g7;lia);rw[ZS]at this;exact this
  .let e:Zl (S'++[Ob.lst ((js K).map D.int)]) - 1=Zl S':=by simp
   let sl:Zl S<=Zl S':=by
    cases l:decide (Zl S<=Zl S') with
    |true=>exact of_decide_eq_true l
    |false=>
     exfalso;let j:Zl S' < Zl S:=by let:=of_decide_eq_false l;lia
     let:=sm (Zl S') S[Zl S'] (gEG j);rw[Zw (Zf _)]at this;cases this
   let:=q (S'++[Ob.lst ((js K).map D.int)]) (sm.trans (Sm.app _ _)) (by rw[e];exact aM) (by rw[e];exact sl);rw[e]at this;exact this
def je{n:Nat}{i:Int}(b:S[n]?=aw (.lst c))(f:0<=i)(h:c[i.toNat]?=aw d):ixS (.ref n) (.int i) S=aw (d,S):=by
 obtain⟨j,rfl⟩:∃j:Nat,i=(j:Int):={i.toNat,by lia};rw[ZK]at h;simp![ixS,ay,aB b,ZL,Ev.yb h]
def y4{n:Nat}{j:Nat}(b:S[n]?=aw (.lst d)):slS aD (aw (j:Int)) (.ref n) S=aw (.ref (Zl S),S++[.lst (d.take j)]):=by
 let:jr d aD (aw (j:Int))=d.take j:=by
  by_cases h:j<=d.length
  .exact DV d j h
  .delta jr;rw[Dw.B6 _ _ (by lia),ZK,WC (by lia)];show(d.drop 0).take (d.length - 0)=d.take j;rw[List.drop_zero,Yd (by lia),Yd (by lia)]
 simp![slS,aB b,this]
def my{a b:Nat}(h:S[a]?=aw (.lst xs))(hb:S[b]?=aw (.lst y))(hl:xs.length+y.length<=100000):bX .add (.ref a) (.ref b) S=aw (.ref (Zl S),S++[.lst (xs++y)]):=by
 simp![bX,lX,Ms,h,hb];rw[if_pos hl]
def ig{n:Nat}(h:S[n]?=aw (.lst d)):ak dh (.ref n) S=aw (.int d.length,S):=by simp![ak,ay,aB h,ZL,dh]
def Es(h:xs≠[]):pJ aS (xs.map D.int) S=aw (.int (iQ xs),S):=by
 cases xs with
 |nil=>exact absurd rfl h
 |cons x xs=>delta pJ;rw[dr]
def Jv(V:Vd K){n j:Nat}(U:S[n]?=aw (.lst (L.map aj)))(C:L[j]?=aw z)(O:InG K L)(hl:L.length<=100)(q:∀f,Sm S f->Q (.int (uV K (L.take j) z.1 z.2)) f):Ok (evC ab (k+3) 29 [skE K,.ref n,.int j,.int (jn K z.1)] S) Q:=by
 calc av (d:=eS) (ρ:=[aw (skE K),aw (.ref n),aw (.int j),aw (.int (jn K z.1)),aD,aD]) rfl rfl ?_;dsimp![eS,iz];let h:=O z (Zd C);k_is;calc aa (y4 U) ?_;k_is;let T:Sm S (S++[Ob.lst ((L.map aj).take j)]):=Sm.app _ _;let a1:(S++[Ob.lst ((L.map aj).take j)])[Zl S]?=aw (Ob.lst ((L.take j).map aj)):=by rw[aM,XM]
 generalize Zl S=N1 at *;generalize S++[Ob.lst ((L.map aj).take j)]=S1 at *;calc{rfl,ve V λS2 v I _=>?_};k_is;calc{by rw[aB I];rfl,?_};let u:(js K).length<=7:=by rw[Er];exact V.g7
 refine a9 (js K) D.int (λt=>if (decide (jn K z.1 < t) && aC K t z)=aN then [D.int t] else []) (by lia) (λ_ _=>by split <;> simp) (c8 I) (λi t f ht sm=>{_,rfl,?_}) λb X=>?_
 .k_is;cases c:decide (jn K z.1 < t) with
  |false=>k_is;exact{rfl,Sm.refl _}
  |true=>
   k_is;let l:=sm _ _ (v _ _ (T _ _ U));calc aa (je l (by lia) (show(L.map aj)[((j:Nat):Int).toNat]?=aw (aj z) by rw[ZK,Zq,C];rfl)) ?_;calc{rfl,oW V h.1 h.2 ?_};k_is;cases aC K t z with
   |true=>k_is;exact{rfl,Sm.refl _}
   |false=>k_is;exact{rfl,Sm.refl _}
 .rw[bj];k_is;let lt3:Zl b < Zl (b++[Ob.lst (((js K).filter λt=>decide (jn K z.1 < t) && aC K t z).map D.int)]):=by simp
  let a3:(b++[Ob.lst (((js K).filter λt=>decide (jn K z.1 < t) && aC K t z).map D.int)])[Zl b]?=aw (Ob.lst (((js K).filter λt=>decide (jn K z.1 < t) && aC K t z).map D.int)):=aM;let J:Sm b (b++[Ob.lst (((js K).filter λt=>decide (jn K z.1 < t) && aC K t z).map D.int)]):=Sm.app _ _;let lf:((js K).filter λt=>decide (jn K z.1 < t) && aC K t z).length<=7:=ZJ (YB _ _) u;generalize Zl b=N3 at *;generalize b++[Ob.lst (((js K).filter λt=>decide (jn K z.1 < t) && aC K t z).map D.int)]=S4 at *;let y:Sm S4 (S4++[Ob.lst [D.int (jn K z.1)]]):=Sm.app _ _;calc aa (my (xs:=[D.int (jn K z.1)]) aM (y _ _ a3) (by rw[Za,Zm];lia)) ?_;k_is;let E:Sm (S4++[Ob.lst [D.int (jn K z.1)]]) (S4++[Ob.lst [D.int (jn K z.1)]]++[Ob.lst ([D.int (jn K z.1)]++((js K).filter λt=>decide (jn K z.1 < t) && aC K t z).map D.int)]):=Sm.app _ _;let Z:(S4++[Ob.lst [D.int (jn K z.1)]]++[Ob.lst ([D.int (jn K z.1)]++((js K).filter λt=>decide (jn K z.1 < t) && aC K t z).map D.int)])[Zl (S4++[Ob.lst [D.int (jn K z.1)]])]?=aw (Ob.lst ((jd K (L.take j) z.1 z.2).map D.int)):=aM;calc{by rw[aB Z];rfl,?_};let sA:=((((T.trans v).trans X).trans J).trans y).trans E;let aL:=(((((v.trans X).trans J).trans y).trans E)) _ _ a1;refine a9 (jd K (L.take j) z.1 z.2) D.int (λt=>[D.int (1+(wts K (L.take j) t:Int))]) (by show((js K).filter λt=>decide (jn K z.1 < t) && aC K t z).length+1<=1000;lia) (λ_ _=>Zf _) (c8 Z) (λi t f ht sm=>{_,rfl,?_}) λB s7=>?_
  .k_is;calc{rfl,QC V (sm _ _ aL) (λw hw=>O w (YW hw)) (by rw[Yi];lia) λS8 s8=>?_};k_is;exact⟨rfl,s8⟩
  .rw[bp];let Y:=Es (S:=B) (xs:=(jd K (L.take j) z.1 z.2).map λt=>1+(wts K (L.take j) t:Int)) (by delta jd;simp);rw[ZS]at Y;exact aa Y (by k_is;exact q B (sA.trans s7))
def Jw(V:Vd K){n j:Nat}(I:S[n]?=aw (.lst (L.map aj)))(v:L[j]?=aw z)(B:InG K L)(hl:L.length<=100)(q:∀u,Sm S u->Q (.bl (uW K (L.take j) z.1 z.2)) u):Ok (evC ab (k+4) 28 [skE K,.ref n,.int j] S) Q:=by
 calc av (d:=eP) (ρ:=[aw (skE K),aw (.ref n),aw (.int j),aD,aD,aD,aD,aD,aD,aD]) rfl rfl ?_;dsimp![eP,iy];let l:=B z (Zd v);let{a,b,c,d,e,f,h,U,e0,Z,e2,e3,Y,_}:=gl7 V l.1 l.2;let hi:=je I (show(0:Int)<=(j:Int) by lia) (show(L.map aj)[((j:Nat):Int).toNat]?=aw (aj z) by rw[ZK,Zq,v];rfl);k_is;calc aa sk2 (aa hi (aa (show ixS (aj z) (.int 0) S=aw (.int z.1,S) from rfl) (aa (dP l.1 U) ?_)));rw[show ag [a,b,c,d,e,f,h] = .tup [.int a,.int b,.int c,.int d,.int e,.int f,.int h] from rfl];k_is;let E:jn K z.1=b:=Z;let O:uW K (L.take j) z.1 z.2=(decide (0 < h) && (aC K b z && decide (h < uV K (L.take j) z.1 z.2))):=by delta uW;rw[Y,E]
 rw[O]at q;cases C:decide (0 < h) with
 |false=>rw[C]at q;k_is;exact q S (Sm.refl S)
 |true=>
  rw[C]at q;k_is;calc aa hi ?_;calc{rfl,oW V l.1 l.2 ?_};k_is;cases J:aC K b z with
  |false=>rw[J]at q;k_is;exact q S (Sm.refl S)
  |true=>
   rw[J]at q;k_is
   let rg:=Jv (k:=k) (Q:=λy X=>wCx .gt y (.int h) X λd T=>Q d T) V I v B hl λu sm=>by
    k_is;exact q u sm
   rw[E]at rg;exact⟨rfl,rg⟩
def Jx(V:Vd K){j:Nat}{m:Int}(q:∀n,Sm S n->Q (.bl (lZ K j m)) n):Ok (evC ab (k+2) 33 [skE K,.int j,.int m] S) Q:=by
 calc av (d:=cy) (ρ:=[aw (skE K),aw (.int j),aw (.int m),aD,aD,aD,aD,aD,aD]) rfl rfl ?_;dsimp![cy,eB];k_is;calc aa sk0 ?_;rw[show meE K = .tup [.int K.r,.int K.s,.tup (K.M.map ag),.tup (K.H.map aj)] from rfl];k_is;calc{rfl,ve V λl u f _=>?_};k_is;calc aa (ig f) ?_;k_is;rw[Za];let r0:=V.r0;let E:lZ K j m=match (js K)[(K.r+j).toNat]? with |some t=>decide (t < m - K.s) |none=>aS:=rfl
 refine dB (λh=>?_) λh=>?_
 .let b:(K.r+j).toNat < (js K).length:=by let:=of_decide_eq_true h;lia
  rw[gEG b]at E;k_is;calc aa (je f (by lia) (show((js K).map D.int)[(K.r+(j:Int)).toNat]?=aw (.int (js K)[(K.r+(j:Int)).toNat]) by rw[Zq,gEG b];rfl)) ?_;k_is;let:=q l u;rw[E]at this;exact this
 .let c:(js K).length<=(K.r+j).toNat:=by let:=of_decide_eq_false h;lia
  rw[Zw c]at E;let:=q l u;rw[E]at this;exact this
abbrev jQ:Option Int->D
 |none=>.non
 |some m=>.int m
def qS(V:Vd K){a:Option (Int×Int)}{g:Int}{j:Nat}(T:∀q,a=aw q->0<=q.1/\q.1 < K.M.length)(n:0<=g)(L:g < K.G.length)(q:∀v,Sm S v->Q (jQ (Sn.step K a g j)) v):Ok (evC ab (k+3) 32 [skE K,ahE a,.int g,.int j] S) Q:=by
 calc av (d:=cI) (ρ:=[aw (skE K),aw (ahE a),aw (.int g),aw (.int j),aD,aD,aD,aD,aD,aD,aD,aD]) rfl rfl ?_;dsimp![cI,fw];let{l,b,c,d,e,f,h,U,J,e1,E,X,e6,Y,I,B}:=gl7 V n L;k_is;calc aa sk2 (aa (dP n U) ?_);rw[show ag [l,b,c,d,e,f,h] = .tup [.int l,.int b,.int c,.int d,.int e,.int f,.int h] from rfl];k_is;calc aa sk0 ?_;calc{rfl,Ju V T Y I ?_};k_is;calc{rfl,QB V.h4 ?_};k_is
 let Z:fns K.H (if AW K a l > c then AW K a l else c)=opm K.H (be K a g):=by
  let:=Eo (K:=K) (ah:=a) (g:=g) (by rw[E];exact B);rw[J,E]at this;rw[this,yZ V.ris]
 rw[Z];let O:Sn.step K a g j=if (decide (d < opm K.H (be K a g)) || lZ K j (opm K.H (be K a g)))=aN then aD else aw (opm K.H (be K a g)):=by delta Sn.step;rw[X]
 rw[O]at q;cases C:decide (d < opm K.H (be K a g)) with
 |true=>rw[C]at q;k_is;exact q S (Sm.refl S)
 |false=>
  rw[C]at q;k_is;calc{rfl,Jx V λu y=>?_};k_is;cases z:lZ K j (opm K.H (be K a g)) with
  |true=>rw[z]at q;k_is;exact q u y
  |false=>rw[z]at q;k_is;exact q u y
def Sm.setNew{f:Nat}(h:Sm S b)(c:S.length<=f):Sm S (b.set f o):=λi u e=>by
 let hi:=(Zb.mp e).1;rw[Zx (by lia)];exact h i u e
def QD{g:Int}(c:0<=g)(b:g < K.G.length):jn K g∈js K:=by
 let hi:g.toNat < K.G.length:=by lia
 calc(cE _).mem_iff.mpr (Zz.mpr {K.G[g.toNat],ZT hi,?_});delta jn gi;rw[gEG hi];rfl
def jR(V:Vd K)(n:InG K L):∀q,aq K L=aw q->0<=q.1/\q.1 < K.M.length:=λq e=>by
 delta aq at e;cases h:L.getLast? with
 |none=>rw[h]at e;exact V.ah0 q e
 |some z=>
  rw[h]at e;cases e;let j:=n z (Xq h);let{a,b,c,d,e,f,h,v,E,J,B,y,I,u,l,C}:=gl7 V j.1 j.2;show 0<=gi K.G z.1 0/\gi K.G z.1 0 < K.M.length;rw[E];exact⟨u,l⟩
def aU:aq K (L++[z])=aw (gi K.G z.1 0,z.2):=by
 delta aq;rw[YX];rfl
def gu:∀ (os:List Int) (a:Option (Int×Int)) (L:List (Int×Int)) (j:Nat),rn K os a L = .inl j->j < L.length+os.length
 |[],_,_,_,h=>by cases h
 |g::os,a,L,j,h=>by
  rw[rn]at h;rw[Zo];split at h
  .cases h;lia
  .split at h
   .cases h;lia
   .let:=gu os _ _ j h;rw[Ze,Zm]at this
    lia
def jS:∀ (os:List Int) (a:Option (Int×Int)) (L R:List (Int×Int)),rn K os a L = .inr R->R.length=L.length+os.length
 |[],_,_,_,h=>by cases h;rfl
 |g::os,a,L,R,h=>by
  rw[rn]at h;rw[Zo];split at h
  .cases h
  .split at h
   .cases h
   .let:=jS os _ _ R h;rw[Ze,Zm]at this
    lia
structure Ends(K:Sky)(os:List Int)(L:List (Int×Int)):Prop where
 stuck:∀j,rn K os K.ah [] = .inl j->L.length=j
 lands:∀R,rn K os K.ah [] = .inr R->L=R
def vf(V:Vd K){os:List Int}(ho:∀g∈os,0<=g/\g < K.G.length)(lo:os.length<=7)
  (q:∀n L B,Sm S B->B[n]?=aw (.lst (L.map aj))->Zl S<=n->Ends K os L->Q (.ref n) B):Ok (evC ab (k+5) 30 [skE K,.tup (os.map D.int)] S) Q:=by
 calc av (d:=cb) (ρ:=[aw (skE K),aw (.tup (os.map D.int)),aD,aD,aD,aD]) rfl rfl ?_;dsimp![cb,dJ];k_is;refine Ep (by rw[Za];lia) (λi Z B=>Sm S B/\∃L u v w,Z=[aw (skE K),aw (.tup (os.map D.int)),aw (.ref (Zl S)),u,v,w]/\B[Zl S]?=aw (.lst (L.map aj))/\L.length=i/\InG K L/\rn K os K.ah []=rn K (os.drop i) (aq K L) L) (λi d Z S1 hd ⟨X,L,u,v,w,er,O,hi,C,b⟩=>?_) (λZ S1 ⟨X,L,u,v,w,er,O,hi,C,b⟩=>?_) {Sm.app _ _,[],aD,aD,aD,rfl,aM,rfl,λ_ h=>(by simp at h),rfl}
 .subst er;let{g,hg,rfl}:=oV hd;let l:=ho g (Zd hg);let hil:i < os.length:=(Zb.mp hg).1;rw[mw hg,rn,hi]at b;calc{_,fS (by simp) (by simp),?_};k_is;calc{rfl,uY V O C ?_};calc{rfl,qS V (jR V C) l.1 l.2 λf U=>?_};k_is;cases T:Sn.step K (aq K L) g i with
  |none=>
   rw[T]at b;calc aa (show ao .is (jQ aD) .non f=aw (.bl aN,f) from rfl) ?_;k_is;exact q _ L f (X.trans U) (U _ _ O) (Zf _) {λj e=>by rw[b]at e;cases e;exact hi,λR e=>by rw[b]at e;cases e}
  |some m=>
   rw[T]at b;calc aa (show ao .is (jQ (aw m)) .non f=aw (.bl aS,f) from rfl) ?_;rw[show jQ (aw m) = .int m from rfl];k_is;let y:=U _ _ O;calc{cV y,?_};rw[jc y (by rw[Za];lia)];k_is;let Y:Zl S < f.length:=(Zb.mp y).1;let c:(f.set (Zl S) (Ob.lst (L.map aj++[D.tup [D.int g,D.int m]])))[Zl S]?=aw (.lst ((L++[(g,m)]).map aj)):=by rw[eZ Y,ZF];rfl
   let s3:Sm S (f.set (Zl S) (Ob.lst (L.map aj++[D.tup [D.int g,D.int m]]))):=Sm.setNew (X.trans U) (Zf _);generalize f.set (Zl S) (Ob.lst (L.map aj++[D.tup [D.int g,D.int m]]))=S3 at *
   let I:InG K (L++[(g,m)]):=λz hz=>by
    rcases ZR.mp hz with hz |hz
    .exact C z hz
    .rw[ZG.mp hz];exact l
   let hz3:(L++[(g,m)])[i]?=aw (g,m):=by rw[Zp (by lia),hi,ZY];rfl
   let E:(L++[(g,m)]).take i=L:=by rw[<-hi,WL]
   calc{rfl,Jw V c hz3 I (by rw[Ze,Zm];lia) λS4 J=>?_};rw[E,Jt λz hz=>QD (C z hz).1 (C z hz).2];k_is;dsimp! at b;cases hh:cz K L g m with
   |true=>
    rw[hh,if_pos rfl]at b;k_is;calc aa (y4 (J _ _ c)) ?_;k_is;let a5:(S4++[Ob.lst (((L++[(g,m)]).map aj).take i)])[Zl S4]?=aw (.lst (L.map aj)):=by rw[aM,<-XM,E]
    let l4:Zl S<=Zl S4:=Y0 (Zb.mp (J _ _ c)).1;exact q _ L _ ((s3.trans J).trans (Sm.app _ _)) a5 l4 {λj e=>by rw[b]at e;cases e;exact hi,λR e=>by rw[b]at e;cases e}
   |false=>
    rw[hh,if_neg Zh]at b;k_is;exact{s3.trans J,L++[(g,m)],_,_,_,rfl,J _ _ c,by rw[Ze,Zm];lia,I,by rw[aU];exact b}
 .subst er;k_is;rw[Za,Y4,rn]at b;exact q _ L S1 X O (Zf _) {λj e=>(by rw[b]at e;cases e),λR e=>(by rw[b]at e;cases e;rfl)}
end Lw
namespace Lw
open PySem Ev
variable {p:Nat} {S:Sto} {k:Nat} {Q:D->Sto->Prop}
end Lw
namespace Lw
open PySem Ev Sn
variable {p:Nat} {S:Sto} {k:Nat} {Q:D->Sto->Prop} {K:Sky}
def ij(r:List Int):TDs p S (r.map Dw.D.int) (r.map D.int):=by
 induction r with
 |nil=>exact bP
 |cons a r I=>exact au bK I
def e8:∀ (M:List (List Int)),TDs p S (Dw.iO M) (M.map ag)
 |[]=>bP
 |r::M=>au (bL (ij r)) (e8 M)
abbrev ahT:Option (Int×Int)->Dw.D
 |none=>.non
 |some q=>.tup [.int q.1,.int q.2]
abbrev skT(K:Sky):Dw.D:=.tup [.tup [.int K.r,.int K.s,.tup (Dw.iO K.M),.tup (K.H.map Dw.qm)],ahT K.ah,.tup (Dw.iO K.G),.tup (K.F.map Dw.D.int)]
def Lm:∀ (a:Option (Int×Int)),TD p S (ahT a) (ahE a)
 |none=>NQ
 |some q=>bL (au bK (au bK bP))
def Uc:TD p S (skT K) (skE K):=bL (au (bL (au bK (au bK (au (bL (e8 K.M)) (au (bL (gR K.H)) bP))))) (au (Lm K.ah) (au (bL (e8 K.G)) (au (bL (ij K.F)) bP))))
structure Ord(K:Sky)(os:List Int):Prop where
 nd:os.Nodup
 bd:∀g∈os,0<=g/\g < K.G.length
 ln:os.length=K.G.length
 fx:∃r,os=K.F++r
 pm:os.Perm ((Zi K.G.length).map λi=>Int.ofNat i)
abbrev Res(K:Sky)(os:List Int)(b:Nat)(d:D)(c:Sto):Prop:=match rn K os K.ah [] with
 |.inl j=>d = .tup [.str "stuck",.int j]
 |.inr R=>∃n,d = .tup [.str "lands",.ref n]/\c[n]?=aw (.lst (R.map aj))/\b<=n
def Et{m:Int}(hl:H.length<=4)(q:Q (.int (opm H m)) S):Ok (evC ab (k+1) 51 [.tup (H.map aj),.int m] S) Q:=by
 calc av (d:=i7) (ρ:=[aw (.tup (H.map aj)),aw (.int m),aD,aD]) rfl rfl ?_;dsimp![i7,oG];k_is;refine Ll (by rw[Za];lia) (λi j f=>f=S/\∃ (b:Int) (u v:Option D),opm H m=opm (H.drop i) b/\j=[aw (.tup (H.map aj)),aw (.int b),u,v]) (λi d j f hd ⟨l,b,u,v,E,c⟩=>?_) (λj f ⟨l,b,u,v,E,c⟩=>?_) ⟨rfl,m,aD,aD,rfl,rfl⟩
 .subst l c;let{pr,n,rfl}:=oV hd;calc{_,show aA (.tup [.n 2,.n 3]) (.tup [.int pr.1,.int pr.2]) _=_ from fS (by simp) (by simp),?_};k_is;rw[mw n,opm]at E;refine uX (λy B=>?_) λh=>?_
  .k_is;rw[if_pos {of_decide_eq_true y,of_decide_eq_true B}]at E;exact⟨rfl,_,_,_,E,rfl⟩
  .k_is;rw[if_neg (λz=>by rw[decide_eq_true z.1,decide_eq_true z.2]at h;cases h)]at E;exact⟨rfl,_,_,_,E,rfl⟩
 .subst l c;k_is;rw[Za,Y4,opm]at E;rw[E]at q;exact q
def AY(V:Vd K){n:Nat}{t:Int}(v:S[n]?=aw (.lst (L.map aj)))(I:InG K L)(hl:L.length<=1000)(q:∀N l j,Sm S j->j[N]?=aw (.lst l)->l.length=wts K L t->Q (.ref N) j):Ok (evC ab (k+1) 52 [skE K,.ref n,.int t] S) Q:=by
 calc av (d:=gN) (ρ:=[aw (skE K),aw (.ref n),aw (.int t)]) rfl rfl ?_;dsimp![gN,lA];k_is;calc{by rw[aB v];rfl,?_};refine a9 L aj (λz=>if aC K t z=aN then [.int z.1] else []) hl (λz _=>by split <;> simp) (c8 v) (λi z j B sm=>{_,show aA (.tup [.n 3,.n 4]) (.tup [.int z.1,.int z.2]) _=_ from fS (by simp) (by simp),?_}) λj sm=>?_
 .let{u,y}:=I z (Zd B);let{a,b,c,d,e,f,h,E,_,J,_}:=gl7 V u y;k_is;calc aa sk2 (aa (dP u E) (aa (show ixS (ag [a,b,c,d,e,f,h]) (.int 1) j=aw (.int b,j) from rfl) ?_));k_is;let C:aC K t z=(decide (b<=t) && decide (t < z.2 - K.s)):=by delta aC jn;rw[J]
  rw[C];cases O:decide (b<=t) with
  |false=>k_is;exact{rfl,Sm.refl _}
  |true=>
   k_is;calc aa sk0 (aa me1 ?_);k_is;cases T:decide (t < z.2 - K.s) with
   |true=>k_is;exact{rfl,Sm.refl _}
   |false=>k_is;exact{rfl,Sm.refl _}
 .rw[bj];k_is;exact q _ _ _ (sm.trans (Sm.app _ _)) aM (by rw[Za];rfl)
def AZ{c:Int}{n:Nat}(h:S[n]?=aw (.lst (xs.map D.int))):ak (fX c) (.ref n) S=aw (.int (pK c xs),S):=by
 simp![ak,ay,aB h,ZL,fX,dr]
def Eu(V:Vd K){n:Nat}{g m:Int}(Z:S[n]?=aw (.lst (L.map aj)))(X:InG K L)(hl:L.length<=100)(J:0<=g)(g1:g < K.G.length)(q:∀l,Sm S l->Q (.int (gU K L g m)) l):Ok (evC ab (k+2) 53 [skE K,.ref n,.int g,.int m] S) Q:=by
 calc av (d:=i8) (ρ:=[aw (skE K),aw (.ref n),aw (.int g),aw (.int m),aD,aD,aD]) rfl rfl ?_;dsimp![i8,oH];let{a,b,c,d,e,f,h,E,_,C,_}:=gl7 V J g1;let O:jn K g=b:=C;k_is;calc aa sk2 (aa (dP J E) (aa (show ixS (ag [a,b,c,d,e,f,h]) (.int 1) S=aw (.int b,S) from rfl) ?_));k_is;let Y:Sm S (S++[Ob.lst [D.int b]]):=Sm.app _ _;let a1:(S++[Ob.lst [D.int b]])[Zl S]?=aw (Ob.lst [D.int b]):=aM;generalize Zl S=N1 at *;generalize S++[Ob.lst [D.int b]]=S1 at *;let u:=Y _ _ Z;calc{by rw[aB u];rfl,?_};refine a9 L aj (λz=>[.int (jn K z.1)]) (by lia) (λ_ _=>Zf _) (c8 u) (λi z l hz sm=>{_,show aA (.tup [.n 7,.n 8]) (.tup [.int z.1,.int z.2]) _=_ from fS (by simp) (by simp),?_}) λj T=>?_
 .let{U,h1}:=X z (Zd hz);let{a,b,c,d,e,f,h,E,_,C,_}:=gl7 V U h1;k_is;calc aa sk2 (aa (dP U E) (aa (show ixS (ag [a,b,c,d,e,f,h]) (.int 1) l=aw (.int b,l) from rfl) ?_));exact{by rw[show jn K z.1=b from C],Sm.refl _}
 .rw[bp];let s3:Sm j (j++[Ob.lst (L.map λz=>D.int (jn K z.1))]):=Sm.app _ _;calc aa (my (s3 _ _ (T _ _ a1)) aM (by rw[Za,Zm];lia)) ?_;k_is;let s4:Sm (j++[Ob.lst (L.map λz=>D.int (jn K z.1))]) (j++[Ob.lst (L.map λz=>D.int (jn K z.1))]++[Ob.lst ([D.int b]++L.map λz=>D.int (jn K z.1))]):=Sm.app _ _
  let a4:(j++[Ob.lst (L.map λz=>D.int (jn K z.1))]++[Ob.lst ([D.int b]++L.map λz=>D.int (jn K z.1))])[Zl (j++[Ob.lst (L.map λz=>D.int (jn K z.1))])]?=aw (Ob.lst ((jn K g::L.map λz=>jn K z.1).map D.int)):=by
   rw[aM,O,Zy,ZS];rfl
  let I:=((Y.trans T).trans s3).trans s4;let y:=I _ _ Z;generalize Zl (j++[Ob.lst (L.map λz=>D.int (jn K z.1))])=N4 at *;generalize j++[Ob.lst (L.map λz=>D.int (jn K z.1))]++[Ob.lst ([D.int b]++L.map λz=>D.int (jn K z.1))]=S4 at *;calc{by rw[aB a4];rfl,?_};refine a9 (jn K g::L.map λz=>jn K z.1) D.int (λt=>if (decide (jn K g<=t) && decide (t < m - K.s))=aN then [D.int (1+(wts K L t:Int))] else []) (by rw[Zo,Za];lia) (λ_ _=>by split <;> simp) (c8 a4) (λi t l ht sm=>{_,rfl,?_}) λv s5=>?_
  .k_is;rw[O];cases c1:decide (b<=t) with
   |false=>k_is;exact{rfl,Sm.refl _}
   |true=>
    k_is;calc aa sk0 (aa me1 ?_);k_is;cases c2:decide (t < m - K.s) with
    |false=>k_is;exact{rfl,Sm.refl _}
    |true=>
     k_is;calc{rfl,AY V (sm _ _ y) X (by lia) λN ds S6 B hN hd=>?_};calc aa (ig hN) ?_;k_is;rw[hd];exact⟨rfl,B⟩
  .rw[bj];k_is;let B:Sm v (v++[Ob.lst ((dg K L g m).map λt=>D.int (1+(wts K L t:Int)))]):=Sm.app _ _;let a6:(v++[Ob.lst ((dg K L g m).map λt=>D.int (1+(wts K L t:Int)))])[Zl v]?=aw (Ob.lst (((dg K L g m).map λt=>1+(wts K L t:Int)).map D.int)):=by rw[aM,ZS];rfl
   calc aa (AZ a6) ?_;k_is;exact q _ ((I.trans s5).trans B)
def Ew{i:Int}(b:0<=i):jr d (aw i) aD=d.drop i.toNat:=by
 delta jr;rw[Dw.Me _ _ b,HT.BK];by_cases h:i.toNat<=d.length
 .rw[WH h,Yd (by rw[YI];lia)]
 .rw[WC (by lia),Y4,List.take_nil,Xl (by lia)]
def Ex{n:Nat}{i:Int}(h:S[n]?=aw (.lst d))(b:0<=i):slS (aw i) aD (.ref n) S=aw (.ref (Zl S),S++[.lst (d.drop i.toNat)]):=by
 simp![slS,aB h,Ew b]
def xG(V:Vd K){a:Option (Int×Int)}{g:Int}{j:Nat}{kd jo L:Int}{w1 w2:Option D}(Z:gi K.G g 3=L)(q:∀n,Sm S n->Q (jQ (Sn.step K a g j)) n) :
  rW (wSs (evC ab (k+1)) (cu ab) 58 (fL.drop 2)) [aw (skE K),aw (ahE a),aw (.int g),aw (.int j),aw (.int kd),aw (.int jo),aw (.int (be K a g)),aw (.int L),aD,aD] S (out Q):=by
 dsimp![fL,Yr];k_is;calc aa sk0 (aa me3 ?_);calc{rfl,Et V.h4 ?_};k_is;let U:Sn.step K a g j=if (decide (L < opm K.H (be K a g)) || lZ K j (opm K.H (be K a g)))=aN then aD else aw (opm K.H (be K a g)):=by delta Sn.step;rw[Z]
 rw[U]at q;generalize opm K.H (be K a g)=m at *;calc aa sk2 ?_;k_is;refine a9 K.G ag (λg=>[.int (g.getD 1 0)]) (by let:=V.g7;lia) (λ_ _=>Zf _) bN (λi g n Y sm=>{_,rfl,?_}) λl s1=>?_
 .let{X,_}:=V.gl g (Zd Y)
  match g,X with
  |[a,b,c,d,e,f,h],_=>
   k_is;exact aa (show ixS (ag [a,b,c,d,e,f,h]) (.int 1) n=aw (.int b,n) from rfl) {rfl,Sm.refl _}
 .rw[bp];refine{_,show cT aS (K.G.map λg=>D.int (g.getD 1 0))=aw ((js K).map D.int) from ?_,?_}
  .let:=uZ (xs:=K.G.map λg=>g.getD 1 0) (by rw[Za];let:=V.g7;lia);rw[ZS]at this;exact this
  .calc aa sk0 (aa me0 ?_);k_is;let O:Sm l (l++[Ob.lst ((js K).map D.int)]):=Sm.app _ _;let T:(l++[Ob.lst ((js K).map D.int)])[Zl l]?=aw (Ob.lst ((js K).map D.int)):=aM;generalize Zl l=N1 at *;generalize l++[Ob.lst ((js K).map D.int)]=S2 at *;let r0:=V.r0;calc aa (Ex T (by lia)) ?_;k_is;let s3:Sm S2 (S2++[Ob.lst (((js K).map D.int).drop (K.r+(j:Int)).toNat)]):=Sm.app _ _;let B:(S2++[Ob.lst (((js K).map D.int).drop (K.r+(j:Int)).toNat)])[Zl S2]?=aw (Ob.lst (((js K).map D.int).drop (K.r+(j:Int)).toNat)):=aM;let l3:Zl S2 < Zl (S2++[Ob.lst (((js K).map D.int).drop (K.r+(j:Int)).toNat)]):=by simp
   generalize Zl S2=N2 at *;generalize S2++[Ob.lst (((js K).map D.int).drop (K.r+(j:Int)).toNat)]=S3 at *;let z:=(s1.trans O).trans s3;cases C:decide (L < m) with
   |true=>rw[C]at q;k_is;exact q _ z
   |false=>
    rw[C]at q;k_is;calc aa (DU (Sm.app _ _ _ _ B) aM (by lia)) ?_;k_is;let y:Sm S (S3++[Ob.lst []]):=z.trans (Sm.app _ _);let J:=Sm.app S3 [Ob.lst []] _ _ B;generalize S3++[Ob.lst []]=S4 at *;let E:lZ K j m=match (js K)[(K.r+j).toNat]? with |some t=>decide (t < m - K.s) |none=>aS:=rfl
    by_cases u:(K.r+(j:Int)).toNat < (js K).length
    .rw[gEG u]at E;dsimp! at E
     let v:((js K).map D.int).drop (K.r+(j:Int)).toNat = .int (js K)[(K.r+(j:Int)).toNat]::((js K).map D.int).drop ((K.r+(j:Int)).toNat+1):=by
      rw[Y6 (by rw[Za];exact u),WD]
     rw[v]at J;rw[v,show(!(D.int (js K)[(K.r+(j:Int)).toNat]::((js K).map D.int).drop ((K.r+(j:Int)).toNat+1)).isEmpty)=aN from rfl];k_is;calc aa sk0 (aa me1 ?_);k_is;calc aa (je (i:=0) J (by lia) rfl) ?_;k_is;rw[E]at q;cases I:decide ((js K)[(K.r+(j:Int)).toNat] < m - K.s) with
     |true=>rw[I]at q;k_is;exact q _ y
     |false=>rw[I]at q;k_is;exact q _ y
    .rw[Zw (by lia)]at E;let v:((js K).map D.int).drop (K.r+(j:Int)).toNat=[]:=Xl (by rw[Za];lia);rw[v,show(!([]:List D).isEmpty)=aS from rfl];k_is;rw[E]at q;exact q _ y
def vg(V:Vd K){a:Option (Int×Int)}{g:Int}{j:Nat}(J:∀q,a=aw q->0<=q.1/\q.1 < K.M.length)(n:0<=g)(I:g < K.G.length)(q:∀u,Sm S u->Q (jQ (Sn.step K a g j)) u):Ok (evC ab (k+2) 54 [skE K,ahE a,.int g,.int j] S) Q:=by
 calc av (d:=i9) (ρ:=[aw (skE K),aw (ahE a),aw (.int g),aw (.int j),aD,aD,aD,aD,aD,aD]) rfl rfl ?_;dsimp![i9,fL];let{l,b,c,d,e,f,h,O,C,e1,v,U,e6,Y,B,c0}:=gl7 V n I;k_is;calc aa sk2 (aa (dP n O) ?_);rw[show ag [l,b,c,d,e,f,h] = .tup [.int l,.int b,.int c,.int d,.int e,.int f,.int h] from rfl];k_is;rw[show jr [D.int l,.int b,.int c,.int d,.int e,.int f,.int h] aD (aw 4)=[.int l,.int b,.int c,.int d] from rfl];k_is;let T:=xG (k:=k) (S:=S) (Q:=Q) V (a:=a) (g:=g) (j:=j) (kd:=l) (jo:=b) (w1:=aD) (w2:=aD) U q;dsimp![fL,Yr]at T;cases a with
 |none=>
  let E:be K aD g=c:=v;rw[E]at T;calc aa (show ao .t (ahE aD) .non S=aw (.bl aS,S) from rfl) ?_;k_is;exact T
 |some z=>
  let{L,Z}:=J z rfl;calc aa (show ao .t (ahE (aw z)) .non S=aw (.bl aN,S) from rfl) ?_;k_is;calc aa (show ixS (ahE (aw z)) (.int 1) S=aw (.int z.2,S) from rfl) ?_;calc aa sk0 (aa me2 (aa (show ixS (ahE (aw z)) (.int 0) S=aw (.int z.1,S) from rfl) ?_));let{r,y,X}:=oU (S:=S) V L Z Y B;calc aa y (aa X ?_);k_is;let E:be K (aw z) g=if z.2+gp K z.1 l > c then z.2+gp K z.1 l else c:=by delta be;rw[C,v]
  rw[E]at T;exact T
def oX(V:Vd K){N i:Nat}{g m h:Int}(l:j[N]?=aw (.lst (L.map aj)))(hl:L.length<=100)(n:0<=g)(v:g < K.G.length)
  (q:Qf .nx [aw (skE K),aw O,aw (ahE (aq K (L++[(g,m)]))),aw (.ref N),aw (.int i),aw (.int g),aw (.int m),aw (.int h)] (j.set N (.lst (L.map aj++[.tup [.int g,.int m]])))) :
  cD (.ref N) j=aN/\Ok (rV (.ref N) [.tup [.int g,.int m]] j) λ_ y=>rW (wSs (evC ab (k+2)) (cu ab) 54 [CS.a (Tg.n 2) (CE.tup [(((CE.v 0).x (CE.int 2)).x (CE.v 5)).x (CE.int 0),CE.v 6])]) [aw (skE K),aw O,aw ad,aw (.ref N),aw (.int i),aw (.int g),aw (.int m),aw (.int h)] y Qf:=by
 calc{cV l,?_};rw[jc l (by rw[Za];lia)];let{a,b,c,d,e,f,u,z,E,_}:=gl7 V n v;k_is;calc aa sk2 (aa (dP n z) (aa (show ixS (ag [a,b,c,d,e,f,u]) (.int 0) (j.set N (.lst (L.map aj++[.tup [.int g,.int m]])))=aw (.int a,_) from rfl) ?_));k_is;rw[aU,E]at q;exact q
def vh(V:Vd K){os:List Int}(ho:∀g∈os,0<=g/\g < K.G.length)(lo:os.length<=7)(q:∀d S',Sm S S'->Res K os (Zl S) d S'->Q d S'):Ok (evC ab (k+3) 55 [skE K,.tup (os.map D.int)] S) Q:=by
 calc av (d:=eX) (ρ:=[aw (skE K),aw (.tup (os.map D.int)),aD,aD,aD,aD,aD,aD]) rfl rfl ?_;dsimp![eX,iE];k_is;calc aa sk1 ?_;k_is;refine Ep (by rw[Za];lia) (λi U S'=>Sm S S'/\∃L u v w x,U=[aw (skE K),aw (.tup (os.map D.int)),aw (ahE (aq K L)),aw (.ref (Zl S)),u,v,w,x]/\S'[Zl S]?=aw (.lst (L.map aj))/\L.length=i/\InG K L/\rn K os K.ah []=rn K (os.drop i) (aq K L) L) (λi d U S1 hd ⟨C,L,u,v,w,x,Y,hn,hi,T,l⟩=>?_) (λU S1 ⟨C,L,u,v,w,x,Y,hn,hi,T,l⟩=>?_) {Sm.app _ _,[],aD,aD,aD,aD,rfl,aM,rfl,λ_ h=>(by simp at h),rfl}
 .subst Y;let{g,Z,rfl}:=oV hd;let j:=ho g (Zd Z);let hil:i < os.length:=(Zb.mp Z).1;rw[mw Z,rn,hi]at l;calc{_,fS (by simp) (by simp),?_};k_is;calc{rfl,vg V (jR V T) j.1 j.2 λB I=>?_};let{a,b,c,d,e,f,h,eg,e0,e1,e2,e3,e6,k0,k1,c0}:=gl7 V j.1 j.2;calc aa sk2 (aa (dP j.1 eg) (aa (show ixS (ag [a,b,c,d,e,f,h]) (.int 6) B=aw (.int h,B) from rfl) ?_));k_is;let n:=I _ _ hn;let stuck:rn K os K.ah [] = .inl i->∀S',Sm S S'->Q (.tup [.str "stuck",.int i]) S':=λe S' s=>q _ S' s (by delta Res;rw[e]);cases O:Sn.step K (aq K L) g i with
  |none=>
   rw[O]at l;calc aa (show ao .is (jQ aD) .non B=aw (.bl aN,B) from rfl) ?_;k_is;exact stuck l B (C.trans I)
  |some m=>
   rw[O]at l;calc aa (show ao .is (jQ (aw m)) .non B=aw (.bl aS,B) from rfl) ?_;rw[show jQ (aw m) = .int m from rfl];k_is;dsimp! at l;let eh:cz K L g m=(decide (0 < h) && decide (h < gU K L g m)):=by delta cz;rw[e6]
   rw[eh]at l
   let J:∀y,Sm S y->y[Zl S]?=aw (.lst (L.map aj))->rn K os K.ah []=rn K (os.drop (i+1)) (aw (gi K.G g 0,m)) (L++[(g,m)])->Sm S (y.set (Zl S) (.lst (L.map aj++[.tup [.int g,.int m]])))/\∃L' u v w x,[aw (skE K),aw (.tup (os.map D.int)),aw (ahE (aq K (L++[(g,m)]))),aw (.ref (Zl S)),aw (.int (i:Int)),aw (.int g),aw (.int m),aw (.int h)]=[aw (skE K),aw (.tup (os.map D.int)),aw (ahE (aq K L')),aw (.ref (Zl S)),u,v,w,x]/\(y.set (Zl S) (.lst (L.map aj++[.tup [.int g,.int m]])))[Zl S]?=aw (.lst (L'.map aj))/\L'.length=i+1/\InG K L'/\rn K os K.ah []=rn K (os.drop (i+1)) (aq K L') L':=λy E h3 l=>by
    let lt3:Zl S < y.length:=(Zb.mp h3).1;calc{Sm.setNew E (Zf _),L++[(g,m)],_,_,_,_,rfl,by rw[eZ lt3,ZF];rfl,by rw[Ze,Zm];lia,λz hz=>?_,by rw[aU];exact l};rcases ZR.mp hz with hz |hz
    .exact T z hz
    .rw[ZG.mp hz];exact j
   refine dB (λX=>?_) λX=>?_
   .rw[X,YR]at l;k_is;calc{rfl,Eu (k:=k) V n T (by lia) j.1 j.2 λy E=>?_};k_is;cases c2:decide (h < gU K L g m) with
    |true=>
     rw[c2,if_pos rfl]at l;k_is;exact stuck l y ((C.trans I).trans E)
    |false=>
     rw[c2,if_neg Zh]at l;k_is;calc oX V (E _ _ n) (by lia) j.1 j.2 ?_;exact J y ((C.trans I).trans E) (E _ _ n) l
   .rw[X,XD,if_neg Zh]at l;k_is;calc oX V n (by lia) j.1 j.2 ?_;exact J B (C.trans I) n l
 .subst Y;k_is;rw[Za,Y4,rn]at l;exact q _ S1 C (by delta Res;rw[l];exact{_,rfl,hn,Zf _})
def Ln{b:List D}(i:Nat)(d:D)(h:b[i]?=aw d):(λi=>(b[i]?).getD .non) i=d:=by
 show(b[i]?).getD .non=d;rw[h];rfl
def fU{i:Int}(b:0<=i)(h:i < 1000):lim i=aN:=by simp![lim,bAE,decide_eq_true_eq];lia
def QE{n:Nat}{lo:Int}{T:Tg}{c:XA}{u:Rho}{Q:List D->Sto->Prop}(f:Nat->D)(hl:n<=1000)(step:∀ (i:Nat),i < n->∃b,aA T (.int (lo+i)) u=aw b/\Ok (c b S) λE j=>E=[f i]/\j=S)(q:Q ((Zi n).map f) S) :
  Ok (bC (nxR lo n) T c u LF 0 S) λE S2=>E.length<=100000/\Q E S2:=by
 refine xu (by lia) (λi d l=>l=S/\d=(Zi i).map f) (λi d l hi ⟨e,h⟩=>?_) (λE l ⟨e,h⟩=>?_) ⟨rfl,rfl⟩
 .subst e;let{b,y,E,j,z,v,B}:=step i hi;exact{b,y,E,j,z,B,by rw[h,v,Xw,ZF];rfl}
 .subst e h;exact{by rw[Za,ZC];lia,q}
abbrev mid(M:List (List Int))(n c a:Nat):List (List Int):=(Zi n).map λi=>if i < a then Dw.aY M n c i else (M[i]?).getD []
def jT{n c a i:Nat}(hi:i < n):(mid M n c a)[i]?=aw (if i < a then Dw.aY M n c i else (M[i]?).getD []):=by
 delta mid;rw[Zq,Yn hi];rfl
def Ey{n c:Nat}(h:Dw.Mat n M):mid M n c 0=M:=by
 apply YS;intro i;by_cases hi:i < n
 .rw[jT hi,if_neg (by lia)];let:i < M.length:=by rw[h.len];exact hi
  rw[gEG this];rfl
 .rw[Zw (by delta mid;rw[Za,ZC];lia),Zw (by rw[h.len];lia)]
def Jy{n c:Nat}:mid M n c n=(Zi n).map (Dw.aY M n c):=by
 delta mid;calc Ym λi hi=>?_;rw[if_pos (ZQ.mp hi)]
def Jz{n c a:Nat}(d:a < n):(mid M n c a).set a (Dw.aY M n c a)=mid M n c (a+1):=by
 apply YS;intro i;by_cases hi:i < n
 .rw[jT hi];by_cases b:i=a
  .subst b;rw[ZV (by delta mid;rw[Za,ZC];lia),if_pos (by lia)]
  .rw[Zx (Ne.symm b),jT hi];by_cases h:i < a
   .rw[if_pos h,if_pos (by lia)]
   .rw[if_neg h,if_neg (by lia)]
 .rw[Zw (by rw[Yb];delta mid;rw[Za,ZC];lia),Zw (by delta mid;rw[Za,ZC];lia)]
def Ud{n c a b:Nat}(h:Dw.Mat n M)(hc:c < n)(hb:b < n):Dw.mg2 (mid M n c a) c b=Dw.mg2 M c b:=by
 delta Dw.mg2;rw[jT hc];split
 .rw[ZX,Dw.tZ M hb];let{_,_,_,_,d,_}:=h.at hc hc;show(if Dw.mg2 M c c+Dw.mg2 M c b < Dw.mg2 M c b then Dw.mg2 M c c+Dw.mg2 M c b else Dw.mg2 M c b)=_;rw[if_neg (by lia)];rfl
 .rfl
def Ue{n c a b:Nat}(h:a < n):Dw.mg2 (mid M n c a) a b=Dw.mg2 M a b:=by
 delta Dw.mg2;rw[jT h,if_neg (ZI _)];rfl
def RowsS.at(h:RowsS p S d M){n:Nat}{L:Nat}(l:S[L]?=aw (.lst d)){i j:Int}(I:0<=i)(J:0<=j)(c:∃r x,M[i.toNat]?=aw r/\r[j.toNat]?=aw x/\x=Dw.mg2 M i.toNat j.toNat) :
  ∃a,ixS (.ref L) (.int i) S=aw (.ref a,S)/\ixS (.ref a) (.int j) S=aw (.int (Dw.mg2 M i.toNat j.toNat),S):=by
 let{r,x,f,b,ex}:=c;let{a,E,q,z}:=h.row _ r f;exact{a,je l I E,je z J (by rw[Zq,b,ex];rfl)}
def xH{n i j:Nat}(hl:M.length=n)(c:∀r∈M,r.length=n)(hi:i < n)(d:j < n):∃r x,M[i]?=aw r/\r[j]?=aw x/\x=Dw.mg2 M i j:=by
 let h:i < M.length:=by lia
 let b:j < M[i].length:=by rw[c _ (ZT h)];exact d
 calc{M[i],M[i][j],gEG h,gEG b,?_};delta Dw.mg2;rw[gEG h,ZX,gEG b];rfl
def Ez{n c a:Nat}(h:Dw.Mat n M):∀r∈mid M n c a,r.length=n:=λr b=>by
 delta mid at b;let{i,hi,rfl}:=Zz.mp b;let hi:=ZQ.mp hi;split
 .exact Dw.tY M n c i
 .let:i < M.length:=by rw[h.len];exact hi
  rw[gEG this];exact h.row _ (ZT this)
def JA{n c a:Nat}:(mid M n c a).length=n:=by delta mid;rw[Za,ZC]
def RowsS.set{L i a:Nat}(h:RowsS p S d M)(v:S[L]?=aw (.lst d))(hi:i < M.length)(q:a≠p)(z:S[a]?=aw (.lst (r.map D.int)))(n:a≠L)(u:∀ (i:Nat) r b,M[i]?=aw r->d[i]?=aw (D.ref b)->b≠L):RowsS p (S.set L (.lst (d.set i (.ref a)))) (d.set i (.ref a)) (M.set i r):=by
 calc{by rw[Yb,Yb];exact h.len,λj l c=>?_};by_cases f:j=i
 .subst f;rw[ZV hi]at c;cases c;exact{a,by rw[ZV (by rw[h.len];exact hi)],q,by rw[Zx (Ne.symm n)];exact z}
 .rw[Zx (Ne.symm f)]at c;let{b,E,nb,Z}:=h.row j l c;let:=u j l b c E;exact{b,by rw[Zx (Ne.symm f)];exact E,nb,by rw[Zx (Ne.symm this)];exact Z}
def JB{L n:Nat}(h:RowsS p S f M)(l:S[L]?=aw (.lst f))(u:∀r∈M,0 < r.length):∀ (i:Nat) r b,M[i]?=aw r->f[i]?=aw (D.ref b)->b≠L:=λi r b q E j=>by
 let{B,c,_,z}:=h.row i r q;rw[E]at c;cases c;rw[j,l]at z;cases z;rw[Zq]at E;cases d:r[i]? with
 |none=>rw[d]at E;cases E
 |some x=>rw[d]at E;cases E
end Lw
namespace Lw
open PySem Ev Sn L2
variable {p:Nat} {S:Sto} {k:Nat} {Q:D->Sto->Prop} {K:Sky}
def Kp.len{p:Nat}(h:Ev.Kp p S b)(f:p < b.length):S.length<=b.length:=by
 by_cases d:S.length<=b.length
 .exact d
 .exfalso;let c:b.length < S.length:=by lia
  let:=h b.length S[b.length] (by lia) (gEG c);rw[Zw (Zf _)]at this;cases this
def y6{n:Nat}{i:Int}(b:S[n]?=aw (.lst d))(f:0<=i)(c:i.toNat < d.length):kj (.ref n) (.int i) v S=aw (S.set n (.lst (d.set i.toNat v))):=by
 let h:ixN d.length i=aw i.toNat:=by
  delta ixN;rw[if_pos (by lia),if_pos (by lia)]
 simp![kj,b,h,ZL]
def EA{n L:Nat}(z:S[L]?=aw (.lst j))(y:RowsS p S j M)(h:Dw.Mat n M)(I:n<=4)(q:∀d,Sm S d->Q (.tup (M.map ag)) d) :
  rW (wSs (evC ab (k+1)) (cu ab) 57 (fK.drop 3)) [aw pt,u,v,aw (.ref L),w,x] S (out Q):=by
 dsimp![fK,Yr];k_is;calc{by rw[aB z];rfl,?_};let le:j.length=n:=by rw[y.len,h.len]
 refine oO n (λi=>(j[i]?).getD .non) (λi b d=>d=S/\b=(M.take i).map ag) (λi b d hi ⟨e,_⟩=>by subst e;rw[<-le];exact DW z _ Ln) (by lia) (λi b c hi ⟨f,E⟩=>?_) (λB c ⟨f,E⟩=>{by rw[E,Za,Yi];lia,?_}) ⟨rfl,rfl⟩
 .subst f;let l:i < M.length:=by rw[h.len];exact hi
  let{a,C,J,Z}:=y.row i M[i] (gEG l);simp![C,ZX];calc{_,rfl,?_};k_is;calc aa (show ak cO (.ref a) c=aw (.tup (M[i].map D.int),c) by simp![ak,ay,aB Z,ZL,cO]) ?_;calc{rfl,?_};rw[E,Z6 l,ZF];rfl
 .subst f;rw[Yd (by rw[h.len];exact Zf _)]at E;subst E;calc aa (show cO aS (M.map ag) c=aw (.tup (M.map ag),c) from rfl) ?_;k_is;exact q c (Sm.refl _)
def EB(h:Pot p S)(q:∀n M l,Dr p S l->Dw.Mat n M->1<=n->n<=4->Dw.tX n n M->Q (.tup (M.map ag)) l):Ok (evC ab (k+2) 48 [.ref p] S) Q:=by
 calc av (d:=i6) (ρ:=[aw (.ref p),aD,aD,aD,aD,aD]) rfl rfl ?_;dsimp![i6,fK];k_is;calc{rfl,aI h (by decide) (by decide) λr0 S0 r1 r2 d0=>?_};k_is;calc{rfl,aI d0.pot (by decide) (by decide) λf0 S1 f1 f2 d01=>?_};k_is;let d1:=d0.trans d01;obtain⟨n,rfl⟩:∃n:Nat,r0=(n:Int):={r0.toNat,by lia}
 obtain⟨X,at1,hf⟩:∃e:Int,atI [D.int 3,D.int 12,D.int 40] f0=aw (D.int e)/\0 < e/\e<=40:=by
  let:f0=0\/f0=1\/f0=2:=by lia
  rcases this with rfl |rfl |rfl
  .exact{3,rfl,by decide,by decide}
  .exact{12,rfl,by decide,by decide}
  .exact{40,rfl,by decide,by decide}
 calc{_,at1,?_};k_is;let e1:((1:Int)+n).toNat=n+1:=by lia
 let l1:lim (1+(n:Int))=aN:=fU (by lia) (by lia);calc{l1,?_};rw[e1];refine xu (by lia) (λi z l=>Dr p S1 l/\∃M:List (List Int),M.length=i/\RowsS p l z M/\∀r∈M,r.length=n+1/\∀x∈r,1<=x/\x<=99) (λi z I hi ⟨d2,M,lM,rM,bM⟩=>{_,rfl,?_}) (λE I ⟨d2,M,lM,rM,bM⟩=>{by rw[rM.len];lia,?_}) {Dr.refl d1.pot,[],rfl,RowsS.nil,λr f=>by simp at f}
 .k_is;calc{l1,?_};rw[e1];refine xu (by lia) (λj z l=>Dr p I l/\∃r:List Int,z=r.map D.int/\r.length=j/\∀x∈r,1<=x/\x<=99) (λj z S3 hj ⟨C,r,ea,lr,br⟩=>{_,rfl,?_}) (λE S3 ⟨C,r,ea,lr,br⟩=>{by rw[ea,Za];lia,?_}) {Dr.refl d2.pot,[],rfl,rfl,λx hx=>by simp at hx}
  .k_is;calc{rfl,aI C.pot hf.1 (by lia) λx S4 x1 x2 d4=>?_};k_is;calc{C.trans d4,r++[1+x],by rw[ea,ZF];rfl,by simp[lr],λy hy=>?_};rcases ZR.mp hy with hy |hy
   .exact br y hy
   .simp at hy;lia
  .subst ea;k_is;let lt:=C.pot.lt;calc{(d2.trans C).thenSm (Sm.app _ _),M++[r],by simp[lM],((rM.keep C.kp).keep (Sm.app _ _).kp).snoc (by lia) aM,λr' hr'=>?_};rcases ZR.mp hr' with hr' |hr'
   .exact bM r' hr'
   .simp at hr';subst hr';exact⟨lr,br⟩
 .let lt2:=d2.pot.lt;let C:Dr p S (I++[Ob.lst E]):=(d1.trans d2).thenSm (Sm.app _ _);let r3:RowsS p (I++[Ob.lst E]) E M:=rM.keep (Sm.app _ _).kp;let a3:(I++[Ob.lst E])[I.length]?=aw (Ob.lst E):=aM;let m3:Dw.Mat (n+1) M:={lM,λr f=>(bM r f).1,λr f=>(bM r f).2};let lS:S.length<=I.length:=Kp.len (d1.trans d2).kp lt2;let ne3:I.length≠p:=by lia
  revert a3 r3 C;generalize I++[Ob.lst E]=S3;generalize I.length=L at *;intro C r3 a3;k_is;calc⟨l1,?_⟩;rw[e1];refine jK (by lia) (λc O l=>Dr p S l/\∃E M u v,O=[aw (.ref p),aw (.int (1+(n:Int))),aw (.int X),aw (.ref L),u,v]/\l[L]?=aw (.lst E)/\RowsS p l E M/\Dw.Mat (n+1) M/\Dw.tX (n+1) c M) (λc O S4 hc ⟨d4,E,M,u,v,Y,B,f,J,tr⟩=>?_) (λO S4 ⟨d4,E,M,u,v,Y,B,f,J,tr⟩=>?_) {C,E,M,aD,aD,rfl,a3,r3,m3,λ_ _ _ _ _ h=>absurd h (XY _)}
  .subst Y;calc{_,rfl,?_};k_is;calc{l1,?_};rw[e1];refine jK (by lia) (λa O l=>Dr p S l/\∃E v,O=[aw (.ref p),aw (.int (1+(n:Int))),aw (.int X),aw (.ref L),aw (.int (0+(c:Int))),v]/\l[L]?=aw (.lst E)/\RowsS p l E (mid M (n+1) c a)) (λa O U ha ⟨d5,E,v,Y,B,f⟩=>?_) (λO U ⟨d5,E,v,Y,B,f⟩=>?_) {d4,E,v,rfl,B,by rw[Ey J];exact f}
   .subst Y;calc{_,rfl,?_};k_is;calc{l1,?_};rw[e1];let ml:=@JA M (n+1) c a;let mr:=Ez (c:=c) (a:=a) J;let Z:∀x:Nat,((0:Int)+x).toNat=x:=λx=>by lia
    refine QE (λb=>.int (if Dw.mg2 M a c+Dw.mg2 M c b < Dw.mg2 M a b then Dw.mg2 M a c+Dw.mg2 M c b else Dw.mg2 M a b)) (by lia) (λb hb=>{_,rfl,?_}) ?_
    .k_is;let{x1,i1,j1}:=RowsS.at (n:=0) f B (i:=0+(a:Int)) (j:=0+(b:Int)) (by lia) (by lia) (by rw[Z,Z];exact xH ml mr ha hb);let{x2,i2,j2}:=RowsS.at (n:=0) f B (i:=0+(a:Int)) (j:=0+(c:Int)) (by lia) (by lia) (by rw[Z,Z];exact xH ml mr ha hc);let{x3,i3,j3}:=RowsS.at (n:=0) f B (i:=0+(c:Int)) (j:=0+(b:Int)) (by lia) (by lia) (by rw[Z,Z];exact xH ml mr hc hb);rw[Z,Z,Ue ha]at j1 j2;rw[Z,Z,Ud J hc hb]at j3;calc aa i1 (aa j1 (aa i2 (aa j2 (aa i3 (aa j3 ?_)))));k_is;exact⟨rfl,rfl⟩
    .let ef:((Zi (n+1)).map λb=>D.int (if Dw.mg2 M a c+Dw.mg2 M c b < Dw.mg2 M a b then Dw.mg2 M a c+Dw.mg2 M c b else Dw.mg2 M a b))=(Dw.aY M (n+1) c a).map D.int:=by delta Dw.aY;rw[ZS];rfl
     rw[ef];k_is;let lt5:=d5.pot.lt;let hL':=Sm.app U [Ob.lst ((Dw.aY M (n+1) c a).map D.int)] _ _ B;let lL:L < U.length:=(Zb.mp B).1;let le:E.length=n+1:=by rw[f.len,ml]
     calc{_,y6 hL' (by lia) (by lia),?_};k_is;rw[Z];let hr':RowsS p (U++[Ob.lst ((Dw.aY M (n+1) c a).map D.int)]) E (mid M (n+1) c a):=f.keep (Sm.app _ _).kp;let hr2:=RowsS.set (i:=a) (a:=U.length) (r:=Dw.aY M (n+1) c a) hr' hL' (by lia) (by lia) aM (by lia) (JB (n:=0) hr' hL' λr hh=>by rw[mr r hh];lia);rw[Jz ha]at hr2;let kA:Ev.Kp p S ((U++[Ob.lst ((Dw.aY M (n+1) c a).map D.int)]).set L (.lst (E.set a (.ref U.length)))):=(d5.kp.trans (Sm.app _ _).kp).setNew lS;calc{{kA,((Dr.sm d5.pot (Sm.app _ _)).pot).setNe ne3},_,_,rfl,?_,hr2};rw[eZ (by rw[Ze];lia)]
   .subst Y;k_is;rw[Jy]at f;exact{d5,E,_,_,_,rfl,B,f,Dw.B8 J hc,Dw.B7 J hc tr (Dw.Gc J hc)}
  .subst Y;let T:=EA (k:=k) (p:=p) (Q:=Q) (pt:=.ref p) (u:=aw (.int (1+(n:Int)))) (v:=aw (.int X)) (w:=u) (x:=v) B f J (by lia) λl sm=>q (n+1) M l (d4.thenSm sm) J (by lia) (by lia) tr;dsimp![fK,Yr]at T;exact T
def vm:∀ {H:List (Int×Int)} {lo x y:Int},Ris lo H->lo < x->(∀q∈H,q.2 < x)->x < y->Ris lo (H++[(x,y)])
 |[],lo,x,y,_,h1,_,h3=>⟨h1,h3,trivial⟩
 |q::H,lo,x,y,h,h1,h2,h3=>by
  rw[Ris]at h;exact{h.1,h.2.1,vm h.2.2 (h2 q Zj) (λr b=>h2 r (Zg _ b)) h3}
def mz:∀ {H:List (Int×Int)} {lo:Int} {q:Int×Int},Ris lo H->q∈H->lo < q.1/\q.1 < q.2
 |q'::H,lo,q,h,hq=>by
  rw[Ris]at h;rcases Zn.mp hq with rfl |hq
  .exact⟨h.1,h.2.1⟩
  .let:=mz h.2.2 hq
   lia
def vn:∀ {H:List (Int×Int)} {lo:Int},Ris lo H->∀ (i:Nat) q b,H[i]?=aw q->H[i+1]?=aw b->q.2 < b.1
 |q0::H,lo,h,0,q,b,e1,e2=>by
  rw[Ris]at h;cases e1;rw[YL]at e2;exact(mz h.2.2 (Zd e2)).1
 |q0::H,lo,h,i+1,q,b,e1,e2=>by
  rw[Ris]at h;rw[YL]at e1 e2;exact vn h.2.2 i q b e1 e2
structure MeOk(r s:Int)(M:List (List Int))(H:List (Int×Int)):Prop where
 r0:0<=r
 r8:r<=8
 s0:0<=s
 s60:s<=60
 mat:Dw.Mat M.length M
 m1:1<=M.length
 m4:M.length<=4
 tri:Dw.tX M.length M.length M
 ris:Ris (-1) H
 h4:H.length<=4
 hb:∀q∈H,q.2<=9999
def xI(h:Pot p S)(q:∀r s M H B,Dr p S B->MeOk r s M H->Q (.tup [.int r,.int s,.tup (M.map ag),.tup (H.map aj)]) B):Ok (evC ab (k+3) 49 [.ref p] S) Q:=by
 calc av (d:=fR) (ρ:=[aw (.ref p),aD,aD,aD,aD]) rfl rfl ?_;dsimp![fR,jI];let lt:=h.lt;k_is;let d0:Dr p S (S++[Ob.lst []]):=Dr.sm h (Sm.app _ _);let a0:(S++[Ob.lst []])[Zl S]?=aw (Ob.lst (([]:List (Int×Int)).map aj)):=aM;let E:Zl S≠p:=by lia
 generalize S++[Ob.lst []]=S0 at *;calc{rfl,aI d0.pot (by decide) (by decide) λi0 S1 i1 i2 d1=>?_};k_is
 obtain⟨fr,U,hf⟩:∃e:Int,atI [D.int 1,D.int 5] i0=aw (D.int e)/\0 < e/\e<=5:=by
  let:i0=0\/i0=1:=by lia
  rcases this with rfl |rfl
  .exact{1,rfl,by decide,by decide}
  .exact{5,rfl,by decide,by decide}
 calc{_,U,?_};calc{rfl,aI d1.pot hf.1 (by lia) λn0 S2 n1 n2 d2=>?_};k_is;obtain⟨n,rfl⟩:∃n:Nat,n0=(n:Int):={n0.toNat,by lia};calc{fU (by lia) (by lia),?_};rw[ZK];let X:=(d0.trans d1).trans d2;let a2:=(d1.trans d2).kp _ _ E a0;refine jK (by lia) (λi T B=>Dr p S B/\∃ (H:List (Int×Int)) (b:Int) (u v:Option D),T=[aw (.ref p),aw (.ref (Zl S)),aw (.int b),u,v]/\B[Zl S]?=aw (.lst (H.map aj))/\H.length=i/\Ris (-1) H/\(∀q∈H,q.2 < b)/\0<=b/\b<=60 * i) (λi T S3 hi ⟨l,H,b,u,v,er,hn,hl,hr,L,b0,b1⟩=>?_) (λT S3 ⟨l,H,b,u,v,er,hn,hl,hr,L,b0,b1⟩=>?_) {X,[],0,aD,aD,rfl,a2,rfl,trivial,λq hq=>by simp at hq,by decide,by decide}
 .subst er;calc{_,rfl,?_};k_is;calc{rfl,aI l.pot (by decide) (by decide) λx S4 x1 x2 f=>?_};k_is;let z:=f.kp _ _ E hn;calc{cV z,?_};calc{rfl,aI f.pot (by decide) (by decide) λy J y1 y2 c=>?_};k_is;let C:=c.kp _ _ E z;rw[jc C (by rw[Za];lia)];k_is;let lt5:Zl S < J.length:=(Zb.mp C).1;let f5:(J.set (Zl S) (Ob.lst (H.map aj++[D.tup [D.int (b+x),D.int (b+x+1+y)]])))[Zl S]?=aw (Ob.lst (H.map aj++[D.tup [D.int (b+x),D.int (b+x+1+y)]])):=eZ lt5;calc aa (mq f5) (aa (show ixS (D.tup [D.int (b+x),D.int (b+x+1+y)]) (.int 1) (J.set (Zl S) (Ob.lst (H.map aj++[D.tup [D.int (b+x),D.int (b+x+1+y)]])))=aw (.int (b+x+1+y),_) from rfl) ?_);k_is;calc{{((l.kp.trans f.kp).trans c.kp).setNew (Zf _),c.pot.setNe E},H++[(b+x,b+x+1+y)],_,_,_,rfl,by rw[f5,ZF];rfl,by rw[Ze,Zm];lia,vm hr (by lia) (λq hq=>by let:=L q hq;lia) (by lia),λq hq=>?_,by lia,by lia};rcases ZR.mp hq with hq |hq
  .let:=L q hq;lia
  .rw[ZG.mp hq];show b+x+1+y < b+x+1+y+1;lia
 .subst er;k_is;calc{rfl,aI l.pot (by decide) (by decide) λI S4 j3 k3 f=>?_};k_is
  obtain⟨r,O,h3⟩:∃e:Int,atI [D.int 8,D.int 1,D.int 2,D.int 3,D.int 0] I=aw (D.int e)/\0<=e/\e<=8:=by
   let:I=0\/I=1\/I=2\/I=3\/I=4:=by lia
   rcases this with rfl |rfl |rfl |rfl |rfl
   .exact{8,rfl,by decide,by decide}
   .exact{1,rfl,by decide,by decide}
   .exact{2,rfl,by decide,by decide}
   .exact{3,rfl,by decide,by decide}
   .exact{0,rfl,by decide,by decide}
  calc{_,O,?_};calc{rfl,aI f.pot (by decide) (by decide) λj J j5 k5 c=>?_};k_is
  obtain⟨s,at5,h5⟩:∃e:Int,atI [D.int 0,D.int 2,D.int 9,D.int 60] j=aw (D.int e)/\0<=e/\e<=60:=by
   let:j=0\/j=1\/j=2\/j=3:=by lia
   rcases this with rfl |rfl |rfl |rfl
   .exact{0,rfl,by decide,by decide}
   .exact{2,rfl,by decide,by decide}
   .exact{9,rfl,by decide,by decide}
   .exact{60,rfl,by decide,by decide}
  calc{_,at5,?_};calc{rfl,EB c.pot λm M Y d6 hM m1 m4 tr=>?_};let Z:=((f.trans c).trans d6).kp _ _ E hn;calc aa (show ak cO (.ref (Zl S)) Y=aw (.tup (H.map aj),Y) by simp![ak,ay,aB Z,ZL,cO]) ?_;k_is;obtain rfl:=hM.len;exact q r s M H Y (l.trans ((f.trans c).trans d6)) {h3.1,h3.2,h5.1,h5.2,hM,m1,m4,tr,hr,by lia,λq hq=>by let:=L q hq;lia}
end Lw
namespace Lw
open PySem Ev Sn L2
variable {p:Nat} {S d:Sto} {k:Nat} {Q:D->Sto->Prop} {K:Sky}
structure Gs(p N hi:Nat)(S:Sto)(es:List D)(G:List (List Int)):Prop where
 pN:p < N
 at_:S[N]?=aw (.lst es)
 len:es.length=G.length
 row:∀ (i:Nat) g,G[i]?=aw g->∃a,es[i]?=aw (D.ref a)/\N < a/\a < hi/\S[a]?=aw (.lst (g.map D.int))
 inj:∀ (i j a:Nat),es[i]?=aw (D.ref a)->es[j]?=aw (D.ref a)->i=j
section
variable {N hi H:Nat} {es:List D} {G:List (List Int)}
def Gs.keep(h:Gs p N hi S es G)(kp:Ev.Kp p S d):Gs p N hi d es G:=by
 let pN:=h.pN;calc{h.pN,kp _ _ (by lia) h.at_,h.len,λi g b=>?_,h.inj};let{a,e,c,n,z}:=h.row i g b;exact{a,e,c,n,kp _ _ (by lia) z}
def Gs.up(h:Gs p N hi S es G)(c:hi<=H):Gs p N H S es G:=by
 calc{h.pN,h.at_,h.len,λi g b=>?_,h.inj};let{a,e,n,f,z}:=h.row i g b;exact{a,e,n,by lia,z}
def Gs.other(h:Gs p N hi S es G){f:Nat}(j:hi<=f)(hN:N < hi):Gs p N hi (S.set f o) es G:=by
 calc{h.pN,by rw[Zx (by lia)];exact h.at_,h.len,λi g b=>?_,h.inj};let{a,e,n,c,z}:=h.row i g b;exact{a,e,n,c,by rw[Zx (by lia)];exact z}
def Gs.snoc(h:Gs p N S.length S es G):Gs p N (S.length+1) ((S++[Ob.lst (g.map D.int)]).set N (.lst (es++[D.ref S.length]))) (es++[D.ref S.length]) (G++[g]):=by
 let L:N < S.length:=(Zb.mp h.at_).1
 let O:∀ (i a:Nat),es[i]?=aw (D.ref a)->a < S.length:=λi a e=>by
  let hi:i < G.length:=by rw[<-h.len];exact(Zb.mp e).1
  let{b,E,u,q,_}:=h.row i G[i] (gEG hi);rw[e]at E;cases E;exact q
 refine{h.pN,by rw[eZ (by rw[Ze];lia)],by rw[Ze,Ze,h.len];rfl,λi v c=>?_,λi j a B E=>?_}
 .by_cases hi:i < G.length
  .rw[Zt hi]at c;let{a,e,u,q,z}:=h.row i v c;exact{a,by rw[Zt (by rw[h.len];exact hi)];exact e,u,by lia,by rw[Zx (by lia),Zt q];exact z}
  .let l:=(Zb.mp c).1;rw[Ze,Zm]at l;obtain rfl:i=G.length:=by lia
   rw[Zp (Zf _),ZY]at c;cases c;exact{S.length,by rw[Zp (by rw[h.len];lia),h.len,ZY];rfl,L,by lia,by rw[Zx (by lia),aM]}
 .let f:∀ (i:Nat),(es++[D.ref S.length])[i]?=aw (D.ref a)->(i < es.length/\es[i]?=aw (D.ref a))\/(i=es.length/\a=S.length):=λi e=>by
   by_cases hi:i < es.length
   .rw[Zt hi]at e;exact .inl ⟨hi,e⟩
   .let l:=(Zb.mp e).1;rw[Ze,Zm]at l;obtain rfl:i=es.length:=by lia
    rw[Zp (Zf _),ZY]at e;cases e;exact .inr ⟨rfl,rfl⟩
  rcases f i B with ⟨y,n⟩ |⟨y,n⟩ <;> rcases f j E with ⟨C,Z⟩ |⟨C,Z⟩
  .exact h.inj i j a n Z
  .let:=O i a n;lia
  .let:=O j a Z;lia
  .lia
def Gs.setRow(h:Gs p N hi S es G){i a:Nat}(H:i < G.length)(E:es[i]?=aw (D.ref a)):Gs p N hi (S.set a (.lst (g.map D.int))) es (G.set i g):=by
 let{b,q,y,C,B}:=h.row i G[i] (gEG H);rw[E]at q;cases q;let L:=(Zb.mp B).1;calc{h.pN,by rw[Zx (by lia)];exact h.at_,by rw[Yb];exact h.len,λj u f=>?_,h.inj};by_cases n:j=i
 .subst n;rw[ZV H]at f;cases f;exact{a,E,y,C,eZ L}
 .rw[Zx (Ne.symm n)]at f;let{c,l,m1,v,Z}:=h.row j u f;let:c≠a:=λz=>n (by rw[z]at l;exact h.inj j i a l E);exact{c,l,m1,v,by rw[Zx (Ne.symm this)];exact Z}
end
abbrev GX(x:Int)(n:Nat)(r s:Int)(g:List Int):Prop:=∃b j f l q c h:Int,g=[b,j,f,l,q,c,h]/\0<=b/\b < n/\0<=j/\j+s<=f/\f<=l/\l<=x/\0<=q/\q<=x/\0<=c/\c<=99/\0<=h/\h<=r
def GX.up{x y:Int}{n:Nat}{r s:Int}(h:GX x n r s g)(v:x<=y):GX y n r s g:=by
 let{b,j,f,l,u,c,q,e,z}:=h;exact{b,j,f,l,u,c,q,e,by omega}
abbrev GB(n:Nat)(r s:Int)(g:List Int):Prop:=GX 530 n r s g
structure SkOk(K:Sky):Prop where
 me:MeOk K.r K.s K.M K.H
 g7:K.G.length<=7
 gb:∀g∈K.G,GX 9999 K.M.length K.r K.s g
 nd:K.F.Nodup
 bd:∀x∈K.F,0<=x/\x < K.G.length
 rg:∀ (j:Nat) g,K.G[j]?=aw g->g.getD 6 0=0\/(j:Int)∈K.F
 ah:∀q,K.ah=aw q->0<=q.1/\q.1 < K.M.length/\0<=q.2/\q.2<=9999
def SkOk.vd(h:SkOk K):Vd K:=by
 calc{h.me.r0,h.me.r8,h.me.s0,h.me.s60,h.me.m1,h.me.m4,h.me.mat.row,h.me.ris,h.me.h4,λq e=>{(h.ah q e).1,(h.ah q e).2.1},h.g7,λg c=>?_};let{l,J,f,L,y,n,u,rfl,b,j,v,h4,_}:=h.gb g c;let:=h.me.s0;calc{rfl,b,j,?_};show 0<=f
 lia
abbrev kK(K:Sky):List Int:=((Zi K.G.length).filter λ(j:Nat)=>!decide ((j:Int)∈K.F)).map λ(j:Nat)=>(j:Int)
def sO(x:Int):x∈kK K ↔ (0<=x/\x < K.G.length/\x∉K.F):=by
 delta kK;rw[Zz];constructor
 .rintro⟨j,c,rfl⟩;let{b,h}:=ZM.mp c;let:=ZQ.mp b;simp at h;exact{by lia,by lia,h}
 .rintro⟨f,b,h⟩;calc⟨x.toNat,ZM.mpr ⟨ZQ.mpr (by lia),?_⟩,by lia⟩;let:((x.toNat:Nat):Int)=x:=by lia
  rw[this];simp[h]
def sP:(kK K).Nodup:=by
 delta kK;refine YU.mpr ((Y5.sublist Y7).imp λh z=>h (by lia))
def EC(h:SkOk K)(pm:l.Perm (kK K)):Ord K (K.F++l):=by
 let f:=sO (K:=K);let no:=sP (K:=K);let v:l.Nodup:=pm.nodup_iff.mpr no
 let nd:(K.F++l).Nodup:=Ye.mpr ⟨h.nd,v,λa u b hb e=>by
  let:=((f b).mp (pm.mem_iff.mp hb)).2.2;exact this (e▸u)⟩
 let bd:∀g∈K.F++l,0<=g/\g < K.G.length:=λg hg=>by
  rcases ZR.mp hg with hg |hg
  .exact h.bd g hg
  .let:=(f g).mp (pm.mem_iff.mp hg);exact⟨this.1,this.2.1⟩
 let y:((Zi K.G.length).map λi=>Int.ofNat i).Nodup:=YU.mpr (Y5.imp λh z=>h (Int.ofNat.inj z))
 let pr:(K.F++l).Perm ((Zi K.G.length).map λi=>Int.ofNat i):=(YY nd y).mpr λx=>by
  constructor
  .intro c;let:=bd x c;exact Zz.mpr {x.toNat,ZQ.mpr (by lia),by show((x.toNat:Nat):Int)=x;lia}
  .intro c;let{j,q,rfl}:=Zz.mp c;let q:=ZQ.mp q;by_cases n:Int.ofNat j∈K.F
   .exact ZW _ n
   .refine ZB _ (pm.mem_iff.mpr ((f _).mpr {?_,?_,n}))
    .show 0<=(j:Int);lia
    .show(j:Int) < K.G.length;lia
 let:=pr.length_eq;rw[Za,ZC]at this;exact⟨nd,bd,this,⟨l,rfl⟩,pr⟩
end Lw
namespace Lw
open PySem Ev Sn
variable {K:Sky}
structure KAt(K:Sky)(L:List (Int×Int))(j:Nat)(z:Int×Int):Prop where
 lo:gi K.G z.1 2<=z.2
 hi:z.2<=gi K.G z.1 3
 op:opm K.H z.2=z.2
 gap:∀a,aq K (L.take j)=aw a->a.2+gp K a.1 (gi K.G z.1 0)<=z.2
 wt:(wts K L (jn K z.1):Int)<=K.r
 rg:cz K (L.take j) z.1 z.2=aS
abbrev pU(K:Sky)(L:List (Int×Int)):Prop:=∀ (j:Nat) z,L[j]?=aw z->KAt K L j z
def sQ:∀ (l:List (Int×Int)) (m:Int),m<=opm l m
 |[],_=>ZU _
 |p::l,m=>by
  rw[opm];calc Wu ?_ (sQ l _);split
  .lia
  .exact ZU _
def oY:∀ {l:List (Int×Int)} {lo x y:Int},Ris lo l->x<=y->opm l x<=opm l y
 |[],_,_,_,_,h=>h
 |p::l,lo,x,y,h,hxy=>by
  rw[Ris]at h;rw[opm,opm];by_cases b:p.1<=x/\x < p.2
  .rw[if_pos b];calc oY h.2.2 ?_;split
   .exact ZU _
   .lia
  .rw[if_neg b];calc oY h.2.2 ?_;split
   .lia
   .exact hxy
def vq:∀ {l:List (Int×Int)} {lo x:Int},Ris lo l->opm l (opm l x)=opm l x
 |[],_,_,_=>rfl
 |p::l,lo,x,h=>by
  rw[Ris]at h;by_cases b:p.1<=x/\x < p.2
  .let e:opm (p::l) x=p.2:=by rw[opm,if_pos b];exact jN h.2.2 (ZU _)
   rw[e,opm,if_neg (by lia)];exact jN h.2.2 (ZU _)
  .let e:opm (p::l) x=opm l x:=by rw[opm,if_neg b]
   rw[e,opm];by_cases c:x < p.1
   .let:opm l x=x:=jN h.2.2 (by lia);rw[this,if_neg b];exact this
   .let:=sQ l x;rw[if_neg (by lia)];exact vq h.2.2
inductive Low:List (Int×Int)->List (Int×Int)->Prop
 |nil:Low [] []
 |cons {p q:Int×Int} {P A:List (Int×Int)}:p.1=q.1->p.2<=q.2->Low P A->Low (p::P) (q::A)
def Low.len(h:Low P A):P.length=A.length:=by
 induction h with
 |nil=>rfl
 |cons _ _ _ I=>rw[Zo,Zo,I]
def Low.fst(h:Low P A):P.map (λp=>jn K p.1)=A.map λp=>jn K p.1:=by
 induction h with
 |nil=>rfl
 |cons e _ _ I=>rw[Zy,Zy,I,e]
def Low.snoc(h:Low P A)(b:p.1=q.1)(c:p.2<=q.2):Low (P++[p]) (A++[q]):=by
 induction h with
 |nil=>exact .cons b c .nil
 |cons e l _ I=>exact .cons e l I
def Low.wts{t:Int}(h:Low P A):wts K P t<=wts K A t:=by
 delta Sn.wts
 induction h with
 |nil=>exact Zf _
 |@cons p q P A e l _ ih=>
  rw[ZZ,ZZ];by_cases b:aC K t p=aN
  .let:aC K t q=aN:=by
    simp![aC,bAE,decide_eq_true_eq]at b ⊢;rw[<-e]
    lia
   rw[if_pos b,if_pos this,Zo,Zo]
   lia
  .rw[if_neg b];split
   .rw[Zo];lia
   .exact ih
def Low.last(h:Low P A):∀a,aq K P=aw a->∃b,aq K A=aw b/\a.1=b.1/\a.2<=b.2:=by
 let k:∀ {P A},Low P A->(P.getLast?=aD/\A.getLast?=aD)\/∃p q,P.getLast?=aw p/\A.getLast?=aw q/\p.1=q.1/\p.2<=q.2:=by
  intro P A h
  induction h with
  |nil=>exact .inl ⟨rfl,rfl⟩
  |@cons p q P A e l _ ih=>
   right;rcases ih with ⟨c,d⟩ |⟨n,Q,c,d,j⟩
   .rw[List.getLast?_eq_none_iff]at c d;subst c d;exact⟨p,q,rfl,rfl,e,l⟩
   .refine{n,Q,?_,?_,j}
    .rw[Xd,c];rfl
    .rw[Xd,d];rfl
 intro a f;delta aq at f ⊢;rcases k h with ⟨c,d⟩ |⟨p,q,c,d,j,h4⟩
 .rw[c]at f;rw[d];exact{a,f,rfl,ZU _}
 .rw[c]at f;rw[d];cases f;exact{_,rfl,by rw[j],h4}
def y7(h:∀x∈A,∃y∈B,x<=y)(d:∀y∈B,0<=y):pK 0 A<=pK 0 B:=by
 cases A with
 |nil=>
  show 0<=pK 0 B;cases B with
  |nil=>exact ZU _
  |cons b B=>
   rw[jO (by simp)];exact d _ (y3 (by simp))
 |cons a A=>
  let{y,c,_}:=h a Zj;let:B≠[]:=λz=>by rw[z]at c;simp at c
  rw[jO (by simp),jO this];exact xF (by simp) h
def A0{g m m':Int}(h:Low P A)(k:m<=m'):gU K P g m<=gU K A g m':=by
 delta gU;refine y7 (λx d=>?_) λy f=>?_
 .let{t,b,rfl}:=Zz.mp d;calc{1+(wts K A t:Int),Zz.mpr {t,?_,rfl},by let:=h.wts (K:=K) (t:=t);lia};delta dg at b ⊢;let{c,j}:=ZM.mp b;rw[h.fst]at c;calc ZM.mpr {c,?_};simp![bAE,decide_eq_true_eq]at j ⊢
  lia
 .let{t,_,rfl}:=Zz.mp f
  lia
def A6{g m c:Int}(h:Low P A)(d:m<=c)(b:cz K A g c=aS):cz K P g m=aS:=by
 let:=A0 (K:=K) (g:=g) h d;delta cz at b ⊢;cases f:decide (0 < gi K.G g 6) with
 |false=>rfl
 |true=>
  rw[f,YR]at b;rw[YR];let:=of_decide_eq_false b;exact decide_eq_false (by lia)
def Lp:∀ {l:List Int} {k:Nat} {j t:Int},l.Pairwise (·<=·)->l[k]?=aw j->t < j->(l.filter λx=>decide (x<=t)).length<=k
 |[],_,_,_,_,h,_=>by cases h
 |a::l,0,j,t,hp,h,ht=>by
  cases h
  let:(a::l).filter (λx=>decide (x<=t))=[]:=Xj.mpr λx hx=>by
   rw[decide_eq_true_eq];rcases Zn.mp hx with rfl |hx
   .lia
   .let:=(Z7.mp hp).1 x hx
    lia
  rw[this];exact Zf _
 |a::l,k+1,j,t,hp,h,ht=>by
  let I:=Lp (k:=k) (Z7.mp hp).2 h ht;rw[ZZ];split
  .rw[Zo];lia
  .lia
def ED:∀ {l:List Int} {k:Nat} {j t:Int},l.Pairwise (·<=·)->l[k]?=aw j->j<=t->k+1<=(l.filter λx=>decide (x<=t)).length
 |[],_,_,_,_,h,_=>by cases h
 |a::l,0,j,t,hp,h,ht=>by
  cases h;rw[ZZ,if_pos (decide_eq_true ht),Zo]
  lia
 |a::l,k+1,j,t,hp,h,ht=>by
  let I:=ED (k:=k) (Z7.mp hp).2 h ht;let:a<=j:=(Z7.mp hp).1 j (Zd h);rw[ZZ,if_pos (decide_eq_true (by lia)),Zo]
  lia
abbrev cj(K:Sky)(L:List (Int×Int))(t:Int):Nat:=(L.filter λp=>decide (jn K p.1<=t)).length
def y8{os:List Int}{L:List (Int×Int)}(b:Ord K os)(c:L.map (·.1)=os):(js K).Perm (L.map λp=>jn K p.1):=by
 let d:(L.map λp=>jn K p.1)=os.map (jn K):=by rw[<-c,ZS];rfl
 let E:(((Zi K.G.length).map λi=>Int.ofNat i).map (jn K))=K.G.map λg=>g.getD 1 0:=by
  rw[ZS];apply List.ext_getElem
  .simp
  .intro i f h;simp![Za]at h;simp![WD,Wn,Function.comp_apply,jn,gi];show((K.G[i]?).getD []).getD 1 0=_;rw[gEG h];rfl
 rw[d];calc(cE _).trans ?_;rw[<-E];exact(b.pm.map (jn K)).symm
def Lq{os:List Int}{L:List (Int×Int)}{t:Int}(b:Ord K os)(h:L.map (·.1)=os):((js K).filter λx=>decide (x<=t)).length=cj K L t:=by
 rw[((y8 b h).filter _).length_eq,Xc,Za];rfl
def EF{t:Int}:cj K (A++B) t=cj K A t+cj K B t:=by delta cj;rw[Xe,Ze]
def y9{t:Int}:wts K (A++B) t=wts K A t+wts K B t:=by delta Sn.wts;rw[Xe,Ze]
def QF{t:Int}:wts K B t<=cj K B t:=mv λp _ h=>by
 simp![aC,bAE]at h;exact h.1
def QG{t:Int}(h:∀p∈B,t < p.2 - K.s):cj K B t<=wts K B t:=mv λp c b=>by
 simp![aC,bAE];exact{b,decide_eq_true (h p c)}
def Uf(h:SkOk K)(a b:Int):0<=gp K a b:=by
 delta gp Dw.mg2;cases e:K.M[a.toNat]? with
 |none=>simp
 |some r=>
  rw[ZX];cases E:r[b.toNat]? with
  |none=>simp[E]
  |some x=>
   let:=h.me.mat.ent r (Zd e) x (Zd E);simp[E]
   lia
def oZ{b:Type}{A B:List b}{z:b}:(A++z::B)[A.length]?=aw z:=by rw[Zp (Zf _),ZY];rfl
def gW{b:Type}{A B:List b}:(A++B).take A.length=A:=WL
def cY{b:Type}{A B:List b}{z:b}:A++z::B=A++[z]++B:=by rw[Yk];rfl
def Ug(h:SkOk K):∀ (B A:List (Int×Int)) (z:Int×Int),pU K (A++z::B)->∀p∈B,z.2<=p.2
 |[],_,_,_=>λp hp=>by cases hp
 |y::B,A,z,kp=>by
  let e:=cY (A:=A) (B:=y::B) (z:=z);let k:=kp (A++[z]).length y (by rw[e];exact oZ);rw[e]at kp;let c:=k.gap (gi K.G z.1 0,z.2) (by rw[e,gW,aU]);let:=Uf h (gi K.G z.1 0) (gi K.G y.1 0);intro p hp
  let b:z.2<=y.2:=by
   let:z.2+gp K (gi K.G z.1 0) (gi K.G y.1 0)<=y.2:=c
   lia
  rcases Zn.mp hp with rfl |hp
  .exact b
  .exact Wu b (Ug h B (A++[z]) y kp p hp)
def JC(h:SkOk K){os:List Int}(c:Ord K os){A B:List (Int×Int)}{z:Int×Int}{m:Int}(f:(A++z::B).map (·.1)=os)(kp:pU K (A++z::B))(u:m<=z.2):lZ K A.length m=aS:=by
 delta lZ;let r0:=h.me.r0;cases d:(js K)[(K.r+(A.length:Int)).toNat]? with
 |none=>rfl
 |some j=>
  calc decide_eq_false λn=>?_;let C:=ED (dj _) d (ZU j);rw[show(gw (K.G.map λg=>g.getD 1 0))=js K from rfl,Lq c f,EF]at C;let y:cj K A j<=A.length:=YB _ _;let l:=Ug h B A z kp
  let v:cj K (z::B) j<=wts K (z::B) j:=QG λp hp=>by
   rcases Zn.mp hp with rfl |hp
   .lia
   .let:=l p hp;lia
  let E:wts K (A++z::B) j=wts K A j+wts K (z::B) j:=y9;let b:j∈(A++z::B).map λp=>jn K p.1:=(y8 c f).mem_iff.mp (Zd d);let{q,k,rfl}:=Zz.mp b;let{i,hi}:=YF k;let:=(kp i q hi).wt
  lia
def EG{j:Nat}(hl:Low P A)(kz:KAt K L j z)(c:L.take j=A):be K (aq K P) z.1<=z.2:=by
 delta be;cases h:aq K P with
 |none=>exact kz.lo
 |some a=>
  let{b,hb,E,d}:=hl.last a h;let:=kz.gap b (by rw[c];exact hb);let:=kz.lo;dsimp!;rw[E];split <;> lia
def vt(h:SkOk K){os:List Int}(b:Ord K os):∀ (B A P:List (Int×Int)),(A++B).map (·.1)=os->pU K (A++B)->Low P A->∃R,rn K (B.map (·.1)) (aq K P) P = .inr R/\Low R (A++B)
 |[],A,P,_,_,hl=>{P,rfl,by rw[Z8];exact hl}
 |z::B,A,P,hL,kp,hl=>by
  let kz:=kp A.length z oZ;let fr:=EG hl kz gW
  let m1:opm K.H (be K (aq K P) z.1)<=z.2:=by
   let:=oY h.me.ris fr;rw[kz.op]at this;exact this
  let hs:Sn.step K (aq K P) z.1 P.length=aw (opm K.H (be K (aq K P) z.1)):=by
   delta Sn.step;let:=kz.hi;rw[hl.len,JC h b hL kp m1,decide_eq_false (show ¬ gi K.G z.1 3 < opm K.H (be K (aq K P) z.1) by lia)];rfl
  let c:cz K P z.1 (opm K.H (be K (aq K P) z.1))=aS:=A6 hl m1 (by let:=kz.rg;rw[gW]at this;exact this);let e:=cY (A:=A) (B:=B) (z:=z);let{R,E,d}:=vt h b B (A++[z]) (P++[(z.1,opm K.H (be K (aq K P) z.1))]) (by rw[<-e];exact hL) (by rw[<-e];exact kp) (hl.snoc rfl m1);calc{R,?_,by rw[e];exact d};rw[Zy,rn,hs];dsimp!;rw[c,if_neg Zh];rw[aU]at E;exact E
def vA:∀ (os:List Int) (P R:List (Int×Int)),rn K os (aq K P) P = .inr R->(∃T,R=P++T/\T.map (·.1)=os)/\∀ (j:Nat) z,P.length<=j->R[j]?=aw z->Sn.step K (aq K (R.take j)) z.1 j=aw z.2/\cz K (R.take j) z.1 z.2=aS
 |[],P,R,h=>by
  cases h;exact{{[],by simp,rfl},λj z f b=>by rw[Zw f]at b;cases b}
 |g::os,P,R,h=>by
  rw[rn]at h;cases hs:Sn.step K (aq K P) g P.length with
  |none=>rw[hs]at h;cases h
  |some m=>
   rw[hs]at h;dsimp! at h;cases d:cz K P g m with
   |true=>rw[d,if_pos rfl]at h;cases h
   |false=>
    rw[d,if_neg Zh]at h;let{⟨T,e,E⟩,I}:=vA os (P++[(g,m)]) R (by rw[aU];exact h);calc{{(g,m)::T,by rw[e,<-cY],by rw[Zy,E]},λj z f b=>?_};by_cases c:j=P.length
    .subst c;rw[e,<-cY,oZ]at b;cases b;rw[e,<-cY,gW];exact⟨hs,d⟩
    .exact I j z (by rw[Ze,Zm];lia) b
def vB(f:Int×Int->Bool):∀ (R:List (Int×Int)),∃A B,R=A++B/\(∀p∈A,f p=aN)/\(B=[]\/∃y d,B=y::d/\f y=aS)
 |[]=>{[],[],rfl,λp hp=>(by cases hp),.inl rfl}
 |z::R=>by
  cases h:f z with
  |false=>exact{[],z::R,rfl,λp hp=>(by cases hp),.inr ⟨z,R,rfl,h⟩}
  |true=>
   let{A,B,e,b,c}:=vB f R;calc{z::A,B,by rw[e];rfl,λp hp=>?_,c};rcases Zn.mp hp with rfl |hp
   .exact h
   .exact b p hp
def rB(h:SkOk K){g:Int}(n:0<=g)(d:g < K.G.length):jn K g+K.s<=gi K.G g 2:=by
 let hi:g.toNat < K.G.length:=by lia
 let{k,jo,fi,l,p,f,j,E,hb}:=h.gb K.G[g.toNat] (ZT hi);let c:jn K g=jo:=by delta jn gi;rw[gEG hi,E];rfl
 let b:gi K.G g 2=fi:=by delta gi;rw[gEG hi,E];rfl
 rw[c,b];lia
def sR{g m:Int}{j:Nat}(h:Sn.step K a g j=aw m):m=opm K.H (be K a g)/\m<=gi K.G g 3/\lZ K j m=aS:=by
 delta Sn.step at h;split at h
 .cases h
 .rename_i b;cases h;rw[Xb,decide_eq_true_eq]at b
  exact⟨rfl,by lia,by
   cases e:lZ K j (opm K.H (be K a g)) with
   |false=>rfl
   | true=>exact absurd (.inr e) b⟩
def vC(a:Option (Int×Int))(g:Int):gi K.G g 2<=be K a g/\∀q,a=aw q->q.2+gp K q.1 (gi K.G g 0)<=be K a g:=by
 delta be;cases a with
 |none=>exact{ZU _,λq e=>by cases e}
 |some q=>
  dsimp!;refine{by split <;> lia,λQ e=>?_};cases e;split <;> lia
def JD(h:SkOk K){os:List Int}(l:Ord K os){R:List (Int×Int)}(I:rn K os K.ah [] = .inr R):R.map (·.1)=os/\pU K R:=by
 let{⟨T,e,E⟩,st}:=vA os [] R I;rw[XZ]at e;subst e;let s0:=h.me.s0;let r0:=h.me.r0
 let L:∀ (j:Nat) z,R[j]?=aw z->gi K.G z.1 2<=z.2:=λj z d=>by
  let{u,_}:=sR (st j z (Z2 _) d).1;let:=(vC (K:=K) (aq K (R.take j)) z.1).1;let:=sQ K.H (be K (aq K (R.take j)) z.1)
  lia
 let bd:∀p∈R,0<=p.1/\p.1 < K.G.length:=λp c=>l.bd p.1 (by rw[<-E];exact Zz.mpr ⟨p,c,rfl⟩);let ln:R.length=K.G.length:=by rw[<-l.ln,<-E,Za]
 calc{E,λj z d=>?_};let{hs,X}:=st j z (Z2 _) d;let{u,O,_}:=sR hs;let v:=vC (K:=K) (aq K (R.take j)) z.1;let Z:=sQ K.H (be K (aq K (R.take j)) z.1);calc{L j z d,O,by rw[u];exact vq h.me.ris,λa J=>by let:=v.2 a J;lia,?_,X};generalize jn K z.1=t;let{A,B,f,q,C}:=vB (λp=>decide (p.2 - K.s<=t)) R
 let wA:wts K A t=0:=by
  delta Sn.wts;rw[Z1,Xj];intro p c;let:=of_decide_eq_true (q p c);simp![aC,bAE,decide_eq_true_eq]
  lia
 rw[f,y9,wA,YE];rcases C with rfl |⟨y,B',rfl,hy⟩
 .exact r0
 .let Q:¬ y.2 - K.s<=t:=of_decide_eq_false hy;let Y:R[A.length]?=aw y:=by rw[f];exact oZ
  let{_,_,k}:=sR (st A.length y (Z2 _) Y).1
  let U:cj K A t=A.length:=by
   delta cj
   congr 1
   calc XB.mpr λp c=>decide_eq_true ?_;let b:p∈R:=by rw[f];exact ZW _ c
   let{i,hi}:=YF b;let:=L i p hi;let:=rB h (bd p b).1 (bd p b).2;let:=of_decide_eq_true (q p c)
   lia
  let cR:cj K R t=A.length+cj K (y::B') t:=by rw[f,EF,U]
  let le:cj K R t<=(K.r+(A.length:Int)).toNat:=by
   delta lZ at k;cases n:(js K)[(K.r+(A.length:Int)).toNat]? with
   |none=>
    let:=Z3.mp n;rw[Er]at this;let:=YB (λp:Int×Int=>decide (jn K p.1<=t)) R;let:cj K R t<=R.length:=this
    lia
   |some x=>
    rw[n]at k;let:=of_decide_eq_false k;rw[<-Lq l E];exact Lp (dj _) n (by lia)
  let:=QF (K:=K) (B:=y::B') (t:=t)
  lia
end Lw
namespace Lw
open PySem Ev Sn L2
variable {p:Nat} {S s:Sto} {k:Nat} {Q:D->Sto->Prop} {K:Sky}
def bx{b:Type}{l:List b}{E:b->D}{S:Sto}:ak dh (.tup (l.map E)) S=aw (.int l.length,S):=by simp![ak,ay,dh,Za]
def xJ{b:Type}{l:List b}:l.all (λ_=>aN)=aN:=Yc.mpr λ_ _=>rfl
def xK{f:Type}(l:List f)(E:f->D)(hl:l.length<=1000)(h:∀i s,Sm S s->nx i s=aw ((l[i]?).map E))
  (step:∀ (i:Nat) a s,l[i]?=aw a->Sm S s->∃b,aA T (E a) u=aw b/\Ok (c b s) λd n=>d=[.bl aN]/\Sm s n) (q:∀s,Sm S s->Q (.bl aN) s) :
  Ok (bC nx T c u LF 0 S) λd j=>d.length<=100000/\Ok (lY aS d j) Q:=by
 calc a9 l E (λ_=>[.bl aN]) hl (λ_ _=>Zf _) h step λs v=>?_;rw[bp];calc aa (mj l (λ_=>aN) s) ?_;rw[xJ];exact q s v
def xL{i a b:Int}(c:a<=i)(h:i<=b)(q:Q (.bl aN) S):Ok (evC ab (k+2) 1 [.int i,.int a,.int b] S) Q:=qR (p:=0) bK (by
 rw[show Dw.iM (.int i) a b=aN by simp![Dw.iM,decide_eq_true c,decide_eq_true h,Wh]];exact q)
def JE{i:Int}(b:0<=i)(h:i<=9999)(q:Q (.bl aN) S):Ok (evC ab (k+3) 2 [.int i] S) Q:=AV (p:=0) bK (by
 rw[show Dw.iM (.int i) 0 9999=aN by simp![Dw.iM,decide_eq_true b,decide_eq_true h,Wh]];exact q)
def pV{a b:Int}(h:TDs 0 S ts f)(d:a<=ts.length)(c:(ts.length:Int)<=b)(q:Q (.bl aN) S):Ok (evC ab (k+1) 3 [.tup f,.int a,.int b] S) Q:=Em (bL h) (by
 rw[show Dw.isT (.tup ts) a b=aN by simp![Dw.isT,decide_eq_true d,decide_eq_true c,Wh]];exact q)
def mB:(Dw.iO M).length=M.length:=by delta Dw.iO;rw[Za]
def Uh{n:Nat}(hl:r.length=n)(c:n<=4)(b:∀x∈r,1<=x/\x<=99)(q:∀s,Sm S s->Q (.bl aN) s):Ok (evC ab (k+3) 9 [ag r,.int n] S) Q:=by
 calc av (d:=fN) (ρ:=[aw (ag r),aw (.int n)]) rfl rfl ?_;dsimp![fN,jF];rw[show ag r = .tup (r.map D.int) from rfl];k_is;calc{rfl,pV (ij r) (by rw[Za];lia) (by rw[Za];lia) ?_};k_is;calc xK r D.int (by lia) bN (λi x s h sm=>{_,rfl,?_}) q;k_is;let:=b x (Zd h);exact{rfl,xL this.1 this.2 {rfl,Sm.refl _}}
def EH{es:List D}(h:∀e∈es,e = .bl aN)(S:Sto):lY aS es S=aw (.bl aN,S):=by
 let e:es.map (λ_=>D.bl aN)=es:=by
  conv=>rhs;rw[<-List.map_id es]
  exact Ym λx b=>(h x b).symm
 rw[<-e];exact(mj es (λ_=>aN) S).trans (by rw[xJ])
def Ui(y:SkOk K)(q:∀s,Sm S s->Q (.bl aN) s):Ok (evC ab (k+1) 10 [.tup (K.M.map ag)] S) Q:=by
 calc av (d:=bu) (ρ:=[aw (.tup (K.M.map ag)),aD]) rfl rfl ?_;dsimp![bu,bT];let V:=y.vd;let m4:=y.me.m4;k_is;calc aa bx ?_;calc{_,rfl,by lia,?_};k_is;let v:(S++[Ob.lst ((Zi K.M.length).map λj=>D.int (Int.ofNat j))])[S.length]?=aw (.lst ((Zi K.M.length).map λj=>D.int (Int.ofNat j))):=aM;let z:∀s,Sm (S++[Ob.lst ((Zi K.M.length).map λj=>D.int (Int.ofNat j))]) s->(aR s S.length).isSome=aN:=λs sm=>by rw[aB (sm _ _ v)];rfl
 calc{z _ (Sm.refl _),?_};refine(xt v (by lia) (λa=>(Zi K.M.length).flatMap λb=>(Zi K.M.length).flatMap λc=>[.bl aN]) λa S1 J h=>{_,rfl,?_}).mono λes U ⟨E,sm⟩=>?_
 .k_is;calc{z _ h,?_};calc xt (h _ _ v) (by lia) _ λb U hb u=>{_,rfl,?_};k_is;calc{z _ (h.trans u),?_};calc xt (u _ _ (h _ _ v)) (by lia) _ λc B L Y=>{_,rfl,?_};k_is;let{r1,e1,T}:=oU (S:=B) V (a:=a) (b:=b) (by lia) (by lia) (by lia) (by lia);let{r2,O,I}:=oU (S:=B) V (a:=a) (b:=c) (by lia) (by lia) (by lia) (by lia);let{r3,Z,X}:=oU (S:=B) V (a:=c) (b:=b) (by lia) (by lia) (by lia) (by lia);calc aa e1 (aa T (aa O (aa I (aa Z (aa X ?_)))));k_is;calc{?_,Sm.refl _};let t:=y.me.tri a b c J hb L;rw[decide_eq_true (show gp K a b<=gp K a c+gp K c b from t)]
 .subst E
  let all:∀e∈(Zi K.M.length).flatMap λa=>(Zi K.M.length).flatMap λb=>(Zi K.M.length).flatMap λc=>[D.bl aN],e = .bl aN:=λe l=>by
   let{a,_,l}:=Yj.mp l;let{b,_,l}:=Yj.mp l;let{c,_,l}:=Yj.mp l;exact ZG.mp l
  calc{?_,aa (EH all _) (q _ ((Sm.app S _).trans sm))};let f3:∀a b:Nat,((Zi K.M.length).flatMap λc=>[D.bl aN]).length<=4:=λ_ _=>by rw[bp (Zi K.M.length) (λ_=>D.bl aN),Za,ZC];exact m4
  let C:∀a:Nat,((Zi K.M.length).flatMap λb=>(Zi K.M.length).flatMap λc=>[D.bl aN]).length<=K.M.length * 4:=λa=>Dw.yf λb _=>f3 a b;let f1:=Dw.yf (n:=K.M.length) (m:=K.M.length * 4) (f:=λa=>(Zi K.M.length).flatMap λb=>(Zi K.M.length).flatMap λc=>[D.bl aN]) λa _=>C a;let:K.M.length * (K.M.length * 4)<=4 * (4 * 4):=WM m4 (WM m4 (Zf _))
  lia
def QH(b:SkOk K)(q:∀s,Sm S s->Q (.bl aN) s):Ok (evC ab (k+4) 8 [.tup (K.M.map ag)] S) Q:=by
 calc av (d:=iW) (ρ:=[aw (.tup (K.M.map ag))]) rfl rfl ?_;dsimp![iW,ow];let m1:=b.me.m1;let m4:=b.me.m4;k_is;calc{rfl,pV (e8 K.M) (by rw[mB];lia) (by rw[mB];lia) ?_};k_is;refine xK K.M ag (by lia) bN (λi r s j sm=>{_,rfl,?_}) λs sm=>?_
 .k_is;calc aa bx ?_;let h:=Zd j;exact{rfl,Uh (b.me.mat.row r h) m4 (b.me.mat.ent r h) λf c=>⟨rfl,c⟩}
 .k_is;exact{rfl,Ui b λf c=>q f (sm.trans c)}
def A7(f:0<=z.1)(h:z.1 < z.2)(c:z.2<=9999)(q:Q (.bl aN) S):Ok (evC ab (k+4) 12 [aj z] S) Q:=by
 calc av (d:=fO) (ρ:=[aw (aj z)]) rfl rfl ?_;dsimp![fO,jG];rw[show aj z = .tup [.int z.1,.int z.2] from rfl];let b:ixS (.tup [D.int z.1,.int z.2]) (.int 0) S=aw (.int z.1,S):=rfl;let X:ixS (.tup [D.int z.1,.int z.2]) (.int 1) S=aw (.int z.2,S):=rfl;k_is;calc{rfl,pV (au bK (au bK bP)) (ZU _) (ZU _) ?_};k_is;calc aa b {rfl,JE f (by lia) ?_};k_is;calc aa X {rfl,JE (by lia) c ?_};k_is;calc aa b (aa X ?_);k_is;rw[decide_eq_true h];exact q
def JF(f:SkOk K)(q:∀s,Sm S s->Q (.bl aN) s):Ok (evC ab (k+5) 11 [.tup (K.H.map aj)] S) Q:=by
 calc av (d:=gH) (ρ:=[aw (.tup (K.H.map aj))]) rfl rfl ?_;dsimp![gH,lh];let h4:=f.me.h4;k_is;calc{rfl,pV (gR K.H) (by rw[Za];lia) (by rw[Za];lia) ?_};k_is;refine xK K.H aj (by lia) bN (λi z s j sm=>{_,rfl,?_}) λs sm=>?_
 .k_is;let a:=mz f.me.ris (Zd j);exact{rfl,A7 (by lia) a.2 (f.me.hb z (Zd j)) {rfl,Sm.refl _}}
 .k_is;calc aa bx ?_;k_is;calc{{by decide,fU (by lia) (by lia)},?_};refine HG (by lia) (λ_=>aN) (λi b hi c=>{_,rfl,?_}) λb c=>?_
  .k_is;let h:i+1 < K.H.length:=by lia
   let l:(1:Int)+i=((i+1:Nat):Int):=by lia
   let Z:((i+1:Nat):Int) - 1=((i:Nat):Int):=by lia
   rw[l,Z];calc aa (jP (d:=aj K.H[i+1]) (by lia) (by rw[ZK,Zq,gEG h];rfl)) (aa (show ixS (aj K.H[i+1]) (.int 0) b=aw (.int K.H[i+1].1,b) from rfl) ?_);calc aa (jP (d:=aj K.H[i]) (by lia) (by rw[ZK,Zq,gEG (by lia)];rfl)) (aa (show ixS (aj K.H[i]) (.int 1) b=aw (.int K.H[i].2,b) from rfl) ?_);k_is;rw[decide_eq_true (vn f.me.ris i _ _ (gEG (by lia)) (gEG h))];exact{rfl,Sm.refl _}
  .calc aa (mj _ (λ_=>aN) _) ?_;rw[xJ];exact q b (sm.trans c)
def EI(b:SkOk K)(q:∀s,Sm S s->Q (.bl aN) s):Ok (evC ab (k+6) 7 [meE K] S) Q:=by
 calc av (d:=gG) (ρ:=[aw (meE K),aD,aD,aD,aD]) rfl rfl ?_;dsimp![gG,lc];rw[show meE K = .tup [.int K.r,.int K.s,.tup (K.M.map ag),.tup (K.H.map aj)] from rfl];k_is;calc{rfl,pV (au bK (au bK (au (bL (e8 K.M)) (au (bL (gR K.H)) bP)))) (ZU _) (ZU _) ?_};k_is;calc{rfl,xL b.me.r0 b.me.r8 ?_};k_is;calc{rfl,xL b.me.s0 b.me.s60 ?_};k_is;calc{rfl,QH b λj h=>?_};k_is;exact{rfl,JF b λf c=>q f (h.trans c)}
def EJ{i:Int}(h:0<=i)(b:i < K.M.length)(q:Q (.bl aN) S):Ok (evC ab (k+3) 13 [meE K,.int i] S) Q:=by
 calc av (d:=kE) (ρ:=[aw (meE K),aw (.int i)]) rfl rfl ?_;dsimp![kE,qK];k_is;calc aa me2 (aa bx ?_);k_is;exact{rfl,xL h (by lia) q}
def JG(f:SkOk K)(q:Q (.bl aN) S):Ok (evC ab (k+4) 16 [meE K,ahE K.ah] S) Q:=by
 calc av (d:=iX) (ρ:=[aw (meE K),aw (ahE K.ah)]) rfl rfl ?_;dsimp![iX,oB];cases h:K.ah with
 |none=>k_is;exact aa (show ao .is (ahE aD) .non S=aw (.bl aN,S) from rfl) q
 |some z=>
  let{j,b,l,B}:=f.ah z h;let c:ixS (.tup [D.int z.1,.int z.2]) (.int 0) S=aw (.int z.1,S):=rfl;let X:ixS (.tup [D.int z.1,.int z.2]) (.int 1) S=aw (.int z.2,S):=rfl;rw[show ahE (aw z) = .tup [.int z.1,.int z.2] from rfl];k_is;calc aa (show ao .is (.tup [D.int z.1,.int z.2]) .non S=aw (.bl aS,S) from rfl) ?_;k_is;calc{rfl,pV (au bK (au bK bP)) (ZU _) (ZU _) ?_};k_is;calc aa c {rfl,EJ j b ?_};k_is;exact aa X {rfl,JE l B q}
def EK(v:SkOk K)(J:g∈K.G)(q:∀s,Sm S s->Q (.bl aN) s):Ok (evC ab (k+4) 18 [meE K,ag g] S) Q:=by
 let{c,j,f,L,b,h,n,rfl,U,I,b0,B,O,Z,Y,c1,C,T,z,X}:=v.gb g J;let s0:=v.me.s0;calc av (d:=gI) (ρ:=[aw (meE K),aw (ag [c,j,f,L,b,h,n]),aD,aD,aD,aD,aD,aD,aD]) rfl rfl ?_;dsimp![gI,lj];rw[show ag [c,j,f,L,b,h,n] = .tup [.int c,.int j,.int f,.int L,.int b,.int h,.int n] from rfl];k_is;calc{rfl,pV (ij [c,j,f,L,b,h,n]) (ZU _) (ZU _) ?_};k_is;refine xK [j,f,L,b] D.int (by show 4<=1000;decide) (bN (l:=[j,f,L,b]) (E:=D.int)) (λi x s y sm=>{_,rfl,?_}) λs sm=>?_
 .k_is;let u:=Zd y;simp![Zn,XQ,or_false]at u;refine{rfl,JE ?_ ?_ {rfl,Sm.refl _}}
  .rcases u with rfl |rfl |rfl |rfl <;> lia
  .rcases u with rfl |rfl |rfl |rfl <;> lia
 .k_is;calc aa me1 ?_;k_is;rw[decide_eq_true B];k_is;rw[decide_eq_true O];k_is;calc{rfl,EJ U I ?_};k_is;calc{rfl,xL C T ?_};k_is;refine aa me0 {rfl,xL z X (q s sm)}
def A8(b:SkOk K)(q:∀s,Sm S s->Q (.bl aN) s):Ok (evC ab (k+5) 17 [meE K,.tup (K.G.map ag)] S) Q:=by
 calc av (d:=eO) (ρ:=[aw (meE K),aw (.tup (K.G.map ag))]) rfl rfl ?_;dsimp![eO,iw];let g7:=b.g7;k_is;calc{rfl,pV (e8 K.G) (by rw[mB];lia) (by rw[mB];lia) ?_};k_is;calc xK K.G ag (by lia) bN (λi g s h sm=>{_,rfl,?_}) q;k_is;exact{rfl,EK b (Zd h) λf c=>⟨rfl,c⟩}
def EL(c:SkOk K)(q:∀s,Sm S s->Q (.bl aN) s):Ok (evC ab (k+3) 4 [.tup (K.F.map D.int),.int K.G.length] S) Q:=by
 calc av (d:=fM) (ρ:=[aw (.tup (K.F.map D.int)),aw (.int K.G.length)]) rfl rfl ?_;dsimp![fM,jE];let g7:=c.g7;let l:=Dw.cg K.G.length K.F c.nd c.bd;k_is;calc{rfl,pV (ij K.F) (by rw[Za];lia) (by rw[Za];lia) ?_};k_is;refine xK K.F D.int (by lia) bN (λi x s h sm=>{_,rfl,?_}) λs sm=>?_
 .k_is;let:=c.bd x (Zd h);exact{rfl,xL this.1 (by lia) {rfl,Sm.refl _}}
 .k_is;calc xK K.F D.int (by lia) bN (λi x f h b=>{_,rfl,?_}) λf b=>q f (sm.trans b);k_is;calc{rfl,aa (DS K.F x f) ?_};k_is;rw[show((K.F.count x:Nat):Int)=1 by rw[List.Nodup.count c.nd,if_pos (Zd h)];rfl];exact{rfl,Sm.refl _}
def JH(n:SkOk K)(q:∀s,Sm S s->Q (.bl aN) s):Ok (evC ab (k+4) 19 [.tup (K.G.map ag),.tup (K.F.map D.int)] S) Q:=by
 calc av (d:=gJ) (ρ:=[aw (.tup (K.G.map ag)),aw (.tup (K.F.map D.int))]) rfl rfl ?_;dsimp![gJ,ll];let g7:=n.g7;k_is;calc aa bx ?_;calc{rfl,EL n λy Y=>?_};k_is;refine oO K.G.length (λi=>.tup [.int i,((K.G.map ag)[i]?).getD .non]) (λi b s=>Sm y s/\b.length=i/\∀e∈b,e = .bl aN) (λi b s hi _=>?_) (by lia) (λi b s hi B=>?_) (λes s u=>by let{f,Z,v}:=u;exact{by lia,aa (EH v _) (q s (Y.trans f))}) {Sm.refl _,rfl,λe C=>by cases C}
 .show enm (K.G.map ag) i=_;delta enm;rw[if_pos (by rw[Za];exact hi)];split
  .rename_i E;rw[gEG (by rw[Za];exact E)];rfl
  .rw[Zw (by rw[Za];lia)];rfl
 .let{f,Z,v}:=B;let{I,L,J,l,U,O,h,T,_}:=n.gb K.G[i] (ZT hi);let rg:=n.rg i _ (gEG hi);let X:((K.G.map ag)[i]?).getD .non = .tup [.int I,.int L,.int J,.int l,.int U,.int O,.int h]:=by rw[Zq,gEG hi,T];rfl
  rw[T]at rg;let rg:h=0\/(i:Int)∈K.F:=rg;rw[X];let j:∀s,Sm y s->Sm y s/\(b++[D.bl aN]).length=i+1/\∀e∈b++[D.bl aN],e = .bl aN:=λs f=>{f,by rw[Ze,Zm];lia,λe C=>(ZR.mp C).elim (v e) λz=>ZG.mp z};calc{_,fS (by simp) (by simp),?_};k_is;calc aa (show ixS (.tup [D.int I,.int L,.int J,.int l,.int U,.int O,.int h]) (.int 6) s=aw (.int h,s) from rfl) ?_;k_is;cases c:decide (h=0) with
  |true=>k_is;exact j s f
  |false=>
   k_is;calc aa (show ao .s (.int (i:Int)) (.tup (K.F.map D.int)) s=aw (.bl (aS != decide ((i:Int)∈K.F)),s) from eC aS K.F i s) ?_;rw[decide_eq_true (rg.resolve_left (of_decide_eq_false c))];exact j s f
def Uj(b:SkOk K)(q:∀s,Sm S s->Q (.bl aN) s):Ok (evC ab (k+7) 15 [skE K] S) Q:=by
 calc av (d:=oJ) (ρ:=[aw (skE K),aD,aD,aD,aD]) rfl rfl ?_;dsimp![oJ,uL];rw[show skE K = .tup [meE K,ahE K.ah,.tup (K.G.map ag),.tup (K.F.map D.int)] from rfl];k_is;calc{rfl,pV (ts:=[.tup [.int K.r,.int K.s,.tup (Dw.iO K.M),.tup (K.H.map Dw.qm)],ahT K.ah,.tup (Dw.iO K.G),.tup (K.F.map Dw.D.int)]) (au (bL (au bK (au bK (au (bL (e8 K.M)) (au (bL (gR K.H)) bP))))) (au (Lm K.ah) (au (bL (e8 K.G)) (au (bL (ij K.F)) bP)))) (ZU _) (ZU _) ?_};k_is;calc{rfl,EI b λn j=>?_};k_is;calc{rfl,JG b ?_};k_is;calc{rfl,A8 b λl f=>?_};k_is;exact{rfl,JH b λh c=>q h ((j.trans f).trans c)}
def EM(b:SkOk K)(q:∀s,Sm S s->Q .non s):Ok (evC ab (k+8) 21 [skE K] S) Q:=by
 calc av (d:=gL) (ρ:=[aw (skE K)]) rfl rfl ?_;dsimp![gL,lu];k_is;calc{rfl,Uj b λs sm=>?_};k_is;exact q s sm
end Lw
namespace Sn
open Ev PySem
abbrev jnd(m x:Int):Int:=if x > m then x else m
abbrev o0(b:List (Int×List Int)):Option (Int×List Int):=b[argBest (dF b) (b.length - 1)]?
abbrev rst(left:List Int)(g:Int):List Int:=left.filter λx=>!decide (x=g)
abbrev bb(K:Sky):Nat->Option (Int×Int)->List Int->Option (Int×List Int)
 |0,_,_=>aw (0,[])
 | n+1,ah,left=>o0 (left.filterMap λg=>match step K ah g (~~~K - (n+1)) with
  |none=>aD
  | some m=>(bb K n (aw (gi K.G g 0,m)) (rst left g)).map λz=>(jnd m z.1,g::z.2))
abbrev bw(K:Sky)(n:Nat)(ah:Option (Int×Int))(left:List Int)(g:Int):Option (Int×List Int):=match step K ah g (~~~K - (n+1)) with
 |none=>aD
 |some m=>(bb K n (aw (gi K.G g 0,m)) (rst left g)).map λz=>(jnd m z.1,g::z.2)
def jU{K:Sky}{n:Nat}{ah:Option (Int×Int)}{left:List Int}:bb K (n+1) ah left=o0 (left.filterMap (bw K n ah left)):=rfl
def qU{ws:List (Int×List Int)}{z:Int×List Int}(h:o0 ws=aw z):z∈ws:=Zd h
def xM{K:Sky}:∀ (n:Nat) (ah:Option (Int×Int)) (left:List Int) (z:Int×List Int),bb K n ah left=aw z->z.2.length=n
 |0,_,_,z,h=>by cases h;rfl
 |n+1,ah,left,z,h=>by
  rw[jU]at h;let{g,_,e}:=Yy.mp (qU h);delta bw at e;split at e
  .cases e
  .let{y,E,rfl}:=ZE.mp e;rw[Zo,xM n _ _ y E]
end Sn
namespace Lw
open PySem Ev Sn L2
variable {p:Nat} {S t:Sto} {k:Nat} {Q:D->Sto->Prop} {K:Sky}
abbrev dS:D:=.str "last"
abbrev bE:Option (Int×List Int)->D
 |none=>.non
 |some z=>.tup [.int z.1,.tup (z.2.map D.int)]
abbrev Uk:Option (Int×Int)->NK
 |none=>.non
 |some z=>.tup [.inl z.1,.inl z.2]
abbrev im(ah:Option (Int×Int))(left:List Int):List NK:=[Uk ah,.tup (left.map Sum.inl)]
def o4:∀ (xs:List Int),ff (xs.map D.int)=aw (xs.map Sum.inl)
 |[]=>rfl
 |x::xs=>by rw[Zy,ff,o4 xs];rfl
def eI{ah:Option (Int×Int)}{left:List Int}:lW (.tup [ahE ah,.tup (left.map D.int)])=aw (im ah left):=by
 let e:z7 (.tup (left.map D.int))=aw (.tup (left.map Sum.inl)):=by show(ff _).map _=_;rw[o4];rfl
 let E:z7 (ahE ah)=aw (Uk ah):=by cases ah <;> rfl
 show kR _=_;simp![kR,e,E,im]
def zd:∀ {xs Y:List Int},xs.map (Sum.inl:Int->Key)=Y.map Sum.inl->xs=Y
 |[],[],_=>rfl
 |[],_::_,e=>by cases e
 |_::_,[],e=>by cases e
 |x::xs,y::Y,e=>by
  let{a,b}:=WQ.inj e;cases a;rw[zd b]
def vD{a b:Option (Int×Int)}{xs ys:List Int}(h:im a xs=im b ys):a=b/\xs=ys:=by
 delta im at h;let{c,d}:=WQ.inj h;let{d,_}:=WQ.inj d;calc{?_,zd (NK.tup.inj d)};cases a with
 |none=>cases b with
  |none=>rfl
  |some z=>cases c
 |some z=>cases b with
  |none=>cases c
  |some w=>
   let{j,Z}:=z;let{f,w2}:=w;cases c;rfl
abbrev KI(K:Sky)(b:List (List NK))(c:List D):Prop:=b.length=c.length/\∀ah left d,atD b c (im ah left)=aw d->d=bE (bb K left.length ah left)
structure Kn(K:Sky)(p c:Nat)(S:Sto):Prop where
 ex:∃kss ds,S[p]?=aw (.dic kss ds)/\KI K kss ds/\kss.length<=c
abbrev cnt:Nat->Nat
 |0=>0
 |n+1=>(n+1) * cnt n+1
def vE:∀ {b:List (List NK)} {c:List D} {k:List NK} {v:D},(atD b c k).isSome=aN->atD b (gm k v b c) k=aw v
 |[],_,_,_,h=>by simp[atD]at h
 |_::_,[],_,_,h=>by simp[atD]at h
 |a::b,d::c,k,v,h=>by
  simp![gm,atD]at h ⊢;split
  .rfl
  .rename_i e;rw[if_neg e]at h;exact vE h
def sS:∀ {b:List (List NK)} {f:List D} {k c:List NK} {v:D},b.length=f.length->atD (b++[k]) (f++[v]) c=match atD b f c with |some d=>aw d |none=>if k=c then aw v else aD
 |[],[],k,c,v,_=>rfl
 |[],_::_,_,_,_,h=>by simp at h
 |_::_,[],_,_,_,h=>by simp at h
 |a::b,d::f,k,c,v,h=>by
  simp![XR,atD];split
  .rfl
  .exact sS (by simpa using h)
def ze:∀ {b:List (List NK)} {f:List D} {k c:List NK} {v d:D},atD b (gm k v b f) c=aw d->(k=c/\d=v)\/(atD b f c=aw d)
 |[],_,_,_,_,_,h=>by simp[gm,atD]at h
 |_::_,[],_,_,_,_,h=>by simp[gm,atD]at h
 |a::b,e::f,k,c,v,d,h=>by
  simp![gm,atD]at h ⊢;split at h
  .rename_i E;subst E;cases h;split
   .rename_i j;exact .inl ⟨j.symm,rfl⟩
   .exact .inr (if_pos rfl)
  .rename_i E;rw[if_neg E];exact ze h
def qV{r:D}{m x:Int}(q:Q (.int (jnd m x)) S):Ok (evC ab (k+2) 35 [dS,r,.int m,.int x] S) Q:=by
 calc av (d:=oK) (ρ:=[aw dS,aw r,aw (.int m),aw (.int x)]) rfl rfl ?_;dsimp![oK,uM];delta jnd at q;k_is;calc aa (show ao .eq dS (.str "last") S=aw (.bl aN,S) from rfl) ?_;k_is;exact q
def xN{left:List Int}{g:Int}(hl:left.length<=100)(q:∀t,Sm S t->Q (.tup ((rst left g).map D.int)) t):Ok (evC ab (k+1) 5 [.tup (left.map D.int),.int g] S) Q:=by
 calc av (d:=kB) (ρ:=[aw (.tup (left.map D.int)),aw (.int g)]) rfl rfl ?_;dsimp![kB,qI];k_is;refine a9 left D.int (λx=>if (!decide (x=g))=aN then [D.int x] else []) (by lia) (λa _=>by split <;> simp) bN (λi x t h sm=>{_,rfl,?_}) λb f=>?_
 .k_is;cases c:!decide (x=g) with
  |true=>exact{rfl,Sm.refl _}
  |false=>exact{rfl,Sm.refl _}
 .rw[bj];exact aa (show cO aS (((rst left g)).map D.int) b=aw (.tup ((rst left g).map D.int),b) from rfl) (q b f)
structure Lf(K:Sky)(n:Nat)(ah:Option (Int×Int))(left:List Int):Prop where
 nd:left.Nodup
 bd:∀g∈left,0<=g/\g < K.G.length
 ln:left.length=n
 le:n<=K.G.length
 ah:∀q,ah=aw q->0<=q.1/\q.1 < K.M.length
def sU:∀ {left:List Int} {g:Int},left.Nodup->g∈left->(rst left g).length+1=left.length
 |[],_,_,h=>by cases h
 |a::l,g,nd,h=>by
  rw[Z9]at nd;delta rst;by_cases e:a=g
  .subst e;rw[List.filter_cons_of_neg (by simp)]
   rw[XB.mpr λx b=>by
    let:¬ x=a:=λz=>nd.1 (z▸b);simp[this]]
   rw[Zo]
  .rw[List.filter_cons_of_pos (by simp[e]),Zo,Zo];let:=sU nd.2 ((Zn.mp h).resolve_left λz=>e z.symm);delta rst at this
   lia
def Lf.rst{n:Nat}{ah:Option (Int×Int)}{left:List Int}{g m:Int}(h:Lf K (n+1) ah left)(d:g∈left)(f:0<=gi K.G g 0)(b:gi K.G g 0 < K.M.length):Lf K n (aw (gi K.G g 0,m)) (Sn.rst left g):=by
 let l:=sU h.nd d;let:=h.ln;let:=h.le;exact{h.nd.filter _,λx c=>h.bd x (ZM.mp c).1,by lia,by lia,λq e=>by cases e;exact⟨f,b⟩}
abbrev BB(K:Sky)(p n k:Nat):Prop:=∀ (ah:Option (Int×Int)) (left:List Int) (S:Sto) (c:Nat) (Q:D->Sto->Prop),Lf K n ah left->Kn K p c S->c+cnt n<=99999->(∀t,Kp p S t->Kn K p (c+cnt n) t->Q (bE (bb K n ah left)) t)->Ok (evC ab k 36 [skE K,dS,ahE ah,.tup (left.map D.int),.ref p] S) Q
def Kn.kp{c:Nat}(h:Kn K p c S)(s:Sm S t):Kn K p c t:=let ⟨kss,ds,e,k⟩:=h.ex;{kss,ds,s _ _ e,k}
def Kn.up{c C:Nat}(h:Kn K p c S)(hc:c<=C):Kn K p C S:=let ⟨kss,ds,e,k,z⟩:=h.ex;{kss,ds,e,k,ZJ z hc}
def JI(T:SkOk K){n k:Nat}(Y:BB K p n (k+5)){ah:Option (Int×Int)}{left:List Int}{g:Int}(L:Lf K (n+1) ah left)(O:g∈left){C:Nat}(U:Kn K p C S)(B:C+cnt n<=99999)(q:∀t,Kp p S t->Kn K p (C+cnt n) t->Q (bE (bw K n ah left g)) t):Ok (evC ab (k+6) 37 [skE K,dS,ahE ah,.tup (left.map D.int),.int g,.ref p] S) Q:=by
 calc av (d:=gM) (ρ:=[aw (skE K),aw dS,aw (ahE ah),aw (.tup (left.map D.int)),aw (.int g),aw (.ref p),aD,aD,aD]) rfl rfl ?_;dsimp![gM,lx];let V:=T.vd;let g7:=T.g7;let hb:=L.bd g O;let ln:=L.ln;let le:=L.le;let{a,b,c,d,e,f,h,eg,E,e1,e2,e3,e6,a0,Z,c0}:=gl7 V hb.1 hb.2;k_is;calc aa sk2 (aa bx (aa bx ?_));k_is;rw[show((~~~K:Int) - left.length)=((~~~K - (n+1):Nat):Int) by lia];calc{rfl,qS (k:=k+2) V L.ah hb.1 hb.2 λv I=>?_};delta bw at q;cases hs:step K ah g (~~~K - (n+1)) with
 |none=>
  rw[hs]at q;rw[show jQ aD = .non from rfl];k_is;calc aa (show ao .is .non .non v=aw (.bl aN,v) from rfl) ?_;k_is;exact q v I.kp ((U.kp I).up (Y3 _ _))
 |some m=>
  rw[hs]at q;rw[show jQ (aw m) = .int m from rfl];k_is;calc aa (show ao .is (.int m) .non v=aw (.bl aS,v) from rfl) ?_;k_is;calc aa sk2 (aa (dP hb.1 eg) ?_);k_is;calc aa (show ixS (ag [a,b,c,d,e,f,h]) (.int 0) v=aw (.int a,v) from rfl) ?_;k_is;refine{rfl,xN (k:=k+4) (by lia) λS2 X=>?_}
  let lr:Lf K n (aw (a,m)) (Sn.rst left g):=by
   let:=L.rst (m:=m) O (by rw[E];exact a0) (by rw[E];exact Z)
   rwa[E]at this
  let l:=I.trans X;calc{rfl,Y (aw (a,m)) (Sn.rst left g) S2 C _ lr (U.kp l) B λj J y=>?_};rw[E]at q;cases u:bb K n (aw (a,m)) (Sn.rst left g) with
  |none=>
   dsimp! at q;rw[u]at q;rw[show bE aD = .non from rfl];k_is;calc aa (show ao .is .non .non j=aw (.bl aN,j) from rfl) ?_;k_is;exact q j (l.kp.trans J) y
  |some z=>
   dsimp! at q;rw[u]at q;rw[show bE (aw z) = .tup [.int z.1,.tup (z.2.map D.int)] from rfl];k_is;calc aa (show ao .is (.tup [.int z.1,.tup (z.2.map D.int)]) .non j=aw (.bl aS,j) from rfl) ?_;k_is;calc aa (show ixS (.tup [.int z.1,.tup (z.2.map D.int)]) (.int 0) j=aw (.int z.1,j) from rfl) ?_;calc{rfl,qV (k:=k+3) ?_};k_is;calc aa (show ixS (.tup [.int z.1,.tup (z.2.map D.int)]) (.int 1) j=aw (.tup (z.2.map D.int),j) from rfl) ?_;k_is;let lz:=xM n _ _ z u;exact{by rw[Za,Zm];lia,q j (l.kp.trans J) y}
def EN{k:Nat}:BB K p 0 (k+1):=λah left S c Q lf kn hc q=>by
 calc av (d:=bZ) (ρ:=[aw (skE K),aw dS,aw (ahE ah),aw (.tup (left.map D.int)),aw (.ref p),aD,aD]) rfl rfl ?_;dsimp![bZ,eN];let e:=Z1.mp lf.ln;subst e;k_is;exact q S (Kp.refl p S) kn
def QI{b:List (List NK)}{d:List D}{ah:Option (Int×Int)}{left:List Int}(h:S[p]?=aw (.dic b d)):ao .o (.tup [ahE ah,.tup (left.map D.int)]) (.ref p) S=aw (.bl (!(atD b d (im ah left)).isSome),S):=by
 let e:ao .o (.tup [ahE ah,.tup (left.map D.int)]) (.ref p) S=inK aN (.tup [ahE ah,.tup (left.map D.int)]) (.ref p) S:=by
  simp![ao,inS,ay,aR,h,Option.map_none]
 rw[e];simp![inK,eI,h];simp
def xO{b:List (List NK)}{c:List D}{ah:Option (Int×Int)}{left:List Int}{d:D}(f:S[p]?=aw (.dic b c))(h:atD b c (im ah left)=aw d):ixS (.ref p) (.tup [ahE ah,.tup (left.map D.int)]) S=aw (d,S):=by
 show ixK _ _ _=_;simp![ixK,eI,f,h,ZL]
def zf:∀ (b:List (Int×List Int)),ip (b.map λz=>bE (aw z))=aw b
 |[]=>rfl
 |z::b=>by
  let e:yx (bE (aw z))=aw z:=by
   show(cP (z.2.map D.int)).map _=_;rw[dr];rfl
  rw[Zy];simp![ip,e,zf b]
def QJ(b:List (Int×List Int)):pO aS (b.map λz=>bE (aw z)) S=aw (bE (o0 b),S):=by
 delta pO;rw[zf];dsimp!;rw[Za,Zr,Zq];delta o0;cases b[argBest (dF b) (b.length - 1)]? <;> rfl
def QK{ah:Option (Int×Int)}{left:List Int}{c:Nat}(E:Kn K p c S)(hc:c < 99999):∃t,kj (.ref p) (.tup [ahE ah,.tup (left.map D.int)]) (bE (bb K left.length ah left)) S=aw t/\Kp p S t/\Kn K p (c+1) t/\ixS (.ref p) (.tup [ahE ah,.tup (left.map D.int)]) t=aw (bE (bb K left.length ah left),t):=by
 let{b,q,y,⟨j,z⟩,B}:=E.ex;let lt:p < S.length:=(Zb.mp y).1;let e:kj (.ref p) (.tup [ahE ah,.tup (left.map D.int)]) (bE (bb K left.length ah left)) S=Cg (.ref p) (.tup [ahE ah,.tup (left.map D.int)]) (bE (bb K left.length ah left)) S:=rfl;rw[e];simp![Cg,eI,y];rw[if_pos (by lia)];let kp:∀o,Kp p S (S.set p o):=λo i u hi h=>by rw[Zx (Ne.symm hi)];exact h
 by_cases cd:(atD b q (im ah left)).isSome=aN
 .rw[if_pos cd];let f:(S.set p (Ob.dic b (gm (im ah left) (bE (bb K left.length ah left)) b q)))[p]?=aw (.dic b (gm (im ah left) (bE (bb K left.length ah left)) b q)):=ZV lt;refine{_,rfl,kp _,{_,_,f,{rK j,λn l d h=>?_},by lia},xO f ?_}
  .rcases ze h with ⟨h1,rfl⟩ |h1
   .let{rfl,rfl}:=vD h1;rfl
   .exact z n l d h1
  .exact vE cd
 .rw[if_neg cd]
  let C:atD b q (im ah left)=aD:=by
   cases h:atD b q (im ah left) with
   |none=>rfl
   |some d=>rw[h]at cd;exact absurd rfl cd
  let f:(S.set p (Ob.dic (b++[im ah left]) (q++[bE (bb K left.length ah left)])))[p]?=aw (.dic (b++[im ah left]) (q++[bE (bb K left.length ah left)])):=ZV lt;refine{_,rfl,kp _,{_,_,f,{by rw[Ze,Ze,j];rfl,λn l d h=>?_},by rw[Ze,Zm];lia},xO f ?_}
  .rw[sS j]at h;split at h
   .rename_i I hd;cases h;exact z n l d hd
   .split at h
    .rename_i v;cases h;let{rfl,rfl}:=vD v;rfl
    .cases h
  .rw[sS j,C];dsimp!;rw[if_pos rfl]
abbrev QL{b:Type}(w:b->D):Option b->List D
 |none=>[]
 |some z=>[w z]
def vF{c b:Type}(f:c->Option b)(w:b->D):∀ (l:List c),(l.flatMap λa=>QL w (f a))=(l.filterMap f).map w
 |[]=>rfl
 |a::l=>by
  rw[Xk,vF f w l,Ys];cases f a <;> rfl
def EO(U:SkOk K){n k:Nat}(ih:BB K p n (k+5)):BB K p (n+1) (k+7):=λah left S cc Q lf kn hcc q=>by
 calc av (d:=bZ) (ρ:=[aw (skE K),aw dS,aw (ahE ah),aw (.tup (left.map D.int)),aw (.ref p),aD,aD]) rfl rfl ?_;dsimp![bZ,eN];let g7:=U.g7;let ln:=lf.ln;let le:=lf.le;let{j,Z,T,ki,hcl}:=kn.ex;let y:cnt (n+1)=(n+1) * cnt n+1:=rfl
 let ne:(left.map D.int).isEmpty=aS:=by
  cases left with
  |nil=>simp at ln
  |cons _ _=>rfl
 k_is;rw[ne];k_is;calc aa (QI T) ?_;cases O:atD j Z (im ah left) with
 |some d=>
  k_is;calc aa (xO T O) ?_;let e:=ki.2 ah left d O;rw[ln]at e;subst e;exact q S (Kp.refl p S) (kn.up (Y3 _ _))
 |none=>
  k_is;refine oO left.length (λi=>D.int (left.getD i 0)) (λi b t=>Kp p S t/\Kn K p (cc+i * cnt n) t/\b=(left.take i).map λg=>bE (bw K n ah left g)) (λi b t hi _=>?_) (by lia) (λi b t hi C=>?_) (λes t u=>?_) {Kp.refl p S,by rw[WU];exact kn,rfl}
  .show aw (left.map D.int)[i]?=_;rw[Zq];split
   .rename_i h;rw[gEG h,Zr,gEG h];rfl
   .rename_i h;rw[Zw (by lia)];rfl
  .let{kp,c,rfl}:=C;let eg:left.getD i 0=left[i]:=by rw[Zr,gEG hi];rfl
   rw[eg];calc{_,rfl,?_};k_is;let hi2:(i+1) * cnt n<=(n+1) * cnt n:=YZ _ (by lia);let f:(i+1) * cnt n=i * cnt n+cnt n:=XU _ _;calc{rfl,JI (k:=k) U ih lf (ZT hi) c (by lia) λS1 k1 l=>{kp.trans k1,by rw[f,<-Y8];exact l,?_}};rw[Z6 hi,ZF];rfl
  .let{kp,c,rfl}:=u;rw[Yx];calc{by rw[Za];lia,?_};let E:(t++[Ob.lst (left.map λg=>bE (bw K n ah left g))])[t.length]?=aw (.lst (left.map λg=>bE (bw K n ah left g))):=aM;let Y:Sm t (t++[Ob.lst (left.map λg=>bE (bw K n ah left g))]):=Sm.app _ _;generalize t++[Ob.lst (left.map λg=>bE (bw K n ah left g))]=S1 at *;generalize t.length=N at *;k_is;calc{by rw[aB E];rfl,?_};refine a9 left (λg=>bE (bw K n ah left g)) (λg=>QL (λz=>bE (aw z)) (bw K n ah left g)) (by lia) (λg _=>by cases bw K n ah left g <;> simp[QL]) (c8 E) (λi g S2 hg sm=>{_,rfl,?_}) λS2 L=>?_
   .k_is;cases hb:bw K n ah left g with
    |none=>
     calc aa (show ao .t (bE aD) .non S2=aw (.bl aS,S2) from rfl) ?_;k_is;exact{rfl,Sm.refl _}
    |some z=>
     calc aa (show ao .t (bE (aw z)) .non S2=aw (.bl aN,S2) from rfl) ?_;k_is;exact{rfl,Sm.refl _}
   .rw[vF];calc aa (QJ _) ?_;rw[<-jU]
    let k2:Kn K p (cc+(n+1) * cnt n) S2:=by
     let:=(c.kp Y).kp L
     rwa[ln]at this
    let{X,J,v,B,I}:=QK (ah:=ah) (left:=left) k2 (by lia);rw[ln]at J I;calc{X,J,?_};k_is;calc aa I (q X ((kp.trans (Y.trans L).kp).trans v) ?_);rw[y,<-Y8];exact B
def qW(b:SkOk K){j:Nat}:∀n,BB K p n (2 * n+5+j)
 |0=>by rw[show 2 * 0+5+j=(4+j)+1 by lia];exact EN
 |n+1=>by
  let I:=qW b (j:=j) n;rw[show 2 * (n+1)+5+j=(2 * n+j)+7 by lia];exact EO b (by rw[show 2 * n+j+5=2 * n+5+j by lia];exact I)
def ER{n:Nat}:∀i t,Sm S t->nxR 0 n i t=aw (((Zi n)[i]?).map λ(j:Nat)=>D.int (0+(j:Int))):=λi t _=>by
 show aw (if i < n then aw (D.int (0+(i:Int))) else aD)=_;split
 .rename_i h;rw[Yn h];rfl
 .rename_i h;rw[Zw (by rw[ZC];lia)];rfl
abbrev bU(K:Sky):List Int:=((Zi K.G.length).filter λ(j:Nat)=>!decide ((j:Int)∈K.F)).map λ(j:Nat)=>(j:Int)
def JJ(V:Vd K)(q:∀t,Sm S t->Q (.tup ((bU K).map D.int)) t):Ok (evC ab (k+1) 20 [skE K] S) Q:=by
 calc av (d:=gK) (ρ:=[aw (skE K)]) rfl rfl ?_;dsimp![gK,lm];let g7:=V.g7;k_is;calc aa sk2 (aa bx ?_);k_is;calc{fU (by lia) (by lia),?_};rw[ZK];refine a9 (Zi K.G.length) (λ(j:Nat)=>D.int (0+(j:Int))) (λ(j:Nat)=>if (!decide ((j:Int)∈K.F))=aN then [D.int (j:Int)] else []) (by rw[ZC];lia) (λa _=>by split <;> simp) ER (λi j t h sm=>{_,rfl,?_}) λb f=>?_
 .k_is;calc aa sk3 ?_;rw[XW];k_is;calc aa (show ao .o (.int (j:Int)) (.tup (K.F.map D.int)) t=aw (.bl (aN != decide ((j:Int)∈K.F)),t) from eC aN K.F j t) ?_;rw[show(aN != decide ((j:Int)∈K.F)) = !decide ((j:Int)∈K.F) by cases decide ((j:Int)∈K.F) <;> rfl];k_is;cases c:!decide ((j:Int)∈K.F) with
  |true=>exact{rfl,Sm.refl _}
  |false=>exact{rfl,Sm.refl _}
 .rw[bj];calc aa (show cO aS _ b=aw (.tup _,b) from rfl) ?_;let:=q b f;delta bU at this
  rwa[ZS]at this
def ES(V:Vd K)(bd:∀g∈K.F,0<=g/\g < K.G.length)(y:K.F.length<=7)(u:∀j,rn K K.F K.ah [] = .inl j->∀t,Sm S t->Q .non t)(v:∀R,rn K K.F K.ah [] = .inr R->∀n t,Sm S t->t[n]?=aw (.lst (R.map aj))->S.length<=n->Q (.ref n) t):Ok (evC ab (k+6) 31 [skE K] S) Q:=by
 calc av (d:=cH) (ρ:=[aw (skE K),aD]) rfl rfl ?_;dsimp![cH,fv];k_is;calc aa sk3 ?_;calc{rfl,vf (k:=k) V bd y λn L q c f hN l=>?_};k_is;calc aa (ig f) (aa sk3 (aa bx ?_));k_is;rw[Za];cases h:rn K K.F K.ah [] with
 |inl j=>
  let b:=l.stuck j h;let E:=gu K.F _ _ j h;rw[Z4,YE]at E;rw[decide_eq_false (show ¬ (L.length:Int)=K.F.length by lia)];k_is;exact u j h q c
 |inr R=>
  let b:=l.lands R h;let E:=jS K.F _ _ R h;rw[Z4,YE]at E;rw[decide_eq_true (show(L.length:Int)=K.F.length by rw[b,E])];k_is;exact v R h n q c (by rw[<-b];exact f) hN
abbrev dQ(K:Sky):Option (Int×List Int):=match rn K K.F K.ah [] with
 |.inl _=>aD
 |.inr R=>(bb K (bU K).length (aq K R) (bU K)).map λz=>(R.foldr (λy x=>jnd y.2 x) z.1,K.F++z.2)
def Lr:∀ (os:List Int) (a:Option (Int×Int)) (L R:List (Int×Int)),(∀g∈os,0<=g/\g < K.G.length)->InG K L->rn K os a L = .inr R->InG K R
 |[],_,L,R,_,hL,e=>by cases e;exact hL
 |g::os,a,L,R,ho,hL,e=>by
  rw[rn]at e;split at e
  .cases e
  .rename_i m _;split at e
   .cases e
   .exact Lr os _ _ R (λx h=>ho x (Zg _ h)) (λz b=>(ZR.mp b).elim (hL z) λZ=>by rw[ZG.mp Z];exact ho g Zj) e
def QM:∀n,n < 8->cnt n<=99999:=by decide
def JK(f:SkOk K){ah:Option (Int×Int)}(c:∀q,ah=aw q->0<=q.1/\q.1 < K.M.length):Lf K (bU K).length ah (bU K):=by
 refine{?_,λg b=>?_,rfl,?_,c}
 .delta bU;exact YU.mpr ((Y5.filter _).imp λh z=>h (Int.ofNat.inj z))
 .delta bU at b;let{j,d,rfl}:=Zz.mp b;let:=ZQ.mp (ZM.mp d).1
  lia
 .delta bU;rw[Za];let:=YB (λ(j:Nat)=>!decide ((j:Int)∈K.F)) (Zi K.G.length);rw[ZC]at this;exact this
def Kp.new{o:Ob}(h:Ev.Kp S.length (S++[o]) t):Sm S t:=λi u e=>by
 let hi:=(Zb.mp e).1;exact h i u (by lia) (Sm.app _ _ _ _ e)
def vG{n:Nat}{ds:List D}{T:Tg}{b:XS}{c:Rho}{Q:Fl->Rho->Sto->Prop}(hl:ds.length<=100000)(I:Nat->Rho->Sto->Prop)(v:∀i c t,I i c t->t[n]?=aw (.lst ds))
  (step:∀ (i:Nat) d c t,ds[i]?=aw d->I i c t->∃h,aA T d c=aw h/\OkS (b h t) λB f l=>match B with |.nx=>I (i+1) f l |.ct=>I (i+1) f l |.bk=>Q .nx f l |.rt d=>Q (.rt d) f l)
  (q:∀c t,I ds.length c t->Q .nx c t) (y:I 0 c S):OkS (eJ (nxS n) T b LF 0 c S) Q:=by
 refine ie ds.length I (by delta LF;lia) (λi c t hi j=>?_) (λc t j=>{?_,q c t j}) y
 .let{h,E,z}:=step i ds[i] c t (gEG hi) j;calc{ds[i],h,?_,E,z};show(aR t n).map (λds=>ds[i]?)=_;rw[aB (v i c t j),ZL,gEG hi]
 .show(aR t n).map (λu=>u[ds.length]?)=_;rw[aB (v _ c t j),ZL,Zw (Zf _)]
def ET(B:SkOk K)(q:∀t,Sm S t->Q (bE (dQ K)) t):Ok (evC ab (k+20) 34 [skE K,dS] S) Q:=by
 calc av (d:=fP) (ρ:=[aw (skE K),aw dS,aD,aD,aD,aD,aD,aD]) rfl rfl ?_;dsimp![fP,jH];let V:=B.vd;let g7:=B.g7;let lF:=Dw.cg K.G.length K.F B.nd B.bd;k_is;delta dQ at q;refine{rfl,ES (k:=k+13) V B.bd (by lia) (λj I E T=>?_) (λR I n E T hn hN=>?_)}
 .rw[I]at q;k_is;calc aa (show ao .is .non .non E=aw (.bl aN,E) from rfl) ?_;k_is;exact q E T
 .rw[I]at q;k_is;calc aa (show ao .is (.ref n) .non E=aw (.bl aS,E) from rfl) ?_;k_is;let inR:InG K R:=Lr K.F _ [] R B.bd (λz hz=>by cases hz) I;calc{rfl,uY (k:=k+18) V hn inR ?_};calc{rfl,JJ (k:=k+18) V λU Y=>?_};k_is;let fl:=JK B (jR V inR);let fle:=fl.le;let hc:=QM (bU K).length (by lia);let kn:Kn K U.length 0 (U++[Ob.dic [] []]):={[],[],aM,{rfl,λ_ _ _ h=>by cases h},Zf _};let Z:=qW (p:=U.length) B (j:=k+14 - 2 * (bU K).length) (bU K).length;rw[show 2 * (bU K).length+5+(k+14 - 2 * (bU K).length)=k+19 by lia]at Z;calc{rfl,Z _ _ _ 0 _ fl kn (by lia) λl k3 kn3=>?_};let s3:=(T.trans Y).trans (Kp.new k3);let O:=(Kp.new k3) _ _ (Y _ _ hn);dsimp! at q;cases hb:bb K (bU K).length (aq K R) (bU K) with
  |none=>
   rw[hb]at q;rw[show bE aD = .non from rfl];k_is;calc aa (show ao .is .non .non l=aw (.bl aN,l) from rfl) ?_;k_is;exact q l s3
  |some z=>
   rw[hb]at q;rw[show bE (aw z) = .tup [.int z.1,.tup (z.2.map D.int)] from rfl];k_is;calc aa (show ao .is (.tup [.int z.1,.tup (z.2.map D.int)]) .non l=aw (.bl aS,l) from rfl) ?_;k_is;calc aa (show wQ (.ref n) l=aw (.ref l.length,l++[Ob.lst (R.map aj).reverse]) by simp![wQ,aB O]) ?_;let a4:(l++[Ob.lst (R.map aj).reverse])[l.length]?=aw (.lst (R.map aj).reverse):=aM;let s4:=s3.trans (Sm.app l [Ob.lst (R.map aj).reverse]);generalize l++[Ob.lst (R.map aj).reverse]=S4 at *;generalize l.length=N at *;let lR:=jS K.F _ _ R I;rw[Z4,YE]at lR;k_is;calc{by rw[aB a4];rfl,?_};refine vG (ds:=(R.map aj).reverse) (by rw[Yo,Za];lia) (λi L t=>t=S4/\∃u v,L=[aw (skE K),aw dS,aw (.ref n),aw (.tup [.int z.1,.tup (z.2.map D.int)]),aw (.int ((R.reverse.take i).foldl (λx y=>jnd y.2 x) z.1)),aw (.tup (z.2.map D.int)),u,v]) (λi L t J=>by rw[J.1];exact a4) (λi d L t hd J=>?_) (λL t J=>?_) ⟨rfl,_,_,rfl⟩
   .let{rfl,u,v,rfl}:=J;rw[<-List.map_reverse]at hd;let{y,X,rfl}:=oV hd;let C:=inR y (List.mem_reverse.mp (Zd X));let{a,b,c,d,e,f,h,eg,e0,e1,e2,e3,e6,a0,a1,c0}:=gl7 V C.1 C.2;calc{_,show aA (.tup [.n 6,.n 7]) (.tup [.int y.1,.int y.2]) _=_ from fS (by simp) (by simp),?_};k_is;calc aa sk2 (aa (dP C.1 eg) ?_);calc{rfl,qV (k:=k+17) ?_};k_is
    let e:(R.reverse.take (i+1)).foldl (λx y=>jnd y.2 x) z.1=jnd y.2 ((R.reverse.take i).foldl (λx y=>jnd y.2 x) z.1):=by
     rw[WK,X,List.foldl_append];rfl
    rw[e];exact⟨rfl,_,_,rfl⟩
   .let{rfl,u,v,rfl}:=J;rw[Yo,Za,<-Yo (as:=R),Yx,List.foldl_reverse];k_is;calc aa sk3 ?_;k_is;let lz:=xM _ _ _ z hb;calc{by rw[Za,Za];lia,?_};let:=q _ s4;dsimp![ZL,bE]at this
    rwa[ZF]at this
end Lw
namespace Sn
open Ev PySem Lw
def o7{b:List (Int×List Int)}(h:b≠[]):∃z,o0 b=aw z:=by
 let c:0 < b.length:=Xz.mpr h;exact{_,gEG (Yh (yy _) (by lia))}
variable {K:Sky}
def vH{left:List Int}{g:Int}(b:left.Nodup)(c:g∈left):left.Perm (g::rst left g):=by
 let e:rst left g=left.erase g:=by
  rw[List.Nodup.erase_eq_filter b];delta rst;calc YV λx _=>?_;by_cases h:x=g <;> simp[h]
 rw[e];exact Xr c
def EU{left:List Int}{g:Int}(h:left.Nodup):(rst left g).Nodup:=h.sublist Y7
def vI:∀ (n:Nat) (left:List Int) (L:List (Int×Int)) (z:Int×List Int),(∀g∈left,gi K.G g 6=0)->left.Nodup->left.length=n->L.length+n=K.G.length->bb K n (aq K L) left=aw z->z.2.Perm left/\∃R,rn K z.2 (aq K L) L = .inr R
 |0,left,L,z,_,_,ln,_,h=>by
  cases h;rw[Z1.mp ln];exact⟨List.Perm.nil,L,rfl⟩
 |n+1,left,L,z,nr,nd,ln,hn,h=>by
  rw[jU]at h;let{g,b,e}:=Yy.mp (qU h);delta bw at e;rw[show K.G.length - (n+1)=L.length by lia]at e;cases hs:step K (aq K L) g L.length with
  |none=>rw[hs]at e;cases e
  |some m=>
   rw[hs]at e;let{y,E,rfl}:=ZE.mp e;let c:=vH nd b;let j:=c.length_eq;rw[Zo]at j;let{p,R,r1}:=vI n (rst left g) (L++[(g,m)]) y (λx d=>nr x (ZM.mp d).1) (EU nd) (by lia) (by rw[Ze,Zm];lia) (by rw[aU];exact E);calc{(p.cons g).trans c.symm,R,?_};let f:cz K L g m=aS:=by delta cz;rw[nr g b];rfl
   rw[rn,hs];dsimp!;rw[f,if_neg Zh];rw[aU]at r1;exact r1
def Ls:∀ (r left:List Int) (L R:List (Int×Int)),r.Perm left->left.Nodup->L.length+r.length=K.G.length->rn K r (aq K L) L = .inr R->∃z,bb K r.length (aq K L) left=aw z
 |[],left,L,R,pm,_,_,h=>{(0,[]),rfl}
 |g::r,left,L,R,pm,nd,hn,h=>by
  rw[Zo]at hn;rw[rn]at h;cases hs:step K (aq K L) g L.length with
  |none=>rw[hs]at h;cases h
  |some m=>
   rw[hs]at h;dsimp! at h;split at h
   .cases h
   .let b:g∈left:=pm.mem_iff.mp Zj;let c:=vH nd b;let{y,E}:=Ls r (rst left g) (L++[(g,m)]) R ((pm.trans c).cons_inv) (EU nd) (by rw[Ze,Zm];lia) (by rw[aU];exact h)
    let d:(jnd m y.1,g::y.2)∈left.filterMap (bw K r.length (aq K L) left):=Yy.mpr ⟨g,b,by
     delta bw;rw[show K.G.length - (r.length+1)=L.length by lia,hs];dsimp!;rw[aU]at E;rw[E];rfl⟩
    rw[Zo,jU];exact o7 (List.ne_nil_of_mem d)
def xP:∀ (os r:List Int) (a:Option (Int×Int)) (L:List (Int×Int)),a=aq K L->rn K (os++r) a L=match rn K os a L with |.inl j=>.inl j |.inr R=>rn K r (aq K R) R
 |[],r,a,L,e=>by rw[e];rfl
 |g::os,r,a,L,e=>by
  rw[XR,rn,rn];cases step K a g L.length with
  |none=>rfl
  |some m=>
   dsimp!;split
   .rfl
   .exact xP os r _ _ (aU (z:=(g,m))).symm
def JL(c:SkOk K):∀g∈bU K,gi K.G g 6=0:=λg b=>by
 let{j,f,d}:=(sO g).mp b;let hi:g.toNat < K.G.length:=by lia
 delta gi;rw[gEG hi];rcases c.rg g.toNat _ (gEG hi) with h |h
 .exact h
 .exact absurd (by rwa[show((g.toNat:Nat):Int)=g by lia]at h) d
def vJ(b:SkOk K):K.F.length+(bU K).length=K.G.length:=by
 let:=(EC b (List.Perm.refl (kK K))).ln
 rwa[Ze]at this
def xQ(c:SkOk K)(h:(dQ K).isSome=aN):∃os R,Ord K os/\rn K os K.ah [] = .inr R:=by
 let{z,h}:=Yq.mp h;delta dQ at h;cases b:rn K K.F K.ah [] with
 |inl j=>rw[b]at h;cases h
 |inr R=>
  rw[b]at h;let{y,e,rfl}:=ZE.mp h;let l:=jS K.F _ _ R b;rw[Z4,YE]at l;let{p,T,r1}:=vI _ _ R y (JL c) sP rfl (by rw[l];exact vJ c) e;calc{K.F++y.2,T,EC c p,?_};rw[xP _ _ _ _ (show K.ah=aq K [] from rfl),b];exact r1
def JM(l:SkOk K){os:List Int}(b:Ord K os){R:List (Int×Int)}(h:rn K os K.ah [] = .inr R):(dQ K).isSome=aN:=by
 let{r,rfl}:=b.fx;rw[xP _ _ _ _ (show K.ah=aq K [] from rfl)]at h;delta dQ;cases c:rn K K.F K.ah [] with
 |inl j=>rw[c]at h;cases h
 |inr f=>
  rw[c]at h;let L:=jS K.F _ _ f c;rw[Z4,YE]at L;let nd:=Ye.mp b.nd
  let pm:r.Perm (bU K):=(YY nd.2.1 sP).mpr λx=>by
   rw[sO];constructor
   .intro d;let:=b.bd x (ZB _ d);exact{this.1,this.2,λk=>nd.2.2 x k x d rfl}
   .rintro⟨q,p,n⟩;let:x∈K.F++r:=b.pm.mem_iff.mpr (Zz.mpr {x.toNat,ZQ.mpr (by lia),by show((x.toNat:Nat):Int)=x;lia});exact(ZR.mp this).resolve_left n
  let{y,E}:=Ls r (bU K) f R pm sP (by let:=vJ l;let:=pm.length_eq;lia) h;dsimp!;rw[<-pm.length_eq,E];rfl
end Sn
namespace Sn
open Ev PySem Lw
variable {K d:Sky} {l:Bool}
def EV(b:SkOk K){g:Int}(p:0<=g)(c:g < K.G.length):0<=gi K.G g 0/\gi K.G g 0 < K.M.length:=by
 let hi:g.toNat < K.G.length:=by lia
 let{k,j,f,L,q,h,n,E,hb}:=b.gb K.G[g.toNat] (ZT hi);delta gi;rw[gEG hi,E];exact{show 0<=k by lia,show k < _ by lia}
abbrev rnm(f:Int->Int)(L:List (Int×Int)):List (Int×Int):=L.map λz=>(f z.1,z.2)
structure Lsr(K d:Sky)(f:Int->Int)(L:List (Int×Int)):Prop where
 g:∀z∈L,∀i,gi d.G (f z.1) i=gi K.G z.1 i
 r:d.r=K.r
 s:d.s=K.s
 m:d.M=K.M
 a:d.ah=K.ah
 o:d.H=K.H
def vK{j:Nat}:(rnm f L).take j=rnm f (L.take j):=by delta rnm;rw[XM]
def Lsr.sub(h:Lsr K d f L)(c:∀z∈A,z∈L):Lsr K d f A:={λz b=>h.g z (c z b),h.r,h.s,h.m,h.a,h.o}
def zg{t:Int}(h:Lsr K d f L):wts d (rnm f L) t=wts K L t:=by
 delta wts rnm;rw[Xc,Za]
 congr 1
 calc YV λz b=>?_;show(decide (gi d.G (f z.1) 1<=t) && decide (t < z.2 - d.s))=_;rw[h.g z b 1,h.s];rfl
def EW(h:Lsr K d f L):aq d (rnm f L)=aq K L:=by
 delta aq rnm;rw[List.getLast?_map];cases b:L.getLast? with
 |none=>exact h.a
 |some z=>
  show aw (gi d.G (f z.1) 0,z.2)=_;rw[h.g z (Xq b) 0]
def EX(h:Lsr K d f (z::L)):gU d (rnm f L) (f z.1) z.2=gU K L z.1 z.2:=by
 let c:=h.sub (A:=L) λy b=>Zg _ b
 let e:dg d (rnm f L) (f z.1) z.2=dg K L z.1 z.2:=by
  delta dg;let j:jn d (f z.1)=jn K z.1:=h.g z Zj 1
  let E:(rnm f L).map (λp=>jn d p.1)=L.map λp=>jn K p.1:=by
   delta rnm;rw[ZS];exact Ym λy b=>c.g y b 1
  rw[j,E,h.s]
 delta gU;rw[e]
 congr 1
 exact Ym λt _=>by rw[zg c]
def EY(h:Lsr K d f L)(kp:pU K L):pU d (rnm f L):=λj y hy=>by
 delta rnm at hy;rw[Zq]at hy;let{z,p,rfl}:=ZE.mp hy;let k:=kp j z p;let b:=Zd p
 let n:Lsr K d f (z::L.take j):=h.sub λy hy=>by
  rcases Zn.mp hy with rfl |hy
  .exact b
  .exact YW hy
 refine{by rw[h.g z b 2];exact k.lo,by rw[h.g z b 3];exact k.hi,by rw[h.o];exact k.op,λa c=>?_,?_,?_}
 .rw[vK,EW (n.sub λy hy=>Zg _ hy)]at c;let:=k.gap a c;show a.2+gp d a.1 (gi d.G (f z.1) 0)<=z.2;delta gp;rw[h.m,h.g z b 0];exact this
 .rw[zg h,show jn d (f z.1)=jn K z.1 from h.g z b 1,h.r];exact k.wt
 .let:=k.rg;delta cz at this ⊢;rw[vK,EX n,h.g z b 6];exact this
def A9{g m:Int}(h:List.Sublist P A):gU K P g m<=gU K A g m:=by
 delta gU;refine y7 (λx c=>?_) λy f=>?_
 .let{t,b,rfl}:=Zz.mp c;calc{1+(wts K A t:Int),Zz.mpr {t,?_,rfl},by let:wts K P t<=wts K A t:=(h.filter _).length_le;lia};delta dg at b ⊢;let{h1,j}:=ZM.mp b;calc ZM.mpr {?_,j};rcases Zn.mp h1 with e |h1
  .rw[e];exact Zj
  .exact Zg _ ((h.map _).subset h1)
 .let{t,_,rfl}:=Zz.mp f
  lia
def Ba{g m:Int}(h:List.Sublist P A)(b:cz K A g m=aS):cz K P g m=aS:=by
 let:=A9 (K:=K) (g:=g) (m:=m) h;delta cz at b ⊢;cases c:decide (0 < gi K.G g 6) with
 |false=>rfl
 |true=>
  rw[c,YR]at b;rw[YR];let:=of_decide_eq_false b;exact decide_eq_false (by lia)
def QN(f:SkOk K){a b c:Int}(j:0<=a)(h:a < K.M.length)(k:0<=b)(B:b < K.M.length)(n:0<=c)(C:c < K.M.length):gp K a b<=gp K a c+gp K c b:=f.me.tri a.toNat b.toNat c.toNat (by lia) (by lia) (by lia)
def Bb(n:SkOk K)(v:InG K (A++x::B))(kp:pU K (A++x::B)):pU K (A++B):=λj z f=>by
 let sub:List.Sublist (A++B) (A++x::B):=(XX x B).append_left A;let wt:∀ {t:Int},wts K (A++B) t<=wts K (A++x::B) t:=λ{t}=>(sub.filter _).length_le;by_cases U:j < A.length
 .let c:(A++x::B)[j]?=aw z:=by rw[Zt U]at f ⊢;exact f
  let k:=kp j z c;let e:(A++B).take j=(A++x::B).take j:=by rw[Xs (by lia),Xs (by lia)]
  exact{k.lo,k.hi,k.op,by rw[e];exact k.gap,by let:=k.wt;let:=wt (t:=jn K z.1);lia,by rw[e];exact k.rg}
 .obtain⟨i,rfl⟩:∃i,j=A.length+i:={j - A.length,by lia};rw[Zp (by lia),show A.length+i - A.length=i by lia]at f;let c:(A++x::B)[A.length+(i+1)]?=aw z:=by rw[Zp (by lia),show A.length+(i+1) - A.length=i+1 by lia];exact f
  let k:=kp _ z c;let Q:(A++B).take (A.length+i)=A++B.take i:=XC _;let O:(A++x::B).take (A.length+(i+1))=A++x::B.take i:=XC _;refine{k.lo,k.hi,k.op,λa h=>?_,by let:=k.wt;let:=wt (t:=jn K z.1);lia,?_}
  .rw[Q]at h;let u:=k.gap;rw[O]at u;cases i with
   |succ i=>
    cases B with
    |nil=>cases f
    |cons b B=>
     calc u a ?_;rw[List.take_succ_cons]at h ⊢;delta aq at h ⊢;rw[YX,Xd]at h;rw[YX,List.getLast?_cons_cons,Xd];exact h
   |zero=>
    rw[YK,Z8]at h;let L:=u (gi K.G x.1 0,x.2) (by rw[YK];exact aU);let T:=kp A.length x oZ;let X:=T.gap a (by rw[gW];exact h);let C:=v x (ZB _ Zj);let p:=v z (ZB _ (Zg _ (Zd f)));let nx:=EV n C.1 C.2;let I:=EV n p.1 p.2
    let E:0<=a.1/\a.1 < K.M.length:=by
     delta aq at h;cases q:A.getLast? with
     |none=>rw[q]at h;let:=n.ah a h;exact⟨this.1,this.2.1⟩
     |some y=>
      rw[q]at h;cases h;let J:=v y (ZW _ (Xq q));exact EV n J.1 J.2
    let:=QN n E.1 E.2 I.1 I.2 nx.1 nx.2;let L:x.2+gp K (gi K.G x.1 0) (gi K.G z.1 0)<=z.2:=L
    lia
  .rw[Q];calc Ba ?_ (by let:=k.rg;rw[O]at this;exact this);exact(XX x _).append_left A
def gX(b:SkOk K)(c:Int×Int->Bool):∀ (B A:List (Int×Int)),InG K (A++B)->pU K (A++B)->pU K (A++B.filter c)
 |[],A,_,kp=>kp
 |x::B,A,hL,kp=>by
  rw[ZZ];split
  .let:=gX b c B (A++[x]) (by rw[<-cY];exact hL) (by rw[<-cY];exact kp)
   rwa[<-cY]at this
  .calc gX b c B A (λz hz=>hL z ?_) (Bb b hL kp);rcases ZR.mp hz with hz |hz
   .exact ZW _ hz
   .exact ZB _ (Zg _ hz)
def JN{os:List Int}{L:List (Int×Int)}(b:Ord K os)(h:L.map (·.1)=os):InG K L:=λz c=>b.bd z.1 (h▸Zz.mpr ⟨z,c,rfl⟩)
def zh:∀ (a b:List Int),a.Nodup->(∀x∈a,x∈b)->b.length<=a.length->a.Perm b
 |[],b,_,_,h=>by rw[Z1.mp (Nat.le_zero.mp h)]
 |x::a,b,c,hs,h=>by
  let j:=hs x Zj;let p:=Xr j;let k:=p.length_eq;rw[Zo]at k h;let c:=Z9.mp c;exact((zh a (b.erase x) c.2 (λy f=>(Wb (λ(e:y=x)=>c.1 (e▸f))).mpr (hs y (Zg _ f))) (by lia)).cons x).trans p.symm
def QO{os:List Int}(nd:os.Nodup)(bd:∀g∈os,0<=g/\g < K.G.length)(ln:os.length=K.G.length)(fx:∃r,os=K.F++r):Ord K os:=
 ⟨nd,bd,ln,fx,zh _ _ nd (λx h=>by
  let:=bd x h;exact Zz.mpr {x.toNat,ZQ.mpr (by lia),by show((x.toNat:Nat):Int)=x;lia}) (by rw[Za,ZC];lia)⟩
end Sn
namespace Sn
open Ev PySem Lw
abbrev gl(K:Sky)(x:Int):List Int:=(K.G[x.toNat]?).getD []
abbrev ixI(l:List Int)(x:Int):Int:=(l.idxOf x:Nat)
abbrev fxd(K:Sky)(l:List Int):List Int:=K.F.filter λx=>decide (x∈l)
abbrev nar(K:Sky)(l:List Int):Sky:={K with G:=l.map (gl K),F:=(fxd K l).map (ixI l)}
structure LotK(K:Sky)(lot:List Int):Prop where
 nd:lot.Nodup
 bd:∀x∈lot,0<=x/\x < K.G.length
abbrev lnd(K:Sky)(l:List Int):Bool:=(dQ (nar K l)).isSome
def zi:∀ (a b:List Int),a.Nodup->(∀x∈a,x∈b)->a.length<=b.length
 |[],b,_,_=>Z2 _
 |x::a,b,h,hs=>by
  let d:=(Xr (hs x Zj)).length_eq;let h:=Z9.mp h;let:=zi a (b.erase x) h.2 λy c=>(Wb (λ(e:y=x)=>h.1 (e▸c))).mpr (hs y (Zg _ c));rw[Zo]at d ⊢
  lia
variable {K:Sky} {a b L:List Int}
def LotK.len(h:LotK K L):L.length<=K.G.length:=by
 let:=zi L ((Zi K.G.length).map Int.ofNat) h.nd λx c=>by
  let:=h.bd x c;exact Zz.mpr {x.toNat,ZQ.mpr (by lia),by show((x.toNat:Nat):Int)=x;lia}
 rwa[Za,ZC]at this
def qX{x:Int}(h:x∈L):L[(ixI L x).toNat]?=aw x:=by
 let c:=Xa.mpr h;show L[((L.idxOf x:Nat):Int).toNat]?=_;rw[ZK,gEG c,Wl c]
def zj{x:Int}(h:x∈L):0<=ixI L x/\ixI L x < L.length:=by
 let:=Xa.mpr h;delta ixI
 lia
def EZ{x y:Int}(c:x∈L)(d:y∈L)(h:ixI L x=ixI L y):x=y:=by
 let:=qX c;rw[h,qX d]at this;exact(Option.some.inj this).symm
def jP{i:Nat}{x:Int}(nd:L.Nodup)(h:L[i]?=aw x):ixI L x=i:=by
 let c:=Zd h;let d:=qX c;let k:=(Zb.mp h).1;let I:=(Zb.mp d).1
 let e:(ixI L x).toNat=i:=by
  let f:=(Zb.mp d).2;let j:=(Zb.mp h).2;exact(Y1 nd).mp (f.trans j.symm)
 let:=zj c
 lia
def kL{d j:Type}{f:d->j}:∀ {l:List d},l.Nodup->(∀x∈l,∀y∈l,f x=f y->x=y)->(l.map f).Nodup
 |[],_,_=>Xf
 |x::l,h,i=>by
  let h:=Z9.mp h;rw[Zy];calc Z9.mpr {λz=>?_,kL h.2 λx k y c=>i x (Zg _ k) y (Zg _ c)};let{y,c,e}:=Zz.mp z;exact h.1 (i _ (Zg _ c) _ Zj e▸c)
def kM{x:Int}(h:x∈fxd K L):x∈K.F/\x∈L:=by
 let{d,c}:=ZM.mp h;exact{d,of_decide_eq_true c}
def sV(hl:LotK K L){x:Int}(h:x∈L):K.G[x.toNat]?=aw (gl K x):=by
 let:=hl.bd x h;let hi:x.toNat < K.G.length:=by lia
 delta gl;rw[gEG hi];rfl
def sW(f:SkOk K)(hl:LotK K L):SkOk (nar K L):=by
 refine{f.me,?_,λg d=>?_,kL (f.nd.sublist Y7) λx c y l e=>EZ (kM c).2 (kM l).2 e,λy l=>?_,λj g d=>?_,f.ah}
 .show(L.map (gl K)).length<=7;let:=hl.len;let:=f.g7;rw[Za];lia
 .let{x,c,rfl}:=Zz.mp d;exact f.gb _ (Zd (sV hl c))
 .let{x,c,rfl}:=Zz.mp l;show _/\_ < ((L.map (gl K)).length:Int);rw[Za];exact zj (kM c).2
 .let d:(L.map (gl K))[j]?=aw g:=d;rw[Zq]at d;let{x,c,rfl}:=ZE.mp d;let k:=Zd c;let:=hl.bd x k;refine(f.rg x.toNat _ (sV hl k)).imp_right λh=>Zz.mpr {x,ZM.mpr {?_,decide_eq_true k},jP hl.nd c}
  rwa[show((x.toNat:Nat):Int)=x by lia]at h
def E5{L:List Int}{i:Int}{x:Int}(h:L[i.toNat]?=aw x)(k:Nat):gi (nar K L).G i k=(gl K x).getD k 0:=by
 delta gi;show(((L.map (gl K))[i.toNat]?).getD []).getD k 0=_;rw[Zq,h];rfl
def E6(sk:SkOk K)(X:LotK K a)(hb:LotK K b)(sub:∀x∈b,x∈a)(h:lnd K a=aN):lnd K b=aN:=by
 let C:=sW sk X;let E:=sW sk hb;let{os,R,B,hr}:=xQ C h;let{Z,kp}:=JD C B hr;let hG:=JN B Z;let la:((nar K a).G.length:Int)=a.length:=by show((a.map (gl K)).length:Int)=_;rw[Za]
 let lb:((nar K b).G.length:Int)=b.length:=by show((b.map (gl K)).length:Int)=_;rw[Za]
 let U:(nar K b).G.length=b.length:=by lia
 letI v:Int->Int:=λi=>a.getD i.toNat 0
 let Q:∀i∈os,a[i.toNat]?=aw (v i):=λi hi=>by
  let:=B.bd i hi;let hl:i.toNat < a.length:=by lia
  show _=aw (a.getD i.toNat 0);rw[Zr,gEG hl];rfl
 letI c:Int×Int->Bool:=λz=>decide (v z.1∈b)
 letI f:Int->Int:=λi=>ixI b (v i)
 let O:=gX C c R [] hG kp;rw[XZ]at O
 let inR:∀z∈R.filter c,z.1∈os/\v z.1∈b:=λz T=>by
  let{k,n}:=ZM.mp T;exact{Z▸Zz.mpr ⟨z,k,rfl⟩,of_decide_eq_true n}
 let ls:Lsr (nar K a) (nar K b) f (R.filter c):=⟨λz T i=>by
  let{k,n}:=inR z T;rw[E5 (qX n),E5 (Q _ k)],rfl,rfl,rfl,rfl,rfl⟩
 let Y:=EY ls O
 let ef:(rnm f (R.filter c)).map (·.1)=(os.filter λi=>decide (v i∈b)).map f:=by
  delta rnm;rw[ZS,<-Z,Xc,ZS];rfl
 let u:∀x∈os,∀y∈os,v x=v y->x=y:=λx d y l e=>by
  let k:=Q x d;let n:=Q y l;rw[<-e]at n;let q1:=jP X.nd k;let q2:=jP X.nd n;let:=B.bd x d;let:=B.bd y l
  lia
 let j:∀i∈os.filter (λi=>decide (v i∈b)),i∈os/\v i∈b:=λi hi=>by
  let{k,n}:=ZM.mp hi;exact{k,of_decide_eq_true n}
 let J:Ord (nar K b) ((rnm f (R.filter c)).map (·.1)):=by
  rw[ef];let nf:=B.nd.sublist (Y7 (p:=λi=>decide (v i∈b)));refine QO (kL nf λx d y l e=>?_) (λy l=>?_) ?_ ?_
  .exact u x (j x d).1 y (j y l).1 (EZ (j x d).2 (j y l).2 e)
  .let{x,d,rfl}:=Zz.mp l;rw[lb];exact zj (j x d).2
  .rw[Za,U,<-Za (f:=v)];refine List.Perm.length_eq ((YY (kL nf λx d y l e=>u x (j x d).1 y (j y l).1 e) hb.nd).mpr λx=>{λd=>?_,λd=>?_})
   .let{i,hi,rfl}:=Zz.mp d;exact(j i hi).2
   .let I:=sub x d;let k:=qX I;let n:=zj I;let hm:ixI a x∈os:=B.pm.mem_iff.mpr (Zz.mpr {(ixI a x).toNat,ZQ.mpr (by lia),by show(((ixI a x).toNat:Nat):Int)=_;lia})
    let ev:v (ixI a x)=x:=by
     let:=Q _ hm;rw[k]at this;exact(Option.some.inj this).symm
    exact Zz.mpr {ixI a x,ZM.mpr {hm,decide_eq_true (ev.symm▸d)},ev}
  .let{r,er}:=B.fx;calc{(r.filter λi=>decide (v i∈b)).map f,?_};rw[er,Xe,ZF]
   congr 1
   let hv:∀x∈fxd K a,v (ixI a x)=x:=λx d=>by
    let k:=qX (kM d).2;show a.getD (ixI a x).toNat 0=x;rw[Zr,k];rfl
   show(((fxd K a).map (ixI a)).filter λi=>decide (v i∈b)).map f=(fxd K b).map (ixI b);rw[Xc,ZS]
   let e2:(fxd K a).filter ((λi=>decide (v i∈b)) ∘ ixI a)=fxd K b:=by
    rw[YV (q:=λx=>decide (x∈b)) λx d=>by show decide (v (ixI a x)∈b)=_;rw[hv x d]];delta fxd;rw[Wo];calc YV λx _=>?_;by_cases d:x∈b
    .simp[d,sub x d]
    .simp[d]
   rw[e2];calc Ym λx d=>?_;show ixI b (v (ixI a x))=_;rw[hv x (ZM.mpr {(kM d).1,decide_eq_true (sub x (kM d).2)})]
 let{R',r1,_}:=vt E J (rnm f (R.filter c)) [] [] rfl Y .nil;exact JM E J r1
end Sn
namespace Sn
open Ev PySem Lw
abbrev bq(l:List Int)(ls:List (List Int)):Bool:=ls.any λo=>o.all λx=>decide (x∈l)
abbrev pk(c:List Int->Bool):List (List Int)->List (List Int)->List (List Int)
 |[],acc=>acc
 |l::ls,acc=>pk c ls (if (!bq l acc && c l)=aN then acc++[l] else acc)
def zk:bq L (a++b)=(bq L a || bq L b):=by delta bq;rw[X1]
def sX:∀ (ls b:List (List Int)),o∈pk c ls b->o∈b\/(o∈ls/\c o=aN)
 |[],b,h=>.inl h
 |l::ls,b,h=>by
  delta pk at h;rcases sX ls _ h with h |⟨h,hc⟩
  .split at h
   .rename_i d;rw[bAE]at d;rcases ZR.mp h with h |h
    .exact .inl h
    .rw[ZG.mp h];exact .inr ⟨Zj,d.2⟩
   .exact .inl h
  .exact .inr {Zg _ h,hc}
def zl:∀ (ls b:List (List Int)),bq L b=aN->bq L (pk c ls b)=aN
 |[],b,h=>h
 |l::ls,b,h=>by
  delta pk;calc zl ls _ ?_;split
  .rw[zk,h];rfl
  .exact h
def E7:bq L [L]=aN:=by delta bq;simp
def E8(hc:c L=aN):∀ (ls b:List (List Int)),L∈ls->bq L (pk c ls b)=aN
 |l::ls,b,h=>by
  delta pk;rcases Zn.mp h with rfl |h
  .calc zl ls _ ?_;split
   .rw[zk,E7,Bool.or_true]
   .rename_i d;rw[hc,WN]at d
    simpa using d
  .exact E8 hc ls _ h
def vL:∀ (ls b:List (List Int)),(∀l∈ls,c l=C l)->pk c ls b=pk C ls b
 |[],b,_=>rfl
 |l::ls,b,h=>by
  delta pk;rw[h l Zj];exact vL ls _ λx d=>h x (Zg _ d)
def Bc{P:List Int->Bool}{ls:List (List Int)}(mono:∀a∈ls,∀b∈ls,(∀x∈b,x∈a)->P a=aN->P b=aN){L:List Int}(f:L∈ls):(!bq L (pk (λl=>!P l) ls []))=P L:=by
 cases c:P L with
 |false=>rw[E8 (by rw[c];rfl) ls [] f];rfl
 |true=>
  cases d:bq L (pk (λl=>!P l) ls []) with
  |false=>rfl
  |true=>
   delta bq at d;let{o,k,hs}:=XN.mp d;rcases sX ls [] k with h |⟨h1,h2⟩
   .cases h
   .rw[mono L f o h1 (λx j=>of_decide_eq_true (Yc.mp hs x j)) c]at h2;cases h2
abbrev aX:Nat->List (List Int)
 |0=>[[]]
 |n+1=>aX n++(aX n).map (·++[(n:Int)])
def cZ:∀ (n:Nat) (l:List Int),l∈aX n->l.Nodup/\∀x∈l,0<=x/\x < n
 |0,l,h=>by rw[ZG.mp h];exact{Xf,λx hx=>by cases hx}
 |n+1,l,h=>by
  rcases ZR.mp h with h |h
  .let{c,b}:=cZ n l h;exact{c,λx hx=>by let:=b x hx;lia}
  .let{k,f,rfl}:=Zz.mp h;let{c,b}:=cZ n k f;refine{Ye.mpr {c,by simp,λx hx y d e=>?_},λx hx=>?_}
   .let:=b x hx;let:=ZG.mp d
    lia
   .rcases ZR.mp hx with hx |hx
    .let:=b x hx;lia
    .let:=ZG.mp hx;lia
def ci:∀n,(aX n).length=2 ^ n
 |0=>rfl
 |n+1=>by delta aX;rw[Ze,Za,ci n,Nat.pow_succ];lia
def o8:∀n,(aX n).Nodup
 |0=>by simp[aX]
 |n+1=>by
  delta aX;calc Ye.mpr {o8 n,kL (o8 n) λx _ y _ e=>List.append_cancel_right e,λx h y b e=>?_};let{k,c,rfl}:=Zz.mp b;let:=(cZ n x h).2 n (by rw[e];exact ZB _ (ZG.mpr rfl))
  lia
def qY(c:Nat->Bool):∀n,((Zi n).filter c).map (λ(j:Nat)=>(j:Int))∈aX n
 |0=>by simp[aX]
 |n+1=>by
  rw[Xw,Xe,ZF];delta aX;let I:=qY c n;by_cases h:c n=aN
  .rw[ZZ,if_pos h];exact ZB _ (Zz.mpr ⟨_,I,rfl⟩)
  .rw[ZZ,if_neg h];rw[List.filter_nil,Z0,Z8];exact ZW _ I
def E9(h:l∈aX K.G.length):LotK K l:={(cZ _ l h).1,(cZ _ l h).2}
abbrev bD(n:Nat)(l:List Int):List Int:=((Zi n).filter λ(j:Nat)=>!decide ((j:Int)∈l)).map λ(j:Nat)=>(j:Int)
def o9{n:Nat}:bD n l∈aX n:=qY _ n
abbrev slots(n:Nat):List (List Int):=c9 (aX n) [] (aX n)
def vM{b c:Type}{g:b->c}{d:b}{d':c}{ls:List (List Int)}{v:List b}:c9 ls d' (v.map g)=(c9 ls d v).map g:=by
 delta c9;rw[Za];split
 .rfl
 .rw[ZS];calc Ym λi hi=>?_;let:=(Ev.gu (by lia)).1 i hi;show(v.map g).getD i d'=g (v.getD i d);rw[Zr,Zr,Zq,gEG this];rfl
def QZ{c:Type}{d:c}{ls:List (List Int)}{vs:List c}:(c9 ls d vs).Perm vs:=by
 delta c9;split
 .exact List.Perm.refl _
 .rename_i h;let f:Pm vs.length (bV (λi j=>cS (eK ls i) (eK ls j)) (V4 vs.length)):=(jz (by lia)).run
  let k:((bV (λi j=>cS (eK ls i) (eK ls j)) (V4 vs.length)).toList.map λi=>vs.getD i d).Perm ((Zi vs.length).map λi=>vs.getD i d):=by
   calc List.Perm.map _ ?_;let:=f.toList
   simpa using this
  refine k.trans ?_
  let e:(Zi vs.length).map (λi=>vs.getD i d)=vs:=by
   calc YS λj=>?_;rw[Zq];by_cases b:j < vs.length
   .rw[Yn b,gEG b];show aw (vs.getD j d)=_;rw[Zr,gEG b];rfl
   .rw[Zw (by simpa using b),Zw (by simpa using b)];rfl
  rw[e]
def Q0{n:Nat}{l:List Int}:l∈slots n ↔ l∈aX n:=QZ.mem_iff
def Fa{n:Nat}:(slots n).Nodup:=QZ.nodup_iff.mpr (o8 n)
def kN{n:Nat}:(slots n).length=2 ^ n:=by delta slots;rw[QZ.length_eq,ci]
def Fb(ls:List (List Int)):dF (ls.map λl=>((l.length:Int),l))=λi j=>cS (eK ls i) (eK ls j):=by
 funext i j
 let e:∀i,(ls.map λl=>((l.length:Int),l)).getD i (0,[])=eK ls i:=λi=>by
  delta eK;rw[Zr,Zr,Zq];cases ls[i]? <;> rfl
 delta dF;rw[e,e]
def JO{b:Type}{d:b}(ls:List (List Int))(vs:List b):iu (ls.map λl=>((l.length:Int),l)) d vs=c9 ls d vs:=by
 delta iu c9;rw[Fb]
end Sn
namespace Sn
open Ev PySem Lw
variable {K:Sky} {os:List Int} {L:List (Int×Int)}
def JP{b:Type}{P:List b->Prop}(c:P [])(h:∀l x,P l->P (l++[x]))(l:List b):P l:=by
 rw[<-List.reverse_reverse l]
 induction l.reverse with
 |nil=>exact c
 |cons a l I=>rw[Yl];exact h _ _ I
abbrev dw(K:Sky):List Int:=(Zi K.G.length).map λ(j:Nat)=>(j:Int)
def jV:(dw K).length=K.G.length:=by delta dw;rw[Za,ZC]
def Fc{g:Int}:g∈dw K ↔ 0<=g/\g < K.G.length:=by
 delta dw;rw[Zz];constructor
 .rintro⟨j,b,rfl⟩;let:=ZQ.mp b
  lia
 .intro h;exact⟨g.toNat,ZQ.mpr (by lia),by lia⟩
abbrev lft(K:Sky)(os:List Int):List Int:=(dw K).filter λg=>!decide (g∈os)
structure Nd(K:Sky)(os:List Int)(L:List (Int×Int)):Prop where
 fs:L.map (·.1)=os
 nd:os.Nodup
 bd:∀g∈os,0<=g/\g < K.G.length
def Us{g:Int}:g∈lft K os ↔ (0<=g/\g < K.G.length)/\g∉os:=by
 delta lft;rw[ZM,Fc];simp
def vN(K:Sky)(os:List Int)(g:Int):lft K (os++[g])=rst (lft K os) g:=by
 delta lft rst;rw[Wo];calc YV λx _=>?_;simp[Bool.and_comm]
def Nd.snoc{g m:Int}(nd:Nd K os L)(c:g∈lft K os):Nd K (os++[g]) (L++[(g,m)]):=by
 let{hb,h}:=Us.mp c;calc{by rw[ZF,nd.fs];rfl,Ye.mpr {nd.nd,by simp,λx hx y b z=>by rw[ZG.mp b]at z;exact h (z▸hx)},λx hx=>?_};rcases ZR.mp hx with hx |hx
 .exact nd.bd x hx
 .rw[ZG.mp hx];exact hb
def fV{K:Sky}:∀ (os:List Int),os.Nodup->(∀g∈os,0<=g/\g < K.G.length)->(lft K os).length+os.length=K.G.length:=by
 refine JP (λ_ _=>?_) λos g I nd bd=>?_
 .delta lft;rw[XB.mpr (λx _=>by simp),jV];rfl
 .let{c,j,f}:=Ye.mp nd;let h:=I c λx b=>bd x (ZW _ b);let d:g∈lft K os:=Us.mpr {bd g (by simp),λb=>f g b g (by simp) rfl};let n:(lft K os).Nodup:=List.Pairwise.filter _ (YU.mpr (Y5.imp λh z=>h (Int.ofNat.inj z)));let:=sU n d;rw[vN,Ze,Zm]
  lia
abbrev chl(K:Sky)(os:List Int)(L:List (Int×Int))(gs:List Int):List (List Int×List (Int×Int)):=gs.filterMap λg=>if decide (g∈os)=aN then aD else (step K (aq K L) g os.length).map λm=>(os++[g],L++[(g,m)])
def pc{g:Int}{gs:List Int}:chl K os L (g::gs)=(if decide (g∈os)=aN then [] else match step K (aq K L) g os.length with |none=>[] |some m=>[(os++[g],L++[(g,m)])])++chl K os L gs:=by
 delta chl;rw[Ys];cases decide (g∈os) with
 |true=>rfl
 |false=>cases step K (aq K L) g os.length <;> rfl
abbrev lv(K:Sky)(z:List Int×List (Int×Int)):Bool:=(bb K (~~~K - z.1.length) (aq K z.2) (lft K z.1)).isSome
def Fd{b:Type}{f:b->Option (Int×List Int)}:∀ (l:List b),(o0 (l.filterMap f)).isSome=l.any λa=>(f a).isSome
 |[]=>rfl
 |a::l=>by
  let I:=Fd (f:=f) l;rw[Ys,Yu];cases f a with
  |none=>exact I
  |some z=>
   let{y,e}:=o7 (List.cons_ne_nil z (l.filterMap f));dsimp!;rw[e];rfl
def zm{n:Nat}(h:K.G.length - (os.length+1)=n)(b:K.G.length - (n+1)=os.length):∀ (gs:List Int),(chl K os L gs).any (lv K)=(gs.filter λg=>!decide (g∈os)).any λg=>(bw K n (aq K L) (lft K os) g).isSome
 |[]=>rfl
 |g::gs=>by
  rw[pc,X1,zm h b gs,ZZ];cases decide (g∈os) with
  |true=>rfl
  |false=>
   rw[if_neg (by decide),if_pos (by decide),Yu]
   congr 1
   delta bw;rw[b];cases step K (aq K L) g os.length with
   |none=>rfl
   |some m=>
    show(lv K (os++[g],L++[(g,m)]) || false)=_;delta lv;dsimp!;rw[Y9,aU,vN,Ze,Zm,h,YT]
def mD:∀ (gs:List Int),(chl K os L gs).length<=(gs.filter λg=>!decide (g∈os)).length
 |[]=>Zf _
 |g::gs=>by
  let I:=mD gs;rw[pc,ZZ];cases decide (g∈os) with
  |true=>exact I
  |false=>
   rw[if_neg (by decide),if_pos (by decide),Ze,Zo];split
   .show 0+_<=_;lia
   .show 1+_<=_;lia
def JQ(nd:Nd K os L)(h:os.length=K.G.length):chl K os L (dw K)=[]:=by
 let b:=fV os nd.nd nd.bd;let c:(chl K os L (dw K)).length<=(lft K os).length:=mD _;exact List.eq_nil_of_length_eq_zero (by lia)
def QP(nd:Nd K os L):lv K (os,L)=(decide (os.length=K.G.length) || (chl K os L (dw K)).any (lv K)):=by
 let c:=fV os nd.nd nd.bd;by_cases h:os.length=K.G.length
 .delta lv;dsimp!;rw[decide_eq_true h,h,ZY];rfl
 .obtain⟨n,b⟩:∃n,K.G.length - os.length=n+1:={K.G.length - os.length - 1,by lia};rw[decide_eq_false h,zm (n:=n) (by lia) (by lia)];delta lv;dsimp!;rw[b,jU,Fd];rfl
def JR(nd:Nd K os L):∀z∈chl K os L (dw K),z.1.length=os.length+1:=λz h=>by
 let{g,b,e}:=Yy.mp h;split at e
 .cases e
 .let{m,hs,rfl}:=ZE.mp e;rw[Ze,Zm]
abbrev sz:Nat->Nat
 |0=>1
 |n+1=>1+(n+1) * sz n
abbrev mu(K:Sky):List (List Int×List (Int×Int))->Nat
 |[]=>0
 |z::T=>sz (~~~K - z.1.length)+mu K T
def Fe:∀ (A B:List (List Int×List (Int×Int))),mu K (A++B)=mu K A+mu K B
 |[],B=>by show mu K B=0+mu K B;lia
 |z::A,B=>by
  let:=Fe A B;show sz _+mu K (A++B)=sz _+mu K A+mu K B
  lia
def zn{n:Nat}:∀ (T:List (List Int×List (Int×Int))),(∀z∈T,K.G.length - z.1.length=n)->mu K T=T.length * sz n
 |[],_=>(WU _).symm
 |z::T,h=>by
  let:=zn T λy b=>h y (Zg _ b);rw[mu,h z Zj,this,Zo,XU];lia
def QQ(nd:Nd K os L):mu K (chl K os L (dw K)) < sz (~~~K - os.length):=by
 let f:=fV os nd.nd nd.bd;by_cases h:os.length=K.G.length
 .rw[JQ nd h,h,ZY];exact Nat.zero_lt_one
 .obtain⟨n,b⟩:∃n,K.G.length - os.length=n+1:={K.G.length - os.length - 1,by lia};rw[zn (n:=n) _ λz c=>by let:=JR nd z c;lia,b,sz];let d:(chl K os L (dw K)).length<=(lft K os).length:=mD _;let:(chl K os L (dw K)).length * sz n<=(n+1) * sz n:=YZ _ (by lia)
  lia
def Lu:∀ (bs:List Int) (a:Option (Int×Int)) (os:List Int) (L R:List (Int×Int)),Nd K os L->(os++bs).Nodup->(∀g∈bs,0<=g/\g < K.G.length)->rn K bs a L = .inr R->Nd K (os++bs) R
 |[],_,os,L,R,nd,_,_,e=>by cases e;rw[Z8];exact nd
 |g::bs,a,os,L,R,nd,n2,bd,e=>by
  rw[rn]at e;split at e
  .cases e
  .split at e
   .cases e
   .let b:g∈lft K os:=Us.mpr {bd g Zj,λz=>(Ye.mp n2).2.2 g z g Zj rfl};let:=Lu bs _ (os++[g]) _ R (nd.snoc b) (by rw[Yk];exact n2) (λx h=>bd x (Zg _ h)) e
    rwa[Yk]at this
def QR(b:SkOk K){R:List (Int×Int)}(h:rn K K.F K.ah [] = .inr R):Nd K K.F R:=Lu K.F K.ah [] [] R {rfl,Xf,λ_ h=>(by cases h)} b.nd b.bd h
def JS(b:SkOk K):(dQ K).isSome=match rn K K.F K.ah [] with |.inl _=>aS |.inr R=>lv K (K.F,R):=by
 let h:=fV K.F b.nd b.bd
 let e:bU K=lft K K.F:=by
  delta bU lft dw;rw[Xc];rfl
 delta dQ lv;cases rn K K.F K.ah [] with
 |inl j=>rfl
 |inr R=>
  dsimp!;rw[YT,e,show(lft K K.F).length=K.G.length - K.F.length by lia]
end Sn
namespace Ev
open PySem L2
def vO{c:XT}{b:XS}{Q:Fl->Rho->Sto->Prop}(I:Nat->Rho->Sto->Prop)(step:∀n j S,I n j S->Ok (c j S) λt v=>if t=aN then OkS (b j v) λu f l=>(match u with |.nx=>∃m,m < n/\I m f l |.ct=>∃m,m < n/\I m f l |.bk=>Q .nx f l |.rt d=>Q (.rt d) f l) else Q .nx j v) :
  ∀ (k n:Nat) (j:Rho) (S:Sto),n < k->I n j S->OkS (bH c b k j S) Q
 |0,n,j,S,h,_=>absurd h (XY _)
 |k+1,n,j,S,h,i=>by
  let{t,v,e,q}:=step n j S i;cases t with
  |false=>rw[if_neg Zh]at q;exact{.nx,j,v,by simp![bH,e],q}
  |true=>
   rw[if_pos rfl]at q;let{u,f,l,E,q}:=q;let go:(∃m,m < n/\I m f l)->OkS (bH c b k f l) Q:=λ⟨m,J,C⟩=>vO I step k m f l (by lia) C;cases u with
   |nx=>
    let{u,p,z,B,y}:=go q;exact{u,p,z,by simp![bH,e,E];exact B,y}
   |ct=>
    let{u,p,z,B,y}:=go q;exact{u,p,z,by simp![bH,e,E];exact B,y}
   |bk=>exact{.nx,f,l,by simp![bH,e,E],q}
   |rt d=>exact{.rt d,f,l,by simp![bH,e,E],q}
end Ev
namespace Lw
open PySem Ev Sn L2
variable {p:Nat} {S l:Sto} {k:Nat} {Q:D->Sto->Prop} {K:Sky}
def Be{c:Int}{xs:List Int}:fX c aS (xs.map D.int) S=aw (.int (pK c xs),S):=by delta fX;rw[dr]
def QS{os:List Int}{L:List (Int×Int)}(nd:Nd K os L):InG K L:=λz h=>nd.bd z.1 (nd.fs▸Zz.mpr ⟨z,h,rfl⟩)
def Ff{os:List Int}{L:List (Int×Int)}{n:Nat}(nd:Nd K os L)(lo:os.length<=7)(h:S[n]?=aw (.lst (L.map aj)))(q:∀x l,Sm S l->Q (.int x) l):Ok (evC ab (k+1) 56 [skE K,.ref n,dS] S) Q:=by
 calc av (d:=gO) (ρ:=[aw (skE K),aw (.ref n),aw dS]) rfl rfl ?_;dsimp![gO,lB];let j:L.length<=1000:=by let:=congrArg Zl nd.fs;rw[Za]at this;lia
 k_is;calc aa (show ao .eq dS (.str "last") S=aw (.bl aN,S) from rfl) ?_;k_is;calc{by rw[aB h];rfl,?_};refine a9 L aj (λz=>[.int z.2]) j (λ_ _=>Zf _) (c8 h) (λi z l u sm=>{_,show aA (.tup [.n 3,.n 4]) (.tup [.int z.1,.int z.2]) _=_ from fS (by simp) (by simp),?_}) λb f=>?_
 .k_is;exact{rfl,Sm.refl _}
 .rw[bp];let:=Be (c:=0) (xs:=L.map (·.2)) (S:=b);rw[ZS]at this;calc aa this ?_;k_is;exact q _ b f
def Ul{n:Nat}{hi:Int}{T:Tg}{b:XS}{c:Rho}{Q:Fl->Rho->Sto->Prop}(hl:n<=100000)(I:Nat->Rho->Sto->Prop)
  (step:∀ (i:Nat) c S,i < n->I i c S->∃j,aA T (.int (hi - i)) c=aw j/\OkS (b j S) λB f u=>match B with |.nx=>I (i+1) f u |.ct=>I (i+1) f u |.bk=>Q .nx f u |.rt d=>Q (.rt d) f u)
  (q:∀c l,I n c l->Q .nx c l) (y:I 0 c S):OkS (eJ (nxD hi n) T b LF 0 c S) Q:=by
 refine ie n I (by delta LF;lia) (λi c l h v=>?_) (λc l v=>{?_,q c l v}) y
 .let{j,E,z}:=step i c l h v;exact{_,j,by show aw (if i < n then aw (D.int (hi - i)) else aD)=_;rw[if_pos h],E,z}
 .show aw (if n < n then aw (D.int (hi - n)) else aD)=_;rw[if_neg (ZI _)]
abbrev ndE(z:List Int×List (Int×Int)×Nat):D:=.tup [.tup (z.1.map D.int),.ref z.2.2]
abbrev prs(T:List (List Int×List (Int×Int)×Nat)):List (List Int×List (Int×Int)):=T.map λz=>(z.1,z.2.1)
structure Stk(K:Sky)(q:Nat)(S:Sto)(T:List (List Int×List (Int×Int)×Nat)):Prop where
 at_:S[q]?=aw (.lst (T.reverse.map ndE))
 ok:∀z∈T,z.2.2≠q/\S[z.2.2]?=aw (.lst (z.2.1.map aj))/\Nd K z.1 z.2.1
def JT{n:Nat}{b:List D}{d:D}(h:S[n]?=aw (.lst (b++[d]))):wX (.ref n) [] S=aw (d,S.set n (.lst b)):=by
 simp![wX,chg,h];rw[Ze,Zm,Nat.add_sub_cancel,Zp (Zf _),ZY];show aw (d,S.set n (.lst (b++[d]).dropLast))=_;rw[List.dropLast_concat]
abbrev JU:List CS:=match bA with
 |[_,_,.g _ b,_]=>b.drop 3
 |_=>[]
def JV{i:Nat}(h:i < K.G.length):(dw K).drop (~~~K - (i+1))=((~~~K:Int) - 1 - i)::(dw K).drop (~~~K - i):=by
 let b:K.G.length - (i+1) < (dw K).length:=by rw[jV];lia
 rw[Y6 b,show K.G.length - (i+1)+1=K.G.length - i by lia]
 congr 1
 rw[show(dw K)[K.G.length - (i+1)]=((~~~K - (i+1):Nat):Int) by simp[dw]]
 lia
def Stk.keep{q:Nat}{T:List (List Int×List (Int×Int)×Nat)}(h:Stk K q S T)(s:Sm S l):Stk K q l T:={s _ _ h.at_,λz d=>let ⟨a,b,c⟩:=h.ok z d;{a,s _ _ b,c}}
def Stk.put{q:Nat}{T:List (List Int×List (Int×Int)×Nat)}{d:List D}(h:∀z∈T,z.2.2≠q/\S[z.2.2]?=aw (.lst (z.2.1.map aj))/\Nd K z.1 z.2.1)(f:q < S.length)(e:d=T.reverse.map ndE):Stk K q (S.set q (.lst d)) T:=by
 subst e;exact{eZ f,λz j=>let ⟨a,b,c⟩:=h z j;{a,by rw[Zx λe=>a e.symm];exact b,c}}
def Kp.set{q:Nat}{o:Ob}(h:Ev.Kp q S l):Ev.Kp q S (l.set q o):=λi u n e=>by rw[Zx (λz=>n z.symm)];exact h i u n e
def QT{i:Int}(h:-1<=i/\i < 9):lim i=aN:=by delta lim;simp;lia
def Fg(sk:SkOk K){q n:Nat}{os:List Int}{L:List (Int×Int)}{T:List (List Int×List (Int×Int)×Nat)}{ad I Y:D}{Z u9 U:Option D}{Qf:Fl->Rho->Sto->Prop}(st:Stk K q S T)(nd:Nd K os L)(hL:S[n]?=aw (.lst (L.map aj)))(hn:n≠q)(hT:T.length<=20000)
  (qf:∀C l u v,Ev.Kp q S l->Stk K q l (C++T)->prs C=chl K os L (dw K)->Qf .nx [aw (skE K),aw ad,aw I,aw Y,aw (.ref q),aw (.tup (os.map D.int)),aw (.ref n),aw (ahE (aq K L)),Z,u,v] l) :
  rW (wSs (evC ab (k+3)) (cu ab) 53 JU) [aw (skE K),aw ad,aw I,aw Y,aw (.ref q),aw (.tup (os.map D.int)),aw (.ref n),aw (ahE (aq K L)),Z,u9,U] S Qf:=by
 dsimp![JU,bA,Yr];let V:=sk.vd;let g7:=sk.g7;let lo:=fV os nd.nd nd.bd;k_is;calc aa sk2 (aa bx ?_);k_is;calc{QT (by lia),?_};rw[show((~~~K:Int) - 1+1).toNat=K.G.length by lia];refine Ul (by lia) (λi J l=>∃C u v,J=[aw (skE K),aw ad,aw I,aw Y,aw (.ref q),aw (.tup (os.map D.int)),aw (.ref n),aw (ahE (aq K L)),Z,u,v]/\Ev.Kp q S l/\Stk K q l (C++T)/\prs C=chl K os L ((dw K).drop (~~~K - i))) (λi J B hi iv=>?_) (λJ B iv=>?_) {[],u9,U,rfl,Ev.Kp.refl _ _,st,by rw[Nat.sub_zero,Xl (Wt jV)];rfl}
 .let{C,u,v,rfl,j,b,E}:=iv;rw[JV hi,pc,<-E];let g0:0<=(~~~K:Int) - 1 - i:=by lia
  let g1:(~~~K:Int) - 1 - i < K.G.length:=by lia
  let hL1:=j _ _ hn hL;generalize (~~~K:Int) - 1 - i=g at *;calc{_,rfl,?_};k_is;calc aa (show ao .o (.int g) (.tup (os.map D.int)) B=aw (.bl (aN != decide (g∈os)),B) from eC aN os g B) ?_;k_is;cases c:decide (g∈os) with
  |true=>
   rw[show(aN != aN)=aS from rfl];k_is;exact⟨C,_,_,rfl,j,b,rfl⟩
  |false=>
   rw[show(aN != aS)=aN from rfl,if_neg (by decide)];k_is;calc aa bx ?_;calc{rfl,vg (k:=k+1) V (jR V (QS nd)) g0 g1 λd y=>?_};k_is;cases hs:Sn.step K (aq K L) g os.length with
   |none=>
    calc aa (show ao .t (jQ aD) .non d=aw (.bl aS,d) from rfl) ?_;k_is;exact{C,_,_,rfl,j.trans y.kp,b.keep y,rfl}
   |some m=>
    calc aa (show ao .t (jQ (aw m)) .non d=aw (.bl aN,d) from rfl) ?_;rw[show jQ (aw m) = .int m from rfl];k_is;let h:=b.keep y;let O:=y _ _ hL1;calc{cV h.at_,?_};refine{by rw[Za];show os.length+1<=1000;lia,?_}
    let cl:C.length<=7:=by
     let e1:=congrArg Zl E;let e2:=mD (K:=K) (os:=os) (L:=L) ((dw K).drop (~~~K - i));let e3:=YB (λg=>!decide (g∈os)) ((dw K).drop (~~~K - i));rw[YI,jV]at e3;rw[prs,Za]at e1
     lia
    let s3:=Sm.app d [Ob.lst [D.tup [D.int g,D.int m]]];calc aa (my (s3 _ _ O) aM (by let e1:=congrArg Zl nd.fs;rw[Za]at e1 ⊢;show L.length+1<=100000;lia)) ?_;let lq:q < d.length:=(Zb.mp h.at_).1;let lN:(d++[Ob.lst [D.tup [D.int g,D.int m]]]).length≠q:=by rw[Ze];lia
    generalize d++[Ob.lst [D.tup [D.int g,D.int m]]]=S3 at *;let s4:=Sm.app S3 [Ob.lst (L.map aj++[D.tup [D.int g,D.int m]])];let a4:(S3++[Ob.lst (L.map aj++[D.tup [D.int g,D.int m]])])[S3.length]?=aw (.lst ((L++[(g,m)]).map aj)):=by rw[aM,ZF];rfl
    let f:=(h.keep s3).keep s4;let X:q < (S3++[Ob.lst (L.map aj++[D.tup [D.int g,D.int m]])]).length:=(Zb.mp f.at_).1;rw[jc f.at_ (by rw[Za,Yo,Ze];lia)];generalize S3++[Ob.lst (L.map aj++[D.tup [D.int g,D.int m]])]=S4 at *;generalize S3.length=N4 at *;k_is;let nz:=nd.snoc (m:=m) (Us.mpr {⟨g0,g1⟩,λz=>by rw[decide_eq_true z]at c;cases c});refine{(os++[g],L++[(g,m)],N4)::C,_,_,rfl,Kp.set (((j.trans y.kp).trans s3.kp).trans s4.kp),Stk.put (λz hz=>?_) X ?_,rfl}
    .rcases Zn.mp hz with rfl |hz
     .exact⟨lN,a4,nz⟩
     .exact f.ok z hz
    .rw[XR,Yl,ZF];show _++[D.tup [D.tup (os.map D.int++[D.int g]),D.ref N4]]=_++[D.tup [D.tup ((os++[g]).map D.int),D.ref N4]];rw[ZF];rfl
 .let{C,u,v,rfl,j,b,E}:=iv;rw[ZY]at E;exact qf C B u v j b E
def Fh{d:List D}{e:D}:ixS (.tup (d++[e])) (.int (-1)) S=aw (e,S):=by
 let:atI (d++[e]) (-1:Int)=aw e:=by
  delta atI ixN;rw[if_neg (by decide),if_pos (by rw[Ze,Zm];lia)];show(d++[e])[((-1:Int)+((d++[e]).length:Int)).toNat]?=aw e;rw[Ze,Zm,show((-1:Int)+((d.length+1:Nat):Int)).toNat=d.length by lia,Zp (Zf _),ZY];rfl
 simp![ixS,ay,ZL,this]
def QU:∀n,1<=sz n
 |0=>Zf _
 |n+1=>by rw[sz];lia
def Um:∀n,n < 8->sz n<=13700:=by decide
def Fi:∀ (T:List (List Int×List (Int×Int))),T.length<=mu K T
 |[]=>Zf _
 |z::T=>by
  let:=Fi T;let:=QU (~~~K - z.1.length);rw[mu,Zo];lia
abbrev bIf:List CS:=match bA with
 |[_,_,.g _ b,_]=>b.drop 2
 |_=>[]
def JW(J:SkOk K){q n:Nat}{os:List Int}{L:List (Int×Int)}{T:List (List Int×List (Int×Int)×Nat)}{B:D}{f:Option (Int×List Int)}{U I z:Option D}{Qf:Fl->Rho->Sto->Prop}(st:Stk K q S T)(nd:Nd K os L)(O:S[n]?=aw (.lst (L.map aj)))(hn:n≠q)(Z:T.length<=20000)
  (qf:∀j C l U u v,j.isSome=(f.isSome || decide (os.length=K.G.length))->Ev.Kp q S l->Stk K q l (C++T)->prs C=chl K os L (dw K)->Qf .nx [aw (skE K),aw dS,aw B,aw (bE j),aw (.ref q),aw (.tup (os.map D.int)),aw (.ref n),aw (ahE (aq K L)),U,u,v] l) :
  rW (wSs (evC ab (k+3)) (cu ab) 54 bIf) [aw (skE K),aw dS,aw B,aw (bE f),aw (.ref q),aw (.tup (os.map D.int)),aw (.ref n),aw (ahE (aq K L)),U,I,z] S Qf:=by
 let g7:=J.g7;let lo:=fV os nd.nd nd.bd;let b:∀j d U,Sm S d->j.isSome=(f.isSome || decide (os.length=K.G.length))->rW (wSs (evC ab (k+3)) (cu ab) 53 JU) [aw (skE K),aw dS,aw B,aw (bE j),aw (.ref q),aw (.tup (os.map D.int)),aw (.ref n),aw (ahE (aq K L)),U,I,z] d Qf:=λj d U h X=>Fg J (st.keep h) nd (h _ _ O) hn Z λC l u v Y E e=>qf j C l U u v X (h.kp.trans Y) E e;dsimp![JU,bA,Yr]at b;dsimp![bIf,bA,Yr];k_is;calc aa bx (aa sk2 (aa bx ?_));k_is;by_cases c:os.length=K.G.length
 .rw[decide_eq_true c]at b;rw[decide_eq_true (show(os.length:Int)=K.G.length by lia)];k_is;calc{rfl,Ff (k:=k+2) nd (by lia) O λx d h=>?_};k_is;cases f with
  |none=>
   calc aa (show ao .is (bE aD) .non d=aw (.bl aN,d) from rfl) ?_;k_is;exact b (aw (x,os)) d _ h rfl
  |some y=>
   rw[show bE (aw y) = .tup [.int y.1,.tup (y.2.map D.int)] from rfl];calc aa (show ao .is (.tup [.int y.1,.tup (y.2.map D.int)]) .non d=aw (.bl aS,d) from rfl) ?_;k_is;calc aa (show ixS (.tup [.int y.1,.tup (y.2.map D.int)]) (.int 0) d=aw (.int y.1,d) from rfl) ?_;k_is;cases decide (x < y.1) with
   |true=>
    k_is;exact b (aw (x,os)) d _ h rfl
   |false=>
    k_is;exact b (aw y) d _ h rfl
 .rw[decide_eq_false c]at b;rw[decide_eq_false (show ¬ (os.length:Int)=K.G.length by lia)];k_is;exact b f S _ (Sm.refl S) (Y9 _).symm
abbrev WI(K:Sky)(q:Nat)(r:Bool)(d:D)(S:Sto)(n:Nat)(c:Rho)(l:Sto):Prop:=∃T f j v h U b u,c=[aw (skE K),aw dS,aw d,aw (bE f),aw (.ref q),j,v,h,U,b,u]/\Stk K q l T/\Ev.Kp q S l/\(f.isSome || (prs T).any (lv K))=r/\n=mu K (prs T)/\n<=13700
def xR(sk:SkOk K){q:Nat}{T:List (List Int×List (Int×Int)×Nat)}{J:D}{r:Bool}(st:Stk K q S T)(U:(prs T).any (lv K)=r)(hm:mu K (prs T)<=13700)(qf:∀f l,f.isSome=r->Ev.Kp q S l->Q (bE f) l) :
  rW (wSs (evC ab (k+3)) (cu ab) 58 (bA.drop 2)) [aw (skE K),aw dS,aw J,aw (bE aD),aw (.ref q),aD,aD,aD,aD,aD,aD] S (out Q):=by
 dsimp![bA,Yr];let V:=sk.vd;let g7:=sk.g7;k_is;refine vO (WI K q r J S) (λn ρ S1 iv=>?_) LF (mu K (prs T)) _ S ?_ {T,aD,_,_,_,_,_,_,rfl,st,Ev.Kp.refl _ _,U,rfl,hm}
 .let{T,f,u5,u6,u7,u8,u9,Y,rfl,st,k1,U,rfl,hm}:=iv;calc(oT _).t _ _ _ ?_;k_is;let lq:q < S1.length:=(Zb.mp st.at_).1;let s2:=Sm.app S1 [Ob.lst []];calc aa (DU (s2 _ _ st.at_) aM (by lia)) ?_;let E:=st.keep s2;let k2:=k1.trans s2.kp;generalize S1++[Ob.lst []]=S2 at *;k_is;cases T with
  |nil=>
   rw[show(!(([]:List (List Int×List (Int×Int)×Nat)).reverse.map ndE).isEmpty)=aS from rfl,if_neg (by decide)];k_is;exact qf f S2 (by rw[<-U];exact(Y9 _).symm) k2
  |cons z T=>
   let{os,L,n}:=z;let j:=E.at_;rw[Yl,ZF]at j;rw[Yl,ZF,show(!((T.reverse.map ndE)++[(os,L,n)].map ndE).isEmpty)=aN by simp,if_pos rfl];let{n1,n2,nd}:=E.ok _ Zj;dsimp! at n1 n2 nd;let lo:=fV os nd.nd nd.bd;k_is;calc{cV j,?_};calc aa (JT j) ?_;let lq2:q < S2.length:=(Zb.mp j).1;let X:Stk K q (S2.set q (.lst (T.reverse.map ndE))) T:=Stk.put (λz hz=>E.ok z (Zg _ hz)) lq2 rfl;let k3:Ev.Kp q S (S2.set q (.lst (T.reverse.map ndE))):=Kp.set k2;let n3:(S2.set q (.lst (T.reverse.map ndE)))[n]?=aw (.lst (L.map aj)):=by rw[Zx λe=>n1 e.symm];exact n2
   generalize S2.set q (.lst (T.reverse.map ndE))=S3 at *;rw[show ndE (os,L,n) = .tup [.tup (os.map D.int),.ref n] from rfl];k_is
   let tl:T.length<=20000:=by
    let h1:=Fi (K:=K) (prs ((os,L,n)::T));let h2:(prs ((os,L,n)::T)).length=T.length+1:=Za ..
    lia
   let I:rW (wSs (evC ab (k+3)) (cu ab) 54 bIf) [aw (skE K),aw dS,aw J,aw (bE f),aw (.ref q),aw (.tup (os.map D.int)),aw (.ref n),aw (ahE (aq K L)),u8,u9,Y] S3 λfl B S2=>match fl with
     |.nx=>∃m,m < mu K (prs ((os,L,n)::T))/\WI K q r J S m B S2
     |.ct=>∃m,m < mu K (prs ((os,L,n)::T))/\WI K q r J S m B S2
     |.bk=>rW (wSs (evC ab (k+3)) (cu ab) 57 [CS.ret (CE.v 3)]) B S2 (out Q)
     |.rt d=>Q d S2:=JW sk X nd n3 n1 tl λf' C l u8 u v hf k' st' ec=>by
    let e1:prs (C++T)=chl K os L (dw K)++prs T:=by rw[<-ec];exact ZF
    let e2:=QQ nd;let e3:mu K (prs ((os,L,n)::T))=sz (~~~K - os.length)+mu K (prs T):=rfl;let e4:mu K (prs (C++T)) < mu K (prs ((os,L,n)::T)):=by rw[e1,Fe,e3];lia
    calc{_,e4,C++T,_,_,_,_,_,_,_,rfl,st',k3.trans k',?_,rfl,by lia};rw[e1,<-U,hf,X1];show _=(f.isSome || (lv K (os,L) || (prs T).any (lv K)));rw[QP nd,WO,WO]
   dsimp![bIf,bA,Yr]at I;rcases X4 L with eL |⟨L',y,eL⟩
   .let O:os=[]:=by let:=nd.fs;rw[eL]at this;exact this.symm
    rw[O,eL]at I;rw[O];exact aa sk1 I
   .rw[X5]at eL;let O:os=L'.map (·.1)++[y.1]:=by let:=nd.fs;rw[eL,ZF]at this;exact this.symm
    let Z:=nd.bd y.1 (by rw[O];simp);let{a,b,c,d,e,f',h,eg,e0,_}:=gl7 V Z.1 Z.2;let em:os.map D.int=(L'.map (·.1)).map D.int++[.int y.1]:=by rw[O,ZF];rfl
    rw[eL,aU,e0]at I;rw[eL,ZF]at n3;rw[show(os.map D.int).isEmpty=aS by rw[em];simp];calc aa sk2 (aa (show ixS (.tup (os.map D.int)) (.int (-1)) S3=aw (.int y.1,S3) by rw[em];exact Fh) (aa (dP Z.1 eg) (aa (show ixS (ag [a,b,c,d,e,f',h]) (.int 0) S3=aw (.int a,S3) from rfl) (aa (mq n3) (aa (show ixS (aj y) (.int 1) S3=aw (.int y.2,S3) from rfl) ?_)))));exact I
 .let:13700 < LF:=by decide
  lia
def Fj(h:SkOk K)(q:∀f l,f.isSome=(dQ K).isSome->Sm S l->Q (bE f) l):Ok (evC ab (k+4) 57 [skE K,dS] S) Q:=by
 calc av (d:=ja) (ρ:=[aw (skE K),aw dS,aD,aD,aD,aD,aD,aD,aD,aD,aD]) rfl rfl ?_;let w:=λS=>@xR S k Q K h;dsimp![bA,Yr]at w;dsimp![ja,bA];let V:=h.vd;let g7:=h.g7;let L:=Dw.cg K.G.length K.F h.nd h.bd;k_is;calc aa sk3 ?_;calc{rfl,vh (k:=k) V h.bd (by lia) λd c E b=>?_};k_is;rw[JS h]at q;delta Res at b;cases y:rn K K.F K.ah [] with
 |inl j=>
  rw[y]at b q;dsimp! at b;subst b;calc aa (show ixS (.tup [.str "stuck",.int (j:Int)]) (.int 0) c=aw (.str "stuck",c) from rfl) ?_;calc aa (show ao .eq (.str "stuck") (.str "lands") c=aw (.bl aS,c) from rfl) ?_;k_is;exact w _ (T:=[]) {aM,λz B=>by cases B} rfl (Z2 _) λf l u v=>q f l u (E.trans (Kp.new v))
 |inr R=>
  rw[y]at b q;dsimp! at b q;let{n,rfl,C,hb}:=b;calc aa (show ixS (.tup [.str "lands",.ref n]) (.int 0) c=aw (.str "lands",c) from rfl) ?_;calc aa (show ao .eq (.str "lands") (.str "lands") c=aw (.bl aN,c) from rfl) ?_;k_is;calc aa sk3 (aa (show ixS (.tup [.str "lands",.ref n]) (.int 1) c=aw (.ref n,c) from rfl) ?_);let I:n < c.length:=(Zb.mp C).1;calc w _ (T:=[(K.F,R,n)]) {aM,λz B=>?_} (Y9 _) (Um _ (by lia)) λf l u v=>q f l u (E.trans (Kp.new v));rw[ZG.mp B];exact{by dsimp!;lia,Sm.app _ _ _ _ C,QR h y}
end Lw
namespace Lw
open PySem Ev Sn L2
variable {p:Nat} {S g:Sto} {k:Nat} {Q:D->Sto->Prop} {K:Sky} {L:List Int}
def Fk{x:Int}(h:x∈L):xa (ag L) [.int x] S=aw (.int (ixI L x),S):=by
 delta ag xa;dsimp!;rw[dr];dsimp!;rw[if_pos h];rfl
def zo(b:SkOk K):K.F.length<=K.G.length:=by
 let:=zi K.F ((Zi K.G.length).map Int.ofNat) b.nd λx h=>by
  let:=b.bd x h;exact Zz.mpr {x.toNat,ZQ.mpr (by lia),by show((x.toNat:Nat):Int)=x;lia}
 rwa[Za,ZC]at this
def Bf(n:SkOk K)(hl:LotK K L)(q:∀g,Sm S g->Q (skE (nar K L)) g):Ok (evC ab (k+1) 40 [skE K,ag L] S) Q:=by
 calc av (d:=eV) (ρ:=[aw (skE K),aw (ag L),aD,aD,aD,aD,aD]) rfl rfl ?_;dsimp![eV,iB];let v:=hl.len;let g7:=n.g7;k_is;show wTp _ (.tup [meE K,ahE K.ah,.tup (K.G.map ag),.tup (K.F.map D.int)]) _ _;k_is;show uU (.tup (L.map D.int)) S _;k_is;refine a9 L D.int (λx=>[ag (gl K x)]) (by lia) (λa _=>by simp) bN (λi x f j u=>{_,rfl,?_}) λf u=>?_
 .let l:=Zd j;k_is;exact aa (dP (hl.bd x l).1 (sV hl l)) {rfl,Sm.refl _}
 .rw[bp];calc aa (show cO aS _ f=aw (.tup _,f) from rfl) ?_;k_is;refine a9 K.F D.int (λx=>if decide (x∈L)=aN then [.int (ixI L x)] else []) ?_ (λa _=>by split <;> simp) bN (λi x b j h=>{_,rfl,?_}) λb h=>?_
  .exact ZJ (zo n) (by lia)
  .k_is;calc aa (show ao .s (.int x) (ag L) b=aw (.bl (aS != decide (x∈L)),b) from eC aS L x b) ?_;rw[Wc];k_is;by_cases c:x∈L
   .rw[decide_eq_true c];k_is;calc{rfl,?_};k_is;exact aa (Fk c) {by rw[if_pos rfl],Sm.refl _}
   .rw[decide_eq_false c];exact{by rw[if_neg Zh],Sm.refl _}
  .rw[bj];calc aa (show cO aS _ b=aw (.tup _,b) from rfl) ?_;k_is;let:=q b (u.trans h);delta skE nar at this;rw[ZS,ZS]at this;exact this
def Fm(c:SkOk K)(q:∀g,Sm S g->Q (.bl (dQ K).isSome) g):Ok (evC ab (k+21) 41 [skE K] S) Q:=by
 calc av (d:=sF) (ρ:=[aw (skE K)]) rfl rfl ?_;dsimp![sF,yR];k_is;calc{rfl,ET (k:=k) c λb f=>?_};let:=q b f;cases h:dQ K with
 |none=>rw[h]at this;exact aa (show ao .t .non .non b=aw (.bl aS,b) from rfl) this
 |some z=>rw[h]at this;exact aa (show ao .t (.tup _) .non b=aw (.bl aN,b) from rfl) this
def xS(n:SkOk K)(hl:LotK K L)(q:∀g,Sm S g->Q (skE (nar K L)) g):Ok (evC ab (k+1) 58 [skE K,ag L] S) Q:=by
 calc av (d:=dM) (ρ:=[aw (skE K),aw (ag L),aD,aD,aD,aD,aD]) rfl rfl ?_;dsimp![dM,gC];let v:=hl.len;let g7:=n.g7;k_is;show wTp _ (.tup [meE K,ahE K.ah,.tup (K.G.map ag),.tup (K.F.map D.int)]) _ _;k_is;refine a9 K.F D.int (λx=>if decide (x∈L)=aN then [.int (ixI L x)] else []) ?_ (λa _=>by split <;> simp) bN (λi x b j h=>{_,rfl,?_}) λb h=>?_
 .exact ZJ (zo n) (by lia)
 .k_is;calc aa (show ao .s (.int x) (ag L) b=aw (.bl (aS != decide (x∈L)),b) from eC aS L x b) ?_;rw[Wc];k_is;by_cases c:x∈L
  .rw[decide_eq_true c];k_is;calc{rfl,?_};k_is;exact aa (Fk c) {by rw[if_pos rfl],Sm.refl _}
  .rw[decide_eq_false c];exact{by rw[if_neg Zh],Sm.refl _}
 .rw[bj];calc aa (show cO aS _ b=aw (.tup _,b) from rfl) ?_;k_is;show uU (.tup (L.map D.int)) b _;k_is;refine a9 L D.int (λx=>[ag (gl K x)]) (by lia) (λa _=>by simp) bN (λi x f j u=>{_,rfl,?_}) λf u=>?_
  .let l:=Zd j;k_is;exact aa (dP (hl.bd x l).1 (sV hl l)) {rfl,Sm.refl _}
  .rw[bp];calc aa (show cO aS _ f=aw (.tup _,f) from rfl) ?_;k_is;let:=q f (h.trans u);delta skE nar at this;rw[ZS,ZS]at this;exact this
def Bg(c:SkOk K)(hl:LotK K L)(q:∀g,Sm S g->Q (.bl (lnd K L)) g):Ok (evC ab (k+5) 59 [skE K,ag L] S) Q:=by
 calc av (d:=gP) (ρ:=[aw (skE K),aw (ag L)]) rfl rfl ?_;dsimp![gP,lH];k_is;calc{rfl,xS (k:=k+3) c hl λl s0=>?_};k_is;calc{rfl,Fj (k:=k) (sW c hl) λf b h j=>?_};let:=q b (s0.trans j);delta lnd at this;rw[<-h]at this;cases f with
 |none=>exact aa (show ao .t .non .non b=aw (.bl aS,b) from rfl) this
 |some z=>exact aa (show ao .t (.tup _) .non b=aw (.bl aN,b) from rfl) this
def JX{b:Type}(f:b->Bool)(l:List b):pH aS (l.map λa=>D.bl (f a)) S=aw (.bl (l.any f),S):=by
 delta pH;rw[if_pos {rfl,by rw[Xg];exact Yc.mpr λ_ _=>rfl},Wr];rfl
abbrev Fn(l:Bool):Nat:=if l=aN then 44 else 62
def Fo(l:Bool){n:Nat}(h:S[n]?=aw (.lst (ls.map ag)))(hl:ls.length<=100)(v:∀o∈ls,o.length<=100)(q:∀g,Sm S g->Q (.bl (bq L ls)) g):Ok (evC ab (k+1) (Fn l) [ag L,.ref n] S) Q:=by
 let go:OkS (eM (evC ab k) (cu ab) 60 gA [aw (ag L),aw (.ref n)] S) (out Q):=by
  dsimp![gA];k_is;calc{by rw[aB h];rfl,?_};refine a9 ls ag (λo=>[.bl (o.all λx=>decide (x∈L))]) (by lia) (λa _=>by simp) (c8 h) (λi o c u j=>{_,rfl,?_}) λc j=>?_
  .k_is;show uU (.tup (o.map D.int)) c _;k_is;let:=v o (Zd u);refine a9 o D.int (λx=>[.bl (decide (x∈L))]) (by lia) (λa _=>by simp) bN (λi x b y f=>{_,rfl,?_}) λb f=>?_
   .k_is;calc aa (show ao .s (.int x) (ag L) b=aw (.bl (aS != decide (x∈L)),b) from eC aS L x b) ?_;rw[Wc];exact{rfl,Sm.refl _}
   .rw[bp];exact aa (Ev.mj o (λx=>decide (x∈L)) b) ⟨rfl,f⟩
  .rw[bp];calc aa (JX (λo:List Int=>o.all λx=>decide (x∈L)) ls) ?_;k_is;exact q c j
 delta Fn;split
 .exact av (d:=lJ) (ρ:=[aw (ag L),aw (.ref n)]) rfl rfl go
 .exact av (d:=jJ) (ρ:=[aw (ag L),aw (.ref n)]) rfl rfl go
def Bh(V:Vd K)(q:∀g,Sm S g->Q (ag (bD K.G.length L)) g):Ok (evC ab (k+1) 43 [skE K,ag L] S) Q:=by
 calc av (d:=kG) (ρ:=[aw (skE K),aw (ag L)]) rfl rfl ?_;dsimp![kG,qM];let g7:=V.g7;k_is;calc aa sk2 (aa bx ?_);k_is;calc{fU (by lia) (by lia),?_};rw[ZK];refine a9 (Zi K.G.length) (λ(j:Nat)=>D.int (0+(j:Int))) (λ(j:Nat)=>if (!decide ((j:Int)∈L))=aN then [D.int (j:Int)] else []) (by rw[ZC];lia) (λa _=>by split <;> simp) ER (λi j g h sm=>{_,rfl,?_}) λb f=>?_
 .k_is;rw[XW];calc aa (show ao .o (.int (j:Int)) (ag L) g=aw (.bl (aN != decide ((j:Int)∈L)),g) from eC aN L j g) ?_;rw[show(aN != decide ((j:Int)∈L)) = !decide ((j:Int)∈L) by cases decide ((j:Int)∈L) <;> rfl];k_is;cases c:!decide ((j:Int)∈L) with
  |true=>exact{rfl,Sm.refl _}
  |false=>exact{rfl,Sm.refl _}
 .rw[bj];calc aa (show cO aS _ b=aw (.tup _,b) from rfl) ?_;let:=q b f;delta ag bD at this
  rwa[ZS]at this
abbrev gB(nm:Str):List CS:=[.a (.n 1) (.b .add (.v 1) (.o [nm] (.b .add (.v 3) (.tup [.v 2])) [{.n 3,.p (.v 1),aD}]))]
def zp{m i:Nat}(h:S[m]?=aw (.lst ((aX i).map ag)))(hi:i < 7)(q:∀f g,Sm S g->g[f]?=aw (.lst ((aX (i+1)).map ag))->Qf .nx [u,aw (.ref f),aw (.int i)] g) :
  OkS (eM (evC ab k) (cu ab) 57 (gB nm) [u,aw (.ref m),aw (.int i)] S) Qf:=by
 let l1:=ci i;let y:(aX i).length<=64:=by rw[l1];exact YG (by decide) (show i<=6 by lia)
 dsimp![gB];k_is;calc{by rw[aB h];rfl,?_};refine a9 (aX i) ag (λl=>[ag (l++[(i:Int)])]) (by lia) (λa _=>by simp) (c8 h) (λj l b n c=>{_,rfl,?_}) λb c=>?_
 .let hb:=zi l ((Zi i).map Int.ofNat) (cZ i l (Zd n)).1 λx v=>by
   let:=(cZ i l (Zd n)).2 x v;exact Zz.mpr {x.toNat,ZQ.mpr (by lia),by show((x.toNat:Nat):Int)=x;lia}
  rw[Za,ZC]at hb;k_is;show uQ .add (.tup (l.map D.int)) (.tup [.int i]) _ _;k_is;exact{by rw[Za];show l.length+1<=1000;lia,by delta ag;rw[ZF];rfl,Sm.refl _}
 .rw[bp];k_is;let d:Sm b (b++[.lst ((aX i).map λl=>ag (l++[(i:Int)]))]):=Sm.app _ _;calc aa (my (d _ _ (c _ _ h)) (ZA) (by rw[Za,Za];lia)) ?_;k_is;calc q _ _ ((c.trans d).trans (Sm.app _ _)) ?_;rw[ZA];show _=aw (Ob.lst ((aX i++(aX i).map (·++[(i:Int)])).map ag));rw[ZF,ZS];rfl
def JY{N n:Nat}(hN:N<=7)(v:S[n]?=aw (.lst ((Zi N).map λj=>.int (Int.ofNat j))))(q:∀m g,Sm S g->g[m]?=aw (.lst ((aX N).map ag))->Q (.ref m) g):Ok (evC ab (k+1) 6 [.ref n] S) Q:=by
 calc av (d:=kC) (ρ:=[aw (.ref n),aD,aD]) rfl rfl ?_;dsimp![kC,qJ];k_is;let s0:Sm S (S++[.lst [.tup []]]):=Sm.app _ _;calc{by rw[aB (s0 _ _ v)];rfl,?_};refine vG (by rw[Za,ZC];lia) (λi f b=>Sm S b/\∃m u,f=[aw (.ref n),aw (.ref m),u]/\b[m]?=aw (.lst ((aX i).map ag))) (λi f b h=>h.1 _ _ v) (λi d f b hd ⟨l,m,u,e,c⟩=>?_) (λf b ⟨l,m,u,e,c⟩=>?_) ⟨s0,S.length,aD,rfl,ZA⟩
 .subst e;rw[Zq]at hd;let{j,C,rfl}:=ZE.mp hd;let{hi,E}:=Zb.mp C;rw[Wn]at E;subst E;rw[ZC]at hi;refine{_,rfl,zp (nm := "lot") c (by lia) λz I y B=>{l.trans y,z,_,rfl,B}}
 .subst e;rw[Za,ZC]at c;k_is;exact q m b l c
abbrev wyE(l:List Int):D:=.tup [.int l.length,ag l]
def qZ:∀ (ls:List (List Int)),ip (ls.map wyE)=aw (ls.map λl=>((l.length:Int),l))
 |[]=>rfl
 |l::ls=>by
  let e:yx (wyE l)=aw ((l.length:Int),l):=by
   show(cP (l.map D.int)).map (λns=>((l.length:Int),ns))=_;rw[dr];rfl
  simp![Zy,ip,e,qZ ls]
def Fp{N:Nat}(hN:N<=5):cT aS ((aX N).map wyE)=aw ((slots N).map wyE):=by
 let b:(aX N).length < 64:=by rw[ci];exact Yh (YG (by decide) hN) (by decide)
 let e:uk aS ((aX N).map wyE)=aD:=by
  cases h:aX N with
  |nil=>have:=ci N;rw[h]at this;let:=WX (n:=N) (show 0 < 2 by decide);simp at *;lia
  |cons l c=>simp![Zy,uk,wyE,ag,cP]
 delta cT C4;rw[if_pos rfl,e];dsimp!;delta M5;rw[qZ];dsimp!;rw[if_pos (by rw[Za];exact b),JO,vM (d:=[])];rfl
def Fq{N:Nat}(hN:N<=5)(q:∀m g,Sm S g->g[m]?=aw (.lst ((slots N).map ag))->Q (.ref m) g):Ok (evC ab (k+1) 60 [.int N] S) Q:=by
 calc av (d:=jb) (ρ:=[aw (.int N),aD,aD]) rfl rfl ?_;dsimp![jb,oI];k_is;let s0:Sm S (S++[.lst [.tup []]]):=Sm.app _ _;calc{fU (by lia) (by lia),?_};rw[ZK];refine jK (by lia) (λi n f=>Sm S f/\∃m u,n=[aw (.int N),aw (.ref m),u]/\f[m]?=aw (.lst ((aX i).map ag))) (λi n f hi ⟨y,m,u,e,h⟩=>?_) (λn f ⟨y,m,u,e,h⟩=>?_) ⟨s0,S.length,aD,rfl,ZA⟩
 .subst e;rw[XW];refine{_,rfl,zp (nm := "_law_lot") h (by lia) λB c b E=>{y.trans b,B,_,rfl,E}}
 .subst e;let v:(aX N).length < 64:=by rw[ci];exact Yh (YG (by decide) hN) (by decide)
  let sl:(slots N).length < 64:=by rw[kN,<-ci];exact v
  k_is;calc{by rw[aB h];rfl,?_};refine a9 (aX N) ag (λl=>[wyE l]) (by lia) (λa _=>by simp) (c8 h) (λj l c v b=>{_,rfl,?_}) λc b=>?_
  .k_is;calc aa (show ak dh (ag l) c=aw (.int (l.map D.int).length,c) from rfl) ?_;rw[Za];k_is;exact{rfl,Sm.refl _}
  .rw[bp];calc{_,Fp hN,?_};refine a9 (slots N) wyE (λl=>[ag l]) (by lia) (λa _=>by simp) bN (λj l C v z=>{_,rfl,?_}) λC z=>?_
   .k_is;exact{rfl,Sm.refl _}
   .rw[bp];exact q _ _ (((y.trans b).trans z).trans (Sm.app _ _)) ZA
abbrev JZ(S:Sto):Prop:=S[1]?=aw (.tbl "all_lots" kz.2.1 kz.2.2)
def pd:∀ (ls:List (List Int)),qG (ls.map ag)=aw ls
 |[]=>rfl
 |l::ls=>by
  let e:KW (ag l)=aw l:=dr l;simp![Zy,qG,e,pd ls]
def pf(V:Vd K)(h:K.G.length<=5)(f:JZ S)(q:∀m g,Sm S g->g[m]?=aw (.lst ((slots K.G.length).map ag))->Q (.ref m) g):Ok (evC ab (k+4) 42 [skE K] S) Q:=by
 calc OB (d:=fQ) (z:=kz) (ρ:=[aw (skE K)]) rfl rfl (by lia) rfl ?_;dsimp![kz]
 k_go
 calc aa sk2 (aa bx ?_);calc{K.G.length,rfl,by lia,rfl,?_};let s0:Sm S (S++[.lst ((Zi K.G.length).map λj=>.int (Int.ofNat j))]):=Sm.app _ _;calc JY (k:=k+2) (by lia) ZA λm n b c=>?_;let l:(aX K.G.length).length < 64:=by rw[ci];exact Yh (YG (by decide) h) (by decide)
 calc{m,aX K.G.length,(aX K.G.length).map ag,rfl,{(s0.trans b) _ _ f,c,pd _,by rw[Za];exact l},?_};calc q _ _ ((s0.trans b).trans (Sm.app _ _)) ?_;rw[ZA,vM (d:=[])];rfl
abbrev stk(K:Sky):List (List Int):=pk (λl=>!lnd K l) (slots K.G.length) []
abbrev snt(K:Sky):List (List Int):=pk (λl=>lnd K (bD K.G.length l)) (slots K.G.length) []
def zq{c:List Int->Bool}{l:List Int}:∀ (ls b:List (List Int)),pk c (ls++[l]) b=if (!bq l (pk c ls b) && c l)=aN then pk c ls b++[l] else pk c ls b
 |[],b=>rfl
 |x::ls,b=>by
  show pk c (ls++[l]) _=_;rw[zq ls];rfl
def Fs{c:List Int->Bool}:∀ (ls b:List (List Int)),(pk c ls b).length<=b.length+ls.length
 |[],b=>Zf _
 |x::ls,b=>by
  let:=Fs (c:=c) ls (if (!bq x b && c x)=aN then b++[x] else b);delta pk;rw[Zo];split at this <;> rename_i h
  .rw[if_pos h];rw[Ze,Zm]at this;lia
  .rw[if_neg h];lia
structure Lk(K:Sky)(c:List Int->Bool)(i f:Nat)(S:Sto):Prop where
 at_:S[f]?=aw (.lst ((pk c ((slots K.G.length).take i) []).map ag))
variable {c:List Int->Bool} {i f:Nat}
def J1(b:K.G.length<=5){l:List Int}(h:l∈slots K.G.length):l.length<=5:=ZJ (E9 (Q0.mp h)).len b
def gY(h:K.G.length<=5):(slots K.G.length).length<=32:=by rw[kN];exact YG (n:=2) (by decide) h
def zr(b:K.G.length<=5):(pk c ((slots K.G.length).take i) []).length<=32/\∀o∈pk c ((slots K.G.length).take i) [],o.length<=5:=by
 refine{?_,λo d=>?_}
 .let:=Fs (c:=c) ((slots K.G.length).take i) [];let:=gY b;rw[Yi,Z4]at *
  lia
 .rcases sX _ _ d with h |⟨h,_⟩
  .cases h
  .exact J1 b (YW h)
def Lk.step{l:List Int}(hl:(slots K.G.length)[i]?=aw l):(pk c ((slots K.G.length).take (i+1)) [])=if (!bq l (pk c ((slots K.G.length).take i) []) && c l)=aN then pk c ((slots K.G.length).take i) []++[l] else pk c ((slots K.G.length).take i) []:=by
 rw[List.take_add_one,hl];exact zq _ _
def sY(l:Bool)(b:K.G.length<=5)(h:Lk K c i f S)(q:∀g,Sm S g->Q (.bl (bq L (pk c ((slots K.G.length).take i) []))) g):Ok (evC ab (k+1) (Fn l) [ag L,.ref f] S) Q:=
 Fo l h.at_ (by let:=(zr (c:=c) (i:=i) b).1;lia) (λo d=>by let:=(zr (c:=c) (i:=i) b).2 o d;lia) q
def Lk.keep(h:Lk K c i f S)(s:Sm S g):Lk K c i f g:={s _ _ h.at_}
def Lk.put{l:List Int}(b:K.G.length<=5)(h:Lk K c i f S)(hl:(slots K.G.length)[i]?=aw l)(hc:(!bq l (pk c ((slots K.G.length).take i) []) && c l)=aN)(q:∀g,Ev.Kp f S g->Lk K c (i+1) f g->Q .non g):cD (.ref f) S=aN/\Ok (rV (.ref f) [ag l] S) Q:=by
 calc{by show(aR S f).isSome=aN;rw[aB h.at_];rfl,?_};rw[jc h.at_ (by rw[Za];let:=(zr (c:=c) (i:=i) b).1;lia)];let d:f < S.length:=(Zb.mp h.at_).1;calc q _ (λj o n e=>by rw[Zx (λz=>n z.symm)];exact e) {?_};rw[ZV d,Lk.step hl,if_pos hc,ZF];rfl
def Lk.pass{l:List Int}(h:Lk K c i f S)(hl:(slots K.G.length)[i]?=aw l)(hc:(!bq l (pk c ((slots K.G.length).take i) []) && c l)=aS):Lk K c (i+1) f S:={by rw[Lk.step hl,if_neg (by rw[hc];decide)];exact h.at_}
def Lk.all(h:Lk K c (slots K.G.length).length f S):S[f]?=aw (.lst ((pk c (slots K.G.length) []).map ag)):=by let:=h.at_;rwa[Yx]at this
def vP{m j:Nat}(h:S[m]?=aw (.lst ((slots K.G.length).map ag)))(b:S[j]?=aw (.lst [])):m≠j:=λe=>by
 rw[e,b]at h;let:=congrArg Zl (Ob.lst.inj (Option.some.inj h));rw[Za,kN]at this;let:=WX (n:=K.G.length) (show 0 < 2 by decide);simp at *
 lia
def Ft(h:Sm S g):S.length<=g.length:=by
 cases d:S.length with
 |zero=>exact Z2 _
 |succ n=>
  let b:n < S.length:=by lia
  exact(Zb.mp (h n _ (gEG b))).1
def vQ(U:SkOk K)(J:K.G.length<=5)(hT:JZ S)(q:∀m g,Sm S g->S.length<=m->g[m]?=aw (.lst ((stk K).map ag))->Q (.ref m) g):Ok (evC ab (k+25) 38 [skE K] S) Q:=by
 calc av (d:=eU) (ρ:=[aw (skE K),aD,aD]) rfl rfl ?_;dsimp![eU,iA];k_is;calc{rfl,EM (k:=k+16) U λb X=>?_};k_is;let s2:Sm b (b++[.lst []]):=Sm.app _ _;calc{rfl,pf (k:=k+20) U.vd J (s2 _ _ (X _ _ hT)) λm S2 s3 hm=>?_};k_is;let Z:=vP hm (s3 _ _ (ZA (l:=b)));calc{by rw[aB hm];rfl,?_};refine vG (by rw[Za];let:=gY J;lia) (λi O I=>Ev.Kp b.length S2 I/\Lk K (λl=>!lnd K l) i b.length I/\∃u,O=[aw (skE K),aw (.ref b.length),u]) (λi O I h=>h.1 _ _ Z hm) (λi d O I hd ⟨kp,B,u,e⟩=>?_) (λO I ⟨kp,B,u,e⟩=>?_) {λ_ _ _ e=>e,{by rw[YK];exact s3 _ _ ZA},aD,rfl}
 .subst e;rw[Zq]at hd;let{l,T,rfl}:=ZE.mp hd;let z:=E9 (Q0.mp (Zd T));calc{_,rfl,?_};k_is;calc{rfl,sY (k:=k+23) aN J B λS4 s4=>?_};k_is;let v:=B.keep s4;let y:Ev.Kp b.length S2 S4:=λj o n e=>s4 _ _ (kp j o n e);cases hh:bq l (pk (λl=>!lnd K l) ((slots K.G.length).take i) []) with
  |true=>
   k_is;exact{y,v.pass T (by rw[hh];rfl),_,rfl}
  |false=>
   k_is;calc{rfl,Bf (k:=k+23) U z λS5 s5=>?_};k_is;calc{rfl,Fm (k:=k+3) (sW U z) λS6 s6=>?_};k_is;let C:=(v.keep s5).keep s6;let E:Ev.Kp b.length S2 S6:=λj o n e=>s6 _ _ (s5 _ _ (y j o n e));cases hb:(dQ (nar K l)).isSome with
   |true=>
    k_is;exact{E,C.pass T (by rw[hh];show(!aS && !(dQ (nar K l)).isSome)=aS;rw[hb];rfl),_,rfl}
   |false=>
    k_is;calc C.put J T (by rw[hh];show(!aS && !(dQ (nar K l)).isSome)=aN;rw[hb];rfl) λS7 k7 Y=>?_;k_is;exact{λj o n e=>k7 _ _ n (E j o n e),Y,_,rfl}
 .subst e;rw[Za]at B;k_is;refine q _ _ (λj o e=>kp j o ?_ (s3 _ _ (s2 _ _ (X _ _ e)))) ?_ B.all
  .let:=(Zb.mp (X _ _ e)).1
   lia
  .exact Ft X
def pq(h:K.G.length<=5):(pk c (slots K.G.length) []).length<=32/\∀o∈pk c (slots K.G.length) [],o.length<=5:=by
 let:=zr (c:=c) (i:=(slots K.G.length).length) h
 rwa[Yx]at this
def QV(j:SkOk K):snt K=pk (λl=>!bq (bD K.G.length l) (stk K)) (slots K.G.length) []:=
 vL _ _ λl _=>(Bc (P:=lnd K) (λa d b hb h=>E6 j (E9 (Q0.mp d)) (E9 (Q0.mp hb)) h) (Q0.mpr o9)).symm
def J2(O:SkOk K)(v:K.G.length<=5)(hT:JZ S)(q:∀m g,Sm S g->S.length<=m->g[m]?=aw (.lst ((snt K).map ag))->Q (.ref m) g):Ok (evC ab (k+26) 39 [skE K] S) Q:=by
 calc av (d:=cJ) (ρ:=[aw (skE K),aD,aD,aD]) rfl rfl ?_;dsimp![cJ,fA];k_is;calc{rfl,vQ (k:=k) O v hT λfs b T hfs h1=>?_};k_is;let X:Sm b (b++[.lst []]):=Sm.app _ _;calc{rfl,pf (k:=k+21) O.vd v (X _ _ (T _ _ hT)) λm S2 U hm=>?_};k_is;let hne:=vP hm (U _ _ (ZA (l:=b)));let hlt:fs≠b.length:=ZH (Zb.mp h1).1;let h2:=U _ _ (X _ _ h1);calc{by rw[aB hm];rfl,?_};refine vG (by rw[Za];let:=gY v;lia) (λi J I=>Ev.Kp b.length S2 I/\Lk K (λl=>!bq (bD K.G.length l) (stk K)) i b.length I/\∃u,J=[aw (skE K),aw (.ref fs),aw (.ref b.length),u]) (λi J I h=>h.1 _ _ hne hm) (λi d J I hd ⟨kp,B,u,e⟩=>?_) (λJ I ⟨kp,B,u,e⟩=>?_) {λ_ _ _ e=>e,{by rw[YK];exact U _ _ ZA},aD,rfl}
 .subst e;rw[Zq]at hd;let{l,Y,rfl}:=ZE.mp hd;calc{_,rfl,?_};k_is;calc{rfl,sY (k:=k+24) aN v B λS4 s4=>?_};k_is;let z:=B.keep s4;let y:Ev.Kp b.length S2 S4:=λj o n e=>s4 _ _ (kp j o n e);cases hh:bq l (pk (λl=>!bq (bD K.G.length l) (stk K)) ((slots K.G.length).take i) []) with
  |true=>
   k_is;exact{y,z.pass Y (by rw[hh];rfl),_,rfl}
  |false=>
   k_is;calc{rfl,Bh (k:=k+24) O.vd λS5 s5=>?_};k_is;calc{rfl,Fo (k:=k+24) aN (ls:=stk K) (s5 _ _ (y _ _ hlt h2)) (by let:=(pq (c:=λl=>!lnd K l) v).1;delta stk;lia) (λo ho=>by let:=(pq (c:=λl=>!lnd K l) v).2 o ho;lia) λS6 s6=>?_};k_is;let C:=(z.keep s5).keep s6;let E:Ev.Kp b.length S2 S6:=λj o n e=>s6 _ _ (s5 _ _ (y j o n e));cases hb:bq (bD K.G.length l) (stk K) with
   |true=>
    k_is;exact{E,C.pass Y (by rw[hh];show(!aS && !bq (bD K.G.length l) (stk K))=aS;rw[hb];rfl),_,rfl}
   |false=>
    k_is;calc C.put v Y (by rw[hh];show(!aS && !bq (bD K.G.length l) (stk K))=aN;rw[hb];rfl) λS7 k7 Z=>?_;k_is;exact{λj o n e=>k7 _ _ n (E j o n e),Z,_,rfl}
 .subst e;rw[Za]at B;k_is;calc q _ _ (λj o e=>kp j o ?_ (U _ _ (X _ _ (T _ _ e)))) (Ft T) (by rw[QV O];exact B.all);let:=(Zb.mp (T _ _ e)).1
  lia
end Lw
namespace Lw
open PySem Ev Sn L2
variable {p:Nat} {S s:Sto} {k:Nat} {Q:D->Sto->Prop} {K:Sky} {r:List Int}
abbrev jf(l:List Int):List NK:=l.map λi=>.one (.inl i)
def vR(l:List Int):lW (ag l)=aw (jf l):=by
 show kR (l.map D.int)=_
 induction l with
 |nil=>rfl
 |cons x l I=>simp![Zy,kR,z7,I,jf]
def vS(h:jf a=jf b):a=b:=by
 delta jf at h;exact(List.map_inj_right (f:=λi:Int=>NK.one (Sum.inl i)) λx y e=>by cases e;rfl).mp h
def J3(l:List Int):nkT (jf l)=ag l:=by delta nkT jf ag;rw[ZS];rfl
def vT(g:List Int->D):∀ (ls:List (List Int)),prK (ls.map λl=>.tup [ag l,g l])=aw (ls.map jf,ls.map g)
 |[]=>rfl
 |l::ls=>by simp![Zy,prK,vR,vT g ls]
def vU:∀ {ls:List (List Int)},L∈ls->atD (ls.map jf) (ls.map g) (jf L)=aw (g L)
 |l::ls,h=>by
  simp![Zy,atD];split
  .rename_i e;rw[vS e]
  .rename_i e;rcases Zn.mp h with rfl |h
   .exact absurd rfl e
   .exact vU h
def Uo{n:Nat}{ks:List (List NK)}{y:List D}{T:Tg}{b:XS}{c:Rho}{Q:Fl->Rho->Sto->Prop}(hl:ks.length<=100000)(I:Nat->Rho->Sto->Prop)(B:∀i c s,I i c s->s[n]?=aw (.dfz ks y))
  (step:∀ (i:Nat) l c s,ks[i]?=aw l->I i c s->∃j,aA T (nkT l) c=aw j/\OkS (b j s) λJ f v=>match J with |.nx=>I (i+1) f v |.ct=>I (i+1) f v |.bk=>Q .nx f v |.rt d=>Q (.rt d) f v)
  (q:∀c s,I ks.length c s->Q .nx c s) (C:I 0 c S):OkS (eJ (nxK n ks) T b LF 0 c S) Q:=by
 let nx:∀ {i s},s[n]?=aw (.dfz ks y)->nxK n ks i s=aw ((ks[i]?).map nkT):=λ{i s} h=>by
  delta nxK;rw[h];dsimp!;rw[if_pos rfl,Zq]
 refine ie ks.length I (by delta LF;lia) (λi c s hi u=>?_) (λc s u=>{?_,q c s u}) C
 .let{j,E,z}:=step i ks[i] c s (gEG hi) u;exact{_,j,by rw[nx (B _ _ _ u),gEG hi];rfl,E,z}
 .rw[nx (B _ _ _ u),Zw (Zf _)];rfl
abbrev QW:List CS:=match fB with
 |_::_::_ :: .f _ _ b::_=>b
 |_=>[]
def Fu{dp:Nat}(hd:S[dp]?=aw (.dfz ((slots K.G.length).map jf) ((slots K.G.length).map λl=>.bl (lnd K l))))(h:L∈slots K.G.length):ixS (.ref dp) (ag L) S=aw (.bl (lnd K L),S):=by
 show ixK (.ref dp) (ag L) S=_;delta ixK;rw[vR];dsimp!;rw[hd];dsimp!;rw[vU (g:=λl=>.bl (lnd K l)) h];rfl
def Lk.keepK{i f g:Nat}(h:Lk K c i g S)(kp:Ev.Kp f S s)(n:g≠f):Lk K c i g s:={kp _ _ n h.at_}
abbrev Fv:List CS:=QW.drop 1
def sZ{dp i b:Nat}(O:SkOk K)(y:K.G.length<=5)(hd:S[dp]?=aw (.dfz ((slots K.G.length).map jf) ((slots K.G.length).map λl=>.bl (lnd K l))))(B:Lk K (λl=>lnd K (bD K.G.length l)) i b S)(hl:(slots K.G.length)[i]?=aw l)
  (q:∀s,Ev.Kp b S s->Lk K (λl=>lnd K (bD K.G.length l)) (i+1) b s->Qf .nx [aw (skE K),aw (.tup ((Zi K.G.length).map λj=>.int (Int.ofNat j))),aw (.ref dp),aw E,aw (.ref b),aw (ag l)] s) :
  rW (wSs (evC ab (k+5)) (cu ab) 54 Fv) [aw (skE K),aw (.tup ((Zi K.G.length).map λj=>.int (Int.ofNat j))),aw (.ref dp),aw E,aw (.ref b),aw (ag l)] S Qf:=by
 dsimp![Fv,QW,fB,Yr];k_is;refine a9 (Zi K.G.length) (λ(j:Nat)=>D.int (Int.ofNat j)) (λ(j:Nat)=>if (!decide ((j:Int)∈l))=aN then [D.int (j:Int)] else []) (by rw[ZC];lia) (λa _=>by split <;> simp) bN (λi j s T sm=>{_,rfl,?_}) λd f=>?_
 .k_is;calc aa (show ao .o (.int (Int.ofNat j)) (ag l) s=aw (.bl (aN != decide ((j:Int)∈l)),s) from eC aN l j s) ?_;rw[show(aN != decide ((j:Int)∈l)) = !decide ((j:Int)∈l) by cases decide ((j:Int)∈l) <;> rfl];k_is;cases c:!decide ((j:Int)∈l) with
  |true=>exact{rfl,Sm.refl _}
  |false=>exact{rfl,Sm.refl _}
 .rw[bj];calc aa (show cO aS _ d=aw (.tup _,d) from rfl) ?_;refine aa (show ixS (.ref dp) (.tup _) d=aw (.bl (lnd K (bD K.G.length l)),d) from ?_) ?_
  .let:=Fu (f _ _ hd) (Q0.mpr (o9 (l:=l)));delta ag at this;delta bD at this ⊢
   rwa[ZS]at this
  .k_is;let L:=B.keep f;cases hb:lnd K (bD K.G.length l) with
   |false=>
    k_is;exact q d f.kp (L.pass hl (by show(_ && lnd K (bD K.G.length l))=aS;rw[hb,X8]))
   |true=>
    k_is;calc{rfl,sY (k:=k+4) aS y L λI v=>?_};k_is;let h:=L.keep v;cases z:bq l (pk (λl=>lnd K (bD K.G.length l)) ((slots K.G.length).take i) []) with
    |true=>
     k_is;exact q I (f.trans v).kp (h.pass hl (by rw[z];rfl))
    |false=>
     k_is;calc h.put y hl (by rw[z];show(!aS && lnd K (bD K.G.length l))=aN;rw[hb];rfl) λJ C u=>?_;k_is;exact q J (λj o n e=>C _ _ n ((f.trans v) j o e)) u
def Fw{dp a b:Nat}{Qf:Fl->Rho->Sto->Prop}(Z:SkOk K)(B:K.G.length<=5)(hd:S[dp]?=aw (.dfz ((slots K.G.length).map jf) ((slots K.G.length).map λl=>.bl (lnd K l))))(ha:S[a]?=aw (.lst []))(hb:S[b]?=aw (.lst []))(C:dp≠a)(nb:dp≠b)(f:a≠b)
  (q:∀u s,(∀j o,j≠a->j≠b->S[j]?=aw o->s[j]?=aw o)->s[a]?=aw (.lst ((stk K).map ag))->s[b]?=aw (.lst ((snt K).map ag))->Qf .nx [aw (skE K),aw (.tup ((Zi K.G.length).map λj=>.int (Int.ofNat j))),aw (.ref dp),aw (.ref a),aw (.ref b),u] s) :
  OkS (eJ (nxK dp ((slots K.G.length).map jf)) (.n 5) (eM (evC ab (k+5)) (cu ab) 55 QW) LF 0 [aw (skE K),aw (.tup ((Zi K.G.length).map λj=>.int (Int.ofNat j))),aw (.ref dp),aw (.ref a),aw (.ref b),aD] S) Qf:=by
 let s32:=gY B;refine Uo (by rw[Za];lia) (λi U z=>(∀j o,j≠a->j≠b->S[j]?=aw o->z[j]?=aw o)/\Lk K (λl=>!lnd K l) i a z/\Lk K (λl=>lnd K (bD K.G.length l)) i b z/\∃u,U=[aw (skE K),aw (.tup ((Zi K.G.length).map λj=>.int (Int.ofNat j))),aw (.ref dp),aw (.ref a),aw (.ref b),u]) (λi U z h=>h.1 _ _ C nb hd) (λi d U z T ⟨kp,E,J,u,e⟩=>?_) (λU z ⟨kp,E,J,u,e⟩=>?_) {λ_ _ _ _ e=>e,{by rw[YK];exact ha},{by rw[YK];exact hb},aD,rfl}
 .subst e;rw[Zq]at T;let{l,y,rfl}:=ZE.mp T;let hm:=Zd y;rw[J3];calc{_,rfl,?_};dsimp![QW,fB];k_is;calc aa (Fu (kp _ _ C nb hd) hm) ?_;k_is;cases hb:lnd K l with
  |true=>
   show rW (wSs (evC ab (k+5)) (cu ab) 54 Fv) _ _ _;calc sZ (k:=k) Z B (kp _ _ C nb hd) J y λS4 k4 L=>?_;exact{λj o v n e=>k4 _ _ n (kp j o v n e),(E.pass y (by show(_ && !lnd K l)=aS;rw[hb];exact X8 _)).keepK k4 f,L,_,rfl}
  |false=>
   k_is;calc{rfl,sY (k:=k+4) aS B E λS4 Y=>?_};k_is;let O:=E.keep Y;let L:=J.keep Y;let c:∀j o,j≠a->j≠b->S[j]?=aw o->S4[j]?=aw o:=λj o v n e=>Y _ _ (kp j o v n e);cases hh:bq l (pk (λl=>!lnd K l) ((slots K.G.length).take i) []) with
   |true=>
    show rW (wSs (evC ab (k+5)) (cu ab) 54 Fv) _ _ _;calc sZ (k:=k) Z B (c _ _ C nb hd) L y λS5 I lb5=>?_;exact{λj o v n e=>I _ _ n (c j o v n e),(O.pass y (by rw[hh];rfl)).keepK I f,lb5,_,rfl}
   |false=>
    k_is;calc O.put B y (by rw[hh];show(!aS && !lnd K l)=aN;rw[hb];rfl) λS5 I X=>?_;show rW (wSs (evC ab (k+5)) (cu ab) 54 Fv) _ _ _;calc sZ (k:=k) Z B (I _ _ C (c _ _ C nb hd)) (L.keepK I (Ne.symm f)) y λS6 k6 lb6=>?_;exact{λj o v n e=>k6 _ _ n (I _ _ v (c j o v n e)),X.keepK k6 f,lb6,_,rfl}
 .subst e;rw[Za]at E J;exact q u z kp E.all J.all
def QX(v:SkOk K)(h:K.G.length<=5)(q:∀m a b s,Sm S s->s[m]?=aw (.lst [.ref a,.ref b])->s[a]?=aw (.lst ((stk K).map ag))->s[b]?=aw (.lst ((snt K).map ag))->Q (.ref m) s):Ok (evC ab (k+6) 63 [skE K] S) Q:=by
 calc av (d:=kJ) (ρ:=[aw (skE K),aD,aD,aD,aD,aD]) rfl rfl ?_;dsimp![kJ,fB];k_is;calc aa sk2 (aa bx ?_);k_is;calc{{by lia,by lia},?_};rw[ZK];k_is;calc aa sk2 (aa bx ?_);k_is;calc{rfl,Fq (k:=k+4) h λm O n z=>?_};let C:=gY h;k_is;calc{by rw[aB z];rfl,?_};refine a9 (slots K.G.length) ag (λl=>[.tup [ag l,.bl (lnd K l)]]) (by lia) (λa _=>by simp) (c8 z) (λj l f E c=>{_,rfl,?_}) λf c=>?_
 .k_is;calc{rfl,Bg (k:=k) v (E9 (Q0.mp (Zd E))) λL J=>?_};k_is;exact⟨rfl,J⟩
 .rw[bp]
  let hd:pR aS ((slots K.G.length).map λl=>.tup [ag l,.bl (lnd K l)]) f=aw (.ref f.length,f++[.dfz ((slots K.G.length).map jf) ((slots K.G.length).map λl=>.bl (lnd K l))]):=by
   delta pR;rw[if_pos rfl,vT (λl=>.bl (lnd K l))];dsimp!;rw[if_pos {kL Fa λx _ y _ e=>vS e,by rw[Za];lia}]
  calc aa hd ?_;k_is;calc{_,_,by rw[Zt (by simp),Zt (by simp),ZA],?_};calc Fw (k:=k) v h (by rw[Zt (by simp),Zt (by simp),ZA]) (by rw[Zt (by simp),ZA]) ZA (by simp) (by simp) (by simp) λu L kp B I=>?_;k_is;refine q _ _ _ _ (λj o e=>(Sm.app _ _) _ _ (kp j o ?_ ?_ ((Sm.app _ _) _ _ ((Sm.app _ _) _ _ ((Sm.app _ _) _ _ (c _ _ (n _ _ e))))))) ZA ((Sm.app _ _) _ _ B) ((Sm.app _ _) _ _ I)
  .let:=(Zb.mp (c _ _ (n _ _ e))).1;simp;lia
  .let:=(Zb.mp (c _ _ (n _ _ e))).1;simp;lia
end Lw
namespace Lw
open PySem Ev Sn L2
variable {p:Nat} {S f:Sto} {k:Nat} {Q:D->Sto->Prop} {K:Sky}
abbrev meL(r s:Int)(M:List (List Int))(H:List (Int×Int)):D:=.tup [.int r,.int s,.tup (M.map ag),.tup (H.map aj)]
def J4{r s:Int}{N n hi:Nat}(h:Pot p S)(gs:Gs p N hi S C G)(J:S[n]?=aw (.lst (F.map D.int)))(nf:n≠p)(me:MeOk r s M H)(g7:G.length<=7)
  (q:∀a f,Dr p S f->(∀z:Int×Int,a=aw z->0<=z.1/\z.1 < M.length/\0<=z.2/\z.2<=9999)->Q (skE ⟨r,s,M,H,a,G,F⟩) f) :
  rW (wSs (evC ab (k+3)) (cu ab) 55 (ic.drop 5)) [aw (.ref p),aw (.int 5),aw (meL r s M H),aw (.ref N),u4,u5,u6,u7,u8,u9,u10,u11,aw (.ref n),u13,aD] S (out Q):=by
 dsimp![ic,Yr];let m1:=me.m1;let m4:=me.m4;k_is;calc aa (show ixS (meL r s M H) (.int 2) S=aw (.tup (M.map ag),S) from rfl) ?_;calc aa (show ak dh (.tup (M.map ag)) S=aw (.int M.length,S) by simp![ak,ay,dh,Za]) ?_;calc{rfl,aI h (by lia) (by lia) λx S1 Y X I=>?_};calc{rfl,aI I.pot (by decide) (by decide) λy S2 y1 y2 B=>?_};calc{rfl,aI B.pot (by decide) (by decide) λz S3 z1 z2 T=>?_};k_is;let d:=(I.trans B).trans T
 obtain⟨a,ea,U⟩:∃a:Option (Int×Int),atI [D.non,D.tup [D.int x,D.int y]] z=aw (ahE a)/\∀q,a=aw q->0<=q.1/\q.1 < M.length/\0<=q.2/\q.2<=9999:=by
  let:z=0\/z=1:=by lia
  rcases this with rfl |rfl
  .exact{aD,rfl,λq e=>by cases e}
  .exact{aw (x,y),rfl,λq e=>by cases e;exact{Y,X,y1,by lia}}
 calc{_,ea,?_};k_is;let c:=gs.keep d.kp;let v:=d.kp _ _ nf J;calc{by rw[aB c.at_];rfl,?_};let le:=c.len;refine oO C.length (λi=>(C[i]?).getD .non) (λi l f=>f=S3/\l=(G.take i).map ag) (λi l f hi ⟨e,_⟩=>by subst e;exact DW c.at_ _ Ln) (by lia) (λi l j hi ⟨u,E⟩=>?_) (λes' j ⟨u,E⟩=>{by rw[E,Za,Yi];lia,?_}) ⟨rfl,rfl⟩
 .subst u;let L:i < G.length:=by lia
  let{b,O,_,_,Z}:=c.row i G[i] (gEG L);simp![O,ZX];calc{_,rfl,?_};k_is;calc aa (show ak cO (.ref b) j=aw (.tup (G[i].map D.int),j) by simp![ak,ay,aB Z,ZL,cO]) ?_;calc{rfl,?_};rw[E,Z6 L,ZF];rfl
 .subst u;rw[Yd (by lia)]at E;subst E;calc aa (show cO aS (G.map ag) j=aw (.tup (G.map ag),j) from rfl) ?_;calc aa (show ak cO (.ref n) j=aw (.tup (F.map D.int),j) by simp![ak,ay,aB v,ZL,cO]) ?_;k_is;exact q a j d U
def xT{j:Nat}(h:j < l.length):(l[j]::l.eraseIdx j).Perm l:=by
 induction l generalizing j with
 |nil=>simp at h
 |cons a l I=>
  cases j with
  |zero=>exact List.Perm.refl _
  |succ j=>
   rw[Zo]at h;let:=I (j:=j) (by lia);rw[List.getElem_cons_succ,YJ];exact(List.Perm.swap _ _ _).trans (this.cons a)
def q8:∀ (l:List Int) (j:Nat),(l.map D.int).eraseIdx j=(l.eraseIdx j).map D.int
 |[],_=>rfl
 |a::l,0=>rfl
 |a::l,j+1=>by rw[Zy,YJ,YJ,Zy,q8 l j]
def Fx{n:Nat}{l:List Int}{j:Nat}(b:S[n]?=aw (.lst (l.map D.int)))(q:j < l.length):iR (.ref n) [.int (j:Int)] S=aw (.int l[j],S.set n (.lst ((l.eraseIdx j).map D.int))):=by
 let h:ixN (l.map D.int).length (j:Int)=aw j:=by
  delta ixN;rw[if_pos (by lia),if_pos (by rw[Za];lia),ZK]
 let d:(l.map D.int)[j]?=aw (.int l[j]):=by rw[Zq,gEG q];rfl
 let c:(l.map D.int).eraseIdx j=(l.eraseIdx j).map D.int:=q8 l j;simp![iR,chg,b,h,d,ZL,c]
def pw{n:Nat}{l:List Int}(h:l.Perm ((Zi n).map λi=>Int.ofNat i)):l.Nodup/\(∀x∈l,0<=x/\x < n)/\l.length=n:=by
 calc{h.nodup_iff.mpr (YU.mpr (Y5.imp λh z=>h (Int.ofNat.inj z))),λx b=>?_,by rw[h.length_eq,Za,ZC]};let{i,hi,rfl}:=Zz.mp (h.mem_iff.mp b);let:=ZQ.mp hi;show 0<=(i:Int)/\(i:Int) < n
 lia
structure Fxs(p N Nl Nf:Nat)(S:Sto)(es:List D)(G:List (List Int))(l F:List Int):Prop where
 gs:Gs p N Nl S es G
 al:S[Nl]?=aw (.lst (l.map D.int))
 af:S[Nf]?=aw (.lst (F.map D.int))
 nn:Nl < Nf
 pm:(F++l).Perm ((Zi G.length).map λi=>Int.ofNat i)
 rg:∀ (j:Nat) g,G[j]?=aw g->g.getD 6 0=0\/(j:Int)∈F
def Fxs.keep{N n b:Nat}(h:Fxs p N n b S E G l F)(kp:Ev.Kp p S f)(hN:N < n):Fxs p N n b f E G l F:=by
 let:=h.gs.pN;let:=h.nn;exact{h.gs.keep kp,kp _ _ (by lia) h.al,kp _ _ (by lia) h.af,h.nn,h.pm,h.rg}
def J5{r s:Int}{M G:List (List Int)}{H:List (Int×Int)}{X:List D}{N hi:Nat}{C:Sto}{u4 u5 u6 u7 u8 u9 E:Option D}(h:Dr p C S)(l0:C.length<=N)(gs:Gs p N S.length S X G)(me:MeOk r s M H)(g7:G.length<=5)(gb:∀g∈G,GB M.length r s g)(g0:∀g∈G,g.getD 6 0=0)
  (q:∀K f,Dr p C f->SkOk K->(∀g∈K.G,GB K.M.length K.r K.s g)->K.G.length<=5->Q (skE K) f) :
  rW (wSs (evC ab (k+3)) (cu ab) 57 (ic.drop 3)) [aw (.ref p),aw (.int 5),aw (meL r s M H),aw (.ref N),u4,u5,u6,u7,u8,u9,E,aD,aD,aD,aD] S (out Q):=by
 let T:=λ(u11 U:Option D) (b:List (List Int)) (es':List D) (F:List Int) (v hi:Nat) (S1:Sto) (d:Dr p C S1) (gs':Gs p N hi S1 es' b) (hf:S1[v]?=aw (.lst (F.map D.int))) (nf:v≠p) (g7':b.length<=5) (n:∀g∈b,GB M.length r s g) (nd:F.Nodup) (bd:∀x∈F,0<=x/\x < b.length) (rg:∀ (j:Nat) g,b[j]?=aw g->g.getD 6 0=0\/(j:Int)∈F)=>
  J4 (k:=k) (Q:=Q) (u4:=u4) (u5:=u5) (u6:=u6) (u7:=u7) (u8:=u8) (u9:=u9) (u10:=E) (u11:=u11) (u13:=U) d.pot gs' hf nf me (by lia) λa S2 Z ha=>q _ S2 (d.trans Z) {me,ZJ g7' (by decide),λg hg=>(n g hg).up (by decide),nd,bd,rg,ha} n g7'
 dsimp![ic,Yr]at T ⊢;let pN:=gs.pN;let le:=gs.len;let O:N < S.length:=(Zb.mp gs.at_).1;k_is;calc aa (ig gs.at_) ?_;calc{X.length,rfl,by lia,?_};k_is;rw[le]
 let al:(S++[Ob.lst ((Zi G.length).map λj=>D.int (Int.ofNat j))]++[Ob.lst []])[S.length]?=aw (.lst (((Zi G.length).map λj=>Int.ofNat j).map D.int)):=by
  rw[Zt (by simp),aM,ZS];rfl
 let af:(S++[Ob.lst ((Zi G.length).map λj=>D.int (Int.ofNat j))]++[Ob.lst []])[Zl (S++[Ob.lst ((Zi G.length).map λj=>D.int (Int.ofNat j))])]?=aw (.lst (([]:List Int).map D.int)):=aM;let J:Sm S (S++[Ob.lst ((Zi G.length).map λj=>D.int (Int.ofNat j))]++[Ob.lst []]):=(Sm.app _ _).trans (Sm.app _ _);let nn:S.length < Zl (S++[Ob.lst ((Zi G.length).map λj=>D.int (Int.ofNat j))]):=by simp
 generalize Zl (S++[Ob.lst ((Zi G.length).map λj=>D.int (Int.ofNat j))])=v at *;generalize S++[Ob.lst ((Zi G.length).map λj=>D.int (Int.ofNat j))]++[Ob.lst []]=S1 at *;let d1:Dr p C S1:=h.thenSm J;let fx1:Fxs p N S.length v S1 X G ((Zi G.length).map λj=>Int.ofNat j) []:={gs.keep J.kp,al,af,nn,List.Perm.refl _,λj g e=>.inl (g0 g (Zd e))};let sl:C.length<=S.length:=by lia
 generalize S.length=Nl at *;calc aa (ig (J _ _ gs.at_)) ?_;k_is;rw[le];calc{rfl,aI d1.pot (by lia) (by lia) λt S2 t1 t2 Z=>?_};calc{rfl,aI Z.pot (by decide) (by decide) λz S3 z1 z2 d3=>?_};k_is
 obtain⟨c,ec,hc⟩:∃c:Nat,atI [D.int 0,D.int t] z=aw (D.int c)/\c<=G.length:=by
  let:z=0\/z=1:=by lia
  rcases this with rfl |rfl
  .exact{0,rfl,Z2 _}
  .obtain⟨m,rfl⟩:∃m:Nat,t=(m:Int):={t.toNat,by lia};exact{m,rfl,by lia}
 calc{_,ec,?_};k_is;calc{fU (by lia) (by lia),?_};rw[ZK];refine jK (by lia) (λi ρ f=>Dr p C f/\∃b l F U,ρ=[aw (.ref p),aw (.int 5),aw (meL r s M H),aw (.ref N),u4,u5,u6,u7,u8,u9,E,aw (.ref Nl),aw (.ref v),U,aD]/\Fxs p N Nl v f X b l F/\F.length=i/\b.length=G.length/\∀g∈b,GB M.length r s g) (λi ρ S4 hi ⟨d4,b,l,F,U,er,fx,lF,lG,n⟩=>?_) (λρ S4 ⟨d4,b,l,F,U,er,fx,lF,lG,n⟩=>?_) {(d1.trans Z).trans d3,G,_,[],aD,rfl,fx1.keep (Z.trans d3).kp O,rfl,rfl,gb}
 .subst er;calc{_,rfl,?_};k_is;let pl:F.length+l.length=b.length:=by let:=fx.pm.length_eq;rw[Ze,Za,ZC]at this;exact this
  calc{cV fx.af,?_};calc{cV fx.al,?_};calc aa (ig fx.al) ?_;rw[Za];calc{rfl,aI d4.pot (by lia) (by lia) λj0 L j1 j2 d5=>?_};obtain⟨j,rfl⟩:∃j:Nat,j0=(j:Int):={j0.toNat,by lia};let hj:j < l.length:=by lia
  let B:=fx.keep d5.kp O;calc aa (Fx B.al hj) ?_;let I:=B.nn;let lt5:Nl < L.length:=(Zb.mp B.al).1;let ltf:v < L.length:=(Zb.mp B.af).1;let af6:(L.set Nl (.lst ((l.eraseIdx j).map D.int)))[v]?=aw (.lst (F.map D.int)):=by rw[Zx (by lia)];exact B.af
  rw[jc af6 (by rw[Za];lia)];k_is;let ef:F.map D.int++[D.int l[j]]=(F++[l[j]]).map D.int:=by rw[ZF];rfl
  rw[ef]
  let pm7:((F++[l[j]])++l.eraseIdx j).Perm ((Zi b.length).map λi=>Int.ofNat i):=by
   rw[Yk];exact((xT hj).append_left F).trans fx.pm
  let fx7:Fxs p N Nl v ((L.set Nl (.lst ((l.eraseIdx j).map D.int))).set v (.lst ((F++[l[j]]).map D.int))) X b (l.eraseIdx j) (F++[l[j]]):=by
   refine{(B.gs.other (Zf _) O).other (by lia) O,?_,eZ (by rw[Yb];exact ltf),I,pm7,λj' g e=>?_}
   .rw[Zx (by lia),eZ lt5]
   .rcases fx.rg j' g e with z |z
    .exact .inl z
    .exact .inr (ZW _ z)
  let d7:Dr p C ((L.set Nl (.lst ((l.eraseIdx j).map D.int))).set v (.lst ((F++[l[j]]).map D.int))):={((d4.kp.trans d5.kp).setNew (by lia)).setNew (by lia),(d5.pot.setNe (by lia)).setNe (by lia)};generalize (L.set Nl (.lst ((l.eraseIdx j).map D.int))).set v (.lst ((F++[l[j]]).map D.int))=S7 at *;let xb:=(pw fx.pm).2.1 l[j] (ZB _ (ZT hj));generalize l[j]=x at *;calc aa (show ixS (meL r s M H) (.int 0) S7=aw (.int r,S7) from rfl) ?_;k_is;refine dB (λh1=>?_) λh1=>?_
  .k_is;let r0:=of_decide_eq_true h1;let r8:=me.r8;calc{rfl,aI d7.pot (by decide) (by decide) λy S8 y1 y2 d8=>?_};k_is;let Y:=fx7.keep d8.kp O;refine dB (λh2=>?_) λh2=>?_
   .k_is;calc aa (show ixS (meL r s M H) (.int 0) S8=aw (.int r,S8) from rfl) ?_;calc{rfl,aI d8.pot r0 (by lia) λw S9 w1 w2 d9=>?_};k_is;let u:=Y.keep d9.kp O;calc aa (mq (ds:=F.map D.int) (e:=.int x) (by rw[u.af,ZF];rfl)) ?_;let hx:x.toNat < b.length:=by lia
    let{a,ea,n1,n2,za}:=u.gs.row x.toNat b[x.toNat] (gEG hx);calc aa (je u.gs.at_ xb.1 ea) ?_;k_is;let{kd,jo,fi,la,du,we,ri,eg,hb}:=n b[x.toNat] (ZT hx);rw[eg]at za;calc{_,y6 (i:=6) za (by decide) (by show 6 < 7;decide),?_};k_is;let es9:(([kd,jo,fi,la,du,we,ri]:List Int).map D.int).set (6:Int).toNat (.int (1+w))=([kd,jo,fi,la,du,we,1+w]:List Int).map D.int:=rfl;rw[es9];refine{{((d7.kp.trans d8.kp).trans d9.kp).setNew (by lia),d9.pot.setNe (by lia)},b.set x.toNat [kd,jo,fi,la,du,we,1+w],_,_,_,rfl,{u.gs.setRow hx ea,?_,?_,I,by rw[Yb];exact u.pm,λj' g e=>?_},by rw[Ze,Zm];lia,by rw[Yb];exact lG,λg hg=>?_}
    .rw[Zx (by lia)];exact u.al
    .rw[Zx (by lia)];exact u.af
    .by_cases hjj:j'=x.toNat
     .subst hjj;right;let:((x.toNat:Nat):Int)=x:=by lia
      rw[this];exact ZB _ (ZG.mpr rfl)
     .rw[Zx (Ne.symm hjj)]at e;exact u.rg j' g e
    .rcases List.mem_or_eq_of_mem_set hg with hg |rfl
     .exact n g hg
     .exact{kd,jo,fi,la,du,we,1+w,rfl,by omega}
   .k_is;exact{d7.trans d8,b,_,_,_,rfl,Y,by rw[Ze,Zm];lia,lG,n}
  .k_is;exact{d7,b,_,_,_,rfl,fx7,by rw[Ze,Zm];lia,lG,n}
 .subst er;k_is;let pr:=pw fx.pm;let I:=fx.nn;exact T _ _ b X F v Nl S4 d4 fx.gs fx.af (by lia) (by lia) n (List.Nodup.sublist (List.sublist_append_left F l) pr.1) (λy hy=>pr.2.1 y (ZW _ hy)) fx.rg
def J6(h:Pot p S)(q:∀K f,Dr p S f->SkOk K->(∀g∈K.G,GB K.M.length K.r K.s g)->K.G.length<=5->Q (skE K) f):Ok (evC ab (k+4) 50 [.ref p,.int 5] S) Q:=by
 calc av (d:=kI) (ρ:=[aw (.ref p),aw (.int 5),aD,aD,aD,aD,aD,aD,aD,aD,aD,aD,aD,aD,aD]) rfl rfl ?_;let C:=@J5 p;dsimp![kI];dsimp![ic,Yr]at C ⊢;k_is;calc{rfl,xI h λr s M H y d1 me=>?_};rw[show(D.tup [.int r,.int s,.tup (M.map ag),.tup (H.map aj)])=meL r s M H from rfl];k_is;let L:=d1.pot.lt;let m1:=me.m1;let m4:=me.m4;let s0:=me.s0;let s60:=me.s60;let sl:S.length<=y.length:=Kp.len d1.kp L;let d2:Dr p S (y++[Ob.lst []]):=d1.thenSm (Sm.app _ _);let g2:Gs p y.length (Zl (y++[Ob.lst []])) (y++[Ob.lst []]) [] []:={L,aM,rfl,λi g e=>by simp at e,λi j a e=>by simp at e};generalize y++[Ob.lst []]=S2 at *;generalize y.length=N at *;calc{rfl,aI d2.pot (by decide) (by decide) λT S3 j3 k3 d3=>?_};k_is
 obtain⟨wd,at3,h3⟩:∃e:Int,atI [D.int 5,D.int 20,D.int 60] T=aw (D.int e)/\0 < e/\e<=60:=by
  let:T=0\/T=1\/T=2:=by lia
  rcases this with rfl |rfl |rfl
  .exact{5,rfl,by decide,by decide}
  .exact{20,rfl,by decide,by decide}
  .exact{60,rfl,by decide,by decide}
 calc{_,at3,?_};calc{rfl,aI d3.pot (by decide) (by decide) λI S4 j4 k4 d4=>?_};k_is
 obtain⟨lg,at4,h4⟩:∃e:Int,atI [D.int 4,D.int 30,D.int 90,D.int 400] I=aw (D.int e)/\0 < e/\e<=400:=by
  let:I=0\/I=1\/I=2\/I=3:=by lia
  rcases this with rfl |rfl |rfl |rfl
  .exact{4,rfl,by decide,by decide}
  .exact{30,rfl,by decide,by decide}
  .exact{90,rfl,by decide,by decide}
  .exact{400,rfl,by decide,by decide}
 calc{_,at4,?_};k_is;calc{rfl,aI d4.pot (by decide) (by decide) λn0 S5 n1 n2 d5=>?_};k_is;obtain⟨n,rfl⟩:∃n:Nat,n0=(n:Int):={n0.toNat,by lia};calc{fU (by lia) (by lia),?_};rw[ZK];let u:=(d3.trans d4).trans d5;refine jK (by lia) (λi ρ f=>Dr p S f/\∃O G u6 u7 u8 u9 U,ρ=[aw (.ref p),aw (.int 5),aw (meL r s M H),aw (.ref N),aw (.int wd),aw (.int lg),u6,u7,u8,u9,U,aD,aD,aD,aD]/\Gs p N f.length f O G/\G.length=i/\∀g∈G,GB M.length r s g/\g.getD 6 0=0) (λi ρ S6 hi ⟨E,O,G,u6,u7,u8,u9,U,er,gs,lG,gb⟩=>?_) (λρ S6 ⟨E,O,G,u6,u7,u8,u9,U,er,gs,lG,gb⟩=>?_) {d2.trans u,[],[],aD,aD,aD,aD,aD,rfl,(g2.keep u.kp).up (Kp.len u.kp u.pot.lt),rfl,λg hg=>by simp at hg}
 .subst er;calc{_,rfl,?_};k_is;calc{rfl,aI E.pot h3.1 (by lia) λJ S7 o1 o2 d7=>?_};k_is;calc aa (show ixS (meL r s M H) (.int 1) S7=aw (.int s,S7) from rfl) ?_;k_is;calc{rfl,aI d7.pot (by decide) (by decide) λx S8 x1 x2 d8=>?_};calc{rfl,aI d8.pot (by decide) (by decide) λz S9 z1 z2 d9=>?_};k_is
  obtain⟨e,ate,he⟩:∃e:Int,atI [D.int 0,D.int x] z=aw (D.int e)/\0<=e/\e<=9:=by
   let:z=0\/z=1:=by lia
   rcases this with rfl |rfl
   .exact{0,rfl,by decide,by decide}
   .exact{x,rfl,by lia,by lia}
  calc{_,ate,?_};k_is;calc{rfl,aI d9.pot h4.1 (by lia) λa Sa a1 a2 da=>?_};k_is;calc{rfl,aI da.pot h4.1 (by lia) λb Z b1 b2 db=>?_};k_is;let v:=(((d7.trans d8).trans d9).trans da).trans db;let gsb:=gs.keep v.kp;calc{cV gsb.at_,?_};calc aa (show ixS (meL r s M H) (.int 2) Z=aw (.tup (M.map ag),Z) from rfl) ?_;calc aa (show ak dh (.tup (M.map ag)) Z=aw (.int M.length,Z) by simp![ak,ay,dh,Za]) ?_;calc{rfl,aI db.pot (by lia) (by lia) λX Sc c1 c2 dc=>?_};calc{rfl,aI dc.pot (by decide) (by decide) λw Sd w1 w2 dd=>?_};k_is
  obtain⟨Y,atw,hw⟩:∃e:Int,atI [D.int 0,D.int 1,D.int 7,D.int 99] w=aw (D.int e)/\0<=e/\e<=99:=by
   let:w=0\/w=1\/w=2\/w=3:=by lia
   rcases this with rfl |rfl |rfl |rfl
   .exact{0,rfl,by decide,by decide}
   .exact{1,rfl,by decide,by decide}
   .exact{7,rfl,by decide,by decide}
   .exact{99,rfl,by decide,by decide}
  calc{_,atw,?_};k_is;let c:=v.trans (dc.trans dd);let l:=(gs.keep c.kp).up (Kp.len c.kp c.pot.lt);let atN:=Sm.app Sd [Ob.lst [D.int X,D.int J,D.int (J+s+e),D.int (J+s+e+a),D.int (J+b),D.int Y,D.int 0]] _ _ l.at_;rw[jc atN (by rw[l.len];lia)];k_is;let sn:=l.snoc (g:=[X,J,J+s+e,J+s+e+a,J+b,Y,0]);let B:=E.trans c;refine{{(B.kp.trans (Sm.app _ _).kp).setNew (by lia),((Dr.sm B.pot (Sm.app _ _)).pot).setNe (by let:=l.pN;lia)},O++[D.ref (Zl Sd)],G++[[X,J,J+s+e,J+s+e+a,J+b,Y,0]],_,_,_,_,_,rfl,?_,by rw[Ze,Zm];lia,λg hg=>?_}
  .rw[Yb,Ze,Zm];exact sn
  .rcases ZR.mp hg with hg |hg
   .exact gb g hg
   .rw[ZG.mp hg];exact⟨{X,J,J+s+e,J+s+e+a,J+b,Y,0,rfl,by let:=me.r0;omega},rfl⟩
 .subst er;exact C (hi:=0) E (by lia) gs me (by lia) (λg hg=>(gb g hg).1) (λg hg=>(gb g hg).2) q
abbrev Nr(G b:List (List Int)):Prop:=b.length=G.length/\∀ (i:Nat) g,G[i]?=aw g->∃d,0<=d/\d<=25/\b[i]?=aw (g.set 3 (g.getD 2 0+d))
def Nr.nil:Nr [] []:={rfl,λi g h=>by cases h}
def Nr.snoc{d:Int}(h:Nr G n)(v:0<=d)(q:d<=25):Nr (G++[g]) (n++[g.set 3 (g.getD 2 0+d)]):=by
 calc{by rw[Ze,Ze,h.1];rfl,λi x j=>?_};by_cases hi:i < G.length
 .rw[Zt hi]at j;let{u,a,b,c}:=h.2 i x j;exact{u,a,b,by rw[Zt (by rw[h.1];exact hi)];exact c}
 .let l:i=G.length:=by
   let:=(Zb.mp j).1;rw[Ze,Zm]at this
   lia
  subst l;rw[Zp (Zf _),ZY]at j;cases j;exact{d,v,q,by rw[<-h.1,Zp (Zf _),ZY];rfl}
def J7(n:SkOk K)(gb:∀g∈K.G,GB K.M.length K.r K.s g)(h:Nr K.G q):SkOk {K with G:=q}:=by
 let b:∀ (i:Nat) l,q[i]?=aw l->∃g d,K.G[i]?=aw g/\0<=d/\d<=25/\l=g.set 3 (g.getD 2 0+d):=λi l e=>by
  let hi:i < K.G.length:=by rw[<-h.1];exact(Zb.mp e).1
  let{d,v,y,B}:=h.2 i _ (gEG hi);rw[e]at B;cases B;exact{_,d,gEG hi,v,y,rfl}
 refine{n.me,by show q.length<=7;rw[h.1];exact n.g7,λl c=>?_,n.nd,λx O=>by show _/\x < (q.length:Int);rw[h.1];exact n.bd x O,λj l c=>?_,n.ah}
 .let{i,hi}:=YF c;let{g,d,e,v,y,rfl}:=b i l hi;let{z,J,u,T,L,C,I,E,hb}:=gb g (Zd e);subst E;let s0:=n.me.s0;exact{z,J,u,u+d,L,C,I,rfl,by dsimp!;omega}
 .let{g,d,e,v,y,rfl}:=b j l c;let{z,J,u,T,L,C,I,E,hb}:=gb g (Zd e);let:=n.rg j g e;subst E;exact this
def xU(h:Pot p S)(q:∀K f,Dr p S f->SkOk K->K.G.length<=5->Q (skE K) f):Ok (evC ab (k+5) 61 [.ref p] S) Q:=by
 calc av (d:=eY) (ρ:=[aw (.ref p),aD,aD,aD,aD,aD,aD]) rfl rfl ?_;dsimp![eY,iG];k_is;calc{rfl,J6 (k:=k) h λK S1 Y sk gb h5=>?_};k_is;show wTp _ (.tup [meE K,ahE K.ah,.tup (K.G.map ag),.tup (K.F.map D.int)]) _ _;k_is;calc{rfl,aI Y.pot (by decide) (by decide) λw S2 w0 w1 L=>?_};k_is
 obtain⟨fr,y,h3⟩:∃e:Int,atI [D.int 1,D.int 4,D.int 25] w=aw (D.int e)/\0 < e/\e<=25:=by
  let:w=0\/w=1\/w=2:=by lia
  rcases this with rfl |rfl |rfl
  .exact{1,rfl,by decide,by decide}
  .exact{4,rfl,by decide,by decide}
  .exact{25,rfl,by decide,by decide}
 calc{_,y,?_};k_is;refine oO K.G.length (λi=>((K.G.map ag)[i]?).getD .non) (λi j f=>Dr p S2 f/\∃b:List (List Int),j=b.map ag/\Nr (K.G.take i) b) (λi j f hi _=>?_) (by lia) (λi j n hi C=>?_) (λes n B=>?_) {Dr.refl L.pot,[],rfl,Nr.nil}
 .show aw ((K.G.map ag)[i]?)=_;by_cases c:i < K.G.length
  .rw[if_pos c,gEG (by rw[Za];exact c)];rfl
  .rw[if_neg c,Zw (by rw[Za];lia)]
 .let{v,b,E,u}:=C;let hg:K.G[i]?=aw K.G[i]:=gEG hi;let{I,J,z,X,Z,O,T,U,_}:=gb K.G[i] (ZT hi);let ez:((K.G.map ag)[i]?).getD .non = .tup [.int I,.int J,.int z,.int X,.int Z,.int O,.int T]:=by rw[Zq,hg,U];rfl
  rw[ez];calc{_,rfl,?_};k_is;calc aa (show ixS (.tup [.int I,.int J,.int z,.int X,.int Z,.int O,.int T]) (.int 2) n=aw (.int z,n) from rfl) {rfl,aI v.pot h3.1 (by lia) λx S4 x0 x1 d4=>?_};k_is;refine{show 3+1<=1000 by decide,show 4+3<=1000 by decide,v.trans d4,b++[K.G[i].set 3 (K.G[i].getD 2 0+x)],?_,?_}
  .rw[E,ZF,U];rfl
  .rw[Z6 hi];exact Nr.snoc u x0 (by lia)
 .let{v,b,E,u}:=B;rw[Yx]at u;subst E;calc{by rw[Za,u.1];lia,?_};k_is;calc aa (show ak cO (.ref n.length) (n++[Ob.lst (b.map ag)])=aw (.tup (b.map ag),n++[Ob.lst (b.map ag)]) by simp![ak,ay,aB (ZA (l:=n) (a:=Ob.lst (b.map ag)))];rfl) ?_;k_is;exact q {K with G:=b} _ ((Y.trans (L.trans v)).thenSm (Sm.app _ _)) (J7 sk gb u) (by show b.length<=5;rw[u.1];exact h5)
end Lw
namespace Lw
open PySem Ev L2
variable {p:Nat} {S:Sto} {k:Nat} {Q:D->Sto->Prop}
def Fy{c:Nat}:∀ {ts:List Dw.D},(∀t∈ts,Dw.sz t<=c)->Dw.szL ts<=ts.length * (c+2)
 |[],_=>by simp[Dw.szL]
 |t::ts,h=>by
  let f:=h t Zj;let d:=Fy (ts:=ts) λT b=>h T (Zg _ b);rw[Dw.szL,Zo,XU]
  lia
structure Shw(t:Dw.D):Prop where
 sh:Dw.Shn t
 de:Dw.dep t<=50
 wi:Dw.wid t<=1000
def QY{n m B s:Nat}(f:Dw.Fit n m t)(b:Dw.Bd B s t)(h:n<=50)(d:m<=1000)(c:B<=10 ^ 50)(hs:s<=16000000):Shw t:=
 {b.shn c (by rw[ZaN];lia) (ZJ f.de (by lia)),ZJ f.de h,ZJ f.wi d}
mutual
theorem zt:∀ (n:Nat) {t:Dw.D} {d:D},Dw.dep t < n->TD p S t d->dR n S d=aw t
 |n+1,.non,_,_,h=>by rw[h.non];simp![dR]
 |n+1,.bl _,_,_,h=>by rw[h.bl];simp![dR]
 |n+1,.int _,_,_,h=>by rw[h.int];simp![dR]
 |n+1,.str _,_,_,h=>by rw[h.str];simp![dR]
 |n+1,.tup ts,_,hd,h=>by
  let{b,rfl,q}:=h.tup;rw[Dw.dep]at hd;simp![dR,pA n (by lia) q,ZL]
 |n+1,.lst ts,_,hd,h=>by
  rw[TD]at h;let{m,b,rfl,_,e,q}:=h;rw[Dw.dep]at hd;simp![dR,e,pA n (by lia) q,ZL]
 |n+1,.dic ks ts,_,hd,h=>by rw[TD]at h;exact h.elim
theorem pA:∀ (n:Nat) {T:List Dw.D} {b:List D},Dw.lQ T < n->TDs p S T b->fY (dR n S) b=aw T
 |n,[],_,_,h=>by rw[h.nil];simp![fY]
 |n,t::T,_,hd,h=>by
  let{d,r,rfl,a,q}:=h.cons;rw[Dw.lQ]at hd;simp![fY,zt n (by lia) a,pA n (by lia) q]
end
def td(h:TD p S t d)(s:Shw t):nK d S=aw (.str (Dw.bc t).shown,S):=by
 delta nK;rw[zt 100 (by let:=s.de;lia) h];dsimp!;rw[if_pos s.sh]
def zu(x y:Str)(S:Sto):ao .ne (.str x) (.str y) S=aw (.bl (!(x == y)),S):=pX rfl
end Lw
namespace Lw
open PySem Ev Sn L2
variable {p:Nat} {S s:Sto} {k:Nat} {Q:D->Sto->Prop} {K:Sky}
abbrev cC(w:Nat):Nat->Nat
 |0=>100
 |n+1=>w * (cC w n+2)+100
structure PB(w n:Nat)(t:Dw.D):Prop where
 ft:Dw.Fit n w t
 bd:Dw.Bd (10 ^ 31) (cC w n) t
variable {w:Nat}
def Uq{n:Nat}(hw:1<=w):cC w n<=cC w (n+1):=by rw[cC];exact ZJ (by lia) (Nat.add_le_add_right (YZ _ hw) _)
def PB.up{n:Nat}{t:Dw.D}(h:PB w n t)(hw:1<=w:=by decide):PB w (n+1) t:={h.ft.up (YM _) (Zf _),h.bd.bn,ZJ h.bd.sz (Uq hw)}
def PB.tup{n:Nat}{T:List Dw.D}(hl:T.length<=w)(h:∀t∈T,PB w n t):PB w (n+1) (.tup T):=by
 calc{Dw.Fit.tup hl λt b=>(h t b).ft,Dw.Mi (λt b=>(h t b).bd.bn) ?_};let:=Fy (c:=cC w n) λt b=>(h t b).bd.sz;let d:T.length * (cC w n+2)<=w * (cC w n+2):=YZ _ hl;rw[cC]
 lia
def zv(hd:Dw.dep t=0)(hw:Dw.wid t=0)(hb:Dw.bnd (10 ^ 31) t)(hs:Dw.sz t<=100):PB w 0 t:=⟨{by lia,by lia},hb,hs⟩
def xV{i:Int}(h:0<=i/\i<=99999999):PB w 0 (.int i):=zv (by simp![Dw.dep]) (by simp![Dw.wid]) (by simp![Dw.bnd];lia) (by simp![Dw.sz];decide)
def Ve:PB w 0 .non:=zv (by simp![Dw.dep]) (by simp![Dw.wid]) (by simp![Dw.bnd]) (by simp![Dw.sz];decide)
def PB.shw{n:Nat}{t:Dw.D}(h:PB w n t)(b:n<=50:=by decide)(hw:w<=1000:=by decide)(hc:cC w n<=16000000:=by decide):Shw t:=QY h.ft h.bd b hw (by decide) hc
def tj{l:List Int}(h:∀x∈l,0<=x/\x<=9999)(hl:l.length<=w):PB w 1 (.tup (l.map Dw.D.int)):=PB.tup (by rw[Za];exact hl) λt c=>by
 let{x,b,rfl}:=Zz.mp c;exact xV (by let:=h x b;lia)
def xW{M:List (List Int)}(hl:M.length<=w)(h:∀r∈M,r.length<=w/\∀x∈r,0<=x/\x<=9999):PB w 2 (.tup (Dw.iO M)):=PB.tup (by delta Dw.iO;rw[Za];exact hl) λt c=>by
 delta Dw.iO at c;let{r,b,rfl}:=Zz.mp c;exact tj (h r b).2 (h r b).1
def Fz{a b:Int}(c:0<=a/\a<=9999)(h:0<=b/\b<=9999):PB 14 1 (.tup [.int a,.int b]):=tj (l:=[a,b]) (λx hx=>by
 rcases Zn.mp hx with rfl |hx
 .exact c
 .rw[ZG.mp hx];exact h) (by show 2<=14;decide)
def cM{n:Nat}{t:Dw.D}{T:List Dw.D}(h:PB w n t)(q:∀t∈T,PB w n t):∀u∈t::T,PB w n u:=λu hu=>by
 rcases Zn.mp hu with rfl |hu
 .exact h
 .exact q u hu
def xX{n:Nat}:∀u∈([]:List Dw.D),PB w n u:=λu h=>by cases h
def J8(h:SkOk K):Shw (skT K):=by
 let g7:=h.g7;let m4:=h.me.m4;let h4:=h.me.h4;let r8:=h.me.r8;let r0:=h.me.r0;let s60:=h.me.s60;let s0:=h.me.s0;let L:=Dw.cg K.G.length K.F h.nd h.bd;let j:PB 14 2 (.tup (Dw.iO K.M)):=xW (by lia) λr l=>{by rw[h.me.mat.row r l];lia,λx c=>by let:=h.me.mat.ent r l x c;lia}
 let d:PB 14 2 (.tup (Dw.iO K.G)):=xW (by lia) λr l=>by
  let{B,J,C,O,T,E,I,rfl,hb}:=h.gb r l;calc{by show 7<=14;decide,λx c=>?_};simp![Zn,XQ,or_false]at c;omega
 let f:PB 14 2 (.tup (K.H.map Dw.qm)):=PB.tup (by rw[Za];lia) λt y=>by
  let{z,u,rfl}:=Zz.mp y;let a:=mz h.me.ris u;let b:=h.me.hb z u;exact Fz (by lia) (by lia)
 let q:PB 14 1 (.tup (K.F.map Dw.D.int)):=tj (λx c=>by let:=h.bd x c;lia) (by lia)
 let ah:PB 14 1 (ahT K.ah):=by
  cases v:K.ah with
  |none=>exact Ve.up
  |some z=>
   let:=h.ah z v;exact Fz (by lia) (by lia)
 exact(PB.tup (n:=3) (by show 4<=14;decide) (cM (PB.tup (by show 4<=14;decide) (cM (xV (by lia)).up.up (cM (xV (by lia)).up.up (cM j (cM f xX))))) (cM ah.up.up (cM d.up (cM q.up.up xX))))).shw
def PB.lst{n:Nat}(h:PB w n (.tup T)):PB w n (.lst T):={h.ft.lst,Dw.Mj h.bd}
abbrev zw(A B:List (List Int)):Dw.D:=.lst [.lst (Dw.iO A),.lst (Dw.iO B)]
def zx(d:K.G.length<=5):PB 32 2 (.tup (Dw.iO (pk c (slots K.G.length) []))):=by
 let{j,l}:=pq (c:=c) d;calc xW j λr b=>{by let:=l r b;lia,λx f=>?_};rcases sX _ _ b with h |⟨h,_⟩
 .cases h
 .let:=(cZ _ _ (Q0.mp h)).2 x f
  lia
def FA(h:K.G.length<=5):Shw (zw (stk K) (snt K)):=(PB.tup (w:=32) (n:=2) (by show 2<=32;decide) (cM (zx h).lst (cM (zx h).lst xX))).lst.shw
def zy{m a b:Nat}(c:∃o,S[0]?=aw (.frz o))(f:S[m]?=aw (.lst [.ref a,.ref b]))(d:S[a]?=aw (.lst (A.map ag)))(hb:S[b]?=aw (.lst (B.map ag))):TD 0 S (zw A B) (.ref m):=by
 let{o,c}:=c;let ne:∀ {j ds},S[j]?=aw (Ob.lst ds)->j≠0:=λ{j ds} h e=>by rw[e,c]at h;cases h
 exact xv (ne f) f (au (xv (ne d) d (e8 A)) (au (xv (ne hb) hb (e8 B)) bP))
end Lw
namespace Lw
open PySem Ev Sn L2
variable {p:Nat} {S q:Sto} {k:Nat} {Q:D->Sto->Prop} {K:Sky}
abbrev vV(ns:List Int)(S:Sto):Prop:=S[0]?=aw (.frz (ns.map D.int))/\JZ S
def J9{n:Nat}(h:S[n]?=aw (.lst b))(hl:b.length<=1000):w4 (.ref n) [.int 0,d] S=aw (.non,S.set n (.lst (d::b))):=by
 simp![w4,chg,h];rw[if_pos {by decide,by decide},if_pos (by lia)];delta kW;simp
def vV.keep(h:vV ns S)(s:Sm S q):vV ns q:={s _ _ h.1,s _ _ h.2}
def main(ns:List Int)(hl:ns.length<=63):∃q,evC ab 40 64 [.ref 0] [.frz (ns.map D.int),.tbl "all_lots" kz.2.1 kz.2.2]=aw (.bl aN,q):=by
 let key:Ok (evC ab 40 64 [.ref 0] [.frz (ns.map D.int),.tbl "all_lots" kz.2.1 kz.2.2]) λd _=>d = .bl aN:=by
  calc av (d:=yS) (ρ:=[aw (.ref 0),aD,aD,aD,aD,aD,aD,aD,aD]) rfl rfl ?_;let b0:vV ns [.frz (ns.map D.int),.tbl "all_lots" kz.2.1 kz.2.2]:=⟨rfl,rfl⟩;generalize [Ob.frz (ns.map D.int),Ob.tbl "all_lots" kz.2.1 kz.2.2]=S0 at *;dsimp![yS,K1];k_is;let ln:ak dh (.ref 0) S0=aw (.int ns.length,S0):=by simp![ak,ay,aR,b0.1,ZL,dh,Za]
  calc aa ln ?_;k_is
  obtain⟨n,en,hn⟩:∃n:Nat,(if (if (3:Int) < ns.length then (3:Int) else ns.length) > 1 then (if (3:Int) < ns.length then (3:Int) else ns.length) else 1)=(n:Int)/\n<=3:=by
   refine{(if (if (3:Int) < ns.length then (3:Int) else ns.length) > 1 then (if (3:Int) < ns.length then (3:Int) else ns.length) else 1).toNat,?_,?_}
   .split <;> split <;> omega
   .split <;> split <;> omega
  rw[en];calc{fU (by lia) (by lia),?_};rw[ZK];refine jK (by lia) (λi u q=>vV ns q/\∃a b c d e f g h,u=[aw (.ref 0),a,b,c,d,e,f,g,h]) (λi u L hi I=>?_) (λu L I=>?_) ⟨b0,_,_,_,_,_,_,_,_,rfl⟩
  .let{X,a,b,c,d,e,f,g,h,rfl}:=I;calc{_,rfl,?_};rw[XW];k_is;calc{rfl,Jr (k:=38) X.1 λx=>?_};calc{rfl,Qz (k:=38) λm=>?_};let n0:1 < L.length:=(Zb.mp X.2).1;let h2:vV ns (L++[Ob.lst [D.int m]]):={Sm.app _ _ _ _ X.1,Sm.app _ _ _ _ X.2};let pt:Pot L.length (L++[Ob.lst [D.int m]]):=⟨m,aM⟩;generalize L++[Ob.lst [D.int m]]=S2 at *;generalize L.length=p at *;k_is;calc{rfl,xU (k:=34) pt λK S3 d3 sk T=>?_};let h3:vV ns S3:={d3.kp _ _ (by lia) h2.1,d3.kp _ _ (by lia) h2.2};k_is;let rs:=λS=>td (p:=0) (S:=S) (Uc (K:=K)) (J8 sk);let rl:=FA (K:=K) T;calc aa (rs S3) {rfl,QX (k:=33) sk T λm a b S4 s4 hm ha hb=>?_};let h4:=h3.keep s4;calc aa (td (zy ⟨_,h4.1⟩ hm ha hb) rl) ?_;generalize (Dw.bc (skT K)).shown=w1 at *;k_is;calc{by decide,?_};refine jK (by decide) (λ_ u q=>vV ns q/\∃f g h,u=[aw (.ref 0),aw (D.int i),aw (.ref p),aw (skE K),aw (.str w1),aw (.str (Dw.bc (zw (stk K) (snt K))).shown),f,g,h]) (λt u S5 ht I=>?_) (λu S5 I=>?_) ⟨h4,_,_,_,rfl⟩
   .let{E,f,g,h,rfl}:=I;calc{_,rfl,?_};k_is;calc{rfl,vQ (k:=14) sk T E.2 λm1 S6 s6 l6 e6=>?_};let h6:=E.keep s6;calc{rfl,J2 (k:=13) sk T h6.2 λv B s7 l7 e7=>?_};let h7:=h6.keep s7;k_is;let Y:=s7 _ _ e6;let h8:=h7.keep (Sm.app B [Ob.lst [.ref m1,.ref v]]);let O:(B++[Ob.lst [.ref m1,.ref v]])[B.length]?=aw (Ob.lst [.ref m1,.ref v]):=ZA;let a8:=Sm.app B [Ob.lst [.ref m1,.ref v]] _ _ Y;let b8:=Sm.app B [Ob.lst [.ref m1,.ref v]] _ _ e7;let lt1:=(Zb.mp Y).1;let lt2:=(Zb.mp e7).1;generalize B++[Ob.lst [.ref m1,.ref v]]=S8 at *;calc aa (td (zy ⟨_,h8.1⟩ O a8 b8) rl) (aa (zu _ _ S8) ?_);rw[beq_self_eq_true];k_is;calc aa (rs S8) (aa (zu _ _ S8) ?_);rw[beq_self_eq_true];k_is;calc{by rw[aB O];rfl,?_};let sl1:=(pq (c:=λl=>!lnd K l) T).1;let sl2:=(pq (c:=λl=>lnd K (bD K.G.length l)) T).1;refine vG (by show 2<=100000;decide) (λj u C=>vV ns C/\C[B.length]?=aw (Ob.lst [.ref m1,.ref v])/\(∀y,y=m1\/y=v->∃ds,C[y]?=aw (.lst ds)/\ds.length<=32+j)/\∃h,u=[aw (.ref 0),aw (D.int i),aw (.ref p),aw (skE K),aw (.str w1),aw (.str (Dw.bc (zw (stk K) (snt K))).shown),aw (D.int (0+t)),aw (.ref B.length),h]) (λj u C I=>I.2.1) (λj d u C hd I=>?_) (λu C I=>?_) {h8,O,λy hy=>?_,_,rfl}
    .let{U,Z,ls,h,rfl}:=I;let hj:j < 2:=(Zb.mp hd).1
     obtain⟨y,rfl,hy⟩:∃y,d = .ref y/\(y=m1\/y=v):=by
      match j,hd with
      |0,hd=>cases hd;exact{m1,rfl,.inl rfl}
      |1,hd=>cases hd;exact{v,rfl,.inr rfl}
     let{ds,J,ly}:=ls y hy;let ny:y < B.length:=by rcases hy with rfl |rfl <;> assumption
     let lt:=(Zb.mp J).1;let kp:∀ (z:Nat) o,z≠y->C[z]?=aw o->(C.set y (.lst (.tup [.int 7]::ds)))[z]?=aw o:=λz o n e=>by rw[Zx (Ne.symm n)];exact e
     calc{_,rfl,?_};k_is;calc{by show(aR C y).isSome=aN;rw[aB J];rfl,aa (J9 J (by lia)) ?_};k_is;calc{{kp _ _ (λz=>by rw[<-z,U.1]at J;cases J) U.1,kp _ _ (λz=>by rw[<-z,U.2]at J;cases J) U.2},kp _ _ (by lia) Z,λz hz=>?_,_,rfl};by_cases e:z=y
     .subst e;exact{_,ZV lt,by rw[Zo];lia}
     .let{ds',e',l'}:=ls z hz;exact{ds',kp _ _ e e',by lia}
    .let{U,Z,ls,h,rfl}:=I;k_is;exact⟨U,_,_,_,rfl⟩
    .rcases hy with rfl |rfl
     .exact{_,a8,by rw[Za];exact sl1}
     .exact{_,b8,by rw[Za];exact sl2}
   .let{E,f,g,h,rfl}:=I;k_is;exact⟨E,_,_,_,_,_,_,_,_,rfl⟩
  .let{X,a,b,c,d,e,f,g,h,rfl}:=I;k_is
 let{d,q,e,rfl}:=key;exact⟨q,e⟩
end Lw
theorem PySem.Challenge.cw_downrings_k53_least_stuck_and_least_send_holds : PySem.Challenge.rw_downrings_k53_least_stuck_and_least_send.Holds :=
 Lw.head Lw.main
