import PyProof.Rows.All
import Wide.All
import OpenK.AllK
import Wide.FinOn
import VapolaSpec
import PyVapola
import Open.Spec
import PyProof.EqAt
import PyProof.EqKinds
import PyProof.TupleCall
import KE.BitLaws
import Open.SpecLaws
import KE.OsHead
import KE.OsGo
import OpenK.KOwn
import PyProof.StationsW
import PyProof.NsDelKeeps
import PyProof.RulesAs
import PyProof.SetKind
import PyProof.DictKinds
import PyProof.Seq
import PyProof.ForAny
import PyProof.MakeMany
import PyProof.CollectWalk
import PyProof.FactsAll.set
import PyProof.WalksS
import PyProof.Rows.SortShell
import PyProof.Rows.SortWalk
import PyProof.SumAny
import PyProof.Meets
import KE.KRevIter
import KE.KDictList
import KE.KSortTupG
import KE.KSortKeySt
import PySem.Challenge.RW_requestclasses_s01_answers
set_option Elab.async false
set_option bootstrap.genMatcherCode false
set_option compiler.extract_closed false
set_option linter.all false
set_option maxRecDepth 100000
set_option maxHeartbeats 4000000
theorem zzA{a b:Option α}{g:Prop}(h:a=b)(k:(a.isSome==b.isSome)=false):g:=by cases h;cases a<;>cases k
theorem zzB{a b:Bool}{g:Prop}(h:a=b)(k:(a==b)=false):g:=by cases h;cases a<;>cases k
theorem zzC{a b:List α}{g:Prop}(h:a=b)(k:(a.isEmpty==b.isEmpty)=false):g:=by cases h;cases a<;>cases k
theorem zzK{p:Prop}(h:(p->False)->False):p:=Classical.byContradiction h
@[elab_as_elim]theorem zzR{α:Sort _}{a b:α}{p:α->Prop}(h:a=b)(x:p b):p a:=h▸x
@[elab_as_elim]theorem zzS{α:Sort _}{a b:α}{p:α->Prop}(h:b=a)(x:p b):p a:=h▸x
@[elab_as_elim]theorem zzT{a b:Prop}{p:Prop->Prop}(h:a↔b)(x:p b):p a:=propext h▸x
namespace Nat
variable{a b c d e:Nat}
theorem zo1(h:a<=b)(k:ble b c=true):a<=c:=Nat.le_trans h<|le_of_ble_eq_true k
theorem zo2(h:a<=b)(k:ble (b+1) c=true):a<c:=Nat.lt_of_le_of_lt h<|le_of_ble_eq_true k
theorem zo3(h:a<b)(k:ble b c=true):a<=c:=Nat.le_of_lt<|Nat.lt_of_lt_of_le h<|le_of_ble_eq_true k
theorem zo4(h:a<=c):a-b<=c:=Nat.le_trans (sub_le ..) h
theorem zo5(h:a<=b)(k:ble b c=true):a-d<=c:=zo4<|zo1 h k
theorem zo6(h:b<=c):min a b<=c:=Nat.le_trans (Nat.min_le_right ..) h
theorem zo7:min a (b-c)<=b:=zo6<|sub_le ..
theorem zo8(h:b<=c)(k:ble (c+1) d=true):min a b<d:=zo2 (zo6 h) k
theorem zoC{v:Int}(h:v<0):v+a<=a:=by have:=Int.add_le_add_right (Int.le_of_lt h) a;rwa[Int.zero_add]at this
theorem zo9(h:a<b):b-(a+1)<b-a:=Nat.sub_lt_sub_left h<|Nat.lt_add_one _
theorem zoB(h:a<=b)(k:¬a<b):a=b:=Nat.le_antisymm h<|Nat.le_of_not_lt k
theorem zoD(h:a-b=c+1):a-(b+1)=c:=by rw[Nat.sub_add_eq,h];rfl
theorem zoE(h:a-c=d+1):c<a:=Nat.sub_pos_iff_lt.mp<|h▸succ_pos d
theorem zoF(h:min a b-c=d+1):c<b:=Nat.lt_of_lt_of_le (zoE h)<|Nat.min_le_right ..
theorem zoO(h:min a b-c=d+1):c<a:=Nat.lt_of_lt_of_le (zoE h)<|Nat.min_le_left ..
theorem zoG(h:b<a):a+1-(b+1)<a+1-b:=zo9<|lt_succ_of_lt h
theorem zoH(h:b<a):a-1-b<a:=Nat.lt_of_le_of_lt (sub_le ..)<|Nat.sub_lt (zero_lt_of_lt h) Nat.one_pos
theorem zoI:a-(a-b)<=b:=Nat.sub_le_iff_le_add.mpr<|Nat.sub_le_iff_le_add'.mp<|Nat.le_refl _
theorem zoJ:max a b-a=b-a:=(Nat.le_total a b).elim (λh=>by rw[Nat.max_eq_right h]) λh=>by rw[Nat.max_eq_left h,Nat.sub_self,Nat.sub_eq_zero_of_le h]
theorem zoM(h:c+1+a<=b):min a (b-(c+1))=a:=Nat.min_eq_left<|Nat.le_sub_of_add_le<|Nat.add_comm .. ▸h
theorem zoP:(-(a:Int)+b).toNat=b-a:=by rw[Int.add_comm,<-Int.sub_eq_add_neg,Int.toNat_sub]
theorem zoN:(-1+(a:Int)).toNat=a-1:=zoP
theorem zoQ(h:b<=c)(k:ble (c+1) d=true):min a (b-e)<d:=zo8 (zo4 h) k
theorem zoR(h:48<=a∧a<=57):a-48<10:=Nat.lt_succ_of_le<|Nat.sub_le_sub_right h.2 48
theorem zoK(h:48<=a∧a<=57):(10*b+(a-48))/10=b:=by rw[Nat.mul_add_div (by decide),Nat.div_eq_of_lt<|zoR h];rfl
theorem zoL(h:48<=a∧a<=57):(10*b+(a-48))%10=a-48:=by rw[Nat.mul_add_mod,Nat.mod_eq_of_lt<|zoR h]
theorem zoS(h:a-b<=c+1):a-((b+a)/2+1)<=c:=(Nat.le_total a b).elim (λk=>by rw[Nat.sub_eq_zero_of_le<|Nat.le_succ_of_le<|(Nat.le_div_iff_mul_le (by decide)).mpr<|Nat.mul_two a▸Nat.add_le_add_right k a];exact Nat.zero_le c) λk=>Nat.le_trans (Nat.sub_le_sub_left (succ_le_succ<|(Nat.le_div_iff_mul_le (by decide)).mpr<|Nat.mul_two b▸Nat.add_le_add_left k b) a) (Nat.sub_le_of_le_add h:a-b-1<=c)
theorem zoT(h:a-b<=c+1)(k:b<a):(b+a)/2-b<=c:=by
 have:=Nat.sub_le_sub_right (Nat.le_sub_one_of_lt<|(Nat.div_lt_iff_lt_mul (by decide)).mpr<|Nat.mul_two a▸Nat.add_lt_add_right k a) b
 rw[Nat.sub_right_comm]at this;exact Nat.le_trans this<|Nat.sub_le_of_le_add h
theorem zoU(h:a-b=c+d):c<=a:=Nat.le_trans (Nat.le_add_right c d)<|h▸sub_le a b
theorem zoV(h:a-b=c+d)(k:a<=e):c<=e:=Nat.le_trans (zoU h) k
end Nat
section
variable{A B C D E I J K L M N O P Q R S:Type}
inductive Xx2(g:A->B->Prop):Prop|mk(a b)(h:g a b)
inductive Xx3(g:A->B->C->Prop):Prop|mk(a b c)(h:g a b c)
inductive Xx4(g:A->B->C->D->Prop):Prop|mk(a b c d)(h:g a b c d)
inductive Xx5(g:A->B->C->D->E->Prop):Prop|mk(a b c d e)(h:g a b c d e)
inductive Xx6(g:A->B->C->D->E->I->Prop):Prop|mk(a b c d e i)(h:g a b c d e i)
inductive Xx7(g:A->B->C->D->E->I->J->Prop):Prop|mk(a b c d e i j)(h:g a b c d e i j)
inductive Xx8(g:A->B->C->D->E->I->J->K->Prop):Prop|mk(a b c d e i j k)(h:g a b c d e i j k)
inductive Xx9(g:A->B->C->D->E->I->J->K->L->Prop):Prop|mk(a b c d e i j k l)(h:g a b c d e i j k l)
inductive Xx10(g:A->B->C->D->E->I->J->K->L->M->Prop):Prop|mk(a b c d e i j k l m)(h:g a b c d e i j k l m)
inductive Xx13(g:A->B->C->D->E->I->J->K->L->M->N->O->P->Prop):Prop|mk(a b c d e i j k l m n o p)(h:g a b c d e i j k l m n o p)
inductive Xx16(g:A->B->C->D->E->I->J->K->L->M->N->O->P->Q->R->S->Prop):Prop|mk(a b c d e i j k l m n o p q r s)(h:g a b c d e i j k l m n o p q r s)
variable(a b c d e i j k l m n o p:Prop)
inductive Aa3:Prop|mk(_:a)(_:b)(_:c)
inductive Aa4:Prop|mk(_:a)(_:b)(_:c)(_:d)
inductive Aa5:Prop|mk(_:a)(_:b)(_:c)(_:d)(_:e)
inductive Aa6:Prop|mk(_:a)(_:b)(_:c)(_:d)(_:e)(_:i)
inductive Aa7:Prop|mk(_:a)(_:b)(_:c)(_:d)(_:e)(_:i)(_:j)
inductive Aa8:Prop|mk(_:a)(_:b)(_:c)(_:d)(_:e)(_:i)(_:j)(_:k)
inductive Aa9:Prop|mk(_:a)(_:b)(_:c)(_:d)(_:e)(_:i)(_:j)(_:k)(_:l)
inductive Aa10:Prop|mk(_:a)(_:b)(_:c)(_:d)(_:e)(_:i)(_:j)(_:k)(_:l)(_:m)
inductive Aa13:Prop|mk(_:a)(_:b)(_:c)(_:d)(_:e)(_:i)(_:j)(_:k)(_:l)(_:m)(_:n)(_:o)(_:p)
variable{a b c d e i j k l m}{g:Prop}
theorem An2(h:a/\b)(f:a->b->g):g:=f h.1 h.2
theorem An3(h:a/\b/\c)(f:a->b->c->g):g:=An2 h λa h=>An2 h<|f a
theorem An4(h:a/\b/\c/\d)(f:a->b->c->d->g):g:=An2 h λa h=>An3 h<|f a
theorem An5(h:a/\b/\c/\d/\e)(f:a->b->c->d->e->g):g:=An2 h λa h=>An4 h<|f a
theorem An6(h:a/\b/\c/\d/\e/\i)(f:a->b->c->d->e->i->g):g:=An2 h λa h=>An5 h<|f a
theorem An7(h:a/\b/\c/\d/\e/\i/\j)(f:a->b->c->d->e->i->j->g):g:=An2 h λa h=>An6 h<|f a
theorem An8(h:a/\b/\c/\d/\e/\i/\j/\k)(f:a->b->c->d->e->i->j->k->g):g:=An2 h λa h=>An7 h<|f a
theorem An9(h:a/\b/\c/\d/\e/\i/\j/\k/\l)(f:a->b->c->d->e->i->j->k->l->g):g:=An2 h λa h=>An8 h<|f a
theorem An10(h:a/\b/\c/\d/\e/\i/\j/\k/\l/\m)(f:a->b->c->d->e->i->j->k->l->m->g):g:=An2 h λa h=>An9 h<|f a
end
section
open Lean Parser Tactic Macro
def zzr:Syntax:=Unhygienic.run `(tacticSeq|rfl)
def zzd:Syntax:=Unhygienic.run `(tacticSeq|decide)
def zzk:Syntax:=Unhygienic.run `(tacticSeq|k_is)
def zze:Syntax:=Unhygienic.run `(tacticSeq|decide+kernel)
def zzf:Syntax:=Unhygienic.run `(tacticSeq|first|show .inl rfl|show .inr rfl|assumption)
def zzi:Syntax:=Unhygienic.run `(tacticSeq|intro _;rfl)
abbrev mM:=MacroM (TSyntax `tactic)
def mI(s:String):=mkIdent<|.mkSimple s
def mF:List (TSyntax `tactic)->mM
 |[a]=>pure a
 |a::l=>do `(tactic|first|$a:tactic|$(<-mF l):tactic)
 |_=>throwUnsupported
def mW(r:TSyntax ``rwRule):mM:=
 let f l(h:Term):mM:=do mF ((<-l.mapM λn=>`(tactic|with_reducible_and_instances refine $(mI n) ($h ..) ?_))++[<-`(tactic|rewrite[$r])])
 match r with
 |`(rwRule|<-$h)=>f ["zzS"] h
 |`(rwRule|$h:term)=>f ["zzR","zzT"] h
 |_=>throwUnsupported
def mV(i:Ident)(r:TSyntax ``rwRule):mM:=
 let f(h:Term):mM:=`(tactic|rewrite[$r]at $i:ident)
 match r with
 |`(rwRule|<-$h)=>do f (<-`(Eq.symm ($h ..)))
 |`(rwRule|$h:term)=>do f (<-`(($h ..)))
 |_=>throwUnsupported
def mO:mM:=do
 let a<-`(by assumption)
 let b<-`(by exact rfl)
 let f x(n:String):mM:=`(tactic|exact $(Syntax.mkApp (mkIdent (.str `Nat n)) x))
 `(tactic|first|lia|omega +splitNatSub)
def mP(p:Term):Nat->StateT Nat MacroM (TSyntax `rcasesPat)
 |0=>throwUnsupported
 |k+1=>match p with
  |`({$x:term,$xs,*})=>do `(rcasesPat|⟨$[$(<-(#[x]++xs.getElems).mapM (mP · k)):rcasesPat],*⟩)
  |`(($x))=>mP x k
  |`(rfl)=>do mP (mI s!"rz{<-getModify (·+1)}") k
  |`($x:ident)=>`(rcasesPat|$x:ident)
  |`(_)=>`(rcasesPat|_)
  |_=>throwUnsupported
def mB(b:Syntax):=Id.run do
 let mut l:Array (Term×Option Term):=#[]
 let s:=b[0]
 if s.getKind==``unbracketedExplicitBinders then
  for i in s[0].getArgs do l:=l.push (⟨i[0]⟩,if s[1].getNumArgs>0 then some ⟨s[1][1]⟩ else none)
 else
  for u in s.getArgs do
   for i in u[1].getArgs do l:=l.push (⟨i[0]⟩,some ⟨u[3]⟩)
 return l
def mC(p:Term):=Id.run do
 let mut p:=p
 let mut l:Array Term:=#[]
 while true do
  let `($a/\$c):=p|break
  l:=l.push a
  p:=c
 return l.push p
def mE(b:Syntax)(p:Term):MacroM Term:=do
 let l:=mB b
 if l.size<2 then throwUnsupported
 let c:=mC p
 let p<-if c.size>2 then `($(mI s!"Aa{c.size}") $c*) else pure p
 `($(mI s!"Xx{l.size}") $(<-l.foldrM (λ(x,t) p=>match t with|some t=>`(fun ($x : $t)=>$p)|_=>`(fun $x=>$p)) p))
def mT:Macro
 |`(∃$b:explicitBinders,$p)=>mE b p
 |`(tactic|let{$x:term,$xs,*}:=$e)=>do
  let l:=#[x]++xs.getElems
  let(p,n)<-(l.mapM (mP · 9)).run 0
  let a<-`(tactic|(refine $(mI s!"An{p.size}") $e ?_;(try clear $e);rintro $[$p:rcasesPat]*))
  let b<-`(tactic|obtain⟨$[$p:rcasesPat],*⟩:=$e)
  let w t:mM:=`(tactic|(refine zzK fun kz=>?_;$t;refine kz ?_;clear kz))
  let mut t<-if l.any λx=>x matches `({$_,*}) then mF [a,b] else mF [a,b]
  for i in[:n]do t<-`(tactic|($t;subst $(mI s!"rz{i}"):ident))
  return t
 |`(tactic|rw[$r,*])=>do `(tactic|($[$(<-r.getElems.mapM mW)];*;try with_reducible rfl))
 |`(fun $x* =>$b)=>if x.any (·.raw.isOfKind ``Lean.Parser.Term.hole) then do `(fun $(x.map λx=>if x.raw.isOfKind ``Lean.Parser.Term.hole then mI "xz" else x)* =>$b) else throwUnsupported
 |`(tactic|change $t:term)=>`(tactic|refine (?_:$t))
 |`(tactic|cases $h:term)=>if h.raw.isIdent then do mF ((<-["zzA","zzD","zzE","zzF","zzB","zzC"].mapM λn=>`(tactic|exact $(mI n) $h rfl))++[<-`(tactic|cases ($h))]) else throwUnsupported
 |`(tactic|rw[$r,*]at $h:ident)=>do `(tactic|($[$(<-r.getElems.mapM (mV h))];*;try with_reducible rfl))
 |`(tactic|show $t:term)=>`(tactic|refine $t)
 |`($a<|>$b)=>`(autoParam $a $b)
 |`($s⁻¹)=>`(($s).heap.objs.size)
 |`({$x:term,$xs,*})=>`(⟨$x,$xs,*⟩)
 |`(⋯)=>`(by decide +kernel)
 |`(tactic|omega)=>mO
 |`(∅)=>`(by omega)
 |`(())=>`(by simp)
 |`(‹$e›)=>`(by simpa using $e)
 |`(↥$x)=>`(($x).length)
 |_=>throwUnsupported
def mD(f:Bool)(s:Syntax):MacroM Syntax:=
 let d:=s[1]
 let t:=d[2][1][0]
 if d.isOfKind ``Command.definition&& !t.isMissing&&s[0].getArgs.all (·.getNumArgs==0)then
  if t[1].isOfKind ``Term.paren then(if f then pure<|s.setArg 0<|s[0].setArg 4<|mkNullNode #[mkNode ``Command.noncomputable #[mkAtom "noncomputable"]]else throwUnsupported)
  else pure<|s.setArg 1<|mkNode ``Command.theorem #[mkAtom "theorem",d[1],mkNode ``Command.declSig #[d[2][0],t],d[3]]
 else throwUnsupported
end
open PySem.Challenge renaming rw_requestclasses_s01_answers->Rw0
open Option renaming some->I,none->ag,bind_some->d4,isSome_iff_exists->zV,bind->zW,isSome_map->Gh,some_ne_none->Sr,none->Ss,map_some->Su,map_eq_some_iff->Sv,map->Sw,getD_some->Sx
open Bool renaming true->aa,false->ap,and_eq_true->cf,eq_iff_iff->ey,false_ne_true->eY,not_eq_true->kC,noConfusion->kD,or_eq_true->lf,true_and->pA,or_false->pB,false_eq_true->pC,false_or->tD,and_false->tE,false_and->wy,and_eq_true_iff->wz,or_true->Az,not_eq_true'->GV,and_true->GW,true_or->TO,or_eq_false_iff->TP
open List renaming length->ac,length_map->bt,mem_cons->bK,length_append->b0,mem_map->ct,map_cons->cx,mem_singleton->cy,length_cons->cz,getElem?_eq_getElem->cA,mem_append->cN,getElem?_map->cO,map_map->dh,all_eq_true->di,range->dv,map_append->dX,mem_of_getElem?->d5,size_toArray->ed,getElem?_eq_some_iff->ee,contains_iff_mem->ex,mem_cons_of_mem->eJ,pairwise_cons->gm,length_drop->gn,getElem?_append_left->gH,append_nil->gI,length_take->g8,drop_zero->g9,map->hm,append_assoc->hI,not_mem_nil->h6,foldl_cons->h7,flatMap_cons->h8,lookup->iA,mem_cons_self->i1,mem_flatMap->js,getElem?_append_right->jt,cons_append->ju,take_length->j1,take_add_one->j2,mem_append_right->j3,filterMap_cons->j4,mem_append_left->la,length_singleton->lb,drop_of_length_le->mc,nodup_nil->ne,nodup_append->nf,getElem?_of_mem->ng,getElem?_eq_none->nh,contains_cons->ni,length_nil->nW,drop_eq_getElem_cons->nX,all_map->nY,nodup_cons->pq,map_congr_left->pr,length_filterMap_le->pt,isPrefixOf_iff_prefix->pu,getD_eq_getElem?_getD->pv,foldl_append->pw,filter_cons->px,singleton_append->q6,mem_filterMap->q7,lookup_cons->q8,isEmpty_iff->q9,getElem?_zip_eq_some->q',all_cons->ra,mem_range->tn,mem_filter->to,map_snd_zip->tq,map_singleton->tr,map_id->ts,length_zip->tt,length_eq_zero_iff->tu,getElem?_concat_length->tv,take_of_length_le->wd,replicate->we,range_succ->wf,pairwise_singleton->wg,pairwise_map->wh,mem_of_mem_take->wi,map_take->wj,length_pos_of_mem->wk,getElem_mem->wl,find?_cons->wm,ext_getElem->wn,drop_length->wo,drop_left->wq,dropLast_concat->wr,any_cons->wt,sum_cons->z7,perm_middle->z8,of_mem_zip->z9,map_nil->z',map_fst_zip->Aa,map_drop->Ab,getElem?_set_self->Ac,getElem?_set_ne->Ad,forIn_cons->Ae,flatMap_nil->Af,findIdx?_eq_none_iff->Ag,filter_sublist->Ah,drop_drop->Ai,any_eq_true->Aj,reverse_cons->Gv,prefix_iff_eq_take->Gw,pairwise_append->Gx,nil_append->Gy,length_filter_le->Gz,length_eraseIdx->GA,getElem_inj->GB,getElem?_toArray->GC,getElem?_drop->GD,foldl->GF,eq_nil_or_concat->GG,drop_succ_cons->GH,concat_eq_append->GI,any_map->GJ,zip_cons_cons->SN,toList_toArray->SO,take_sublist->SP,take_left->SQ,takeWhile_cons->SR,range_succ_eq_map->SS,pairwise_lt_range->SU,pairwise_iff_getElem->SV,nil_perm->SW,mem_of_find?_eq_some->SX,map_eq_nil_iff->SY,length_reverse->S0,length_replicate->S1,length_pos_iff->S2,length_eraseIdx_of_lt->S3,isSuffixOf_iff_suffix->S4,getLastD_concat->S5,getLastD->S6,getElem_range->S7,getElem?_take_of_lt->S8,getElem?_reverse->S9,getElem?_replicate->S',foldl_nil->Ta,findIdx?_eq_some_iff_getElem->Tb,findIdx?_cons->Tc,find?_eq_none->Td,filter_cons_of_pos->Te,filter_cons_of_neg->Tf,filterMap_append->Tg,filterMap->Th,extract_eq_take_drop->Ti,ext_getElem?->Tj,eraseIdx_cons_succ->Tk,drop_eq_nil_iff->Tl,dropWhile_cons->Tn,dropLast_concat_getLast->To
open PySem renaming Addr->ao,wpAny_bind->av,Value->az,wpAny->aR,model->aU,wpAny_pure->a7,Shared->bb,sizeLine->bg,starEach->bj,Heap->bG,World->bL,Program->bS,sizeLine_eq->cc,Around->db,backTo->dM,mainGlobals->eh,FuncData->eS,cLine->eW,PyData->eX,wpAny_mono->fA,rawInt->g4,cellsFrom->g6,wpAny_holding->hj,Stmt->hG,intKind->h1,codeAny->h2,bootBuiltins->h3,attributeBase->iw,wpAny_loadPart'->iR,sysModules->jn,rule->jo,Scope->jq,mem_of_lookup->jr,wpAny_call_entry->jT,codeAny_mono->jU,NameKind->j0,compEnvC->kx,wpAny_newObj_type->l1,wpAny_Call_Name_kw->l2,codeAny_builtin->l6,Keyword->md,wpAny_truthy_bool->m3,keywordEach->m4,backToKw->m9,wpAny_callSpecial?_slot->nL,swapsWith->nM,plainId_quiet->nN,wpAny_typeNameOfWhole_keyiter->o2,wpAny_standAt->o3,wpAny_setState_of->o4,wpAny_loadPart_at->o5,wpAny_fieldsOf->o6,wpAny_call->o7,wpAny_attempt->o8,typeIs_str->o9,scanBound->o',pushCells->pa,call_meets->pd,atKey->pe,Reads->ph,wpAny_setField->qG,wpAny_passesOwn->qH,sliceBounds->qK,relayAll->qN,holding->qR,bindL->qT,bindC->qU,assignEach->qV,WalksS->qW,wpAny_setField_rec->sG,wpAny_dictEntries->sH,wants->sJ,valueAt->sK,typeLookup->sL,tupleKind->sM,standAt->sO,revObj->sP,notedBy->sU,callerA->sX,argsOk->sZ,Result->s6,IsEnum->tw,DictEntry->tz,BindsTo->tF,wpAny_updateSeq->vH,wpAny_setEntries_of->vI,wpAny_rule->vJ,wpAny_pyIter_enum->vK,wpAny_of_eq->vL,wpAny_ite_split->vM,wpAny_execs_nil->vN,wpAny_dictEpoch->vO,unsupported->vQ,typeOf->vR,tupleKind_room_in1->vS,setField->vT,firstArgMember->vW,codeAny_call_builtin->vX,ReadsAll->v4,Within->v5,Params->v9,ItemsOf->wv,wpAny_specialOf->ze,wpAny_pyIter_slot->zf,wpAny_pyIter_list->zg,wpAny_isSubtype_exc->zh,wpAny_isOneOf_keyiter->zi,wpAny_isInstance->zj,wpAny_field->zk,wpAny_alloc->zl,updateSeq->zm,subscripted->zn,setNext->zo,seqIndex?->zp,pushCells_keeps->zr,letOwnedTupleGo->zy,isSubtype_type->zz,isInstance->zA,foldedSetIterable->zB,entryFor->zC,codeAny_of_tree->zF,GenState->Am,ElemsOf->Aq,wpAny_typeOf->Fs,wpAny_throw->Ft,wpAny_seqItems->Fu,wpAny_nsSet1->Fv,wpAny_newList->Fw,wpAny_lookBehind->Fx,wpAny_loadPart->Fy,wpAny_letGo->Fz,wpAny_handled->FA,wpAny_askSetting->FC,wpAny_Name->FD,typeLookup_type->FE,strValues->FG,raiseNew->FH,pastItsLine_dict->FJ,onTheHeap->FK,isSubtype->FP,compPost->FS,checkBuiltinCall->FU,builtinsNs->FV,builtinLookup_eq_fast->FW,bindArgs->FX,strKind->F9,KeyKind->Gf,wpAny_storeSet_of->Ra,wpAny_runValue->Rb,wpAny_pyIter_zip->Rc,wpAny_pyIter_revIter->Rd,wpAny_newTuple->Rf,wpAny_madeBy_exc->Rg,wpAny_loadName_local->Rh,wpAny_loadName_cell->Ri,wpAny_letOwnedTupleGo_enum->Rj,wpAny_isTrue_Compare1->Rk,wpAny_getItem_of->Rl,wpAny_execs_cons->Rm,wpAny_assign_Name->Rn,wpAny_Compare1->Ro,weight_type_call_type->Rp,size_of_entries->Rs,setAddHashedIn->Rt,richCompare_meets_room->Rv,recursionLimit->Rw,plainObj_wpAny_Assign_Attribute->Ry,isSubtype_stop->Rz,intBits_le_64->RA,fits_of_scanBound->RB,entryFor_alias->RF,codeAny_extend_loopS->RG,checkTypeCall->RH,call_reversed_list->RI,call_list_seq->RJ,wpAt_of_wpAny->R0,wpAt_bind->R1,intText?->R2,intKind->R3,call->R4
open Vapola renaming Text->aE,gridOf->bh,isName->bz,putNew->cE,decimal->dt,Directory->dD,Pattern->dN,Name->dT,usersTold->eb,pathText->en,membersOf->eF,does->eG,ascii->eH,isDigit->eQ,grid->eR,nameBefore->fi,partsOf->fH,namesIn->gk,atText->gD,timeOf->g0,isSmall->g5,inGroup->hk,classCount->hl,Path->hH,TIME->h5,Group->iB,requestOf->iS,patternText->iT,isRequest->iU,given->iV,Request->iY,isPattern->jp,actsText->jV,userOf->kt,groupOf->kv,requestText->l4,GROUP->mh,isSign->m6,isRound->m7,groupText->m8,fits->m',directoryText->nO,cmpRequest->nP,wishesFit->qI,representatives->qL,representative->qM,patternOf->qO,boundOf->qS,State->qX,whoOf->sI,timeFits->sN,reachedFrom->sQ,pathOf->sR,pathFits->sS,numbersOf->sT,cmpNat->sW,actFits->s0,namesOf->s1,CLASSES->tB,whoFits->vP,onPattern->vU,flagCount->vV,cmpName->vY,cmpList->vZ,actsOf->v1,otherPath->zu,doPattern->zD,doDirectory->zE,beginnings->zH,PATTERNS->zU,toldTexts->FF,lineRead->FO,childrenOf->FT,readDirectory->Rx,step->RN
open Nat renaming le_refl->bA,le_trans->b5,zero_le->cI,ne_of_lt->du,lt_of_lt_of_le->dW,lt_or_ge->fs,mul_comm->iz,le_succ->jZ,lt_irrefl->kB,zero_add->l',ne_of_gt->ma,mod_lt->mb,lt_succ_of_lt->nc,div_div_eq_div_mul->nd,pow_succ->nU,div_add_mod->nV,le_of_lt->po,div_lt_of_lt_mul->pp,le_of_eq->q4,add_mul->q5,toDigits->th,not_lt_zero->ti,mul_le_mul_right->tj,min_eq_left->tl,pow_le_pow_right->v',min_self->wa,lt_trans->wb,le_add_right->wc,succ_mul->zY,mul_le_mul_left->zZ,mul_add->z0,mod_mul_right_div_self->z1,lt_succ_self->z2,lt_of_le_of_lt->z3,le_of_succ_le->z4,eq_zero_or_pos->z5,div_eq_iff->z6,two_pow_pos->Gl,succ_ne_self->Gm,not_lt->Gn,mul_pos->Go,mod_mul_right_mod->Gp,digitChar->Gq,add_comm->Gr,add_assoc->Gs,zero_mod->Sy,zero_div->Sz,toDigits_of_lt_base->SA,succ_le_succ->SD,strongRecOn->SE,one_mul->SF,mod_eq_of_lt->SG,min_eq_right->SH,lt_of_succ_lt_succ->SI,log2_lt->SJ,exists_eq_add_of_le->SK,add_sub_cancel_left->SM
open PySem.W renaming Frag->bR,Frag->b9,nsIn->g7,WData->h4,findIn->iZ,mroIn->jX,keepIn->jY,fnOf->nS,Looks->nT,mroIn->pb,findIn->pc,WellAll->pf,typeIn->pj,isFn->qY,emptyDict->qZ,mg_of->s9,instObj->ta,hasDictIn->tb,callWith_K->tc,plainGet->v6,any_some->v7,looks_mroIn->zv,looks_findIn->zw,lookIn->zN,codeIn->zO,callWith_K0->zP,looks_clsIn->FN,takerIn->F',plainOver->Ga,plainGet_of->Gb,methodCall_KW->Gc,makesIn->Gd,findObj->Ge,specialIn->R6,set_plain->R7,readsIn->R8,length_le_weightAllW->R9,handedIn->R',findCls->Sa,check_slot->Sb,cellsFrom_some->Sc,bind_fn->Sd,WalkOS->Se,InitBack->Sf
open Or renaming inl->ce,inr->nb
open PySem.Heap renaming lt_size->cm,get?_push_of_some->cB,get?_push_size->dC,size_push->hn,get?_update_other->jv,SameBut->lc,get?_update_self->me,size_after_update->Tu,get?->Tv,ExtBut->Tx
open PySem.Value renaming ref->cM,type->ix,none->iW,int->jW,bool->v2,str->zK,isInt->F0,builtin->F1,isStrOf->RO,isInt_shape->RP
open Option.some renaming inj->d3
open Sum renaming inr->ec,inl->iy
open Ne renaming symm->eo
open UInt8 renaming toNat->eI,ofNat->gF,le_iff_toNat_le->F2,not_lt->RQ
open Unit renaming unit->fr
open PyProof.Rows renaming envOfC->fI,kindOf->gB,arrOf->gE,seqObj->hF,tuples'->l3,SortSt->l8,keyLt'->m5,AllBare->pE,callWith_type1->q1,IntsAre->ww,listUpdate_at->zx,get?_update_seq->FQ,failedOf->FR,Subscript_->F3,Constant_none->GP,subscriptTail_builtinR->Rq,slot_list_sort->Rr,entry_list_sort->RE,boot_enumerate->RK,split_le->akY,partition_whole->akZ,join_tuple->ak0,join_list->ak1,in_str->ak2,iadd_int->ak3,callWith_builtin1->ak4
open PySem.PyData renaming eqv->fJ,canLayAll0->fY,depthAll->f',eqvAll->i0,depth->pl,canLay0->pm,str->zS,int->zT,tuple->Sp
open PySem.Obj renaming mapSeq->ga,mapFields->q2,data_mapFields->q3,isFreed_of_fields->zX,putSet->Gi,cls_mapFields->Gj
open VapolaNeutral renaming step->gl,text?->k',asked1->zJ,callOf->FZ,natural->RM,start->akh,asked->aki
open PySem.PassesOwn renaming leaving->gG
open False renaming elim->gJ
open Array renaming getElem?_eq_getElem->gK,getElem?_toList->j5,length_toList->n0,getElem?_eq_some_iff->rf,range->wA,getElem?_eq_none->wB,toList_push->AA,size_replicate->AB,toArray_toList->GX,size_zip->GY,replicate->GZ,getD_eq_getD_getElem?->G0,toList_map->TQ,toList_extract->TR,toList->TS,mem_toList_iff->TU,find?_toList->TV
open Int renaming toNat_natCast->hJ,natCast_mul->Ak,eq_ofNat_of_zero_le->Al,toNat->Tp,ofNat_sub->Tq,ofNat_lt->Tr,ofNat_le->Ts,natAbs_natCast->Tt
open PySem.SetTable renaming below->iX,grown->s4,slot->RS,has->RT,fits->RU
open PySem.Txt renaming partition->ky,split->pg,join->s2,startswith->zL,endswith->zM
open PySem.Str renaming ofString->kz,empty->nR,join->F4,length->RR
open PySem.SeqAt renaming shaped->kA,room_in->zq,canLay_of_shaped->zG,room_of_shaped->Ru,eqAt_readsAll->RD,EqAt->RY
open True renaming intro->l7
open PySem.Sem renaming wp_bind'->l9,wp_mono->s5
open PySem.Heap.SameBut renaming update->mf
open PyFlat renaming rows->na,calls->pk,row->tf,call->v8,told->Sn,played->So
open PySem.Builtin.Str renaming strKind->nZ,strSub->qJ,strSliceIndices->re,occurrences->FL,occurrences->GS,strKind->Sl,subAt->TK,partsBetween->ale
open PyVapola renaming shape->pi,answers->s8,whole->F7,answers_asked->F8,calls->RZ
open PySem.Paired renaming length->pn,snoc->Sq
open PySem.F renaming slot_dict_keyiterator_next->py,plainAttrs_list->zQ,slot_str_split->An,entry_dict_keyiterator_next->Ao,args_dict_keyiterator_next_1->Ap,slot_dict_get->Gg,entry_str_split->GN,args_str_split_2->GO,type_list_pop->Sg,slot_list_pop->Sh,plain_list_iadd->Si,entry_dict_get->Sj,args_dict_get_3->Sk,slot_str_partition->Tz,slot_set_iter->TA,slot_list_pop->TB,slot_dict_len->TC,slot_dict_keyiterator_iter->TD,slot_dict_iter->TE,plain_extend_loop->TF,entry_list_pop->TG
open PySem.Calls renaming spliced_cons->pz,spliced_nil->rd,callWith_builtin->As,evalArgs_plain->GR,Name_function_global->TJ
open PySem.Around renaming under_plainId->pD,under_plain->TW
open PySem.W.Looks renaming here->q0,of_pure->akx,ld->aky
open List.Pairwise renaming nil->rb,sublist->ak',map->ala,imp->alb,filterMap->alc,and->ald
open PySem.W.Codec renaming encAll->rc,app->tA,withinAll->GQ,app->RL
open PyProof.Rows.SortSt renaming mk'->s3
open PySem.SeqAt.ReadsAll renaming length->s7
open PySem.StrLaws renaming sliceText->td,strSliceIndices_plain->akz,sliceText_nat->akA,found_one->akB
open PyProof.Rows.F renaming plain_set_update_loop->te,entry_set_update_loop->zR
open Prod.mk renaming inj->tg
open PySem.NameKind renaming free->tm,cell->Gu
open Iff renaming rfl->tx
open Eq renaming symm->ty
open PySem.Builtin.List renaming listItems->tC,listSameRef->Aw,listExtendWith->Ax,listLengthHint->GU,listTooLong->TM,listUpdate->alf
open Sum.inr renaming inj->v3
open List.Perm renaming refl->wu,swap->GK,append_left->GL,trans->ak5,of_eq->ak6,cons_inv->ak7,append_right->ak8,append->ak9
open ForInStep renaming yield->wx
open PySem.MeetsSeq3 renaming plain_eq_loop->zt
open PySem.W.WData renaming weightAll->zI
open PySem.Code renaming quiet_builtin->Ar
open PySem.Builtin.SmallTypes renaming nextOf->Au,fitsIndex->Av
open PySem.Builtin.Dict_items renaming ownsTuple->Ay
open PySem.pickOrder renaming go->FI
open PySem.Walks renaming list->FY
open PySem.Shared renaming TypeIs->F5
open PySem.SetTable.probe renaming go->F6
open PySem.NumText renaming digitsVal->Gk
open PySem.SetTable.below renaming go->RV
open PySem.SeqAt.EqAt renaming str_int->RW,int_str->RX,str_str->akj,str_none->akk,str_bool->akl,same->akm,none_str->akn,none_int->ako,none_bool->akp,int_none->akq,int_int->akr,int_bool->aks,bool_str->akt,bool_none->aku,bool_int->akv,bool_bool->akw
open PySem.Within renaming cons->R5
open PyProof renaming noPylong_small->Sm
open PySem.Heap.Ns1 renaming of_empty->Tw
open Classical renaming byContradiction->TH
open PySem.Builtin.Dict renaming showsAll->TN
open PySem.EqNone renaming ne_str_none->akC,ne_none_str->akD,ne_none_none->akE,ne_none_int->akF,ne_none_bool->akG,ne_int_none->akH,ne_bool_none->akI,eq_str_none->akJ,eq_none_str->akK,eq_none_none->akL,eq_none_int->akM,eq_none_bool->akN,eq_int_none->akO,eq_bool_none->akP
open PySem.EqMixed renaming ne_str_int->akQ,ne_str_bool->akR,ne_int_str->akS,ne_bool_str->akT,eq_str_int->akU,eq_str_bool->akV,eq_int_str->akW,eq_bool_str->akX
abbrev aD:=@if_neg
abbrev aM:=@if_pos
abbrev ck:=@decide_eq_false
abbrev cn:=@decide_eq_true
abbrev dg:=@decide_eq_true_eq
abbrev ei:=@beq_iff_eq
abbrev gC:=@congrArg
abbrev h0:=@or_false
abbrev ku:=@if_false
abbrev k9:=@beq_eq_false_iff_ne
abbrev l5:=@not_or
abbrev nQ:=@beq_self_eq_true
abbrev qP:=@of_decide_eq_true
abbrev qQ:=@of_decide_eq_false
abbrev sV:=@decide_eq_false_iff_not
abbrev sY:=@beq_false_of_ne
abbrev v0:=@bne_iff_ne
abbrev FM:=@ne_true_of_eq_false
abbrev D:=@rfl
section
local macro_rules(kind:=«term_<|>_»)|s=>mT s
local macro_rules(kind:=«term_⁻¹»)|s=>mT s
local macro_rules(kind:=«term∃_,_»)|s=>mT s
local macro_rules(kind:=Lean.Parser.Tactic.tacticLet__)|s=>mT s
local macro_rules(kind:=Lean.Parser.Tactic.rwSeq)|s=>mT s
local macro_rules(kind:=Lean.Parser.Tactic.show)|s=>mT s
local macro_rules(kind:=Lean.Parser.Term.fun)|s=>mT s
local macro_rules(kind:=Lean.Parser.Tactic.change)|s=>mT s
local macro_rules(kind:=Lean.Parser.Tactic.cases)|s=>mT s
local macro_rules(kind:=Lean.Parser.Command.declaration)|s=>mD false s
local macro_rules(kind:=«term{_}»)|s=>mT s
local macro_rules(kind:=Lean.Parser.Term.omission)|s=>mT s
local macro_rules(kind:=Lean.Parser.Tactic.omega)|s=>mT s
local macro_rules(kind:=«term∅»)|s=>mT s
local macro_rules(kind:=«term‹_›»)|s=>mT s
local macro_rules(kind:=coeSortNotation)|s=>mT s
local macro_rules(kind:=Lean.Parser.Term.tuple)|s=>mT s
namespace L2
open PySem PySem.Spec
def eM(s:hG)(j:Nat):=match s with
 |.ClassDef _ _ _ body _ _ _ _ _ _ _=>body.getD j<|.Pass ⟨0,0,0,0⟩
 |_=>.Pass ⟨0,0,0,0⟩
def ql(s:hG):=match s with
 |.FunctionDef _ a _ _ _ _ _ _ _ _=>a
 |_=>{posonlyargs:=[],args:=[],vararg:=ag,kwonlyargs:=[],kw_defaults:=[],kwarg:=ag,defaults:=[]}
def mM(s:hG):=match s with
 |.FunctionDef _ _ b _ _ _ _ _ _ _=>b
 |_=>[]
def a6(s:hG):=match s with
 |.FunctionDef _ _ _ _ _ _ b7 _ _ _=>b7
 |_=>{kind:=.function,names:=[],isGenerator:=ap,isCoroutine:=ap}
end L2
namespace L2
open PySem PySem.Spec PyProof.Rows
abbrev d':=Sum Int Str
def oz:(d'->az->Bool)
 |.inl k,v=>F0 k v
 |.inr x,v=>RO x v
def ada(w:bL):(d'->Int)
 |.inl k=>hashInt k
 |.inr x=>hashStr w x
def mH:∀{k:d'} {v:az},oz k v=aa->(∃i t,k=iy i/\v=jW i t)\/(∃x t,k=ec x/\v=zK x t)
 |.inl i,v,h=>by
  let{t,(e)}:=RP (v:=v) h
  show .inl {i,t,D,(e)}
 |.inr x,v,h=>by
  let{t,(e)}:=Value.isStrOf_shape h
  show .inr {x,t,D,(e)}
def ac' i t:oz (.inl i) (.int i t)=aa:=by simp[oz,F0]
def ac9 x t:oz (.inr x) (.str x t)=aa:=by simp[oz,RO]
def ac7 a b:decide ((iy a:d')=iy b)=(a==b):=by
 by_cases e:a=b
 .subst e;simp
 .have h:¬(iy a:d')=iy b:=λq=>e<|Sum.inl.inj q;show ck h▸(k9.mpr e).symm
def ac4 a b:decide ((ec a:d')=ec b)=decide (a=b):=by
 simp
def ac6(a:Int)(b:Str):decide (iy a=ec b)=ap:=ck λq=>nomatch q
def ac5(a:Str)(b:Int):decide (ec a=iy b)=ap:=ck λq=>nomatch q
def il prog w:(Gf prog w d') where
 is:=oz
 hash:=ada w
 inj:=λv a b g f=>by
  obtain⟨i,t,rfl,rfl⟩|⟨x,t,rfl,rfl⟩:=mH g
  .obtain⟨j,u,rfl,e⟩|⟨y,u,rfl,e⟩:=mH f
   .injection e with c _;rw[c]
   .show nomatch e
  .obtain⟨j,u,rfl,e⟩|⟨y,u,rfl,e⟩:=mH f
   .show nomatch e
   .injection e with c _;rw[c]
 byValue:=λk v h=>by
  obtain⟨i,t,rfl,rfl⟩|⟨x,t,rfl,rfl⟩:=mH h<;>rfl
 pyHash:=λd h=>by
  obtain⟨i,t,rfl,rfl⟩|⟨x,t,rfl,rfl⟩:=mH d
  .show wpAny_pyHash_int h
  .show wpAny_pyHash_str h
 eqBool:=λl d h=>by
  obtain⟨i,t,rfl,rfl⟩|⟨x,t,rfl,rfl⟩:=mH l
  .obtain⟨j,u,rfl,rfl⟩|⟨y,u,rfl,rfl⟩:=mH d
   .rw[ac7]at h;show wpAny_eqBool_int h
   .rw[ac6]at h;show RX i t y u _ _ _ _ h
  .obtain⟨j,u,rfl,rfl⟩|⟨y,u,rfl,rfl⟩:=mH d
   .rw[ac5]at h;show RW x t j u _ _ _ _ h
   .rw[ac4]at h;show wpAny_eqBool_str h
 «strs»:=λk x t v h=>by
  obtain⟨i,u,rfl,e⟩|⟨y,u,rfl,e⟩:=mH h
  .show nomatch e
  .injection e with c _
   subst c
   cases v<;>rfl
def acs prog w i t:(il prog w).is (.inl i) (.int i t)=aa:=ac' i t
def MX prog w x t:(il prog w).is (.inr x) (.str x t)=aa:=ac9 x t
inductive ab where
 |bT|a1 (b:Bool)|int (i:Int)|str (x:Str)|iq (b:Array UInt8)|uW (b:UInt64)|ref (a:ao)|dz (n:String)
 deriving DecidableEq
def cb:(ab->az->Prop)
 |.bT,u=>u=iW
 |.a1 b,u=>u=v2 b
 |.int i,u=>∃t,u=jW i t
 |.str x,u=>∃t,u=zK x t
 |.iq b,u=>∃t,u=Value.bytes b t
 |.uW b,u=>∃t,u=Value.float b t
 |.ref a,u=>u=cM a
 |.dz n,u=>u=ix n
abbrev bF:=Paired cb
def bF.length(r:bF xs ay):xs.length=ay.length:=pn r
def bF.get:∀{xs:List ab} {ay:List az} {i:Nat} {x:ab},bF xs ay->xs[i]? =I x->∃u,ay[i]? =I u/\cb x u
 |_,_,_,_,.nil,e=>by simp at e
 |_,_,0,_,.cons r _,e=>by simp at e;subst e;show{_,D,r}
 |_,_,i+1,x,.cons _ t,e=>by let{u,O,(Y)}:=bF.get t ‹e›;show{u,‹O›,Y}
def bF.append:∀{xs ys:List ab} {ay ws:List az},bF xs ay->bF ys ws->bF (xs++ys) (ay++ws)
 |_,_,_,_,.nil,s=>s
 |_,_,_,_,.cons r t,s=>.cons r<|bF.append t s
def bF.take:∀{xs:List ab} {ay:List az} n,bF xs ay->bF (xs.take n) (ay.take n)
 |_,_,0,_=>.nil
 |_,_,_+1,.nil=>.nil
 |_,_,n+1,.cons r t=>.cons r<|bF.take n t
def bF.drop:∀{xs:List ab} {ay:List az} n,bF xs ay->bF (xs.drop n) (ay.drop n)
 |_,_,0,r=>r
 |_,_,_+1,.nil=>.nil
 |_,_,n+1,.cons _ t=>bF.drop n t
def gW:(Option ab->Option az->Prop)
 |some v,I u=>cb v u
 |none,ag=>True
 |_,_=>False
def hE:(List (κ×ab)->List (κ×az)->Prop):=Paired λp q=>p.1=q.1/\cb p.2 q.2
def da:(d'->ab)
 |.inl i=>.int i
 |.inr x=>.str x
inductive fR where
 |ai (xs:List ab)
 |aZ (xs:List ab)
 |bJ (kvs:List (d'×ab))|cD (kvs:List (List d'×ab))
 |set (S:Int->Bool) (n:Nat)
 |aS (C ae:ao) (aF:List (Str×ab))
 |bo (x:ao)
 |tG (aF:List (Str×ab))
 |uz (f x:ao)
 |t2 (lo au:Int)
 |cg (o:Obj) (u:fR)
 |j9 (ps:Array az)
 |ext (G1:bG->Prop)
theorem _root_.zzD{a b:Option fR}{g:Prop}(h:a=b)(k:((a.elim 0 (·.ctorIdx)).beq (b.elim 0 (·.ctorIdx)))=false):g:=by rw[h,Nat.beq_refl]at k;cases k
theorem _root_.zzE{a b:fR}{g:Prop}(h:a=b)(k:(a.ctorIdx.beq b.ctorIdx)=false):g:=zzD (congrArg some h) k
theorem _root_.zzF{a b:ab}{g:Prop}(h:a=b)(k:(a.ctorIdx.beq b.ctorIdx)=false):g:=by rw[h,Nat.beq_refl]at k;cases k
abbrev aP:=ao->Option fR
def al(H:aP)(a:ao)(o:fR):(aP):=λb=>if b=a then I o else H b
def ar:al H a o a=I o:=by unfold al;simp
def aI(h:b≠a):al H a o b=H b:=by unfold al;rw[aD h]
def ho:al (al H a o) a u=al H a u:=by
 funext b;unfold al;split<;>rfl
def cq{H:aP}(h:H a=I o)(h':H b=I u)(d:o≠u):a≠b:=by
 intro e;grind
def b3{H:aP}(h:H a=I o)(h':H b=ag):a≠b:=by
 intro e;grind
section
variable(P:bS)(w:bL)
def em(H:aP)(h:bG)(a:ao):(fR->Prop)
 |.ai xs=>ac xs<=bg/\∃(aW:List az) (n:Nat),bF xs aW/\h.get? a=I {cls:=.type "list",data:=.seq aW.toArray n}
 |.aZ xs=>ac xs<=bg/\∃aW:List az,bF xs aW/\IsTup h a aW.toArray
 |.bJ kvs=>ac kvs<=bg/\(a==jn)=ap/\∃vs,hE kvs vs/\h.DictOf (il P w) a vs
 |.cD kvs=>ac kvs<=bg/\(a==jn)=ap/\∃xs:List (List d'×ao×az),
   Paired (λp q=>p.1=q.1/\H q.2.1=I (.aZ<|p.1.map da)/\cb p.2 q.2.2) kvs xs/\
   ∃o es ep,(h.get? a=I o/\o.ExactDict/\o.data= .dict es ep/\es.toList=xs.map (entryOfKey<|sM<|il P w)/\(xs.map (·.1)).Nodup)
 |.set S n=>h.SetOf (h1 P w) a S n
 |.aS C ae aF=>H ae=I (.bo a)/\ac aF<=1000/\ae≠a/\h.get? a=I (ta C ae)/\
   ∃cG,h.Ns1 ae cG/\(∀f,gW (aF.lookup f)<|cG f)/\v5 cG (aF.map (·.1))
 |.bo _=>∃o,h.get? a=I o
 |.tG aF=>∃cG,h.Ns1 a cG/\∀f,gW (aF.lookup f)<|cG f
 |.t2 lo au=>∃t u v,h.get? a=I {cls:=.type "range",data:=.fields #[.int lo t,.int au u,.int 1 v]}
 |.cg o u=>h.get? a=I o/\em H h a u
 |.j9 ps=>h.get? a=I {cls:=.none,data:=.fields ps}
 |.uz f x=>h.get? a=I (PySem.W.methodObj (.ref f)<|.ref x)
 |.ext b7=>b7 h/\(∃o,h.get? a=I o)/\∀O Y,b7 O->(∀o,O.get? a=I o->Y.get? a=I o)->b7 Y
def dq H h:=∀a o,H a=I o->em P w H h a o
end
section
variable{P:bS}{w:bL}{H U:aP}{h h':bG}{a:ao}{o:fR}
def em.lt(x:em P w H h a o):a<h.objs.size:=by
 cases o with
 |ai xs=>let{_,_,_,_,e}:=x;show cm e
 |aZ xs=>let{_,_,_,p}:=x;show p.lt
 |bJ kvs=>let{_,_,_,_,o,_,_,e,_}:=x;show cm e
 |cD kvs=>let{_,_,_,_,o,_,_,e,_}:=x;show cm e
 |set S n=>let{o,_,_,_,e,_}:=x;show cm e
 |aS C ae aF=>let{_,_,_,e,_}:=x;show cm e
 |bo y=>let{_,e}:=x;show cm e
 |tG aF=>let{_,{_,_,_,e,_},_}:=x;show cm e
 |t2 lo au=>let{_,_,_,e}:=x;show cm e
 |cg ob u=>let{e,_}:=x;show cm e
 |j9 ps=>show cm<|x
 |uz f y=>show cm<|show h.get? a=I _ from x
 |ext b=>let{_,{_,e},_}:=x;show cm e
def Paired.xW{F G:α->q->Prop}:∀{c:List α} {d:List q},Paired F c d->(∀a b,F a b->G a b)->Paired G c d
 |_,_,.nil,_=>.nil
 |_,_,.cons r t,f=>.cons (f _ _ r)<|Paired.xW t f
def em.hq(x:em P w H h a o)(k:∀b u,(b=a\/H b=I (.bo a))->h.get? b=I u->h'.get? b=I u)
  (i:∀b,H b=I (.bo a)->U b=I (.bo a)) (j:∀b xs,H b=I (.aZ xs)->U b=I (.aZ xs)):em P w U h' a o:=by
 induction o with
 |ai xs=>let{z,aW,n,r,(e)}:=x;show{z,aW,n,r,k _ _ (.inl D) e}
 |aZ xs=>let{z,aW,r,ob,e,(c)}:=x;show{z,aW,r,ob,k _ _ (.inl D) e,c}
 |bJ kvs=>let{z,y,vs,r,ob,es,ep,e,(c)}:=x;show{z,y,vs,r,ob,es,ep,k _ _ (.inl D) e,c}
 |cD kvs=>
  let{z,y,xs,r,ob,es,ep,e,(c)}:=x
  show{z,y,xs,Paired.xW r λp q z=>{z.1,j _ _ z.2.1,z.2.2},ob,es,ep,k _ _ (.inl D) e,c}
 |set S n=>let{ob,es,ep,t,e,(c)}:=x;show{ob,es,ep,t,k _ _ (.inl D) e,c}
 |aS C ae aF=>
  let{d,z,bI,e,cG,{od,es,ep,g,(c)},r}:=x
  show{i _ d,z,bI,k _ _ (.inl D) e,cG,{od,es,ep,k _ _ (.inr d) g,c},r}
 |bo y=>let{ob,(e)}:=x;show{ob,k _ _ (.inl D) e}
 |tG aF=>let{cG,{od,es,ep,e,(c)},r}:=x;show{cG,{od,es,ep,k _ _ (.inl D) e,c},r}
 |t2 lo au=>let{t,u,v,(e)}:=x;show{t,u,v,k _ _ (.inl D) e}
 |cg ob u l=>let{e,(q)}:=x;show{k _ _ (.inl D) e,l q}
 |j9 ps=>have e:=x;show k a _ (.inl D) e
 |uz f y=>have e:=x;show k a _ (.inl D) e
 |ext m=>let{p,{o,(e)},st}:=x;show{st _ _ p λo q=>k _ _ (.inl D) q,{o,k _ _ (.inl D) e},st}
def dq.lt(x:dq P w H h)(e:H a=I o):a<h.objs.size:=(x a o e).lt
def dq.fresh(x:dq P w H h)(e:h.objs.size<=a):H a=ag:=by
 cases q:H a with
 |none=>rfl
 |some u=>show absurd (dW (x.lt q) e) ()
def dq.fc(x:dq P w H h)(k:∀b u,h.get? b=I u->h'.get? b=I u):dq P w H h':=λa o e=>
 (x a o e).hq (λb u _ q=>k b u q) (λ_ q=>q) λ_ _ q=>q
def dq.gx(x:dq P w H h)(k:∀b u,h.get? b=I u->h'.get? b=I u)(g:h.objs.size<=a)(new:em P w (al H a o) h' a o):dq P w (al H a o) h':=λb u e=>by
 have f:=x.fresh g;by_cases d:b=a
 .subst d;rw[ar]at e;grind
 .rw[aI d]at e;show(x b u e).hq (λc v _ q=>k c v q) (λc q=>aI (b3 q f)▸q) λc xs q=>by rw[aI<|b3 q f];show q
end
def gX(H:aP) a u:=H a=I u\/∃o,H a=I (.cg o u)
def gX.ok(r:gX H a u)(x:dq P w H h):em P w H h a u:=by
 obtain r|⟨o,r⟩:=r
 .show x a u r
 .let{_,q}:=x a _ r
  show q
def k3:(Option fR->Prop)
 |some (.ai _)=>True
 |some (.bJ _)=>True
 |some (.cD _)=>True
 |some (.set _ _)=>True
 |some (.aS _ _ _)=>True
 |some (.ext _)=>True
 |_=>False
section
variable{P:bS}{w:bL}{H:aP}{h h':bG}{x e:ao}{bX:fR}
def dq.mi(ok:dq P w H h)(a:k3 (H x))(o:e=x\/H e=I (.bo x))(k:∀b u,b≠e->h.get? b=I u->h'.get? b=I u)(j:∃u,h'.get? e=I u)
  (new:em P w (al H x bX) h' x bX):dq P w (al H x bX) h':=λb u q=>by
 have m:∀c y,H c=I (.bo y)->c≠x:=λc y r z=>by subst z;rw[r]at a;show a
 have n:∀c xs,H c=I (.aZ xs)->c≠x:=λc xs r z=>by subst z;rw[r]at a;show a
 by_cases d:b=x
 .subst d;rw[ar]at q;cases q;show new
 .rw[aI d]at q;by_cases f:b=e
  .have i:H b=I (.bo x):=by
    grind
   rw[q]at i;cases i
   let{v,(l)}:=j
   show{v,by show f▸l}
  .show(ok b u q).hq (λc v g r=>k c v ?_ r) (λc r=>by rw[aI<|m c b r];show r) λc xs r=>by rw[aI<|n c xs r];show r
   obtain rfl|g:=g
   .show f
   .grind
end
structure fy(aF bE:List ao)(H U:aP)(h h':bG):Prop where
 keep:∀b o,h.get? b=I o->H b=ag->b∉aF->b∉bE->h'.get? b=I o
 slot:∀b o,h.get? b=I o->H b=ag->b∈aF->b∉bE->∃sl,h'.get? b=I {o with slots:=sl}
 free:∀b o,h.get? b=I o->H b=ag->b∉bE->U b=ag
 there:∀b o,h.get? b=I o->b∉bE->∃bX,h'.get? b=I bX
 gL:∀b xs,H b=I (.aZ xs)->U b=I (.aZ xs)
 hw:∀b o u,H b=I (.cg o u)->U b=I (.cg o u)
 ia:∀b ps,H b=I (.j9 ps)->∃more,U b=I (.j9<|ps++more)
section
variable{aF qf bE aly:List ao}{H an aw:aP}{h O Y h':bG}{a x e:ao}{o:fR}
def fy.any(u:fy aF bE H an h O)(q:h.get? b=I ob)(n:H b=ag)(c:b∉bE):∃sl,O.get? b=I {ob with slots:=sl}:=by
 by_cases a:b∈aF
 .show u.slot b ob q n a c
 .show{ob.slots,u.keep b ob q n a c}
def fy.fc(k:∀b u,h.get? b=I u->h'.get? b=I u):fy aF bE H H h h':=
 {λb ob q _ _ _=>k b ob q,λb ob q _ _ _=>{ob.slots,k b ob q},λ_ _ _ n _=>n,λb ob q _=>{ob,k b ob q},λ_ _ q=>q,λ_ _ _ q=>q,λ_ ps q=>{#[],by rw[q];simp}}
def fy.refl:fy aF bE H H h h:=fy.fc λ_ _ q=>q
def fy.gx(k:∀b u,h.get? b=I u->h'.get? b=I u)(d:h.objs.size<=a)(c:H a=ag):fy aF bE H (al H a o) h h' where
 keep:=λb u q _ _ _=>k b u q
 slot:=λb u q _ _ _=>{u.slots,k b u q}
 free:=λb u q n _=>aI (du<|dW (cm q) d)▸n
 there:=λb u q _=>{u,k b u q}
 gL:=λb xs q=>aI (b3 q c)▸q
 hw:=λb u xs q=>by rw[aI<|b3 q c];show q
 ia:=λb ps q=>{#[],by rw[aI<|b3 q c,q];simp}
def fy.mi(d:k3 (H x))(j:e=x\/H e=I (.bo x))(k:∀b u,b≠e->h.get? b=I u->h'.get? b=I u)(g:∃u,h'.get? e=I u):fy aF bE H (al H x o) h h':=by
 have i:∀b,H b=ag->b≠x:=λb n z=>by subst z;rw[n]at d;show d
 have c:∀b,H b=ag->b≠e:=λb n z=>by grind
 have a:∀b u,H b=I u->¬k3 (I u)->b≠x:=λb u q fO z=>by grind
 show{λb u q n _ _=>k b u (c b n) q,λb u q n _ _=>{u.slots,k b u (c b n) q},λb u q n _=>aI (i b n)▸n,λb u q _=>?_,
  λb xs q=>by rw[aI<|a b _ q λz=>z];show q,λb u xs q=>aI (a b _ q λz=>z)▸q,λb ps q=>{#[],by rw[aI<|a b _ q λz=>z,q];simp}}
 by_cases f:b=e
 .subst f;show g
 grind
end
def wP(h:bG)(H:aP):=(dv h.objs.size).filter λa=>(H a).isSome
def nz h H:=PySem.W.hideAll h<|wP h H
def adB h H:(nz h H).objs.size=h.objs.size:=PySem.W.hideAll_size _ _
def adC(e:h.get? b=I o)(n:H b=ag):(nz h H).get? b=I o:=
 PySem.W.hideAll_get _ e λa=>by have q:=(to.mp a).2;grind
def abR(e:(nz h H).get? b=I o):h.get? b=I o/\H b=ag:=by
 have a:=PySem.W.of_hideAll (wP h H) e;show{a,?_};cases q:H b with
 |none=>rfl
 |some x=>have c:b∈wP h H:=to.mpr {tn.mpr<|cm a,by simp[q]};have z:(nz h H).get? b=ag:=PySem.W.hideAll_none (wP h H) c;rw[z]at e;cases e
structure Mod(K:b9)(mg:Str->Option az)(base:bG):Prop where
 oy:K.In base
 nA:base.Ns eh mg
 blt:∃M2,base.Ns FV M2/\∀x:Str,x≠"__name__"->M2 x=h3 x
 nolimit:base.NoLimit
structure bO where
 prog:bS
 w:bL
 K:b9
 mg:Str->Option az
 base:bG
 A:db
 N:List Str
 gM:bb
 qC:aP
 am:Env
 aN:List Env
 stack:List Env
 bE:List ao
 a8:Str->Bool
 hf:Bool
 gO:List (ao×Obj)
 cT:az->bb->Prop
def ev(l:List Env):=l.filterMap (·.frame)
abbrev bO.aF(X:bO):=ev X.aN
def sn(b7:jq) x:=b7.names.lookup x=I .local \/b7.names.lookup x=I .cell\/b7.names.lookup x=I .free
def sv(b7:jq) x:=b7.names.lookup x=I .local \/b7.names.lookup x=I .cell
def ajJ(am:Env)(h:bG)(m:Str->Option az) x u:=
 (am.kindOf x=I .local /\m x=I u)\/((am.kindOf x=I .cell\/am.kindOf x=I .free)/\∃c,am.cells.lookup x=I c/\h.IsCell c (I u))
structure bO.kq(X:bO):Prop where
 f5:Mod X.K X.mg X.base
 kind:X.am.scope.kind= .function
 nA:X.am.globals=eh
 blt:X.am.builtins=FV
 above:X.gM⁻¹<=X.am.locals
 inj:∀x y c,X.am.cells.lookup x=I c->X.am.cells.lookup y=I c->x=y
 has:∀x,(X.am.kindOf x=I .cell\/X.am.kindOf x=I .free)->∃c,X.am.cells.lookup x=I c
 va:∀x c,X.a8 x=aa->X.am.cells.lookup x=I c->X.gM⁻¹<=c
 af:X.hf=aa->X.A.handled=ag
 frames:X.A.frames=I X.stack
 w2:X.stack=X.aN\/(X.stack=X.am::X.aN/\X.am.frame=I X.am.locals)
 ye:∀b∈X.bE,b≠X.am.locals/\∀x c,X.am.cells.lookup x=I c->c≠b
 b':∀b o,X.base.get? b=I o->X.gM.heap.get? b=I o/\X.qC b=ag
 lM:X.base.objs.size<=X.gM⁻¹
 ux:∀b o,X.base.get? b=I o->b∉X.bE
 u0:∀b∈X.bE,b∉X.aF
 jG:X.gM.heap.FunFrames X.base X.aN
 mK:∀b∈X.aF,X.qC b=ag
structure aC(X:bO)(pins:List (ao×Obj))(σ:List (Option ab))(H:aP)(s:bb):Prop where
 ok:X.kq
 os:s.os=X.gM.os
 dV:pE s.gens
 base:fy X.aF X.bE X.qC H X.gM.heap s.heap
 fC:∃m,s.heap.Ns X.am.locals m/\∀(i:Nat) (x:Str) (v:ab),X.N[i]? =I x->σ[i]? =I (I v)->sn X.am.scope x->∃u,cb v u/\ajJ X.am s.heap m x u
 cell:∀x c,X.am.cells.lookup x=I c->∃v,s.heap.IsCell c v
 free:H X.am.locals=ag
 hX:∀x c,X.am.cells.lookup x=I c->H c=ag
 fM:∀p∈X.gO++pins,s.heap.get? p.1=I p.2/\H p.1=ag/\p.1≠X.am.locals/\p.1∉X.aF/\∀v,p.2.data≠ .cell v
 a0:dq X.prog X.w H s.heap
 len:σ.length=↥X.N
section
variable{X:bO}{pins:List (ao×Obj)}{σ:List (Option ab)}{H U:aP}{s:bb}{h':bG}
def bO.kq.ab3(ok:X.kq)(e:X.base.get? b=I o):b∉X.aF:=λa=>by have:=(ok.jG.mem a).1;grind
def aC.b'(J:aC X pins σ H s):∀b o,X.base.get? b=I o->s.heap.get? b=I o/\H b=ag:=λb o e=>
 {J.base.keep b o (J.ok.b' b o e).1 (J.ok.b' b o e).2 (J.ok.ab3 e)<|J.ok.ux b o e,J.base.free b o (J.ok.b' b o e).1 (J.ok.b' b o e).2<|J.ok.ux b o e}
def aC.hg(J:aC X pins σ H s):∀b o,X.base.get? b=I o->s.heap.get? b=I o:=λb o e=>(J.b' b o e).1
def aC.f5(J:aC X pins σ H s):Mod X.K X.mg X.base:=J.ok.f5
def aC.e5(J:aC X pins σ H s):X.K.In s.heap:=J.ok.f5.oy.keeps J.hg
def aC.lt(J:aC X pins σ H s):X.am.locals<s⁻¹:=let{_,a,_}:=J.fC;a.lt
def aC.iE(J:aC X pins σ H s):X.gM⁻¹<=s⁻¹:=b5 J.ok.above<|po J.lt
def aC.ab1(J:aC X pins σ H s){a:ao}(h:s⁻¹<=a):a∉X.aF:=λb=>by
 let{_,o,c,_}:=J.ok.jG.mem b
 show absurd (dW (cm c)<|b5 J.iE h) ()
def aC.nD(J:aC X pins σ H s):∀x c,X.am.cells.lookup x=I c->c≠X.am.locals:=λx c e z=>by
 let{v,o,b,(af)}:=J.cell x c e
 let{m,{bX,es,ep,d,a,_},_}:=J.fC
 grind
def aC.jG(J:aC X pins σ H s):s.heap.FunFrames X.base X.aN:=by
 have all:∀l,(∀b∈ev l,b∈X.aF)->X.gM.heap.FunFrames X.base l->s.heap.FunFrames X.base l:=by
  intro l;induction l with
  |nil=>intro _ _;trivial
  |cons am r k=>
   intro d g
   let{f,{L,o,c,h,i,(af)},j}:=g
   have c0:=d L (by unfold ev;rw[j4,c];simp)
   let{sl,(e)}:=J.base.slot L o i (J.ok.mK L c0) c0 λz=>J.ok.u0 L z c0
   show{f,{L,_,c,h,e,af},k (λb a=>d b<|by unfold ev;rw[j4,c];show eJ _ a) j}
 show all X.aN (λ_ a=>a) J.ok.jG
def aC.stack(J:aC X pins σ H s):s.heap.FunFrames X.base X.stack:=by
 obtain e|⟨e,a⟩:=J.ok.w2
 .show e▸J.jG
 .rw[e]
  let{m,b,_}:=J.fC
  show .cons (by rw[J.ok.kind];decide) a b (Heap.get?_none_of_le<|b5 J.ok.lM J.ok.above) J.jG
def aC.w1(J:aC X pins σ H s):∀b∈ev X.stack,b∈X.am.locals::X.aF:=λb a=>by
 obtain e|⟨e,c⟩:=J.ok.w2
 .rw[e]at a;show eJ _ a
 .rw[e]at a;unfold ev at a;rw[j4,c]at a;show a
def aC.tR(J:aC X pins σ H s):∀b∈ev X.stack,H b=ag:=λb a=>by
 obtain e|a:=bK.mp<|J.w1 b a
 .rw[e];show J.free
 .let{_,o,c,_}:=J.ok.jG.mem a
  show J.base.free b o c (J.ok.mK b a) λz=>J.ok.u0 b z a
def aC.step{e7:Array Am}{t':Nat}{fD:Drawn}{bU:List ao}(J:aC X pins σ H s)
  (t:∀b∈bU,(b∈X.bE\/X.gM⁻¹<=b)/\b≠X.am.locals/\(∀x c,X.am.cells.lookup x=I c->c≠b)/\∀p∈X.gO++pins,p.1≠b)
  (keep:∀b o,b≠X.am.locals->b∉X.aF->b∉bU->s.heap.get? b=I o->H b=ag->h'.get? b=I o)
  (slot:∀b o,b≠X.am.locals->b∈X.aF->b∉bU->s.heap.get? b=I o->H b=ag->∃sl,h'.get? b=I {o with slots:=sl}) (free:∀b o,b∉bU->s.heap.get? b=I o->H b=ag->U b=ag)
  (there:∀b o,b∉bU->s.heap.get? b=I o->∃bX,h'.get? b=I bX)
  (gL:∀b xs,H b=I (.aZ xs)->U b=I (.aZ xs)) (hw:∀b o u,H b=I (.cg o u)->U b=I (.cg o u)) (ia:∀b ps,H b=I (.j9 ps)->∃more,U b=I (.j9<|ps++more))
  (ns:∀m,s.heap.Ns X.am.locals m->h'.Ns X.am.locals m) (a0:dq X.prog X.w U h') (G:pE e7):
  aC X pins σ U {s with heap:=h',gens:=e7,drawn:=fD,toks:=t'}:=by
 have E:∀b o,X.gM.heap.get? b=I o->b≠X.am.locals:=λb o e=>du<|dW (cm e) J.ok.above;have A:∀b o,X.gM.heap.get? b=I o->b∉X.bE->b∉bU:=λb o e a g=>by
  obtain z|z:=(t b g).1
  .show a z
  .show absurd (dW (cm e) z)<|kB _
 have cellK:∀x c,X.am.cells.lookup x=I c->∀v,s.heap.IsCell c v->h'.IsCell c v:=λx c e v {o,h,(af)}=>by
  have y:c∉bU:=λz=>(t c z).2.2.1 x c e D;by_cases B:c∈X.aF
  .let{sl,(q)}:=slot c o (J.nD x c e) B y h<|J.hX x c e
   show{_,q,af}
  .show{o,keep c o (J.nD x c e) B y h<|J.hX x c e,af}
 show{J.ok,J.os,G,{λb o e n g a=>?_,λb o e n g a=>?_,λb o e n a=>?_,λb o e a=>?_,λb xs e=>gL b xs<|J.base.gL b xs e,λb o xs e=>hw b o xs<|J.base.hw b o xs e,λb ps e=>?_},?_,λx c e=>?_,?_,λx c e=>?_,λp C=>?_,a0,J.len}
 .show keep b o (E b o e) g (A b o e a) (J.base.keep b o e n g a)<|J.base.free b o e n a
 .let{sl,(f)}:=J.base.slot b o e n g a
  let{O,(j)}:=slot b _ (E b o e) g (A b o e a) f<|J.base.free b o e n a
  show{O,(j)}
 .let{bX,(f)}:=J.base.there b o e a
  show free b bX (A b o e a) f<|J.base.free b o e n a
 .let{bX,(f)}:=J.base.there b o e a
  show there b bX (A b o e a) f
 .let{M,(f)}:=J.base.ia b ps e
  let{N,(j)}:=ia b _ f
  show{M++N,by rw[j,Array.append_assoc]}
 .let{m,L,(K)}:=J.fC
  show{m,ns m L,λi x v f j F=>?_}
  let{u,r,(l)}:=K i x v f j F
  show{u,r,?_};obtain l|⟨k,c,e,z⟩:=l
  .show .inl l
  .show .inr {k,c,e,cellK x c e _ z}
 .let{v,(z)}:=J.cell x c e
  show{v,cellK x c e v z}
 .let{m,{o,_,_,h,_},_}:=J.fC
  show free _ o (λz=>(t _ z).2.1 D) h J.free
 .let{v,o,h,(af)}:=J.cell x c e
  show free c o (λz=>(t c z).2.2.1 x c e D) h<|J.hX x c e
 .let{e,n,bI,e4,(d)}:=J.fM p C
  have y:p.1∉bU:=λz=>(t p.1 z).2.2.2 p C D;show{keep p.1 p.2 bI e4 y e n,free p.1 p.2 y e n,bI,e4,d}
def aC.cF(J:aC X pins σ H s)(u:fy X.aF [] H U s.heap h')(a0:dq X.prog X.w U h'):aC X pins σ U {s with heap:=h',toks:=t'}:=by
 let{m,{o,es,ep,c,(r)},_}:=id J.fC
 let{sl,(c0)}:=u.any c J.free ()
 show J.step (bU:=[]) (λ_ z=>nomatch z) (λb o _ a _ e n=>u.keep b o e n a ()) (λb o _ a _ e n=>u.slot b o e n a ()) (λb o _ e n=>u.free b o e n ()) (λb o _ e=>u.there b o e ()) u.gL u.hw u.ia (λi g=>by
  let{bX,es',f,d,(h)}:=g
  rw[c]at d;cases d;show{_,es',f,c0,h}) a0 J.dV
def aC.call(J:aC X pins σ H s)(u:fy (ev X.stack) bU H U s.heap h')(a0:dq X.prog X.w U h')(j:pE e7)
  (d:∀b∈bU,(b∈X.bE\/X.gM⁻¹<=b)/\b≠X.am.locals/\(∀x c,X.am.cells.lookup x=I c->c≠b)/\∀p∈X.gO++pins,p.1≠b):
  aC X pins σ U {s with heap:=h',gens:=e7,drawn:=fD,toks:=t'}:=by
 let{m,{o,es,ep,f,(r)},_}:=id J.fC
 let{sl,(c0)}:=u.any f J.free λz=>(d _ z).2.1 D
 show J.step d (λb o c0 i a e n=>u.keep b o e n (λz=>(bK.mp<|J.w1 b z).elim c0 i) a) (λb o _ _ a e n=>u.any e n a) (λb o a e n=>u.free b o e n a) (λb o a e=>u.there b o e a) u.gL u.hw u.ia (λq k=>by
  let{bX,es',h,g,(l)}:=k
  rw[f]at g;cases g;show{_,es',h,c0,l}) a0 j
def aC.h9(J:aC X pins σ H s)(k:∀b o,b≠aQ->s.heap.get? b=I o->h'.get? b=I o)(i:H aQ=ag)(c0:aQ≠X.am.locals)
  (O:aQ∈X.bE\/X.gM⁻¹<=aQ) (Y:∀x c,X.am.cells.lookup x=I c->c≠aQ) (f:∀p∈X.gO++pins,p.1≠aQ):aC X pins σ H {s with heap:=h',toks:=t'}:=by
 have d:∀b u,H b=I u->b≠aQ:=λb u e z=>by rw[z,i]at e;cases e
 show J.step (bU:=[aQ]) (λb g=>?_) (λb o _ _ a e _=>k b o (λz=>a<|by simp[z]) e) (λb o _ _ a e _=>{o.slots,k b o (λz=>a<|by simp[z]) e}) (λ_ _ _ _ n=>n)
  (λb o a e=>{o,k b o (λz=>a<|by simp[z]) e}) (λ_ _ e=>e) (λ_ _ _ e=>e) (λb ps e=>{#[],by rw[e];simp}) (λm h=>?_) (λb u e=>?_) J.dV
 .have e:=‹g›
  subst e;show{O,c0,Y,(f)}
 .let{o,es,ep,j,(r)}:=h
  show{o,es,ep,k _ o (eo c0) j,r}
 .show(J.a0 b u e).hq (λc v a q=>k c v ?_ q) (λ_ q=>q) λ_ _ q=>q;obtain z|z:=a
  .show z▸d b u e
  .show d c _ z
def aC.eL(J:aC X pins σ H s) t:aC X pins σ H {s with toks:=t}:=J.cF fy.refl J.a0
def aC.fc(J:aC X pins σ H s)(k:∀b u,s.heap.get? b=I u->h'.get? b=I u):aC X pins σ H {s with heap:=h',toks:=t'}:=J.cF (fy.fc k)<|J.a0.fc k
def aC.gx{a:ao}(J:aC X pins σ H s)(k:∀b u,s.heap.get? b=I u->h'.get? b=I u)(c:s⁻¹<=a)(new:em X.prog X.w (al H a o) h' a o):
  aC X pins σ (al H a o) {s with heap:=h',toks:=t'}:=J.cF (fy.gx k c<|J.a0.fresh c)<|J.a0.gx k c new
def aC.mi(J:aC X pins σ H s)(d:k3 (H x))(a:e=x\/H e=I (.bo x))(k:∀b u,b≠e->s.heap.get? b=I u->h'.get? b=I u)(c:∃u,h'.get? e=I u)
  (new:em X.prog X.w (al H x o) h' x o):aC X pins σ (al H x o) {s with heap:=h',toks:=t'}:=J.cF (fy.mi d a k c)<|J.a0.mi d a k c new
def aC.Hh(J:aC X pins σ H s)(d:ac q=ac σ)(w:∀(i:Nat) v,q[i]? =I (I v)->σ[i]? =I (I v)):aC X pins q H s:=
 {J.ok,J.os,J.dV,J.base,let{m,f,(e)}:=J.fC;{m,f,λi x v a b c=>e i x v a (w i v b) c},J.cell,J.free,J.hX,J.fM,J.a0,d.trans J.len}
def aC.Lh(J:aC X pins σ H s)(h:∀p∈q,s.heap.get? p.1=I p.2/\H p.1=ag/\p.1≠X.am.locals/\p.1∉X.aF/\∀v,p.2.data≠ .cell v):aC X q σ H s:=
 {J.ok,J.os,J.dV,J.base,J.fC,J.cell,J.free,J.hX,λp a=>(cN.mp a).elim (λz=>J.fM p<|la _ z)<|h p,J.a0,J.len}
def xO{N:List Str}(e:N.Nodup){j:Nat}(a:N[i]? =I x)(b:N[j]? =I x):i=j:=by
 let{O,(c)}:=ee.mp a
 let{Y,(d)}:=ee.mp b
 show(GB e).mp<|c.trans d.symm
def HZ(J:aC X pins σ H s)(W:X.N.Nodup)(au:X.N[i]? =I x)(t:sv X.am.scope x)(r:cb v u)
  (h:∀s',aC X pins (σ.set i<|I v) H s'->(∃a,lc a s.heap s'.heap/\(a=X.am.locals\/X.am.cells.lookup x=I a))->Q fr s') (aj:X.a8 x=aa\/X.am.scope.names.lookup x=I .local <|>zzf):aR M A (storeName X.am x u) Q E s:=by
 let{m,R,(ae)}:=id J.fC
 have ai:(X.am.scope.kind== .class ||(X.am.scope.kind== .module&&X.am.locals !=X.am.globals))=ap:=by rw[J.ok.kind];rfl
 have ad:i<ac σ:=by rw[J.len];show(ee.mp au).1
 have nD:=J.nD;have tracked:∀{a:ao} {h':bG},(∃o,s.heap.get? a=I o/\H a=ag)->lc a s.heap h'->dq X.prog X.w H h':=λ{a h'} ah f b ob e=>by
  let{_,_,ab}:=ah
  show(J.a0 b ob e).hq (λc L l q=>(f.2 c ?_).trans q) (λ_ q=>q) λ_ _ q=>q;rintro rfl;obtain rfl|l:=l
  .rw[ab]at e;cases e
  .rw[ab]at l;cases l
 obtain C|C:=t
 .show wpAny_storeName_local C R (λh' ak f=>?_) ai
  let{aq,_,_,al,_}:=id R
  show h _ {J.ok,J.os,J.dV,{λb o e n F t=>?_,λb o e n F t=>?_,J.base.free,λb o e t=>?_,J.base.gL,J.base.hw,J.base.ia},{_,ak,λj y V g B O=>?_},λy c e=>?_,J.free,J.hX,λp S=>?_,tracked {aq,al,(J.free)} f,‹J.len›} {_,f,.inl D}
  .show(f.2 b<|du<|dW (cm e) J.ok.above).trans<|J.base.keep b o e n F t
  .let{sl,(g)}:=J.base.slot b o e n F t
   show{sl,(f.2 b<|du<|dW (cm e) J.ok.above).trans g}
  .let{bX,(g)}:=J.base.there b o e t
   show{bX,(f.2 b<|du<|dW (cm e) J.ok.above).trans g}
  .by_cases G:j=i
   .subst G;rw[au]at g;cases g;rw[Ac ad]at B;cases B;show{u,r,.inl {C,()}}
   .rw[Ad<|eo G]at B
    let{U,T,(q)}:=ae j y V g B O
    show{U,T,?_};obtain⟨k,e⟩|⟨k,c,e,z⟩:=q
    .show .inl {k,?_};have:y≠x:=λe=>G<|xO W g<|e▸au;simp[this,e]
    .show .inr {k,c,e,z.sameBut f<|nD y c e}
  .let{L,(z)}:=J.cell y c e
   show{L,z.sameBut f<|nD y c e}
  .let{e,n,bI,e4,(d)}:=J.fM p S
   show{(f.2 p.1 bI).trans e,n,bI,e4,d}
 .have P:X.a8 x=aa:=by
   obtain z|z:=aj
   .show z
   .rw[z]at C;cases C
  let{c,(l)}:=J.ok.has x<|.inl C
  let{L,(z)}:=J.cell x c l
  show wpAny_storeName_cell J.ok.kind C l z λh' Y f=>?_
  let{ii,af,(an)}:=id z
  show h {s with heap:=h'} {J.ok,J.os,J.dV,{λb o e n F t=>?_,λb o e n F t=>?_,J.base.free,λb o e t=>?_,J.base.gL,J.base.hw,J.base.ia},{m,R.sameBut f<|eo<|nD x c l,λj y V g B O=>?_},λy K e=>?_,J.free,J.hX,λp S=>?_,tracked {ii,af,J.hX x c l} f,‹J.len›} {c,f,.inr l}
  .show(f.2 b<|du<|dW (cm e)<|J.ok.va x c P l).trans<|J.base.keep b o e n F t
  .let{sl,(g)}:=J.base.slot b o e n F t
   show{sl,(f.2 b<|du<|dW (cm e)<|J.ok.va x c P l).trans g}
  .let{bX,(g)}:=J.base.there b o e t
   show{bX,(f.2 b<|du<|dW (cm e)<|J.ok.va x c P l).trans g}
  .by_cases G:j=i
   .subst G;rw[au]at g;cases g;rw[Ac ad]at B;cases B;show{u,r,.inr {.inl C,c,l,Y}}
   .rw[Ad<|eo G]at B
    let{U,T,(q)}:=ae j y V g B O
    show{U,T,?_};obtain q|⟨k,K,e,av⟩:=q
    .show .inl q
    .show .inr {k,K,e,av.sameBut f ?_};rintro rfl;show G<|xO W g<|J.ok.inj _ _ _ e l▸au
  .by_cases Z:K=c
   .subst Z;show{_,Y}
   .let{as,(aw)}:=J.cell y K e
    show{as,aw.sameBut f Z}
  .let{e,n,bI,e4,(d)}:=J.fM p S
   show{(f.2 p.1 ?_).trans e,n,bI,e4,d};intro q;rw[q,af]at e;have ar:ii=p.2:=d3 e;show d L (by rw[<-ar];show an)
def w0(J:aC X pins σ H s)(b:X.N.Nodup)(au:X.N[i]? =I x)(d:sv X.am.scope x)(r:cb v u)
  (h:∀s',aC X pins (σ.set i<|I v) H s'->Q fr s') (c:X.a8 x=aa\/X.am.scope.names.lookup x=I .local <|>zzf):aR M A (storeName X.am x u) Q E s:=
 HZ J b au d r (λs' a _=>h s' a) c
def aC.Eg(J:aC X pins σ H s)(f:s'.os=s.os)(u:fy (ev X.stack) bU H U s.heap s'.heap)(a0:dq X.prog X.w U s'.heap)(d:pE s'.gens)
  (a:∀b∈bU,(b∈X.bE\/X.gM⁻¹<=b)/\b≠X.am.locals/\(∀x c,X.am.cells.lookup x=I c->c≠b)/\∀p∈X.gO++pins,p.1≠b):aC X pins σ U s':=by
 let{h',e7,fD,t',(bX)}:=s'
 have e:=f;subst e;show J.call u a0 d a
end
abbrev gh:=az->Option ao->aP->Prop
abbrev St:=List<|Option ab
abbrev dR:=ab->aP->Prop
abbrev bD:=St->aP->dR->Prop
abbrev gA:=St->aP->(Bool->aP->Prop)->Prop
abbrev fF:=St->aP->(List ab->aP->Prop)->Prop
structure m1 where
 b1:St->aP->Prop
 kM:dR
 hg:St->aP->Prop:=λ_ _=>False
 e9:St->aP->Prop:=λ_ _=>False
abbrev fq:=m1->St->aP->Prop
inductive f8(X:bO)(pins:List (ao×Obj))(σ:St)(Q:dR)(u:az)(s':bb):Prop|mk(v)(U)(_:aC X pins σ U s')(_:cb v u)(_:Q v U)
inductive EY(X:bO)(pins:List (ao×Obj))(σ:St)(Q:Bool->aP->Prop)(b:Bool)(s':bb):Prop|mk(U)(_:aC X pins σ U s')(_:Q b U)
inductive akg(X:bO)(pins:List (ao×Obj))(σ:St)(Q:List ab->aP->Prop)(ay:List az)(s':bb):Prop|mk(vs)(U)(_:aC X pins σ U s')(_:bF vs ay)(_:Q vs U)
def so X pins(aq:m1)(f:Flow)(s':bb):=
 match f with
 |.next=>∃a U,aC X pins a U s'/\aq.b1 a U
 |.brk=>∃a U,aC X pins a U s'/\aq.hg a U
 |.cont=>∃a U,aC X pins a U s'/\aq.e9 a U
 |.ret u=>∃v a U,aC X pins a U s'/\cb v u/\aq.kM v U
def aX X e(t:bD):=
 ∀pins s (σ:St) H Q,aC X pins σ H s->t σ H Q->aR (aU X.prog X.w) X.A (eval e X.am) (f8 X pins σ Q) X.cT s
def jj X e(t:gA):=
 ∀pins s (σ:St) H Q,aC X pins σ H s->t σ H Q->aR (aU X.prog X.w) X.A (isTrue e X.am<|eval e X.am) (EY X pins σ Q) X.cT s
def oS X e(t:gA):=
 ∀whole pins s (σ:St) H Q,aC X pins σ H s->t σ H Q->aR (aU X.prog X.w) X.A (isTrue e X.am whole) (EY X pins σ Q) X.cT s
def oS.hP(h:oS X e t):jj X e t:=h _
def d2 X es(t:fF):=
 ∀pos pins s (σ:St) H Q,aC X pins σ H s->t σ H Q->aR (aU X.prog X.w) X.A (spliced<|dM pos<|bj es X.am) (akg X pins σ Q) X.cT s
def hh X st(t:fq):=
 ∀pins s (σ:St) H aq,aC X pins σ H s->t aq σ H->aR (aU X.prog X.w) X.A (exec st X.am) (so X pins aq) X.cT s
def jQ X st(t:fq):=
 ∀pins s (σ:St) H aq,aC X pins σ H s->t aq σ H->aR (aU X.prog X.w) X.A (execs st X.am) (so X pins aq) X.cT s
def bp(h:aR M A t Q E s)(b:∀a s,Q a s->q a s):aR M A t q E s:=fA h b λ_ _ x=>x
section
variable{X:bO}
def HL(i:Nat):(bD):=λσ H Q=>match σ[i]? with|some (some v)=>Q v H|_=>False
def HLe{σ:St}{Q:dR}(h:HL i σ H Q):∃v,σ[i]? =I (I v)/\Q v H:=by unfold HL at h;cases e:σ[i]? with|none=>rw[e]at h;cases h|some o=>rw[e]at h;cases o with|none=>cases h|some v=>show{v,D,h}
def oa(v:ab):(bD):=λ_ H Q=>Q v H
def ZK{pos:Pos}(f:X.N[i]? =I x)(o:sn X.am.scope x)(af:(x=="__debug__")=ap<|>zzd)(g:(x=="__classdict__")=ap<|>zzd):aX X (.Name x pos) (HL i):=by
 intro pins s σ H Q J h
 let{v,e,(h)}:=HLe h
 let{m,n,(j)}:=J.fC
 let{u,r,(l)}:=j i x v f e o
 have fin:f8 X pins σ Q u s:={v,H,J,r,(h)};obtain⟨a,k⟩|⟨a,c,b,d⟩:=l
 .show FD (Rh J.ok.kind a n k fin) af
 .obtain a|a:=a
  .show FD (Ri J.ok.kind a b d fin) af
  .show FD (wpAny_loadName_free J.ok.kind a b d fin g) af
def bn:aX X (.Constant (.int i) j pos) (oa<|.int i):=λ_ _ _ H _ J h=>wpAny_Constant_int {.int i,H,J.eL _,{_,D},h}
def om:aX X (.Constant (.bool b) j pos) (oa<|.a1 b):=λ_ _ _ H _ J h=>Constant_bool {.a1 b,H,J,D,h}
def xt:aX X (.Constant .none j pos) (oa .bT):=λ_ _ _ H _ J h=>GP {.bT,H,J,D,h}
def ZL:aX X (.Constant (.str x) j pos) (oa<|.str x):=λ_ _ _ H _ J h=>Calls.Constant_str {.str x,H,J.eL _,{_,D},h}
def ea(X:bO) x:=X.am.kindOf x=I .globalImplicit
def mE{σ:St}(J:aC X pins σ H s)(a:ea X x)(b:X.mg x=I u)(h:Q u s)
  (af:(x=="__debug__")=ap<|>zzd):aR (aU X.prog X.w) X.A (eval (.Name x pos) X.am) Q E s:=
 TJ J.ok.kind a (Calls.loadGlobal_global (J.ok.nA▸J.f5.nA.keeps J.hg) b h) af
def mF{E:az->bb->Prop}{σ:St}{pos:Pos}(J:aC X pins σ H s)(a:ea X x)(b:X.mg x=ag)(d:h3 x=I u)(h:Q u s)
  (c:x≠"__name__"<|>zzd) (af:(x=="__debug__")=ap<|>zzd):aR (aU X.prog X.w) X.A (eval (.Name x pos) X.am) Q E s:=by
 let{e,O,(Y)}:=J.f5.blt
 show TJ J.ok.kind a (Calls.loadGlobal_builtin (J.ok.nA▸J.f5.nA.keeps J.hg) b (J.ok.blt▸O.keeps J.hg) ((Y x c).trans d) h) af
def ZT(a:ea X x)(b:X.mg x=I u)(r:cb v u)(af:(x=="__debug__")=ap<|>zzd):aX X (.Name x pos) (oa v):=
 λ_ _ _ H _ J h=>mE J a b {v,H,J,r,(h)} af
variable{a b:Expr}{bc cj:bD}{pos:Pos}
def ss X op a b(t:bD):=
 ∀pins s (σ:St) H Q,aC X pins σ H s->t σ H Q->
  aR (aU X.prog X.w) X.A (eval a X.am) (λv c=>aR (aU X.prog X.w) X.A (eval b X.am) (λu d=>aR (aU X.prog X.w) X.A (compareOp op v u) (f8 X pins σ Q) X.cT d) X.cT c) X.cT s
def Mr b(h:op≠ .In)(Y:op≠ .NotIn):behindInMarks op b=ap:=by
 have a:(op==CmpOp.In)=ap:=by cases op<;>first|rfl|show absurd rfl h
 have c:(op==CmpOp.NotIn)=ap:=by cases op<;>first|rfl|show absurd rfl Y
 cases b<;>first|rfl|(change(_&&(op==CmpOp.In||op==CmpOp.NotIn)&&_)=_;rw[a,c];simp)
def Vt(bc:bD):(bD):=λσ H Q=>bc σ H λx an=>Q (.a1<|decide (x= .bT)) an
def Vl(bc:bD):(bD):=λσ H Q=>bc σ H λx an=>Q (.a1<|!decide (x= .bT)) an
def cb.Mm(r:cb x v):(v==iW)=decide (x= .bT):=by
 cases x with
 |bT=>cases r;rfl
 |a1 _=>cases r;rfl
 |int _=>let{t,(rfl)}:=r;rfl
 |str _=>let{t,(rfl)}:=r;rfl
 |iq _=>let{t,(rfl)}:=r;rfl
 |uW _=>let{t,(rfl)}:=r;rfl
 |ref _=>cases r;rfl
 |dz _=>cases r;rfl
def Lq(c:aX X a bc):ss X .Is a (.Constant .none j pos') (Vt bc):=by intro pins s σ H Q J h;show bp (c pins s σ H _ J h) λv aj {x,an,b,e,(d)}=>GP<|is_none_gen {.a1 _,an,b,by rw[e.Mm];rfl,d}
def Lp(c:aX X a bc):ss X .IsNot a (.Constant .none j pos') (Vl bc):=by intro pins s σ H Q J h;show bp (c pins s σ H _ J h) λv aj {x,an,b,e,(d)}=>GP<|isnot_none_gen {.a1 _,an,b,by rw[e.Mm];rfl,d}
inductive qxR(x:ab)(H:aP)(Q:Bool->aP->Prop):Prop|mk(c:Bool)(h:x= .a1 c)(k:Q c H)
def HR(t:bD):(gA):=λσ H Q=>t σ H λx an=>qxR x an Q
def xw(h:ss X op a b t)(O:behindInMarks op b=ap:=by first|show Mr _ (by decide) (by decide)|rfl):aX X (.Compare a [op] [b] pos) t:=λpins s σ H Q J ax=>Ro (h pins s σ H Q J ax) O
def kP(h:ss X op a b t)(O:behindInMarks op b=ap:=by first|show Mr _ (by decide) (by decide)|rfl):jj X (.Compare a [op] [b] pos) (HR t):=by intro pins s σ H Q J ax;show Rk (bp (h pins s σ H _ J ax) λv aj O=>bp O λu aA Y=>bp Y λc i {x,an,e,g,(f)}=>?_) O;let{d,rfl,(q)}:=f;cases g;show m3 {an,e,(q)}
def gN(h:aX X e t)(b:(∀whole,isTrue e X.am whole=(do let v<-whole;sO e.pos;qR [v] (truthy v)))<|>zzi):jj X e (HR t):=by intro pins s σ H Q J ax;show isTrue_plain (bp (h pins s σ H _ J ax) λv aj {x,an,a,f,(c)}=>?_)<|b _;let{d,rfl,(q)}:=c;cases f;show m3 {an,a,(q)}
variable{kJ wX:gA}{rest:List Expr}
def VH(t u:gA):(gA):=λσ H Q=>t σ H λc an=>if c=aa then u σ an Q else Q ap an
def Vk(t u:gA):(gA):=λσ H Q=>t σ H λc an=>if c=aa then Q aa an else u σ an Q
def Vm(t:gA):(gA):=λσ H Q=>t σ H λc an=>Q (!c) an
def B9(b:jj X a kJ):oS X (.BoolOp .And [a] pos) kJ:=by
 intro d pins s σ H Q J h;show isTrue_and<|bp (b pins s σ H Q J h) λc aj e=>?_;cases c with
 |true=>show isTrue_and_nil e
 |false=>show e
def xo(b:jj X a kJ):oS X (.BoolOp .Or [a] pos) kJ:=by
 intro d pins s σ H Q J h;show isTrue_or<|bp (b pins s σ H Q J h) λc aj e=>?_;cases c with
 |false=>show isTrue_or_nil e
 |true=>show e
def B'(f:jj X a kJ)(g:oS X (.BoolOp .And (b::rest) pos) wX):oS X (.BoolOp .And (a::b::rest) pos) (VH kJ wX):=by
 intro i pins s σ H Q J h;show isTrue_and<|bp (f pins s σ H _ J h) λc aj {an,d,(e)}=>?_;cases c with
 |true=>show g i pins aj σ an Q d e
 |false=>show{an,d,(e)}
def t7(f:jj X a kJ)(g:oS X (.BoolOp .Or (b::rest) pos) wX):oS X (.BoolOp .Or (a::b::rest) pos) (Vk kJ wX):=by
 intro i pins s σ H Q J h;show isTrue_or<|bp (f pins s σ H _ J h) λc aj {an,d,(e)}=>?_;cases c with
 |true=>show{an,d,(e)}
 |false=>show g i pins aj σ an Q d e
def lu(b:jj X a kJ):jj X (.UnaryOp .Not a pos) (Vm kJ):=by intro pins s σ H Q J h;show isTrue_not<|bp (b pins s σ H (λc an=>Q (!c) an) J h) λ_ _ {U,J,(q)}=>{U,J,(q)}
inductive qyVG(cj:bD)(σ:St)(Q:dR)(x:ab)(an:aP):Prop|mk(c)(_:x= .a1 c)(_:if c=aa then cj σ an Q else Q (.a1 ap) an)
def VG(bc cj:bD):(bD):=λσ H Q=>bc σ H λx an=>qyVG cj σ Q x an
inductive qyVj(cj:bD)(σ:St)(Q:dR)(x:ab)(an:aP):Prop|mk(c)(_:x= .a1 c)(_:if c=aa then Q (.a1 aa) an else cj σ an Q)
def Vj(bc cj:bD):(bD):=λσ H Q=>bc σ H λx an=>qyVj cj σ Q x an
def jB(h:aX X a t):aX X (.BoolOp op [a] pos) t:=λpins s σ H Q J ax=>BoolOp_one<|h pins s σ H Q J ax
def ke(f:aX X a bc)(g:aX X (.BoolOp .And (b::rest) pos) cj):aX X (.BoolOp .And (a::b::rest) pos) (VG bc cj):=by
 intro pins s σ H Q J h;show BoolOp_and<|bp (f pins s σ H _ J h) λv aj {x,an,e,i,(d)}=>?_;let{c,rfl,(d)}:=d;cases i;show m3 ?_;cases c with
 |true=>show g pins aj σ an Q e d
 |false=>show{.a1 ap,an,e,D,d}
def xr(f:aX X a bc)(g:aX X (.BoolOp .Or (b::rest) pos) cj):aX X (.BoolOp .Or (a::b::rest) pos) (Vj bc cj):=by
 intro pins s σ H Q J h;show BoolOp_or<|bp (f pins s σ H _ J h) λv aj {x,an,e,i,(d)}=>?_;let{c,rfl,(d)}:=d;cases i;show m3 ?_;cases c with
 |false=>show g pins aj σ an Q e d
 |true=>show{.a1 aa,an,e,D,d}
def mu(t:gA)(bc cj:bD):(bD):=λσ H Q=>t σ H λc an=>if c=aa then bc σ an Q else cj σ an Q
def rH(j:jj X c kJ)(g:aX X a bc)(i:aX X b cj):aX X (.IfExp c a b pos) (mu kJ bc cj):=by
 intro pins s σ H Q J h;show wpAny_IfExp<|bp (j pins s σ H _ J h) λd aj {an,e,(f)}=>?_;cases d with
 |true=>show g pins aj σ an Q e f
 |false=>show i pins aj σ an Q e f
end
def aB(K:b9) H a xs:=
 gX H a (.ai xs)\/
  ∃(o:Obj) (aW:Array az) (n:Nat),K.lookup a=I o/\o.cls= .type "list"/\o.dict=ag/\o.data= .seq aW n/\aW.size<=bg/\bF xs aW.toList
def d1(K:b9) H a xs:=
 gX H a (.aZ xs)\/
  ∃(o:Obj) (aW:Array az) (n:Nat),K.lookup a=I o/\o.cls= .type "tuple"/\o.data= .seq aW n/\aW.size<=bg/\bF xs aW.toList
def ai8:(az->Option ab)
 |.none=>I .bT
 |.bool b=>I<|.a1 b
 |.int i _=>I<|.int i
 |.str x _=>I<|.str x
 |.bytes b _=>I<|.iq b
 |.float b _=>I<|.uW b
 |.ref a=>I<|.ref a
 |.type n=>I<|.dz n
 |_=>ag
def cb.P1(r:cb x u):ai8 u=I x:=by
 cases x with
 |bT=>cases r;rfl
 |a1 _=>cases r;rfl
 |int _=>let{t,(rfl)}:=r;rfl
 |str _=>let{t,(rfl)}:=r;rfl
 |iq _=>let{t,(rfl)}:=r;rfl
 |uW _=>let{t,(rfl)}:=r;rfl
 |ref _=>cases r;rfl
 |dz _=>cases r;rfl
def cb.inj(r:cb x u)(q:cb y u):x=y:=d3<|r.P1.symm.trans q.P1
def bF.inj:∀{xs ys:List ab} {ay:List az},bF xs ay->bF ys ay->xs=ys
 |_,_,_,.nil,.nil=>rfl
 |_,_,_,.cons r t,.cons q t'=>by rw[r.inj q,bF.inj t t']
section
variable{X:bO}{pins:List (ao×Obj)}{σ:St}{H:aP}{s:bb}{a:ao}{xs ys:List ab}
def aB.of{K:b9}(h:H a=I (.ai xs)):aB K H a xs:=.inl<|.inl h
def d1.of{K:b9}(h:H a=I (.aZ xs)):d1 K H a xs:=.inl<|.inl h
def aC.list(J:aC X pins σ H s)(h:aB X.K H a xs):∃aW:List az,bF xs aW/\PlainL s.heap a aW.toArray/\↥xs<=bg:=by
 obtain h|⟨o,aW,n,c,b,af,d,hz,r⟩:=h
 .let{z,aW,n,r,(e)}:=h.ok J.a0
  show{aW,r,{_,n,e,D,D,D},z}
 .show{aW.toList,r,{o,n,J.e5 a o c,b,af,‹d›},?_};have e:=↥r;simp only[n0]at e;omega
def aC.tuple(J:aC X pins σ H s)(h:d1 X.K H a xs):∃aW:List az,bF xs aW/\IsTup s.heap a aW.toArray/\↥xs<=bg:=by
 obtain h|⟨o,aW,n,c,b,d,hz,r⟩:=h
 .let{z,aW,r,(p)}:=h.ok J.a0
  show{aW,r,p,(z)}
 .show{aW.toList,r,{o,J.e5 a o c,b,n,‹d›},?_};have e:=↥r;simp only[n0]at e;omega
def aC.rY(J:aC X pins σ H s)(h:aB X.K H a xs)(h':aB X.K H a ys):xs=ys:=by
 let{aW,r,{o,n,e,_,_,d},_}:=J.list h
 let{g,f,{bX,i,b,_,_,fD},_}:=J.list h'
 rw[e]at b;cases b;rw[d]at fD;injection fD with c _
 have:=‹gC TS c›
 subst this;show r.inj f
end
section
variable{X:bO}{pins:List (ao×Obj)}{σ:St}{H:aP}{s:bb}{E:az->bb->Prop}
end
section
variable{X:bO}{st:hG}{rest:List hG}{t u:fq}{e:Expr}{bW:bD}{pos:Pos}
def Vo:(fq):=λaq σ H=>aq.b1 σ H
def Vg(t u:fq):(fq):=λaq σ H=>t {aq with b1:=u aq} σ H
inductive qzB(X:bO)(b:List hG)(q:m1)(σ:St)(H:aP):Prop|mk(t:fq)(_:jQ X b t)(_:t q σ H)
def dJ:jQ X [] Vo:=λ_ _ σ H _ J h=>vN {σ,H,J,(h)}
def aT(O:hh X st t)(Y:jQ X rest u):jQ X (st::rest) (Vg t u):=by
 intro pins s σ H aq J h;show Rm<|bp (O pins s σ H {aq with b1:=u aq} J h) λf aj q=>?_;cases f with
 |next=>
  let{b,U,a,(q)}:=q
  show Y pins aj b U aq a q
 |ret v=>show q
 |brk=>show q
 |cont=>show q
def aV(O:hh X st t):jQ X [st] t:=by
 intro pins s σ H aq J h;show Rm<|bp (O pins s σ H aq J h) λf aj q=>?_;cases f with
 |next=>show vN q
 |ret v=>show q
 |brk=>show q
 |cont=>show q
def aC.quiet{σ:St}(J:aC X pins σ H s):interactive X.am=ap:=by simp[interactive,J.ok.kind]
def Vx(bW:bD):(fq):=λaq σ H=>bW σ H λ_ an=>aq.b1 σ an
def dm(b:aX X e bW)(c:nM e ag pos.line X.am=pure ap<|>zzr):hh X (.Expr e pos) (Vx bW):=by intro pins s σ H aq J h;show wpAny_Expr_any (bp (b pins s σ H _ J h) λv aj {x,an,a,f,(d)}=>{σ,an,a,(d)}) J.quiet c
def Vh(bW:bD):(fq):=λaq σ H=>bW σ H aq.kM
def bm(b:aX X e bW):hh X (.Return (I e) pos) (Vh bW):=by intro pins s σ H aq J h;show wpAny_Return_some<|bp (b pins s σ H _ J h) λv aj {x,an,a,d,(c)}=>{x,σ,an,a,d,(c)}
def Vu(c:gA)(t u:fq):(fq):=λaq σ H=>c σ H λb an=>if b=aa then t aq σ an else u aq σ an
def dA(j:jj X c ln)(g:jQ X a t)(i:jQ X b u):hh X (.If c a b pos) (Vu ln t u):=by
 intro pins s σ H aq J h;show wpAny_If<|bp (j pins s σ H _ J h) λd aj {an,e,(f)}=>?_;cases d with
 |true=>show g pins aj σ an aq e f
 |false=>show i pins aj σ an aq e f
end
abbrev iN:=ab->St->aP->(St->aP->Prop)->Prop
abbrev vn:=List ab->St->aP->(St->aP->Prop)->Prop
def oT X target(t:iN):=
 ∀pins s (σ:St) H v u Q,aC X pins σ H s->cb v u->t v σ H Q->
  aR (aU X.prog X.w) X.A (assign target X.am u) (λ_ s'=>∃a U,aC X pins a U s'/\Q a U) X.cT s
def vw X q(t:vn):=
 ∀pins s (σ:St) H vs ay Q,aC X pins σ H s->bF vs ay->t vs σ H Q->
  aR (aU X.prog X.w) X.A (assignInOrder ((qV q X.am).map (·.2)) ay) (λ_ s'=>∃a U,aC X pins a U s'/\Q a U) X.cT s
abbrev Qp:=ab->ab->aP->dR->Prop
def ajj X op(t:Qp):=
 ∀pins s (σ:St) H x y v u Q,aC X pins σ H s->cb x v->cb y u->t x y H Q->
  aR (aU X.prog X.w) X.A (inplaceOp op v u) (f8 X pins σ Q) X.cT s
section
variable{X:bO}{pos:Pos}
def ya(i:Nat):(iN):=λv σ H Q=>Q (σ.set i<|I v) H
def c3(b:X.N.Nodup)(au:X.N[i]? =I x)(d:sv X.am.scope x)(c:X.a8 x=aa\/X.am.scope.names.lookup x=I .local <|>zzf):oT X (.Name x pos) (ya i):=by intro pins s σ H v u Q J r h;show Rn<|w0 J b au d r (λs' a=>{_,H,a,h}) c
def adT:(vn):=λvs σ H Q=>vs=[]/\Q σ H
inductive adU(t:iN)(u:vn)(vs:List ab)(σ:St)(H:aP)(Q:St->aP->Prop):Prop|mk(v r)(_:vs=v::r)(_:t v σ H λa U=>u r a U Q)
def rF:vw X [] adT:=by intro pins s σ H vs ay Q J r h;let{e,(h)}:=h;subst e;show assignInOrder_nil {σ,H,J,(h)}
def kT(O:oT X e t)(Y:vw X es u)
  (c:(qV (e::es) X.am).map (·.2)=assign e X.am::(qV es X.am).map (·.2)<|>zzr):vw X (e::es) (adU t u):=by
 intro pins s σ H vs ay Q J r h;let{v,i,b,(h)}:=h;subst b;cases r with
 |cons r f=>show c▸assignInOrder_cons (bp (O pins s σ H _ _ _ J r h) λ_ aj {g,an,a,(d)}=>Y pins aj g an _ _ Q a f d)
inductive N1(K:b9)(n:Nat)(t:vn)(v:ab)(σ:St)(H:aP)(Q:St->aP->Prop):Prop|mk(a xs)(_:v= .ref a)(_:d1 K H a xs)(_:ac xs=n)(_:t xs σ H Q)
def ug{k:Nat}(f:X.hf=aa)(h:vw X es t)
  (i:↥(qV es X.am)=n<|>zzr) (l:(qV es X.am).findIdx? (·.1)=ag<|>zzr):oT X (.Tuple es k pos) (N1 X.K n t):=by
 intro pins s σ H v u Q J r ax;let{a,xs,d,j,g,(ax)}:=ax;subst d;cases r
 let{aW,q,m,(hz)}:=J.tuple j
 show assign_Tuple_tuple (J.ok.af f) m (by simp[i,<-g,↥q]) l λh' p=>?_;have c:=J.fc (t':=s.toks) λb o e=>p b o (du<|cm e) e;show h pins _ σ H xs _ Q c ∅ ax
def A5(bW:bD)(g:iN):(fq):=λaq σ H=>bW σ H λx an=>g x σ an aq.b1
def xp(c:X.N.Nodup)(au:X.N[i]? =I x)(j:sv X.am.scope x)(d:aX X e bW)(g:(nM e (I<|.Name x pos') pos.line X.am=pure ap)<|>zzr)(f:X.a8 x=aa\/X.am.scope.names.lookup x=I .local <|>zzf):
  hh X (.Assign [.Name x pos'] e pos) (A5 bW<|ya i):=by
 intro pins s σ H aq J h;show wpAny_Assign_Name (bp (d pins s σ H _ J h) λv aj {y,an,a,l,(k)}=>w0 a c au j l (λaA b=>{_,an,b,k}) f) g
def VF(i:Nat)(bW:bD)(mr:Qp):(fq):=λaq σ H=>HL i σ H λx _=>bW σ H λy an=>mr x y an λz aw=>aq.b1 (σ.set i<|I z) aw
def kQ(n:X.N.Nodup)(au:X.N[i]? =I x)(b:sv X.am.scope x)(q:aX X e bW)(E:ajj X op mr)(t:X.a8 x=aa\/X.am.scope.names.lookup x=I .local <|>zzf):
  hh X (.AugAssign (.Name x pos') op e pos) (VF i bW mr):=by
 intro pins s σ H aq J h
 let{v,j,(h)}:=HLe h
 let{m,D,(B)}:=J.fC
 have P:sn X.am.scope x:=by obtain k|k:=b;show .inl k;show .inr<|.inl k
 let{u,r,(l)}:=B i x v au j P
 show wpAny_AugAssign_Name ?_;have go:aR (aU X.prog X.w) X.A (eval e X.am) (λw M=>aR (aU X.prog X.w) X.A (inplaceOp op u w) (λr O=>aR (aU X.prog X.w) X.A (storeName X.am x r) (λ_=>so X pins aq .next) X.cT O) X.cT M) X.cT s:=bp (q pins s σ H _ J h) λw aj {y,an,d,K,(F)}=>bp (E pins aj σ an v y u w _ d r K F) λz aA {R,aw,f,L,(G)}=>w0 f n au b L (λQ g=>{_,aw,g,G}) t;obtain⟨a,C⟩|⟨a,c,o,p⟩:=l
 .show Rh J.ok.kind a D C go
 .obtain a|a:=a
  .show Ri J.ok.kind a o p go
  .obtain k|k:=b
   .have:X.am.scope.names.lookup x=I .free:=a;grind
   .have:X.am.scope.names.lookup x=I .free:=a;rw[k]at this;cases this
end
section
variable{X:bO}{pos:Pos}
def Va(c:gA)(cj:fq):(fq):=λaq σ H=>∃W:Nat->St->aP->Prop,(∃m,W m σ H)/\∀m σ H,W m σ H->
 c σ H λb an=>if b=aa then∃N:St->aP->Prop,(∀d U,N d U->∃a,a<m/\W a d U)/\cj {aq with b1:=N,e9:=N,hg:=aq.b1} σ an else aq.b1 σ an
def p1(r:PassesOwn (aU X.prog X.w) X.A X.am X.cT)(y:jj X c ln)(x:jQ X body cj):hh X (.While c body [] pos) (Va ln cj):=by
 intro pins s σ H aq J h
 let{W,{z,(B)},turn}:=h
 show wpAny_While<|codeAny_whileLoop (λn s'=>∃t U,aC X pins t U s'/\W n t U) ?_ z {σ,H,J,(B)};rintro n aj ⟨i,an,u,C⟩;show qH r<|bp (y pins aj i an _ u<|turn n i an C) λb aA {aw,p,(e)}=>?_;cases b with
 |true=>
  let{N,q,(e)}:=e
  show qH r<|bp (x pins aA i aw _ p e) λf D g=>?_;cases f with
  |next=>
   let{d,a,j,(m)}:=g
   let{l,k,(o)}:=q d a m
   show{l,k,d,a,j,(o)}
  |cont=>
   let{d,a,j,(m)}:=g
   let{l,k,(o)}:=q d a m
   show{l,k,d,a,j,(o)}
  |brk=>show g
  |ret v=>show g
 |false=>show vN {i,aw,p,(e)}
end
structure hY where
 go:Nat->aP->Prop
 j6:Nat->aP->ab->aP->Prop
 ib:Nat->aP->Prop
def gi(X:bO) pins(H:aP) b:=
 H b=ag/\b≠X.am.locals/\b∉X.aF/\(b∈X.bE\/X.gM⁻¹<=b)/\(∀x c,X.am.cells.lookup x=I c->c≠b)/\∀p∈X.gO++pins,p.1≠b
def aC.mL{σ:St}{b:ao}(J:aC X pins σ H s)(a:s⁻¹<=b)(d:U b=ag):gi X pins U b:=by
 show{d,ma<|dW J.lt a,J.ab1 a,.inr<|b5 J.iE a,λx c e z=>?_,λp f z=>?_}
 .let{v,(q)}:=J.cell x c e
  show absurd (dW q.lt<|z▸a) ()
 .show absurd (dW (cm (J.fM p f).1)<|by grind)<|kB _
structure km(P:bS)(w:bL)(K:b9)(dE:Expr)(ci:hY)(fp:List ao)(aQ:ao)(pP:Nat->bG->Prop):Prop where
 mem:aQ∈fp
 obj:∀i h,pP i h->∀b∈fp,∃o,h.get? b=I o/\∀v,o.data≠ .cell v
 keep:∀i h h',pP i h->(∀b∈fp,∀o,h.get? b=I o->h'.get? b=I o)->pP i h'
 item:∀(X:bO),X.prog=P->X.w=w->X.K=K->X.hf=aa->∀(i:Nat) (pins:List (ao×Obj)) (s:bb) (σ:St) (H:aP) (E:az->bb->Prop),aC X pins σ H s->(∀b∈fp,gi X pins H b)->pP i s.heap->ci.go i H->
  aR (aU P w) X.A (pyNext<|.ref aQ) (λr aj=>∃u,r=I u/\
   aR (aU P w) X.A (zy dE (.ref aQ) u) (λ_ aA=>∃x U,aC X pins σ U aA/\cb x u/\ci.j6 i H x U/\pP (i+1) aA.heap/\∀b∈fp,U b=ag) E aj) E s
 done:∀(X:bO),X.prog=P->X.w=w->X.K=K->X.hf=aa->∀(i:Nat) (pins:List (ao×Obj)) (s:bb) (σ:St) (H:aP) (E:az->bb->Prop),aC X pins σ H s->(∀b∈fp,gi X pins H b)->pP i s.heap->ci.ib i H->
  aR (aU P w) X.A (pyNext<|.ref aQ) (λr aj=>r=ag/\aC X pins σ H aj) E s
 self:∀(A:db) (i:Nat) (s:bb) (Q:az->bb->Prop) (E:az->bb->Prop),pP i s.heap->Q (.ref aQ) s->aR (aU P w) A (pyIter<|.ref aQ) Q E s
abbrev gV:=St->aP->(hY->aP->Prop)->Prop
def yV X pins(σ:St) dE(R:hY->aP->Prop)(c:az) aA:=
 ∃(aQ:ao) (fp:List ao) (a:Nat->bG->Prop) (ci:hY) (U:aP),c= .ref aQ/\aC X pins σ U aA/\km X.prog X.w X.K dE ci fp aQ a/\a 0 aA.heap/\(∀b∈fp,gi X pins U b)/\R ci U
def ko X dE iter(a:gV):=
 ∀pins s (σ:St) H R,aC X pins σ H s->a σ H R->
  aR (aU X.prog X.w) X.A (eval iter X.am) (λv aj=>aR (aU X.prog X.w) X.A (pyIter v) (yV X pins σ dE R) X.cT aj) X.cT s
def r6(c:s.heap.get? aQ=I o)(b:o.cls= .type n)(af:o.data= .fields vs)
  (d:["enumerate","zip","dict_itemiterator","dict_reverseitemiterator","odict_iterator","itertools.zip_longest","itertools.pairwise"].contains n=ap) (a:Q fr s):aR M A (zy dE (.ref aQ) u) Q E s:=by
 cases dE<;>first
  |show a7 a
  |(cases u<;>first
    |show a7 a
    |(show av<|wpAny_load c ?_
      rw[b,af];change aR M A (if(["enumerate","zip","dict_itemiterator","dict_reverseitemiterator","odict_iterator","itertools.zip_longest","itertools.pairwise"].contains n&&vs[0]? ==I (g4 _))=aa then _ else _) Q E s;rw[aD (by intro h;grind)];show a7 a))
def sA(K:b9)(a:ao):(hY):=
 {λi H=>∃xs x,aB K H a xs/\xs[i]? =I x,λi H x U=>U=H/\∀xs,aB K H a xs->xs[i]? =I x,λi H=>∃xs,aB K H a xs/\ac xs<=i}
def sz(lo:Int)(n:Nat):(hY):={λi _=>i<n,λi H x U=>U=H/\x= .int (lo+i),λi _=>n<=i}
def UH{K:b9} a aQ:km P w K dE (sA K a) [aQ] aQ (λi h=>h.IsListIter aQ a i) where
 mem:=by simp
 obj:=λi h st b f=>by
  have e:b=aQ:=‹f›
  subst e
  let{o,e,c,(d)}:=st
  show{o,e,λv z=>by rw[d]at z;cases z}
 keep:=λi h h' st k=>st.at λo e=>k aQ () o e
 item:=by
  intro X t ax r C i pins s σ H E J g st y;subst t ax r
  let{xs,x,j,(A)}:=y
  let{aW,B,p,(hz)}:=J.list j
  let{u,M,(O)}:=B.get A
  let{l,f1,f2,m,n,(q)}:=g aQ ()
  show wpAny_pyNext_list_item st p.isList (x:=u) ‹M› λh' F c9=>?_;have G:=J.h9 (t':=s.toks) (λb o f e=>(c9.2 b f).trans e) l f1 m n q
  let{o,e,c,(d)}:=id F
  show{u,D,r6 e c d ⋯ {x,H,G,O,{D,λys N=>by rw[J.rY N j];show A},F,λb f=>(g b f).1}}
 done:=by
  intro X t ax r C i pins s σ H E J g st y;subst t ax r
  let{xs,j,(A)}:=y
  let{aW,B,p,(hz)}:=J.list j
  let{l,f1,f2,m,n,(q)}:=g aQ ()
  have Q:=↥B;show wpAny_pyNext_list_end (J.ok.af C) st p.isList (by simp;omega) λh' L=>{D,J.h9 (t':=s.toks) (λb o f e=>L b o f e) l f1 m n q}
 self:=λ_ _ _ _ _ st h=>wpAny_pyIter_listiter st h
def UG{K:b9} aQ lo n:km P w K dE (sz lo n) [aQ] aQ (λi h=>IsRangeIter h aQ (lo+i*1) (n-i) 1) where
 mem:=by simp
 obj:=λi h st b a=>by
  have e:=‹a›
  subst e;show{_,st,λv z=>by have B:=z;cases B}
 keep:=λi h h' st k=>k aQ () _ st
 item:=by
  intro X q ax p l i pins s σ H E J c st m;subst q ax p
  let{d,f1,f2,f,g,(j)}:=c aQ ()
  have W:=Walks.range (prog:=X.prog) (w:=X.w) (J.ok.af l) aQ lo 1 n;show W.item i s _ _ m st λv h' tk y r A=>?_;let{t,(rfl)}:=y;have u:aC X pins σ H {s with heap:=h',toks:=tk}:=J.h9 (λb o a e=>A b o ‹a› e) d f1 f g j;show{_,D,r6 (s:={s with heap:=h',toks:=tk}) r D D ⋯ {.int<|lo+i,H,u,{t,?_},{D,(rfl)},r,λb a=>(c b a).1}};rw[Int.mul_one]
 done:=by
  intro X q ax p l i pins s σ H E J c st m
  let{d,f1,f2,f,g,(j)}:=c aQ ()
  show wpAny_pyNext_range_end (J.ok.af l) st (by have:n<=i:=m;omega) λh' x=>{D,J.h9 (λb o a e=>x b o a e) d f1 f g j}
 self:=λ_ _ _ _ _ st h=>wpAny_pyIter_rangeiter st h
section
variable{X:bO}{dE:Expr}
inductive qyadu(K:b9)(R:hY->aP->Prop)(x:ab)(an:aP):Prop|mk(a)(_:x= .ref a)(_:(∃xs,aB K an a xs))(_:R (sA K a) an)
def adu(K:b9)(bV:bD):(gV):=λσ H R=>bV σ H λx an=>qyadu K R x an
def fN(f:aX X l bV):ko X dE l (adu X.K bV):=by
 intro pins s σ H R J h;show bp (f pins s σ H _ J h) λv aj {x,an,c,j,(i)}=>?_
 let{a,e,{xs,(g)},q}:=i
 subst e;cases j
 let{aW,k,p,(hz)}:=c.list g
 show zg p.isList<|{aj⁻¹,[aj⁻¹],_,_,an,D,c.fc λb o e=>cB _ e,UH a _,{_,dC _ D,D,D},λb d=>?_,q};have e:=‹d›
 subst e;show c.mL (bA _)<|c.a0.fresh<|bA _
def Zk{σ:St}{lo:Int}(J:aC X pins σ H s)(O: -(2^62)<=lo)(Y:lo<2^62)(f: -(2^62)<=au)(g:au<2^62)
  (q:R (sz lo (au-lo).toNat) H):aR (aU X.prog X.w) X.A (pyIter<|.ref s⁻¹) (yV X pins σ dE R) E {s with heap:=s.heap.push {cls:=.type "range",data:=.fields #[.int lo t,.int au u,.int 1 v]},toks:=tk}:=by
 show wpAny_pyIter_range (IsRange.new ..) (small_one O Y f g) ?_;have a:aC X pins σ H {s with heap:=s.heap.push {cls:=.type "range",data:=.fields #[.int lo t,.int au u,.int 1 v]},toks:=tk}:=J.fc λb o e=>cB _ e;show{(s.heap.push {cls:=.type "range",data:=.fields #[.int lo t,.int au u,.int 1 v]}).objs.size,[(s.heap.push {cls:=.type "range",data:=.fields #[.int lo t,.int au u,.int 1 v]}).objs.size],_,_,H,D,
  a.fc λb o e=>cB _ e,UG _ lo (au-lo).toNat,?_,λb h=>?_,q}
 .have c:lo+((0:Nat):Int)*1=lo:=by simp
  have d:(au-lo).toNat-((0:Nat):Int)=Builtin.Range.rangeSize lo au 1:=by rw[rangeSize_one];omega
  rw[c,d];show dC _ D
 .have e:b=(s.heap.push {cls:=.type "range",data:=.fields #[.int lo t,.int au u,.int 1 v]}).objs.size:=‹h›
  subst e;show a.mL (bA _)<|a.a0.fresh<|bA _
inductive qyads(R:hY->aP->Prop)(vs:List ab)(an:aP):Prop|mk(j:Int)(_:vs=[.int j])(_: -(2^62)<=j)(_:j<2^62)(_:R (sz 0 j.toNat) an)
def ads(bc:fF):(gV):=λσ H R=>bc σ H λvs an=>qyads R vs an
def ue(f:ea X "range")(g:X.mg "range"=ag)(d:d2 X [a] bc)(i:bj [a] X.am=[(ap,eval a X.am)]<|>zzr):ko X dE (.Call (.Name "range" p) [a] [] pos) (ads bc):=by
 intro pins s σ H R J h;show Call_<|mF J f g boot_range<|q1 (bp (d pos pins s σ H _ J h) λay aj {vs,an,c,l,(b)}=>?_) i D;let{j,e,b,k,(q)}:=b;subst e;cases l with
 |cons r m=>cases m;let{t,(rfl)}:=r;show call_range_1 (Zk c ∅ ∅ b k<|‹q›)
def Vw(c:gV)(g:iN)(cj:fq):(fq):=λaq σ H=>c σ H λci an=>∃W:Nat->Nat->St->aP->Prop,(∃m,W 0 m σ an)/\∀i m σ H,W i m σ H->
 (ci.ib i H/\aq.b1 σ H)\/(ci.go i H/\∃N:St->aP->Prop,(∀b U,N b U->∃a,a<m/\W (i+1) a b U)/\∀x U,ci.j6 i H x U->g x σ U λd aw=>cj {aq with b1:=N,e9:=N,hg:=aq.b1} d aw)
def ud(fp:List ao)(h:bG):=fp.filterMap λb=>(h.get? b).map λo=>(b,o)
def uA(a:b∈fp)(e:h.get? b=I o):(b,o)∈ud fp h:=q7.mpr {b,a,by rw[e];rfl}
def abQ(d:p∈ud fp h):p.1∈fp/\h.get? p.1=I p.2:=by
 let{b,c,(e)}:=q7.mp d
 cases q:h.get? b with
 |none=>rw[q]at e;cases e
 |some o=>rw[q]at e;have a:=d3 e;subst a;show{c,(q)}
def aC.Cg{σ:St}(J:aC X pins σ H s)(g:∀b∈fp,gi X pins H b)(h:∀b∈fp,∃o,s.heap.get? b=I o/\∀v,o.data≠ .cell v):aC X (pins++ud fp s.heap) σ H s:=
 J.Lh λp i=>(cN.mp i).elim (λz=>J.fM p<|j3 _ z) λz=>by
  let{c,(e)}:=abQ z
  let{f,f1,f2,_}:=g p.1 c
  let{o,a,(d)}:=h p.1 c
  rw[e]at a;cases a;show{e,f,f1,f2,(d)}
def aC.tI{σ:St}(J:aC X (pins++q) σ H s):aC X pins σ H s:=J.Lh λp a=>J.fM p<|j3 _<|la _ a
def i3(p:PassesOwn (aU X.prog X.w) X.A X.am X.cT)(M:X.hf=aa)(au:ko X dE iter b7)(al:oT X dE g)(j:jQ X body cj)
  (as:(∀x,zB iter X.am x=pure x)<|>zzi):hh X (.For dE iter body [] pos) (Vw b7 g cj):=by
 intro pins s σ H aq J h;show wpAny_For (bp (au pins s σ H _ J h) λv aj O=>bp O λaO aA Y=>?_) as
 let{aQ,fp,S,ci,aw,e,Z,T,aI,f2,W,{ax,(aJ)},turn}:=Y
 subst e;have F:∀{U:aP},(∀b∈fp,U b=ag)->∀b∈fp,gi X pins U b:=λar b j=>{ar b j,(f2 b j).2};show codeAny_forLoop_any (λn s'=>∃i t U,aC X pins t U s'/\S i s'.heap/\(∀b∈fp,U b=ag)/\W i n t U) ?_ ax {0,σ,aw,Z,aI,λb j=>(f2 b j).1,aJ};rintro n P ⟨i,y,z,K,R,L,aK⟩;obtain⟨ib,aB⟩|⟨go,N,ak,step⟩:=turn i n y z aK
 .show qH p<|bp (T.done X D D D M i pins P y z X.cT K (F L) R ib) λr aG {B,(ab)}=>?_;subst B;show vN {y,z,ab,(aB)}
 .show qH p<|bp (T.item X D D D M i pins P y z X.cT K (F L) R go) λr aG {u,B,(ai)}=>?_;subst B;show qH p<|bp ai λ_ Q {x,G,ad,aD,aM,E,(ah)}=>?_;have ae:=ad.Cg (F ah)<|T.obj _ _ E;show qH p<|bp (al _ Q y G x u _ ae aD<|step x G aM) λ_ aH {aN,V,af,(ay)}=>qH p<|bp (j _ aH aN V _ af ay) λf C l=>?_;have again:∀{k:St} {a:aP},aC X (pins++ud fp Q.heap) k a C->N k a->∃m,m<n/\∃i t U,aC X pins t U C/\S i C.heap/\(∀b∈fp,U b=ag)/\W i m t U:=λ{k a} c q=>by
   let{av,an,(aL)}:=ak k a q
   show{av,an,i+1,k,a,c.tI,T.keep _ _ _ E λb j o e=>(c.fM (b,o)<|j3 _<|j3 _<|uA j e).1,λb j=>?_,aL}
   let{o,e,(d)}:=T.obj _ _ E b j
   show(c.fM (b,o)<|j3 _<|j3 _<|uA j e).2.1
  cases f with
  |next=>let{k,a,c,(q)}:=l;show again c q
  |cont=>let{k,a,c,(q)}:=l;show again c q
  |brk=>let{k,a,c,(l)}:=l;show{k,a,c.tI,(l)}
  |ret v=>let{g',k,a,c,aF,(l)}:=l;show{g',k,a,c.tI,aF,(l)}
end
def r9{K:b9}{g:iN}{cj:fq}{aq:m1}(b:Nat->St->aP->Prop)(j:b 0 σ H)(k:∀i σ H,i<=ac xs->b i σ H->aB K H a xs)
  (n:∀i x σ H,xs[i]? =I x->b i σ H->g x σ H λd aw=>cj {aq with b1:=b<|i+1,e9:=b<|i+1,hg:=aq.b1} d aw) (af:∀σ H,b ↥xs σ H->aq.b1 σ H):
  ∃W:Nat->Nat->St->aP->Prop,(∃m,W 0 m σ H)/\∀i m σ H,W i m σ H->
   ((sA K a).ib i H/\aq.b1 σ H)\/((sA K a).go i H/\∃N:St->aP->Prop,(∀c U,N c U->∃h,h<m/\W (i+1) h c U)/\∀x U,(sA K a).j6 i H x U->g x σ U λd aw=>cj {aq with b1:=N,e9:=N,hg:=aq.b1} d aw):=by
 show{λi m σ H=>m=ac xs-i/\i<=ac xs/\b i σ H,{↥xs,(),cI _,j},?_};rintro i m σ H ⟨rfl,au,p⟩;have q:=k i σ H au p;by_cases f:i<ac xs
 .show .inr {{xs,xs[i],q,by simp[f]},b<|i+1,λc U l=>{ac xs-(i+1),∅,D,f,l},λx U y=>?_}
  let{e,(y)}:=y
  subst e;grind
 .have e:i=ac xs:=by omega
  subst e;show .inl {{xs,q,bA _},af σ H p}
def adY{lo:Int}{g:iN}{cj:fq}{aq:m1}(a:Nat->St->aP->Prop)(h:a 0 σ H)
  (k:∀i σ H,i<n->a i σ H->g (.int<|lo+i) σ H λc aw=>cj {aq with b1:=a<|i+1,e9:=a<|i+1,hg:=aq.b1} c aw) (af:∀σ H,a n σ H->aq.b1 σ H):
  ∃W:Nat->Nat->St->aP->Prop,(∃m,W 0 m σ H)/\∀i m σ H,W i m σ H->
   ((sz lo n).ib i H/\aq.b1 σ H)\/((sz lo n).go i H/\∃N:St->aP->Prop,(∀b U,N b U->∃f,f<m/\W (i+1) f b U)/\∀x U,(sz lo n).j6 i H x U->g x σ U λc aw=>cj {aq with b1:=N,e9:=N,hg:=aq.b1} c aw):=by
 show{λi m σ H=>m=n-i/\i<=n/\a i σ H,{n,(),cI _,h},?_};rintro i m σ H ⟨rfl,au,p⟩;by_cases d:i<n
 .show .inr {d,a<|i+1,λb U j=>{n-(i+1),∅,D,d,j},λx U y=>?_}
  let{e,(y)}:=y
  grind
 .have e:i=n:=by omega
  subst e;show .inl {bA _,af σ H p}
abbrev it:=ab->ab->aP->dR->Prop
def eE X(f:az->az->Sem az)(r:it):=
 ∀pins s (σ:St) H x y v u Q,aC X pins σ H s->cb x v->cb y u->r x y H Q->
  aR (aU X.prog X.w) X.A (f v u) (f8 X pins σ Q) X.cT s
def EW X(f:az->Sem az)(r:ab->aP->dR->Prop):=
 ∀pins s (σ:St) H x v Q,aC X pins σ H s->cb x v->r x H Q->
  aR (aU X.prog X.w) X.A (f v) (f8 X pins σ Q) X.cT s
def fz X f(r:List ab->aP->dR->Prop):=
 ∀pins s (σ:St) H xs ay Q,aC X pins σ H s->bF xs ay->r xs H Q->
  aR (aU X.prog X.w) X.A (call f ay) (f8 X pins σ Q) X.cT s
def wT(r:it)(bc cj:bD):(bD):=λσ H Q=>bc σ H λx an=>cj σ an λy aw=>r x y aw Q
def Vb(r:ab->aP->dR->Prop)(bc:bD):(bD):=λσ H Q=>bc σ H λx an=>r x an Q
inductive rC(C:Int->Int->Prop)(g:Int->Int->ab)(x:ab)(y:ab)(H:aP)(Q:dR):Prop|mk(i j)(_:x= .int i)(_:y= .int j)(_:C i j)(_:Q (g i j) H)
inductive kc(g:Int->Int->ab)(x:ab)(y:ab)(H:aP)(Q:dR):Prop|mk(i j)(_:x= .int i)(_:y= .int j)(_:Q (g i j) H)
inductive KP(g:Int->ab)(x:ab)(H:aP)(Q:dR):Prop|mk(i)(_:x= .int i)(_:Q (g i) H)
section
variable{X:bO}{a b c:Expr}{bc cj ln:bD}{pos:Pos}
def Et(e:aX X a bc)(g:aX X b cj){σ:St}{R:ab->ab->aP->Prop}(J:aC X pins σ H s)
  (h:bc σ H λx an=>cj σ an λy aw=>R x y aw) {f:az->az->Sem az}
  (i:∀v u aA x y aw,aC X pins σ aw aA->cb x v->cb y u->R x y aw->aR (aU X.prog X.w) X.A (f v u) Q X.cT aA):
  aR (aU X.prog X.w) X.A (eval a X.am) (λv n=>aR (aU X.prog X.w) X.A (eval b X.am) (λu o=>aR (aU X.prog X.w) X.A (f v u) Q X.cT o) X.cT n) X.cT s:=bp (e pins s σ H _ J h) λv aj {x,an,c,l,(j)}=>bp (g pins aj σ an _ c j) λu aA {y,aw,d,m,(k)}=>i v u aA x y aw d l m k
def eA(f:eE X (binaryOp op) r)(d:aX X a bc)(e:aX X b cj):aX X (.BinOp a op b pos) (wT r bc cj):=by intro pins s σ H Q J h;show wpAny_BinOp<|Et d e J h λv u aA x y aw c g i q=>f pins aA σ aw x y v u Q c g i q
def lv(d:EW X (unaryOp op) r)(c:aX X a bc):aX X (.UnaryOp op a pos) (Vb r bc):=by intro pins s σ H Q J h;show UnaryOp_<|bp (c pins s σ H _ J h) λv aj {x,an,b,f,(e)}=>d pins aj σ an x v Q b f e
def ut{g:Int->Int->Int}
  (jo:∀i j t u s Q E,C i j->Q (.int (g i j) s.toks) {s with toks:=s.toks+1}->aR (aU X.prog X.w) X.A (f (.int i t)<|.int j u) Q E s):
  eE X f (rC C λi j=>.int<|g i j):=by
 intro pins s σ H x y v u Q J b c h;let{i,j,rfl,rfl,a,(q)}:=h;let{t,(rfl)}:=b;let{t',(rfl)}:=c;show jo i j t t' s _ _ a {.int<|g i j,H,J.eL _,{_,D},q}
def xE{g:Int->Int->Int}
  (jo:∀i j t u s Q E,Q (.int (g i j) s.toks) {s with toks:=s.toks+1}->aR (aU X.prog X.w) X.A (f (.int i t)<|.int j u) Q E s):
  eE X f (kc λi j=>.int<|g i j):=by
 intro pins s σ H x y v u Q J a b h;let{i,j,rfl,rfl,(q)}:=h;let{t,(rfl)}:=a;let{t',(rfl)}:=b;show jo i j t t' s _ _ {.int<|g i j,H,J.eL _,{_,D},q}
def xF{g:Int->Int->Bool}
  (jo:∀i j t u s Q E,Q (.bool<|g i j) s->aR (aU X.prog X.w) X.A (f (.int i t)<|.int j u) Q E s):
  eE X f (kc λi j=>.a1<|g i j):=by
 intro pins s σ H x y v u Q J a b h;let{i,j,rfl,rfl,(q)}:=h;let{t,(rfl)}:=a;let{t',(rfl)}:=b;show jo i j t t' s _ _ {.a1<|g i j,H,J,D,q}
def Q9(i j:Int):=0<j/\j<1073741824
def zd i j:=(-(2^64)<i/\i<2^64)\/(-(2^64)<j/\j<2^64)
def zd.ok(h:zd i j):IntMulOk i j:=by
 obtain⟨O,Y⟩|⟨O,Y⟩:=h
 .show .of_left<|RA O Y
 .show .of_right<|RA O Y
def mB:eE X (binaryOp .Add) (kc λi j=>.int<|i+j):=xE λ_ _ _ _ _ _ _ q=>add_int q
def Cx:eE X (binaryOp .Sub) (kc λi j=>.int<|i-j):=xE λ_ _ _ _ _ _ _ q=>sub_int q
def LO:eE X (binaryOp .Mult) (rC zd λi j=>.int<|i*j):=ut λ_ _ _ _ _ _ _ a q=>mul_int q a.ok
def aav:eE X (binaryOp .FloorDiv) (rC Q9 λi j=>.int<|i/j):=ut λi j _ _ _ _ _ a q=>by have O:=a.1;have Y:=a.2;show floordiv_int ∅ (by rw[Int.fdiv_eq_ediv_of_nonneg i ∅];show q)<|.inl<|Sm ∅
def LP:eE X (binaryOp .Mod) (rC (λ_ j=>0<j) λi j=>.int<|i%j):=ut λi j _ _ _ _ _ a q=>mod_int' ∅ (by grind)
def Ds:eE X (inplaceOp .Add) (kc λi j=>.int<|i+j):=xE λ_ _ _ _ _ _ _ q=>iadd_int q
def uN:eE X (inplaceOp .Sub) (kc λi j=>.int<|i-j):=xE λ_ _ _ _ _ _ _ q=>isub_int q
def NK:eE X (inplaceOp .Mult) (rC zd λi j=>.int<|i*j):=ut λ_ _ _ _ _ _ _ a q=>imul_int q a.ok
def NL:eE X (inplaceOp .FloorDiv) (rC Q9 λi j=>.int<|i/j):=ut λi j _ _ _ _ _ a q=>by have O:=a.1;have Y:j<1073741824:=a.2;show ifloordiv_int ∅ (by grind)<|.inl<|Sm ∅
def Uy{g:Int->Int}
  (jo:∀i t s Q E,Q (.int (g i) s.toks) {s with toks:=s.toks+1}->aR (aU X.prog X.w) X.A (f<|.int i t) Q E s):
  EW X f (KP λi=>.int<|g i):=by
 intro pins s σ H x v Q J a h;let{i,rfl,(q)}:=h;let{t,(rfl)}:=a;show jo i t s _ _ {.int<|g i,H,J.eL _,{_,D},q}
def lj:EW X (unaryOp .USub) (KP λi=>.int<|-i):=Uy λ_ _ _ _ _ q=>neg_int q
end
def IC:(ab->ab->Bool)
 |.bT,.bT=>aa|.bT,.int _=>aa|.int _,.bT=>aa|.bT,.a1 _=>aa|.a1 _,.bT=>aa|.bT,.str _=>aa|.str _,.bT=>aa
 |.int _,.int _=>aa|.a1 _,.a1 _=>aa|.str _,.str _=>aa|.iq _,.iq _=>aa
 |.int _,.str _=>aa|.str _,.int _=>aa|.a1 _,.str _=>aa|.str _,.a1 _=>aa
 |_,_=>ap
def Zs:(it):=λx y H Q=>IC x y=aa/\Q (.a1<|decide (x=y)) H
def Zn:(it):=λx y H Q=>IC x y=aa/\Q (.a1<|!decide (x=y)) H
def se:decide (ab.int i=ab.int j)=(i==j):=by rw[ey];simp
def O5:decide (ab.a1 i=ab.a1 j)=(i==j):=by rw[ey];simp
def O2:decide (ab.str i=ab.str j)=(i==j):=by rw[ey];simp
def O4:decide (ab.iq i=ab.iq j)=(i.toList==j.toList):=by rw[ey];simp
section
variable{X:bO}{a b c:Expr}{bc cj ln:bD}{pos:Pos}
def e8{σ:St}(J:aC X pins σ H s)(q:Q (.a1 k) H)(e:k=b7):f8 X pins σ Q (.bool b7) s:=by subst e;show{.a1 k,H,J,D,q}
def hU:eE X (compareOp .Eq) Zs:=by
 intro pins s σ H x y v u Q J c a h
 let{b,(q)}:=h
 cases x with
 |bT=>
  cases c;cases y with
  |bT=>cases a;show akL<|e8 J q ()
  |a1 j=>cases a;show akN<|e8 J q ()
  |int j=>let{t',(rfl)}:=a;show akM<|e8 J q ()
  |str j=>let{t',(rfl)}:=a;show akK<|e8 J q ()
  |_=>show absurd (show ap=aa from b) eY
 |a1 i=>
  cases c;cases y with
  |bT=>cases a;show akP<|e8 J q ()
  |a1 j=>cases a;show eq_bool<|e8 J q O5
  |str j=>let{t',(rfl)}:=a;show akX<|e8 J q ()
  |_=>show absurd (show ap=aa from b) eY
 |int i=>
  let{t,(rfl)}:=c;cases y with
  |bT=>cases a;show akO<|e8 J q ()
  |int j=>let{t',(rfl)}:=a;show eq_int<|e8 J q se
  |str j=>let{t',(rfl)}:=a;show akW<|e8 J q ()
  |_=>show absurd (show ap=aa from b) eY
 |str i=>
  let{t,(rfl)}:=c;cases y with
  |bT=>cases a;show akJ<|e8 J q ()
  |a1 j=>cases a;show akV<|e8 J q ()
  |int j=>let{t',(rfl)}:=a;show akU<|e8 J q ()
  |str j=>let{t',(rfl)}:=a;show eq_str<|e8 J q O2
  |_=>show absurd (show ap=aa from b) eY
 |iq i=>
  let{t,(rfl)}:=c;cases y with
  |iq j=>let{t',(rfl)}:=a;show PySem.W.eq_bytes<|e8 J q O4
  |_=>show absurd (show ap=aa from b) eY
 |_=>cases y<;>show absurd (show ap=aa from b) eY
def rK:eE X (compareOp .NotEq) Zn:=by
 intro pins s σ H x y v u Q J c a h
 let{b,(q)}:=h
 cases x with
 |bT=>
  cases c;cases y with
  |bT=>cases a;show akE<|e8 J q ()
  |a1 j=>cases a;show akG<|e8 J q ()
  |int j=>let{t',(rfl)}:=a;show akF<|e8 J q ()
  |str j=>let{t',(rfl)}:=a;show akD<|e8 J q ()
  |_=>show absurd (show ap=aa from b) eY
 |a1 i=>
  cases c;cases y with
  |bT=>cases a;show akI<|e8 J q ()
  |a1 j=>cases a;show ne_bool<|e8 J q<|gC not O5
  |str j=>let{t',(rfl)}:=a;show akT<|e8 J q ()
  |_=>show absurd (show ap=aa from b) eY
 |int i=>
  let{t,(rfl)}:=c;cases y with
  |bT=>cases a;show akH<|e8 J q ()
  |int j=>let{t',(rfl)}:=a;show ne_int<|e8 J q<|gC not se
  |str j=>let{t',(rfl)}:=a;show akS<|e8 J q ()
  |_=>show absurd (show ap=aa from b) eY
 |str i=>
  let{t,(rfl)}:=c;cases y with
  |bT=>cases a;show akC<|e8 J q ()
  |a1 j=>cases a;show akR<|e8 J q ()
  |int j=>let{t',(rfl)}:=a;show akQ<|e8 J q ()
  |str j=>let{t',(rfl)}:=a;show ne_str<|e8 J q<|gC not O2
  |_=>show absurd (show ap=aa from b) eY
 |iq i=>
  let{t,(rfl)}:=c;cases y with
  |iq j=>let{t',(rfl)}:=a;show PySem.W.ne_bytes<|e8 J q<|gC not O4
  |_=>show absurd (show ap=aa from b) eY
 |_=>cases y<;>show absurd (show ap=aa from b) eY
def p5:eE X (compareOp .Lt) (kc λi j=>.a1<|decide (i<j)):=xF λ_ _ _ _ _ _ _ q=>lt_int q
def i5:eE X (compareOp .LtE) (kc λi j=>.a1<|decide (i<=j)):=xF λ_ _ _ _ _ _ _ q=>le_int q
def rM:eE X (compareOp .Gt) (kc λi j=>.a1<|decide (j<i)):=xF λ_ _ _ _ _ _ _ q=>gt_int q
def ou:eE X (compareOp .GtE) (kc λi j=>.a1<|decide (j<=i)):=xF λ_ _ _ _ _ _ _ q=>ge_int q
def cR b(h:op≠ .In<|>zzd)(Y:op≠ .NotIn<|>zzd):behindInMarks op b=ap:=by
 have a:(op==CmpOp.In)=ap:=by cases op<;>first|rfl|show absurd rfl h
 have c:(op==CmpOp.NotIn)=ap:=by cases op<;>first|rfl|show absurd rfl Y
 cases b<;>first|rfl|(change(_&&(op==CmpOp.In||op==CmpOp.NotIn)&&_)=_;rw[a,c];simp)
def e2(g:eE X (compareOp op) r)(d:aX X a bc)(e:aX X b cj)(f:behindInMarks op b=ap):aX X (.Compare a [op] [b] pos) (wT r bc cj):=by intro pins s σ H Q J h;show Ro (Et d e J h λv u aA x y aw c i j q=>g pins aA σ aw x y v u Q c i j q) f
def HM(t:bD):(gA):=λσ H Q=>t σ H λx U=>qxR x U Q
def ez(n:eE X (compareOp op) r)(j:aX X a bc)(l:aX X b cj)(m:behindInMarks op b=ap):jj X (.Compare a [op] [b] pos) (HM<|wT r bc cj):=by
 intro pins s σ H Q J h;show Rk (bp (j pins s σ H _ J h) λv aj {x,an,f,t,(o)}=>bp (l pins aj σ an _ f o) λu aA {y,aw,g,w,(p)}=>
  bp (n pins aA σ aw x y v u _ g t w p) λc B {z,d,i,A,k,e,(q)}=>?_) m
 subst e;cases A;show m3 {d,i,(q)}
inductive qyHO(c:it)(ln:bD)(σ:St)(Q:dR)(y:ab)(z:ab)(a:aP):Prop|mk(k)(_:z= .a1 k)(_: (if k=aa then ln σ a λd b=>c y d b Q else Q (.a1 ap) a))
def HO(r c:it)(bc cj ln:bD):(bD):=λσ H Q=>bc σ H λx an=>cj σ an λy aw=>r x y aw λz a=>qyHO c ln σ Q y z a
def ZY(B:eE X (compareOp op) r)(C:eE X (compareOp q) b7)(p:aX X a bc)(t:aX X b cj)(w:aX X c ln)
  (A:lastMarks [op,q] [b,c]=ap:=by with_unfolding_all rfl):aX X (.Compare a [op,q] [b,c] pos) (HO r b7 bc cj ln):=by
 intro pins s σ H Q J h;show Compare_chain (bp (p pins s σ H _ J h) λv aj {x,an,m,K,(E)}=>chain_link (bp (t pins aj σ an _ m E) λu aA {y,aw,n,j,(F)}=>
  bp (B pins aA σ aw x y v u _ n K j F) λd N {z,f,g,L,k,e,(i)}=>?_)) A
 subst e;cases L;show m3 ?_;cases k with
 |false=>show ite_ff {.a1 ap,f,g,D,i}
 |true=>show ite_tt<|chain_last<|bp (w pins N σ f _ g i) λP O {R,l,o,M,(G)}=>C pins O σ l y R u P Q o j M G
def t8(F:eE X (compareOp op) r)(G:eE X (compareOp q) b7)(B:aX X a bc)(C:aX X b cj)(D:aX X c ln)
  (E:lastMarks [op,q] [b,c]=ap:=by with_unfolding_all rfl):jj X (.Compare a [op,q] [b,c] pos) (HM<|HO r b7 bc cj ln):=by
 intro pins s σ H Q J h;show isTrue_chain (bp (B pins s σ H _ J h) λv aj {x,an,n,P,(L)}=>test_link (bp (C pins aj σ an _ n L) λu aA {y,aw,o,j,(M)}=>
  bp (F pins aA σ aw x y v u _ o P j M) λd U {z,f,g,R,k,e,(i)}=>?_)) E
 subst e;cases R;show m3 ?_;cases k with
 |false=>
  let{Z,w,(K)}:=i
  cases w;show ite_ff {f,g,(K)}
 |true=>show ite_tt<|test_last<|bp (D pins U σ f _ g i) λW V {Y,l,p,S,(N)}=>bp (G pins V σ l y Y u W _ p j S N) λfD ad {ae,m,t,T,ab,A,(O)}=>?_;subst A;cases T;show m3 {m,t,(O)}
def uF:bg<2^63:=⋯
def us:eE X (binaryOp .Add) (λx y H Q=>∃i j,x= .str i/\y= .str j/\↥i+↥j<=bg/\Q (.str<|i++j) H):=by intro pins s σ H x y v u Q J a b h;let{i,j,rfl,rfl,hz,(q)}:=h;let{t,(rfl)}:=a;let{t',(rfl)}:=b;show add_str (λt' tk=>{.str<|i++j,H,J.eL _,{_,D},q}) hz
def n2(r:bF [x] ay):∃u,ay=[u]/\cb x u:=by
 cases r with
 |cons a b=>cases b;show{_,D,a}
inductive qsEd(xs:List ab)(H:aP)(Q:dR):Prop|mk(i)(_:xs=[.int i])(_:i.natAbs.log2<1920)(_:Q (.str<|toString i) H)
def Ed:fz X (.type "str") qsEd:=by intro pins s σ H xs ay Q J r h;let{i,rfl,hz,(q)}:=h;let{u,rfl,t,(rfl)}:=n2 r;show PySem.P.str_of_int hz {.str _,H,J.eL _,{_,D},q}
inductive qsPj(xs:List ab)(H:aP)(Q:dR):Prop|mk(x)(_:xs=[.str x])(_:↥x=1)(_:Q (.int<|x.cps.getD 0 0) H)
def Pj:fz X (.builtin "ord") qsPj:=by intro pins s σ H xs ay Q J r h;let{x,rfl,hz,(q)}:=h;let{u,rfl,t,(rfl)}:=n2 r;show ord_of_one hz {.int _,H,J.eL _,{_,D},q}
end
structure qz(h:bG)(x ae C:ao)(cG:Str->Option az):Prop where
 obj:h.get? x=I (ta C ae)
 ns:h.Ns1 ae cG
 bI:ae≠x
def M9{h:bG}(n:h.Ns1 ae cG):∃od,h.get? ae=I od/\∀name,zN name od=I (cG name):=by
 let{o,es,ep,g,af,c,_,f}:=n
 show{o,g,λname=>?_};have e:=f name;unfold nsFind findBy at e;rw[<-TV]at e;unfold zN;rw[af];dsimp only;split
 .rename_i y q;rw[q]at e;show gC I e
 .rename_i q;rw[q]at e;have a:es.toList.any (·.refKey)=ap:=by
   rw[List.any_eq_false];intro y i
   let{z,t,(d)}:=c y<|TU.mp i
   simp[DictEntry.refKey,d]
  have b:¬es.toList.any (·.refKey)=aa:=a▸eY;show aD b▸gC I e
def qz.rX(J:qz h x ae C cG):∃od,PySem.W.InstAt h x (ta C ae) C (I od)/\∀name,zN name od=I (cG name):=
 let{od,b,(a)}:=M9 J.ns
 {od,{J.obj,D,D,(b)},a}
section
variable{prog:bS}{w:bL}{A:db}{E:az->bb->Prop}{s:bb}{K:b9}{x ae C f:ao}{cG:Str->Option az}{name:Str}{v:az}
def adM(X:K.In s.heap)(J:qz s.heap x ae C cG)(b:v6 K C name=aa)(c:tb K C=aa)
  (a:iZ K (.ref C) name=I ag) (f:cG name=I v) (d:R' v=aa) (h:Q v {s with toks:=s.toks+1}):
  aR (aU prog w) A (getAttr (.ref x) name expr) Q E s:=by
 let{od,ci,(e)}:=J.rX
 show PySem.W.get_value X ci (Gb b).1 (PySem.W.findObj_own c a D<|by grind) d h
def adL(X:K.In s.heap)(J:qz s.heap x ae C cG)(a:v6 K C name=aa)
  (b:iZ K (.ref C) name=I (I<|.ref f)) (d:qY K (.ref f)=aa) (e:cG name=ag) (h:Q (.ref f,[.ref x]) s):
  aR (aU prog w) A (getMethod (.ref x) name q) Q E s:=by
 let{od,ci,(c)}:=J.rX
 show PySem.W.method_fn X ci (Gb a).1 (Gb a).2 b (ei.mp d) (by change(zN name od).map (·.isSome)=I ap;rw[c,e];rfl) h
def Xt(X:K.In s.heap)(J:qz s.heap x ae C cG)
  (l:iZ K (.ref C) "__setattr__"=I (I<|.builtin "object.__setattr__")) (k:Ga K C=aa) (m:F' K C name=I ag) (i:tb K C=aa)
  (ax:v5 cG ns) (hsz:ac ns<=bg)
  (h:∀h',qz h' x ae C (λy=>if y=name then I v else cG y)->lc ae s.heap h'->Q fr {s with heap:=h',toks:=s.toks+2}):
  aR (aU prog w) A (setAttr (.ref x) name v) Q E s:=by
 let{od,ci,(q)}:=J.rX
 show R7 X ci l<|PySem.W.osa_open (s:={s with toks:=s.toks+1}) X ci k m λb=>?_
 let{ch,d,(f)}:=v7 i
 have n:=J.obj;show av<|a7<|av<|av<|Fy n<|av<|q0 (PySem.W.looks_clsIn X d) ?_;rw[f];show a7<|av<|a7<|av<|Fv (s:={s with toks:=s.toks+1}) J.ns λh' a c=>?_
 let{r,p,o,j,g,(e)}:=a.count<|R5 name v ax
 show av<|Fx j (by rw[g];show FJ<|b5 e<|by rw[cz];omega)<|a7<|h _ {(c.2 _<|eo J.bI).trans J.obj,a,J.bI} c
def acw(X:K.In s.heap)(b:Gd K C=aa)
  (au:iZ K (.ref C) "__init__"=I (I<|.ref f)) (a:pj K (.ref f)=I (.type "function"))
  (h:h2 (aU prog w) (A.under<|.builtin "type.__call__" {.ref C::vs,kw}) (.call (.ref f) {.ref (s⁻¹+1)::vs,kw}) (Sf (s⁻¹+1) R)
   {s with heap:=(s.heap.push qZ).push<|ta C s⁻¹}):
  h2 (aU prog w) A (.call (.ref C) {vs,(kw)}) R s:=PySem.W.make_core (PySem.W.makes_of X b) (PySem.W.looks_findIn X au) (λself=>Sd X self a) (.inl D) h
end
def cs(f:Str)(v:ab):(List (Str×ab)->List (Str×ab))
 |[]=>[(f,v)]
 |(g,x)::r=>if g=f then(g,v)::r else(g,x)::cs f v r
def x0 f g v:∀aF,(cs f v aF).lookup g=if g=f then I v else aF.lookup g
 |[]=>by
  change iA g [(f,v)]=_;by_cases h:g=f
  .have q:=ei.mpr h;simp only[iA,q,aM h]
  .have q:=k9.mpr h;simp only[iA,q,aD h]
 |(k,x)::r=>by
  have b:=x0 f g v r;rw[show cs f v ((k,x)::r)=(if k=f then(k,v)::r else(k,x)::cs f v r)from D];by_cases a:k=f
  .rw[aM a];by_cases h:g=k
   .grind
   .have q:=k9.mpr h;simp only[iA,q,aD λe:g=f=>h<|e.trans a.symm]
  .grind
def uH f v:∀aF,f∈(cs f v aF).map (·.1)/\∀g,g∈aF.map (·.1)->g∈(cs f v aF).map (·.1)
 |[]=>{by simp[cs],λg h=>by simp at h}
 |(k,x)::r=>by
  let{dP,(q)}:=uH f v r
  rw[show cs f v ((k,x)::r)=(if k=f then(k,v)::r else(k,x)::cs f v r)from D];by_cases a:k=f
  .subst a;simp
  .rw[aD a];show{?_,λg h=>?_}
   .show eJ _ dP
   .obtain e|e:=bK.mp h
    .show bK.mpr<|.inl e
    .show eJ _<|q g e
def Dh f v:∀aF,↥(cs f v aF)<=ac aF+1
 |[]=>by simp[cs]
 |(k,x)::r=>by
  have q:=Dh f v r;rw[show cs f v ((k,x)::r)=(if k=f then(k,v)::r else(k,x)::cs f v r)from D];by_cases a:k=f
  .rw[aM a,cz,cz];omega
  .rw[aD a,cz,cz];omega
def gW.w7(r:gW (I v) o):∃u,o=I u/\cb v u:=by
 cases o with
 |none=>show(r).elim
 |some u=>show{u,D,(r)}
def gW.ab0(r:gW ag o):o=ag:=by
 cases o with
 |none=>rfl
 |some u=>show(r).elim
def NS(r:cb v u):R' u=aa:=by
 cases v with
 |bT=>cases(r);rfl
 |a1 b=>cases(r);rfl
 |int i=>let{t,(e)}:=(r);cases e;rfl
 |str x=>let{t,(e)}:=(r);cases e;rfl
 |iq b=>let{t,(e)}:=(r);cases e;rfl
 |uW b=>let{t,(e)}:=(r);cases e;rfl
 |ref a=>cases(r);rfl
 |dz n=>cases(r);rfl
section
variable{P:bS}{w:bL}{H U:aP}{h h':bG}{a C ae:ao}{aF qf:List (Str×ab)}
def Du(a0:dq P w H h)(e:H a=I (.aS C ae aF)):∃cG,qz h a ae C cG/\(∀f,gW (aF.lookup f)<|cG f)/\v5 cG (aF.map (·.1))/\ac aF<=1000/\H ae=I (.bo a):=by
 let{d,z,bI,ob,cG,n,r,(q)}:=(a0 a _ e)
 show{cG,{ob,n,(bI)},r,q,z,d}
end
structure oZ(K:b9)(C:ao):Prop where
 uh:v6 K C nR=aa
 af:tb K C=aa
 dr:Ga K C=aa
 Bx:iZ K (.ref C) "__setattr__"=I (I<|.builtin "object.__setattr__")
def oZ.get{K:b9}(c:oZ K C) f:v6 K C f=aa:=c.uh
def cK K C f:=iZ K (.ref C) f=I ag
def cK.U4{K:b9}(n:cK K C f):F' K C f=I ag:=by unfold F';rw[n];rfl
structure yY(K:b9)(C:ao)(m:Str)(f:ao):Prop where
 a2:iZ K (.ref C) m=I (I<|.ref f)
 a8:qY K (.ref f)=aa
 b6:jY K (.ref f)=aa
section
variable{X:bO}{pins:List (ao×Obj)}{σ:St}{H:aP}{s:bb}{a C ae:ao}{aF:List (Str×ab)}{f:Str}{v:ab}{A:db}{E:az->bb->Prop}
def NY(J:aC X pins σ H s)(e:H a=I (.aS C ae aF))(c:oZ X.K C)(n:cK X.K C f)(l:aF.lookup f=I v)
  (h:∀u s',aC X pins σ H s'->cb v u->Q u s'):aR (aU X.prog X.w) A (getAttr (.ref a) f b) Q E s:=by
 let{cG,g,r,_}:=Du J.a0 e
 let{u,i,(d)}:=gW.w7<|l▸r f
 show adM J.e5 g (c.get f) c.af n i (NS d)<|h u _ (J.eL _) d
def NX(J:aC X pins σ H s)(e:H a=I (.aS C ae aF))(c:oZ X.K C)(k:yY X.K C m g)(l:aF.lookup m=ag)
  (h:Q (.ref g,[.ref a]) s):aR (aU X.prog X.w) A (getMethod (.ref a) m q) Q E s:=by
 let{cG,b,r,_}:=Du J.a0 e
 have d:=gW.ab0 (by show l▸r m);show adL J.e5 b (c.get m) k.a2 k.a8 d h
def Iz(J:aC X pins σ H s)(e:H a=I (.aS C ae aF))(c:oZ X.K C)(n:cK X.K C f)(v:ac aF<1000)(t:cb y u)
  (h:∀s',aC X pins σ (al H a<|.aS C ae<|cs f y aF) s'->Q fr s'):aR (aU X.prog X.w) A (setAttr (.ref a) f u) Q E s:=by
 let{cG,d,r,k,_,j}:=Du J.a0 e
 have hz:↥(aF.map (·.1))<=bg:=by rw[bt,cc];omega
 show Xt J.e5 d c.Bx c.dr n.U4 c.af k hz λh' i c9=>h _ ?_;have af:∃o,h'.get? ae=I o:=let{o,_,_,l,_}:=i.ns;{o,(l)};show J.mi (e▸l7) (.inr j) (λb q m z=>(c9.2 b m).trans z) af<|{by rw[aI d.bI];show j,?_,d.bI,i.obj,_,i.ns,λg=>?_,λg p=>?_}
 .have:=Dh f y aF;omega
 .rw[x0];by_cases q:g=f
  .rw[aM q,aM q];show t
  grind
 .by_cases q:g=f
  .show q▸(uH f y aF).1
  .show(uH f y aF).2 g<|k g λz=>p ?_;change(if g=f then I u else cG g)=ag;grind
def aC.made(J:aC X pins σ H s):aC X pins σ (al (al H s⁻¹<|.bo<|s⁻¹+1) (s⁻¹+1)<|.aS C s⁻¹ [])
  {s with heap:=(s.heap.push qZ).push<|ta C s⁻¹}:=by
 have a:(s.heap.push qZ).get? s⁻¹=I qZ:=dC s.heap D;have d:=by have:=dC (s.heap.push qZ) (o:=ta C s⁻¹) D;rwa[hn]at this
 have f:(s.heap.push qZ).Ns s⁻¹ (λ_=>ag):={qZ,#[],_,a,D,(λe g=>absurd g ()),λ_=>D};have c:=J.gx (o:=.bo<|s⁻¹+1) (t':=s.toks) (λb u q=>cB _ q) (bA _) {_,a};show c.gx (t':=s.toks) (λb u q=>cB _ q) () ?_;have bI:s⁻¹≠s⁻¹+1:=du ();show{by rw[aI bI,ar],cI _,bI,d,λ_=>ag,(Tw f).at λo q=>cB _ q,λ_=>l7,λy h=>absurd rfl h}
def PH(a:iw e f am (eval e am)=eval e am)
  (h:aR (aU prog w) A (eval e am) (λo b=>aR (aU prog w) A (getAttr o f aa) Q E b) E s):aR (aU prog w) A (eval (.Attribute e f pos) am) Q E s:=
 Attribute_any_ h (by rw[arm_eval_Attribute,a])
end
def QM X op(bM:ab->ab->aP->dR->Prop):=
 ∀pins s (σ:St) H x y u v Q,aC X pins σ H s->cb x u->cb y v->bM x y H Q->aR (aU X.prog X.w) X.A (inplaceOp op u v) (f8 X pins σ Q) X.cT s
section
variable{X:bO}{o e value:Expr}{f:Str}{pos pos' lm:Pos}{bc gr:bD}
inductive Zv(x:ab)(y:ab)(H:aP)(Q:dR):Prop|mk(i j)(_:x= .int i)(_:y= .int j)(_:Q (.int<|i+j) H)
def Dw:QM X .Add Zv:=by rintro pins s σ H x y u v Q J a b ⟨i,j,rfl,rfl,q⟩;let{t,(rfl)}:=(a);let{t',(rfl)}:=(b);show ak3 {.int<|i+j,H,J.eL _,{_,D},q}
end
section
variable{X:bO}{pins:List (ao×Obj)}{σ:St}{H:aP}{s:bb}{A:db}{E:az->bb->Prop}{Q:az->bb->Prop}{c:az}{b:Bool}
end
structure c2(k:Nat)(A:db):Prop where
 af:A.handled=ag
 jI:A.depth+3*k+5<Rw
 cF:A.units+16*k+200<eW
def c2.mono(r:c2 k A)(h:j<=k):c2 j A:={r.af,by have:=r.jI;omega,by have:=r.cF;omega}
def c2.deeper(r:c2 (k+1) A) am:c2 k (A.deeper am):=
 {r.af,by have:=r.jI;change A.depth+1+3*k+5<_;omega,by have:=r.cF;change A.units+3+16*k+200<_;omega}
def acx{A:db}:(A.under<|.builtin "type.__call__" {.ref C::ay,kw}).depth=A.depth+1:=by
 rfl
def acv{A:db}:(A.under<|.builtin "type.__call__" {.ref C::ay,kw}).units=A.units+1:=by
 rfl
def c2.uC(r:c2 (k+1) A) C ay kw:c2 k (A.under<|.builtin "type.__call__" {.ref C::ay,kw}):=
 {r.af,by have:=r.jI;rw[acx];omega,by have:=r.cF;rw[acv];omega}
def c2.depth(r:c2 k A):A.depth<Rw:=by have:=r.jI;omega
def c2.units(r:c2 k A):A.units+64<eW:=by have:=r.cF;omega
def kH:(fF):=λ_ H Q=>Q [] H
def pR(bc:bD)(iD:fF):(fF):=λσ H Q=>bc σ H λx an=>iD σ an λxs aw=>Q (x::xs) aw
section
variable{X:bO}{e:Expr}{es:List Expr}{bW:bD}{t:fF}{pos:Pos}
def gv:d2 X [] kH:=λ_ _ _ _ H Q J h=>rd {[],H,J,.nil,h}
def hT(c:aX X e bW)(d:d2 X es t)(f:bj (e::es) X.am=(ap,eval e X.am)::bj es X.am<|>zzr):d2 X (e::es) (pR bW t):=by intro pos pins s σ H Q J h;show f▸pz (bp (c pins s σ H _ J h) λu aj {x,an,a,j,(g)}=>bp (d pos pins aj σ an _ a g) λay aA {xs,aw,b,k,(i)}=>{x::xs,aw,b,.cons j k,i})
def Vc(t:fF):(bD):=λσ H Q=>t σ H λxs an=>ac xs<=bg/\∀p,an p=ag->Q (.ref p) (al an p<|.aZ xs)
def Vp(t:fF):(bD):=λσ H Q=>t σ H λxs an=>ac xs<=bg/\∀p,an p=ag->Q (.ref p) (al an p<|.ai xs)
def rG(h:d2 X es t):aX X (.Tuple es ba pos) (Vc t):=by intro pins s σ H Q J d;show wpAny_Tuple_spliced<|bp (h pos pins s σ H _ J d) λay aj {xs,an,a,r,z,(q)}=>{↥r▸z,?_};have c:=a.a0.fresh<|bA _;show{.ref aj⁻¹,al an aj⁻¹<|.aZ xs,a.gx (λb u e=>cB _ e) (bA _)<|{z,ay,r,{_,dC _ D,D,_,D}},D,q _ c}
def eg(h:d2 X es t):aX X (.List es pos) (Vp t):=by intro pins s σ H Q J d;show wpAny_List_spliced<|bp (h pos pins s σ H _ J d) λay aj {xs,an,a,r,z,(q)}=>{↥r▸z,?_};have c:=a.a0.fresh<|bA _;show{.ref aj⁻¹,al an aj⁻¹<|.ai xs,a.gx (λb u e=>cB _ e) (bA _)<|{z,ay,0,r,dC _ D},D,q _ c}
end
abbrev bC:=List ab->aP->dR->gh->Prop
abbrev m2:=List Env->aP->bb->gh->az->bb->Prop
structure oY(P:bS)(w:bL)(K:b9)(mg:Str->Option az)(base:bG)(A:db)(aN:List Env)(s:bb)(H:aP):Prop where
 frames:A.frames=I aN
 f5:Mod K mg base
 b':∀b o,base.get? b=I o->s.heap.get? b=I o/\H b=ag
 lM:base.objs.size<=s⁻¹
 jG:s.heap.FunFrames base aN
 mK:∀b∈ev aN,H b=ag
 a0:dq P w H s.heap
 dV:pE s.gens
def Fq aN P w H(s:bb)(Q:dR) u(s':bb):=
 ∃v U,s'.os=s.os/\pE s'.gens/\fy (ev aN) [] H U s.heap s'.heap/\dq P w U s'.heap/\cb v u/\Q v U
def akf(c7:m2) aN P w H s Q E(r:s6)(s':bb):=
 match r with
 |.ok (.ret u)=>Fq aN P w H s Q u s'
 |.ok _=>False
 |.error e=>c7 aN H s E e s'
structure c6(P:bS)(w:bL)(K:b9)(mg:Str->Option az)(base:bG)(c7:m2)(k:Nat)(f:ao)(bk:eS)(ps:List Str)(br:bC):Prop where
 len:∀vs H Q E,br vs H Q E->↥vs=↥ps
 run:∀(A:db) (aN:List Env) (s:bb) (H:aP) (args:Args) (ay:List az) (vs:List ab) (Q:dR) (E:gh),c2 k A->oY P w K mg base A aN s H->tF s bk args (ps.zip ay)->bF vs ay->br vs H Q E->
  h2 (aU P w) A (.call (.ref f) args) (akf c7 aN P w H s Q E) s
def c6.imp{K:b9}(F:c6 P w K mg base c7 k f bk ps br)
  (h:∀vs H Q E,b7 vs H Q E->br vs H Q E):c6 P w K mg base c7 k f bk ps b7:=
 {λvs H Q E q=>F.len vs H Q E<|h _ _ _ _ q,λA aN s H args ay vs Q E c b a e d=>F.run A aN s H args ay vs Q E c b a e<|h _ _ _ _ d}
def oY.uC{K:b9}(e:oY P w K mg base A aN s H) C ay kw:
  oY P w K mg base (A.under<|.builtin "type.__call__" {.ref C::ay,kw}) aN s H:={by first|show e.frames|rfl,e.f5,e.b',e.lM,e.jG,e.mK,e.a0,e.dV}
section
variable{X:bO}{pins:List (ao×Obj)}{σ:St}{H:aP}{s s':bb}
def aC.yg(J:aC X pins σ H s):oY X.prog X.w X.K X.mg X.base X.A X.stack s H:=
 {J.ok.frames,J.ok.f5,J.b',b5 J.ok.lM J.iE,J.stack,J.tR,J.a0,J.dV}
def aC.after(J:aC X pins σ H s)(h:Fq X.stack X.prog X.w H s Q u s'):f8 X pins σ Q u s':=by
 let{v,U,os,dV,cF,a0,r,(q)}:=h
 let{b,g,d,t,(a)}:=s'
 obtain rfl:a=s.os:=os;show{v,U,J.call cF a0 dV (),r,q}
end
def ro(br:bC)(ff:List ab)(E:gh)(t:fF):(bD):=λσ H Q=>t σ H λvs an=>br (vs++ff) an Q E
inductive qxU(C:ao)(m:Str)(x:ab)(H:aP)(Q:Prop):Prop|mk(a d:ao)(l:List (Str×ab))(e:x= .ref a)(h:H a=I (.aS C d l))(i:l.lookup m=ag)(k:Q)
def wU(C:ao)(m:Str)(br:bC)(ff:List ab)(E:gh)(bc:bD)(t:fF):(bD):=λσ H Q=>bc σ H λx an=>qxU C m x an<|t σ an λvs aw=>br (x::(vs++ff)) aw Q E
def wV(C:ao)(br:bC)(ff:List ab)(E:gh)(t:fF):(bD):=λσ H Q=>t σ H λvs an=>∀x ae,an x=ag->an ae=ag->ae≠x->
 br (.ref x::(vs++ff)) (al (al an ae<|.bo x) x<|.aS C ae []) (λv aw=>v= .bT/\Q (.ref x) aw) E
def f9(K:b9) bk(ps:List Str) a3:=
 ∀s ay,K.In s.heap->↥(ay++a3)=ac ps->tF s bk {ay,[]} (ps.zip<|ay++a3)
def f9.all{K:b9}(h:∀ay,ac ay=ac ps->FX bk {ay,[]}=pure (ps.zip ay)):f9 K bk ps []:=λs ay _ a=>by rw[gI]at a⊢;show .of_eq<|h ay a
def gY(c7:m2) X E:=∀pins (σ:St) H s e s',aC X pins σ H s->c7 X.stack H s E e s'->X.cT e s'
section
variable{X:bO}{c7:m2}{k:Nat}{f C:ao}{bk:eS}{ps:List Str}{br:bC}{ff:List ab}{a3:List az}{E:gh}{x m:Str}{p pos apos:Pos}{e o:Expr}{es:List Expr}{bc:bD}{t:fF}
def rx{σ:St}(F:c6 X.prog X.w X.K X.mg X.base c7 k f bk ps br)(g:c2 k X.A)(c:f9 X.K bk ps a3)(af:bF ff a3)(i:gY c7 X E)
  (J:aC X pins σ H s) (r:bF vs ay) (h:br (vs++ff) H Q E):aR (aU X.prog X.w) X.A (call (.ref f) ay) (f8 X pins σ Q) X.cT s:=by
 have b:=r.append af;have d:↥(ay++a3)=↥ps:=↥b▸F.len _ _ _ _ h;show o7<|jU (F.run X.A X.stack s H {ay,[]} (ay++a3) (vs++ff) Q E g J.yg (c s ay J.e5 d) b h) λr s' a=>?_;cases r with
 |error e=>show i pins σ H s e s' J a
 |ok cv=>
  cases cv with
  |ret u=>show J.after a
  |next=>show gJ a
  |brk=>show gJ a
  |cont=>show gJ a
def Lo(F:c6 X.prog X.w X.K X.mg X.base c7 k f bk ps br)(n:c2 k X.A)(i:ea X x)(l:X.mg x=I (.ref f))(j:jY X.K (.ref f)=aa)(c:f9 X.K bk ps a3)(af:bF ff a3)(o:gY c7 X E)
  (b:d2 X (e::es) t) (d:(x=="__debug__")=ap<|>zzd) (g:bj (e::es) X.am=(ap,eval e X.am)::bj es X.am<|>zzr) (m:((dM pos<|bj es X.am).any (·.1)=ap)<|>zzr):
  aX X (.Call (.Name x p) (e::es) [] pos) (ro br ff E t):=by
 intro pins s σ H Q J h;show l2<|mE J i l (tc J.ok.f5.oy j (bp (b pos pins s σ H _ J h) λay aj {vs,an,a,r,(q)}=>{a.e5,rx F n c af o a r q}) g m) d
def Z1(F:c6 X.prog X.w X.K X.mg X.base c7 k f bk ps br)(g:c2 k X.A)(c:ea X x)(e:X.mg x=I (.ref f))(d:jY X.K (.ref f)=aa)(a:f9 X.K bk ps a3)(af:bF ff a3)(i:gY c7 X E)
  (b:(x=="__debug__")=ap<|>zzd):aX X (.Call (.Name x p) [] [] pos) (ro br ff E kH):=by
 intro pins s σ H Q J h;show l2<|mE J c e (zP J.e5 d<|rx F g a af i J .nil h) b
def ZO{L:Sem Bool}(p:aX X o bc)(c:oZ X.K C)(g:yY X.K C m f)(F:c6 X.prog X.w X.K X.mg X.base c7 k f bk ps br)(y:c2 k X.A)(n:f9 X.K bk ps a3)(af:bF ff a3)(G:gY c7 X E)(j:d2 X (e::es) t)
  (z:bj (e::es) X.am=(ap,eval e X.am)::bj es X.am<|>zzr) (v:((dM pos<|bj es X.am).any (·.1)=ap)<|>zzr)
  (B:(eval (.Call (.Attribute o m apos) (e::es) [] pos) X.am=(do
   let dn<-eval o X.am
   sO apos.atName
   let(f,first)<-qR [dn] (getMethod dn m L)
   callWith pos f first (dM pos<|bj (e::es) X.am) (m9 pos<|m4 [] X.am)))<|>zzr):
  aX X (.Call (.Attribute o m apos) (e::es) [] pos) (wU C m br ff E bc t):=by
 intro pins s σ H Q J h;show Gc (bp (p pins s σ H _ J h) λu aj {x,an,b,N,a,ae,aF,bE,i,l,(q)}=>?_) B;subst bE;obtain rfl:u=cM a:=N;show NX b i c g l<|tc J.ok.f5.oy g.b6 (bp (j pos pins aj σ an _ b q) λay aA {vs,aw,d,r,(M)}=>{d.e5,rx (vs:=.ref a::vs) F y n af G d (.cons D r) M}) z v
def ZN(i:aX X o bc)(c:oZ X.K C)(d:yY X.K C m f)(F:c6 X.prog X.w X.K X.mg X.base c7 k f bk ps br)(j:c2 k X.A)(g:f9 X.K bk ps a3)(af:bF ff a3)(p:gY c7 X E)
  (n:(eval (.Call (.Attribute o m apos) [] [] pos) X.am=(do
   let dn<-eval o X.am
   sO apos.atName
   let(f,first)<-qR [dn] (getMethod dn m b7)
   callWith pos f first (dM pos<|bj [] X.am) (m9 pos<|m4 [] X.am)))<|>zzr):
  aX X (.Call (.Attribute o m apos) [] [] pos) (wU C m br ff E bc kH):=by
 intro pins s σ H Q J h;show Gc (bp (i pins s σ H _ J h) λu aj {x,an,b,r,a,ae,aF,bE,e,l,(q)}=>?_) n;subst bE;obtain rfl:u=cM a:=r;show NX b e c d l<|zP b.e5 d.b6<|rx (vs:=[.ref a]) F j g af p b (.cons D .nil) q
structure yX(K:b9)(C f:ao):Prop where
 xX:Gd K C=aa
 init:iZ K (.ref C) "__init__"=I (I<|.ref f)
 a8:qY K (.ref f)=aa
 b6:jY K (.ref C)=aa
def Kg{σ:St}(M:yX X.K C f)(F:c6 X.prog X.w X.K X.mg X.base c7 k f bk ps br)(m:c2 (k+1) X.A)(j:f9 X.K bk ps a3)(af:bF ff a3)
  (n:gY c7 X E) (J:aC X pins σ H s) (r:bF vs ay)
  (h:∀x ae,H x=ag->H ae=ag->ae≠x->br (.ref x::(vs++ff)) (al (al H ae<|.bo x) x<|.aS C ae []) (λv aw=>v= .bT/\Q (.ref x) aw) E):
  aR (aU X.prog X.w) X.A (call (.ref C) ay) (f8 X pins σ Q) X.cT s:=by
 have c:=h (s⁻¹+1) s⁻¹ (J.a0.fresh<|jZ _) (J.a0.fresh<|bA _) ();have b:=aC.made (C:=C) J;have d:bF (ab.ref (s⁻¹+1)::(vs++ff)) (cM (s⁻¹+1)::(ay++a3)):=.cons D<|r.append af;have l:=by have e:=↥d;rw[F.len _ _ _ _ c]at e;show e.symm
 show o7<|acw J.e5 M.xX M.init (ei.mp M.a8)<|jU (F.run _ X.stack _ _ {cM (s⁻¹+1)::ay,[]} (cM (s⁻¹+1)::(ay++a3)) _ _ E (m.uC C ay [])
  (b.yg.uC C ay []) (j _ (cM (s⁻¹+1)::ay) b.e5 l) d c) λr s' a=>?_
 cases r with
 |error e=>show n pins σ _ _ e s' b a
 |ok cv=>
  cases cv with
  |ret u=>
   let{v,U,g,p,i,(o)}:=b.after a
   subst i;show{p,{ab.ref<|s⁻¹+1,U,g,D,o}}
  |next=>show gJ a
  |brk=>show gJ a
  |cont=>show gJ a
def ZQ(M:yX X.K C f)(F:c6 X.prog X.w X.K X.mg X.base c7 k f bk ps br)(m:c2 (k+1) X.A)(i:ea X x)(j:X.mg x=I (.ref C))(c:f9 X.K bk ps a3)(af:bF ff a3)(n:gY c7 X E)
  (b:d2 X (e::es) t) (d:(x=="__debug__")=ap<|>zzd) (g:bj (e::es) X.am=(ap,eval e X.am)::bj es X.am<|>zzr) (l:((dM pos<|bj es X.am).any (·.1)=ap)<|>zzr):
  aX X (.Call (.Name x p) (e::es) [] pos) (wV C br ff E t):=by
 intro pins s σ H Q J h;show l2<|mE J i j (tc J.ok.f5.oy M.b6 (bp (b pos pins s σ H _ J h) λay aj {vs,an,a,r,(q)}=>{a.e5,Kg M F m c af n a r q}) g l) d
def ZP(M:yX X.K C f)(F:c6 X.prog X.w X.K X.mg X.base c7 k f bk ps br)(e:c2 (k+1) X.A)(c:ea X x)(d:X.mg x=I (.ref C))(a:f9 X.K bk ps a3)(af:bF ff a3)(g:gY c7 X E)
  (b:(x=="__debug__")=ap<|>zzd):aX X (.Call (.Name x p) [] [] pos) (wV C br ff E kH):=by
 intro pins s σ H Q J h;show l2<|mE J c d (zP J.e5 M.b6<|Kg M F e a af g J .nil h) b
end
section
variable{X:bO}{c7:m2}{k:Nat}{f C:ao}{bk:eS}{ps cZ:List Str}{br:bC}{E:gh}{x m:Str}{p pos apos alp:Pos}{e o:Expr}{es:List Expr}{Dk:List md}{bW bc:bD}{t tk:fF}{fO:Option Str}
variable{g:List az->List az->List az}{alt:List ab->List ab->List ab}
end
structure bl(N P:List Str)(b7:jq):Prop where
 kind:b7.kind= .function
 aif:b7.isCoroutine=ap
 adO:b7.isGenerator=ap
 aJ:N.Nodup
 pre:N.take ↥P=P
 ig:∀x∈P,b7.names.lookup x=I .local \/b7.names.lookup x=I .cell
 ab2:∀y∈b7.names,y.2≠ .free
def Pz{gB:Str->Option j0}:∀{qq:List (Str×az)} {m:Str->Option az},(∀v,(x,v)∉qq)->qT gB qq m x=m x
 |[],_,_=>rfl
 |(n,v)::r,m,h=>by
  unfold qT;rw[Pz λw ax=>h w<|eJ _ ax];split
  .have:x≠n:=by rintro rfl;show h v i1
   simp[this]
  .rfl
def PB{gB:Str->Option j0}:∀{qq:List (Str×az)} {m:Str->Option az},(∀v,(x,v)∉qq)->qU gB qq m x=m x
 |[],_,_=>rfl
 |(n,v)::r,m,h=>by
  unfold qU;rw[PB λw ax=>h w<|eJ _ ax];split
  .rfl
  .have:x≠n:=by rintro rfl;show h v i1
   simp[this]
def PA{gB:Str->Option j0}:∀{P:List Str} {vs:List az} {i:Nat} {m:Str->Option az},P.Nodup->P[i]? =I x->vs[i]? =I v->gB x=I .local ->
  qT gB (P.zip vs) m x=I v
 |[],_,_,_,_,h,_,_=>by simp at h
 |_::_,[],_,_,_,_,h,_=>by simp at h
 |p::P,w::vs,0,m,aJ,O,Y,q=>by simp at O Y;subst O;subst Y;change qT gB ((p,w)::P.zip vs) m p=_;unfold qT;rw[Pz λv a=>(pq.mp aJ).1 (z9 a).1,aM q];simp
 |p::P,w::vs,i+1,m,aJ,O,Y,q=>by unfold qT;show PA (pq.mp aJ).2 ‹O› (by simp_all) q
def PC{gB:Str->Option j0}:∀{P:List Str} {vs:List az} {i:Nat} {m:Str->Option az},P.Nodup->P[i]? =I x->vs[i]? =I v->gB x≠I .local ->
  qU gB (P.zip vs) m x=I v
 |[],_,_,_,_,h,_,_=>by simp at h
 |_::_,[],_,_,_,_,h,_=>by simp at h
 |p::P,w::vs,0,m,aJ,O,Y,q=>by simp at O Y;subst O;subst Y;change qU gB ((p,w)::P.zip vs) m p=_;unfold qU;rw[PB λv a=>(pq.mp aJ).1 (z9 a).1,aD q];simp
 |p::P,w::vs,i+1,m,aJ,O,Y,q=>by unfold qU;show PC (pq.mp aJ).2 ‹O› (by grind) q
def start(N:List Str)(vs:List ab):(St):=vs.map I++we (↥N-ac vs) ag
def gR(c7:m2)(P:bS)(w:bL)(K:b9)(mg:Str->Option az)(base:bG)(N:List Str)(qual:Str)(scope:jq)(f:ao)(ch:az)(A:db)(aN:List Env)(s:bb)(H:aP)(E:gh):(bO) where
 prog:=P
 w:=w
 K:=K
 mg:=mg
 base:=base
 A:=A.deeper (fI qual scope s⁻¹ f ch)
 N:=N
 gM:=s
 qC:=H
 am:=fI qual scope s⁻¹ f ch
 aN:=aN
 stack:=fI qual scope s⁻¹ f ch::aN
 bE:=[]
 hf:=aa
 a8:=λ_=>aa
 gO:=[]
 cT:=λe s'=>aR (aU P w) (A.deeper<|fI qual scope s⁻¹ f ch) (leaving (fI qual scope s⁻¹ f ch) e) (λ_ a=>c7 aN H s E e a) (λb a=>c7 aN H s E b a) s'
def Pg{b7:jq}(h:b7.names.lookup x=I .cell):∃c,(g6 n b7.names []).lookup x=I c:=by have q:=Sc b7.names n []<|.inl h;show zV.mp q
def adm{K:b9}
  (S:bl N ps scope) (af:A.handled=ag) (a:oY P w K mg base A aN s H) (F:ac vs=ac ps) (r:bF vs ay)
  (x:InCallC s s⁻¹ (qT (fI qual scope s⁻¹ f ch).kindOf (ps.zip ay) λ_=>ag) (g6 (s⁻¹+1) scope.names []) (qU (fI qual scope s⁻¹ f ch).kindOf (ps.zip ay) λ_=>ag) aj):
  aC (gR c7 P w K mg base N qual scope f ch A aN s H E) [] (start N vs) H aj:=by
 have G:ac ps<=↥N:=by have:=gC ac S.pre;rw[g8]at this;omega
 let{O,tk,rfl,(l)}:=x.done;have j:∀b:ao,b∉(gR c7 P w K mg base N qual scope f ch A aN s H E).bE:=λb z=>absurd (show b∈([]:List ao)from z) ();show{{a.f5,S.kind,D,D,bA _,λy z c O Y=>?_,λy g=>?_,λy c _ h=>?_,λ_=>af,Around.frames_deeper a.frames,.inr {D,(rfl)},λb z=>absurd z<|j b,a.b',a.lM,λb _ _=>j b,λb z=>absurd z<|j b,a.jG,a.mK},
  D,a.dV,fy.fc l,{_,x.toInCall.ns,λi y v O Y C=>?_},λy c h=>{_,x.cell y c h},a.a0.fresh<|bA _,λy c h=>?_,λp d=>absurd (show p∈([]:List (ao×Obj))from d) (),a.a0.fc l,?_}
 .show name_of_addr x.apart (jr O)<|jr Y
 .obtain g|g:=g
  .show Pg g
  .show absurd rfl<|S.ab2 _<|jr g
 .show po<|x.above y c<|jr h
 .have au:i<ac vs:=by
   unfold start at Y;by_cases au:i<ac vs
   .show au
   .rw[jt ‹au›]at Y;rw[S']at Y;split at Y<;>cases Y
  have t:vs[i]? =I v:=by unfold start at Y;rw[gH<|‹au›,cO]at Y;grind
  let{u,m,(B)}:=r.get t
  have d:ps[i]? =I y:=by rw[<-S.pre,S8 ∅];show O
  have o:ps.Nodup:=by rw[<-S.pre];show S.aJ.sublist<|SP _ _
  show{u,B,?_};obtain k|k:=S.ig y<|d5 d
  .show .inl {k,PA o d m k}
  .let{c,(e)}:=Pg (n:=s⁻¹+1) k
   show .inr {.inl k,c,e,?_};have q:=x.cell y c e;rw[PC o d m (by change scope.names.lookup y≠_;rw[k];decide)]at q;show q
 .show a.a0.fresh<|po<|x.above y c<|jr h
 .unfold start;change _=↥N;rw[b0,bt,S1];omega
def ad0{K:b9}{da:az}
    (lk:K.lookup f=I {ii,od,.func<|nS name qual params body scope dY da doc ht df b7 e9,eq}) (p:zO K b7 qual=aa) (S:bl N ps scope)
  (len:∀vs H Q E,br vs H Q E->ac vs=ac ps)
  (m:∀A aN s H vs Q E,c2 k (A.deeper<|fI qual scope s⁻¹ f b7)->br vs H Q E->
   qzB (gR c7 P w K mg base N qual scope f b7 A aN s H E) body {b1:=λ_ U=>Q .bT U,kM:=Q} (start N vs) H):
  c6 P w K mg base c7 (k+1) f (nS name qual params body scope dY da doc ht df b7 e9) ps br:=by
 show{len,λA aN s H args ay vs Q E g c l r j=>?_};have C:=len _ _ _ _ j;have i:=c.f5.oy.keeps λb o e=>(c.b' b o e).1;have cC:=c.f5.nolimit.keeps λb o e=>(c.b' b o e).1;have B:∀y∈ps.zip ay,scope.names.lookup y.1=I .local \/(scope.names.lookup y.1=I .cell/\((g6 (s⁻¹+1) scope.names []).lookup y.1).isSome=aa):=λ{n,(v)} L=>by
  obtain q|q:=S.ig n (z9 L).1
  .show .inl q
  .show .inr {q,Sc _ _ _<|.inl q}
 show codeAny_call_function g.depth (i _ _ lk) D S.aif S.adO D (PySem.W.codeRec_of i p)<|l _ _ _ _ ?_;show wpAny_newFunctionEnv_cells S.kind B λam z aj x=>?_;subst z;show{cC.keeps x.toInCall.keep,codeAny_func ?_}
 let{t,G,(F)}:=m A aN s H vs Q E (g.deeper _) j
 have J:aC (gR c7 P w K mg base N qual scope f b7 A aN s H E) [] (start N vs) H aj:=adm S g.af c C r x;show fA (G [] aj (start N vs) H _ J F) (λcv s' a=>?_) λe s' a=>a;have fin:∀{d:St} {U:aP} {v:ab} {u:az},aC (gR c7 P w K mg base N qual scope f b7 A aN s H E) [] d U s'->cb v u->Q v U->Fq aN P w H s Q u s':=
  λ{d U v u} ci h q=>{v,U,ci.os,ci.dV,ci.base,ci.a0,h,(q)}
 cases cv with
 |ret u=>
  let{v,d,U,ci,h,(q)}:=a
  show fin ci h q
 |next=>
  let{d,U,ci,(q)}:=a
  show fin (v:=ab.bT) ci D q
 |brk=>
  let{_,_,_,q}:=a
  show gJ q
 |cont=>
  let{_,_,_,q}:=a
  show gJ q
section
variable{X:bO}{x:Str}{p pos:Pos}{e:Expr}{es:List Expr}{t:fF}{id T:String}{r:List ab->aP->dR->Prop}
def kI(r:List ab->aP->dR->Prop)(t:fF):(bD):=λσ H Q=>t σ H λvs an=>r vs an Q
def ul(c:fz X (.builtin id) r)(g:ea X x)(i:X.mg x=ag)(l:h3 x=I (.builtin id))(b:d2 X (e::es) t)(j:x≠"__name__"<|>zzd)(d:(x=="__debug__")=ap<|>zzd)
  (f:bj (e::es) X.am=(ap,eval e X.am)::bj es X.am<|>zzr) (k:((dM pos<|bj es X.am).any (·.1)=ap)<|>zzr):aX X (.Call (.Name x p) (e::es) [] pos) (kI r t):=by
 intro pins s σ H Q J h;show l2<|mF J g i l (ak4 (bp (b pos pins s σ H _ J h) λay aj {vs,an,a,n,(m)}=>c pins aj σ an vs ay Q a n m) f k) j d
def uk(c:fz X (.type T) r)(g:ea X x)(i:X.mg x=ag)(l:h3 x=I (.type T))(b:d2 X (e::es) t)(j:x≠"__name__"<|>zzd)(d:(x=="__debug__")=ap<|>zzd)
  (f:bj (e::es) X.am=(ap,eval e X.am)::bj es X.am<|>zzr) (k:((dM pos<|bj es X.am).any (·.1)=ap)<|>zzr):aX X (.Call (.Name x p) (e::es) [] pos) (kI r t):=by
 intro pins s σ H Q J h;show l2<|mF J g i l (q1 (bp (b pos pins s σ H _ J h) λay aj {vs,an,a,n,(m)}=>c pins aj σ an vs ay Q a n m) f k) j d
end
end L2
namespace HT
open PySem PyProof.Rows
section
open PySem.SeqAt
open PySem.AutoSeq1 (wpAny_loadPart')
open PySem.MeetsSeq PySem.MeetsSeq2 PySem.MeetsSeq3
end
section
variable{prog:bS}{w:bL}{A:db}{E:az->bb->Prop}{s:bb}
def cY(n d:Nat):(Option Int->Nat)
 |none=>d
 |some v=>if v<0 then(v+n).toNat else min v.toNat n
def Ke n d:cY n d ag=d:=D
def rv(n d k:Nat):cY n d (I k)=min k n:=by
 rfl
def Kf n d(af:d<=n) o:cY n d o<=n:=by
 cases o with
 |none=>show af
 |some v=>
  change(if v<0 then(v+n).toNat else min v.toNat n)<=n;by_cases h:v<0
  .rw[aM h];show Int.toNat_le.mpr<|Nat.zoC h
  .rw[aD h];show Nat.min_le_right ..
end
end HT
namespace L2
open PySem PySem.Spec PyProof.Rows
abbrev jf:=St->aP->(Option Int->aP->Prop)->Prop
def yU X e(t:jf):=
 ∀pins s (σ:St) H Q,aC X pins σ H s->t σ H Q->
  aR (aU X.prog X.w) X.A (evalPart e X.am) (λu s'=>∃o U,aC X pins σ U s'/\IsPart u o/\Q o U) X.cT s
def Vn:(jf):=λ_ H Q=>Q ag H
def Vi(t:bD):(jf):=λσ H Q=>t σ H λx an=>∃i,x= .int i/\Q (I i) an
section
variable{X:bO}{e:Expr}{bW:bD}{lo au:Option Expr}{bV n9:jf}{pos cQ:Pos}
def iH:yU X ag Vn:=by intro pins s σ H Q J h;show a7 {ag,H,J,.none,h}
def hc(h:aX X e bW):yU X (I e) (Vi bW):=by intro pins s σ H Q J ax;show bp (h pins s σ H _ J ax) λu aj {x,an,a,c,(b)}=>?_;let{i,rfl,(q)}:=b;let{t,(rfl)}:=c;show{I i,an,a,.int i t,q}
def EZ X(r:ab->Option Int->Option Int->aP->dR->Prop):=
 ∀pins s (σ:St) H x v a b lo au sl Q,aC X pins σ H s->cb x v->s.heap.IsSliceOf sl a b .none->IsPart a lo->IsPart b au->r x lo au H Q->
  ∃T id,sL (.type T) "__getitem__"=pure (I<|.builtin id)/\s.TypeIs v T/\aR (aU X.prog X.w) X.A (getItem v<|.ref sl) (f8 X pins σ Q) X.cT s
def Vf(r:ab->Option Int->Option Int->aP->dR->Prop)(bW:bD)(bV n9:jf):(bD):=λσ H Q=>bW σ H λx an=>bV σ an λl aw=>n9 σ aw λu a=>r x l u a Q
def hR(t:EZ X r)(n:aX X e bW)(p:yU X lo bV)(y:yU X au n9):aX X (.Subscript e (.Slice lo au ag cQ) pos) (Vf r bW bV n9):=by
 intro pins s σ H Q J h;show F3<|bp (n pins s σ H _ J h) λv aj {x,an,g,E,(B)}=>wpAny_Slice<|bp (p pins aj σ an _ g B) λc aA {l,aw,i,z,(C)}=>bp (y pins aA σ aw _ i C) λd a {u,f,j,A,(D)}=>a7 ?_;have k:aC X pins σ f {a with heap:=a.heap.push {cls:=.type "slice",data:=.fields #[c,d,.none]}}:=j.fc λb ob q=>cB _ q
 let{T,id,m,w,(o)}:=t pins {a with heap:=a.heap.push {cls:=.type "slice",data:=.fields #[c,d,.none]}} σ f x v c d l u a⁻¹ Q k E (Heap.IsSliceOf.new ..) z A D
 show tail_any w m o (by rfl)
def lJ(xs:List ab) lo au:=(xs.drop<|HT.cY ↥xs 0 lo).take<|HT.cY ↥xs ↥xs au-HT.cY ↥xs 0 lo
def ah6 xs lo au:↥(lJ xs lo au)<=ac xs:=by unfold lJ;rw[g8,gn];omega
end
def oA(n:Nat)(i:Int):=if 0<=i then(if i<n then I i.toNat else ag)else if-n<=i then I (i+n).toNat else ag
def kZ{α:Type}(xs:List α) i:=(oA ↥xs i).bind λj=>xs[j]?
def ade(h:oA n i=I j):zp i n=I j/\j<n/\ -n<=i/\i<n:=by
 unfold oA at h;by_cases a:0<=i
 .rw[aM a]at h;by_cases O:i<n
  .rw[aM O]at h;have e:=d3 h;show{by rw[seqIndex_of a O,e],∅,∅,O}
  grind
 .rw[aD a]at h;by_cases O: -n<=i
  .rw[aM O]at h;have e:=d3 h;show{by rw[seqIndex_neg ∅ O,e],∅,O,∅}
  .grind
def Ez(h:kZ xs i=I v):∃j,zp i (ac xs)=I j/\xs[j]? =I v/\j<ac xs/\ -ac xs<=i/\i<ac xs:=by
 unfold kZ at h;cases e:oA ↥xs i with
 |none=>rw[e]at h;cases h
 |some j=>
  rw[e]at h
  let{O,Y,a,(b)}:=ade e
  grind
def dy{j:Nat}(h:xs[j]? =I v):kZ xs j=I v:=by
 have a:=(ee.mp h).1;have e:oA ↥xs j=I j:=by unfold oA;rw[aM ∅,aM ∅];simp
 unfold kZ;show e▸h
def aiO(xs:List α) v:kZ (xs++[v]) (-1)=I v:=by
 have a:↥(xs++[v])=ac xs+1:=by simp
 have e:oA ↥(xs++[v]) (-1)=I ↥xs:=by unfold oA;rw[aD ⋯,aM ∅];congr 1;omega
 unfold kZ;rw[e];simp
def ajh b:=∀o i,zn b ap o i=operate [o,i] (getItem o i)
def sx X(r:it):=
 ∀value slice pins s (σ:St) H x y v u Q,aC X pins σ H s->cb x v->cb y u->r x y H Q->
  zn slice ap v u=operate [v,u] (getItem v u)->aR (aU X.prog X.w) X.A (subscriptTail value slice v u) (f8 X pins σ Q) X.cT s
def nI X id(r:ab->List ab->aP->dR->Prop):=
 ∀pins s (σ:St) H x xs v ay Q,aC X pins σ H s->cb x v->bF xs ay->r x xs H Q->
  aR (aU X.prog X.w) X.A (call (.builtin id)<|v::ay) (f8 X pins σ Q) X.cT s
section
variable{X:bO}{a b:Expr}{bc cj:bD}{pos:Pos}
def dc(f:sx X r)(d:aX X a bc)(e:aX X b cj)(g:ajh b):aX X (.Subscript a b pos) (wT r bc cj):=by intro pins s σ H Q J h;show F3<|Et d e J h λv u aA x y aw c i j q=>f a b pins aA σ aw x y v u Q c i j q<|g _ _
inductive KV(K:b9)(x:ab)(y:ab)(H:aP)(Q:dR):Prop|mk(p xs i v)(_:x= .ref p)(_:y= .int i)(_:aB K H p xs)(_:kZ xs i=I v)(_:Q v H)
inductive KU(K:b9)(x:ab)(y:ab)(H:aP)(Q:dR):Prop|mk(p xs i v)(_:x= .ref p)(_:y= .int i)(_:d1 K H p xs)(_:kZ xs i=I v)(_:Q v H)
inductive Zq(x:ab)(y:ab)(H:aP)(Q:dR):Prop|mk(z i c)(_:x= .str z)(_:y= .int i)(_:↥z<=bg)(_:kZ z.cps.toList i=I c)(_:Q (.str ⟨#[c]⟩) H)
def eB:sx X (KV X.K):=by
 intro value slice pins s σ H x y v u Q J o A h e;let{p,xs,i,z,rfl,rfl,m,k,(q)}:=h;cases o;let{t,(rfl)}:=A
 let{aW,r,b,(hz)}:=J.list m
 let{j,O,Y,B,f,(g)}:=Ez k
 let{w,c,(n)}:=r.get Y
 have l:=↥r;have C:=uF;have fin:f8 X pins σ Q w s:={z,H,J,n,(q)};by_cases d:0<=i
 .have a:=by
   rw[seqIndex_of d g]at O;show d3 O
  show item_listR b.isList d ∅ (by rw[a];simpa using c) fin e
 .have a:(i+(aW.toArray.size:Int)).toNat=j:=by
   rw[seqIndex_neg ∅ f]at O;show ed▸l▸d3 O
  show Rq (x:=w) b.isList.typeIs slot_list_getitem.lookup
   (wpAny_getItem_list_neg b.isList ∅ (by rw[ed]<;>omega) ∅ (by rw[a];simpa using c) {D,(fin)}) e
def r0:sx X (KU X.K):=by
 intro value slice pins s σ H x y v u Q J k l h f;let{p,xs,i,z,rfl,rfl,e,c,(q)}:=h;cases k;let{t,(rfl)}:=l
 let{aW,r,a,(hz)}:=J.tuple e
 let{j,O,Y,m,n,(o)}:=Ez c
 let{w,b,(g)}:=r.get Y
 have d:=↥r;have A:=uF;have fin:f8 X pins σ Q w s:={z,H,J,g,(q)};show Rq a.typeIs slot_tuple_getitem.lookup
  (getItem_tuple a ∅ ∅ (by rw[ed,<-d];show O) ‹b› {D,(fin)}) f
def x3:sx X Zq:=by
 intro value slice pins s σ H x y v u Q J l m h k;let{z,i,c,rfl,rfl,hz,f,(q)}:=h;let{t,(rfl)}:=l;let{t',(rfl)}:=m
 let{j,O,Y,n,d,(e)}:=Ez f
 have g:↥z.cps.toList=↥z:=by simp[RR]
 rw[g]at O d e;have o:=uF;show tail_any (o9 s z t) slot_str_getitem.lookup (getItem_str (c:=c) (by have a:decide (i< -(2^63:Int))=ap:=ck ∅;have b:decide (i>=2^63)=ap:=ck ∅;rw[a,b,pB]) (by rw[O];simpa using Y) {.str ⟨#[c]⟩,H,J.eL _,{_,D},q}) k
def Xd0 v(n:Nat):max 0 (min (if v<0 then v+(n:Int)else v) (n:Int))=((if v<0 then(v+n).toNat else min v.toNat n):Nat):=by
 by_cases h:v<0
 .rw[aM h,aM h,Int.min_eq_left (Nat.zoC h),Int.max_comm,Int.toNat_eq_max]
 .let{m,(rfl)}:=Int.eq_ofNat_of_zero_le (Int.not_lt.mp h)
  rw[aD h,aD h,hJ,Int.max_eq_right<|Int.le_min.mpr ⟨Int.natCast_nonneg _,Int.natCast_nonneg _⟩];obtain h|h:=Nat.le_total m n
  .rw[Nat.min_eq_left h,Int.min_eq_left<|Int.ofNat_le.mpr h]
  .rw[Nat.min_eq_right h,Int.min_eq_right<|Int.ofNat_le.mpr h]
def Xd lo au n:(qK lo au ag n).1=HT.cY n 0 lo/\(qK lo au ag n).2.1=HT.cY n n au/\(qK lo au ag n).2.2=1:=by
 show{?_,?_,D}
 .cases lo with
  |none=>simp[qK,HT.cY]
  |some i=>show Xd0 i n
 .cases au with
  |none=>simp[qK,HT.cY]
  |some i=>show Xd0 i n
def Xe(aW:List az) lo au:slicePick aW.toArray lo au ag=((aW.drop<|HT.cY ↥aW 0 lo).take<|HT.cY ↥aW ↥aW au-HT.cY ↥aW 0 lo).toArray:=by
 let{O,Y,(a)}:=Xd lo au aW.toArray.size
 unfold slicePick;rw[O,Y,a];simp only[sliceRange_one,pick_run]<;>rfl
inductive Zm(K:b9)(x:ab)(lo:Option Int)(au:Option Int)(H:aP)(Q:dR):Prop|mk(a xs)(_:x= .ref a)(_:aB K H a xs)(_:∀p,H p=ag->Q (.ref p) (al H p<|.ai<|lJ xs lo au))
def kL:EZ X (Zm X.K):=by
 intro pins s σ H x v j k lo au sl Q J i d f g h;let{a,xs,rfl,e,(q)}:=h;cases i
 let{aW,r,c,(hz)}:=J.list e
 have hlen:=↥r;show{"list",_,slot_list_getitem.lookup,c.isList.typeIs,wpAny_getItem_list_slice c.isList d f g .none () ?_<|by rw[ed]<;>omega};rw[Xe,<-hlen];show{.ref s⁻¹,_,J.gx (λb ob q=>cB _ q) (bA _) ?_,D,q _<|J.a0.fresh<|bA _};show{b5 (ah6 xs lo au) hz,_,0,(r.drop<|HT.cY ↥xs 0 lo).take<|HT.cY ↥xs ↥xs au-HT.cY ↥xs 0 lo,dC _ D}
def nB:(ab->Bool)
 |.bT=>aa
 |.a1 _=>aa
 |.int _=>aa
 |.str _=>aa
 |_=>ap
def oG:(ab->ab->Bool)
 |.bT,.bT=>aa
 |.a1 a,.a1 b=>a==b
 |.a1 a,.int b=>(if a then 1 else 0)==b
 |.int a,.a1 b=>a==(if b then 1 else 0)
 |.int a,.int b=>a==b
 |.str a,.str b=>a==b
 |_,_=>ap
def afN(e:cb y u)(c:cb x v)(f:nB y=aa)(d:nB x=aa):RY A s u v (oG y x):=by
 cases y with
 |bT=>
  cases e;cases x with
  |bT=>cases c;show akm _
  |a1 b=>cases c;show akp b
  |int b=>let{t,(rfl)}:=c;show ako b t
  |str b=>let{t,(rfl)}:=c;show akn b t
  |_=>show absurd (show ap=aa from d) eY
 |a1 a=>
  cases e;cases x with
  |bT=>cases c;show aku a
  |a1 b=>cases c;show akw a b
  |int b=>let{t,(rfl)}:=c;show akv a b t
  |str b=>let{t,(rfl)}:=c;show akt a b t
  |_=>show absurd (show ap=aa from d) eY
 |int a=>
  let{t',(rfl)}:=e;cases x with
  |bT=>cases c;show akq a t'
  |a1 b=>cases c;show aks a t' b
  |int b=>let{t,(rfl)}:=c;show akr a t' b t
  |str b=>let{t,(rfl)}:=c;show RX a t' b t
  |_=>show absurd (show ap=aa from d) eY
 |str a=>
  let{t',(rfl)}:=e;cases x with
  |bT=>cases c;show akk a t'
  |a1 b=>cases c;show akl a t' b
  |int b=>let{t,(rfl)}:=c;show RW a t' b t
  |str b=>let{t,(rfl)}:=c;show akj a t' b t
  |_=>show absurd (show ap=aa from d) eY
 |_=>show absurd (show ap=aa from f) eY
def i8 x(u:az):=match u with
 |.none=>oG .bT x
 |.bool b=>oG (.a1 b) x
 |.int i _=>oG (.int i) x
 |.str z _=>oG (.str z) x
 |_=>ap
def OG(r:cb y u)(f:nB y=aa):i8 x u=oG y x:=by
 cases y with
 |bT=>cases r;rfl
 |a1 b=>cases r;rfl
 |int i=>let{t,(rfl)}:=r;rfl
 |str z=>let{t,(rfl)}:=r;rfl
 |_=>show absurd (f) eY
def vk:∀{xs:List ab} {ay:List az},bF xs ay->xs.all nB=aa->ay.any (i8 x)=xs.any λy=>oG y x
 |_,_,.nil,_=>rfl
 |y::xs,u::ay,.cons r t,f=>by rw[ra,cf]at f;rw[wt,wt,OG r f.1,vk t f.2]
def uB(c:cb x v)(b:nB x=aa):∀{xs:List ab} {ay:List az},bF xs ay->xs.all nB=aa->∀u∈ay,RY A s u v<|i8 x u
 |_,_,.nil,_=>λu a=>by cases a
 |y::xs,u::ay,.cons r t,f=>λd a=>by
  rw[ra,cf]at f;obtain rfl|a:=bK.mp a
  .show OG r f.1▸afN r c f.1 b
  .show uB c b t f.2 d a
def im x(xs:List ab):=xs.any λy=>oG y x
inductive B7(K:b9)(neg:Bool)(x:ab)(y:ab)(H:aP)(Q:dR):Prop|mk(p xs)(_:y= .ref p)(_:(aB K H p xs\/d1 K H p xs))(_:nB x=aa)(_:xs.all nB=aa)(_:Q (.a1<|if neg then !im x xs else im x xs) H)
def rL:eE X (compareOp .In) (B7 X.K ap):=by
 intro pins s σ H x y v u Q J d e h;let{p,xs,rfl,a,c,aF,(q)}:=h;cases e;obtain a|a:=a
 .let{aW,r,b,(hz)}:=J.list a
  show SeqAt.in_listAt (i8 x) b.isList (λw ax=>uB d c r aF w<|‹ax›) {.a1 _,H,J,D,show aW.toArray.any (i8 x)=aW.any (i8 x) by simp▸vk r aF▸q}
 .let{aW,r,b,(hz)}:=J.tuple a
  show SeqAt.in_tupleAt (i8 x) b (λw ax=>uB d c r aF w<|by grind) {.a1 _,H,J,D,?_};rw[show aW.toArray.any (i8 x)=aW.any (i8 x) by simp,vk r aF];show q
def LN:eE X (compareOp .NotIn) (B7 X.K aa):=by
 intro pins s σ H x y v u Q J d e h;let{p,xs,rfl,a,c,aF,(q)}:=h;cases e;obtain a|a:=a
 .let{aW,r,b,(hz)}:=J.list a
  show SeqAt.notIn_listAt (i8 x) b.isList (λw ax=>uB d c r aF w<|‹ax›) {.a1 _,H,J,D,show aW.toArray.any (i8 x)=aW.any (i8 x) by simp▸vk r aF▸q}
 .let{aW,r,b,(hz)}:=J.tuple a
  show SeqAt.notIn_tupleAt (i8 x) b (λw ax=>uB d c r aF w<|by grind) {.a1 _,H,J,D,?_};rw[show aW.toArray.any (i8 x)=aW.any (i8 x) by simp,vk r aF];show q
inductive qsd9(K:b9)(xs:List ab)(H:aP)(Q:dR):Prop|mk(p ys)(_:xs=[.ref p])(_:(aB K H p ys\/d1 K H p ys))(_:Q (.int ↥ys) H)
def d9:fz X (.builtin "len") (qsd9 X.K):=by
 intro pins s σ H xs ay Q J r h;let{p,ys,rfl,a,(q)}:=h;let{u,rfl,(d)}:=n2 r;cases d;have e:=uF;obtain a|a:=a
 .let{aW,c,b,(hz)}:=J.list a
  have hlen:=↥c;show Calls.call_len_list b.isList (by simp only[ed]<;>omega) {.int ↥ys,H,J.eL _,{s.toks+1,by rw[ed,hlen]},q}
 .let{aW,c,b,(hz)}:=J.tuple a
  have hlen:=↥c;show len_tuple b (by simp only[ed]<;>omega) {.int ↥ys,H,J.eL _,{s.toks+1,by rw[ed,hlen]},q}
inductive qslL(xs:List ab)(H:aP)(Q:dR):Prop|mk(z)(_:xs=[.str z])(_:↥z<=bg)(_:Q (.int ↥z) H)
def lL:fz X (.builtin "len") qslL:=by intro pins s σ H xs ay Q J r h;let{z,rfl,hz,(q)}:=h;let{u,rfl,t,(rfl)}:=n2 r;have a:=uF;show len_str ∅ {.int ↥z,H,J.eL _,{_,D},q}
inductive Zp(K:b9)(xs:List ab)(H:aP)(Q:dR):Prop|mk(p ys)(_:xs=[.ref p])(_:(aB K H p ys\/d1 K H p ys))(_:∀l,H l=ag->Q (.ref l) (al H l<|.ai ys))
def Ee:fz X (.type "list") (Zp X.K):=by
 intro pins s σ H xs ay Q J r h;let{p,ys,rfl,d,(q)}:=h;let{u,rfl,(j)}:=n2 r;cases j;have fin:∀aW,bF ys aW->↥ys<=bg->∀h' a,(∀b bX,s.heap.get? b=I bX->h'.get? b=I bX)->
   h'.get? s⁻¹=I {cls:=.type "list",dict:=ag,data:=.seq aW.toArray a,slots:=#[]}->f8 X pins σ Q (.ref s⁻¹) {s with heap:=h'}:=λaW c hz h' a b6 e=>
  {.ref s⁻¹,_,J.gx b6 (bA _)<|show em X.prog X.w _ h' _ (.ai ys)from{hz,aW,a,c,(e)},D,q _<|J.a0.fresh<|bA _}
 obtain d|d:=d
 .let{aW,c,i,(hz)}:=J.list d
  have hlen:=↥c
  let{o,g,f,n,(af)}:=i.isList
  show RJ p (.inl D) g f af (λh' a b6 e=>fin aW c hz h' a b6 e) (by simp only[ed]<;>omega)
 .let{aW,c,i,(hz)}:=J.tuple d
  have hlen:=↥c
  let{o,g,f,n,(af)}:=i
  show RJ p (.inr D) g f af (λh' a b6 e=>fin aW c hz h' a b6 e) (by simp only[ed]<;>omega)
inductive qsu'(K:b9)(xs:List ab)(H:aP)(Q:dR):Prop|mk(p ys)(_:xs=[.ref p])(_:((aB K H p ys/\∀l,H l=ag->Q (.ref l) (al H l<|.aZ ys))\/(d1 K H p ys/\Q (.ref p) H)))
def u':fz X (.type "tuple") (qsu' X.K):=by
 intro pins s σ H xs ay Q J r h;let{p,ys,rfl,(h)}:=h;let{u,rfl,(i)}:=n2 r;cases i;obtain⟨a,q⟩|⟨a,q⟩:=h
 .let{aW,d,c,(hz)}:=J.list a
  have hlen:=↥d;show call_tuple_list c.isList (λh' b6=>?_) (by simp only[ed]<;>omega);have f:=J.fc (t':=s.toks) b6;have g:=
   f.gx (t':=s.toks) (λb o e=>cB _ e) (bA _) (show em X.prog X.w _ _ _ (.aZ ys)from{hz,aW,d,IsTup.new _ _})
  show{.ref h'.objs.size,_,g,D,q _<|f.a0.fresh<|bA _}
 .let{aW,d,c,(hz)}:=J.tuple a
  show call_tuple_same c {.ref p,H,J,D,q}
def AQ(K:b9)(T:String)(x:ab)(H:aP):(Prop):=match x with
 |.str _=>T="str"
 |.int _=>T="int"
 |.ref p=>(T="list"/\∃xs,aB K H p xs)\/(T="tuple"/\∃o,K.lookup p=I o/\o.cls= .type "tuple"/\o.dict=ag)\/
   (T="dict"/\((∃kvs,H p=I (.bJ kvs))\/∃kvs,H p=I (.cD kvs)))\/(T="set"/\∃S n,H p=I (.set S n))
 |_=>False
def Hv{σ:St}(J:aC X pins σ H s)(r:cb x v)(dz:AQ X.K T x H):
  s.TypeIs v T/\∀a,v= .ref a->∃ob,s.heap.get? a=I ob/\ob.dict=ag:=by
 cases x with
 |str z=>let{t,(rfl)}:=r;cases(dz);show{o9 s z t,λ_ e=>nomatch e}
 |int i=>let{t,(rfl)}:=r;cases(dz);show{typeIs_int s i t,λ_ e=>nomatch e}
 |ref p=>
  cases r;obtain⟨rfl,xs,h⟩|⟨rfl,o,b,g,af⟩|⟨rfl,b⟩|⟨rfl,S,n,b⟩:=dz
  .let{aW,_,f,_}:=J.list h
   show{f.isList.typeIs,λa e=>?_};cases e
   let{o,n,e,c,af,_}:=f
   grind
  .show{{o,J.e5 p o b,g},λa e=>?_};cases e;show{o,J.e5 _ o b,af}
  .have z:∃o,s.heap.get? p=I o/\o.ExactDict:=by
    obtain⟨kvs,b⟩|⟨kvs,b⟩:=b
    .let{_,_,_,_,o,_,_,e,bE,_}:=J.a0 p _ b
     show{o,e,(bE)}
    .let{_,_,_,_,o,_,_,e,bE,_}:=J.a0 p _ b
     grind
   let{o,e,(bE)}:=z
   show{{o,e,(bE.1)},λa d=>?_};cases d;show{o,e,(bE.2.1)}
  .let{o,_,_,_,e,bE,_}:=J.a0 p _ b
   show{{o,e,(bE.1)},λa d=>?_};cases d;show{o,e,(bE.2.1)}
 |_=>show gJ dz
def HQ(K:b9)(T:String)(r:ab->List ab->aP->dR->Prop)(dO:bD):(bD):=λσ H Q=>dO σ H λx an=>AQ K T x an/\r x [] an Q
def wW(K:b9)(T:String)(r:ab->List ab->aP->dR->Prop)(dO:bD)(t:fF):(bD):=λσ H Q=>dO σ H λx an=>AQ K T x an/\t σ an λxs aw=>r x xs aw Q
variable{o e:Expr}{es:List Expr}{dO:bD}{t:fF}{name:Str}{apos gg:Pos}{T id:String}{r:ab->List ab->aP->dR->Prop}
def Z2(i:PlainAttrs T)(slot:Slot T name id)(g:vR (.builtin id)=pure (.type "method_descriptor"))(e:nI X id r)(f:aX X o dO)
  (c:iw o name X.am (eval o X.am)=eval o X.am<|>zzr) (d:(apos.endLine==gg.line)=aa<|>zzr):aX X (.Call (.Attribute o name apos) [] [] gg) (HQ X.K T r dO):=by
 intro pins s σ H Q J h;show wpAny_Call_method0_late c d<|bp (f pins s σ H _ J h) λv aj {x,an,a,b,dz,(j)}=>?_
 let{O,(Y)}:=Hv a b dz
 show{T,id,i,slot,g,O,Y,As D<|PySem.evalArgs_none<|e pins aj σ an x [] v [] Q a b .nil j}
def Cn(q:PlainAttrs T)(slot:Slot T name id)(p:vR (.builtin id)=pure (.type "method_descriptor"))(k:nI X id r)(l:aX X o dO)(f:d2 X (e::es) t)
  (g:iw o name X.am (eval o X.am)=eval o X.am<|>zzr)
  (i:(((dM gg<|bj (e::es) X.am).all (λx=> !x.1)&&(m9 gg<|m4 [] X.am).all (λx=>x.1.isSome)
   &&decide (↥(e::es)+↥([]:List md)+(if([]:List md).isEmpty then 0 else 1)<30))=aa)<|>zzr)
  (j:(apos.endLine==gg.line)=aa<|>zzr) (n:bj (e::es) X.am=(ap,eval e X.am)::bj es X.am<|>zzr) (m:((dM gg<|bj es X.am).any (·.1)=ap)<|>zzr):
  aX X (.Call (.Attribute o name apos) (e::es) [] gg) (wW X.K T r dO t):=by
 intro pins s σ H Q J h;show wpAny_Call_method_late g i j D<|bp (l pins s σ H _ J h) λv aj {x,an,a,c,dz,(u)}=>?_
 let{O,(Y)}:=Hv a c dz
 show{T,id,q,slot,p,O,Y,?_};have b:=f gg pins aj σ an _ a u;rw[n]at b⊢;show As (by change(ap||(dM gg<|bj es X.am).any (·.1))=ap;rw[m]<;>rfl)<|GR<|bp b λay aA {vs,aw,d,y,(w)}=>k pins aA σ aw x vs v ay Q d c y w
end
def yW X id(r:ab->List ab->aP->dR->Prop):=
 ∀pins s (σ:St) H x xs v ay Q,aC X pins σ H s->cb x v->bF xs ay->r x xs H Q->
  aR (aU X.prog X.w) X.A (call (.builtin id)<|v::ay) (f8 X pins σ Q) X.cT s
def bF.one:∀{x:ab} {ay:List az},bF [x] ay->∃u,ay=[u]/\cb x u
 |_,_,.cons r .nil=>{_,D,r}
def bF.zero:∀{ay:List az},bF [] ay->ay=[]
 |_,.nil=>rfl
def bF.dropLast(h:bF xs ay):bF xs.dropLast ay.dropLast:=by
 induction h with
 |nil=>show .nil
 |cons r t a=>
  cases t with
  |nil=>show .nil
  |cons q t'=>show .cons r a
def bF.eraseIdx:∀{xs:List ab} {ay:List az} i,bF xs ay->bF (xs.eraseIdx i) (ay.eraseIdx i)
 |_,_,_,.nil=>.nil
 |_,_,0,.cons _ t=>t
 |_,_,i+1,.cons r t=>.cons r<|bF.eraseIdx i t
def alz{α:Type}(l:List α):l.eraseIdx (ac l-1)=l.dropLast:=by
 simp
def Nj{α:Type}:∀(l:List α) i,↥(l.eraseIdx i)<=ac l
 |[],_=>bA _
 |_::_,0=>jZ _
 |_::r,i+1=>SD<|Nj r i
section
variable{X:bO}{pins:List (ao×Obj)}{σ:St}{H:aP}{s:bb}{l b:ao}{xs ys zs:List ab}
def aC.xZ{aW:List az}(J:aC X pins σ H s)(a:H l=I (.ai xs))
  (e:s.heap.get? l=I {cls:=.type "list",data:=.seq aW.toArray n}) (c:f aW.toArray=b7.toArray) (g:bF ys b7) (hz:ac ys<=bg):
  aC X pins σ (al H l<|.ai ys) {s with heap:=s.heap.update l<|ga f,toks:=t'}:=by
 have q:=PySem.IsL.update e f;rw[c]at q;show J.mi (a▸trivial) (.inl D) (λh u b d=>(jv s.heap (ga f)<|eo b).trans d) {_,q}<|{hz,b7,_,g,q}
def aC.acE(J:aC X pins σ H s)(a:bF ys aW)(hz:ac ys<=bg):
  aC X pins σ (al H s⁻¹<|.ai ys) {s with heap:=s.heap.push {cls:=.type "list",data:=.seq aW.toArray},toks:=t'}:=
 J.gx (λ_ _ q=>cB _ q) (bA _) {hz,aW,0,a,dC _ D}
def aC.fresh(J:aC X pins σ H s):H s⁻¹=ag:=J.a0.fresh<|bA _
def aC.p'(J:aC X pins σ H s)(a:H l=I (.ai xs)):↥xs<=bg/\∃(aW:List az) (n:Nat),bF xs aW/\↥xs=↥aW/\s.heap.get? l=I {cls:=.type "list",data:=.seq aW.toArray n}:=by
 let{z,aW,n,r,(e)}:=J.a0 l _ a
 show{z,aW,n,r,↥r,(e)}
def abZ(h:n<=bg):TM n=ap:=ck ∅
end
section
variable{X:bO}
inductive KX(x:ab)(vs:List ab)(H:aP)(Q:dR):Prop|mk(l xs y)(_:x= .ref l)(_:vs=[y])(_:H l=I (.ai xs))(_:ac xs<bg)(_:Q .bT (al H l<|.ai<|xs++[y]))
def acr:yW X "list.append" KX:=by
 intro pins s σ H x vs v ay Q J d c h;let{l,xs,y,rfl,rfl,a,hz,(q)}:=h;cases d;let{u,rfl,(b)}:=c.one
 let{z,aW,n,r,f,(e)}:=J.p' a
 show pd F.slot_list_append {_,e,D} F.entry_list_append (F.args_list_append_2 _ _) (PySem.list_append l aW.toArray n u<|by rw[ed];omega) {e,{.bT,_,J.xZ a e () (r.append<|.cons b .nil) ?_,D,q}};rw[b0,lb];omega
inductive B8(x:ab)(vs:List ab)(H:aP)(Q:dR):Prop|mk(l b xs zs)(_:x= .ref l)(_:vs=[.ref b])(_:H l=I (.ai xs))(_:H b=I (.ai zs))(_:ac xs+ac zs<=bg)(_:Q .bT (al H l<|.ai<|xs++zs))
def acp:yW X "list.extend" B8:=by
 intro pins s σ H x vs v ay Q J o m h;let{l,b,xs,zs,rfl,rfl,c,f,hz,(q)}:=h;cases o;let{u,rfl,(k)}:=m.one;cases k
 let{z,aW,n,r,p,(e)}:=J.p' c
 let{w,a,i,j,t,(d)}:=J.p' f
 have hsz:aW.toArray.size+a.toArray.size<=bg:=by rw[ed,ed];omega
 have g:¬(!aW.toArray.isEmpty&&TM (aW.toArray.size+a.toArray.size))=aa:=by rw[abZ hsz,tE];simp
 show pd F.slot_list_extend {_,e,D} F.entry_list_extend (F.args_list_extend_2 _ _)
  (AutoSeq1.list_extend_list_list_0 l aW.toArray n b a.toArray i g ∅ ∅) {e,d,{.bT,_,J.xZ c e () (r.append j) ?_,D,q}}
 rw[b0];omega
inductive KR(x:ab)(vs:List ab)(H:aP)(Q:dR):Prop|mk(l xs y)(_:x= .ref l)(_:vs=[])(_:H l=I (.ai xs))(_:xs[ac xs-1]? =I y)(_:Q y (al H l<|.ai xs.dropLast))
def acm:yW X "list.pop" KR:=by
 intro pins s σ H x vs v ay Q J k j h;let{l,xs,y,rfl,rfl,a,f,(q)}:=h;cases k;have d:=j.zero;subst d
 let{z,aW,n,r,b,(e)}:=J.p' a
 let{u,c,(i)}:=r.get f
 have g:=by change aW.toArray[ac aW-1]? =I u;show j5▸b▸c
 show pd TB {_,e,D} TG (F.args_list_pop_1 _) (MeetsSeq.list_pop_last l aW.toArray n u g<|by rw[ed];omega) {e,{y,_,J.xZ a e ?_ r.dropLast ?_,i,q}}
 .simp
 .rw[List.length_dropLast];omega
inductive KQ(x:ab)(vs:List ab)(H:aP)(Q:dR):Prop|mk(l xs i k y)(_:x= .ref l)(_:vs=[.int i])(_:H l=I (.ai xs))(_: -(2^63)<=i)(_:i<2^63)(_:zp i (ac xs)=I k)(_:xs[k]? =I y)(_:Q y (al H l<|.ai<|xs.eraseIdx k))
def acl:yW X "list.pop" KQ:=by
 intro pins s σ H x vs v ay Q J m g h;let{l,xs,i,k,y,rfl,rfl,a,O,Y,b,d,(q)}:=h;cases m;let{u,rfl,(f)}:=g.one;let{t,(rfl)}:=f
 let{z,aW,n,r,c,(e)}:=J.p' a
 let{w,ax,(j)}:=r.get d
 show pd TB {_,e,D} TG (F.args_list_pop_2 _ _)
  (MeetsSeq.list_pop_at l aW.toArray n i t k w (fitsIndex_both O Y) (by show ed▸c▸b) (j5▸ax)<|by rw[ed];omega) {e,{y,_,J.xZ a e ?_ (r.eraseIdx k) ?_,j,q}}
 .simp
 .have:=Nj xs k;omega
inductive Zt(x:ab)(y:ab)(H:aP)(Q:dR):Prop|mk(l b xs zs)(_:x= .ref l)(_:y= .ref b)(_:H l=I (.ai xs))(_:H b=I (.ai zs))(_:ac xs+ac zs<=bg)(_:∀p,H p=ag->Q (.ref p) (al H p<|.ai<|xs++zs))
def lw:eE X (binaryOp .Add) Zt:=by
 intro pins s σ H x y v u Q J j k h;let{l,b,xs,zs,rfl,rfl,g,f,hz,(q)}:=h;cases j;cases k
 let{z,aW,n,r,m,(e)}:=J.p' g
 let{t,a,p,i,o,(c)}:=J.p' f
 show PySem.P.add_list e c ?_ (by rw[ed,ed];omega);have d:aW.toArray++a.toArray=(aW++a).toArray:=by simp
 rw[d];show{.ref _,_,J.acE (r.append i)<|by rw[b0];omega,D,q _ J.fresh}
end
section
variable{prog:bS}{w:bL}{A:db}{E:az->bb->Prop}{s:bb}
set_option maxRecDepth 100000 in
end
section
variable{X:bO}
end
def bF.ints:∀{ns:List Int} {ay:List az},bF (ns.map ab.int) ay->ww ay ns
 |[],ay,h=>by cases h;show IntsAre.nil
 |n::ns,ay,h=>by
  cases h with
  |cons r t=>let{k,(rfl)}:=r;show IntsAre.cons n k<|bF.ints t
def Hl:∀{ay:List az} {ns:List Int},ww ay ns->bF (ns.map ab.int) ay
 |_,_,.nil=>Paired.nil
 |_,_,.cons n t h=>Paired.cons ({t,(rfl)})<|Hl h
def bF.strs:∀{xs:List Str} {ay:List az},bF (xs.map ab.str) ay->StrsAre ay xs
 |[],ay,h=>by cases h;show StrsAre.nil
 |x::xs,ay,h=>by
  cases h with
  |cons r t=>let{k,(rfl)}:=r;show StrsAre.cons x k<|bF.strs t
def bF.Px:∀{b':List Bool} {ay:List az},bF (b'.map ab.a1) ay->ay=b'.map v2
 |[],ay,h=>by cases h;rfl
 |b::b',ay,h=>by
  cases h with
  |cons r t=>cases r;rw[bF.Px t,cx]
def bF.rA(r:bF [ab.ref a] ay):ay=[cM a]:=by
 cases r with
 |cons r t=>cases t;cases r;rfl
section
variable{prog:bS}{w:bL}{A:db}{E:az->bb->Prop}{s:bb}{l:ao}{aW:List az}{ns:List Int}{Q:az->bb->Prop}
def acu(g:A.handled=ag)(c:s.heap.IsList l aW.toArray)(au:ww aW ns)(m:0<ac ns)
  (h:∀h' tk M t',(∀b o,s.heap.get? b=I o->h'.get? b=I o)->M∈ns->(∀a,a∈ns->a<=M)->Q (.int M t') {s with heap:=h',toks:=tk}):aR (aU prog w) A (call (.builtin "max") [.ref l]) Q E s:=by
 let{xs,(e)}:=au.allInts.items
 have d:numsOf (intItems xs).toList=ns:=e▸au.numsOf;rw[nums_intItems]at d;subst d;rw[e]at c;have hsz:=‹m›
 show PySem.max_intList g c hsz λv h' tk n k=>?_;let{t,(rfl)}:=intItems_at n
 let{O,(Y)}:=argBest_gt (numAt xs)<|xs.size-1
 show h h' tk _ t k ?_ λa f=>?_
 .rw[numAt_eq];show PySem.getD_mem (by rw[bt,n0];omega)
 .let{j,i,(rfl)}:=mem_getD f;rw[bt,n0]at i;rw[<-numAt_eq];show Y j ∅
end
section
variable{X:bO}
inductive Zo(K:b9)(vs:List ab)(H:aP)(Q:dR):Prop|mk(a:ao)(ns:List Int)(_:vs=[ab.ref a])(_:aB K H a (ns.map ab.int))(_:0<ac ns)(_:∀m,m∈ns->(∀y,y∈ns->y<=m)->Q (.int m) H)
def ah'(b:X.hf=aa):fz X (.builtin "max") (Zo X.K):=by
 intro pins s σ H vs ay Q J r h;let{a,ns,rfl,f,e,(q)}:=h
 let{aW,g,d,_}:=J.list f
 show bF.rA r▸acu (J.ok.af b) d.isList g.ints e λh' tk m t' c O Y=>{.int _,H,J.fc c,{_,D},q m O Y}
end
section
variable{X:bO}
end
section
variable{X:bO}
end
def adi(b:s.heap.IsList l items)
  (h:∀a,a={s with heap:=s.heap.push {cls:=.type "list_iterator",data:=.fields #[.ref l,.int 0 0]}}->
   (a.heap.IsListIter s⁻¹ l 0/\a.heap.IsList l items)->l≠s⁻¹->Q (.ref s⁻¹) a):aR (aU prog w) A (pyIter<|.ref l) Q E s:=by
 have c:l<s⁻¹:=by let{_,e,_}:=b;show cm e
 show zg b<|h _ D {{_,dC _ D,D,D},b.push _}<|du c
def UO{b':List Bool}(e:aW=b'.map v2):
  TruthOf prog w A (λi v=>aW.toArray[i]? =I v) (λi=>b'.getD i ap):=λi v s Q E h g=>by
 have c:=‹h›
 rw[e,cO]at c;let{b,d,(rfl)}:=Sv.mp c;have f:b'.getD i ap=b:=by rw[pv,d]<;>rfl
 have a:Q (b'.getD i ap) s:=g;rw[f]at a;show m3 a
def PL:∀b':List Bool,(dv ↥b').all (λi=>b'.getD i ap)=b'.all id
 |[]=>rfl
 |b::b'=>by rw[cz,SS,ra,nY,ra,<-PL b'];all_goals rfl
section
variable{X:bO}
inductive Zu(K:b9)(vs:List ab)(H:aP)(Q:dR):Prop|mk(a:ao)(b':List Bool)(_:vs=[ab.ref a])(_:aB K H a (b'.map ab.a1))(_:Q (.a1<|b'.all id) H)
def oK(i:X.hf=aa):fz X (.builtin "all") (Zu X.K):=by
 intro pins s σ H vs ay Q J r h;let{a,b',rfl,m,(q)}:=h
 let{aW,n,k,_}:=J.list m
 rw[bF.rA r];have e:=n.Px;show call_all_walk<|adi k.isList λp g st l=>?_;subst g;show{_,_,_,_,_,_,_,D,FY (A:=X.A.in1) (J.ok.af i) _ a l aW.toArray,st,UO e,λh' tk j=>{.a1 _,H,J.fc λb o d=>j b o (λc=>?_)<|cB _ d,?_,q}}
 .obtain f|c:=bK.mp c
  .show absurd (f▸cm d) ()
  .cases c
 .change v2 _=v2 _;rw[<-PL,e,ed,bt]
end
mutual
inductive dS(K:b9)(H:aP):ab->eX->Prop
 |bT:dS K H .bT .none
 |a1 (b:Bool):dS K H (.a1 b) (.bool b)
 |int (i:Int):dS K H (.int i) (.int i)
 |str (x:Str):dS K H (.str x) (.str x)
 |ai {a:ao} {xs:List ab} {a3:List eX}:aB K H a xs->iv K H xs a3->dS K H (.ref a) (.list a3)
 |aZ {a:ao} {xs:List ab} {a3:List eX}:d1 K H a xs->iv K H xs a3->dS K H (.ref a) (.tuple a3)
inductive iv(K:b9)(H:aP):List ab->List eX->Prop
 |nil:iv K H [] []
 |cons {v:ab} {vs:List ab} {d:eX} {a3:List eX}:dS K H v d->iv K H vs a3->iv K H (v::vs) (d::a3)
end
section
variable{X:bO}{pins:List (ao×Obj)}{σ:St}{H:aP}{s:bb}
mutual
theorem dS.nr(J:aC X pins σ H s):∀(d:eX) (v:ab) (u:az),dS X.K H v d->cb v u->∃as,ph s.heap u d as
 |.none,_,_,h,r=>by cases h;cases r;show{_,Reads.none}
 |.bool b,_,_,h,r=>by cases h;cases r;show{_,Reads.bool b}
 |.int i,_,_,h,r=>by cases h;let{t,(rfl)}:=r;show{_,Reads.int i t}
 |.str x,_,_,h,r=>by cases h;let{t,(rfl)}:=r;show{_,Reads.str x t}
 |.list a3,_,_,h,r=>by
  cases h with
  |ai g a=>cases r;let{aW,j,{o,n,e,c,_,af},_}:=J.list g;let{as,(f)}:=dS.pZ J a3 _ aW a j;show{_,Reads.list e c af f}
 |.tuple a3,_,_,h,r=>by
  cases h with
  |aZ g a=>cases r;let{aW,j,{o,e,c,n,(af)},_}:=J.tuple g;let{as,(f)}:=dS.pZ J a3 _ aW a j;show{_,Reads.tuple e c af f}
 |.dict _,_,_,h,_=>by cases h
theorem dS.pZ(J:aC X pins σ H s):∀(a3:List eX) (vs:List ab) (ay:List az),iv X.K H vs a3->bF vs ay->∃as,v4 s.heap ay a3 as
 |[],_,_,h,r=>by cases h;cases r;show{_,ReadsAll.nil}
 |d::a3,_,_,h,r=>by
  cases h with
  |cons O Y=>
   cases r with
   |cons b7 dY=>let{as,(q)}:=dS.nr J d _ _ O b7;let{b',(a)}:=dS.pZ J a3 _ _ Y dY;show{_,ReadsAll.cons q a}
end
end
section
variable{X:bO}
inductive Zr(K:b9)(x:ab)(y:ab)(H:aP)(Q:dR):Prop|mk(d e)(_:dS K H x d)(_:dS K H y e)(_:kA d=aa)(_:kA e=aa)(_:Q (.a1<|fJ d e) H)
def Cz(b:X.A.units+64<eW):eE X (compareOp .Eq) (Zr X.K):=by
 intro pins s σ H x y v u Q J g i h
 let{d,e,af,a,j,k,(q)}:=h
 let{as,(c)}:=dS.nr J d x v af g
 let{b',(f)}:=dS.nr J e y u a i
 show SeqAt.compareEq_shaped c f j k b {.a1 _,H,J,D,q}
end
abbrev Q5(h:bG) c v:=h.IsCell c v
def Ze(scope b7:jq):(jq):=
 {scope with names:=scope.names.map λ(n,k)=>if(k== .free&&b7.kind== .function&&b7.names.lookup n==I .cell)then(n,.cell)else(n,k)}
def gT(cells:List (Str×ao)):(List (Str×j0)->List (Str×ao)->List (Str×ao))
 |[],acc=>acc
 |(n,k)::r,acc=>if k== .free then gT cells r ((n,(cells.lookup n).getD 0)::acc)else gT cells r acc
def Pc am f
  (g:∀n k c,f (n,k) c=if k== .free then(do let a<-cellOf am n;pure (.yield<|(n,a)::c))else pure (.yield c)):
  ∀names acc,(∀y∈names,y.2= .free->∃c,am.cells.lookup y.1=I c)->forIn names acc f=pure (gT am.cells names acc)
 |[],acc,_=>by rfl
 |(n,k)::r,acc,h=>by
  rw[Ae,g];have q:=λacc=>Pc am f g r acc λy j=>h y<|eJ _ j;unfold gT;by_cases b:(k==tm)=aa
  .rw[aM b,aM b]
   let{c,(d)}:=h (n,k) i1 ‹b›
   have e:cellOf am n=pure c:=by unfold cellOf;rw[d]
   rw[e];have i:(am.cells.lookup n).getD 0=c:=by rw[d];rfl
   rw[i];show q _
  .rw[aD b,aD b];show q _
def aij(h:∀y∈scope.names,y.2= .free->∃c,am.cells.lookup y.1=I c):closureFor scope am=pure (gT am.cells scope.names []):=by simp only[closureFor];rw[Pc am _ (λn k c=>D) scope.names [] h];rfl
def C4{α:Type}:∀{l:List (Str×α)} {n:Str} {c:α},(n,c)∈l->∃a,l.lookup n=I a
 |(k,v)::r,n,c,h=>by
  rw[q8];cases q:n==k with
  |true=>show{_,D}
  |false=>
   obtain e|h:=bK.mp h
   .cases e;simp at q
   .show C4 h
def yo:∀{names:List (Str×j0)} {acc:List (Str×ao)} {n:Str} {c:ao},(n,c)∈gT cells names acc->(n,c)∈acc\/((n,.free)∈names/\c=(cells.lookup n).getD 0)
 |[],_,_,_,h=>.inl h
 |(m,k)::r,acc,n,c,h=>by
  unfold gT at h;split at h
  .rename_i q;have q:=‹q›
   obtain h|⟨O,Y⟩:=yo h
   .obtain e|h:=bK.mp h
    .cases e;show .inr {q▸i1,D}
    .show .inl h
   .show .inr {eJ _ O,Y}
  .obtain h|⟨O,Y⟩:=yo h
   .show .inl h
   .show .inr {eJ _ O,Y}
def D9:∀{names:List (Str×j0)} {acc:List (Str×ao)} {p:Str×ao},p∈acc->p∈gT cells names acc
 |[],_,_,h=>h
 |(m,k)::r,acc,p,h=>by
  unfold gT;split
  .show D9<|eJ _ h
  .show D9 h
def D8:∀{names:List (Str×j0)} {acc:List (Str×ao)} {n:Str},(n,.free)∈names->(n,(cells.lookup n).getD 0)∈gT cells names acc
 |(m,k)::r,acc,n,h=>by
  unfold gT;obtain e|h:=bK.mp h
  .cases e;show D9 i1
  .split
   .show D8 h
   .show D8 h
def u9:∀{names:List (Str×j0)} {h:bG} {acc:List (Str×ao)} {x:Str} {c:ao},(x,c)∈g6 h.objs.size names acc->
  (x,c)∈acc\/((x,.cell)∈names/\h.objs.size<=c/\Q5 (pa h names) c ag)
 |[],_,_,_,_,h=>.inl h
 |(n,k)::r,h,acc,x,c,q=>by
  unfold g6 at q;unfold pa;split at q
  .rename_i b7;rw[aM b7];have b7:=‹b7›
   rw[<-hn h {cls:=.type "cell",data:=.cell ag}]at q;obtain q|⟨O,Y,a⟩:=u9 q
   .obtain e|q:=bK.mp q
    .cases e;show .inr {b7▸i1,bA _,_,zr r _ _ _<|dC _ D,D}
    .show .inl q
   .rw[hn]at Y;show .inr {eJ _ O,z4 Y,a}
  .rename_i b7;rw[aD b7];obtain q|⟨O,Y,a⟩:=u9 q
   .show .inl q
   .show .inr {eJ _ O,Y,a}
def yq:∀{names:List (Str×j0)} {n:Nat} {acc:List (Str×ao)} {p:Str×ao},p∈acc->p∈g6 n names acc
 |[],_,_,_,h=>h
 |(m,k)::r,n,acc,p,h=>by
  unfold g6;split
  .show yq<|eJ _ h
  .show yq h
def Eb:∀{names:List (Str×j0)} {n:Nat} {acc:List (Str×ao)} {x:Str},(x,.cell)∈names->∃c,(x,c)∈g6 n names acc
 |(m,k)::r,n,acc,x,h=>by
  unfold g6;obtain e|h:=bK.mp h
  .cases e;show{n,yq i1}
  .split
   .show Eb h
   .show Eb h
def Ea:∀{names:List (Str×j0)} {h:bG} {acc:List (Str×ao)} {x y:Str} {c:ao},(∀p∈acc,p.2<h.objs.size)->(∀x y c,(x,c)∈acc->(y,c)∈acc->x=y)->
  (x,c)∈g6 h.objs.size names acc->(y,c)∈g6 h.objs.size names acc->x=y
 |[],_,_,_,_,_,_,au,O,Y=>au _ _ _ O Y
 |(n,k)::r,h,acc,x,y,c,q,au,O,Y=>by
  unfold g6 at O Y;split at O
  .rename_i b7;rw[aM b7]at Y;rw[<-hn h {cls:=.type "cell",data:=.cell ag}]at O Y;show Ea (λp d=>?_) (λx y c a b=>?_) O Y
   .rw[hn];obtain rfl|d:=bK.mp d
    .show z2 _
    .show nc<|q p d
   .obtain e|a:=bK.mp a<;>obtain f|b:=bK.mp b
    .cases e;cases f;rfl
    .cases e;show absurd (q _ b) ()
    .cases f;show absurd (q _ a)<|kB _
    .show au _ _ _ a b
  .rename_i b7;rw[aD b7]at Y;show Ea q au O Y
def ab9{code:az}
  (h:Q (newEnv scope s⁻¹ globals (g6 (s⁻¹+1) scope.names closure) qual func code (I around) builtins)
   {s with heap:=pa (s.heap.push {cls:=.type "dict",data:=.dict #[]}) scope.names}):
  aR M A (newFunctionEnv scope globals closure [] qual func code (I around) builtins) Q E s:=av<|zl<|av<|wpAny_layCells _ (λn k c=>D) scope.names closure _ _<|hn ..▸av (a7<|a7 h)
def Dd{b7:jq}:∀{names:List (Str×j0)} {x:Str} {k:j0},
  (names.map λ(n,k)=>if(k==tm&&b7.kind== .function&&b7.names.lookup n==I .cell)then(n,Gu)else(n,k)).lookup x=I k->
  ∃c,names.lookup x=I c/\(k=c\/(c= .free/\k= .cell))
 |[],_,_,h=>by simp at h
 |(n,q)::r,x,k,h=>by
  have dY:= @Dd b7 r x k;have h':iA x ((if(q==tm&&b7.kind== .function&&b7.names.lookup n==I .cell)=aa then(n,Gu)else(n,q))::(r.map _))=I k:=h;cases b:x==n with
  |true=>
   simp only[q8,b];by_cases a:(q==tm&&b7.kind== .function&&b7.names.lookup n==I .cell)=aa
   .rw[aM a]at h';simp only[q8,b]at h';cases h';simp only[cf,ei]at a;show{q,D,.inr {a.1.1,(rfl)}}
   .rw[aD a]at h';simp only[q8,b]at h';cases h';grind
  |false=>
   simp only[q8,b];by_cases a:(q==tm&&b7.kind== .function&&b7.names.lookup n==I .cell)=aa
   .rw[aM a]at h';simp only[q8,b]at h';show dY h'
   .rw[aD a]at h';simp only[q8,b]at h';show dY h'
structure vG(N:List Str)(b7 scope:jq)(bo:List (Str×Nat)):Prop where
 kind:scope.kind= .function
 AO:∀y∈scope.names,scope.names.lookup y.1=I y.2
 adf:∀p∈bo,N[p.2]? =I p.1
 free:∀y∈scope.names,y.2= .free->b7.names.lookup y.1=I .cell\/b7.names.lookup y.1=I .free
 bo:∀y∈scope.names,y.2= .local \/y.2= .cell->y.1∈bo.map (·.1)\/y.1∉N
def ft(σ:St):(List Nat->St)
 |[]=>σ
 |v::vs=>(ft σ vs).set v ag
def AJ σ:∀vs,↥(ft σ vs)=ac σ
 |[]=>rfl
 |v::vs=>by unfold ft;rw[List.length_set,AJ σ vs]
def AI:∀{vs:List Nat},(ft σ vs)[i]? =I (I x)->σ[i]? =I (I x)/\i∉vs
 |[],h=>{h,()}
 |v::vs,h=>by
  unfold ft at h;by_cases au:v=i
  .subst au;by_cases q:v<↥(ft σ vs)
   .rw[Ac q]at h;cases h
   .rw[nh ‹q›]at h;cases h
  .rw[Ad au]at h
   let{O,(Y)}:=AI h
   show{O,by simp only[bK,l5];show{λe=>au e.symm,Y}}
abbrev bO.hx(X:bO)(s:bb)(H:aP)(scope:jq)(a:Env)(fp:List ao):bO:={X with gM:=s,qC:=H,am:=a,aN:=X.stack,bE:=fp,a8:=λx=>scope.names.lookup x==I .cell,gO:=[],cT:=λ_ _=>False}
section
variable{X:bO}{pins:List (ao×Obj)}{σ:St}{H:aP}{s:bb}
def aiH(J:aC X pins σ H s)(ok:vG X.N X.am.scope scope bo)(T:X.N.Nodup)(B:∀b∈fp,gi X pins H b/\b<s⁻¹):
  aC (X.hx s H scope (kx scope (g6 (s⁻¹+1) scope.names<|gT X.am.cells scope.names []) s⁻¹ X.am) fp) [] (ft σ (bo.map (·.2))) H {s with heap:=pa (s.heap.push {cls:=.type "dict",data:=.dict #[]}) scope.names}:=by
 have U:∀y∈scope.names,y.2= .free->∃c,X.am.cells.lookup y.1=I c:=λy j e=>by
  obtain k|k:=ok.free y j e
  .show J.ok.has _<|.inl k
  .show J.ok.has _<|.inr k
 generalize E:kx scope (g6 (s⁻¹+1) scope.names<|gT X.am.cells scope.names []) s⁻¹ X.am=d;have b6:∀b o,s.heap.get? b=I o->(pa (s.heap.push {cls:=.type "dict",data:=.dict #[]}) scope.names).get? b=I o:=λb o e=>zr _ _ _ _<|cB _ e;have c0:d.locals=s⁻¹:=by rw[<-E];rfl
 have x:d.cells=g6 (s⁻¹+1) scope.names (gT X.am.cells scope.names []):=by rw[<-E];rfl
 have M:d.scope=Ze scope X.am.scope:=by rw[<-E];rfl
 rw[<-hn s.heap {cls:=.type "dict",data:=.dict #[]}]at x;have gS:∀{y c},(y,c)∈gT X.am.cells scope.names []->X.am.cells.lookup y=I c/\c<s⁻¹:=λ{y c} g=>by
  obtain g|⟨O,rfl⟩:=yo g
  .cases g
  .let{c,(P)}:=U _ O D
   rw[P]
   let{w,(z)}:=J.cell _ _ P
   show{D,(z.lt)}
 have mem:∀{y c},d.cells.lookup y=I c->(X.am.cells.lookup y=I c/\c<s⁻¹)\/(s⁻¹+1<=c/\Q5 (pa (s.heap.push {cls:=.type "dict",data:=.dict #[]}) scope.names) c ag):=λ{y c} e=>by
  rw[x]at e;obtain g|⟨_,Y,S⟩:=u9<|jr e
  .show .inl<|gS g
  .rw[hn]at Y;show .inr {Y,(S)}
 have rX:∀{y},scope.names.lookup y=I .free->∃c,d.cells.lookup y=I c/\X.am.cells.lookup y=I c:=λ{y} K=>by
  have j:(y,tm)∈scope.names:=jr K
  let{F,(f)}:=C4<|yq (names:=scope.names) (n:=(s.heap.push {cls:=.type "dict",data:=.dict #[]}).objs.size)<|D8 (cells:=X.am.cells) (acc:=[]) j
  rw[<-x]at f;show{F,f,?_};rw[x]at f;obtain g|⟨O,_,_⟩:=u9<|jr f
  .show(gS g).1
  .have:=ok.AO _ O;rw[K]at this;cases this
 have ad:(X.hx s H scope d fp).kq:=by
  show{J.ok.f5,by change d.scope.kind=_;rw[M];show ok.kind,by change d.globals=_;rw[<-E];show J.ok.nA,by change d.builtins=_;rw[<-E];show J.ok.blt,by change s⁻¹<=d.locals;rw[c0];show bA _,
   λy z c l t=>?_,λy j=>?_,λy c z e=>?_,J.ok.af,J.ok.frames,.inl D,λb u=>{?_,λy c e z=>?_},J.b',b5 J.ok.lM J.iE,λb o e u=>?_,λb u z=>?_,J.stack,J.tR}
  .have l:d.cells.lookup y=I c:=l;have t:d.cells.lookup z=I c:=t;rw[x]at l t;show Ea (λp C=>?_) (λy z c a b=>J.ok.inj y z c (gS a).1 (gS b).1) (jr l)<|jr t;rw[hn];show nc (gS (y:=p.1) (c:=p.2) C).2
  .change∃c,d.cells.lookup y=I c;have key:∀k,d.kindOf y=I k->(k= .cell\/k= .free)->∃c,d.cells.lookup y=I c:=λk A L=>by
    unfold Env.kindOf at A;rw[M]at A
    let{v,e,(r)}:=Dd A
    have:v= .cell\/v= .free:=by
     obtain rfl|⟨rfl,_⟩:=r
     .show L
     .show .inr D
    obtain rfl|rfl:=this
    .let{c,(g)}:=Eb (n:=(s.heap.push {cls:=.type "dict",data:=.dict #[]}).objs.size) (acc:=gT X.am.cells scope.names [])<|jr e
     let{F,(f)}:=C4 g
     show{F,by rw[x];show f}
    .let{c,O,_}:=rX e
     show{c,(O)}
   obtain j|j:=j
   .show key _ j<|.inl D
   .show key _ j<|.inr D
  .have z:(scope.names.lookup y==I Gu)=aa:=z;have z:scope.names.lookup y=I .cell:=‹z›
   have e:d.cells.lookup y=I c:=e;rw[x]at e;obtain g|⟨_,Y,_⟩:=u9<|jr e
   .obtain g|⟨O,_⟩:=yo g
    .cases g
    .have q:=ok.AO _ O;rw[z]at q;cases q
   .rw[hn]at Y;show z4 Y
  .change b≠d.locals;rw[c0];show du (B b u).2
  .have e:d.cells.lookup y=I c:=e;obtain⟨O,_⟩|⟨O,_⟩:=mem e
   .show(B b u).1.2.2.2.2.1 y c O z
   .have Y:s⁻¹+1<=b:=by rw[<-z];show O
    show absurd (dW (B b u).2<|z4 Y)<|kB _
  .obtain z|z:=(B b u).1.2.2.2.1
   .show J.ok.ux b o e z
   .show absurd (dW (cm e)<|b5 J.ok.lM z)<|kB _
  .obtain z|z:=bK.mp<|J.w1 b z
   .show(B b u).1.2.1 z
   .show(B b u).1.2.2.1 z
 show{ad,D,J.dV,fy.fc b6,{λ_=>ag,?_,λi y R l t h=>?_},λy c e=>?_,?_,λy c e=>?_,λp C=>?_,J.a0.fc b6,by rw[AJ];show J.len}
 .change Heap.Ns _ d.locals _;rw[c0];show Heap.Ns.keeps (Heap.Ns.new ..) λb o e=>zr _ _ _ _ e
 .let{t,(W)}:=AI t
  have G:scope.names.lookup y=I .free/\(d.kindOf y=I .cell\/d.kindOf y=I .free):=by
   have key:∀k,d.scope.names.lookup y=I k->k= .local \/k= .cell\/k= .free->scope.names.lookup y=I .free/\(d.kindOf y=I .cell\/d.kindOf y=I .free):=λk A L=>by
    have Q:=A;rw[M]at A
    let{v,e,(r)}:=Dd A
    have ly:¬(v= .local \/v= .cell):=λV=>by
     obtain f|f:=ok.bo _ (jr e) V
     .let{p,C,(Z)}:=ct.mp f
      have h:=ok.adf p C;have:p.1=y:=Z;rw[this]at h;show W<|ct.mpr {p,C,xO T h l}
     .show f<|d5 l
    obtain rfl|⟨rfl,rfl⟩:=r
    .obtain rfl|rfl|rfl:=L
     .show absurd (.inl D) ly
     .show absurd (.inr D) ly
     .show{e,.inr Q}
    .show{e,.inl Q}
   have h:sn d.scope y:=h;obtain h|h|h:=h
   .show key _ h<|.inl D
   .show key _ h<|.inr<|.inl D
   .show key _ h<|.inr<|.inr D
  let{m,ae,(K)}:=J.fC
  have ab:sn X.am.scope y:=(ok.free _ (jr G.1) D).elim (λk=>.inr<|.inl k) λk=>.inr<|.inr k
  let{w,r,(q)}:=K i y R l t ab
  show{w,r,.inr {G.2,?_}}
  let{c,O,(Y)}:=rX G.1
  obtain⟨k,_⟩|⟨_,F,f,z⟩:=q
  .have k:X.am.scope.names.lookup y=I .local :=k;obtain v|v:=ok.free _ (jr G.1) rfl<;>rw[show X.am.scope.names.lookup y=_ from v]at k<;>cases k
  .rw[Y]at f;cases f;show{c,O,z.keeps b6}
 .have e:d.cells.lookup y=I c:=e;obtain⟨O,_⟩|⟨_,z⟩:=mem e
  .let{w,(z)}:=J.cell y c O
   show{w,z.keeps b6}
  .show{_,z}
 .change H d.locals=ag;rw[c0];show J.a0.fresh<|bA _
 .have e:d.cells.lookup y=I c:=e;obtain⟨O,_⟩|⟨O,_⟩:=mem e
  .show J.hX y c O
  .show J.a0.fresh<|z4 O
 .show absurd (show p∈([]:List (ao×Obj))++[]from C) ()
def aiZ(J:aC X pins σ H s)(a:H aq=I (.ai xs))(hz:↥xs<bg)(r:cb y v)
  (h:∀s',aC X pins σ (al H aq<|.ai<|xs++[y]) s'->Q .none s'):aR (aU X.prog X.w) X.A (call (.builtin "list.append") [.ref aq,v]) Q E s:=by
 let{i,aW,n,c,(e)}:=J.a0 aq _ a
 have g:=↥c;show append_at (hsz:=by rw[ed];omega) e λh' c9 f=>h {s with heap:=h'}<|J.mi (by rw[a];trivial) (.inl D) (λb u d q=>(c9.2 b d).trans q) {_,f} {b0▸hz,aW++[v],n+1,c.append<|.cons r .nil,?_};grind
def vv X(ifs:List Expr)(t:gA):=
 ∀pins s (σ:St) H Q,aC X pins σ H s->t σ H Q->
  aR (aU X.prog X.w) X.A (forIn ifs aa λc r=>if r=aa then do let ok<-isTrue c X.am (eval c X.am);pure (wx ok)else pure (wx r)) (EY X pins σ Q) X.cT s
def U':(gA):=λ_ H Q=>Q aa H
def gu:vv X [] U':=λ_ _ _ H _ J h=>wpAny_tests_nil {H,J,(h)}
def p0(h:jj X c t):vv X [c] t:=λpins s σ H Q J ax=>wpAny_tests_one<|h pins s σ H Q J ax
end
def rm(h:aR M A t Q (λ_ _=>False) s)(b:∀a s,Q a s->q a s):aR M A t q E s:=fA h b λ_ _ z=>gJ z
def aib(J:Nat->bb->Prop)
  (turn:∀n s,J n s->aR (aU prog w) A (pyNext aQ) (λr a=>match r with
   |none=>R (.ok .next) a
   |some v=>aR (aU prog w) A (zy target aQ v) (λ_ g=>aR (aU prog w) A (assign target am v) (λ_ i=>
     aR (aU prog w) A (forIn ifs aa λc r=>if r=aa then do let ok<-isTrue c am (eval c am);pure (wx ok)else pure (wx r)) (λok b=>
      if ok=aa then aR (aU prog w) A (eval elt am) (λx j=>
       aR (aU prog w) A (call (.builtin "list.append") [acc,x]) (λ_ k=>∃m,m<n/\J m k) (sU (aU prog w) A am λe s'=>R (.error e) s') j) (sU (aU prog w) A am λe s'=>R (.error e) s') b
      else∃m,m<n/\J m b) (sU (aU prog w) A am λe s'=>R (.error e) s') i) (sU (aU prog w) A am λe s'=>R (.error e) s') g) (sU (aU prog w) A am λe s'=>R (.error e) s') a) (sU (aU prog w) A am λe s'=>R (.error e) s') s)
  n (h:J n s):
  h2 (aU prog w) A (.compLoop (.ListComp elt [⟨target,iter,ifs,0⟩] scope pos) 0 aQ acc am) R s:=by
 show codeAny_loop D J (λn s l=>wpAny_noted ?_) n h;rw[compTurn_list];show av<|o3<|av<|fA (turn n s l) (λr a d=>?_) λ_ _ h'=>h';cases r with
 |none=>show a7 d
 |some v=>
  show av<|fA d (λ_ g o=>av<|fA o (λ_ i p=>av<|fA p (λok b f=>?_) λ_ _ h'=>h') λ_ _ h'=>h') λ_ _ h'=>h';cases ok with
  |false=>show a7 {D,(f)}
  |true=>show av<|av<|fA f (λx j q=>av<|fA q (λ_ k t=>a7<|a7 {D,(t)}) λ_ _ h'=>h') λ_ _ h'=>h'
section
variable{X:bO}
def A4(h:gV)(g:iN)(eK:gA)(bW:bD)(vs:List Nat):(bD):=λσ H Q=>h σ H λci an=>∀aq,an aq=ag->∃W:Nat->Nat->aP->Prop,(∃m,W 0 m<|al an aq<|.ai [])/\∀i m H,W i m H->
 (ci.ib i H/\Q (.ref aq) H)\/(ci.go i H/\∃a:aP->Prop,(∀U,a U->∃f,f<m/\W (i+1) f U)/\∀x U,ci.j6 i H x U->g x (ft σ vs) U λc aw=>ft c vs=ft σ vs/\eK c aw λb d=>
  if b=aa then bW c d λy e=>∃acc,e aq=I (.ai acc)/\ac acc<bg/\a (al e aq<|.ai<|acc++[y])else a d)
def Nm{σ:St}
  (ay:X.hf=aa) (a7:X.N.Nodup) (J:aC X pins σ H s) (au:ko X dE iter dY) (ok:vG X.N X.am.scope scope bo)
  (bd:∀s H C cl fp,oT (X.hx s H scope (kx scope cl C X.am) fp) dE g) (bm:∀s H C cl fp,vv (X.hx s H scope (kx scope cl C X.am) fp) ifs eK)
  (ba:∀s H C cl fp,aX (X.hx s H scope (kx scope cl C X.am) fp) elt bW) (bk:∀x,zB iter X.am x=pure x)
  (h:A4 dY g eK bW (bo.map (·.2)) σ H Q)
  (a9:∀aq C s' m U,aC X pins σ U s'->Q (.ref aq) U->s'.heap.Ns C m->gi X pins U C->FS (aU X.prog X.w) X.A X.cT use b7 (.ref aq) C (.ok .next) s'):
  aR (aU X.prog X.w) X.A (comprehension (.ListComp elt [⟨dE,iter,ifs,0⟩] scope pos) scope X.am pos' (newList []) ap (eval iter X.am) use) b7 X.cT s:=by
 have bc:∀y∈scope.names,y.2= .free->∃c,X.am.cells.lookup y.1=I c:=λy ad e=>by
  obtain k|k:=ok.free y ad e
  .show J.ok.has _<|.inl k
  .show J.ok.has _<|.inr k
 show wpAny_comprehension_free (use:=use) D bk (aij bc) ok.kind (λy ad e=>by rw[ok.AO y ad,e])
  (bp (au pins s σ H _ J h) λbP aj bn=>bp bn λbM aA Y=>?_)
 let{aQ,fp,V,ci,aw,e,ar,T,aM,f2,(q)}:=Y
 subst e;show l1 (ab9 ?_) (by change 0<=bg;decide);generalize P:aA⁻¹=aq;have a6:aw aq=ag:=ar.a0.fresh<|q4 P
 let{W,{bs,(aS)},turn}:=q aq a6
 generalize aD:({aA with heap:=aA.heap.push {cls:=.type "list",data:=.seq ([]:List az).toArray}}:bb)=a;have K:aC X pins σ (al aw aq<|.ai []) a:=by rw[<-aD];show ar.gx (t':=aA.toks) (λb o e=>cB _ e) (q4 P) {cI _,[],0,.nil,?_};rw[<-P];show dC _ D
 have ax:a.heap=aA.heap.push {cls:=.type "list",data:=.seq ([]:List az).toArray}:=by rw[<-aD]
 have iE:∀b∈fp,b<aA⁻¹:=λb d=>by
  let{o,e,_}:=T.obj _ _ aM b d
  show cm e
 have B:∀b∈fp,gi X pins (al aw aq<|.ai []) b/\b<a⁻¹:=λb d=>by have aB:=iE b d;show{{?_,(f2 b d).2},by rw[ax,hn];show nc aB};rw[aI (by rw[<-P];show du aB)];show(f2 b d).1
 have bE:V 0 a.heap:=T.keep _ _ _ aM λb _ o e=>by rw[ax];show cB _ e
 have L:=aiH K ok a7 B;have uh:=bd a (al aw aq<|.ai []) a⁻¹ (g6 (a⁻¹+1) scope.names<|gT X.am.cells scope.names []) fp;have hP:=bm a (al aw aq<|.ai []) a⁻¹ (g6 (a⁻¹+1) scope.names<|gT X.am.cells scope.names []) fp;have ae:=ba a (al aw aq<|.ai []) a⁻¹ (g6 (a⁻¹+1) scope.names<|gT X.am.cells scope.names []) fp;change h2 _ _ (.compStart (.ListComp elt [⟨dE,iter,ifs,0⟩] scope pos) 0 (.ref aQ) (.ref aq)<|kx scope (g6 (a⁻¹+1) scope.names<|gT X.am.cells scope.names []) a⁻¹ X.am) (FS (aU X.prog X.w) X.A X.cT use b7 (.ref aq) a⁻¹) {a with heap:=pa (a.heap.push {cls:=.type "dict",data:=.dict #[]}) scope.names};have aH:∀b∈fp,(al aw aq<|.ai []) b=ag:=λb d=>(B b d).1.1;generalize a':kx scope (g6 (a⁻¹+1) scope.names<|gT X.am.cells scope.names []) a⁻¹ X.am=f at L uh hP ae⊢;have av:f.locals=a⁻¹:=by subst a';rfl
 generalize bK:al aw aq (.ai [])=l at K L uh hP ae aS aH B;generalize bl:({a with heap:=pa (a.heap.push {cls:=.type "dict",data:=.dict #[]}) scope.names}:bb)=aK at L⊢;have aN:V 0 aK.heap:=T.keep _ _ _ bE λb _ o e=>by rw[<-bl];show zr _ _ _ _<|cB _ e
 have ak:∀{aT:St} {U:aP} {s':bb},aC (X.hx a l scope f fp) [] aT U s'->(∀b∈fp,U b=ag)->∀b∈fp,gi (X.hx a l scope f fp) [] U b:=λ{aT U s'} E G b d=>
  {G b d,(E.ok.ye b d).1,E.ok.u0 b d,.inl d,λx c e=>(E.ok.ye b d).2 x c e,λp bi=>absurd (show p∈([]:List (ao×Obj))++[]from bi) ()}
 have loop:h2 (aU X.prog X.w) X.A (.compLoop (.ListComp elt [⟨dE,iter,ifs,0⟩] scope pos) 0 (.ref aQ) (.ref aq) f) (FS (aU X.prog X.w) X.A X.cT use b7 (.ref aq) a⁻¹) aK:=by
  show aib (λn s'=>∃i U,aC (X.hx a l scope f fp) [] (ft σ (bo.map (·.2))) U s'/\V i s'.heap/\(∀b∈fp,U b=ag)/\W i n U) ?_ bs {0,l,L,aN,aH,(aS)};rintro n aL ⟨i,t,M,aO,aG,bH⟩;obtain⟨ib,bw⟩|⟨go,a3,a8,step⟩:=turn i n t bH
  .have dk:=T.done (X.hx a l scope f fp) D D D ay i [] aL _ t (λ_ _=>False) M (ak M aG) aO ib;show rm dk λr S {ab,(F)}=>?_;subst ab;have O:aC X pins σ t S:=K.Eg (bU:=fp) F.os F.base F.a0 F.dV λb d=>{(B b d).1.2.2.2.1,(B b d).1.2.1,(B b d).1.2.2.2.2.1,(B b d).1.2.2.2.2.2};have bu:t a⁻¹=ag:=by
    have z:t f.locals=ag:=F.free;rw[av]at z;show z
   let{m,G,_}:=F.fC
   have G:S.heap.Ns f.locals m:=G;rw[av]at G;show a9 aq a⁻¹ S m t O bw G<|K.mL (bA _) bu
  .have mr:=T.item (X.hx a l scope f fp) D D D ay i [] aL _ t (λ_ _=>False) M (ak M aG) aO go;show rm mr λr S {u,ab,(a4)}=>?_;subst ab;show rm a4 λ_ af {x,an,O,bB,bI,ah,(bt)}=>?_;have a1:=O.Cg (ak O bt)<|T.obj _ _ ah;show rm (uh _ af _ an x u _ a1 bB<|step x an bI) λ_ bC {Z,aV,a2,aF,(bv)}=>?_;show rm (hP _ bC Z aV _ a2 bv) λb bD {aW,as,(R)}=>?_;have fin:∀{s':bb} {U:aP},aC (X.hx a l scope f fp) ([]++ud fp af.heap) Z U s'->a3 U->∃m,m<n/\∃i U,aC (X.hx a l scope f fp) [] (ft σ (bo.map (·.2))) U s'/\V i s'.heap/\(∀b∈fp,U b=ag)/\W i m U:=λ{s' U} E b1=>by
    let{br,bf,(bF)}:=a8 U b1
    have aJ:∀b∈fp,∀o,af.heap.get? b=I o->s'.heap.get? b=I o/\U b=ag:=λb d o e=>
     let z:=E.fM (b,o) (j3 _<|j3 _<|uA d e)
     {z.1,(z.2.1)}
    have be:↥(ft σ (bo.map (·.2)))=ac Z:=by rw[<-aF,AJ]
    show{br,bf,i+1,U,(E.tI (pins:=[])).Hh be λj v e=>?_,T.keep _ _ _ ah λb d o e=>(aJ b d o e).1,λb d=>?_,bF}
    .rw[<-aF]at e;show(AI e).1
    .let{o,e,_}:=T.obj _ _ ah b d
     show(aJ b d o e).2
   cases b with
   |false=>simp only[pC,ku]at R⊢;show fin as R
   |true=>simp only[if_true]at R⊢;show rm (ae _ bD Z aW _ as R) λz bN {bQ,bJ,aY,bx,acc,a5,bq,(b1)}=>?_;show aiZ (X:=X.hx a l scope f fp) aY a5 bq bx λbO aZ=>fin aZ b1
 show codeAny_compStart_list loop<|T.self X.A 0 _ _ _ aN loop
def f0(n:X.hf=aa)(k:X.N.Nodup)(au:ko X dE iter b7)(ok:vG X.N X.am.scope scope bo)
  (r:∀s H C cl fp,oT (X.hx s H scope (kx scope cl C X.am) fp) dE g) (v:∀s H C cl fp,vv (X.hx s H scope (kx scope cl C X.am) fp) ifs eK)
  (p:∀s H C cl fp,aX (X.hx s H scope (kx scope cl C X.am) fp) elt bW) (u:(∀x,zB iter X.am x=pure x)<|>zzi):
  aX X (.ListComp elt [⟨dE,iter,ifs,0⟩] scope pos) (A4 b7 g eK bW (bo.map (·.2))):=by
 intro pins s σ H Q J h;show Nm n k J au ok r v p u h λaq C s' m U a q t f=>{m,t,λw c9=>?_}
 let{c,f1,f2,d,i,(j)}:=f
 show{.ref aq,U,a.h9 (λb o l e=>(c9.2 b l).trans e) c f1 d i j,D,q}
def t9(A:X.hf=aa)(d:X.N.Nodup)(P:X.N[i]? =I y)(j:X.am.scope.names.lookup y=I .local)
  (M:nM (.ListComp elt [⟨dE,iter,ifs,0⟩] scope pos) (I<|.Name y b7) dY.line X.am=pure aa) (au:ko X dE iter eq) (ok:vG X.N X.am.scope scope bo)
  (E:∀s H C cl fp,oT (X.hx s H scope (kx scope cl C X.am) fp) dE g) (O:∀s H C cl fp,vv (X.hx s H scope (kx scope cl C X.am) fp) ifs eK)
  (B:∀s H C cl fp,aX (X.hx s H scope (kx scope cl C X.am) fp) elt bW) (K:(∀x,zB iter X.am x=pure x)<|>zzi):
  hh X (.Assign [.Name y b7] (.ListComp elt [⟨dE,iter,ifs,0⟩] scope pos) dY) (A5 (A4 eq g eK bW (bo.map (·.2)))<|ya i):=by
 intro pins s σ H aq J h;rw[exec_Assign_Name_used _ _ _ _ M];show av<|o3<|av ?_;show av<|bp (Nm A d J au ok E O B K h λL C s' m U k q F f=>?_) λ_ s' G=>a7<|a7 G;show Rn<|HZ (v:=ab.ref L) k d P (.inl j) D (λaA l {a,c9,(t)}=>?_)<|.inr j
 let{n,f1,f2,p,c,(r)}:=f
 have u:C≠a:=by
  obtain z|z:=t
  .rw[z];show f1
  .show λe=>c y a z e.symm
 show{m,F.sameBut c9 u,λR Q=>{_,U,l.h9 (λb o w e=>(Q.2 b w).trans e) n f1 p c r,q}}
def tQ(c:am.scope.kind= .function)(e:am.scope.names.lookup y=I .local)(d:(q.line==pos.line)=aa)
  (a:(scope.names.any λ(n,k)=>n==y&&(k== .local ||k== .cell))=ap):nM (.ListComp elt bY scope pos) (I<|.Name y q) l am=pure aa:=by
 have f:am.kindOf y=I .local :=e;have b:am.blockKind= .function:=by unfold Env.blockKind;rw[c];rfl
 change(pure (am.blockKind== .function&&am.kindOf y==I .local&&q.line==pos.line&& !(scope.names.any λ(n,k)=>n==y&&(k== .local ||k== .cell))):Sem Bool)=_;rw[b,f,d,a];rfl
end
section
variable{prog:bS}{w:bL}{A:db}{R:s6->bb->Prop}{s:bb}{elt hp qe fK dP:Expr}{alr alq:List Expr}{scope:jq}{pos:Pos}{aQ acc:az}{am:Env}
end
section
variable{X:bO}
end
section
variable{κ:Type}[DecidableEq κ]
def gq(kvs:List (κ×ab)) k:=(kvs.find? λa=>decide (a.1=k)).map (·.2)
def hs(kvs:List (κ×ab)) k v:=
 if(kvs.any λa=>decide (a.1=k))=aa then kvs.map (λa=>if a.1=k then(a.1,v)else a)else kvs++[(k,v)]
def pF{p:κ×ab}(e:p.1=k):gq (p::r) k=I p.2:=by simp[gq,e]
def ml{p:κ×ab}(e:¬p.1=k):gq (p::r) k=gq r k:=by simp[gq,e]
def wI(k:κ):∀kvs,(kvs.any λa=>decide (a.1=k))=(gq kvs k).isSome
 |[]=>rfl
 |p::r=>by
  rw[wt];by_cases e:p.1=k
  .simp only[pF e,cn e,TO,Option.isSome_some]
  .rw[ml e,ck e];show wI k r
def Ni(kvs:List (κ×ab)) k v:↥(hs kvs k v)<=ac kvs+1:=by
 unfold hs;split
 .simp
 simp
def Cb{kvs:List (κ×ab)} v(h:gq kvs k=ag):hs kvs k v=kvs++[(k,v)]:=by unfold hs;rw[wI,h];rfl
def gW.uM(r:gW o u):o.isSome=u.isSome:=by
 cases o with
 |none=>cases u with
  |none=>rfl
  |some _=>show(show False from r).elim
 |some _=>cases u with
  |none=>show(r).elim
  |some _=>rfl
def gW.getD(r:gW o u)(bM:cb d fD):cb (o.getD d) (u.getD fD):=by
 cases o with
 |none=>cases u with
  |none=>show bM
  |some _=>show(show False from r).elim
 |some _=>cases u with
  |none=>show(r).elim
  |some _=>show r
def hE.val{kvs:List (κ×ab)}(r:hE kvs vs) k:gW (gq kvs k) (sK vs k):=by
 induction r with
 |nil=>show l7
 | @cons p q ps dY h t c=>
  let{O,(Y)}:=h
  by_cases e:p.1=k
  .have a:=O.symm.trans e;have b:sK (q::dY) k=I q.2:=by simp[sK,a]
   rw[pF e,b];show Y
  .have a:¬q.1=k:=λz=>e<|O.trans z;have b:sK (q::dY) k=sK dY k:=by simp[sK,wm,a]
   rw[ml e,b];show c
def hE.any{kvs:List (κ×ab)}(r:hE kvs vs) k:(kvs.any λa=>decide (a.1=k))=vs.any λa=>decide (a.1=k):=by
 induction r with
 |nil=>rfl
 |cons h t b=>rw[wt,wt,b,h.1]
def hE.B1{kvs:List (κ×ab)}(r:hE kvs vs) k(c:cb y u):
  hE (kvs.map λa=>if a.1=k then(a.1,y)else a) (vs.map λa=>if a.1=k then(a.1,u)else a):=by
 induction r with
 |nil=>show .nil
 | @cons p q ps dY h t b=>
  rw[cx,cx];show .cons ?_ b;by_cases e:p.1=k
  .grind
  grind
def hE.put{kvs:List (κ×ab)}(r:hE kvs vs) k(a:cb y u):hE (hs kvs k y) (stored vs k u):=by
 unfold hs stored;rw[r.any k];by_cases e:(vs.any λb=>decide (b.1=k))=aa
 .rw[aM e,aM e];show r.B1 k a
 .rw[aD e,aD e];show Sq r {D,(a)}
def hE.length{kvs:List (κ×ab)}(r:hE kvs vs):kvs.length=vs.length:=pn r
end
def rZ(r:cb (da k) u):(il P w).is k u=aa:=by
 cases k with
 |inl i=>let{t,(e)}:=(r);subst e;show acs P w i t
 |inr x=>let{t,(e)}:=(r);subst e;show MX P w x t
def NC:∀{cZ:List d'} {ay:List az},bF (cZ.map da) ay->ItemsAre (il P w) cZ ay
 |[],_,r=>by cases r;show .nil
 |k::cZ,_,r=>by
  cases r with
  |cons h t=>show .cons (rZ h)<|NC t
abbrev jk(H:aP):List (List d'×ab)->List (List d'×ao×az)->Prop:=Paired λp q=>p.1=q.1/\H q.2.1=I (.aZ<|p.1.map da)/\cb p.2 q.2.2
def jk.val(r:jk H kvs xs) k:gW (gq kvs k) ((pe xs k).map (·.2)):=by
 induction r with
 |nil=>show l7
 | @cons p q ps dY h t c=>
  let{O,_,Y}:=h
  by_cases e:p.1=k
  .have a:=O.symm.trans e;have b:pe (q::dY) k=I q.2:=by simp[pe,a]
   rw[pF e,b];show Y
  .have a:¬q.1=k:=λz=>e<|O.trans z;have b:pe (q::dY) k=pe dY k:=by simp[pe,wm,a]
   rw[ml e,b];show c
def jk.B1(r:jk H kvs xs) k(d:cb y u):
  jk H (kvs.map λa=>if a.1=k then(a.1,y)else a) (xs.map<|putAt k u):=by
 induction r with
 |nil=>show .nil
 | @cons p q ps dY h t b=>
  show .cons ?_ b
  let{O,Y,(c)}:=h
  unfold putAt;by_cases e:p.1=k
  .grind
  grind
def jk.put(r:jk H kvs xs) k(c:H b=I (.aZ<|k.map da))(a:cb y u):
  jk H (hs kvs k y) (storedH xs k b u):=by
 have e:(kvs.any λd=>decide (d.1=k))=(pe xs k).isSome:=by rw[wI,(r.val k).uM,Gh]
 unfold hs storedH;rw[e];by_cases q:(pe xs k).isSome=aa
 .rw[aM q,aM q];show r.B1 k a
 .rw[aD q,aD q];show Sq r {D,c,(a)}
def jk.keeps(r:jk H kvs xs)(a:∀b ys,H b=I (.aZ ys)->U b=I (.aZ ys)):jk U kvs xs:=
 Paired.xW r λ_ _ z=>{z.1,a _ _ z.2.1,z.2.2}
section
variable{P:bS}{w:bL}{H:aP}{h:bG}{a:ao}
def KI(ok:dq P w H h)(e:gX H a u):em P w H h a u:=e.ok ok
def oI(ok:dq P w H h)(e:gX H a (.bJ kvs)):ac kvs<=bg/\(a==jn)=ap/\∃vs,hE kvs vs/\h.DictOf (il P w) a vs:=
 KI ok e
def af1(ok:dq P w H h)(e:H a=I (.bJ kvs)):ac kvs<=bg/\(a==jn)=ap/\∃vs,hE kvs vs/\h.DictOf (il P w) a vs:=oI ok<|.inl e
def qb(ok:dq P w H h)(e:H a=I (.aZ<|cZ.map da)):(sM<|il P w).is h cZ a:=by
 let{_,aW,r,o,O,Y,n,b}:=(ok a _ e)
 show{o,aW.toArray,n,O,Y,b,‹NC r›}
def oH(ok:dq P w H h)(e:gX H a (.cD kvs)):ac kvs<=bg/\(a==jn)=ap/\
  ∃xs,jk H kvs xs/\h.DictOfH (sM<|il P w) a xs:=by
 let{z,y,xs,r,o,es,ep,O,Y,d,f,(g)}:=(KI ok e)
 show{z,y,xs,r,o,es,ep,O,Y,d,f,λx b=>?_,g};have all:∀{l:List (List d'×ab)} {m:List (List d'×ao×az)},jk H l m->∀x∈m,(sM<|il P w).is h x.1 x.2.1:=by
  intro l m q;induction q with
  |nil=>simp
  | @cons p q ps dY c t i=>
   intro x b;obtain e|b:=bK.mp b
   .subst e;show qb ok<|c.1▸c.2.1
   .show i x b
 show all r x b
def OO(ok:dq P w H h)(e:H a=I (.cD kvs)):ac kvs<=bg/\(a==jn)=ap/\
  ∃xs,jk H kvs xs/\h.DictOfH (sM<|il P w) a xs:=oH ok<|.inl e
end
def fX H a y r:=
 (∃kvs k,gX H a (.bJ kvs)/\y=da k/\r=gq kvs k)\/∃kvs k b,gX H a (.cD kvs)/\y= .ref b/\H b=I (.aZ<|k.map da)/\r=gq kvs k
def l0 H a y v U:=
 (∃kvs k,H a=I (.bJ kvs)/\y=da k/\ac kvs<bg/\U=al H a (.bJ<|hs kvs k v))\/
 ∃kvs k b,H a=I (.cD kvs)/\y= .ref b/\H b=I (.aZ<|k.map da)/\ac kvs<bg/\U=al H a (.cD<|hs kvs k v)
def fX.k{k:d'}(e:H a=I (.bJ kvs)):fX H a (da k) (gq kvs k):=.inl {kvs,k,.inl e,D,D}
def fX.t{k:List d'}(e:H a=I (.cD kvs))(c:H b=I (.aZ<|k.map da)):fX H a (.ref b) (gq kvs k):=.inr {kvs,k,b,.inl e,D,c,D}
def l0.k{k:d'}(e:H a=I (.bJ kvs))(b:ac kvs<bg):l0 H a (da k) v (al H a<|.bJ<|hs kvs k v):=.inl {kvs,k,e,D,b,(rfl)}
def l0.t{k:List d'}(e:H a=I (.cD kvs))(c:H b=I (.aZ<|k.map da))(d:ac kvs<bg):
  l0 H a (.ref b) v (al H a<|.cD<|hs kvs k v):=.inr {kvs,k,b,e,D,c,d,(rfl)}
section
variable{X:bO}{pins:List (ao×Obj)}{σ:St}{H:aP}{s:bb}{a:ao}{y v:ab}{u r:az}{o:Option ab}{A:db}{E:az->bb->Prop}
def aC.PD(J:aC X pins σ H s):jn<s⁻¹:=by have h:=(J.f5.nA.keeps J.hg).lt;show wb ⋯ h
def agf(q:A.units+1<eW)(J:aC X pins σ H s)(g:fX H a y (I v))(j:cb y u)(h:∀c s',aC X pins σ H s'->cb v c->Q c s'):
  aR (aU X.prog X.w) A (getItem (.ref a) u) Q E s:=by
 obtain⟨kvs,k,e,f,l⟩|⟨kvs,k,b,e,f,m,l⟩:=g
 .subst f
  let{z,af,vs,e0,(d)}:=oI J.a0 e
  let{c,ax,(i)}:=gW.w7 (by rw[l];show e0.val k);show Rl (rZ j) d.mapOf ax<|h c _ (J.eL _) i
 .subst f;cases(j)
  let{z,af,xs,e0,(d)}:=oH J.a0 e
  let{c,ax,(i)}:=gW.w7 (v:=v) (by rw[l];show e0.val k)
  let{p,n,(o)}:=Sv.mp ax
  show wpAny_getItem_heap (vS q) (qb J.a0 m) d n ?_;show o▸h c _ (J.eL _) i
def age(j:A.units+1<eW)(J:aC X pins σ H s)(g:fX H a y o)(f:cb y u)(h:∀s',aC X pins σ H s'->Q (.bool o.isSome) s'):
  aR (aU X.prog X.w) A (compareOp .In u<|.ref a) Q E s:=by
 obtain⟨kvs,k,e,d,l⟩|⟨kvs,k,b,e,d,i,l⟩:=g
 .subst d
  let{z,af,vs,e0,(c)}:=oI J.a0 e
  show wpAny_in_of (rZ f) af c.mapOf<|(e0.val k).uM▸l▸h _ (J.eL _)
 .subst d;cases(f)
  let{z,af,xs,e0,(c)}:=oH J.a0 e
  show wpAny_in_heap (vS j) (qb J.a0 i) af c ?_;have q:=(e0.val k).uM;rw[Gh]at q;show q▸l▸h _ (J.eL _)
def agc(j:A.units+1<eW)(J:aC X pins σ H s)(g:fX H a y o)(f:cb y u)(h:∀s',aC X pins σ H s'->Q (.bool<|!o.isSome) s'):
  aR (aU X.prog X.w) A (compareOp .NotIn u<|.ref a) Q E s:=by
 obtain⟨kvs,k,e,d,l⟩|⟨kvs,k,b,e,d,i,l⟩:=g
 .subst d
  let{z,af,vs,e0,(c)}:=oI J.a0 e
  show wpAny_notIn_of (rZ f) af c.mapOf<|(e0.val k).uM▸l▸h _ (J.eL _)
 .subst d;cases(f)
  let{z,af,xs,e0,(c)}:=oH J.a0 e
  show wpAny_notIn_heap (vS j) (qb J.a0 i) af c ?_;have q:=(e0.val k).uM;rw[Gh]at q;show q▸l▸h _ (J.eL _)
def D0(J:aC X pins σ H s)(f:k3 (H a))(e:lc a s.heap h')(d:∃q,h'.get? a=I q)(new:em X.prog X.w (al H a ob) h' a ob):
  aC X pins σ (al H a ob) {s with heap:=h',toks:=t'}:=
 J.mi f (.inl D) (λb q c z=>(e.2 b c).trans z) d new
def af2(z:ac kvs<=bg)(af:(a==jn)=ap)(e0:hE kvs vs)(b:h'.DictOf (il P w) a vs):
  em P w U h' a (.bJ kvs):={z,af,vs,e0,(b)}
def agb(K:A.units+1<eW)(J:aC X pins σ H s)(g:l0 H a y v U)(B:cb y u)(x:cb v r)(h:∀s',aC X pins σ U s'->Q fr s'):
  aR (aU X.prog X.w) A (setItem (.ref a) u r) Q E s:=by
 obtain⟨kvs,k,e,m,l,j⟩|⟨kvs,k,b,e,m,p,l,j⟩:=g
 .subst m j
  let{z,af,vs,e0,(i)}:=af1 J.a0 e
  have hz:↥vs<=bg:=by show ↥e0▸z
  have n:↥(hs kvs k v)<=bg:=by have:=Ni kvs k v;omega
  show wpAny_setItem_pairs (hsz:=hz) (rZ B) i λh' d o=>h _ ?_;have G:∃q,h'.get? a=I q:=let{q,_,_,f,_}:=d;{q,(f)};show D0 J (by rw[e];show l7) o G<|af2 n af (e0.put k x) d
 .subst m j;cases(B)
  let{z,af,xs,e0,(i)}:=OO J.a0 e
  have hz:↥xs<=bg:=pn e0▸z;have n:↥(hs kvs k v)<=bg:=by have:=Ni kvs k v;omega
  show wpAny_setItem_heap (hsz:=hz) (vS K) (qb J.a0 p) i λh' d o=>h _ ?_
  let{q,es,ep,f,Y,C,D,_,F}:=d
  show D0 J (by show e▸l7) o {q,(f)} {n,af,_,(e0.put k p x).keeps λc ys t=>aI (cq t e λz=>nomatch z)▸t,q,es,ep,f,Y,C,D,F}
end
section
variable{X:bO}{pins:List (ao×Obj)}{σ:St}{H:aP}{s:bb}{a:ao}{kvs:List (d'×ab)}{k:d'}{u:az}{A:db}{E:az->bb->Prop}
def agd(J:aC X pins σ H s)(e:gX H a (.bJ kvs))(h:∀t s',aC X pins σ H s'->Q (.int ↥kvs t) s'):aR (aU X.prog X.w) A (call (.builtin "len") [.ref a]) Q E s:=by
 let{z,af,vs,e0,(b)}:=oI J.a0 e
 show call_len_dict af b (by rw[<-↥e0];rw[cc]at z;omega)<|↥e0▸h _ _ (J.eL _)
end
def E3 i:=∀dn a,zn i ap dn a=operate [dn,a] (getItem dn a)
def HX{id:String}
  (f:sL (.type T) "__getitem__"=pure (I<|.builtin id)) (g:E3 slice)
  (h:aR (aU prog w) A (eval value am) (λo c=>aR (aU prog w) A (eval slice am) (λi a=>a.TypeIs o T/\aR (aU prog w) A (getItem o i) Q E a) E c) E s):
  aR (aU prog w) A (eval (.Subscript value slice pos) am) Q E s:=by
 show F3<|fA h (λo c j=>fA j (λi a b=>?_) λ_ _ x=>x) λ_ _ x=>x
 let{e,(b)}:=b
 show av<|av<|ze e f ?_;have fin:aR (aU prog w) A (zn slice ap o i) (λr d=>aR (aU prog w) A (letTemporaryGo value o r>>=λ_=>pure r) Q E d) E a:=g o i▸wpAny_operating (fA b (λr d k=>av<|wpAny_letTemporaryGo<|a7 k) λ_ _ x=>x);first
  |show a7<|av fin
  |rfl
  |show av fin
def af9{σ:St}(J:aC X pins σ H s)(g:fX H a y o):s.TypeIs (.ref a) "dict":=by
 obtain⟨kvs,k,e,_⟩|⟨kvs,k,b,e,_⟩:=g
 .let{_,_,vs,_,c}:=oI J.a0 e
  show c.typeIs
 .let{_,_,xs,_,c}:=oH J.a0 e
  show c.typeIs
inductive qyVE(Q:dR)(x:ab)(y:ab)(aw:aP):Prop|mk(a v)(_:x= .ref a)(_:fX aw a y (I v))(_:Q v aw)
def VE(dk dz:bD):(bD):=λσ H Q=>dk σ H λx an=>dz σ an λy aw=>qyVE Q x y aw
inductive qyVC(Q:dR)(y:ab)(x:ab)(aw:aP):Prop|mk(a o)(_:x= .ref a)(_:fX aw a y o)(_:Q (.a1 o.isSome) aw)
def VC(dz dk:bD):(bD):=λσ H Q=>dz σ H λy an=>dk σ an λx aw=>qyVC Q y x aw
inductive qyVz(Q:dR)(y:ab)(x:ab)(aw:aP):Prop|mk(a o)(_:x= .ref a)(_:fX aw a y o)(_:Q (.a1<|!o.isSome) aw)
def Vz(dz dk:bD):(bD):=λσ H Q=>dz σ H λy an=>dk σ an λx aw=>qyVz Q y x aw
inductive qyYO(aq:m1)(σ:St)(v:ab)(x:ab)(y:ab)(c:aP):Prop|mk(a b)(_:x= .ref a)(_:l0 c a y v b)(_:aq.b1 σ b)
def YO(dk dz gr:bD):(fq):=λaq σ H=>gr σ H λv an=>dk σ an λx aw=>dz σ aw λy c=>qyYO aq σ v x y c
section
variable{X:bO}{o i e value:Expr}{pos pos' lm:Pos}{dk dz gr:bD}
def xv(j:X.A.units+1<eW)(e:aX X o dk)(au:aX X i dz)(f:E3 i):aX X (.Subscript o i pos) (VE dk dz):=by intro pins s σ H Q J h;show HX PySem.F.slot_dict_getitem.lookup f<|bp (e pins s σ H _ J h) λu aj {x,an,c,n,(k)}=>bp (au pins aj σ an _ c k) λq aA {y,aw,b,p,a,v,bE,g,(l)}=>?_;subst bE;obtain rfl:u=cM a:=n;show{af9 b g,agf j b g p λt r d m=>{v,aw,d,m,(l)}}
def oo(f:X.A.units+1<eW)(au:aX X i dz)(e:aX X o dk):ss X .In i o (VC dz dk):=by intro pins s σ H Q J h;show bp (au pins s σ H _ J h) λn aj {y,an,b,m,(j)}=>bp (e pins aj σ an _ b j) λu aA {x,aw,c,l,a,dn,bE,g,(k)}=>?_;subst bE;obtain rfl:u=cM a:=l;show age f c g m λp d=>{.a1 dn.isSome,aw,d,D,k}
def xx(f:X.A.units+1<eW)(au:aX X i dz)(e:aX X o dk):ss X .NotIn i o (Vz dz dk):=by intro pins s σ H Q J h;show bp (au pins s σ H _ J h) λn aj {y,an,b,m,(j)}=>bp (e pins aj σ an _ b j) λu aA {x,aw,c,l,a,dn,bE,g,(k)}=>?_;subst bE;obtain rfl:u=cM a:=l;show agc f c g m λp d=>{.a1<|!dn.isSome,aw,d,D,k}
def ub(l:X.A.units+1<eW)(j:aX X o dk)(au:aX X i dz)(m:aX X value gr)(k:nM value (I<|.Subscript o i pos') pos.line X.am=pure ap):
  hh X (.Assign [.Subscript o i pos'] value pos) (YO dk dz gr):=by
 intro pins s σ H aq J h;show wpAny_Assign_Subscript (bp (m pins s σ H _ J h) λr aj {v,an,c,t,(n)}=>bp (j pins aj σ an _ c n) λu aA {x,aw,d,w,(p)}=>bp (au pins aA σ aw _ d p) λC D {y,B,e,z,a,b,bE,g,(q)}=>?_) k;subst bE;obtain rfl:u=cM a:=w;show agb l e g z t λE f=>{σ,b,f,(q)}
end
def af3(h:bG)(a:jn<h.objs.size):em P w H (h.push {cls:=.type "dict",data:=.dict #[]}) h.objs.size (.bJ []):=
 {cI _,k9.mpr<|eo<|du a,[],.nil,Heap.DictOf.new h}
def afW(h:bG)(a:jn<h.objs.size):em P w H (h.push {cls:=.type "dict",data:=.dict #[]}) h.objs.size (.cD []):=
 {cI _,k9.mpr<|eo<|du a,[],.nil,_,#[],0,dC _ D,{D,D,(rfl)},D,D,ne}
def VA:(bD):=λ_ H Q=>∀p,H p=ag->Q (.ref p) (al H p<|.bJ [])
section
variable{X:bO}{pos:Pos}
def xu:aX X (.Dict [] [] pos) VA:=λpins s σ H Q J h=>
 wpAny_Dict_empty {.ref s⁻¹,_,J.gx (λ_ _ q=>cB _ q) (bA _)<|af3 s.heap J.PD,D,h _<|J.a0.fresh<|bA _}
end
structure ajI(X:bO)(o:Expr)(m:Str)(apos:Pos)(e f:Expr)(gg:Pos):Prop where
 base:iw o m X.am (eval o X.am)=eval o X.am
 c1:((dM gg<|bj [e,f] X.am).all (λx=> !x.1)&&(m9 gg<|m4 [] X.am).all (λx=>x.1.isSome)
  &&decide (↥([e,f]:List Expr)+↥([]:List md)+(if([]:List md).isEmpty then 0 else 1)<30))=aa
 line:(apos.endLine==gg.line)=aa
 UP:dM gg (bj [e,f] X.am)=[(ap,eval e X.am),(ap,eval f X.am)]
def QL H a:=(∃kvs,gX H a<|.bJ kvs)\/∃kvs,gX H a<|.cD kvs
def adl{σ:St}(J:aC X pins σ H s)(d:QL H a):
  s.TypeIs (.ref a) "dict"/\(∀b,cM a= .ref b->∃ob,s.heap.get? b=I ob/\ob.dict=ag)/\(a==jn)=ap:=by
 obtain⟨kvs,e⟩|⟨kvs,e⟩:=d
 .let{_,af,vs,_,c}:=oI J.a0 e
  show{c.typeIs,λb q=>?_,af};cases q
  let{ob,_,_,O,Y,_}:=c
  show{ob,O,(Y.2.1)}
 .let{_,af,xs,_,c}:=oH J.a0 e
  show{c.typeIs,λb q=>?_,af};cases q
  let{ob,_,_,O,Y,_}:=c
  show{ob,O,(Y.2.1)}
section
variable{X:bO}{pins:List (ao×Obj)}{σ:St}{H:aP}{s:bb}{a:ao}{y d:ab}{u r:az}{o:Option ab}{A:db}{E:az->bb->Prop}
def agg(n:A.units+1<eW)(J:aC X pins σ H s)(g:fX H a y o)(i:cb y u)(bM:cb d r)(h:∀j s',aC X pins σ H s'->cb (o.getD d) j->Q j s'):
  aR (aU X.prog X.w) A (call (.builtin "dict.get") [.ref a,u,r]) Q E s:=by
 obtain⟨kvs,k,e,f,l⟩|⟨kvs,k,b,e,f,m,l⟩:=g
 .subst f
  let{z,af,vs,e0,(c)}:=oI J.a0 e
  show call_meetsIn Gg c.typeIs Sj (Sk _ _ _) (meets_dict_get_default (il X.prog X.w) a (rZ i) af r) {_,c.mapOf,h _ _ (J.eL _) ?_};rw[l];show(e0.val k).getD bM
 .subst f;cases(i)
  let{z,af,xs,e0,(c)}:=oH J.a0 e
  show call_meetsIn Gg c.typeIs Sj (Sk _ _ _) (meetsH_dict_get_default (sM<|il X.prog X.w) a b af r) {vS n,k,xs,qb J.a0 m,c,h _ _ (J.eL _)<|l▸(e0.val k).getD bM}
end
inductive qyVD(dz:bD)(wM:bD)(σ:St)(Q:dR)(x:ab)(an:aP):Prop|mk(a)(_:x= .ref a)(_:QL an a)(_:dz σ an λy aw=>wM σ aw λz b=>∃o,fX b a y o/\Q (o.getD z) b)
def VD(dk dz wM:bD):(bD):=λσ H Q=>dk σ H λx an=>qyVD dz wM σ Q x an
section
variable{X:bO}{o e f:Expr}{apos gg:Pos}{dk dz wM:bD}
def Ln(q:X.A.units+1<eW)(p:aX X o dk)(l:aX X e dz)(n:aX X f wM)(m:ajI X o "get" apos e f gg):aX X (.Call (.Attribute o "get" apos) [e,f] [] gg) (VD dk dz wM):=by
 intro pins s σ H Q J h;show wpAny_Call_method m.base m.c1 m.line PySem.F.plainAttrs_dict Gg PySem.F.type_dict_get<|bp (p pins s σ H _ J h) λu aj {x,an,b,B,a,bE,d,(r)}=>?_;subst bE;obtain rfl:u=cM a:=B
 let{fK,G,_}:=adl b d
 show{fK,G,m.UP▸As D (GR<|pz (bp (l pins aj σ an _ b r) λL aA {y,aw,i,C,(t)}=>
  pz (bp (n pins aA σ aw _ i t) λK M {z,c,j,E,dn,g,(v)}=>rd<|agg q j g C E λO N k w=>{_,c,k,w,v})))}
end
section
variable{X:bO}{pins:List (ao×Obj)}{σ:St}{H:aP}{s:bb}{a:ao}{kvs:List (d'×ab)}{A:db}{E:az->bb->Prop}
end
section
variable{X:bO}{pins:List (ao×Obj)}{σ:St}{H:aP}{s:bb}{a:ao}{y:ab}{u:az}{A:db}{E:az->bb->Prop}
end
section
variable{prog:bS}{w:bL}{A:db}{E:az->bb->Prop}
end
section
variable{X:bO}
end
def Pu:h3 "reversed"=I (.type "reversed"):=⋯
section
variable{X:bO}{pins:List (ao×Obj)}{σ:St}{H:aP}{s:bb}{h':bG}
def aC.wO{bU:List ao}(J:aC X pins σ H s)(k:∀b o,b∉bU->s.heap.get? b=I o->h'.get? b=I o)(d:∀b∈bU,gi X pins H b):aC X pins σ H {s with heap:=h',toks:=t'}:=by
 have i:∀b u,H b=I u->b∉bU:=λb u e z=>by have q:=(d b z).1;grind
 show J.step (λb f=>{(d b f).2.2.2.1,(d b f).2.1,(d b f).2.2.2.2.1,(d b f).2.2.2.2.2}) (λb o _ _ a e _=>k b o a e) (λb o _ _ a e _=>{o.slots,k b o a e})
  (λ_ _ _ _ n=>n) (λb o a e=>{o,k b o a e}) (λ_ _ e=>e) (λ_ _ _ e=>e) (λb ps e=>{#[],by rw[e];simp}) (λm g=>?_) (λb u e=>?_) J.dV
 .let{o,es,ep,h,(r)}:=g
  show{o,es,ep,k _ o (λz=>(d _ z).2.1 D) h,r}
 .show(J.a0 b u e).hq (λc v a q=>k c v ?_ q) (λ_ q=>q) λ_ _ q=>q;grind
def aC.wN{bU:List ao}{T:ao}(J:aC X pins σ H s)(k:∀b o,b∉bU->s.heap.get? b=I o->h'.get? b=I o)(f:∀b∈bU,gi X pins H b)(h:s⁻¹<=T)
  (new:em X.prog X.w (al H T ob) h' T ob):aC X pins σ (al H T ob) {s with heap:=h',toks:=t'}:=by
 have g:=J.a0.fresh h;have l:∀b u,H b=I u->b∉bU:=λb u e z=>by have q:=(f b z).1;rw[q]at e;cases e
 show J.step (λb a=>{(f b a).2.2.2.1,(f b a).2.1,(f b a).2.2.2.2.1,(f b a).2.2.2.2.2}) (λb o _ _ d e _=>k b o d e) (λb o _ _ d e _=>{o.slots,k b o d e})
  (λb o _ e n=>?_) (λb o d e=>{o,k b o d e}) (λb xs e=>?_) (λb o u e=>?_) (λb ps e=>{#[],?_}) (λm i=>?_) (λb u e=>?_) J.dV
 .rw[aI<|du<|dW (cm e) h];show n
 .rw[aI<|b3 e g];show e
 .show aI (b3 e g)▸e
 .rw[aI<|b3 e g,e];simp
 .let{o,es,ep,j,(r)}:=i
  show{o,es,ep,k _ o (λz=>(f _ z).2.1 D) j,r}
 .by_cases a:b=T
  .subst a;rw[ar]at e;cases e;show new
  .rw[aI a]at e;show(J.a0 b u e).hq (λc v d q=>k c v ?_ q) (λc q=>aI (b3 q g)▸q) λc xs q=>by rw[aI<|b3 q g];show q
   grind
def aC.Df(J:aC X pins σ H s)(h:H d=I u)(a:k3 (I u)):∃od,aC X pins σ (al H d<|.cg od u) s:=by
 have x:=J.a0 d u h;have bE:∃od,s.heap.get? d=I od:=by
  cases u with
  |ai xs=>let{_,_,_,_,e}:=x;grind
  |bJ kvs=>let{_,_,_,_,o,_,_,e,_}:=x;grind
  |cD kvs=>let{_,_,_,_,o,_,_,e,_}:=x;show{o,(e)}
  |set S n=>let{o,_,_,_,e,_}:=x;show{o,(e)}
  |aS C ae aF=>let{_,_,_,e,_}:=x;show{_,e}
  |ext c=>let{_,{_,e},_}:=x;show{_,e}
  |_=>show gJ a
 let{od,(e)}:=bE
 have new:em X.prog X.w (al H d<|.cg od u) s.heap d (.cg od u):=by
  show{e,x.hq (λb v _ q=>q) (λb q=>?_) λb xs q=>?_}
  .rw[aI λz=>by rw[z,h]at q;cases q;show a];show q
  .rw[aI λz=>by rw[z,h]at q;cases q;show a];show q
 show{od,J.mi (h▸a) (.inl D) (λb v _ q=>q) {od,(e)} new}
def aC.uw(J:aC X pins σ H s)(h:H d=I u)(b:k3 (I u)):∀bX a,X.qC d≠I (.cg bX a):=λbX a e=>by have q:=J.base.hw d bX a e;rw[h]at q;cases q;show b
def aC.tJ(J:aC X pins σ H s)(h:H d=I (.cg od u))(j:∀bX g,X.qC d≠I (.cg bX g)):aC X pins σ (al H d u) s:=by
 have a:∀b o,H b=I o->(∀bX g,o≠ .cg bX g)->b≠d:=λb o e k z=>by rw[z,h]at e;cases e;show k _ _ D
 have neN:∀b,H b=ag->b≠d:=λb e z=>by rw[z,h]at e;cases e
 show{J.ok,J.os,J.dV,{J.base.keep,J.base.slot,λb o e n i=>?_,J.base.there,λb xs e=>?_,λb o x e=>?_,λb ps e=>?_},J.fC,J.cell,?_,λx c e=>?_,λp l=>?_,λb o e=>?_,J.len}
 .rw[aI<|neN b<|J.base.free b o e n i];show J.base.free b o e n i
 .have q:=J.base.gL b xs e;show aI (a b _ q λ_ _ z=>nomatch z)▸q
 .have q:=J.base.hw b o x e;rw[aI λz=>by rw[z]at e;show j _ _ e];show q
 .let{m,(q)}:=J.base.ia b ps e
  show{m,by rw[aI<|a b _ q λ_ _ z=>nomatch z];show q}
 .rw[aI<|neN _ J.free];show J.free
 .rw[aI<|neN c<|J.hX x c e];show J.hX x c e
 .let{e,n,(r)}:=J.fM p l
  show{e,aI (neN _ n)▸n,r}
 .by_cases f:b=d
  .rw[f,ar]at e;cases e;rw[f]
   let{_,x}:=J.a0 d _ h
   show x.hq (λc v _ q=>q) (λc q=>by rw[aI<|a c _ q λ_ _ z=>nomatch z];show q) λc xs q=>by show aI (a c _ q λ_ _ z=>nomatch z)▸q
  .rw[aI f]at e;show(J.a0 b o e).hq (λc v _ q=>q) (λc q=>by rw[aI<|a c _ q λ_ _ z=>nomatch z];show q) λc xs q=>by rw[aI<|a c _ q λ_ _ z=>nomatch z];show q
end
inductive Vr(t:fq)(aq:m1)(σ:St)(H:aP):Prop|mk(d u)(_:H d=I u)(_:k3 (I u))(_:∀od,t {λa U=>U d=I (.cg od u)/\aq.b1 a (al U d u),λv U=>U d=I (.cg od u)/\aq.kM v (al U d u),λa U=>U d=I (.cg od u)/\aq.hg a (al U d u),λa U=>U d=I (.cg od u)/\aq.e9 a (al U d u)} σ<|al H d<|.cg od u)
inductive Vq(t:bD)(σ:St)(H:aP)(Q:dR):Prop|mk(d u)(_:H d=I u)(_:k3 (I u))(_:∀od,t σ (al H d<|.cg od u) λv U=>U d=I (.cg od u)/\Q v (al U d u))
section
variable{X:bO}
def K7{st:hG}(h:hh X st t):hh X st (Vr t):=by
 intro pins s σ H aq J ax
 let{d,u,af,c,(ax)}:=ax
 let{od,(g)}:=J.Df af c
 show bp (h pins s σ _ _ g<|ax od) λf aj q=>?_;cases f with
 |next=>let{b,U,a,e,(q)}:=q;show{b,_,a.tJ e<|J.uw af c,q}
 |brk=>let{b,U,a,e,(q)}:=q;show{b,_,a.tJ e<|J.uw af c,q}
 |cont=>let{b,U,a,e,(q)}:=q;show{b,_,a.tJ e<|J.uw af c,q}
 |ret v=>let{x,b,U,a,r,e,(q)}:=q;show{x,b,_,a.tJ e<|J.uw af c,r,q}
def ZR(h:aX X e t):aX X e (Vq t):=by
 intro pins s σ H Q J ax
 let{d,u,af,a,(ax)}:=ax
 let{od,(b)}:=J.Df af a
 show bp (h pins s σ _ _ b<|ax od) λv aj {x,an,c,r,f,(q)}=>{x,_,c.tJ f<|J.uw af a,r,q}
def uf{σ:St}(J:aC X pins σ H s) o
  (T:km X.prog X.w X.K dE ci [s⁻¹] s⁻¹ b7) (st:b7 0 (s.heap.push o)) (q:R ci H):yV X pins σ dE R (.ref s⁻¹) {s with heap:=s.heap.push o,toks:=tk}:=by
 show{s⁻¹,[s⁻¹],b7,ci,H,D,J.fc λb ob e=>cB _ e,T,st,λb a=>?_,q};have e:=‹a›
 subst e;show J.mL (bA _)<|J.a0.fresh<|bA _
end
section
variable{X:bO}{dE:Expr}
end
def QG(K:b9)(a:ao)(n:Nat):(hY):=
 {λi H=>i<n/\∃(xs:List ab) (x:ab),aB K H a xs/\xs[n-1-i]? =I x,λi H x U=>U=H/\∀xs,aB K H a xs->xs[n-1-i]? =I x,λi _=>n<=i}
def UF{K:b9} a aQ n:km P w K dE (QG K a n) [aQ] aQ (λi h=>i<=n/\h.IsRevIter aQ a (n-1-i)) where
 mem:=by simp
 obj:=λi h st b f=>by
  have e:b=aQ:=‹f›
  subst e
  let{_,o,e,c,d}:=st
  show{o,e,λv z=>by rw[d]at z;cases z}
 keep:=λi h h' st k=>{st.1,st.2.at λo e=>k aQ () o e}
 item:=by
  intro X y ax t F i pins s σ H E J g st B;subst y ax t
  let{G,xs,x,L,(M)}:=B
  let{aW,V,p,(hz)}:=J.list L
  let{u,S,(U)}:=V.get M
  let{l,f1,f2,m,q,(r)}:=g aQ ()
  let{_,hit}:=st
  have j:(n:Int)-1-((i:Nat):Int)=((n-1-i:Nat):Int):=by omega
  rw[j]at hit;show wpAny_pyNext_rev_item hit p.isList (x:=u) ‹S› λh' C c9=>?_;have O:((n-1-i:Nat):Int)-1=(n:Int)-1-((i+1:Nat):Int):=by omega
  rw[O]at C;have N:=J.h9 (t':=s.toks) (λb o f e=>(c9.2 b f).trans e) l f1 m q r
  let{o,e,c,(d)}:=id C
  show{u,D,r6 (s:={s with heap:=h'}) e c d ⋯ {x,H,N,U,{D,λys T=>by rw[J.rY T L];show M},{G,(C)},λb f=>(g b f).1}}
 done:=by
  intro X y ax t F i pins s σ H E J g st B;subst y ax t
  let{l,f1,f2,m,q,(r)}:=g aQ ()
  let{G,(hit)}:=st
  have W:n<=i:=B;have j:(n:Int)-1-((i:Nat):Int)= -1:=by omega
  rw[j]at hit;show wpAny_pyNext_rev_end (J.ok.af F) hit λh' R=>{D,J.h9 (t':=s.toks) (λb o f e=>R b o f e) l f1 m q r}
 self:=λA i s Q E st h=>Rd st.2 h
inductive qyadt(K:b9)(R:hY->aP->Prop)(vs:List ab)(an:aP):Prop|mk(a:ao)(xs:List ab)(_:vs=[.ref a])(_:aB K an a xs)(_:R (QG K a ↥xs) an)
def adt(K:b9)(bc:fF):(gV):=λσ H R=>bc σ H λvs an=>qyadt K R vs an
section
variable{X:bO}{dE:Expr}
def ZH(f:ea X "reversed")(g:X.mg "reversed"=ag)(d:d2 X [e] bc)(j:bj [e] X.am=[(ap,eval e X.am)]<|>zzr):ko X dE (.Call (.Name "reversed" p) [e] [] pos) (adt X.K bc):=by
 intro pins s σ H R J h;show Call_<|mF J f g Pu<|q1 (bp (d pos pins s σ H _ J h) λay aj {vs,an,b,n,(m)}=>?_) j D
 let{a,xs,e,i,(q)}:=m
 subst e;cases n with
 |cons r o=>
  cases o;cases r
  let{aW,t,k,(hz)}:=b.list i
  have u:=↥t;have c:((aW.toArray.size:Nat):Int)-1=(↥xs:Int)-1-((0:Nat):Int):=by simp only[ed];omega
  show RI k.isList<|Rd (l:=a) {_,dC _ D,D,D}<|uf b _ (UF a _ ↥xs) {cI _,?_} q;show c▸{_,dC _ D,D,D}
end
def sy(x:Str):(hY):={λi _=>i<x.cps.size,λi H v U=>U=H/\∃c,x.cps[i]? =I c/\v= .str ⟨#[c]⟩,λi _=>x.cps.size<=i}
def Hx{K:b9} aQ x t dz(p:dz="str_ascii_iterator"\/dz="str_iterator"):
  km P w K dE (sy x) [aQ] aQ (λi h=>h.IsStrIter aQ dz x t i) where
 mem:=by simp
 obj:=λi h st b a=>by
  have e:b=aQ:=‹a›
  subst e
  let{o,e,c,(d)}:=st
  show{o,e,λv z=>by rw[d]at z;cases z}
 keep:=λi h h' st k=>let{o,S,(r)}:=st;{o,k aQ () o S,r}
 item:=by
  intro X B ax y f i pins s σ H E J n st C;subst B ax y
  let{g,f1,f2,j,l,(m)}:=n aQ ()
  have W:Walks X.prog X.w X.A aQ [aQ] [aQ] x.cps.size (SignAt x) (λi h=>h.IsStrIter aQ dz x t i):=by
   obtain e|e:=p
   .rw[e];show Walks.strAscii (J.ok.af f) aQ x t
   .rw[e];show Walks.strWide (J.ok.af f) aQ x t
  have R:["enumerate","zip","dict_itemiterator","dict_reverseitemiterator","odict_iterator","itertools.zip_longest","itertools.pairwise"].contains dz=ap:=by
   obtain e|e:=p
   .rw[e];decide
   .rw[e];decide
  show W.item i s _ _ C st λv h' tk T G U=>?_;let{c,u,O,(rfl)}:=T;have L:aC X pins σ H {s with heap:=h',toks:=tk}:=J.h9 (λb o a e=>U b o ‹a› e) g f1 j l m
  let{V,e,M,(N)}:=id G
  show{_,D,r6 (s:={s with heap:=h',toks:=tk}) e M N R {.str ⟨#[c]⟩,H,L,{u,(rfl)},{D,c,O,(rfl)},G,λb a=>(n b a).1}}
 done:=by
  intro X B ax y f i pins s σ H E J n st C;subst B ax y
  let{g,f1,f2,j,l,(m)}:=n aQ ()
  have F:x.cps[i]? =ag:=wB C;obtain e|e:=p
  .rw[e]at st;show wpAny_pyNext_ascii_end (J.ok.af f) st F λh' q=>{D,J.h9 (t':=s.toks) (λb o a e=>q b o a e) g f1 j l m}
  .rw[e]at st;show wpAny_pyNext_wide_end (J.ok.af f) st F λh' q=>{D,J.h9 (t':=s.toks) (λb o a e=>q b o a e) g f1 j l m}
 self:=λA i s Q E st h=>by
  obtain e|e:=p
  .rw[e]at st;show wpAny_pyIter_striter_ascii st h
  .rw[e]at st;show wpAny_pyIter_striter_wide st h
inductive qyadr(R:hY->aP->Prop)(v:ab)(an:aP):Prop|mk(x)(_:v= .str x)(_:R (sy x) an)
def adr(bW:bD):(gV):=λσ H R=>bW σ H λv an=>qyadr R v an
def Ch(c:aX X e bW):ko X dE e (adr bW):=by
 intro pins s σ H R J h;show bp (c pins s σ H _ J h) λv aj {y,an,a,d,x,bE,(q)}=>?_;subst bE;let{t,(rfl)}:=d;cases b:x.cps.all (·<128)
 .show wpAny_pyIter_wide b<|uf (tk:=aj.toks) a _ (Hx _ x t "str_iterator"<|.inr D) {_,dC _ D,D,D} q
 .show wpAny_pyIter_ascii b<|uf a _ (Hx _ x t "str_ascii_iterator"<|.inl D) {_,dC _ D,D,D} q
section
variable{prog:bS}{w:bL}{A:db}{E:az->bb->Prop}{s:bb}
def Dq(af:(d==jn)=ap)(b:s.heap.get? d=I o)(f:o.ExactDict)(c:o.data= .dict es ep)
  (e:Q (.ref s⁻¹) {s with heap:=s.heap.push {cls:=.type "dict_keyiterator",data:=.fields #[.ref d,.int 0 0,.int es.size 0,.int ep 0]}}):
  aR (aU prog w) A (pyIter<|.ref d) Q E s:=by
 have a:s.TypeIs (.ref d) "dict":={o,b,(f.1)};show zf a TE<|jT TE a F.entry_dict_iter ?_<|F.args_dict_iter_1 _;show av ?_;show av<|wpAny_notOrdered_dict a ?_;show a7 ?_;change aR _ _ (TN d>>=_) _ _ s;unfold TN;rw[aD (by rw[af];simp)];show av<|a7<|av<|sH b c<|av<|vO b c<|av<|l1<|a7 {_,D,"dict_keyiterator",_,{_,dC _ D,D},F.slot_dict_keyiterator_next.lookup,?_};simpa[g4]using e
def ab6(hit:s.heap.IsKeyIter aQ d i n ep)(e:s.heap.get? d=I od)(b:od.data= .dict es ep)
  (hsz:es.size=n) (k:es[i]? =I q) (f:∀h',h'.IsKeyIter aQ d (i+1) n ep->lc aQ s.heap h'->Q (I q.key) {s with heap:=h'}):aR (aU prog w) A (pyNext<|.ref aQ) Q E s:=by
 let{o,a,g,(af)}:=id hit
 unfold pyNext;show av<|o8 (nL (name:=kz "__next__") hit.typeIs py
  (jT py hit.typeIs Ao ?_<|Ap _))
 show av<|a7 ?_;show av ?_;show av ?_;first|show av (o2 hit.typeIs<|a7 ?_)|show av<|wpAny_typeNameOf_keyiter hit.typeIs<|a7 ?_
 show av<|o6 a af ?_;have l:Ay "dict_keyiterator"=ap:=by decide
 show av<|a7 ?_;show av<|sH e b ?_;rw[aD (by rw[hsz];simp)];show av<|a7 ?_;show av<|vO e b ?_;rw[aD ()];show a7 ?_
 let{j,(h)}:=rf.mp k
 simp only[show ¬((i:Int)<0)from ∅,ku,hJ,gK j];show av ?_;first|show av (o2 hit.typeIs<|a7 ?_)|show av<|wpAny_typeNameOf_keyiter hit.typeIs<|a7 ?_
 show av<|zi hit.typeIs ?_;change aR _ _ (vT (.ref aQ) 1 (g4<|(i:Int)+1)>>=_) _ _ s;show av<|qG a af () ?_;have c:(s.heap.update aQ (q2 (·.setIfInBounds 1 (g4<|(i:Int)+1)))).IsKeyIter aQ d (i+1) n ep:=
  {_,me _ a<|zX<|q3 af _,(Gj ..).trans g,by rw[q3 af];simp[g4]}
 show av<|hj ?_;show av<|zi c.typeIs ?_;change aR _ _ (pure es[i].key) _ _ _;rw[h];show a7<|a7 {_,D,a7<|f _ c<|mf ..}
def Mu(k:A.handled=ag)(hit:s.heap.IsKeyIter aQ d i n ep)(f:s.heap.get? d=I od)(c:od.data= .dict es ep)
  (hsz:es.size=n) (h:n<=i) (g:∀h',Tx aQ s.heap h'->Q ag {s with heap:=h'}):aR (aU prog w) A (pyNext<|.ref aQ) Q E s:=by
 let{o,e,p,(af)}:=id hit
 unfold pyNext;show av<|o8 (nL (name:=kz "__next__") hit.typeIs py
  (jT py hit.typeIs Ao ?_<|Ap _))
 show av<|a7 ?_;show av ?_;show av ?_;first|show av (o2 hit.typeIs<|a7 ?_)|show av<|wpAny_typeNameOf_keyiter hit.typeIs<|a7 ?_
 show av<|o6 e af ?_;have l:Ay "dict_keyiterator"=ap:=by decide
 show av<|a7 ?_;show av<|sH f c ?_;rw[aD (by rw[hsz];simp)];show av<|a7 ?_;show av<|vO f c ?_;rw[aD ()];show a7 ?_;have j:es.size<=i:=by rw[hsz];show h
 simp only[show ¬((i:Int)<0)from ∅,ku,hJ,wB j];show av ?_;first|show av (o2 hit.typeIs<|a7 ?_)|show av<|wpAny_typeNameOf_keyiter hit.typeIs<|a7 ?_
 change aR _ _ (vT (.ref aQ) 0 .none>>=_) _ _ s;show av<|qG e af () ?_;change aR _ _ (newExc (.type "StopIteration") []>>=_) _ _ _;show av ?_;simp only[newExc,newTuple];show av (l1 ?_<|by size_fits);show av (m:=vW _ _)<|vL (a:=iW) (by first|rfl|(simp only[vW];rfl)) ?_;show l1 ?_ (by size_fits);simp only[FH];show av<|FA ?_;rw[show A.in1.handled=ag from k];show av<|a7<|Ft ?_;show av<|zj (T:="StopIteration") (b:=aa) {_,dC _ D,D} Rz ?_;show a7<|g _<|((mf ..).extBut.push _).push _
end
def aan{G:α->q->Prop}{c:List α}{d:List q}(h:Paired G c d):∀{i:Nat} {a:α},c[i]? =I a->∃b,d[i]? =I b/\G a b:=by
 induction h with
 |nil=>intro i a e;cases e
 |cons r t f=>
  intro i a e;cases i with
  |zero=>cases d3 e;show{_,rfl,r}
  |succ i=>show f e
def Dl{kvs:List (κ×ab)}{vs:List (κ×az)}(h:hE kvs vs):∀{i:Nat} {k:κ} {v:ab},kvs[i]? =I (k,v)->∃u,vs[i]? =I (k,u)/\cb v u:=by intro i k v e;let{{_,u},O,rfl,c}:=aan h e;show{u,O,c}
def B2(h:oz k u=aa):cb (da k) u:=by
 obtain⟨i,t,rfl,rfl⟩|⟨x,t,rfl,rfl⟩:=mH h
 .show{t,(rfl)}
 .show{t,(rfl)}
section
variable{X:bO}{pins:List (ao×Obj)}{σ:St}{H:aP}{s:bb}{d:ao}{o:Obj}
def aC.qg(J:aC X pins σ H s)(h:H d=I (.cg o<|.bJ kvs)):
  (d==jn)=ap/\s.heap.get? d=I o/\o.ExactDict/\∃(es:Array tz) (ep:Nat) (vs:List (d'×az)),o.data= .dict es ep/\es.size=↥kvs/\hE kvs vs/\s.heap.DictAt (il X.prog X.w) d vs ep:=by
 let{af,z,f,vs,e,bX,es,ep,b,c,a,(r)}:=J.a0 d _ h
 rw[af]at b;cases b;show{f,af,c,es,ep,vs,a,?_,e,o,es,af,c,a,r};have cX:=↥r.2.1;have d8:=pn e;grind
def aC.DI(J:aC X pins σ H s)(h:H d=I (.cg o<|.cD kvs)):
  (d==jn)=ap/\s.heap.get? d=I o/\o.ExactDict/\∃(es:Array tz) (ep:Nat),o.data= .dict es ep/\es.size=↥kvs/\
   ∀(i:Nat) k v,kvs[i]? =I (k,v)->∃(a:tz) (q:ao),es[i]? =I a/\a.key= .ref q/\H q=I (.aZ<|k.map da):=by
 let{af,z,n,xs,g,bX,es,ep,f,p,m,c,_}:=J.a0 d _ h
 rw[af]at f;cases f;show{n,af,p,es,ep,m,?_,λi k v e=>?_}
 .have cX:=Rs c;have d8:=pn g;omega
 .let{b,l,r,j,_}:=aan g e
  have q:=entry_at c i;rw[l]at q;show{_,b.2.1,q,D,j}
end
def E9(d:ao)(o:Obj)(kvs:List (d'×ab)):(hY):=
 {λi H=>H d=I (.cg o<|.bJ kvs)/\i<ac kvs,λi H x U=>U=H/\∃k v,kvs[i]? =I (k,v)/\x=da k,λi H=>H d=I (.cg o<|.bJ kvs)/\ac kvs<=i}
def QH(d:ao)(o:Obj)(kvs:List (List d'×ab)):(hY):=
 {λi H=>H d=I (.cg o<|.cD kvs)/\i<ac kvs,λi H x U=>U=H/\∃(k:List d') (v:ab) (q:ao),kvs[i]? =I (k,v)/\x= .ref q/\H q=I (.aZ<|k.map da),λi H=>H d=I (.cg o<|.cD kvs)/\ac kvs<=i}
def qk{o:Obj}(h:o.data= .dict es ep)(h':o.data= .dict es' q):es'=es/\q=ep:=by
 grind
section
variable{P:bS}{w:bL}{K:b9}{dE:Expr}{d:ao}{o:Obj}{es:Array tz}{ep:Nat}
def UJ aQ(N:o.data= .dict es ep):km P w K dE (E9 d o kvs) [aQ] aQ (λi h=>h.IsKeyIter aQ d i ↥kvs ep) where
 mem:=by simp
 obj:=λi h st b a=>by
  have e:b=aQ:=‹a›
  subst e
  let{j,e,c,(l)}:=st
  show{j,e,λv z=>by rw[l]at z;cases z}
 keep:=λi h h' st k=>st.at λj e=>k aQ () j e
 item:=by
  intro X x ax t C i pins s σ H E J g st y;subst x ax t
  let{af,(au)}:=y
  let{m,f1,f2,n,q,(r)}:=g aQ ()
  let{V,F,Y,es',T,vs,f,hsz,B,(M)}:=J.qg af
  let{rfl,(rfl)}:=qk N f
  let{{k,(v)},G}:∃p,kvs[i]? =I p:={kvs[i],cA au}
  let{u,W,(Z)}:=Dl B G
  have L:↥kvs=↥vs:=pn B;rw[L]at st;show wpAny_pyNext_dict_item st M W λkey h' U O c9=>?_;have R:=J.h9 (t':=s.toks) (λb ob a e=>(c9.2 b a).trans e) m f1 n q r
  let{j,e,c,(l)}:=id O
  show{key,D,r6 (s:={s with heap:=h'}) e c l ⋯ {da k,H,R,B2<|U,{D,k,v,G,(rfl)},?_,λb a=>(g b a).1}};rw[L];show O
 done:=by
  intro X x ax t C i pins s σ H E J g st y;subst x ax t
  let{af,(au)}:=y
  let{m,f1,f2,n,q,(r)}:=g aQ ()
  let{V,F,Y,es',T,vs,f,hsz,B,(M)}:=J.qg af
  let{rfl,(rfl)}:=qk N f
  show Mu (J.ok.af C) st F f hsz au λh' S=>{D,J.h9 (t':=s.toks) (λb ob a e=>S b ob a e) m f1 n q r}
 self:=λA i s Q E st h=>wpAny_pyIter_keyiter st h
def UI aQ(L:o.data= .dict es ep):km P w K dE (QH d o kvs) [aQ] aQ (λi h=>h.IsKeyIter aQ d i ↥kvs ep) where
 mem:=by simp
 obj:=λi h st b a=>by
  have e:b=aQ:=‹a›
  subst e
  let{j,e,c,(l)}:=st
  show{j,e,λv z=>by rw[l]at z;cases z}
 keep:=λi h h' st k=>st.at λj e=>k aQ () j e
 item:=by
  intro X x ax u C i pins s σ H E J g st y;subst x ax u
  let{af,(au)}:=y
  let{m,f1,f2,n,r,(t)}:=g aQ ()
  let{W,B,Y,es',S,f,hsz,(ent)}:=J.DI af
  let{rfl,(rfl)}:=qk L f
  let{{k,(v)},G}:∃p,kvs[i]? =I p:={kvs[i],cA au}
  let{R,q,T,U,(V)}:=ent i k v G
  show ab6 st B f hsz T λh' M c9=>?_;have N:=J.h9 (t':=s.toks) (λb ob a e=>(c9.2 b a).trans e) m f1 n r t
  let{j,e,c,(l)}:=id M
  show{R.key,D,r6 e c l ⋯ {.ref q,H,N,U,{D,k,v,q,G,D,(V)},M,λb a=>(g b a).1}}
 done:=by
  intro X x ax u C i pins s σ H E J g st y;subst x ax u
  let{af,(au)}:=y
  let{m,f1,f2,n,r,(t)}:=g aQ ()
  let{W,B,Y,es',S,f,hsz,(ent)}:=J.DI af
  let{rfl,(rfl)}:=qk L f
  show Mu (J.ok.af C) st B f hsz au λh' O=>{D,J.h9 (t':=s.toks) (λb ob a e=>O b ob a e) m f1 n r t}
 self:=λA i s Q E st h=>by show zf st.typeIs TD<|jT TD st.typeIs F.entry_dict_keyiterator_iter ?_<|F.args_dict_keyiterator_iter_1 _;show a7 {_,D,"dict_keyiterator",_,st.typeIs,F.slot_dict_keyiterator_next.lookup,h}
end
inductive qyadv(R:hY->aP->Prop)(x:ab)(an:aP):Prop|mk(d o)(_:x= .ref d)(_:((∃kvs,an d=I (.cg o<|.bJ kvs)/\R (E9 d o kvs) an)\/∃kvs,an d=I (.cg o<|.cD kvs)/\R (QH d o kvs) an))
def adv(dk:bD):(gV):=λσ H R=>dk σ H λx an=>qyadv R x an
section
variable{X:bO}{dE e:Expr}{dk:bD}{apos gg:Pos}
def Ci(i:aX X e dk):ko X dE e (adv dk):=by
 intro pins s σ H R J h;show bp (i pins s σ H _ J h) λu aj {x,an,b,j,d,o,bE,(q)}=>?_;subst bE;obtain rfl:u=cM d:=j;obtain⟨kvs,af,q⟩|⟨kvs,af,q⟩:=q
 .let{f,c,g,es,ep,vs,a,hsz,l,(k)}:=b.qg af
  show Dq f c g a<|uf (tk:=aj.toks) b _ (UJ _ a) {_,dC _ D,D,?_} q;rw[hsz]<;>rfl
 .let{f,c,g,es,ep,a,hsz,(ent)}:=b.DI af
  show Dq f c g a<|uf b _ (UI _ a) {_,dC _ D,D,?_} q;rw[hsz]<;>rfl
end
def QK(K:b9)(a:ao):(hY):=
 {λi H=>∃(xs:List ab) (x:ab),aB K H a xs/\xs[i]? =I x,λi H v U=>∃T x,v= .ref T/\H T=ag/\U=al H T (.aZ [.int i,x])/\∀xs,aB K H a xs->xs[i]? =I x,λi H=>∃xs:List ab,aB K H a xs/\ac xs<=i}
def UM{K:b9} a e aQ:
  km P w K (.Tuple elts b7 lm) (QK K a) [e,aQ] e (λi h=>(∃old,tw h e aQ i old)/\h.IsListIter aQ a i/\e≠aQ) where
 mem:=by simp
 obj:=λi h st b c=>by
  let{{old,(d)},{o,y,r,(af)},_}:=st
  have l:b=e\/b=aQ:=‹c›
  obtain z|z:=l
  .rw[z];show{_,d,λv q=>nomatch q}
  .rw[z];show{o,y,λv q=>by rw[af]at q;cases q}
 keep:=λi h h' st k=>let{{old,(d)},au,f}:=st;{{old,k e () _ d},au.at λo q=>k aQ () o q,f}
 item:=by
  intro X n ax m r i pins s σ H E J g st t;subst n ax m
  let{{old,(d)},hit,f}:=st
  let{xs,x,j,(B)}:=t
  let{aW,C,p,(hz)}:=J.list j
  let{u,ae,(ai)}:=C.get B
  have G:e<s⁻¹:=cm d;have Z:aQ<s⁻¹:=by let{_,q,_}:=hit;show cm q
  show wpAny_pyNext_enum_item d hit p.isList (x:=u) ‹ae› f λh' y ab U hsz ad=>?_;show{_,D,Rj (s:={s with heap:=h',toks:=s.toks+1}) y λF Y c9=>?_};have V:=(c9.2 _<|ma G).trans U;have new:em X.prog X.w (al H s⁻¹<|.aZ [.int (i:Nat),x]) F s⁻¹ (.aZ [.int (i:Nat),x]):=
   {by change 2<=bg;decide,[.int i s.toks,u],.cons {_,D}<|.cons ai .nil,{_,V,D,_,D}}
  have L:aC X pins σ (al H s⁻¹<|.aZ [.int (i:Nat),x]) {s with heap:=F,toks:=s.toks+1}:=
   J.wN (bU:=[e,aQ]) (λb ob c q=>(c9.2 b λz=>c<|by simp[z]).trans<|ad b ob (λz=>c<|by simp[z]) (λz=>c<|by simp[z]) q) g (bA _) new
  show{.ref s⁻¹,_,L,D,{_,x,D,J.a0.fresh<|bA _,D,λys ah=>by rw[J.rY ah j];show B},{{u,?_},ab.at λo q=>(c9.2 aQ<|eo f).trans q,f},λb c=>?_}
  .have M:((i+1:Nat):Int)=(i:Int)+1:=by omega
   rw[M];show Y
  .have W:b<s⁻¹:=by
    have l:b=e\/b=aQ:=‹c›
    obtain z|z:=l
    .rw[z];show G
    .rw[z];show Z
   rw[aI<|du W];show(g b c).1
 done:=by
  intro X n ax m r i pins s σ H E J g st t;subst n ax m
  let{{old,(d)},hit,f}:=st
  let{xs,j,(B)}:=t
  let{aW,C,p,(hz)}:=J.list j
  let{O,f1,f2,R,S,(T)}:=g aQ ()
  have aj:=↥C;show wpAny_pyNext_enum_end (J.ok.af r) d hit p.isList (by simp;omega) λh' N=>{D,J.h9 (t':=s.toks) (λb o c q=>N b o c q) O f1 R S T}
 self:=λA i s Q E st h=>let{{_,d},_}:=st;vK d h
inductive qyadx(K:b9)(R:hY->aP->Prop)(vs:List ab)(an:aP):Prop|mk(a xs)(_:vs=[.ref a])(_:aB K an a xs)(_:R (QK K a) an)
def adx(K:b9)(bc:fF):(gV):=λσ H R=>bc σ H λvs an=>qyadx K R vs an
def Lk(k:ea X "enumerate")(m:X.mg "enumerate"=ag)(i:d2 X [e] bc)(o:bj [e] X.am=[(ap,eval e X.am)]<|>zzr):
  ko X (.Tuple elts b7 lm) (.Call (.Name "enumerate" p) [e] [] pos) (adx X.K bc):=by
 intro pins s σ H R J h;show Call_<|mF J k m RK<|q1 (bp (i pos pins s σ H _ J h) λay aj {vs,an,c,v,(u)}=>?_) o D
 let{a,xs,bE,n,(q)}:=u
 subst bE;cases v with
 |cons r w=>
  cases w;cases r
  let{aW,x,t,(hz)}:=c.list n
  show call_enumerate_list t.isList λh' d hit hsz l=>vK d ?_;have f:=c.fc (t':=aj.toks) l;show{aj⁻¹+1,[aj⁻¹+1,aj⁻¹],_,_,an,D,f,UM a (aj⁻¹+1) aj⁻¹,{{.none,d},hit,Gm _},λb j=>?_,q};have g:=‹j›
  have hle:aj⁻¹<=b:=by
   obtain z|z:=g
   .show z▸wc _ _
   .show z▸bA _
  show c.mL hle<|c.a0.fresh hle
def aiw:h3 "zip"=I (.type "zip"):=⋯
def QF(K:b9)(a b:ao):(hY):=
 {λi H=>∃(xs ys:List ab) (x y:ab),aB K H a xs/\aB K H b ys/\xs[i]? =I x/\ys[i]? =I y,
  λi H v U=>∃T x y,v= .ref T/\H T=ag/\U=al H T (.aZ [x,y])/\(∀xs,aB K H a xs->xs[i]? =I x)/\∀ys,aB K H b ys->ys[i]? =I y,
  λi H=>∃xs ys:List ab,aB K H a xs/\aB K H b ys/\(ac xs<=i\/ac ys<=i)}
def UE{K:b9}{gV jf:ao}(aq:ZipApart z gV jf dP b7 a b):
  km P w K (.Tuple elts dY lm) (QF K a b) [z,gV,jf,dP,b7] z (λi h=>IsZip h z gV jf .none/\IsPair h gV (.ref dP) (.ref b7)/\(∃x y,IsPair h jf x y)/\h.IsListIter dP a i/\h.IsListIter b7 b i) where
 mem:=by simp
 obj:=λi h st c j=>by
  let{hz,f,{x,y,(g)},{aA,F,_,ai},{aB,G,_,aj}}:=st
  have C:c=z\/c=gV\/c=jf\/c=dP\/c=b7:=‹j›
  obtain q|q|q|q|q:=C
  .rw[q];show{_,hz,λv q=>nomatch q}
  .rw[q];show{_,f,λv q=>nomatch q}
  .rw[q];show{_,g,λv q=>nomatch q}
  .rw[q];show{aA,F,λv q=>by rw[ai]at q;cases q}
  .rw[q];show{aB,G,λv q=>by rw[aj]at q;cases q}
 keep:=λi h h' st k=>by
  let{hz,f,{x,y,(g)},O,Y}:=st
  show{k z () _ hz,k gV () _ f,{x,y,k jf () _ g},O.at λo q=>k dP () o q,Y.at λo q=>k b7 () o q}
 item:=by
  intro X N ax M j i pins s σ H E J m st R;subst N ax M
  let{hz,f,{a9,aG,(g)},O,Y}:=st
  let{xs,ys,x,y,r,t,W,(Z)}:=R
  let{aW,T,p,_}:=J.list r
  let{ad,U,cQ,_}:=J.list t
  let{u,aw,(aD)}:=T.get W
  let{B,ay,(aF)}:=U.get Z
  have ab:z<s⁻¹:=cm hz;show wpAny_pyNext_zip_item aq hz f g O Y p.isList cQ.isList (x:=u) (y:=B) ‹aw› ‹ay› λh' aH ah ak am an hsz n=>?_;show{_,D,wpAny_letOwnedTupleGo_zip (s:={s with heap:=h'}) aH λL aJ c9=>?_};have ar:L.get? s⁻¹=I {cls:=.type "tuple",data:=.seq #[u,B]}:=(c9.2 _<|ma ab).trans an;have new:em X.prog X.w (al H s⁻¹<|.aZ [x,y]) L s⁻¹ (.aZ [x,y]):=
   {by change 2<=bg;decide,[u,B],.cons aD<|.cons aF .nil,{_,ar,D,_,D}}
  have ae:aC X pins σ (al H s⁻¹<|.aZ [x,y]) {s with heap:=L}:=
   J.wN (t':=s.toks) (bU:=[z,gV,jf,dP,b7]) (λc o e q=>(c9.2 c λd=>e<|by simp[d]).trans<|n c o (λd=>e<|by simp[d]) (λd=>e<|by simp[d]) (λd=>e<|by simp[d]) (λd=>e<|by simp[d]) q) m (bA _) new
  show{.ref s⁻¹,_,ae,D,{_,x,y,D,J.a0.fresh<|bA _,D,λl S=>by rw[J.rY S r];show W,λl S=>by rw[J.rY S t];show Z},{aJ,?_,{u,B,?_},?_,?_},λc V=>?_}
  .show(c9.2 _ aq.TIz).trans<|n _ _ aq.TIz aq.TITO aq.TIi1 aq.TIi2 f
  .show(c9.2 _ aq.TOz).trans ah
  .show ak.at λo q=>(c9.2 _ aq.i1z).trans q
  .show am.at λo q=>(c9.2 _ aq.i2z).trans q
  .have av:c<s⁻¹:=by
    have C:c=z\/c=gV\/c=jf\/c=dP\/c=b7:=‹V›
    obtain q|q|q|q|q:=C
    .rw[q];show ab
    .rw[q];show cm f
    .rw[q];show cm g
    .rw[q];let{_,F,_}:=O;show cm F
    .rw[q];let{_,G,_}:=Y;show cm G
   rw[aI<|du av];show(m c V).1
 done:=by
  intro X N ax M j i pins s σ H E J m st R;subst N ax M
  let{hz,f,{a9,aG,(g)},O,Y}:=st
  let{xs,ys,r,t,(au)}:=R
  let{aW,T,p,_}:=J.list r
  let{ad,U,cQ,_}:=J.list t
  have cX:=↥T;have d8:=↥U;have as:aW.toArray[i]? =ag\/ad.toArray[i]? =ag:=by
   obtain q|q:=au
   .show .inl (by simp;omega)
   .show .inr (by simp;omega)
  show wpAny_pyNext_zip_end (J.ok.af j) aq hz f g O Y p.isList cQ.isList as λh' n=>{D,J.wO (t':=s.toks) (bU:=[z,gV,jf,dP,b7]) (λc o e q=>
   n c o (λd=>e<|by simp[d]) (λd=>e<|by simp[d]) (λd=>e<|by simp[d]) (λd=>e<|by simp[d]) q) m}
 self:=λA i s Q E st h=>Rc st.1 h
inductive qyadq(K:b9)(R:hY->aP->Prop)(vs:List ab)(an:aP):Prop|mk(a b xs ys)(_:vs=[.ref a,.ref b])(_:aB K an a xs)(_:aB K an b ys)(_:R (QF K a b) an)
def adq(K:b9)(bc:fF):(gV):=λσ H R=>bc σ H λvs an=>qyadq K R vs an
def ZG{p pos lm:Pos}{elts:List Expr}{A:Nat}(o:ea X "zip")(u:X.mg "zip"=ag)(m:d2 X [e,b7] bc)
  (y:bj [e,b7] X.am=(ap,eval e X.am)::bj [b7] X.am<|>zzr) (v:((dM pos<|bj [b7] X.am).any (·.1)=ap)<|>zzr):
  ko X (.Tuple elts A lm) (.Call (.Name "zip" p) [e,b7] [] pos) (adq X.K bc):=by
 intro pins s σ H R J h;show Call_<|mF J o u aiw<|q1 (bp (m pos pins s σ H _ J h) λay aj {vs,an,d,F,(C)}=>?_) y v
 let{a,b,xs,ys,bE,w,x,(q)}:=C
 subst bE;cases F with
 |cons r f=>
  cases f with
  |cons E f=>
   cases f;cases r;cases E
   let{aW,L,g,_}:=d.list w
   let{G,M,cQ,_}:=d.list x
   have aH:=g.lt;have B:=cQ.lt;show call_zip_2 g.isList cQ.isList λh' hz k l O Y hsz t=>Rc hz ?_;have i:=d.fc (t':=aj.toks) t;show{aj⁻¹+4,[aj⁻¹+4,aj⁻¹+2,aj⁻¹+3,aj⁻¹,aj⁻¹+1],_,_,an,D,i,UE<|PySem.W.ktu_apart aj⁻¹ a b aH B,{hz,k,{_,_,l},O,Y},λc n=>?_,q};have j:=‹n›
   have hle:aj⁻¹<=c:=by
    obtain z|z|z|z|z:=j
    .rw[z];show wc _ _
    .show z▸wc _ _
    .rw[z];show wc _ _
    .show z▸bA _
    .rw[z];show wc _ _
   show d.mL hle<|d.a0.fresh hle
end L2
section
namespace Bits
open PySem PyProof.Rows
end Bits
end
section
namespace TL
open PySem PySem.Builtin PySem.Builtin.Str PySem.StrLaws
abbrev bV(x:Str):=x.cps.toList
def ow x:↥x=↥(bV x):=by simp[RR]
def qi(h:bV x=bV y):x=y:=Str.ext'<|Array.toList_inj.mp h
def tN x y:bV (x++y)=bV x++bV y:=by change(x++y).cps.toList=_;rw[Str.cps_append,Array.toList_append]
def alo(x:Str):⟨(bV x).toArray⟩=x:=qi D
def M3:∀{l m:List Str},l.map bV=m.map bV->l=m
 |[],[],_=>rfl
 |[],_::_,h=>by simp at h
 |_::_,[],h=>by simp at h
 |x::l,y::m,h=>by
  injection h with O Y
  rw[qi O,M3 Y]
def pre(S l:List Nat):=l.take ↥S==S
def fT(S:List Nat):(Nat->List Nat->List Nat->List (List Nat))
 |_,acc,[]=>[acc]
 |0,acc,c::r=>if pre S (c::r)=aa then acc::fT S (↥S-1) [] r else fT S 0 (acc++[c]) r
 |k+1,acc,_::r=>fT S k acc r
def ig(S:List Nat):(List Nat->List Nat->Option (List Nat×List Nat))
 |_,[]=>ag
 |acc,c::r=>if pre S (c::r)=aa then I (acc,(c::r).drop ↥S)else ig S (acc++[c]) r
def H5 S k acc:fT S k acc []=[acc]:=by cases k<;>rfl
def H7(h:pre S (c::r)=aa):fT S 0 acc (c::r)=acc::fT S (↥S-1) [] r:=by change(if pre S (c::r)=aa then acc::fT S (↥S-1) [] r else fT S 0 (acc++[c]) r)=_;rw[aM h]
def H6(h:pre S (c::r)=ap):fT S 0 acc (c::r)=fT S 0 (acc++[c]) r:=by change(if pre S (c::r)=aa then acc::fT S (↥S-1) [] r else fT S 0 (acc++[c]) r)=_;rw[aD<|h▸eY]
def H4 S:∀k acc l,fT S k acc l=fT S 0 acc (l.drop k)
 |0,_,_=>by rw[g9]
 |k+1,acc,[]=>by rfl
 |k+1,acc,c::r=>H4 S k acc r
def aam(h:pre S (c::r)=aa):ig S acc (c::r)=I (acc,(c::r).drop ↥S):=by change(if pre S (c::r)=aa then I (acc,(c::r).drop ↥S)else ig S (acc++[c]) r)=_;rw[aM h]
def aal(h:pre S (c::r)=ap):ig S acc (c::r)=ig S (acc++[c]) r:=by change(if pre S (c::r)=aa then I (acc,(c::r).drop ↥S)else ig S (acc++[c]) r)=_;rw[aD<|h▸eY]
def La(a:S≠[]):pre S []=ap:=by
 cases S with
 |nil=>show absurd rfl a
 |cons s S=>rfl
def ZF S r(h:c≠s):pre (s::S) (c::r)=ap:=by
 cases a:pre (s::S) (c::r)with
 |false=>rfl
 |true=>
  have e:=eq_of_beq a;injection e with b d
  omega
def ZE S r:pre S (S++r)=aa:=by change((S++r).take ↥S==S)=aa;simp
def NZ{L:List Nat}(h:a<↥L):∃c,L.drop a=c::L.drop (a+1):={L[a],nX h}
def A8(S L:List Nat):∀m a acc,a+m<=↥L->(∀k,a<=k->k<a+m->pre S (L.drop k)=ap)->
  fT S 0 acc (L.drop a)=fT S 0 (acc++(L.drop a).take m) (L.drop<|a+m)
 |0,a,acc,_,_=>by simp
 |m+1,a,acc,h,q=>by
  have b7:a<↥L:=by omega
  let{c,(e)}:=NZ b7
  have b:=q a (bA _) ∅;have d:=A8 S L m (a+1) (acc++[c]) ∅ λk O Y=>q k ∅ ∅;have f:a+1+m=a+(m+1):=by omega
  rw[f]at d;rw[e]at b;rw[e,H6 b,d,hI]<;>rfl
def uo(S L:List Nat):∀m a acc,a+m<=↥L->(∀k,a<=k->k<a+m->pre S (L.drop k)=ap)->
  ig S acc (L.drop a)=ig S (acc++(L.drop a).take m) (L.drop<|a+m)
 |0,a,acc,_,_=>by simp
 |m+1,a,acc,h,q=>by
  have b7:a<↥L:=by omega
  let{c,(e)}:=NZ b7
  have b:=q a (bA _) ∅;have d:=uo S L m (a+1) (acc++[c]) ∅ λk O Y=>q k ∅ ∅;have f:a+1+m=a+(m+1):=by omega
  rw[f]at d;rw[e]at b;rw[e,aal b,d,hI]<;>rfl
def DW(L:List Nat) a b:(L.drop a).drop b=L.drop (a+b):=by
 simp
def VS{L:List Nat}(a:S≠[])(h:pre S (L.drop c)=aa):fT S 0 acc (L.drop c)=acc::fT S 0 [] (L.drop<|c+↥S):=by
 rw[<-DW];cases e:L.drop c with
 |nil=>rw[e,La a]at h;cases h
 |cons d r=>
  rw[e]at h;rw[H7 h,H4];cases S with
  |nil=>show absurd rfl a
  |cons s S=>rfl
def LD{L:List Nat}(a:S≠[])(h:pre S (L.drop c)=aa):ig S acc (L.drop c)=I (acc,L.drop<|c+↥S):=by
 rw[<-DW];cases e:L.drop c with
 |nil=>rw[e,La a]at h;cases h
 |cons d r=>rw[e]at h;rw[aam h]
def Ey(c:bV y≠[]) i:At x y ↥x i↔pre (bV y) ((bV x).drop i)=aa:=by
 have f:=ow x;have b:=ow y;constructor
 .intro h;have Y:=h.2;rw[subAt_eq]at Y;show Y
 .intro h;have e:=eq_of_beq h;have a:=gC ac e;rw[g8,gn]at a;have d:=S2.mpr c;show{∅,?_};rw[subAt_eq,b];show h
def xP(b:bV y≠[])(h:¬At x y ↥x i):pre (bV y) ((bV x).drop i)=ap:=by
 cases a:pre (bV y) ((bV x).drop i)with
 |false=>rfl
 |true=>show absurd ((Ey b i).mpr a) h
def acL(b:bV y≠[]):1<=↥y:=by have a:=S2.mpr b;show a
def AT x i j:bV (qJ x i j)=((bV x).drop i).take (j-i):=strSub_toList x i j
def HE x i:bV (qJ x i ↥x)=(bV x).drop i:=by rw[AT,ow x];show wd ()
def Lz(b:bV y≠[]):∀g a f,a<=↥(bV x)->ChainG x y ↥x a g f->(∀k,f<=k->¬At x y ↥x k)->
  (partsFrom x ↥y a g).map bV=fT (bV y) 0 [] ((bV x).drop a)
 |[],a,f,b7,h,q=>by
  have e:=h;subst e;change[bV<|qJ x f ↥x]=_;have run:=A8 (bV y) (bV x) (↥(bV x)-f) f [] ∅ λk O _=>xP b<|q k O;have d:f+(↥(bV x)-f)=↥(bV x):=by omega
  rw[d,wo,H5,Gy,wd ()]at run;rw[run,HE]
 |c::r,a,f,b7,h,q=>by
  let{O,Y,m,(i)}:=h
  have n:=Y.1;have o:=ow x;have j:=ow y;have l:=Lz b r (c+↥y) f ∅ i q;change bV (qJ x a c)::(partsFrom x ↥y (c+↥y) r).map bV=_;have run:=A8 (bV y) (bV x) (c-a) a [] ∅ (λk p s=>xP b<|by grind);have d:a+(c-a)=c:=by omega
  rw[d,Gy,VS b<|(Ey b c).mp Y]at run;rw[run,l,AT,j]
def VQ x y(b:bV y≠[])(i:¬nZ x<nZ y):(pg x y).map bV=fT (bV y) 0 [] (bV x):=by
 let{f,g,(e)}:=occ_tight x y<|acL b
 have key:=Lz b _ 0 f (cI _) g e;rw[g9]at key;have d:FL x y 0 ↥x (↥x+1)=[]->[x].map bV=fT (bV y) 0 [] (bV x):=λa=>by rw[a]at key;rw[<-key];change[bV x]=[bV<|qJ x 0 ↥x];rw[sub_whole]
 unfold pg;by_cases O:(decide (↥x<↥y)||decide (nZ x<nZ y))=aa
 .rw[aM O];have j:↥x<↥y:=by
   simp only[lf,dg]at O;omega
  show d ?_;cases a:FL x y 0 ↥x (↥x+1)with
  |nil=>rfl
  |cons c r=>rw[a]at g;have h:=g.2.1.1;omega
 .rw[aD O];by_cases Y:(FL x y 0 ↥x<|↥x+1).isEmpty=aa
  .show aM Y▸d (by grind)
  .rw[aD Y,partsBetween_eq];show key
def acX(h:y.cps.all (·<256)=aa):¬nZ x<nZ y:=by
 have e:nZ y=1:=by unfold Sl;rw[aM h]
 unfold Sl;split
 .omega
 .split<;>omega
def LA x y(c:bV y≠[]):
  ky x y=(match ig (bV y) [] (bV x)with|some (a,b)=>(⟨a.toArray⟩,y,⟨b.toArray⟩)|none=>(x,nR,nR)):=by
 have l:=ow x;have h:=ow y;obtain⟨e,d⟩|⟨i,e,au,d⟩:=akZ x y
 .have run:=uo (bV y) (bV x) ↥(bV x) 0 [] ∅ λk _ _=>xP c<|d k;rw[g9,l',wo]at run;rw[e,run]<;>rfl
 .have j:=au.1;have run:=uo (bV y) (bV x) i 0 [] ∅ (λk _ m=>xP c<|by grind);rw[g9,l',LD c<|(Ey c i).mp au]at run;rw[e,run];have f:qJ x 0 i=⟨((bV x).take i).toArray⟩:=qi (by rw[AT,g9,Nat.sub_zero]);have g:qJ x (i+↥y) ↥x=⟨((bV x).drop<|i+↥(bV y)).toArray⟩:=qi (by rw[HE,h]);rw[f,g]<;>rfl
def aai(b:S≠[])(h:∀i,i<ac p->pre S ((p++(S++rest)).drop i)=ap):
  ig S acc (p++(S++rest))=I (acc++p,rest):=by
 have run:=uo S (p++(S++rest)) ↥p 0 acc () λk _ c=>h k ∅;have a:(p++(S++rest)).drop (ac p)=S++rest:=wq;rw[g9,l',SQ]at run;rw[run,LD b<|by rw[a];show ZE S rest,<-DW,a,wq]
def aak(h:∀i,i<ac p->pre S (p.drop i)=ap):ig S acc p=ag:=by have run:=uo S p ↥p 0 acc ∅ λk _ a=>h k ∅;rw[l',wo]at run;show run
def N7{q:List Nat}(h:s∉p):∀i,i<ac p->pre (s::S) ((p++q).drop i)=ap:=λi au=>by
 have b:i<↥(p++q):=by rw[b0];omega
 have e:=nX b;rw[e];show ZF _ _ λz=>h ?_;have a:(p++q)[i]=p[i]:=List.getElem_append_left au;show z▸a▸wl au
def aah(h:s∉p):ig (s::S) acc (p++(s::S++rest))=I (acc++p,rest):=aai ()<|N7 h
def aaj(h:s∉p):ig (s::S) acc p=ag:=aak λi au=>by have z:=N7 (S:=S) (q:=[]) h i au;grind
def uI(S:List Nat):(List (List Nat)->List Nat)
 |[]=>[]
 |[p]=>p
 |p::q::r=>p++(S++uI S (q::r))
def HF y:∀parts,bV (F4 y parts)=uI (bV y) (parts.map bV)
 |[]=>rfl
 |[_]=>rfl
 |x::z::r=>by change bV (x++y++F4 y (z::r))=bV x++(bV y++uI (bV y) ((z::r).map bV));rw[tN,tN,HF y<|z::r,hI]
def adb y parts:s2 y parts=F4 y parts:=glued_eq_join y parts
def aae(c:bV y=s::S)(h:s∉bV a):ky (a++y++b) y=(a,y,b):=by rw[LA _ y<|by rw[c];simp,tN,tN,hI,c,aah h];rfl
def aad(b:bV y=s::S)(h:s∉bV a):ky a y=(a,nR,nR):=by
 rw[LA _ y<|by rw[b];simp,b,aaj h]
def rR n:=(th 10 n).map Char.toNat
def U2(n:Nat):bV (kz<|toString (n:Int))=rR n:=PySem.W.KIN.signs_num n
def O1:∀d,d<10->(Gq d).toNat=48+d:=⋯
def abW(h:n<10):rR n=[48+n]:=by unfold rR;rw[SA h];change[(Gq n).toNat]=_;rw[O1 n h]
def abV(h:10<=n):rR n=rR (n/10)++[48+n%10]:=by have a:n%10<10:=mb n ⋯;have t:th 10 (n/10)++th 10 (n%10)=th 10 (10*(n/10)+n%10):=Nat.toDigits_append_toDigits ⋯ ∅ a;rw[nV]at t;change(th 10 n).map Char.toNat=_;rw[<-t,dX,SA a];change(th 10<|n/10).map Char.toNat++[(Gq<|n%10).toNat]=_;rw[O1 _ a]<;>rfl
end TL
end
namespace L2
open PySem PySem.Spec PyProof.Rows
def Hk:∀l,bF ((l.map (·.1)).map ab.str)<|FG l
 |[]=>.nil
 |p::r=>.cons {p.2,(rfl)}<|Hk r
def A7:∀{ys:List Str} {ay:List az},bF (ys.map ab.str) ay->StrsAre ay ys
 |[],_,.nil=>.nil
 |y::ys,_,.cons r t=>by let{k,(rfl)}:=r;show .cons y k<|A7 t
def B6(ys:List Str):(aP->dR->Prop):=λH Q=>∀p,H p=ag->Q (.ref p) (al H p<|.ai<|ys.map ab.str)
section
variable{X:bO}{pins:List (ao×Obj)}{σ:St}{H:aP}{s:bb}{Q:dR}
def Dj(J:aC X pins σ H s)(e:l.map (·.1)=ys)(hz:ac ys<=bg)(h:B6 ys H Q):
  f8 X pins σ Q (.ref s⁻¹) {s with toks:=k,heap:=s.heap.push {cls:=.type "list",data:=.seq (FG l).toArray}}:=by
 have a:=J.a0.fresh<|bA _;show{.ref s⁻¹,al H s⁻¹<|.ai<|ys.map ab.str,J.gx (λb u q=>cB _ q) (bA _) {by rw[bt];show hz,FG l,_,e▸Hk l,dC _ D},D,h _ a}
def Nn(J:aC X pins σ H s)(h:∀p,H p=ag->Q (.ref p) (al H p<|.aZ [.str x,.str y,.str z])):
  f8 X pins σ Q (.ref s⁻¹) {s with toks:=k,heap:=s.heap.push {cls:=.type "tuple",data:=.seq [zK x t,.str y u,.str z v].toArray}}:=by
 have a:=J.a0.fresh<|bA _;show{.ref s⁻¹,al H s⁻¹<|.aZ [.str x,.str y,.str z],J.gx (λb u q=>cB _ q) (bA _)
  {by change 3<=bg;decide,[zK x t,.str y u,.str z v],.cons {t,(rfl)}<|.cons {u,(rfl)}<|.cons {v,(rfl)} .nil,_,dC _ D,D,_,D},D,h _ a}
end
section
variable{X:bO}
def ack:nI X "str.split" (λx xs H Q=>∃a b,x= .str a/\xs=[.str b]/\(↥b==0)=ap/\↥a+2<=bg/\B6 (pg a b) H Q):=by
 intro pins s σ H x xs v ay Q J i rs h;let{a,b,rfl,rfl,e,hz,(h)}:=h;let{t,(rfl)}:=i;cases rs with
 |cons g rs=>
  cases rs;let{u,(rfl)}:=g;have d:=b5 (akY a b) hz;have f:↥(ale a (GS a b 0 ↥a<|↥a+1) ↥b)<=bg:=by have j:=StrLaws.occ_length_le a b 0 ↥a<|↥a+1;rw[length_partsBetween];omega
  cases O:(decide (↥a<↥b)||decide (nZ a<nZ b))
  .cases c:(GS a b 0 ↥a<|↥a+1).isEmpty
   .show pd An (o9 _ _ _) GN (GO _ _) (meets_str_split_sep a b t u O e c ∅ f) ?_;rw[strsFrom_eq];show Dj (ys:=pg a b) J ((numbered_texts _ _).trans ((aD<|FM O).trans<|aD<|FM c).symm) d h
   .show pd An (o9 _ _ _) GN (GO _ _) (meets_str_split_not_found a b t u O e c) ?_;show Dj (l:=[(a,t)]) (k:=s.toks) J ((aD<|FM O).trans<|aM c).symm d h
  .show pd An (o9 _ _ _) GN (GO _ _) (meets_str_split_cannot_occur a b t u O) ?_;show Dj (l:=[(a,t)]) (ys:=pg a b) (k:=s.toks) J (aM O).symm d h
def acn:nI X "str.partition" (λx xs H Q=>∃a b,x= .str a/\xs=[.str b]/\(↥b==0)=ap/\↥a<=bg/\
  ∀p,H p=ag->Q (.ref p) (al H p<|.aZ [.str (ky a b).1,.str (ky a b).2.1,.str (ky a b).2.2])):=by
 intro pins s σ H x xs v ay Q J e rs h;let{a,b,rfl,rfl,c,hz,(h)}:=h;let{t,(rfl)}:=e;cases rs with
 |cons d rs=>
  cases rs;let{u,(rfl)}:=d;show pd Tz (o9 _ _ _) F.entry_str_partition (F.args_str_partition_2 _ _) (meets_str_partition a b t u c hz) ?_;unfold ky at h;revert h;cases GS a b 0 ↥a 1 with
  |nil=>intro h;show Nn J h
  |cons i r=>intro h;show Nn J h
def aco:nI X "str.join" (λx xs H Q=>∃a p,∃ys:List Str,x= .str a/\xs=[.ref p]/\(aB X.K H p (ys.map ab.str)\/d1 X.K H p (ys.map ab.str))/\
  (ys.map (·.length)).sum+↥ys*↥a<=16777216/\Q (.str<|s2 a ys) H):=by
 intro pins s σ H x xs v ay Q J g rs h;let{a,p,ys,rfl,rfl,b,hz,(h)}:=h;let{t,(rfl)}:=g;cases rs with
 |cons f rs=>
  cases rs;cases f;obtain b|b:=b
  .let{aW,r,{o,n,d,c,_,af},_}:=J.list b
   show ak1 (items:=aW.toArray) {o,d,c,n,(af)} (SO▸A7 r) hz λt' k=>{.str _,H,J.eL k,{t',(rfl)},h}
  .let{aW,r,e,_}:=J.tuple b
   show ak0 e (A7 r) hz λt' k=>{.str _,H,J.eL k,{t',(rfl)},h}
def MW{id:String}{g:Str->Str->ab}(jo:∀a b t u s Q,(∀v k,cb (g a b) v->Q v {s with toks:=k})->
  aR (aU X.prog X.w) X.A (call (.builtin id) [.str a t,.str b u]) Q X.cT s):nI X id (λx xs H Q=>∃a b,x= .str a/\xs=[.str b]/\Q (g a b) H):=by
 intro pins s σ H x xs v ay Q J d rs h;let{a,b,rfl,rfl,(h)}:=h;let{t,(rfl)}:=d;cases rs with
 |cons c rs=>cases rs;let{u,(rfl)}:=c;show jo a b t u s _ λv k r=>{g a b,H,J.eL k,r,h}
def acj:nI X "str.startswith" (λx xs H Q=>∃a b,x= .str a/\xs=[.str b]/\Q (.a1<|zL a b) H):=
 MW λ_ _ _ _ s _ h=>PySem.SC.startswith<|h _ s.toks D
def acq:nI X "str.endswith" (λx xs H Q=>∃a b,x= .str a/\xs=[.str b]/\Q (.a1<|zM a b) H):=
 MW λ_ _ _ _ s _ h=>PySem.SC.endswith<|h _ s.toks D
inductive qsEf(xs:List ab)(H:aP)(Q:dR):Prop|mk(a n)(_:xs=[.str a])(_:R2 a=I n)(_:↥a<=640)(_:Q (.int n) H)
def Ef:fz X (.type "int") qsEf:=by
 intro pins s σ H xs ay Q J rs h;let{a,n,rfl,c,b,(h)}:=h;cases rs with
 |cons d rs=>cases rs;let{t,(rfl)}:=d;show PySem.W.KIN.call_text c b {.int n,H,J.eL _,{_,D},h}
end
section
variable{X:bO}{o e:Expr}{dO bW:bD}
def rn(r:ab->List ab->aP->dR->Prop)(dO bW:bD):(bD):=λσ H Q=>dO σ H λx an=>(∃a,x= .str a)/\bW σ an λy aw=>r x [y] aw Q
def uj{id:String}{apos pos:Pos}(slot:Slot "str" name id)(dz:vR (.builtin id)=pure (.type "method_descriptor"))(jo:nI X id r)(k:aX X o dO)(i:aX X e bW)
  (l:bj [e] X.am=[(ap,eval e X.am)]<|>zzr) (g:iw o name X.am (eval o X.am)=eval o X.am<|>zzr) (j:(apos.endLine==pos.line)=aa<|>zzr):
  aX X (.Call (.Attribute o name apos) [e] [] pos) (rn r dO bW):=by
 intro pins s σ H Q J h;show PySem.Call_method1 g l j<|bp (k pins s σ H _ J h) λv aj {x,an,d,c,(b)}=>?_;let{{a,(rfl)},b}:=b;let{t,(rfl)}:=_root_.id c;show{"str",_,F.plainAttrs_str,slot,dz,o9 _ _ _,(λ_ e=>nomatch e),As D<|GR<|pz<|bp (i pins aj σ an _ d b) λu aA {y,aw,f,n,(m)}=>rd<|jo pins aA σ aw _ [y] _ [u] Q f c (.cons n .nil) m}
def p2{apos pos:Pos}(g:aX X o dO)(d:aX X e bW)(h:bj [e] X.am=[(ap,eval e X.am)]<|>zzr)(c:iw o "split" X.am (eval o X.am)=eval o X.am<|>zzr)(f:(apos.endLine==pos.line)=aa<|>zzr):
  aX X (.Call (.Attribute o "split" apos) [e] [] pos) (rn (λx xs H Q=>∃a b,x= .str a/\xs=[.str b]/\(↥b==0)=ap/\↥a+2<=bg/\B6 (pg a b) H Q) dO bW):=
 uj An F.type_str_split ack g d h c f
def ZM{apos pos:Pos}(g:aX X o dO)(d:aX X e bW)(h:bj [e] X.am=[(ap,eval e X.am)]<|>zzr)(c:iw o "partition" X.am (eval o X.am)=eval o X.am<|>zzr)(f:(apos.endLine==pos.line)=aa<|>zzr):
  aX X (.Call (.Attribute o "partition" apos) [e] [] pos) (rn (λx xs H Q=>∃a b,x= .str a/\xs=[.str b]/\(↥b==0)=ap/\↥a<=bg/\
   ∀p,H p=ag->Q (.ref p) (al H p<|.aZ [.str (ky a b).1,.str (ky a b).2.1,.str (ky a b).2.2])) dO bW):=
 uj Tz F.type_str_partition acn g d h c f
def Cm{apos pos:Pos}(f:aX X o dO)(c:aX X e bW)(g:bj [e] X.am=[(ap,eval e X.am)]<|>zzr)(b:iw o "join" X.am (eval o X.am)=eval o X.am<|>zzr)(d:(apos.endLine==pos.line)=aa<|>zzr):
  aX X (.Call (.Attribute o "join" apos) [e] [] pos) (rn (λx xs H Q=>∃a p,∃ys:List Str,x= .str a/\xs=[.ref p]/\(aB X.K H p (ys.map ab.str)\/d1 X.K H p (ys.map ab.str))/\
   (ys.map (·.length)).sum+↥ys*↥a<=16777216/\Q (.str<|s2 a ys) H) dO bW):=
 uj F.slot_str_join F.type_str_join aco f c g b d
end
section
variable{X:bO}
def Cy:eE X (compareOp .In) (λx y H Q=>∃(c:Nat) (z:Str),x= .str ⟨#[c]⟩/\y= .str z/\Q (.a1<|decide (c∈z.cps.toList)) H):=by intro pins s σ H x y v u Q J a b h;let{c,z,rfl,rfl,(q)}:=h;let{t,(rfl)}:=a;let{t',(rfl)}:=b;show ak2<|e8 J q (akB z c).symm
end
def IsPart.KJ(p:IsPart v o):∃l:Option (Int×Tok),v=partValue l/\l.map (·.1)=o:=by
 cases p with
 |none=>show{ag,D,(rfl)}
 |int i t=>show{I (i,t),D,D}
def D'(n d:Nat):(Option Int->Int)
 |none=>d
 |some i=>max 0<|min (if i<0 then i+n else i) n
def Pd n d o:D' n d o=HT.cY n d o:=by
 cases o with
 |none=>rfl
 |some v=>show Xd0 v n
def Xf a b n:re a b 1 n=sliceRange (D' n 0 a) (D' n n b) 1:=by
 rfl
def Xg a b n:re a b 1 n=(dv<|HT.cY n n b-HT.cY n 0 a).map (λk=>HT.cY n 0 a+k):=by
 rw[Xf,Pd,Pd];generalize HT.cY n 0 a=p;generalize HT.cY n n b=q;simp only[sliceRange,show((1:Int)>0)=True from by simp];by_cases c:(p:Int)<q
 .have d:(((q:Int)-p+1-1)/1).toNat=q-p:=by first|omega|(simp;done)|(simp)
  simp only[c,if_true,d];show pr λk _=>?_;omega
 .have:q-p=0:=by omega
  simp[c,this]
def oJ(z:Str)(lo au:Option Int):(Str):=
 ⟨((z.cps.toList.drop<|HT.cY ↥z 0 lo).take<|HT.cY ↥z ↥z au-HT.cY ↥z 0 lo).toArray⟩
def Iq z lo au:td z lo au=oJ z lo au:=by
 have O:HT.cY ↥z 0 lo<=↥z:=HT.Kf _ _ (cI _) _;have Y:HT.cY ↥z ↥z au<=↥z:=HT.Kf _ _ (bA _) _;have a:HT.cY ↥z 0 lo<=max (HT.cY ↥z 0 lo) (HT.cY ↥z ↥z au):=Nat.le_max_left _ _;have b:=Nat.max_le.mpr {O,(Y)};have af:max (HT.cY ↥z 0 lo) (HT.cY ↥z ↥z au)-HT.cY ↥z 0 lo=HT.cY ↥z ↥z au-HT.cY ↥z 0 lo:=by omega
 have e:re lo au 1 ↥z=
   re (I (HT.cY ↥z 0 lo:Int)) (I (max (HT.cY ↥z 0 lo) (HT.cY ↥z ↥z au):Nat)) 1 ↥z:=by
  rw[akz a b,af,Xg]
 have c:td z lo au=
   td z (I (HT.cY ↥z 0 lo:Nat)) (I ((max (HT.cY ↥z 0 lo) (HT.cY ↥z ↥z au):Nat):Int)):=by
  unfold td;rw[e]
 rw[c,akA z a b,af];rfl
def ah8 z lo au:↥(oJ z lo au)<=↥z:=by change(((z.cps.toList.drop<|HT.cY ↥z 0 lo).take<|HT.cY ↥z ↥z au-HT.cY ↥z 0 lo).toArray).size<=z.cps.size;rw[ed,g8,gn,n0];omega
inductive Zl(x:ab)(lo:Option Int)(au:Option Int)(H:aP)(Q:dR):Prop|mk(z)(_:x= .str z)(_:↥z<=bg)(_:Q (.str<|oJ z lo au) H)
def rr:EZ X Zl:=by
 intro pins s σ H x v k m lo au sl Q J j f g i h;let{z,rfl,hz,(q)}:=h;let{t,(rfl)}:=j
 let{os,e,b,(d)}:=f
 let{l,rfl,(rfl)}:=IsPart.KJ g;let{u,rfl,(rfl)}:=IsPart.KJ i;show{"str",_,F.slot_str_getitem.lookup,o9 _ _ _,?_};show wpAny_getItem_str_slice (l:=l) (u:=u) (st:=ag) {os,e,b,(d)} D ?_;have a:↥(td z (l.map (·.1)) (u.map (·.1)))<=bg:=by rw[Iq];show b5 (ah8 z _ _) hz
 rw[<-Iq]at q;unfold td at q a;change Made.post (if((1:Int)==1&&↥(re (l.map (·.1)) (u.map (·.1)) 1 ↥z)==↥z)=aa then Made.val (.str z t)
  else Made.str ⟨((re (l.map (·.1)) (u.map (·.1)) 1 ↥z).filterMap (z.cps[·]?)).toArray⟩) (f8 X pins σ Q) s
 by_cases c:((1:Int)==1&&↥(re (l.map (·.1)) (u.map (·.1)) 1 ↥z)==↥z)=aa
 .rw[aM c]at q⊢;show{.str z,H,J,{t,(rfl)},q}
 .rw[aD c]at q a⊢;show{a,.str _,H,J.eL _,{_,D},q}
end L2
namespace Att
open PySem PySem.W PySem.Calls PyProof.Rows
section
variable{prog:bS}{w:bL}{A:db}{E:az->bb->Prop}{s:bb}{K:bR}
end
end Att
namespace L2
open PySem PySem.Spec PyProof.Rows
abbrev iu:gh:=λ_ _ _=>False
structure lV(K:b9)(x qual:Str)(st:hG)(f:ao)(bk:eS):Prop where
 bE:∃(ii:az) (od:Option ao) (da doc ht:az) (df:Option ao) (Ph e9:az) (aap:Array (Option az)),
  bk=nS x qual (ql st) (mM st) (a6 st) .none da doc ht df Ph e9/\K.lookup f=I {ii,od,.func bk,aap}/\zO K Ph qual=aa
 b6:jY K (.ref f)=aa
section
variable{P:bS}{w:bL}{K:b9}{mg:Str->Option az}{base:bG}
def lV.qq{st:hG}(F:lV K x qual st f bk)
  (h:∀da doc ht df a e9 ay,ac ay=ac ps->FX (nS x qual (ql st) (mM st) (a6 st) .none da doc ht df a e9) {ay,[]}=pure (ps.zip ay)):f9 K bk ps []:=by
 let{ii,od,da,doc,ht,df,a,e9,c,rfl,lk,(b)}:=F.bE;show .all<|h da doc ht df a e9
def N2{st:hG}{da:az}(l:K.lookup f=I {ii,od,.func<|nS x qual (ql st) (mM st) (a6 st) .none da doc ht df q e9,b7})
  (c:zO K q qual=aa) (k:jY K (.ref f)=aa):lV K x qual st f (nS x qual (ql st) (mM st) (a6 st) .none da doc ht df q e9):={{ii,od,da,doc,ht,df,q,e9,b7,D,l,(c)},k}
end
def f7(a:c2 k A):A.units+1<eW:=z3 () a.units
section
variable{X:bO}
def ah i{pos:Pos}(a:X.N[i]? =I x<|>zzr)(c:sn X.am.scope x:=by first|show ce rfl|show nb (ce rfl)|show nb<|nb rfl)(af:(x=="__debug__")=ap<|>zzd)
  (b:(x=="__classdict__")=ap<|>zzd):aX X (.Name x pos) (HL i):=ZK a c af b
inductive qsyr(xs:List ab)(H:aP)(Q:dR):Prop|mk(a kvs)(_:xs=[ab.ref a])(_:H a=I (.bJ kvs))(_:Q (.int ↥kvs) H)
def yr:fz X (.builtin "len") qsyr:=by intro pins s σ H xs ay Q J r h;let{a,kvs,rfl,c,(q)}:=h;let{u,rfl,(d)}:=n2 r;cases d;show agd J (.inl c) λt s' b=>{.int ↥kvs,H,b,{t,(rfl)},q}
end
def a4(H U:aP):=∀b o,H b=I o->U b=I o
def a4.refl H:a4 H H:=λ_ _ h=>h
def a4.trans(a:a4 H an)(b:a4 an aw):a4 H aw:=λc o h=>b c o<|a c o h
def a4.free(e:a4 H U)(h:U l=Ss):H l=Ss:=by
 cases q:H l with
 |none=>rfl
 |some o=>rw[e l o q]at h;cases h
def a4.seq{K:b9}(e:a4 H U)(h:aB K H a xs):aB K U a xs:=by
 obtain(h|⟨o,h⟩)|h:=h
 .show .inl<|.inl<|e _ _ h
 .show .inl<|.inr {o,e _ _ h}
 .show .inr h
section
variable{κ:Type}[DecidableEq κ]
end
end L2
section
namespace L2
open PySem PySem.Spec PyProof.Rows
open PySem.W (WData Codec OpenSpec Well WellAll ReadsW ReadsAllW)
mutual
inductive gj(K:b9)(H:aP):ab->h4->Prop
 |bT:gj K H .bT .none
 |a1 (b:Bool):gj K H (.a1 b) (.bool b)
 |int (i:Int):gj K H (.int i) (.int i)
 |str (x:Str):gj K H (.str x) (.str x)
 |iq (b:Array UInt8):gj K H (.iq b) (.bytes b.toList)
 |ai {a:ao} {xs:List ab} {a3:List h4}:aB K H a xs->jS K H xs a3->gj K H (.ref a) (.list a3)
 |aZ {a:ao} {xs:List ab} {a3:List h4}:d1 K H a xs->jS K H xs a3->gj K H (.ref a) (.tuple a3)
inductive jS(K:b9)(H:aP):List ab->List h4->Prop
 |nil:jS K H [] []
 |cons {v:ab} {vs:List ab} {d:h4} {a3:List h4}:gj K H v d->jS K H vs a3->jS K H (v::vs) (d::a3)
end
def ON{K:b9}:∀ns:List Int,jS K H (ns.map ab.int)<|ns.map WData.int
 |[]=>.nil
 |n::r=>.cons (.int n)<|ON r
def NM{K:b9}:∀(ns:List Int) xs,jS K H xs (ns.map WData.int)->xs=ns.map ab.int
 |[],xs,h=>by cases h;rfl
 |n::r,xs,h=>by
  cases h with
  |cons O Y=>cases O;rw[NM r _ Y]<;>rfl
section
variable{P:bS}{w:bL}{K:b9}{H:aP}{h:bG}{R:PySem.W.WRecords}{cl:Str->Option ao}
def VP(a0:dq P w H h)(c:K.In h)(q:aB K H a xs):∃(aW:List az) (o:Obj) (n:Nat),bF xs aW/\h.get? a=I o/\o.cls= .type "list"/\o.data= .seq aW.toArray n:=by
 obtain q|⟨o,aW,n,e,d,_,af,_,b⟩:=q
 .let{_,aW,n,b,e}:=(q.ok a0)
  show{aW,_,n,b,e,D,D}
 .show{aW.toList,o,n,b,c _ _ e,d,by simp[af]}
def VO(a0:dq P w H h)(d:K.In h)(q:d1 K H a xs):∃(aW:List az) (o:Obj) (n:Nat),bF xs aW/\h.get? a=I o/\o.cls= .type "tuple"/\o.data= .seq aW.toArray n:=by
 obtain q|⟨o,aW,n,e,b,af,_,c⟩:=q
 .let{_,aW,c,o,e,b,n,af}:=(q.ok a0)
  show{aW,o,n,c,e,b,(af)}
 .show{aW.toList,o,n,c,d _ _ e,b,by simp[af]}
mutual
theorem gj.nr(a0:dq P w H h)(a:K.In h):∀(d:h4) (v:ab) (u:az),gj K H v d->cb v u->∃as,ReadsW R cl h u d as
 |.none,_,_,x,r=>by cases x;cases r;show{_,ReadsW.none}
 |.bool b,_,_,x,r=>by cases x;cases r;show{_,ReadsW.bool b}
 |.int i,_,_,x,r=>by cases x;let{t,(rfl)}:=r;show{_,ReadsW.int i t}
 |.str s,_,_,x,r=>by cases x;let{t,(rfl)}:=r;show{_,ReadsW.str s t}
 |.bytes b,_,_,x,r=>by cases x;let{t,(rfl)}:=r;show{_,ReadsW.bytes _ t}
 |.list a3,_,_,x,r=>by
  cases x with
  |ai j c=>cases r;let{aW,o,n,k,f,e,(af)}:=VP a0 a j;let{as,(g)}:=gj.pZ a0 a a3 _ aW c k;show{_,ReadsW.list f e af g}
 |.tuple a3,_,_,x,r=>by
  cases x with
  |aZ j c=>cases r;let{aW,o,n,k,f,e,(af)}:=VO a0 a j;let{as,(g)}:=gj.pZ a0 a a3 _ aW c k;show{_,ReadsW.tuple f e af g}
 |.float _,_,_,x,_=>by cases x
 |.dict _,_,_,x,_=>by cases x
 |.bytearray _,_,_,x,_=>by cases x
 |.set _,_,_,x,_=>by cases x
 |.frozenset _,_,_,x,_=>by cases x
 |.obj _ _,_,_,x,_=>by cases x
theorem gj.pZ(a0:dq P w H h)(a:K.In h):∀(a3:List h4) (vs:List ab) (ay:List az),jS K H vs a3->bF vs ay->∃as,ReadsAllW R cl h ay a3 as
 |[],_,_,x,r=>by cases x;cases r;show{_,ReadsAllW.nil}
 |d::a3,_,_,x,r=>by
  cases x with
  |cons O Y=>
   cases r with
   |cons b7 dY=>let{as,(q)}:=gj.nr a0 a d _ _ O b7;let{b',(b)}:=gj.pZ a0 a a3 _ _ Y dY;show{_,ReadsAllW.cons q b}
end
end
mutual
def jA:h4->Bool
 |.none=>aa
 |.bool _=>aa
 |.int _=>aa
 |.str _=>aa
 |.bytes _=>aa
 |.list xs=>kS xs
 |.tuple xs=>kS xs
 |_=>ap
def kS:List h4->Bool
 |[]=>aa
 |x::r=>jA x&&kS r
end
def Lg{α:Type}{f:α->h4}(h:∀a,jA (f a)=aa):∀l:List α,kS (l.map f)=aa
 |[]=>rfl
 |x::r=>by change(jA (f x)&&kS (r.map f))=aa;rw[h x,Lg h r]<;>rfl
def ol:∀(c:Codec) a,jA (c.enc a)=aa
 |.unit,_=>rfl
 |.bool,_=>rfl
 |.int _ _,_=>rfl
 |.nat _ _,_=>rfl
 |.u8,_=>rfl
 |.bytes _ _,_=>rfl
 |.text _ _ _ _,_=>rfl
 |.list _ _ c,a=>Lg (ol c) a
 |.pair c d,a=>by change(jA (c.enc a.1)&&(jA (d.enc a.2)&&aa))=aa;rw[ol c a.1,ol d a.2]<;>rfl
 |.triple c d e,a=>by change(jA (c.enc a.1)&&(jA (d.enc a.2.1)&&(jA (e.enc a.2.2)&&aa)))=aa;rw[ol c a.1,ol d a.2.1,ol e a.2.2]<;>rfl
 |.option c,ag=>rfl
 |.option c,I x=>ol c x
def Lf:∀b a,kS (rc b a)=aa
 |[],_=>rfl
 |c::b,a=>by change(jA (c.enc a.1)&&kS (rc b a.2))=aa;rw[ol c a.1,Lf b a.2]<;>rfl
def AK:∀{xs:List h4} {d:h4},d∈xs->d.weight<=zI xs
 |[],d,h=>absurd h ()
 |x::r,d,h=>by
  change d.weight<=x.weight+1+zI r;obtain e|m:=bK.mp h
  .rw[e];omega
  .have z:=AK m;omega
def j8:(az->ab)
 |.none=>.bT
 |.bool b=>.a1 b
 |.int i _=>.int i
 |.str x _=>.str x
 |.bytes b _=>.iq b
 |.ref a=>.ref a
 |_=>.bT
def kp(A:List ao):(az->Prop)
 |.none=>True
 |.bool _=>True
 |.int _ _=>True
 |.str _ _=>True
 |.bytes _ _=>True
 |.ref a=>a∈A
 |_=>False
def kp.mono(h:∀a∈A,a∈B):∀{u:az},kp A u->kp B u:=λ{u} x=>by
 cases u with
 |ref a=>show h a x
 |none=>trivial
 |bool b=>trivial
 |int i t=>trivial
 |str s t=>trivial
 |bytes b t=>trivial
 |_=>show gJ x
def Zd(x:kp A u):cb (j8 u) u:=by
 cases u with
 |ref a=>rfl
 |none=>rfl
 |bool b=>rfl
 |int i t=>show{t,(rfl)}
 |str s t=>show{t,(rfl)}
 |bytes b t=>show{t,(rfl)}
 |_=>show gJ x
def rg:∀{vs:List az},(∀u∈vs,kp A u)->bF (vs.map j8) vs
 |[],_=>.nil
 |u::r,h=>.cons (Zd<|h u ())<|rg λx a=>h x<|eJ _ a
def k8(h:bG) A a:=∃vs:List az,ac vs<=bg/\(∀u∈vs,kp A u)/\
 (h.get? a=I {cls:=.type "list",data:=.seq vs.toArray}\/h.get? a=I {cls:=.type "tuple",data:=.seq vs.toArray})
def k8.mono(k:∀a∈A,a∈B)(x:k8 h A a):k8 h B a:=by
 let{vs,O,Y,(b)}:=x
 show{vs,O,λu c=>(Y u c).mono k,b}
def wG:∀{vs:List az} {a3:List h4},pf P h vs a3->ac vs=ac a3
 |_,_,.nil=>rfl
 |_,_,.cons _ b=>by change _+1=_+1;rw[wG b]
def Hf(x:Well P h v (.list a3)):∃(a:ao) (vs:List az),v= .ref a/\h.get? a=I {cls:=.type "list",data:=.seq vs.toArray}/\pf P h vs a3:=by
 cases x with
 |list c b=>show{_,_,D,c,b}
def He(x:Well P h v (.tuple a3)):∃(a:ao) (vs:List az),v= .ref a/\h.get? a=I {cls:=.type "tuple",data:=.seq vs.toArray}/\pf P h vs a3:=by
 cases x with
 |tuple c b=>show{_,_,D,c,b}
def Hg(x:pf P h ay (d::a3)):∃(v:az) (vs:List az),ay=v::vs/\Well P h v d/\pf P h vs a3:=by
 cases x with
 |cons a b=>show{_,_,D,a,b}
def Nd(h:n<=1048576):n<=bg:=b5 h ⋯
section
variable{P:v9}{h:bG}
mutual
theorem aiY:∀(d:h4) (v:az),Well P h v d->jA d=aa->d.weight<=1048576->∃A:List ao,kp A v/\∀a∈A,k8 h A a
 |.none,_,x,_,_=>by cases x;show{[],trivial,λa m=>absurd m ()}
 |.bool b,_,x,_,_=>by cases x;show{[],trivial,λa m=>absurd m ()}
 |.int i,_,x,_,_=>by cases x;show{[],trivial,λa m=>absurd m ()}
 |.str s,_,x,_,_=>by cases x;show{[],trivial,λa m=>absurd m ()}
 |.bytes b,_,x,_,_=>by cases x;show{[],trivial,λa m=>absurd m ()}
 |.list a3,_,x,p,z=>by
  let{a,vs,rfl,b7,(q)}:=Hf x;have f:zI a3<=1048576:=z;let{A,O,(Y)}:=yF a3 _ q p λd af=>b5 (AK af) f;have k:∀b∈A,b∈a::A:=λb c=>eJ _ c;show{a::A,i1 ..,λb c=>?_};obtain e|m:=bK.mp c
  .rw[e];show{vs,Nd<|by rw[wG q];show b5 (R9 a3) f,λu g=>(O u g).mono k,.inl b7}
  .show(Y b m).mono k
 |.tuple a3,_,x,p,z=>by
  let{a,vs,rfl,b7,(q)}:=He x;have f:zI a3<=1048576:=z;let{A,O,(Y)}:=yF a3 _ q p λd af=>b5 (AK af) f;have k:∀b∈A,b∈a::A:=λb c=>eJ _ c;show{a::A,i1 ..,λb c=>?_};obtain e|m:=bK.mp c
  .rw[e];show{vs,Nd<|by rw[wG q];show b5 (R9 a3) f,λu g=>(O u g).mono k,.inr b7}
  .show(Y b m).mono k
 |.float _,_,_,p,_=>kD<|show ap=aa from p
 |.dict _,_,_,p,_=>kD<|show ap=aa from p
 |.bytearray _,_,_,p,_=>kD<|show ap=aa from p
 |.set _,_,_,p,_=>kD<|show ap=aa from p
 |.frozenset _,_,_,p,_=>kD<|show ap=aa from p
 |.obj _ _,_,_,p,_=>kD<|show ap=aa from p
theorem yF:∀(a3:List h4) (vs:List az),pf P h vs a3->kS a3=aa->(∀d∈a3,d.weight<=1048576)->∃A:List ao,(∀u∈vs,kp A u)/\∀a∈A,k8 h A a
 |[],_,x,_,_=>by cases x;show{[],λu m=>absurd m (),λa m=>absurd m ()}
 |d::a3,_,x,p,z=>by
  let{v,vs,rfl,ba,(bN)}:=Hg x;have q:jA d=aa/\kS a3=aa:=wz.mp p;let{A,i,(j)}:=aiY d v ba q.1<|z d<|i1 ..;let{B,k,(l)}:=yF a3 vs bN q.2 λe n=>z e<|eJ _ n;have f:∀b∈A,b∈A++B:=λb c=>cN.mpr<|.inl c;have g:∀b∈B,b∈A++B:=λb c=>cN.mpr<|.inr c;show{A++B,λu o=>?_,λb c=>?_}
  .obtain e|m:=bK.mp o
   .rw[e];show i.mono f
   .show(k u m).mono g
  .obtain m|m:=cN.mp c
   .show(j b m).mono f
   .show(l b m).mono g
end
end
def x7(o:Obj):(Option fR):=match o.data with
 |.seq vs _=>if(o.cls==ix "list")=aa then I (.cg o<|.ai<|vs.toList.map j8)else I (.cg o<|.aZ<|vs.toList.map j8)
 |_=>ag
def hy(K:b9)(h:bG)(A:List ao):(aP):=λb=>if b∈A then(if(K.lookup b).isNone=aa then(h.get? b).bind x7 else ag)else ag
def qy(H:aP):=∀b,H b=ag\/∃o u,H b=I (.cg o u)
def ady(vs:List az):x7 {cls:=.type "list",data:=.seq vs.toArray}=I (.cg {cls:=.type "list",data:=.seq vs.toArray}<|.ai<|vs.map j8):=by
 rfl
def NP(vs:List az):x7 {cls:=.type "tuple",data:=.seq vs.toArray}=I (.cg {cls:=.type "tuple",data:=.seq vs.toArray}<|.aZ<|vs.map j8):=by
 rfl
section
variable{P:bS}{w:bL}{K:b9}{h:bG}{A:List ao}
def yE(a:b∈A)(c:K.lookup b=ag)(e:h.get? b=I o):hy K h A b=x7 o:=by unfold hy;rw[aM a,c,e]<;>rfl
def abS(q:hy K h A b=I u):b∈A/\K.lookup b=ag:=by
 unfold hy at q;by_cases a:b∈A
 .rw[aM a]at q;cases c:K.lookup b with
  |none=>show{a,(rfl)}
  |some o=>rw[c]at q;cases q
 .rw[aD a]at q;cases q
def yD(f:∀a∈A,k8 h A a)(q:hy K h A b=I u):K.lookup b=ag/\∃vs:List az,ac vs<=bg/\(∀u∈vs,kp A u)/\
  ((h.get? b=I {cls:=.type "list",data:=.seq vs.toArray}/\u= .cg {cls:=.type "list",data:=.seq vs.toArray} (.ai<|vs.map j8))\/
   (h.get? b=I {cls:=.type "tuple",data:=.seq vs.toArray}/\u= .cg {cls:=.type "tuple",data:=.seq vs.toArray} (.aZ<|vs.map j8))):=by
 let{c,(d)}:=abS q
 let{vs,O,Y,(g)}:=f b c
 show{d,vs,O,Y,?_};obtain e|e:=g
 .rw[yE c d e]at q;show .inl {e,(d3 q).symm}
 .rw[yE c d e,NP]at q;grind
def aiW(c:∀a∈A,k8 h A a):qy (hy K h A):=λb=>by
 cases q:hy K h A b with
 |none=>show .inl D
 |some u=>
  obtain⟨_,vs,_,_,⟨_,e⟩|⟨_,e⟩⟩:=yD c q
  .show .inr {_,_,by rw[e]}
  .show .inr {_,_,by rw[e]}
def aiX(c:∀a∈A,k8 h A a):dq P w (hy K h A) h:=λb u q=>by
 obtain⟨_,vs,O,Y,⟨e,rfl⟩|⟨e,rfl⟩⟩:=yD c q
 .show{e,by rw[bt];show O,vs,_,rg Y,e}
 .show{e,by rw[bt];show O,vs,rg Y,_,e,D,_,D}
def alj{vs:List az}(e:(I {cls:=c,data:=.seq vs.toArray}:Option Obj)=I {cls:=q,data:=.seq ay.toArray}):c=q/\vs=ay:=by
 grind
def aiV(f:K.In h)(g:∀a∈A,k8 h A a){vs:List az}(d:a∈A)(e:h.get? a=I {cls:=.type "list",data:=.seq vs.toArray}):(∀u∈vs,kp A u)/\aB K (hy K h A) a (vs.map j8):=by
 let{ay,O,Y,(j)}:=g a d
 have i:ay=vs:=by grind
 subst i;show{Y,?_};cases b:K.lookup a with
 |none=>show .inl<|.inr {_,by rw[yE d b e,ady]}
 |some o=>have c:=f a o b;rw[e]at c;obtain rfl:=d3 c;show .inr {_,ay.toArray,_,b,D,D,D,by show O,by simpa using rg Y}
def aiU(f:K.In h)(g:∀a∈A,k8 h A a){vs:List az}(d:a∈A)(e:h.get? a=I {cls:=.type "tuple",data:=.seq vs.toArray}):(∀u∈vs,kp A u)/\d1 K (hy K h A) a (vs.map j8):=by
 let{ay,O,Y,(j)}:=g a d
 have i:ay=vs:=by grind
 subst i;show{Y,?_};cases b:K.lookup a with
 |none=>show .inl<|.inr {_,by rw[yE d b e,NP]}
 |some o=>have c:=f a o b;rw[e]at c;obtain rfl:=d3 c;show .inr {_,ay.toArray,_,b,D,D,O,‹rg Y›}
mutual
theorem afV{l:v9}(c:K.In h)(e:∀a∈A,k8 h A a):∀(d:h4) (v:az),Well l h v d->jA d=aa->kp A v->gj K (hy K h A) (j8 v) d
 |.none,_,x,_,_=>by cases x;show .bT
 |.bool b,_,x,_,_=>by cases x;show .a1 b
 |.int i,_,x,_,_=>by cases x;show .int i
 |.str s,_,x,_,_=>by cases x;show .str s
 |.bytes b,_,x,_,_=>by cases x;have z:=gj.iq (K:=K) (H:=hy K h A) b.toArray;show z
 |.list a3,_,x,p,k=>by let{a,vs,rfl,g,(f)}:=Hf x;let{Y,(j)}:=aiV c e k g;show .ai j<|yi c e a3 _ f p Y
 |.tuple a3,_,x,p,k=>by let{a,vs,rfl,g,(f)}:=He x;let{Y,(j)}:=aiU c e k g;show .aZ j<|yi c e a3 _ f p Y
 |.float _,_,_,p,_=>kD<|show ap=aa from p
 |.dict _,_,_,p,_=>kD<|show ap=aa from p
 |.bytearray _,_,_,p,_=>kD<|show ap=aa from p
 |.set _,_,_,p,_=>kD<|show ap=aa from p
 |.frozenset _,_,_,p,_=>kD<|show ap=aa from p
 |.obj _ _,_,_,p,_=>kD<|show ap=aa from p
theorem yi{e:v9}(b:K.In h)(c:∀a∈A,k8 h A a):∀(a3:List h4) (vs:List az),pf e h vs a3->kS a3=aa->(∀u∈vs,kp A u)->jS K (hy K h A) (vs.map j8) a3
 |[],_,x,_,_=>by cases x;show .nil
 |d::a3,_,x,p,b7=>by let{v,vs,rfl,ba,(bN)}:=Hg x;have q:jA d=aa/\kS a3=aa:=wz.mp p;show .cons (afV b c d v ba q.1<|b7 _<|i1 ..)<|yi b c a3 vs bN q.2 λu m=>b7 u<|eJ _ m
end
end
def VT{K:b9}
  (g:K.In b7.heap) (C:b7.heap.Ns eh mg) (i:b7.heap.Ns FV dY) (W:∀x:Str,x≠"__name__"->dY x=h3 x) (ad:b7.heap.NoLimit) (Z:b7.gens=#[])
  (j:pf w.params b7.heap vals a3) (J:kS a3=aa) (ai:∀d∈a3,d.weight<=1048576) (ae:c2 k sX)
  (F:∀base,K.In base->base.Ns eh mg->c6 P w K mg base c7 k cr bk ps br) (X:∀s ay,ac ay=ac ps->tF s bk {ay,[]} (ps.zip ay)) (hlen:ac a3=ac ps)
  (ah:∀H xs,qy H->jS K H xs a3->br xs H (λv U=>gj K U v lI) λ_ _ _=>False)
  (S:∀H e s',c7 [] H b7 (λ_ _ _=>False) e s'->False):
  h2 (aU P w) sX (.call (.ref cr) {vals,[]}) (λr s'=>∃u as,r= .ok (.ret u)/\ReadsW R cl s'.heap u lI as/\OldK b7.heap s'.heap/\s'.os=b7.os/\pE s'.gens) b7:=by
 let{A,E,(a)}:=yF a3 vals j J ai
 have h:qy (hy K b7.heap A):=aiW a;have a0:dq P w (hy K b7.heap A) b7.heap:=aiX a;have B:=yi g a a3 vals j J E;have V:=rg E;have t:∀b u,hy K b7.heap A b=I u->K.lookup b=ag:=λb u q=>(yD a q).1;have L:∀{b:ao} {o:Obj} {es:Array tz} {ep:Nat},b7.heap.get? b=I o->o.data= .dict es ep->hy K b7.heap A b=ag:=λ{b o es ep} e d=>by
  cases q:hy K b7.heap A b with
  |none=>rfl
  |some u=>
   obtain⟨_,vs,_,_,⟨c,_⟩|⟨c,_⟩⟩:=yD a q
   .rw[c]at e;cases e;have fD:Data.seq vs.toArray _=Data.dict es ep:=d;cases fD
   .rw[c]at e;cases e;have fD:Data.seq vs.toArray _=Data.dict es ep:=d;cases fD
 generalize hy K b7.heap A=H at h a0 B t L;have l:∀{b:ao} {o:Obj},b7.heap.get? b=I o->H b=ag->(nz b7.heap H).get? b=I o:=λe n=>adC e n;have f:∀{b:ao} {m:Str->Option az},b7.heap.Ns b m->(nz b7.heap H).Ns b m:=λ{b m} {o,es,ep,e,d,(r)}=>{o,es,ep,l e<|L e d,d,r};have ak:∀b o,K.lookup b=I o->H b=ag:=λb o e=>by
  cases q:H b with
  |none=>rfl
  |some u=>rw[t b u q]at e;cases e
 have y:K.In (nz b7.heap H):=λb o e=>l (g b o e)<|ak b o e;have T:Mod K mg (nz b7.heap H):={y,f C,{dY,f i,W},let{aj,O,(Y)}:=ad;{aj,f O,Y}};have Q:oY P w K mg (nz b7.heap H) sX [] b7 H:={D,T,λb o e=>abR e,q4<|adB _ _,trivial,λb i=>absurd (show b∈([]:List ao)from i) (),a0,.of_eq Z};have ab:ac vals=ac ps:=by rw[wG j];show hlen
 show jU ((F _ y<|f C).run sX [] b7 H {vals,[]} vals (vals.map j8) _ _ ae Q (X b7 vals ab) V<|ah H _ h B) λr s' x=>?_;cases r with
 |error e=>show(S H e s' x).elim
 |ok cv=>
  cases cv with
  |next=>show gJ x
  |brk=>show gJ x
  |cont=>show gJ x
  |ret u=>
   let{v,U,os,dV,cF,G,al,(q)}:=x
   have fc:=λb o e=>by
    cases M:H b with
    |none=>show cF.keep b o e M (by intro z;show absurd (show b∈([]:List ao)from z) ()) ()
    |some an=>
     obtain z|⟨ob,aq,z⟩:=h b
     .rw[M]at z;cases z
     .have am:=cF.hw b ob _ z
      let{p,_}:=a0 b _ z
      let{c,_}:=G b _ am
      rw[e]at p;cases p;show c
   have N:K.In s'.heap:=λb o e=>fc b o<|g b o e
   let{as,(af)}:=gj.nr (R:=R) (cl:=cl) G N lI v u q al
   show{u,as,D,af,OldK.of_keep fc,os,dV}
def acO(h:WData.layableAll a3=aa):∀d∈a3,d.weight<=1048576:=λd af=>
 (PySem.W.layableW_iff.mp<|di.mp h d af).2.2
def OM:∀b a,↥(rc b a)=ac b
 |[],_=>rfl
 |c::b,a=>by change(rc b a.2).length+1=ac b+1;rw[OM b a.2]
def Uq{K:v9->b9}{c7:bL->m2}{br:bL->bC}
  (X:r.wellSaid=aa) (ai:d.params.defaults=[]) (hlen:ac r.args=ac ps) (S:c2 k sX)
  (E:∀w h,b7 w h->(K w.params).In h)
  (F:∀w mg cr h,b7 w h->(K w.params).In h->h.Ns eh mg->mg d.name=I (.ref cr)->
   ∃bk:eS,(∀s ay,ac ay=ac ps->tF s bk {ay,[]} (ps.zip ay))/\
    ∀base,(K w.params).In base->base.Ns eh mg->c6 r.prog w (K w.params) mg base (c7 w) k cr bk ps (br w))
  (V:∀w H xs a,qy H->GQ r.args a=aa->tA r.args r.asked a=aa->jS (K w.params) H xs (rc r.args a)->
   br w xs H (λv U=>gj (K w.params) U v<|r.ret.enc<|tA r.args r.f a) λ_ _ _=>False)
  (y:∀w H s e s',c7 w [] H s (λ_ _ _=>False) e s'->False):
  Se q uE dY b7 r d [] (λf vs=>R4 f vs):=by
 intro w gM ab mg am G i cr o ht ch doc ad da ak af ah ae N L args vals as P M al Z aj
 let{a,m,(n)}:=PySem.W.os_pre_some P
 let{p,(j)}:=Codec.encAll_of_decAll r.args args a m
 subst p;have c:=E w _ i
 let{bk,J,(A)}:=F w mg cr _ i c G.T.g N
 show PySem.W.enter_call<|jU (VT (R:=[]) (cl:=classAt gM.heap) c G.T.g G.T.b G.T.builtins G.T.nolimit L Z (Lf _ _) (acO M) S A J (by rw[OM];show hlen)
  (λH xs B C=>V w H xs a B j n C) λH e s'=>y w H ab e s') λan s' Q=>?_
 let{u,l,rfl,O,Y,t,(x)}:=Q;show{.inl {u,_,l,D,λ_=>D,O,(OpenSpec.post_iff X j _ _).mpr D,λz=>kD<|z},Y,t,x}
end L2
end
namespace L2
open PySem PySem.Spec PyProof.Rows
open PySem.W (Frag InstAt findIn looks_findIn clsIn looks_clsIn mroIn looks_mroIn lookIn handedIn)
def oq:(List az->Bool)
 |.ref _::r=>oq r
 |l=>l==[.type "Exception",.type "BaseException",.type "object"]
def LF self:∀{l:List az},oq l=aa->refuseLoop self "__setattr__" l=pure fr
 |[],e=>by cases e
 |v::r,e=>by
  cases v with
  |ref c=>rw[refuseLoop_ref];show LF self (l:=r) e
  |_=>
   have q:=ei.mp<|e;rw[q]
   kernel_rfl
def LG:∀{l:List az},oq l=aa->l.contains (.type "object")=aa/\l.contains (.type "BaseException")=aa
 |[],e=>by cases e
 |v::r,e=>by
  cases v with
  |ref c=>
   let{O,(Y)}:=LG (l:=r) e
   show{by rw[ni,O,Az],by rw[ni,Y,Az]}
  |_=>have a:=ei.mp<|e;show a▸{⋯,⋯}
def tH K C:=(clsIn K C).any λch=>oq ch.mro
structure jM(K:bR)(C:ao):Prop where
 aL:pc K (.ref C) "__getattribute__"=I (I<|.builtin "BaseException.__getattribute__")
 adK:pc K (.ref C) "__getattr__"=I ag
 af:tb K C=aa
 dn:tH K C=aa
 Bx:pc K (.ref C) "__setattr__"=I (I<|.builtin "object.__setattr__")
def jM.mro{K:bR}(c:jM K C):∃ch,clsIn K C=I ch/\oq ch.mro=aa/\ch.mro.isEmpty=ap:=by
 let{ch,O,(Y)}:=v7 c.dn
 show{ch,O,Y,?_};cases q:ch.mro with
 |nil=>rw[q]at Y;cases Y
 |cons _ _=>rfl
def jM.base{K:bR}(c:jM K C):pb K C (.type "BaseException")=I aa/\pb K C (.type "object")=I aa:=by
 let{ch,O,Y,(d)}:=c.mro
 let{a,(b)}:=LG Y
 constructor
 .unfold pb;rw[O,d4,aD<|d▸eY,b]
 .unfold pb;rw[O,d4,aD<|by rw[d];simp,a]
def Im:Slot "Exception" "__getattribute__" "BaseException.__getattribute__":=
 .of (owner:="BaseException") (n:="__getattribute__") (by kernel_rfl) ⋯ ⋯ ⋯
  (by first|show .inl (rfl)|rfl) (by rfl)
section
variable{prog:bS}{w:bL}{A:db}{E:az->bb->Prop}{s:bb}{K:bR}{x C:ao}{gw:Obj}{od:Option Obj}{name:Str}
def T'(X:K.In s.heap)(J:InstAt s.heap x gw C od)(c:jM K C)(k:Ge K C od name=I (.value v))(l:handedIn v=aa)
  (h:Q v {s with toks:=s.toks+1}):aR (aU prog w) A (getAttr (.ref x) name expr) Q E s:=by
 let{m,g,d,t,(os)}:=s
 have a:=J.type (M:=aU prog w);have b:=zw (M:=aU prog w) X c.aL;have L2:=zw (M:=aU prog w) X c.adK;have e:=PySem.W.looks_find (M:=aU prog w) X J k;have f:=zv (M:=aU prog w) X c.base.1;unfold getAttr getAttrBy;show av<|wpAny_mkText<|hj<|av<|a.at<|av<|b.at ?_;have j:(FK (cM C)&&F1 "BaseException.__getattribute__"==F1 "object.__getattribute__")=ap:=by rfl
 dsimp only;rw[j,aD eY];unfold getAttrByItsOwn hookBefore;rw[aM<|show FK (cM C)=aa from D];show av<|L2.at<|av<|o8<|hj ?_;unfold callGetattribute;rw[show(expr&&FK (F1 "BaseException.__getattribute__"))=ap from tE _,aD eY];unfold boundAndCalled;rw[Im.bind];show av<|a7 ?_;show o7<|vX Im.plain F.entry_bexc_ga ?_;show Sb (M:=aU prog w) (i:="BaseException.__getattribute__") (owner:="BaseException") (n:="__getattribute__") (self:=.ref x) (rest:=[.str name t]) (kw:=[]) ⋯ ⋯
  (a.andThen f) (F.args_bexc_ga (.ref x)<|.str name t) ?_
 unfold Builtin.«object.__getattribute__»;show av<|a7<|av<|a7<|av<|a.at<|av<|e.at ?_;show a7 ?_;change aR _ _ (handedOut v) _ _ _;rw[PySem.W.handedOut_of l];show a7 h
def G6(X:K.In s.heap)(J:InstAt s.heap x gw C od)(c:jM K C)(g:pc K (.ref C) name=I ag)
  (h:∀tk b,aR (aU prog w) A.in1 (Builtin.ObjectAttr.storeInOwnDict (.ref x) (.ref C) (.str name tk) name v b)
   (λfin s'=>match fin with|.done (.ret _)=>Q fr s'|_=>False) (λe s'=>E e s') {s with toks:=s.toks+1}):aR (aU prog w) A (setAttr (.ref x) name v) Q E s:=by
 show R7 X J c.Bx ?_
 let{ch,d,j,(bI)}:=c.mro
 have a:=PySem.F.store_object;have sub:nT (aU prog w) s.heap (zA (.ref x)<|.type "object") aa:=J.type.andThen<|zv X c.base.2;have f:nT (aU prog w) s.heap (mroOf<|.ref C) ch.mro:=(FN X d).andThen .now;show vX a.slot.plain a.entry (Sb (s:={s with toks:=s.toks+1}) (M:=aU prog w) (i:="object.__setattr__") (owner:="object") (n:="__setattr__") (self:=.ref x) (rest:=[.str name s.toks,v]) (kw:=[])
  a.kind a.split sub (a.args (.ref x) (.str name s.toks) v) ?_)
 rw[PySem.W.osa_eq,refuse_eq];have O:=J.type (M:=aU prog w);have Y:=zw (M:=aU prog w) X g;show av<|av<|q0 (s:={s with toks:=s.toks+1}) O<|av<|q0 (s:={s with toks:=s.toks+1}) f ?_;rw[LF _ j];show a7<|av<|q0 (s:={s with toks:=s.toks+1}) O<|av<|q0 Y<|av<|a7 ?_;show fA (h s.toks ap) (λfin s' z=>?_) λ_ _ z=>z;obtain(_|_|_|_)|_:=fin<;>first|show z|show z.elim
def T3(X:K.In s.heap)(d:s.heap.get? x=I {.ref C,ag,.fields vs,#[]})(c:jM K C)(F:pc K (.ref C) name=I ag)
  (h:∀h' ae tk,h'.get? x=I {.ref C,I ae,.fields vs,#[]}->h'.Ns1 ae (λy=>if y=name then I v else ag)->s⁻¹<=ae->ae≠x->
   (∀b o,b≠x->s.heap.get? b=I o->h'.get? b=I o)->Q fr {s with heap:=h',toks:=tk}):aR (aU prog w) A (setAttr (.ref x) name v) Q E s:=by
 show G6 (od:=ag) X {d,D,D,(l7)} c F λtk b=>?_
 let{ch,t,(af)}:=v7 c.af
 have b1:s⁻¹≠x:=ma<|cm d;show av<|a7<|av<|av<|Fy d<|av<|q0 (FN X t) ?_;rw[af];show av<|zl<|av ?_;have j:(s.heap.push {cls:=.type "dict",data:=.dict #[]}).get? x=I {.ref C,ag,.fields vs,#[]}:=cB _ d;show wpAny_update j ?_;show a7 (a:=I s⁻¹)<|av<|a7<|av ?_;have k:(s.heap.push {cls:=.type "dict",data:=.dict #[]}).get? s⁻¹=I {cls:=.type "dict",data:=.dict #[]}:=dC s.heap D;have l:(s.heap.push {cls:=.type "dict",data:=.dict #[]}).Ns s⁻¹ (λ_=>ag):={_,#[],_,k,D,(λe B=>absurd B ()),λ_=>D};have m:((s.heap.push {cls:=.type "dict",data:=.dict #[]}).update x λo=>{o with dict:=I s⁻¹}).Ns1 s⁻¹ (λ_=>ag):=
  (Tw l).at λo q=>by rw[jv _ _<|eo b1];show q
 have n:=me (λo:Obj=>{o with dict:=I s⁻¹}) j D;show Fv m λh' g i=>?_
 let{M,L,J,G,z,(u)}:=g.count (ns:=[name]) (λy H=>by
  by_cases q:y=name
  .rw[q];show cy.mpr D
  .show absurd (aD q) H)
 show av<|Fx G (by rw[z];show FJ<|b5 u<|by change 1<=_;rw[cc];omega) ?_;show a7<|h _ s⁻¹ _ ((i.2 _<|eo b1).trans n) g (bA _) b1 λb o p f=>?_;have r:b≠s⁻¹:=du<|cm f;rw[i.2 b r,jv _ _<|eo p];show cB _ f
def T2(X:K.In s.heap)(f:s.heap.get? x=I {.ref C,I ae,.fields vs,#[]})(c:jM K C)
  (l:pc K (.ref C) name=I ag) (d:s.heap.Ns1 ae cG) (bI:ae≠x) (ax:v5 cG ns) (hsz:ac ns<1000)
  (h:∀h' tk,h'.Ns1 ae (λy=>if y=name then I v else cG y)->lc ae s.heap h'->Q fr {s with heap:=h',toks:=tk}):aR (aU prog w) A (setAttr (.ref x) name v) Q E s:=by
 let{p,(g)}:∃o,s.heap.get? ae=I o:=let{o,_,_,e,_}:=d;{o,(e)}
 show G6 (od:=I p) X {f,D,D,(g)} c l λtk b=>?_
 let{ch,i,(af)}:=v7 c.af
 show av<|a7<|av<|av<|Fy f<|av<|q0 (s:={s with toks:=s.toks+1}) (FN X i) ?_;rw[af];show a7<|av<|a7<|av<|Fv d λh' a n=>?_
 let{t,r,q,m,k,(j)}:=a.count<|R5 name v ax
 show av<|Fx m (by rw[k];show FJ<|b5 j<|by rw[cz,cc];omega) ?_;show a7<|h _ _ a n
end
def ur T:∀{l:List az},oq l=aa->l.contains (.type T)=[ix "Exception",.type "BaseException",.type "object"].contains (.type T)
 |[],e=>by cases e
 |v::r,e=>by
  cases v with
  |ref c=>rw[ni,ur T (l:=r) e];rfl
  |_=>rw[ei.mp<|e]at⊢
def lgc(C:ao)(d:Bool):(List az->List (Option az)->Bool)
 |.ref aq::a,[_,_,_,_,I<|.builtin n,_]=>aq==C&&n=="Exception.__new__"&& !d&&oq a
 |_,_=>ap
def lgo(C:ao):(Obj->Bool)
 |{.type t,_,.cls ch,sl}=>t=="type"&&lgc C ch.hasDel ch.mro sl.toList
 |_=>ap
def lg(K:bR)(C:ao):(Bool):=match K.lookup C with
 |some o=>lgo C o
 |_=>ap
def AG{K:bR}(X:K.In h)(e:lg K C=aa):∃fO q N b' a o k sub b col c d f g i j,
  h.get? C=I (excClassObj fO q C N b' a o k sub b col c d f g i j "Exception.__new__")/\oq a=aa:=by
 show zzK λq=>?_;unfold lg at e;cases s:K.lookup C with
 |none=>rw[s]at e;cases e
 |some o=>
  rw[s]at e;obtain⟨y,c,z,⟨l⟩⟩:=o;cases y with
  |type y=>
   cases z with
   |cls ch=>
    replace e:=wz.mp e;let{n,(e)}:=e;cases eq_of_beq n;let{fO,b',mro,ns,u,af,k,sub,b,col,(del)}:=ch;cases mro with
    |nil=>cases e
    |cons v a=>
     cases v with
     |ref aq=>
      obtain _|⟨d,_|⟨f,_|⟨g,_|⟨i,_|⟨m,l⟩⟩⟩⟩⟩:=l
      iterate 5 cases e
      cases m with
      |none=>cases e
      |some m=>
       cases m with
       |builtin n=>
        obtain _|⟨j,_|_⟩:=l
        .cases e
        .change(aq==C&&n=="Exception.__new__"&& !del&&oq a)=aa at e;simp only[cf,ei,GV]at e;let{{{rfl,(rfl)},rfl},t}:=e;show q {fO,u,ns,b',a,af,k,sub,b,col,c,d,f,g,i,j,X _ _ s,t}
        cases e
       |_=>cases e
     |_=>cases e
   |_=>cases e
  |_=>cases e
section
variable{prog:bS}{w:bL}{A:db}{K:bR}{C:ao}{R:s6->bb->Prop}{h:bG}{g:Array Am}{d:Drawn}{t:Nat}{os:OsState}
abbrev lN(rest:List az):Obj:={cls:=.type "tuple",data:=.seq rest.toArray}
abbrev lH(C t:ao):Obj:={cls:=.ref C,data:=.fields #[.ref t,.none,.none,.none,.bool ap,.none]}
def T5{rest:List az}(X:K.In h)(j:lg K C=aa)(hz:ac rest<=bg)
  (k:R (.ok<|.ret<|.ref<|h.objs.size+1) {(h.push<|lN rest).push<|lH C h.objs.size,g,d,t,os}):
  h2 (aU prog w) A (.call (.builtin "Exception.__new__") {.ref C::rest,[]}) R {h,g,d,t,(os)}:=by
 let{fO,q,N,b',c,o,y,sub,l,col,m,r,s,u,v,x,b,(e)}:=AG X j
 have a:=PySem.F.excBase_Exception;have f:(cM C::c).contains (.type "Exception")=aa:=by rw[ni,ur _ e];rfl
 have i:(cM C::c).contains (.type "AttributeError")=ap:=by rw[ni,ur _ e];rfl
 have eV:(cM C::c).contains (.type "NameError")=ap:=by rw[ni,ur _ e];rfl
 have st:=a.noStar;have n:=a.ends;show codeAny_call_builtin_code (Ar _ a.quiet) ?_;simp only[FU,a.newKind,a.newSplit,a.newRow];repeat(first
  |show o5 b ?_
  |(show zh b ?_;rw[f])
  |show wpAny_staticBase_exc b ?_
  |show Rg b ?_
  |simp only[bne_self_eq_false,pC,ku]
  |wp_step)
 show codeAny_builtinAt a.entry ?_;unfold Builtin.«BaseException.__new__»;show R1 ?_;change PySem.wpAt _ _ _ (stack>>=_) _ _ _;show R1 (PySem.wpAt_stack λp below=>R0 ?_)
 wp_walk
 show R0 ?_;rw[a.owner];repeat(first
  |with_reducible show wpAny_madeHere_exc a.canon b ?_
  |with_reducible show o5 b ?_
  |(with_reducible show zh b ?_;first|rw[f]at⊢|rw[i]at⊢|rw[eV]at⊢)
  |wp_step)
 change R _ _;rw[hn];show k
def T7{rest:List az}(X:K.In h)(c:lg K C=aa)(au:pc K (.ref C) "__init__"=I (I<|.ref f))(p:pj K (.ref f)=I (.type "function"))(hz:ac rest<=bg)
  (s:h2 (aU prog w) (A.under<|.builtin "type.__call__" {.ref C::rest,[]}) (.call (.ref f) {.ref (h.objs.size+1)::rest,[]}) (Sf (h.objs.size+1) R)
   {(h.push<|lN rest).push<|lH C h.objs.size,g,d,t,os}):
  h2 (aU prog w) A (.call (.ref C) {rest,[]}) R {h,g,d,t,(os)}:=by
 let{fO,q,N,b',l,B,M,sub,u,col,x,F,G,H,J,L,a,(E)}:=AG X c
 have f1:=tc_lookup;have f2:=tc_bind<|.ref C;have y:({h,g,d,t,(os)}:bb).TypeIs (.ref C) "type":={_,a,D};show zF ?_;change aR _ _ (callAny (.ref C) _) _ _ _;repeat(any_goals (first
  |assumption
  |with_reducible show o5 a ?_
  |wp_step))
 show{D,?_};show codeAny_call_builtin_at (Ar _ ⋯) entry_typeCall (wpAny_check_type_call_sub a ?_);repeat(first
  |with_reducible show o5 a ?_
  |with_reducible show Rg a ?_
  |wp_step)
 show T5 X c hz ?_;have k:∀b o,h.get? b=I o->((h.push<|lN rest).push<|lH C h.objs.size).get? b=I o:=λb o e=>cB _<|cB _ e;have i:((h.push<|lN rest).push<|lH C h.objs.size).get? (h.objs.size+1)=I (lH C h.objs.size):=by heap_get
 have n:=k _ _ a;have m:(cM C::l).contains (.ref C)=aa:=by simp
 have dP:nT (aU prog w) ((h.push<|lN rest).push<|lH C h.objs.size) (sL (.ref C) "__init__") (I<|.ref f):=(zw X au).keeps k;have j:nT (aU prog w) ((h.push<|lN rest).push<|lH C h.objs.size) (bindSpecial (.ref f)<|.ref<|h.objs.size+1) (.ref f,[.ref<|h.objs.size+1]):=(Sd X _ p).keeps k;change aR _ _ _ _ _ _;unfold zA;repeat(first
  |with_reducible show o5 i ?_
  |wp_step)
 change aR _ _ (FP (.ref C)<|.ref C) _ _ {(h.push<|lN rest).push<|lH C h.objs.size,g,d,t,os};show zh n ?_;rw[m];repeat(first
  |with_reducible show o5 i ?_
  |wp_step)
 change aR _ _ (sL (.ref C) _) _ _ {(h.push<|lN rest).push<|lH C h.objs.size,g,d,t,os};show dP.at<|hj<|av<|j.at<|av<|o7 ?_;show jU s λr s' z=>?_;obtain e|(v|_|_|_):=r<;>first|show z|show z.elim|skip
 let{rfl,(z)}:=z;show a7<|a7 z
end
end L2
namespace L2
open PySem PySem.Spec PyProof.Rows
structure lW(h:bG)(a T:ao)(C:az)(od:Option ao)(cv:az):Prop where
 bE:∃xN vs Mi n5,h.get? a=I xN/\xN.cls=C/\xN.dict=od/\xN.data= .fields vs/\vs[1]? =I (.ref T)/\h.get? T=I Mi/\Mi.data= .fields n5/\n5[3]? =I cv
 bI:T≠a
structure qB(aF bE:List ao)(h h':bG):Prop where
 keep:∀b o,b∉aF->b∉bE->h.get? b=I o->h'.get? b=I o
 slot:∀b o,b∈aF->b∉bE->h.get? b=I o->∃sl,h'.get? b=I {o with slots:=sl}
 size:h.objs.size<=h'.objs.size
def N4(a:am.frame=I L):ev (am::aN)=L::ev aN:=by unfold ev;grind
section
variable{M:Model}{A:db}{E:az->bb->Prop}{s:bb}{base:bG}{am:Env}{aN:List Env}{L a T:ao}{C:az}{od:Option ao}
def G9(v:A.frames=I (am::aN))(j:s.heap.FunFrames base (am::aN))(u:am.frame=I L)
  (i:s.heap.get? a=I b7) (af:b7.data= .fields vs) (m:1<vs.size)
  (h:∀h' T,lW h' a T b7.cls b7.dict (g4 L)->s⁻¹<=T->qB (ev<|am::aN) [a] s.heap h'->Q fr {s with heap:=h'}):
  aR M A (do let x<-frameOf am;let dY<-entryPlaceOf L eq;let b<-EntryCells.newEntry head x .none (g4 L) .none dY;vT (.ref a) 1 b) Q E s:=by
 have t:a∉(am::aN).filterMap (·.frame):=λz=>by
  let{_,o,k,e4}:=j.mem z
  rw[i]at k;cases k;show e4 vs af
 show av<|wpAny_frameOf_fun v j u λO aj=>?_;show av<|wpAny_entryPlaceOf λdY w=>?_;show av<|l1 ?_<|w.sizeOk5 _ _ _ _ _;have f:O.get? a=I b7:=(aj.2.1 a t).trans i;generalize l:({cls:=.type "traceback",dict:=ag,data:=.fields ([head,.ref L,.none,g4 L,.none]++(if dY.isEmpty then we 6 iW else dY)).toArray}:Obj)=ob;have g:=cB (h:=O) ob f;show qG g af m ?_;have iE:=aj.1.symm;have ak:O.objs.size≠a:=ma<|cm f;have e:=q3 af (·.setIfInBounds 1 (cM O.objs.size));have p:=me (q2 (·.setIfInBounds 1 (cM O.objs.size))) g<|zX e;have io:(O.push ob).get? O.objs.size=I ob:=dC O (by rw[<-l];rfl);have r:=(jv (O.push ob) (q2 (·.setIfInBounds 1 (cM O.objs.size)))<|eo ak).trans io;have keep:∀b o,b≠a->O.get? b=I o->((O.push ob).update a (q2 (·.setIfInBounds 1 (cM O.objs.size)))).get? b=I o:=λb o c q=>by rw[jv _ _<|eo c];show cB _ q
 show h _ O.objs.size {{_,_,ob,_,p,Gj _ _,?_,e,by simp[m],r,by rw[<-l],?_},ak} (q4 iE) {λb o c d q=>?_,λb o c d q=>?_,?_}
 .let{_,_,n,_}:=b7
  cases n<;>rfl
 .rfl
 .show keep b o (λz=>d<|by rw[z];show cy.mpr D)<|(aj.2.1 b c).trans q
 .let{sl,(y)}:=aj.2.2 b o q
  show{sl,keep b _ (λz=>d<|by rw[z];show cy.mpr D) y}
 .rw[Tu,hn,iE];show jZ _
def wD(F:lW s.heap a T C od cv)
  (h:∀h',lW h' a T C od .none->(∀b,b≠T->h'.get? b=s.heap.get? b)->s⁻¹=h'.objs.size->Q fr {s with heap:=h'}):aR M A (setFlight (.ref a) ag) Q E s:=by
 let{{l,vs,m,n,e,j,k,af,O,d,c,(g)},bI}:=F
 have f:=(rf.mp g).1;show av<|zk e af O<|qG d c f<|h _ {{l,vs,_,_,?_,j,k,af,O,me _ d<|zX<|q3 c _,q3 c _,by simp[f]},bI} (λb i=>jv _ _<|eo i) ?_
 .rw[jv _ _ bI];show e
 simp
def T4(d:A.frames=I (am::aN))(e:s.heap.FunFrames base (am::aN))(c:am.frame=I L)
  (b:s.heap.get? a=I q) (af:q.data= .fields vs) (O:vs[1]? =I .none)
  (h:∀h' T,lW h' a T q.cls q.dict (g4 L)->s⁻¹<=T->qB (ev<|am::aN) [a] s.heap h'->Q fr {s with heap:=h'}):aR M A (noteFrame (.ref a) am) Q E s:=by
 unfold noteFrame;simp only[c];show av<|zk b af O<|G9 d e c b af (rf.mp O).1 h
def G8(r:A.frames=I (am::aN))(t:s.heap.FunFrames base (am::aN))(m:am.frame=I L)(F:lW s.heap a T C od .none)
  (h:∀h' e,lW h' a e C od (g4 L)->s⁻¹<=e->qB (ev<|am::aN) [a,T] s.heap h'->Q fr {s with heap:=h'}):aR M A (noteFrame (.ref a) am) Q E s:=by
 let{{y,vs,x,w,l,p,u,af,O,g,i,(k)},bI}:=F
 subst p u;unfold noteFrame;simp only[m];show av<|zk l af O ?_;show av<|zk g i k<|av<|qG g i (rf.mp k).1 ?_;have other:∀b,b≠T->(s.heap.update T (q2 (·.setIfInBounds 3 iW))).get? b=s.heap.get? b:=λb c=>jv _ _<|eo c;have v:∀b o,s.heap.get? b=I o->(∀vs,o.data≠ .fields vs)->b≠T:=λb o q e4 z=>by rw[z,g]at q;cases q;show e4 w i
 show G9 r (t.of_keeps λb o q e4=>{o,(other b<|v b o q e4).trans q,D}) m ((other a<|eo bI).trans l) af (rf.mp O).1 λh' e n le f=>?_;have j:(s.heap.update T (q2 (·.setIfInBounds 3 iW))).objs.size=s⁻¹:=Tu ..;show h h' e n (by rw[<-j];show le) {λb o c d q=>f.keep b o c (λz=>d<|by simp at z;simp[z])<|(other b λz=>d<|by simp[z]).trans q,λb o c d q=>f.slot b o c (λz=>d<|by simp at z;simp[z])<|(other b λz=>d<|by simp[z]).trans q,by rw[<-j];show f.size}
def T9(j:A.frames=I (am::aN))(k:s.heap.FunFrames base (am::aN))(i:am.frame=I L)
  (g:s.heap.get? a=I b7) (af:b7.data= .fields vs) (O:vs[1]? =I .none)
  (h:∀h' T,lW h' a T b7.cls b7.dict .none->s⁻¹<=T->qB (ev<|am::aN) [a] s.heap h'->Q fr {s with heap:=h'}):aR M A (leaving am<|.ref a) Q E s:=by
 unfold leaving;show av<|T4 j k i g af O λh' T F le K=>?_;show wD F λY f l iE=>h Y T f le {λb o c d q=>?_,λb o c d q=>?_,b5 K.size<|by grind}
 .have e:=du<|dW (cm q) le;show(l b e).trans<|K.keep b o c d q
 .have e:b≠T:=du<|dW (cm q) le
  let{sl,(m)}:=K.slot b o c d q
  grind
def T8(k:A.frames=I (am::aN))(l:s.heap.FunFrames base (am::aN))(j:am.frame=I L)(F:lW s.heap a T C od .none)
  (h:∀h' c,lW h' a c C od .none->s⁻¹<=c->qB (ev<|am::aN) [a,T] s.heap h'->Q fr {s with heap:=h'}):aR M A (leaving am<|.ref a) Q E s:=by
 show av<|G8 k l j F λh' c g le K=>wD g λY i m iE=>h Y c i le {λb o d e q=>?_,λb o d e q=>?_,b5 K.size<|by grind}
 .have f:=du<|dW (cm q) le;show(m b f).trans<|K.keep b o d e q
 .have f:b≠c:=du<|dW (cm q) le
  let{sl,(n)}:=K.slot b o d e q
  grind
end
open PySem.W (Frag InstAt findIn looks_findIn clsIn looks_clsIn mroIn looks_mroIn lookIn handedIn)
def AD a C od(h:bG):=∃t,h.get? a=I {.ref C,od,.fields #[.ref t,.none,.none,.none,.bool ap,.none],#[]}
def fo(a C:ao)(od:Option ao):(fR):=.ext<|AD a C od
def AE ae(aF:List (Str×ab))(h:bG):=∃cG,h.Ns1 ae cG/\(∀f,gW (aF.lookup f)<|cG f)/\v5 cG (aF.map (·.1))/\ac aF<=1000
def fQ(ae:ao)(aF:List (Str×ab)):(fR):=.ext<|AE ae aF
def AF a C ae(h:bG):=∃o vs,(h.get? a=I o/\o.cls= .ref C/\o.dict=I ae/\o.data= .fields vs)
def oR(a C ae:ao):(fR):=.ext<|AF a C ae
section
variable{P:bS}{w:bL}{H:aP}{h:bG}{a C ae:ao}{od:Option ao}{aF:List (Str×ab)}
def G3(e:AD a C od h):em P w H h a (fo a C od):=by
 let{t,(e)}:=e
 show{{t,(e)},{_,e},λO Y {t,(q)} k=>{t,k _ q}}
def G4(e:AE ae aF h):em P w H h ae (fQ ae aF):=by
 let{cG,{o,es,ep,a,(r)},q}:=e
 show{{cG,{o,es,ep,a,(r)},q},{_,a},λO Y {m,{bX,es',b,c,(f)},d} k=>{m,{bX,es',b,k _ c,f},d}}
def T0(e:AF a C ae h):em P w H h a (oR a C ae):=by
 let{o,vs,e,(q)}:=e
 show{{o,vs,e,(q)},{_,e},λO Y {bX,d,b,(c)} k=>{bX,d,k _ b,c}}
def wC(a0:dq P w H h)(e:H a=I (fo a C od)):AD a C od h:=(a0 a _ e).1
def G5(a0:dq P w H h)(e:H ae=I (fQ ae aF)):AE ae aF h:=(a0 ae _ e).1
def T1(a0:dq P w H h)(e:H a=I (oR a C ae)):AF a C ae h:=(a0 a _ e).1
end
section
variable{X:bO}{o e value:Expr}{f:Str}{pos pos':Pos}{bc gr:bD}
inductive qyYN(K:bR)(f:Str)(aq:m1)(σ:St)(y:ab)(x:ab)(aw:aP):Prop|mk(a C)(_:x= .ref a)(_:jM K C)(_:cK K C f)(_: ((aw a=I (fo a C ag)/\∀ae,aw ae=ag->ae≠a->aq.b1 σ (al (al aw ae<|fQ ae [(f,y)]) a<|fo a C<|I ae))\/ (∃ae aF,aw a=I (fo a C<|I ae)/\aw ae=I (fQ ae aF)/\ae≠a/\ac aF<1000/\aq.b1 σ (al aw ae<|fQ ae<|cs f y aF))))
def YN(K:bR)(bc gr:bD)(f:Str):(fq):=λaq σ H=>gr σ H λy an=>bc σ an λx aw=>qyYN K f aq σ y x aw
def Cc(S:aX X o bc)(Y:aX X value gr)(W:nM value (I<|.Attribute o f pos') pos.line X.am=pure ap):hh X (.Assign [.Attribute o f pos'] value pos) (YN X.K bc gr f):=by
 intro pins s σ H aq J h;show Ry (bp (Y pins s σ H _ J h) λu aj {y,an,R,Q,(q)}=>bp (S pins aj σ an _ R q) λdn aA {x,aw,i,ab,a,C,bE,c,n,(l)}=>?_) W;subst bE;obtain rfl:dn=cM a:=ab;obtain⟨j,l⟩|⟨ae,aF,j,O,Z,T,l⟩:=l
 .let{t,(G)}:=wC i.a0 j
  show T3 i.e5 G c n λh' ae tk M N le bI b6=>?_;have A:aw ae=ag:=i.a0.fresh le;show{σ,_,?_,l ae A bI};have ad:∃ob,h'.get? ae=I ob:=let{o,_,_,e,_}:=N;{o,(e)};have L:k3 (aw a):=by rw[j];show l7
  have cF:fy X.aF [] aw (al (al aw ae<|fQ ae [(f,y)]) a<|fo a C<|I ae) aA.heap h':=by
   have B:∀b,aw b=ag->b≠a:=λb z r=>by rw[r,j]at z;cases z
   have F:∀b u,aw b=I u->¬k3 (I u)->b≠a/\b≠ae:=λb u z fO=>{λr=>by rw[r]at z;rw[z]at L;show fO L,b3 z A};show{λb o q z _ _=>b6 b o (B b z) q,λb o q z _ _=>{o.slots,b6 b o (B b z) q},λb o q z _=>?_,λb o q _=>?_,λb xs q=>?_,λb o u q=>?_,λb ps q=>?_}
   .rw[aI<|B b z,aI<|du<|dW (cm q) le];show z
   .by_cases r:b=a
    .rw[r];show{_,M}
    .show{o,b6 b o r q}
   .let{m,(p)}:=F b _ q λz=>z
    rw[aI m,aI p];show q
   .let{m,(p)}:=F b _ q λz=>z
    rw[aI m,aI p];show q
   .let{m,(p)}:=F b _ q λz=>z
    show{#[],by rw[aI m,aI p,q];simp}
  show i.cF (h':=h') (t':=tk) cF λb u z=>?_;by_cases k:b=a
  .subst k;rw[ar]at z;cases z;show G3 {t,(M)}
  .rw[aI k]at z;by_cases af:b=ae
   .subst af;rw[ar]at z;cases z;show G4 {_,N,λg=>?_,λg E=>?_,by change 1<=1000;decide}
    .change gW (iA g [(f,y)]) (if g=f then I u else ag);have:=x0 f g y [];rw[show cs f y []=[(f,y)]from D]at this;rw[this];by_cases d:g=f
     .rw[aM d,aM d];show Q
     .rw[aD d,aD d];show l7
    .by_cases d:g=f
     .rw[d];show cy.mpr D
     .show absurd (aD d) E
   .rw[aI af]at z;show(i.a0 b u z).hq (λc v w q=>b6 c v ?_ q) (λc q=>?_) λc xs q=>?_
    .obtain rfl|w:=w
     .show k
     .rintro rfl;rw[j]at w;cases w
    .rw[aI (λr=>by rw[r,j]at q;cases q),aI<|b3 q A];show q
    .rw[aI (λr=>by rw[r,j]at q;cases q),aI<|b3 q A];show q
 .let{t,(G)}:=wC i.a0 j
  let{cG,U,V,ax,(hz)}:=G5 i.a0 O
  show T2 i.e5 G c n U Z ax (by rw[bt];show T) λh' tk P c9=>{σ,_,?_,l};have af:∃ob,h'.get? ae=I ob:=let{o,_,_,e,_}:=P;{o,(e)};show i.mi (x:=ae) (e:=ae) (by rw[O];show l7) (.inl D) (λb q k z=>(c9.2 b k).trans z) af ?_;show G4 {_,P,λg=>?_,λg E=>?_,?_}
  .change gW ((cs f y aF).lookup g) (if g=f then I u else cG g);rw[x0];by_cases d:g=f
   .rw[aM d,aM d];show Q
   .rw[aD d,aD d];show V g
  .by_cases d:g=f
   .rw[d];show(uH f y aF).1
   .show(uH f y aF).2 g<|ax g λz=>E ?_;change(if g=f then I u else cG g)=ag;rw[aD d];show z
  .have:=Dh f y aF;omega
inductive qyHN(K:bR)(f:Str)(Q:dR)(x:ab)(an:aP):Prop|mk(a C ae aF v)(_:x= .ref a)(_:an a=I (oR a C ae))(_:an ae=I (fQ ae aF))(_:jM K C)(_:cK K C f)(_:aF.lookup f=I v)(_:Q v an)
def HN(K:bR)(bc:bD)(f:Str):(bD):=λσ H Q=>bc σ H λx an=>qyHN K f Q x an
def ZV(t:aX X e bc)(k:iw e f X.am (eval e X.am)=eval e X.am):aX X (.Attribute e f pos) (HN X.K bc f):=by
 intro pins s σ H Q J h;show PH k<|bp (t pins s σ H _ J h) λu aj {x,an,b,F,a,C,ae,aF,v,bE,g,i,c,n,l,(q)}=>?_;subst bE;obtain rfl:u=cM a:=F
 let{o,vs,A,m,af,(r)}:=T1 b.a0 g
 let{cG,z,D,ax,(hz)}:=G5 b.a0 i
 let{u,E,(d)}:=gW.w7<|l▸D f
 let{od,B,(y)}:=M9 z
 let{ch,p,(w)}:=v7 c.af
 have ci:InstAt aj.heap a o C (I od):={A,m,by unfold PySem.W.notCls;rw[r],by rw[af];show B};have j:Ge X.K C (I od) f=I (.value u):=by unfold Ge;rw[p,n];simp only[d4];unfold PySem.W.ownOf;rw[aM w];dsimp only;rw[y,E];rfl
 show T' b.e5 ci c j (NS d) {v,an,b.eL _,d,q}
end
structure vl(K:bR)(C f:ao):Prop where
 xX:lg K C=aa
 init:pc K (.ref C) "__init__"=I (I<|.ref f)
 a8:qY K (.ref f)=aa
 b6:jY K (.ref C)=aa
section
variable{X:bO}{pins:List (ao×Obj)}{σ:St}{H:aP}{s:bb}{C:ao}
def aC.acy(J:aC X pins σ H s) rest:aC X pins σ (al H (s⁻¹+1)<|fo (s⁻¹+1) C ag) {s with heap:=(s.heap.push<|lN rest).push<|lH C s⁻¹}:=by have a:=J.fc (h':=s.heap.push<|lN rest) (t':=s.toks) λb u q=>cB _ q;show a.gx (λb u q=>cB _ q) ()<|G3 {s⁻¹,?_};have:=dC (s.heap.push<|lN rest) (o:=lH C s⁻¹) D;simp_all
end
section
variable{X:bO}{c7:m2}{k:Nat}{f C:ao}{bk:eS}{ps:List Str}{br:bC}{ff:List ab}{a3:List az}{E:gh}{x m:Str}{p pos apos:Pos}{e o:Expr}{es:List Expr}{bc:bD}{t:fF}
def YS{σ:St}(M:vl X.K C f)(F:c6 X.prog X.w X.K X.mg X.base c7 k f bk ps br)(p:c2 (k+1) X.A)(n:f9 X.K bk ps a3)(af:bF ff a3)
  (q:gY c7 X E) (J:aC X pins σ H s) (r:bF vs ay) (hz:↥vs<=bg)
  (h:∀x,H x=ag->br (.ref x::(vs++ff)) (al H x<|fo x C ag) (λv aw=>v= .bT/\Q (.ref x) aw) E):
  aR (aU X.prog X.w) X.A (call (.ref C) ay) (λu s'=>u= .ref (s⁻¹+1)/\f8 X pins σ Q u s') X.cT s:=by
 have i:=h (s⁻¹+1)<|J.a0.fresh<|jZ _;have b:=aC.acy (C:=C) J ay;have j:bF (ab.ref (s⁻¹+1)::(vs++ff)) (cM (s⁻¹+1)::(ay++a3)):=.cons D<|r.append af;have o:=by have e:=↥j;rw[F.len _ _ _ _ i]at e;show e.symm
 let{c,g,d,tk,(os)}:=s
 show o7<|T7 J.e5 M.xX M.init (ei.mp M.a8) (↥r▸hz)<|jU (F.run _ X.stack _ _ {cM (c.objs.size+1)::ay,[]} (cM (c.objs.size+1)::(ay++a3)) _ _ E (p.uC C ay [])
  (b.yg.uC C ay []) (n _ (cM (c.objs.size+1)::ay) b.e5 o) j i) λr s' a=>?_
 cases r with
 |error e=>show q pins σ _ _ e s' b a
 |ok cv=>
  cases cv with
  |ret u=>
   let{v,U,l,y,m,(t)}:=b.after a
   subst m;show{y,D,{ab.ref<|c.objs.size+1,U,l,D,t}}
  |next=>show gJ a
  |brk=>show gJ a
  |cont=>show gJ a
def p3{L:Sem Bool}{u:az}(j:ea X x)(o:X.mg x=I (.ref C))(l:R6 X.K (.ref C) "__getattribute__"=I (I<|.builtin "type.__getattribute__"))
  (y:R8 X.K C (.type "type")=aa) (i:Sa X.K (.ref C) (.type "type") m=I (.val<|.ref f)) (n:jY X.K (.ref f)=aa)
  (F:c6 X.prog X.w X.K X.mg X.base c7 k f bk ps br) (v:c2 k X.A) (d:f9 X.K bk ps a3) (af:bF ff a3) (G:gY c7 X E) (c:d2 X (e::es) t)
  (g:(x=="__debug__")=ap<|>zzd)
  (z:bj (e::es) X.am=(ap,eval e X.am)::bj es X.am<|>zzr) (q:((dM pos<|bj es X.am).any (·.1)=ap)<|>zzr)
  (B:(eval (.Call (.Attribute (.Name x p) m apos) (e::es) [] pos) X.am=(do
   let dn<-eval (.Name x p) X.am
   sO apos.atName
   let(f,first)<-qR [dn] (getMethod dn m L)
   callWith pos f first (dM pos<|bj (e::es) X.am) (m9 pos<|m4 [] X.am)))<|>zzr):
  aX X (.Call (.Attribute (.Name x p) m apos) (e::es) [] pos) (ro br ff E t):=by
 intro pins s σ H Q J h;show Gc (mE J j o (PySem.W.method_cls J.e5 l<|PySem.W.cls_value J.e5 y i D ?_) g) B;have b:=J.eL<|s.toks+1;show tc J.ok.f5.oy n (bp (c pos pins _ σ H _ b h) λay aA {vs,aw,a,r,(M)}=>{a.e5,rx F v d af G a r M}) z q
end
structure aj'(P:bS)(w:bL)(aN:List Env)(H:aP)(s:bb)(a C ae T:ao)(U:aP)(s':bb):Prop where
 os:s'.os=s.os
 dV:pE s'.gens
 cF:fy (ev aN) [] H U s.heap s'.heap
 a0:dq P w U s'.heap
 yc:lW s'.heap a T (.ref C) (I ae) .none
 cr:U a=ag
 r':U T=ag
 cw:s⁻¹<=a
 ak:s⁻¹<=T
inductive cL(P:bS)(w:bL)(aN:List Env)(H:aP)(s:bb)(E:gh)(e:az)(s':bb):Prop|mk(a C ae T U)(_:e= .ref a)(_:aj' P w aN H s a C ae T U s')(_:E (.ref C) (I ae) U)
def cH:gY (cL P w) X iu:=λ_ _ _ _ _ _ _ h=>by
 let{_,_,_,_,_,_,_,z}:=h
 show z.elim
def dG(H:aP)(a:ao):(aP):=λb=>if b=a then ag else H b
def iF:dG H a a=ag:=aM D
def dF(h:b≠a):dG H a b=H b:=aD h
section
variable{P:bS}{w:bL}{K:bR}{mg:Str->Option az}{base:bG}{N:List Str}{qual:Str}{scope:jq}{f:ao}{ch:az}{A:db}{aN:List Env}{s:bb}{H:aP}{E:gh}
def U3{σ:St}(J:aC (gR (cL P w) P w K mg base N qual scope f ch A aN s H E) pins σ an aj)(e:an a=I (fo a C<|I ae))(cw:s⁻¹<=a)
  (x:E (.ref C) (I ae) (dG an a)):(gR (cL P w) P w K mg base N qual scope f ch A aN s H E).cT (.ref a) aj:=by
 let{t,(y)}:=wC J.a0 e
 have G:=J.ok.frames;have O:=J.stack;show T9 (L:=s⁻¹) G O D y D D λh' T F le g=>{a,C,ae,T,dG an a,D,?_,x};have M:=J.tR;have c0:ev (fI qual scope s⁻¹ f ch::aN)=s⁻¹::ev aN:=N4 D;have b':=J.base;have R:∀{b:ao} {o:Obj},s.heap.get? b=I o->b≠s⁻¹:=λq=>du<|cm q;have i:∀{b:ao} {o:Obj},s.heap.get? b=I o->b∉[a]:=λq z=>by rw[cy.mp z]at q;show absurd (dW (cm q) cw)<|kB _
 show{J.os,J.dV,{λb o q n d _=>?_,λb o q n d _=>?_,λb o q n _=>?_,λb o q _=>?_,λb xs q=>?_,λb o u q=>?_,λb ps q=>?_},λb u z=>?_,F,iF,?_,cw,b5 J.iE le}
 .show g.keep b o ?_ (i q) (b'.keep b o q n d<|by intro z;cases z);grind
 .let{sl,(j)}:=b'.slot b o q n d (by intro z;cases z)
  have B:b∈ev (fI qual scope s⁻¹ f ch::aN):=by rw[c0];show eJ _ d
  let{Q,(l)}:=g.slot b _ B (i q) j
  show{Q,(l)}
 .have:=b'.free b o q n (by intro z;cases z);rw[dF λz=>i q<|by rw[z];show cy.mpr D];show this
 .let{k,(j)}:=b'.there b o q (by intro z;cases z)
  by_cases d:b∈ev (fI qual scope s⁻¹ f ch::aN)
  .let{sl,(l)}:=g.slot b k d (i q) j
   show{_,l}
  .show{k,g.keep b k d (i q) j}
 .have:=b'.gL b xs q;rw[dF λz=>by rw[z,e]at this;cases this];show this
 .have:=b'.hw b o u q;rw[dF λz=>by rw[z,e]at this;cases this];show this
 .let{more,(this)}:=b'.ia b ps q
  show{more,by rw[dF λz=>by rw[z,e]at this;cases this];show this}
 .by_cases d:b=a
  .rw[d,iF]at z;cases z
  .rw[dF d]at z;have p:∀c v,an c=I v->c∉ev (fI qual scope s⁻¹ f ch::aN):=λc v q m=>by
    rw[M c m]at q;cases q
   show(J.a0 b u z).hq (λc v h q=>?_) (λc q=>?_) λc xs q=>?_
   .obtain rfl|h:=h
    .show g.keep c v (p c _ z) (λm=>d<|cy.mp m) q
    .show g.keep c v (p c _ h) (λm=>by rw[cy.mp m,e]at h;cases h) q
   .rw[dF λr=>by rw[r,e]at q;cases q];show q
   .rw[dF λr=>by rw[r,e]at q;cases q];show q
 .have:an T=ag:=J.a0.fresh le;by_cases d:T=a
  .rw[d];show iF
  .rw[dF d];show this
def aac(B:∀c od U,b7 c od U->E c od U):gY (cL P w) (gR (cL P w) P w K mg base N qual scope f ch A aN s H E) b7:=by
 intro pins σ aw aA e s' J R;let{a,C,ae,T,U,rfl,F,(O)}:=R;have d:=J.Eg (s':=s') (bU:=[]) F.os F.cF F.a0 F.dV λb z=>absurd z ();have L:=d.ok.frames;have Q:=d.stack;show T8 L Q D F.yc λh' y x le h=>{a,C,ae,y,U,D,?_,B _ _ _ O};have M:=d.tR;have c0:ev (fI qual scope s⁻¹ f ch::aN)=s⁻¹::ev aN:=N4 D;have b':=d.base;have t:=J.iE;have V:∀{b:ao} {o:Obj},s.heap.get? b=I o->b≠s⁻¹:=λq=>du<|cm q;have j:∀{b:ao} {o:Obj},s.heap.get? b=I o->b∉[a,T]:=λ{b o} q z=>by
  have lt:=cm q;simp only[bK,h6,h0]at z;obtain rfl|rfl:=z
  .show absurd (dW lt<|b5 t F.cw)<|kB _
  .show absurd (dW lt<|b5 t F.ak)<|kB _
 have k:∀c v,U c=I v->c∉ev (fI qual scope s⁻¹ f ch::aN)/\c∉[a,T]:=λc v q=>by
  show{λm=>(by rw[M c m]at q;cases q),λz=>?_};simp only[bK,h6,h0]at z;obtain z|z:=z
  .rw[z,F.cr]at q;cases q
  .rw[z,F.r']at q;cases q
 show{d.os,d.dV,{λb o q n g _=>?_,λb o q n g _=>?_,λb o q n _=>b'.free b o q n (by intro z;cases z),λb o q _=>?_,b'.gL,b'.hw,b'.ia},λb u z=>?_,x,F.cr,d.a0.fresh le,b5 t F.cw,b5 d.iE le}
 .show h.keep b o ?_ (j q) (b'.keep b o q n g<|by intro z;cases z);grind
 .let{sl,(l)}:=b'.slot b o q n g (by intro z;cases z)
  have G:b∈ev (fI qual scope s⁻¹ f ch::aN):=by rw[c0];show eJ _ g
  let{S,(r)}:=h.slot b _ G (j q) l
  show{S,(r)}
 .let{p,(l)}:=b'.there b o q (by intro z;cases z)
  by_cases g:b∈ev (fI qual scope s⁻¹ f ch::aN)
  .let{sl,(r)}:=h.slot b p g (j q) l
   show{_,r}
  .show{p,h.keep b p g (j q) l}
 .show(d.a0 b u z).hq (λc v i q=>?_) (λ_ q=>q) λ_ _ q=>q;obtain rfl|i:=i
  .show h.keep c v (k c _ z).1 (k c _ z).2 q
  .show h.keep c v (k c _ i).1 (k c _ i).2 q
end
section
variable{M:Model}{A:db}{E:az->bb->Prop}{s:bb}{am:Env}{K:bR}
def G7(g:A.handled=ag)
  (h:aR M A x (λv aj=>∃e C od t,v= .ref e/\K.In aj.heap/\lg K C=aa/\aj.heap.get? e=I {.ref C,od,.fields #[.ref t,.none,.none,.none,.bool ap,.none],#[]}/\E (.ref e) aj) E s):
  aR M A (raiseStmt am (I x) ag) Q E s:=by
 unfold raiseStmt;show av<|fA h (λv aj z=>?_) λ_ _ z=>z;let{e,C,od,t,rfl,X,i,f,(d)}:=z
 let{fO,q,N,b',b,m,w,sub,k,col,l,n,o,p,r,u,a,(j)}:=AG X i
 have c:(cM C::b).contains (.type "BaseException")=aa:=by rw[ni,ur _ j];rfl
 repeat(first
  |with_reducible show o5 f ?_
  |with_reducible show o5 a ?_
  |(with_reducible show zh a ?_;rw[c])
  |wp_step)
 show wpAny_raiseNew_none g d
end
def A3(C:ao)(br:bC)(F:gh)(t:fF):(fq):=λ_ σ H=>t σ H λvs an=>ac vs<=bg/\∀x,an x=ag->
 br (.ref x::vs) (al an x<|fo x C ag) (λv aw=>v= .bT/\∃a ae,ab.ref x=ab.ref a/\aw a=I (fo a C<|I ae)/\F (.ref C) (I ae) (dG aw a)) iu
section
variable{P:bS}{w:bL}{K:bR}{mg:Str->Option az}{base:bG}{N:List Str}{qual:Str}{scope:jq}{g:ao}{ch:az}{A:db}{aN:List Env}{s:bb}{H:aP}{F:gh}
variable{k:Nat}{f C:ao}{bk:eS}{ps:List Str}{br:bC}{x:Str}{p pos gg:Pos}{e:Expr}{es:List Expr}{t:fF}
def KO{σ:St}(M:vl K C f)
  (G:c6 P w K mg base (cL P w) k f bk ps br) (n:c2 (k+1) (A.deeper<|fI qual scope s⁻¹ g ch)) (m:f9 K bk ps [])
  (J:aC (gR (cL P w) P w K mg base N qual scope g ch A aN s H F) pins σ an aj) (r:bF vs ay) (hz:ac vs<=bg)
  (h:∀x,an x=ag->br (.ref x::vs) (al an x<|fo x C ag) (λv aw=>v= .bT/\∃a ae,ab.ref x=ab.ref a/\aw a=I (fo a C<|I ae)/\F (.ref C) (I ae) (dG aw a)) iu):
  aR (aU P w) (A.deeper<|fI qual scope s⁻¹ g ch) (call (.ref C) ay)
   (λv aA=>∃e d od t,v= .ref e/\K.In aA.heap/\lg K d=aa/\aA.heap.get? e=I {.ref d,od,.fields #[.ref t,.none,.none,.none,.bool ap,.none],#[]}/\
    (gR (cL P w) P w K mg base N qual scope g ch A aN s H F).cT (.ref e) aA) (gR (cL P w) P w K mg base N qual scope g ch A aN s H F).cT aj:=by
 have key:=YS (Q:=λv aw=>∃a ae,v= .ref a/\aw a=I (fo a C<|I ae)/\F (.ref C) (I ae) (dG aw a))
    M G n m .nil cH J r hz (λx o=>by rw[gI];show h x o)
 show fA key (λv aA z=>?_) λ_ _ z=>z;let{c,q,aw,b,p,a,ae,rfl,i,(j)}:=z;obtain rfl:v=cM a:=p
 let{t,(l)}:=wC b.a0 i
 have cw:s⁻¹<=a:=by
  injection c with c
  show c▸b5 J.iE (jZ _)
 show{a,C,I ae,t,D,b.e5,M.xX,l,U3 b i cw j}
def ua(M:vl K C f)(G:c6 P w K mg base (cL P w) k f bk ps br)(b:c2 (k+1) (A.deeper<|fI qual scope s⁻¹ g ch))
  (l:ea (gR (cL P w) P w K mg base N qual scope g ch A aN s H F) x) (m:mg x=I (.ref C)) (d:f9 K bk ps [])
  (c:d2 (gR (cL P w) P w K mg base N qual scope g ch A aN s H F) (e::es) t) (i:(x=="__debug__")=ap<|>zzd)
  (j:(bj (e::es) (fI qual scope s⁻¹ g ch)=(ap,eval e<|fI qual scope s⁻¹ g ch)::bj es (fI qual scope s⁻¹ g ch))<|>zzr)
  (n:((dM gg<|bj es<|fI qual scope s⁻¹ g ch).any (·.1)=ap)<|>zzr):
  hh (gR (cL P w) P w K mg base N qual scope g ch A aN s H F) (.Raise (I<|.Call (.Name x p) (e::es) [] gg) ag pos) (A3 C br F t):=by
 intro pins aj σ an aq J h;show av<|o3<|G7 b.af<|av<|fA (l2<|mE J l m (tc J.ok.f5.oy M.b6 (bp (c gg pins aj σ an _ J h) λay aA {vs,aw,a,r,hz,(q)}=>{a.e5,KO M G b d a r hz q}) j n) i) (λv aA z=>av<|o3<|a7 z) λ_ _ z=>z
def oj(M:vl K C f)(G:c6 P w K mg base (cL P w) k f bk ps br)(a:c2 (k+1) (A.deeper<|fI qual scope s⁻¹ g ch))
  (d:ea (gR (cL P w) P w K mg base N qual scope g ch A aN s H F) x) (e:mg x=I (.ref C)) (b:f9 K bk ps []) (c:(x=="__debug__")=ap<|>zzd):
  hh (gR (cL P w) P w K mg base N qual scope g ch A aN s H F) (.Raise (I<|.Call (.Name x p) [] [] gg) ag pos) (A3 C br F kH):=by
 intro pins aj σ an aq J h
 let{hz,(h)}:=h
 show av<|o3<|G7 a.af<|av<|fA (l2<|mE J d e (zP J.e5 M.b6<|KO M G a b J .nil hz h) c) (λv aA z=>av<|o3<|a7 z) λ_ _ z=>z
end
def lV.abP{K:bR}{st:hG}(F:lV K x qual st f bk)(S:bl N ps (a6 st))
  (len:∀vs H Q E,br vs H Q E->ac vs=ac ps)
  (b:∀a A aN s H vs Q E,c2 k (A.deeper<|fI qual (a6 st) s⁻¹ f a)->br vs H Q E->
   qzB (gR (cL P w) P w K mg base N qual (a6 st) f a A aN s H E) (mM st) {b1:=λ_ U=>Q .bT U,kM:=Q} (start N vs) H):c6 P w K mg base (cL P w) (k+1) f bk ps br:=by
 let{ii,od,da,doc,ht,df,a,e9,g,rfl,lk,(c)}:=F.bE;show ad0 lk c S len λA aN s H vs Q E d e=>b a A aN s H vs Q E d e
abbrev bO.lB(X:bO) a:={X with A:=X.A.mark<|I<|.ref a,hf:=ap,cT:=λ_ _=>False}
abbrev bO.mj(X:bO) gO q:={X with gO:=gO,cT:=q}
section
variable{X:bO}{pins Cf:List (ao×Obj)}{σ:St}{H:aP}{s:bb}
def bO.kq.mj(ok:X.kq) gO q:(X.mj gO q).kq:=
 {ok.f5,ok.kind,ok.nA,ok.blt,ok.above,ok.inj,ok.has,ok.va,ok.af,ok.frames,ok.w2,ok.ye,ok.b',ok.lM,ok.ux,ok.u0,ok.jG,(ok.mK)}
def bO.kq.lB(ok:X.kq) a:(X.lB a).kq:=
 {ok.f5,ok.kind,ok.nA,ok.blt,ok.above,ok.inj,ok.has,ok.va,(λz=>by cases z),ok.frames,ok.w2,ok.ye,ok.b',ok.lM,ok.ux,ok.u0,ok.jG,ok.mK}
def aC.mj(J:aC X pins σ H s) q:aC (X.mj (X.gO++pins) q) [] σ H s:=
 {J.ok.mj _ _,J.os,J.dV,J.base,J.fC,J.cell,J.free,J.hX,λp a=>J.fM p<|‹a›,J.a0,J.len}
def aC.pG(ok:X.kq)(J:aC (X.mj (X.gO++pins) q) Cf σ H s):aC X pins σ H s:=
 {ok,J.os,J.dV,J.base,J.fC,J.cell,J.free,J.hX,λp a=>J.fM p<|la _ a,J.a0,J.len}
def aC.lB(J:aC X pins σ H s) a:aC (X.lB a) pins σ H s:=
 {J.ok.lB a,J.os,J.dV,J.base,J.fC,J.cell,J.free,J.hX,J.fM,J.a0,J.len}
def aC.xD(ok:X.kq)(J:aC (X.lB a) pins σ H s):aC X pins σ H s:=
 {ok,J.os,J.dV,J.base,J.fC,J.cell,J.free,J.hX,J.fM,J.a0,(J.len)}
def so.pG(ok:X.kq)(h:so (X.mj (X.gO++pins) b7) Cf aq f s'):so X pins aq f s':=by
 cases f with
 |next=>let{a,U,J,(q)}:=h;show{a,U,J.pG ok,q}
 |brk=>let{a,U,J,(q)}:=h;show{a,U,J.pG ok,q}
 |cont=>let{a,U,J,(q)}:=h;show{a,U,J.pG ok,q}
 |ret u=>let{v,a,U,J,r,(q)}:=h;show{v,a,U,J.pG ok,r,q}
structure vz(X:bO)(pins:List (ao×Obj))(b:ao):Prop where
 new:X.gM⁻¹<=b
 fC:b≠X.am.locals
 Ec:∀x c,X.am.cells.lookup x=I c->c≠b
 fM:∀p∈X.gO++pins,p.1≠b
def aC.uE(J:aC X pins σ H s){b:ao}(h:s⁻¹<=b):vz X pins b where
 new:=b5 J.iE h
 fC:=λz=>by rw[z]at h;show absurd (dW J.lt h) (kB _)
 Ec:=λx c e z=>by
  let{v,o,a,_}:=J.cell x c e
  rw[z]at a;show absurd (dW (cm a) h) ()
 fM:=λp d z=>by have:=(J.fM p d).1;rw[z]at this;show absurd (dW (cm this) h)<|kB _
def aC.C6(J:aC X pins σ H s)(c0:∀b∈bE,vz X pins b/\H b=ag)(e:qB (ev X.stack) bE s.heap h'):aC X pins σ H {s with heap:=h'}:=by
 have g:∀{b u},H b=I u->b∉bE:=λ{b u} q z=>by grind
 have h:∀{b u},H b=I u->b∉ev X.stack:=λ{b u} q z=>by rw[J.tR b z]at q;cases q
 have any:=λb o a q=>by
  by_cases d:b∈ev X.stack
  .show e.slot b o d a q
  .show{o.slots,e.keep b o d a q}
 show J.step (λb d=>{.inr (c0 b d).1.new,(c0 b d).1.fC,(c0 b d).1.Ec,(c0 b d).1.fM}) (λb o O Y a q n=>?_) (λb o _ _ a q _=>any b o a q) (λb o _ q n=>n)
  (λb o a q=>let{sl,(z)}:=any b o a q;{_,z}) (λ_ _ q=>q) (λ_ _ _ q=>q) (λb ps q=>{#[],by rw[q];simp}) (λm i=>?_) (λb u z=>?_) J.dV
 .show e.keep b o (λz=>?_) a q;obtain z|z:=bK.mp<|J.w1 b z
  .show O z
  .show Y z
 .let{o,es,ep,j,(r)}:=i
  have a:=λz=>(c0 _ z).1.fC D
  let{sl,(q)}:=any _ o a j
  show{_,es,ep,q,r}
 .show(J.a0 b u z).hq (λc v f q=>?_) (λ_ q=>q) λ_ _ q=>q;obtain rfl|f:=f
  .show e.keep c v (h z) (g z) q
  .show e.keep c v (h f) (g f) q
def wL(J:aC X pins σ H s)(C:X.N.Nodup)(au:X.N[i]? =I n)(F:X.am.scope.names.lookup n=I .local)
  (h:∀s',aC X pins (σ.set i ag) H s'->Q fr s'):aR M A (do bindName X.am n .none;unbindBehindTheSuite X.am n pos) Q E s:=by
 let{m,L,(G)}:=id J.fC
 have D:(X.am.scope.kind== .class ||(X.am.scope.kind== .module&&X.am.locals !=X.am.globals))=ap:=by rw[J.ok.kind];rfl
 show wpAny_nameGoes_keeps F L D λh' v O a=>h _<|{J.ok,J.os,J.dV,{λb o e z t l=>?_,λb o e z t l=>?_,J.base.free,λb o e l=>?_,J.base.gL,J.base.hw,J.base.ia},{_,O,λj y T f r B=>?_},λy c e=>?_,J.free,J.hX,λp P=>?_,λb u e=>?_,‹J.len›}
 .show(a.2 b<|du<|dW (cm e) J.ok.above).trans<|J.base.keep b o e z t l
 .let{sl,(f)}:=J.base.slot b o e z t l
  show{sl,(a.2 b<|du<|dW (cm e) J.ok.above).trans f}
 .let{bX,(f)}:=J.base.there b o e l
  show{bX,(a.2 b<|du<|dW (cm e) J.ok.above).trans f}
 .have w:j≠i:=λz=>by
   subst z;by_cases K:j<ac σ
   .rw[Ac K]at r;cases r
   grind
  rw[Ad<|eo w]at r
  let{S,R,(q)}:=G j y T f r B
  show{S,R,?_};obtain⟨k,e⟩|⟨k,c,e,z⟩:=q
  .show .inl {k,?_};have:y≠n:=λe=>w<|xO C f<|e▸au;simp[this,e]
  .show .inr {k,c,e,z.sameBut a<|J.nD y c e}
 .let{x,(z)}:=J.cell y c e
  show{x,z.sameBut a<|J.nD y c e}
 .let{e,n,bI,e4,(d)}:=J.fM p P
  show{(a.2 p.1 bI).trans e,n,bI,e4,d}
 .show(J.a0 b u e).hq (λc x g q=>(a.2 c ?_).trans q) (λ_ q=>q) λ_ _ q=>q;rintro rfl;obtain g|g:=g
  .rw[<-g,J.free]at e;cases e
  .rw[J.free]at g;cases g
end
def T6{K:bR}(X:K.In s.heap)(l:s.heap.get? a=I q)(k:q.cls= .ref C)
  (j:pj K (.ref aq)=I (.type "type")) (c:pb K aq (.type "BaseException")=I aa) (n:pb K C (.ref aq)=I aa) (h:Q aa s):aR M A (excMatches (.ref a)<|.ref aq) Q E s:=by
 let{b,g,d,tk,(os)}:=s
 have f:nT M b (vR<|.ref aq) (.type "type"):=PySem.W.looks_typeIn X j;have o:nT M b (zA (.ref aq)<|.type "tuple") ap:=f.andThen<|akx tc_notTuple;have p:nT M b (FP (.ref aq)<|.type "BaseException") aa:=zv X c;have r:nT M b (FP (.ref C)<|.ref aq) aa:=zv X n;have t:nT M b (vR<|.ref a) (.ref C):=k▸(aky l).andThen .now
 let{ii,odd,ch,sl,(u)}:∃ii odd ch sl,b.get? aq=I {ii,odd,.cls ch,sl}:=by
  let{ch,e,_}:=Option.bind_eq_some_iff.mp c
  unfold clsIn at e;cases m:K.lookup aq with
  |none=>rw[m]at e;cases e
  |some o=>
   rw[m]at e;let{ii,odd,d,(sl)}:=o;cases d with
   |cls i=>show{ii,odd,i,sl,X _ _ m}
   |_=>cases e
 repeat lk
 show h
def m1.cF(aq:m1)(i:Nat):(m1):={b1:=λσ H=>aq.b1 (σ.set i ag) H,kM:=aq.kM,hg:=λσ H=>aq.hg (σ.set i ag) H,e9:=λσ H=>aq.e9 (σ.set i ag) H}
def Vd(K:bR)(n i:Nat)(B:ao)(E:gh)(cj n9:fq):(fq):=λaq σ H=>cj aq σ H/\∀c od U,E c od U->∃C ae,c= .ref C/\od=I ae/\pb K C (.ref B)=I aa/\
 ∀a,U a=ag->n9 (aq.cF i) ((we n ag).set i<|I<|.ref a) (al U a<|oR a C ae)
def K6{bf a8 pos:Pos}
  (ab:X.stack=X.am::X.aN) (a5:X.am.frame=I X.am.locals) (M:X.N.Nodup) (au:X.N[i]? =I n) (t:X.am.scope.names.lookup n=I .local)
  (a6:ea X x) (W:X.mg x=I (.ref B)) (ba:pj X.K (.ref B)=I (.type "type")) (aW:pb X.K B (.type "BaseException")=I aa)
  (d:∀gO ai,gY (cL X.prog X.w) (X.mj gO ai) E->jQ (X.mj gO ai) body cj)
  (a7:∀a,jQ (X.lB a) (b7::dY) n9) (a1:(x=="__debug__")=ap<|>zzd) (bq:X.hf=aa<|>zzr):
  hh X (.Try body [.ExceptHandler (I<|.Name x bf) (I n) (b7::dY) a8] [] [] pos) (Vd X.K ↥X.N i B E cj n9):=by
 intro pins s σ H aq J h
 let{O,(Y)}:=h
 show wpAny_Try_except<|fA (d (X.gO++pins) (λe s'=>∃P U a C ae T,e= .ref a/\aC X pins P U s'/\lW s'.heap a T (.ref C) (I ae) .none/\U a=ag/\U T=ag/\vz X pins a/\vz X pins T/\E (.ref C) (I ae) U)
  ?_ [] s σ H aq (J.mj _) O) (λcv aj z=>?_) λe aj z=>?_
 .intro Cf aG aw aA e s' S l;let{a,C,ae,T,U,rfl,F,(Z)}:=l;have ci:aC X pins aG aw aA:=S.pG J.ok;have aM:=ci.Eg (s':=s') (bU:=[]) F.os F.cF F.a0 F.dV λb z=>absurd z ();show{aG,U,a,C,ae,T,D,aM,F.yc,F.cr,F.r',ci.uE F.cw,ci.uE F.ak,Z}
 .have z:=z.pG J.ok;cases cv with
  |next=>show vN z
  |brk=>show z
  |cont=>show z
  |ret u=>show z
 .let{af,an,a,C,ae,T,rfl,y,F,cr,r',aH,be,(Z)}:=z
  let{bo,bp,aS,aT,a9,(a')}:=Y _ _ _ Z
  cases aS;cases aT;have aV:X.A.frames=I (X.am::X.aN):=by rw[<-ab];show y.ok.frames
  have fun1:aj.heap.FunFrames X.base (X.am::X.aN):=by rw[<-ab];show y.stack
  show G8 (L:=X.am.locals) aV fun1 a5 F λY p aJ aF aQ=>?_;have S:aC X pins af an {aj with heap:=Y}:=y.C6 (bE:=[a,T]) (λb d=>by
   simp only[bK,h6,h0]at d;obtain rfl|rfl:=d
   .show{aH,(cr)}
   .show{be,(r')}) (by rw[ab];show aQ)
  have aD:vz X pins p:=y.uE aF;have ay:an p=ag:=y.a0.fresh aF;show wD (s:={aj with heap:=Y}) aJ λaB ah bc bl=>?_;have mk:∀{Q R:bG},(∀b,b≠p->R.get? b=Q.get? b)->Q.objs.size=R.objs.size->qB (ev X.stack) [p] Q R:=λ{Q R} k z=>
   {λb o _ l q=>(k b λr=>l<|by rw[r];show cy.mpr D).trans q,λb o _ l q=>{o.slots,(k b λr=>l<|by rw[r];show cy.mpr D).trans q},q4 z}
  have as:aC X pins af an {aj with heap:=aB}:=S.C6 (bE:=[p]) (λb d=>by rw[cy.mp d];show{aD,(ay)})<|mk bc bl;have ax:=as.lB a
  let{{bv,vs,bt,bx,a3,aX,bs,br,_},_}:=id ah
  show wpAny_handleBy_cons (codeAny_handlers_test ?_) (by intro q;cases q);show mE (X:=X.lB a) ax a6 W ?_ a1;show T6 ax.e5 a3 aX ba aW a9 ?_;show codeAny_handlers_suite_as ?_;show wD (s:={aj with heap:=aB}) ah λG aK bd bm=>?_;have av:aC X pins af an {aj with heap:=G}:=as.C6 (bE:=[p]) (λb d=>by rw[cy.mp d];show{aD,(ay)})<|mk bd bm
  let{{bi,bn,bu,bA,a4,aY,a2,aZ,_},_}:=id aK
  have V:aC X pins (we ↥X.N ag) an {aj with heap:=G}:=av.Hh (by rw[S1];show av.len.symm) (λj v q=>by rw[S']at q;split at q<;>cases q);have aL:aC X pins (we ↥X.N ag) (al an a<|oR a C ae) {aj with heap:=G}:=by
   show V.step (s:={aj with heap:=G}) (e7:=aj.gens) (fD:=aj.drawn) (t':=aj.toks) (h':=G) (bU:=[a]) (λb d=>by rw[cy.mp d];show{.inr aH.new,aH.fC,aH.Ec,aH.fM}) (λb o _ _ _ q _=>q) (λb o _ _ _ q _=>{o.slots,(q)}) (λb o l q n=>?_)
    (λb o _ q=>{o,(q)}) (λb xs q=>?_) (λb o u q=>?_) (λb ps q=>?_) (λm W=>W) (λb u q=>?_) V.dV
   .rw[aI λz=>l<|by rw[z];show cy.mpr D];show n
   .rw[aI<|b3 q cr];show q
   .rw[aI<|b3 q cr];show q
   .show{#[],by rw[aI<|b3 q cr,q];simp}
   .by_cases d:b=a
    .subst d;rw[ar]at q;cases q;show T0 {bi,bn,a4,aY,a2,(aZ)}
    .rw[aI d]at q;show(V.a0 b u q).hq (λc v _ r=>r) (λc r=>by rw[aI<|b3 r cr];show r) λc xs r=>by rw[aI<|b3 r cr];show r
  have aO:=aL.lB a;show w0 (X:=X.lB a) aO M au (.inl t) (v:=.ref a) D (λbk aP=>?_)<|.inr t;show fA (a7 a pins bk _ _ (aq.cF i) aP<|a' a cr) (λcv bw z=>?_) λ_ _ z=>z.elim;cases cv with
  |next=>
   let{P,U,g,(q)}:=z
   show wL (g.xD J.ok) M au t λad f=>{_,U,f,q}
  |brk=>
   let{P,U,g,(q)}:=z
   show wL (g.xD J.ok) M au t λad f=>{_,U,f,q}
  |cont=>
   let{P,U,g,(q)}:=z
   show wL (g.xD J.ok) M au t λad f=>{_,U,f,q}
  |ret u=>
   let{v,P,U,g,r,(q)}:=z
   show wL (g.xD J.ok) M au t λad f=>{v,_,U,f,r,q}
end L2
namespace L2
open PySem PySem.Spec PyProof.Rows
open PySem.W (Frag)
def aO(H:aP):=∀a kvs,H a≠I (.cD kvs)
inductive iP(H:aP):aP->Prop
 |refl:iP H H
 |ai {an:aP} {p:ao} {ys:List ab}:iP H an->(an p=ag\/∃xs,an p=I (.ai xs))->iP H (al an p<|.ai ys)
 |aZ {an:aP} {p:ao} {ys:List ab}:iP H an->an p=ag->iP H (al an p<|.aZ ys)
 |bJ {an:aP} {p:ao} {ys:List (d'×ab)}:iP H an->(an p=ag\/∃xs,an p=I (.bJ xs))->iP H (al an p<|.bJ ys)
 |ext {an:aP} {p:ao} {G1:bG->Prop}:iP H an->(an p=ag\/∃f,an p=I (.ext f))->iP H (al an p<|.ext G1)
 |jH {an:aP} {p C ae:ao} {aF bY:List (Str×ab)}:iP H an->an p=I (.aS C ae aF)->iP H (al an p<|.aS C ae bY)
 |obj {an:aP} {x C ae:ao} {aF:List (Str×ab)}:iP H an->an x=ag->an ae=ag->ae≠x->iP H (al (al an ae<|.bo x) x<|.aS C ae aF)
structure vC(H an:aP):Prop where
 gL:∀b xs,H b=I (.aZ xs)->an b=I (.aZ xs)
 hw:∀b o u,H b=I (.cg o u)->an b=I (.cg o u)
 N3:∀b o u,an b=I (.cg o u)->H b=I (.cg o u)
 ia:∀b ps,H b=I (.j9 ps)->an b=I (.j9 ps)
 Cv:∀b x,H b=I (.bo x)->an b=I (.bo x)
 bo:∀a C ae aF,an a=I (.aS C ae aF)->(∃bY,H a=I (.aS C ae bY))\/an ae=I (.bo a)
 xR:aO H->aO an
def fZ(h:al H p o b=I bX):(b=p/\o=bX)\/(b≠p/\H b=I bX):=by
 by_cases e:b=p
 .subst e;rw[ar]at h;show .inl {D,d3 h}
 .rw[aI e]at h;show .inr {e,(h)}
def vC.al(g:vC H an)(j:∀bX,an p=I bX->(∀xs,bX≠ .aZ xs)/\(∀q u,bX≠ .cg q u)/\(∀ps,bX≠ .j9 ps)/\(∀x,bX≠ .bo x))
  (O:∀q u,o≠ .cg q u) (Y:∀kvs,o≠ .cD kvs) (c:∀C ae aF,o= .aS C ae aF->(∃bY,an p=I (.aS C ae bY))\/(an ae=I (.bo p)/\ae≠p)):vC H (al an p o):=by
 have keep:∀b bX,an b=I bX->((∃xs,bX= .aZ xs)\/(∃q,∃u,bX= .cg q u)\/(∃ps,bX= .j9 ps)\/(∃x,bX= .bo x))->L2.al an p o b=I bX:=by
  intro b bX d i;have:b≠p:=by intro e;grind
  rw[aI this];show d
 show{λb xs h=>keep b _ (g.gL b xs h)<|.inl {_,D},λb bX u h=>keep b _ (g.hw b bX u h)<|.inr<|.inl {_,_,D},λb bX u h=>?_,λb ps h=>keep b _ (g.ia b ps h)<|.inr<|.inr<|.inl {_,D},λb x h=>keep b _ (g.Cv b x h)<|.inr<|.inr<|.inr {_,D},λa C ae aF h=>?_,λn a kvs h=>?_}
 .obtain⟨_,e⟩|⟨_,e⟩:=fZ h
  .show absurd e<|O _ _
  .show g.N3 _ _ _ e
 .obtain⟨rfl,e⟩|⟨bI,e⟩:=fZ h
  .obtain⟨bY,h⟩|⟨h,f⟩:=c C ae aF e
   .obtain h|h:=g.bo _ C ae bY h
    .show .inl h
    grind
   .show .inr (by rw[aI f];show h)
  .obtain h|h:=g.bo _ C ae aF e
   .show .inl h
   .show .inr<|keep _ _ h<|.inr<|.inr<|.inr {_,D}
 .obtain⟨_,e⟩|⟨_,e⟩:=fZ h
  .show Y _ e
  .show g.xR n _ _ e
def iP.x'(g:iP H an):vC H an:=by
 induction g with
 |refl=>show{λ_ _ h=>h,λ_ _ _ h=>h,λ_ _ _ h=>h,λ_ _ h=>h,λ_ _ h=>h,λ_ _ _ aF h=>.inl {aF,(h)},λn=>n}
 |ai _ b a=>show a.al (λbX e=>?_) (λ_ _ z=>nomatch z) (λ_ z=>nomatch z) λ_ _ _ z=>nomatch z;obtain h|⟨xs,h⟩:=b<;>rw[h]at e<;>cases e;show{(λ_ z=>nomatch z),(λ_ _ z=>nomatch z),(λ_ z=>nomatch z),(λ_ z=>nomatch z)}
 |aZ _ b a=>show a.al (λbX e=>?_) (λ_ _ z=>nomatch z) (λ_ z=>nomatch z) λ_ _ _ z=>nomatch z;rw[b]at e;cases e
 |bJ _ b a=>show a.al (λbX e=>?_) (λ_ _ z=>nomatch z) (λ_ z=>nomatch z) λ_ _ _ z=>nomatch z;obtain h|⟨xs,h⟩:=b<;>rw[h]at e<;>cases e;show{(λ_ z=>nomatch z),(λ_ _ z=>nomatch z),(λ_ z=>nomatch z),(λ_ z=>nomatch z)}
 |ext _ b a=>show a.al (λbX e=>?_) (λ_ _ z=>nomatch z) (λ_ z=>nomatch z) λ_ _ _ z=>nomatch z;obtain h|⟨xs,h⟩:=b<;>rw[h]at e<;>cases e;show{(λ_ z=>nomatch z),(λ_ _ z=>nomatch z),(λ_ z=>nomatch z),(λ_ z=>nomatch z)}
 |jH _ b a=>
  show a.al (λbX e=>?_) (λ_ _ z=>nomatch z) (λ_ z=>nomatch z) λC ae aF z=>?_
  .rw[b]at e;cases e;simp
  .cases z;show .inl {_,b}
 | @obj an x C ae aF _ c af bI a=>
  have dP:vC H (L2.al an ae<|.bo x):=a.al (λbX e=>by rw[af]at e;cases e) (λ_ _ z=>nomatch z) (λ_ z=>nomatch z) λ_ _ _ z=>nomatch z;show dP.al (λbX e=>?_) (λ_ _ z=>nomatch z) (λ_ z=>nomatch z) λd f qf z=>?_
  .rw[aI bI.symm,c]at e;cases e
  .cases z;show .inr {ar,(bI)}
def em.he(bo:∀b,H b=I (.bo a)->aw b=I (.bo a))(gL:∀b xs,H b=I (.aZ xs)->aw b=I (.aZ xs))
  (c:∀o,h.get? a=I o->h'.get? a=I o):∀{u:fR},em P w H h a u->em P w U h' a u->em P w aw h' a u
 |.ai _,_,n=>n
 |.aZ _,_,n=>n
 |.bJ _,_,n=>n
 |.set _ _,_,n=>n
 |.bo _,_,n=>n
 |.tG _,_,n=>n
 |.uz _ _,_,n=>n
 |.t2 _ _,_,n=>n
 |.j9 _,_,n=>n
 |.ext _,_,n=>n
 |.aS _ _ _,x,n=>{bo _ x.1,n.2}
 |.cD _,x,n=>by
  let{z,y,xs,eq,o,es,ep,b7,(dY)}:=x
  show{z,y,xs,Paired.xW eq λ_ _ q=>{q.1,gL _ _ q.2.1,q.2.2},o,es,ep,c _ b7,dY}
 |.cg _ u,x,n=>{n.1,em.he bo gL c x.2 n.2}
inductive lX(H U:aP):aP->Prop
 |he {aw:aP}:iP H aw->a4 aw U->aO H->lX H U aw
 |all:lX H U U
def lX.sub(f:lX H U aw):a4 aw U:=by
 cases f with
 |he _ s _=>show s
 |all=>show a4.refl _
def yb(f:lX H U aw)(ok:dq P w H h)(cF:fy aF bE H U h h')(c:dq P w U h'):fy aF bE H aw h h'/\dq P w aw h':=by
 cases f with
 |all=>show{cF,(c)}
 |he r5 sub xR=>
 have g:=r5.x';show{{cF.keep,cF.slot,λb o e n x=>?_,cF.there,g.gL,g.hw,λb ps e=>{#[],g.ia b ps e}},λa o e=>?_}
 .cases q:aw b with
  |none=>rfl
  |some bX=>have:=sub _ _ q;rw[cF.free b o e n x]at this;cases this
 .have n:=c a o<|sub _ _ e;cases o with
  |ai _=>show n
  |aZ _=>show n
  |bJ _=>show n
  |set _ _=>show n
  |bo _=>show n
  |tG _=>show n
  |uz _ _=>show n
  |t2 _ _=>show n
  |j9 _=>show n
  |ext _=>show n
  |cD kvs=>show absurd e<|g.xR xR a kvs
  |aS C ae bY=>
   obtain⟨d,q⟩|q:=g.bo a C ae bY e
   .show{g.Cv _ _ (ok a _ q).1,n.2}
   .show{q,(n.2)}
  |cg o u=>have old:=ok a _<|g.N3 _ _ _ e;show em.he (λb q=>g.Cv _ _ q) g.gL (λbX q=>by rw[old.1]at q;cases q;show n.1) old n
inductive nH(H:aP)(Q:dR)(v:ab)(U:aP):Prop|mk(aw)(_:lX H U aw)(_:Q v aw)
inductive k7(H:aP)(E:gh)(c:az)(od:Option ao)(U:aP):Prop|mk(aw)(_:lX H U aw)(_:E c od aw)
def c6.yb{K:bR}(len:∀vs H Q E,br vs H Q E->ac vs=ac ps)
  (F:c6 P w K mg base (cL P w) k f bk ps (λvs H j i=>∃Q E,br vs H Q E/\j=nH H Q/\i=k7 H E)):c6 P w K mg base (cL P w) k f bk ps br:=by
 show{len,λA aN s H args ay vs Q E m c l t p=>jU (F.run A aN s H args ay vs _ _ m c l t {Q,E,p,D,(rfl)}) ?_};intro r s' h;cases r with
 |error e=>
  let{a,C,ae,T,U,rfl,cv,aw,uZ,(q)}:=h
  let{g,(d)}:=L2.yb uZ c.a0 cv.cF cv.a0
  have ly:∀b,U b=ag->aw b=ag:=λb n=>by
   cases z:aw b with
   |none=>rfl
   |some o=>rw[uZ.sub _ _ z]at n;cases n
  show{a,C,ae,T,aw,D,{cv.os,cv.dV,g,d,cv.yc,ly _ cv.cr,ly _ cv.r',cv.cw,cv.ak},q}
 |ok fin=>
  cases fin with
  |ret u=>
   let{v,U,os,dV,cF,a0,r,aw,uZ,(q)}:=h
   let{g,(d)}:=L2.yb uZ c.a0 cF a0
   show{v,aw,os,dV,g,d,r,(q)}
  |next=>show h
  |brk=>show h
  |cont=>show h
def lV.Me{K:bR}{st:hG}(F:lV K x qual st f bk)(S:bl N ps (a6 st))
  (len:∀vs H Q E,br vs H Q E->ac vs=ac ps)
  (d:∀a A aN s H vs Q E,c2 k (A.deeper<|fI qual (a6 st) s⁻¹ f a)->br vs H Q E->
   qzB (gR (cL P w) P w K mg base N qual (a6 st) f a A aN s H<|k7 H E) (mM st) {b1:=λ_ U=>nH H Q .bT U,kM:=nH H Q} (start N vs) H):
  c6 P w K mg base (cL P w) (k+1) f bk ps br:=by
 show c6.yb len<|lV.abP F S (λvs H Q E h=>?_) λa A aN s H vs c b e h=>?_
 .let{_,_,h,_}:=h;show len _ _ _ _ h
 .let{Q,E,h,rfl,(rfl)}:=h;simp_all
def lV.bx{P:bS}{w:bL}{K:bR}{mg:Str->Option az}{base:bG}{x qual:Str}{st:hG}{f:ao}{bk:eS}{N ps:List Str}{k:Nat}{br:bC}(F:lV K x qual st f bk)(S:bl N ps (a6 st))
  (b:∀(a:az) (A:db) (aN:List Env) (s:bb) (H:aP) (vs:List ab) (Q:dR) (E:gh),c2 k (A.deeper<|fI qual (a6 st) s⁻¹ f a)->br vs H Q E->
   qzB (gR (cL P w) P w K mg base N qual (a6 st) f a A aN s H<|k7 H E) (mM st) {b1:=λ_ U=>nH H Q .bT U,kM:=nH H Q} (start N vs) H)
  (len:∀vs H Q E,br vs H Q E->ac vs=ac ps:=by intro _ _ _ _ h;cases h;subst_vars;rfl):
  c6 P w K mg base (cL P w) (k+1) f bk ps br:=F.Me S len b
def a4.new(s:a4 H an)(h:an p=ag):a4 H (al an p o):=λb bX e=>by have:=s b bX e;show aI (b3 this h)▸this
def a4.put(s:a4 H an)(h:an p=I o):a4 (al H p o) an:=λb bX e=>by
 obtain⟨rfl,rfl⟩|⟨_,e⟩:=fZ e
 .show h
 .show s _ _ e
def a4.both(s:a4 H an):a4 (al H p o) (al an p o):=λb bX e=>by
 obtain⟨rfl,rfl⟩|⟨n,e⟩:=fZ e
 .show ar
 .show aI n▸s _ _ e
def bd(c:H p=ag)(b:H a=I o):al H p x a=I o:=aI (b3 b c)▸b
def er(h:al H p o q=ag):q≠p/\H q=ag:=by
 by_cases e:q=p
 .subst e;rw[ar]at h;cases h
 .rw[aI e]at h;show{e,(h)}
def a4.none(s:a4 H U)(h:U p=ag):H p=ag:=s.free h
def b8(n:aO H)(s:a4 H U):lX H U H:=.he .refl s n
def fe(n:aO H)(s:a4 H U)(a:H p=ag)(e:U p=I (.ai ys)):lX H U (al H p<|.ai ys):=.he (.ai .refl<|.inl a) (s.put e) n
def aec(n:aO H)(s:a4 H U)(a:H p=ag)(e:U p=I (.aZ ys)):lX H U (al H p<|.aZ ys):=.he (.aZ .refl a) (s.put e) n
def DQ(n:aO H)(s:a4 H U)(a:H p=ag)(e:U p=I (.bJ ys)):lX H U (al H p<|.bJ ys):=.he (.bJ .refl<|.inl a) (s.put e) n
def aO.ai(n:aO H):aO (al H p<|.ai ys):=λa kvs e=>by
 obtain⟨_,e⟩|⟨_,e⟩:=fZ e
 .cases e
 .show n _ _ e
def aO.aZ(n:aO H):aO (al H p<|.aZ ys):=λa kvs e=>by
 obtain⟨_,e⟩|⟨_,e⟩:=fZ e
 .cases e
 .show n _ _ e
def aO.bJ(n:aO H):aO (al H p<|.bJ ys):=λa kvs e=>by
 obtain⟨_,e⟩|⟨_,e⟩:=fZ e
 .cases e
 .show n _ _ e
def aO.ext(n:aO H):aO (al H p<|.ext q):=λa kvs e=>by
 obtain⟨_,e⟩|⟨_,e⟩:=fZ e
 .cases e
 .show n _ _ e
def aO.aS(n:aO H):aO (al H p<|.aS C ae aF):=λa kvs e=>by
 obtain⟨_,e⟩|⟨_,e⟩:=fZ e
 .cases e
 .show n _ _ e
def aO.bo(n:aO H):aO (al H p<|.bo x):=λa kvs e=>by
 obtain⟨_,e⟩|⟨_,e⟩:=fZ e
 .cases e
 .show n _ _ e
def aO.cg(n:aO H):aO (al H p<|.cg o u):=λa kvs e=>by
 obtain⟨_,e⟩|⟨_,e⟩:=fZ e
 .cases e
 .show n _ _ e
structure FnAt(K:bR)(x qual:Str)(st:hG)(ps:List Str)(f:ao)(bk:eS):Prop where
 a8:lV K x qual st f bk
 b:f9 K bk ps []
structure b2(K:bR)(mg:Str->Option az)(x:Str)(st:hG)(ps:List Str)(f:ao)(bk:eS):Prop extends FnAt K x x st ps f bk where
 e6:mg x=I (.ref f)
structure hD(K:bR)(C:ao)(m qual:Str)(st:hG)(ps:List Str)(f:ao)(bk:eS):Prop extends FnAt K m qual st ps f bk where
 mt:yY K C m f
structure iQ(K:bR)(mg:Str->Option az)(x:Str)(C iL:ao):Prop where
 cl:oZ K C
 e6:mg x=I (.ref C)
 iK:yX K C iL
structure mW(K:bR)(mg:Str->Option az)(x:Str)(C iL:ao):Prop where
 cl:jM K C
 e6:mg x=I (.ref C)
 iK:vl K C iL
def eP(mg:Str->Option az) x v:=∃u,mg x=I u/\cb v u
section
variable{X:bO}{k j:Nat}{f C iL:ao}{bk:eS}{ps:List Str}{br:bC}{E:gh}{x m qual:Str}{st:hG}{p pos apos:Pos}{e o:Expr}{es:List Expr}{bc:bD}{t:fF}
def aK{t:bD}(h:aX X e t)(a:bj [e] X.am=(ap,eval e X.am)::bj [] X.am<|>zzr):d2 X [e] (pR t kH):=hT h gv a
def cW{t:bD}(h:aX X e t)(Y:aX X q b7)(a:bj [e,q] X.am=(ap,eval e X.am)::bj [q] X.am<|>zzr)(b:bj [q] X.am=(ap,eval q X.am)::bj [] X.am<|>zzr):d2 X [e,q] (pR t<|pR b7 kH):=hT h (aK Y b) a
def ih{t:bD}(h:aX X e t)(Y:aX X b7 dY)(a:aX X q eq)(b:bj [e,b7,q] X.am=(ap,eval e X.am)::bj [b7,q] X.am<|>zzr)(c:bj [b7,q] X.am=(ap,eval b7 X.am)::bj [q] X.am<|>zzr)(d:bj [q] X.am=(ap,eval q X.am)::bj [] X.am<|>zzr):d2 X [e,b7,q] (pR t<|pR dY<|pR eq kH):=hT h (cW Y a c d) b
def co i{pos':Pos}(b:aX X e bW)(a:X.N.Nodup:=by dsimp only[L2.gR];decide+kernel)(au:X.N[i]? =I x<|>zzr)(f:sv X.am.scope x:=by show ce D)(d:(nM e (I<|.Name x pos') pos.line X.am=pure ap)<|>zzr)(c:X.a8 x=aa\/X.am.scope.names.lookup x=I .local <|>zzf):
  hh X (.Assign [.Name x pos'] e pos) (A5 bW<|ya i):=xp a au f b d c
def fd(h:eP X.mg x v)(a:ea X x<|>zzr)(af:(x=="__debug__")=ap<|>zzd):aX X (.Name x pos) (oa v):=by
 let{u,h,(r)}:=h
 show ZT a h r af
def bQ(n:b2 X.K X.mg x st ps f bk)(G:c6 X.prog X.w X.K X.mg X.base (cL X.prog X.w) k f bk ps br)(l:c2 j X.A)(a:d2 X (e::es) t)(h:k<=j<|>zzd)(g:ea X x<|>zzr)
  (c:(x=="__debug__")=ap<|>zzd) (d:bj (e::es) X.am=(ap,eval e X.am)::bj es X.am<|>zzr) (i:((dM pos<|bj es X.am).any (·.1)=ap)<|>zzr):
  aX X (.Call (.Name x p) (e::es) [] pos) (ro br [] iu t):=Lo G (l.mono h) g n.e6 n.a8.b6 n.b .nil cH a c d i
def ail(n:b2 X.K X.mg x st ps f bk)(G:c6 X.prog X.w X.K X.mg X.base (cL X.prog X.w) k f bk ps br)(e:c2 j X.A)(d:k<=j<|>zzd)(c:ea X x<|>zzr)
  (a:(x=="__debug__")=ap<|>zzd):aX X (.Call (.Name x p) [] [] pos) (ro br [] iu kH):=Z1 G (e.mono d) c n.e6 n.a8.b6 n.b .nil cH a
def d0(n:b2 X.K X.mg x st ps f bk)(G:c6 X.prog X.w X.K X.mg X.base (cL X.prog X.w) k f bk ps br)(l:c2 j X.A)(m:gY (cL X.prog X.w) X E)(a:d2 X (e::es) t)(h:k<=j<|>zzd)(g:ea X x<|>zzr)
  (c:(x=="__debug__")=ap<|>zzd) (d:bj (e::es) X.am=(ap,eval e X.am)::bj es X.am<|>zzr) (i:((dM pos<|bj es X.am).any (·.1)=ap)<|>zzr):
  aX X (.Call (.Name x p) (e::es) [] pos) (ro br [] E t):=Lo G (l.mono h) g n.e6 n.a8.b6 n.b .nil m a c d i
def gS{r:Sem Bool}(c:iQ X.K X.mg x C iL)(n:hD X.K C m qual st ps f bk)(G:c6 X.prog X.w X.K X.mg X.base (cL X.prog X.w) k f bk ps br)(i:c2 j X.A)(q:gY (cL X.prog X.w) X E)(g:aX X o bc)(a:d2 X (e::es) t)(d:k<=j<|>zzd)
  (l:bj (e::es) X.am=(ap,eval e X.am)::bj es X.am<|>zzr) (h:((dM pos<|bj es X.am).any (·.1)=ap)<|>zzr)
  (p:(eval (.Call (.Attribute o m apos) (e::es) [] pos) X.am=(do
   let dn<-eval o X.am
   sO apos.atName
   let(f,first)<-qR [dn] (getMethod dn m r)
   callWith pos f first (dM pos<|bj (e::es) X.am) (m9 pos<|m4 [] X.am)))<|>zzr):
  aX X (.Call (.Attribute o m apos) (e::es) [] pos) (wU C m br [] E bc t):=ZO g c.cl n.mt G (i.mono d) n.b .nil q a l h p
def fV{i:Sem Bool}(c:iQ X.K X.mg x C iL)(n:hD X.K C m qual st ps f bk)(G:c6 X.prog X.w X.K X.mg X.base (cL X.prog X.w) k f bk ps br)(e:c2 j X.A)(h:gY (cL X.prog X.w) X E)(d:aX X o bc)(a:k<=j<|>zzd)
  (g:(eval (.Call (.Attribute o m apos) [] [] pos) X.am=(do
   let dn<-eval o X.am
   sO apos.atName
   let(f,first)<-qR [dn] (getMethod dn m i)
   callWith pos f first (dM pos<|bj [] X.am) (m9 pos<|m4 [] X.am)))<|>zzr):
  aX X (.Call (.Attribute o m apos) [] [] pos) (wU C m br [] E bc kH):=ZN d c.cl n.mt G (e.mono a) n.b .nil h g
def mQ(c:iQ X.K X.mg x C iL)(n:FnAt X.K m qual st ps iL bk)(G:c6 X.prog X.w X.K X.mg X.base (cL X.prog X.w) k iL bk ps br)(l:c2 j X.A)(o:gY (cL X.prog X.w) X E)(a:d2 X (e::es) t)(h:k+1<=j<|>zzd)(g:ea X x<|>zzr)
  (d:(x=="__debug__")=ap<|>zzd) (f:bj (e::es) X.am=(ap,eval e X.am)::bj es X.am<|>zzr) (i:((dM pos<|bj es X.am).any (·.1)=ap)<|>zzr):
  aX X (.Call (.Name x p) (e::es) [] pos) (wV C br [] E t):=ZQ c.iK G (l.mono h) g c.e6 n.b .nil o a d f i
def aii(c:iQ X.K X.mg x C iL)(n:FnAt X.K m qual st ps iL bk)(G:c6 X.prog X.w X.K X.mg X.base (cL X.prog X.w) k iL bk ps br)(f:c2 j X.A)(g:gY (cL X.prog X.w) X E)(e:k+1<=j<|>zzd)(d:ea X x<|>zzr)
  (a:(x=="__debug__")=ap<|>zzd):aX X (.Call (.Name x p) [] [] pos) (wV C br [] E kH):=ZP c.iK G (f.mono e) d c.e6 n.b .nil g a
inductive qxN(C:ao)(f:Str)(x:ab)(H:aP)(Q:dR):Prop|mk(a d:ao)(l:List (Str×ab))(v:ab)(e:x= .ref a)(h:H a=I (.aS C d l))(i:l.lookup f=I v)(k:Q v H)
def np(C:ao)(bc:bD)(f:Str):(bD):=λσ H Q=>bc σ H λx an=>qxN C f x an Q
def a2{f:Str}(c:iQ X.K X.mg x C iL)(n:cK X.K C f)(i:aX X o bc)(g:iw o f X.am (eval o X.am)=eval o X.am<|>zzr):aX X (.Attribute o f pos) (np C bc f):=by intro pins s σ H Q J h;show PH g<|bp (i pins s σ H _ J h) λu aj {x,an,d,j,a,ae,aF,v,bE,e,l,(q)}=>?_;subst bE;obtain rfl:u=cM a:=j;show NY d e c.cl n l λu s' b r=>{v,an,b,r,(q)}
inductive qxQ(C:ao)(f:Str)(y x:ab)(H:aP)(Q:aP->Prop):Prop|mk(a d:ao)(l:List (Str×ab))(e:x= .ref a)(h:H a=I (.aS C d l))(i:ac l<1000)(k:Q (al H a<|.aS C d<|cs f y l))
def YQ(C:ao)(bc gr:bD)(f:Str):(fq):=λaq σ H=>gr σ H λy an=>bc σ an λx aw=>qxQ C f y x aw (aq.b1 σ)
def eT{f:Str}(c:iQ X.K X.mg x C iL)(n:cK X.K C f)(i:aX X o bc)(k:aX X value gr)(j:(nM value (I<|.Attribute o f pos') pos.line X.am=pure ap)<|>zzr):
  hh X (.Assign [.Attribute o f pos'] value pos) (YQ C bc gr f):=by
 intro pins s σ H aq J h;show Ry (bp (k pins s σ H _ J h) λu aj {y,an,b,r,(q)}=>bp (i pins aj σ an _ b q) λdn aA {x,aw,d,p,a,ae,aF,bE,g,l,(m)}=>?_) j;subst bE;obtain rfl:dn=cM a:=p;show Iz d g c.cl n l r λt e=>{σ,_,e,m}
inductive qyYP(C:ao)(gr:bD)(bM:ab->ab->aP->dR->Prop)(f:Str)(aq:m1)(σ:St)(x:ab)(an:aP):Prop|mk(a ae aF v)(_:x= .ref a)(_:an a=I (.aS C ae aF))(_:aF.lookup f=I v)(_: gr σ an λy aw=>bM v y aw λz b=>∃c qf,b a=I (.aS C c qf)/\ac qf<1000/\aq.b1 σ (al b a<|.aS C c<|cs f z qf))
def YP(C:ao)(bc gr:bD)(bM:ab->ab->aP->dR->Prop)(f:Str):(fq):=λaq σ H=>bc σ H λx an=>qyYP C gr bM f aq σ x an
def ES{f:Str}(c:iQ X.K X.mg x C iL)(n:cK X.K C f)(m:aX X o bc)(r:aX X value gr)(p:QM X op bM):
  hh X (.AugAssign (.Attribute o f lm) op value pos) (YP C bc gr bM f):=by
 intro pins s σ H aq J h;show wpAny_AugAssign_AttributeAny<|bp (m pins s σ H _ J h) λdn aj {x,an,b,D,a,ae,aF,v,bE,j,l,(q)}=>?_;subst bE;obtain rfl:dn=cM a:=D;show NY b j c.cl n l λu aA d B=>bp (r pins aA σ an _ d q) λL G {y,aw,e,E,(w)}=>bp (p pins G σ aw v y u L _ e B E w) λQ O {z,M,g,F,N,qf,k,t,(A)}=>Iz g k c.cl n t F λP i=>{σ,_,i,A}
end
def eu{f:Str}{v:ab}:iA f ((f,v)::r)=I v:=by simp[iA]
def qa{g:Str}{v:ab}(h:(f==g)=ap)(q:iA f r=o):iA f ((g,v)::r)=o:=by
 rw[iA,h];show q
def hV:iA f ([]:List (Str×ab))=ag:=D
def Ck:cs f v ((f,x)::r)=(f,v)::r:=by unfold cs;simp
def ZI(h:(g==f)=ap)(q:cs f v r=b7):cs f v ((g,x)::r)=(g,x)::b7:=by
 rw[cs,aD λe=>by subst e;simp at h,q]
def e1:cs f v []=[(f,v)]:=D
def dB{K:bR}:
  gY (cL P w) (gR (cL P w) P w K mg base N qual scope f ch A aN s H E) E:=aac λ_ _ _ h=>h
def uQ(a:c2 k A):A.units+64<eW:=by have:=a.cF;omega
def aiE:h3 "len"=I (.builtin "len"):=⋯
def aiG:h3 "all"=I (.builtin "all"):=⋯
def aiD:h3 "max"=I (.builtin "max"):=⋯
def aiC:h3 "ord"=I (.builtin "ord"):=⋯
def aiA:h3 "sorted"=I (.builtin "sorted"):=⋯
def aiz:h3 "str"=I (.type "str"):=⋯
def aiF:h3 "int"=I (.type "int"):=⋯
def Pw:h3 "list"=I (.type "list"):=⋯
def aiy:h3 "tuple"=I (.type "tuple"):=⋯
def aiB:h3 "set"=I (.type "set"):=⋯
section
variable{X:bO}{x:Str}{p pos:Pos}{e:Expr}{es:List Expr}{t:fF}{r:List ab->aP->dR->Prop}
def bB(f:X.mg "len"=ag)(b:fz X (.builtin "len") r)(a:d2 X (e::es) t)(d:ea X "len"<|>zzr)(c:bj (e::es) X.am=(ap,eval e X.am)::bj es X.am<|>zzr)(g:((dM pos<|bj es X.am).any (·.1)=ap)<|>zzr):aX X (.Call (.Name "len" p) (e::es) [] pos) (kI r t):=ul b d f aiE a ⋯ ⋯ c g
def ir(f:X.mg "all"=ag)(b:fz X (.builtin "all") r)(a:d2 X (e::es) t)(d:ea X "all"<|>zzr)(c:bj (e::es) X.am=(ap,eval e X.am)::bj es X.am<|>zzr)(g:((dM pos<|bj es X.am).any (·.1)=ap)<|>zzr):aX X (.Call (.Name "all" p) (e::es) [] pos) (kI r t):=ul b d f aiG a ⋯ ⋯ c g
def Ew(f:X.mg "max"=ag)(b:fz X (.builtin "max") r)(a:d2 X (e::es) t)(d:ea X "max"<|>zzr)(c:bj (e::es) X.am=(ap,eval e X.am)::bj es X.am<|>zzr)(g:((dM pos<|bj es X.am).any (·.1)=ap)<|>zzr):aX X (.Call (.Name "max" p) (e::es) [] pos) (kI r t):=ul b d f aiD a ⋯ ⋯ c g
def vi(f:X.mg "ord"=ag)(b:fz X (.builtin "ord") r)(a:d2 X (e::es) t)(d:ea X "ord"<|>zzr)(c:bj (e::es) X.am=(ap,eval e X.am)::bj es X.am<|>zzr)(g:((dM pos<|bj es X.am).any (·.1)=ap)<|>zzr):aX X (.Call (.Name "ord" p) (e::es) [] pos) (kI r t):=ul b d f aiC a ⋯ ⋯ c g
def vg(f:X.mg "sorted"=ag)(b:fz X (.builtin "sorted") r)(a:d2 X (e::es) t)(d:ea X "sorted"<|>zzr)(c:bj (e::es) X.am=(ap,eval e X.am)::bj es X.am<|>zzr)(g:((dM pos<|bj es X.am).any (·.1)=ap)<|>zzr):aX X (.Call (.Name "sorted" p) (e::es) [] pos) (kI r t):=ul b d f aiA a ⋯ ⋯ c g
def A0(f:X.mg "str"=ag)(b:fz X (.type "str") r)(a:d2 X (e::es) t)(d:ea X "str"<|>zzr)(c:bj (e::es) X.am=(ap,eval e X.am)::bj es X.am<|>zzr)(g:((dM pos<|bj es X.am).any (·.1)=ap)<|>zzr):aX X (.Call (.Name "str" p) (e::es) [] pos) (kI r t):=uk b d f aiz a ⋯ ⋯ c g
def A2(f:X.mg "int"=ag)(b:fz X (.type "int") r)(a:d2 X (e::es) t)(d:ea X "int"<|>zzr)(c:bj (e::es) X.am=(ap,eval e X.am)::bj es X.am<|>zzr)(g:((dM pos<|bj es X.am).any (·.1)=ap)<|>zzr):aX X (.Call (.Name "int" p) (e::es) [] pos) (kI r t):=uk b d f aiF a ⋯ ⋯ c g
def A1(f:X.mg "list"=ag)(b:fz X (.type "list") r)(a:d2 X (e::es) t)(d:ea X "list"<|>zzr)(c:bj (e::es) X.am=(ap,eval e X.am)::bj es X.am<|>zzr)(g:((dM pos<|bj es X.am).any (·.1)=ap)<|>zzr):aX X (.Call (.Name "list" p) (e::es) [] pos) (kI r t):=uk b d f Pw a ⋯ ⋯ c g
def tP(f:X.mg "tuple"=ag)(b:fz X (.type "tuple") r)(a:d2 X (e::es) t)(d:ea X "tuple"<|>zzr)(c:bj (e::es) X.am=(ap,eval e X.am)::bj es X.am<|>zzr)(g:((dM pos<|bj es X.am).any (·.1)=ap)<|>zzr):aX X (.Call (.Name "tuple" p) (e::es) [] pos) (kI r t):=uk b d f aiy a ⋯ ⋯ c g
def HK(f:X.mg "set"=ag)(b:fz X (.type "set") r)(a:d2 X (e::es) t)(d:ea X "set"<|>zzr)(c:bj (e::es) X.am=(ap,eval e X.am)::bj es X.am<|>zzr)(g:((dM pos<|bj es X.am).any (·.1)=ap)<|>zzr):aX X (.Call (.Name "set" p) (e::es) [] pos) (kI r t):=uk b d f aiB a ⋯ ⋯ c g
def ov{apos:Pos}(f:aX X o dO)(a:d2 X (e::es) t)(b:iw o "append" X.am (eval o X.am)=eval o X.am<|>zzr)
  (c:(((dM pos<|bj (e::es) X.am).all (λx=> !x.1)&&(m9 pos<|m4 [] X.am).all (λx=>x.1.isSome)&&decide (↥(e::es)+↥([]:List md)+(if([]:List md).isEmpty then 0 else 1)<30))=aa)<|>zzr)
  (d:(apos.endLine==pos.line)=aa<|>zzr) (h:bj (e::es) X.am=(ap,eval e X.am)::bj es X.am<|>zzr) (g:((dM pos<|bj es X.am).any (·.1)=ap)<|>zzr):
  aX X (.Call (.Attribute o "append" apos) (e::es) [] pos) (wW X.K "list" KX dO t):=Cn zQ PySem.F.slot_list_append PySem.F.type_list_append acr f a b c d h g
def rW{apos:Pos}(f:aX X o dO)(a:d2 X (e::es) t)(b:iw o "extend" X.am (eval o X.am)=eval o X.am<|>zzr)
  (c:(((dM pos<|bj (e::es) X.am).all (λx=> !x.1)&&(m9 pos<|m4 [] X.am).all (λx=>x.1.isSome)&&decide (↥(e::es)+↥([]:List md)+(if([]:List md).isEmpty then 0 else 1)<30))=aa)<|>zzr)
  (d:(apos.endLine==pos.line)=aa<|>zzr) (h:bj (e::es) X.am=(ap,eval e X.am)::bj es X.am<|>zzr) (g:((dM pos<|bj es X.am).any (·.1)=ap)<|>zzr):
  aX X (.Call (.Attribute o "extend" apos) (e::es) [] pos) (wW X.K "list" B8 dO t):=Cn zQ PySem.F.slot_list_extend PySem.F.type_list_extend acp f a b c d h g
def acz{apos:Pos}(f:aX X o dO)(a:d2 X (e::es) t)(b:iw o "pop" X.am (eval o X.am)=eval o X.am<|>zzr)
  (c:(((dM pos<|bj (e::es) X.am).all (λx=> !x.1)&&(m9 pos<|m4 [] X.am).all (λx=>x.1.isSome)&&decide (↥(e::es)+↥([]:List md)+(if([]:List md).isEmpty then 0 else 1)<30))=aa)<|>zzr)
  (d:(apos.endLine==pos.line)=aa<|>zzr) (h:bj (e::es) X.am=(ap,eval e X.am)::bj es X.am<|>zzr) (g:((dM pos<|bj es X.am).any (·.1)=ap)<|>zzr):
  aX X (.Call (.Attribute o "pop" apos) (e::es) [] pos) (wW X.K "list" KQ dO t):=Cn zQ Sh Sg acl f a b c d h g
def M5{apos:Pos}(c:aX X o dO)(a:iw o "pop" X.am (eval o X.am)=eval o X.am<|>zzr)(b:(apos.endLine==pos.line)=aa<|>zzr):
  aX X (.Call (.Attribute o "pop" apos) [] [] pos) (HQ X.K "list" KR dO):=Z2 zQ Sh Sg acm c a b
def p9{apos:Pos}(g:aX X o dO)(d:aX X e bW)(h:bj [e] X.am=[(ap,eval e X.am)]<|>zzr)(c:iw o "startswith" X.am (eval o X.am)=eval o X.am<|>zzr)(f:(apos.endLine==pos.line)=aa<|>zzr):
  aX X (.Call (.Attribute o "startswith" apos) [e] [] pos) (rn (λx xs H Q=>∃a b,x= .str a/\xs=[.str b]/\Q (.a1<|zL a b) H) dO bW):=uj PySem.F.slot_str_startswith PySem.F.type_str_startswith acj g d h c f
def M6{apos:Pos}(g:aX X o dO)(d:aX X e bW)(h:bj [e] X.am=[(ap,eval e X.am)]<|>zzr)(c:iw o "endswith" X.am (eval o X.am)=eval o X.am<|>zzr)(f:(apos.endLine==pos.line)=aa<|>zzr):
  aX X (.Call (.Attribute o "endswith" apos) [e] [] pos) (rn (λx xs H Q=>∃a b,x= .str a/\xs=[.str b]/\Q (.a1<|zM a b) H) dO bW):=uj PySem.F.slot_str_endswith PySem.F.type_str_endswith acq g d h c f
end
end L2
namespace L2
open PySem PySem.Spec PyProof.Rows PySem.W
def alh{K:v9->b9}{Hj:b9->bC}
  (l:li.wellSaid=aa) (i:d.params.defaults=[]) (hlen:ac li.args=ac wPs) (j:c2 Uu sX)
  (g:∀w h,b7 w h->(K w.params).In h)
  (F:∀w mg cr h,b7 w h->(K w.params).In h->h.Ns eh mg->mg d.name=I (.ref cr)->
   ∃bk:eS,(∀s ay,ac ay=ac wPs->tF s bk {ay,[]} (wPs.zip ay))/\
    ∀base,(K w.params).In base->base.Ns eh mg->c6 li.prog w (K w.params) mg base (cL li.prog w) Uu cr bk wPs (Hj<|K w.params))
  (k:∀K H xs a,qy H->GQ li.args a=aa->tA li.args li.asked a=aa->jS K H xs (rc li.args a)->
   Hj K xs H (λv U=>gj K U v<|li.ret.enc<|tA li.args li.f a) λ_ _ _=>False):
  Se q uE dY b7 li d [] (λf vs=>R4 f vs):=
 Uq l i hlen j g F (λw H xs a O Y b c=>k (K w.params) H xs a O Y b c) λw H s e s' h=>by
  let{_,_,_,_,_,_,_,z}:=h
  show z
end L2
namespace RC
open PySem PySem.Spec PyProof.Rows L2
open PySem.W (Frag)
def bu i:=PySem.Challenge.pw_requestclasses_s01_answers.main.body.getD i<|.Pass ⟨0,0,0,0⟩
abbrev JT:=eM (bu 1) 0
abbrev JY:=eM (bu 2) 0
abbrev JX:=eM (bu 3) 0
abbrev JW:=eM (bu 4) 0
abbrev JV:=eM (bu 5) 0
abbrev JO:=eM (bu 6) 0
abbrev JQ:=eM (bu 7) 0
abbrev JP:=eM (bu 8) 0
abbrev IT:=bu 9
abbrev BE:=bu 16
abbrev Ji:=bu 17
abbrev BJ:=bu 18
abbrev JG:=bu 19
abbrev I6:=bu 20
abbrev BD:=bu 21
abbrev BI:=bu 22
abbrev Jn:=bu 23
abbrev Jj:=bu 24
abbrev I9:=bu 25
abbrev Ja:=bu 26
abbrev I4:=bu 27
abbrev I1:=bu 28
abbrev Jh:=bu 29
abbrev IN:=bu 30
abbrev Jb:=bu 35
abbrev IQ:=bu 36
abbrev BC:=bu 37
abbrev BL:=bu 38
abbrev Js:=bu 39
abbrev J':=eM (bu 44) 0
abbrev J4:=eM (bu 45) 0
abbrev J7:=eM (bu 46) 0
abbrev J8:=eM (bu 46) 1
abbrev J9:=eM (bu 46) 2
abbrev J5:=eM (bu 46) 3
abbrev BO:=eM (bu 46) 4
abbrev BP:=eM (bu 46) 5
abbrev J6:=eM (bu 46) 6
abbrev Jk:=bu 47
abbrev Jm:=bu 48
abbrev Jg:=bu 49
abbrev I':=bu 50
abbrev BH:=bu 51
abbrev Jq:=bu 52
abbrev Jp:=bu 53
abbrev Jc:=bu 55
abbrev Jf:=bu 56
abbrev Jd:=bu 57
abbrev BK:=bu 58
abbrev Je:=bu 59
abbrev Jl:=bu 60
abbrev Jo:=bu 61
abbrev Bz:=bu 63
abbrev JI:=bu 64
abbrev JH:=bu 65
abbrev I3:=bu 66
abbrev BF:=bu 67
abbrev tZ:=bu 68
abbrev JR:=eM (bu 69) 0
abbrev J1:=eM (bu 74) 0
abbrev J0:=eM (bu 74) 1
abbrev J3:=eM (bu 74) 2
abbrev J2:=eM (bu 74) 3
abbrev JZ:=eM (bu 74) 4
abbrev JL:=eM (bu 79) 0
abbrev JN:=eM (bu 79) 1
abbrev JK:=eM (bu 79) 2
abbrev JM:=eM (bu 79) 3
abbrev I8:=bu 80
abbrev JJ:=bu 81
abbrev I0:=bu 82
abbrev By:=bu 83
abbrev IP:=bu 84
abbrev JU:=eM (bu 85) 0
abbrev JS:=eM (bu 89) 0
abbrev xf:=bu 90
abbrev IV:=bu 91
abbrev BB:=bu 92
abbrev BA:=bu 93
abbrev IU:=bu 94
abbrev I7:=bu 97
abbrev I2:=bu 98
abbrev IZ:=bu 99
abbrev xd:=bu 100
abbrev IX:=bu 101
abbrev BG:=bu 102
abbrev I5:=bu 103
abbrev xe:=bu 104
abbrev IR:=bu 105
abbrev IS:=bu 106
abbrev IY:=bu 107
abbrev IW:=bu 108
abbrev JD:=bu 110
abbrev Jv:=bu 111
abbrev Jx:=bu 112
abbrev JC:=bu 113
abbrev Jt:=bu 114
abbrev Jz:=bu 115
abbrev JA:=bu 116
abbrev BN:=bu 117
abbrev BM:=bu 118
abbrev Jw:=bu 119
abbrev JE:=bu 120
abbrev Jy:=bu 121
abbrev JF:=bu 122
abbrev JB:=bu 123
abbrev Ju:=bu 124
abbrev Kd:=eM (bu 126) 0
abbrev Kc:=eM (bu 126) 1
abbrev Kb:=eM (bu 126) 2
abbrev Ka:=eM (bu 126) 3
abbrev xg:=bu 127
abbrev Jr:=bu 128
abbrev fa:=List<|Str×ab
def bv{N P:List Str}{b7:jq}(a:b7.kind= .function<|>zzr)(b:b7.isCoroutine=ap<|>zzr)(c:b7.isGenerator=ap<|>zzr)(d:N.Nodup<|>zze)(e:N.take ↥P=P<|>zzr)(f:(∀x∈P,b7.names.lookup x=I .local \/b7.names.lookup x=I .cell)<|>zze)(g:(∀y∈b7.names,y.2≠ .free)<|>zze):bl N P b7:={a,b,c,d,e,f,(g)}
def bH{g:Str}{v:ab}(q:iA f r=o)(h:(f==g)=ap<|>zze):iA f ((g,v)::r)=o:=qa h q
def cp(q:cs f v r=b7)(h:(g==f)=ap<|>zze):cs f v ((g,x)::r)=(g,x)::b7:=ZI h q
structure bf where
 f:Nat->ao
 d:Nat->eS
 c:Nat->ao
section
variable(K:bR)(mg:Str->Option az)
abbrev bf.kk(A:bf):=A.c 8
abbrev bf.yz(A:bf):=A.c 9
abbrev bf.Eh(A:bf):=A.c 10
abbrev bf.ki(A:bf):=A.c 11
abbrev bf.kj(A:bf):=A.c 12
abbrev bf.fg(A:bf):=A.c 13
abbrev bf.jK(A:bf):=A.c 14
abbrev bf.vb(A:bf):=A.c 15
abbrev bf.eD(A:bf):=A.c 16
structure P'(DS f1 f2 Oz Ow Ov Oq Oo aez kY Ep Eo En Em El Ek Ej:ao)(lI ah3 ahF ahu ahj ag9 agY agN agC:eS):Prop where
 oM:mW K mg "Refusal" kY DS
 yy:mW K mg "Malformed" Ep f1
 yx:mW K mg "NoSuchPattern" Eo f2
 yw:mW K mg "NoSuchRepresentative" En Oz
 sh:mW K mg "NotInDirectory" Em Ow
 yt:mW K mg "TooMuchToldApart" El Ov
 yv:mW K mg "TooManyPatterns" Ek Oq
 yu:mW K mg "TooManyRepresentatives" Ej Oo
 jg:FnAt K "__init__" "Refusal.__init__" JT ["self","number"] DS lI
 QA:FnAt K "__init__" "Malformed.__init__" JY ["self"] f1 ah3
 Qy:FnAt K "__init__" "NoSuchPattern.__init__" JX ["self"] f2 ahF
 Qw:FnAt K "__init__" "NoSuchRepresentative.__init__" JW ["self"] Oz ahu
 E2:FnAt K "__init__" "NotInDirectory.__init__" JV ["self"] Ow ahj
 Qi:FnAt K "__init__" "TooMuchToldApart.__init__" JO ["self"] Ov ag9
 Qm:FnAt K "__init__" "TooManyPatterns.__init__" JQ ["self"] Oq agY
 Qk:FnAt K "__init__" "TooManyRepresentatives.__init__" JP ["self"] Oo agN
 ie:b2 K mg "require_form" IT ["holds"] aez agC
 alF:cK K kY "number"
 QB:cK K Ep "number"
 ajp:jX K Ep (.ref kY)=I aa
 Qz:cK K Eo "number"
 ajn:jX K Eo (.ref kY)=I aa
 Qx:cK K En "number"
 ajm:jX K En (.ref kY)=I aa
 Qv:cK K Em "number"
 ajl:jX K Em (.ref kY)=I aa
 Qj:cK K El "number"
 ajc:jX K El (.ref kY)=I aa
 Qn:cK K Ek "number"
 aje:jX K Ek (.ref kY)=I aa
 Ql:cK K Ej "number"
 ajd:jX K Ej (.ref kY)=I aa
 qw:R6 K (.ref kY) "__getattribute__"=I (I<|.builtin "type.__getattribute__")
 qv:R8 K kY (.type "type")=aa
 qx:Sa K (.ref kY) (.type "type") "__init__"=I (.val<|.ref DS)
structure Qc(aeo afK afA afw afv afu aft afs afr afq afp afo afn afm afl:ao)(agr ah2 ahR ahN ahM ahL ahK ahJ ahI ahH ahG ahE ahD ahC ahB:eS):Prop where
 DC:b2 K mg "has_only" BE ["text","signs"] aeo agr
 uK:b2 K mg "is_name" Ji ["text"] afK ah2
 oP:b2 K mg "are_names" BJ ["texts"] afA ahR
 ER:b2 K mg "all_differ" JG ["texts"] afw ahN
 p8:b2 K mg "name_order" I6 ["name"] afv ahM
 xj:b2 K mg "row_order" BD ["names"] afu ahL
 EA:b2 K mg "are_rising" BI ["names"] aft ahK
 DV:b2 K mg "each_once" Jn ["names"] afs ahJ
 uO:b2 K mg "in_order" Jj ["names"] afr ahI
 CV:b2 K mg "name_at" I9 ["number"] afq ahH
 uG:b2 K mg "least_name_beside" Ja ["names"] afp ahG
 MA:b2 K mg "names_from_text" I4 ["text"] afo ahE
 xA:b2 K mg "path_from_text" I1 ["text","most"] afn ahD
 NI:b2 K mg "is_time" Jh ["text"] afm ahC
 AW:b2 K mg "time_from_text" IN ["text"] afl ahB
 ajM:eP mg "LETTERS" (.str "abcdefghijklmnopqrstuvwxyz")
 ake:eP mg "DIGITS" (.str "0123456789")
 ajN:eP mg "LATER_SIGNS" (.str "0123456789abcdefghijklmnopqrstuvwxyz")
 ajL:eP mg "LONGEST_NAME" (.int 12)
 QE:eP mg "LATEST_TIME" (.int 1000000)
structure P7(afk afj afi afh afg:ao)(ahA ahz ahy ahx ahw:eS):Prop where
 Nq:b2 K mg "known_signs_by_byte" Jb [] afk ahA
 It:b2 K mg "sign_for_unknown" IQ ["byte"] afj ahz
 HI:b2 K mg "text_from_bytes" BC ["row"] afi ahy
 qr:b2 K mg "answered_text" BL ["text"] afh ahx
 EB:b2 K mg "answered_texts" Js ["texts"] afg ahw
 ajO:eP mg "KNOWN_SIGNS" (.str "\n *+,-/0123456789:@abcdefghijklmnopqrstuvwxyz")
 ajk:eP mg "OTHER_SIGN" (.str "?")
 ajo:eP mg "NO_SIGN" (.str "!")
structure Qf(OA Oy Ox aff afe afd afc afb afa ae' ae9 ae8 ae7 ae6 ae5 ae4 Ei yA mS:ao)(ahv aht ahs ahr ahq ahp aho ahn ahm ahl ahk ahi ahh ahg ahf ahe:eS):Prop where
 ja:mW K mg "DirectoryFault" Ei OA
 kh:iQ K mg "Entry" yA Oy
 dQ:iQ K mg "Directory" mS Ox
 sF:FnAt K "__init__" "DirectoryFault.__init__" J' ["self","line","reason"] OA ahv
 Fm:FnAt K "__init__" "Entry.__init__" J4 ["self","is_user","name","members"] Oy aht
 QY:FnAt K "__init__" "Directory.__init__" J7 ["self","text"] Ox ahs
 Fo:hD K mS "has_name" "Directory.has_name" J8 ["self","name"] aff ahr
 Q0:hD K mS "add_entry" "Directory.add_entry" J9 ["self","entry"] afe ahq
 vF:hD K mS "within" "Directory.within" J5 ["self","group"] afd ahp
 QW:hD K mS "users_in" "Directory.users_in" BO ["self","group"] afc aho
 QZ:hD K mS "groups_with" "Directory.groups_with" BP ["self","user"] afb ahn
 QX:hD K mS "is_user_in" "Directory.is_user_in" J6 ["self","user","group"] afa ahm
 NU:b2 K mg "group_entry" Jk ["line"] ae' ahl
 OJ:b2 K mg "entry_from_line" Jm ["line"] ae9 ahk
 NH:b2 K mg "is_too_many" Jg ["directory","entry"] ae8 ahi
 Nc:b2 K mg "line_reason" I' ["directory","line","entry"] ae7 ahh
 Pe:b2 K mg "check_members" BH ["directory"] ae6 ahg
 Pf:b2 K mg "check_circles" Jq ["directory"] ae5 ahf
 DY:b2 K mg "directory_from_text" Jp ["text"] ae4 ahe
 Q3:cK K Ei "line"
 Q2:cK K Ei "reason"
 y':cK K yA "is_user"
 y9:cK K yA "name"
 Fn:cK K yA "members"
 Q1:cK K mS "text"
 ks:cK K mS "users"
 jm:cK K mS "groups"
 ajA:eP mg "MOST_USERS" (.int 12)
 ajE:eP mg "MOST_GROUPS" (.int 8)
 ajD:eP mg "MOST_MEMBERS" (.int 12)
structure Qe(ae3 ae2 ae1 ae0 aeZ aeY aeX:ao)(ahd ahc ahb aha ag' ag8 ag7:eS):Prop where
 ND:b2 K mg "is_who_so" Jc ["pattern","request","directory"] ae3 ahd
 NG:b2 K mg "is_what_so" Jf ["pattern","request"] ae2 ahc
 NE:b2 K mg "is_where_so" Jd ["pattern","request"] ae1 ahb
 PJ:b2 K mg "are_flags_so" BK ["pattern","request"] ae0 aha
 NF:b2 K mg "is_when_so" Je ["pattern","request"] aeZ ag'
 DO:b2 K mg "five_things" Jl ["pattern","request","directory"] aeY ag8
 OU:b2 K mg "does_fit" Jo ["pattern","request","directory"] aeX ag7
structure Qg(aeW aeV aeU aeT aeS aeR Ou sm:ao)(ag6 ag5 ag4 ag3 ag2 ag1 ag0:eS):Prop where
 gU:iQ K mg "ToldApart" sm Ou
 Hn:b2 K mg "users_told_apart" Bz ["directory","patterns"] aeW ag6
 PZ:b2 K mg "actions_told_apart" JI ["patterns"] aeV ag5
 PM:b2 K mg "add_beginnings" JH ["nodes","path"] aeU ag4
 Mo:b2 K mg "nodes_told_apart" I3 ["patterns"] aeT ag3
 DN:b2 K mg "flags_told_apart" BF ["patterns"] aeS ag2
 HG:b2 K mg "times_told_apart" tZ ["patterns"] aeR ag1
 Qo:FnAt K "__init__" "ToldApart.__init__" JR ["self","directory","patterns"] Ou ag0
 yJ:cK K sm "users"
 yN:cK K sm "actions"
 yL:cK K sm "nodes"
 yM:cK K sm "flags"
 yK:cK K sm "times"
structure Qd(Ot aeQ aeP aeO aeN qp:ao)(agZ agX agW agV agU:eS):Prop where
 eN:iQ K mg "Held" qp Ot
 QR:FnAt K "__init__" "Held.__init__" J1 ["self"] Ot agZ
 y1:hD K qp "pattern_at" "Held.pattern_at" J0 ["self","k"] aeQ agX
 QT:hD K qp "add_pattern" "Held.add_pattern" J3 ["self","pattern"] aeP agW
 QS:hD K qp "drop_pattern" "Held.drop_pattern" J2 ["self","k"] aeO agV
 y0:hD K qp "told_apart" "Held.told_apart" JZ ["self"] aeN agU
 k5:cK K qp "directory"
 k4:cK K qp "patterns"
 akd:eP mg "FIRST_DIRECTORY" (.str "user a\n")
 ajB:eP mg "MOST_PATTERNS" (.int 20)
 ajG:eP mg "MOST_FLAGS_held" (.int 16)
structure Qb(Op aeM aeL aeK aeJ aeI aeH aeG aeF Om sk mR:ao)(agT agS agR agQ agP agO agM agL agK agJ:eS):Prop where
 fE:iQ K mg "Words" sk Op
 eC:iQ K mg "Pattern" mR Om
 P4:FnAt K "__init__" "Words.__init__" JL ["self","text"] Op agT
 qs:hD K sk "ahead" "Words.ahead" JN ["self"] aeM agS
 lP:hD K sk "take" "Words.take" JK ["self"] aeL agR
 P5:hD K sk "are_all_taken" "Words.are_all_taken" JM ["self"] aeK agQ
 MC:b2 K mg "name_of_whom" I8 ["kind","words"] aeJ agP
 P0:b2 K mg "actions_from_word" JJ ["word"] aeI agO
 Lw:b2 K mg "path_from_word" I0 ["word"] aeH agM
 Ha:b2 K mg "wishes_from_words" By ["words"] aeG agL
 AX:b2 K mg "time_behind" IP ["word","words"] aeF agK
 Qr:FnAt K "__init__" "Pattern.__init__" JU ["self","text"] Om agJ
 yI:cK K sk "words"
 vm:cK K sk "place"
 Qs:cK K mR "text"
 vu:cK K mR "kind"
 yS:cK K mR "name"
 yT:cK K mR "actions"
 Qt:cK K mR "below"
 vt:cK K mR "path"
 E1:cK K mR "wishes"
 yR:cK K mR "since"
 yQ:cK K mR "until"
 ajH:eP mg "MOST_ACTIONS" (.int 6)
 QD:eP mg "LONGEST_PATH_pattern" (.int 5)
 ajz:eP mg "MOST_WISHES" (.int 6)
structure P8(Ol aeE aeD aeC aeB aeA sj:ao)(agI agH agG agF agE agD:eS):Prop where
 e':iQ K mg "Request" sj Ol
 yP:FnAt K "__init__" "Request.__init__" JS ["self","user","action","path","flags","time"] Ol agI
 Oc:b2 K mg "flags_from_words" xf ["words"] aeE agH
 ry:b2 K mg "request_from_text" IV ["text"] aeD agG
 HH:b2 K mg "text_of_path" BB ["path"] aeC agF
 AY:b2 K mg "text_of_request" BA ["request"] aeB agE
 B0:b2 K mg "request_order" IU ["request"] aeA agD
 sp:cK K sj "user"
 vr:cK K sj "action"
 sr:cK K sj "path"
 vq:cK K sj "flags"
 sq:cK K sj "time"
 ajK:eP mg "LONGEST_PATH_request" (.int 6)
 ajF:eP mg "MOST_FLAGS_request" (.int 16)
structure P9(aey aex aew aev aeu aet aes aer aeq aep aen aem:ao)(agB agA agz agy agx agw agv agu agt ags agq agp:eS):Prop where
 CR:b2 K mg "name_or_least" I7 ["name","told"] aey agB
 Co:b2 K mg "path_beside" I2 ["node","nodes"] aex agA
 Lv:b2 K mg "path_or_beside" IZ ["path","nodes"] aew agz
 Ky:b2 K mg "representative_of" xd ["request","apart"] aev agy
 uc:b2 K mg "product" IX ["counts"] aeu agx
 D5:b2 K mg "counts_of_parts" BG ["apart"] aet agw
 CQ:b2 K mg "name_with_number" I5 ["number","told"] aes agv
 Lu:b2 K mg "path_with_number" xe ["number","nodes"] aer agu
 xh:b2 K mg "rows_with" IR ["size","flags"] aeq agt
 Kr:b2 K mg "row_with_number" IS ["number","flags"] aep ags
 Ld:b2 K mg "places_of_parts" IY ["number","counts"] aen agq
 Kz:b2 K mg "representative_at" IW ["number","apart"] aem agp
 ajC:eP mg "MOST_NUMBERED" (.int 20000)
structure Qa(ael aek aej aei aeh aeg aef aee afJ afI afH afG afF afE afD OB afC afB afz afy afx si:ao)(ago agn agm agl agk agj agi agh ah1 ah0 ahZ ahY ahX ahW ahV ahU ahT ahS ahQ ahP ahO:eS):Prop where
 ip:iQ K mg "CallReader" si OB
 EO:b2 K mg "answer_directory" JD ["held","numbers","texts"] ael ago
 EF:b2 K mg "answer_show" Jv ["held","numbers","texts"] aek agn
 EH:b2 K mg "answer_pattern" Jx ["held","numbers","texts"] aej agm
 EN:b2 K mg "answer_drop" JC ["held","numbers","texts"] aei agl
 ED:b2 K mg "answer_told" Jt ["held","numbers","texts"] aeh agk
 EJ:b2 K mg "answer_members" Jz ["held","numbers","texts"] aeg agj
 EK:b2 K mg "answer_groups" JA ["held","numbers","texts"] aef agi
 EM:b2 K mg "answer_fits" BN ["held","numbers","texts"] aee agh
 EC:b2 K mg "answer_which" BM ["held","numbers","texts"] afJ ah1
 EG:b2 K mg "answer_represent" Jw ["held","numbers","texts"] afI ah0
 EP:b2 K mg "answer_count" JE ["held","numbers","texts"] afH ahZ
 EI:b2 K mg "answer_nth" Jy ["held","numbers","texts"] afG ahY
 EQ:b2 K mg "answer_before" JF ["held","numbers","texts"] afF ahX
 EL:b2 K mg "answer_fresh" JB ["held","numbers","texts"] afE ahW
 EE:b2 K mg "answer_size" Ju ["held","numbers","texts"] afD ahV
 Q8:FnAt K "__init__" "CallReader.__init__" Kd ["self","calls"] OB ahU
 Q7:hD K si "is_done" "CallReader.is_done" Kc ["self"] afC ahT
 zb:hD K si "take_number" "CallReader.take_number" Kb ["self"] afB ahS
 Q6:hD K si "take_text" "CallReader.take_text" Ka ["self"] afz ahQ
 PK:b2 K mg "answer_next" xg ["held","reader"] afy ahP
 answers:b2 K mg "answers" Jr ["calls"] afx ahO
 zc:cK K si "calls"
 qF:cK K si "place"
structure cS(A:bf):Prop extends P' K mg (A.f 0) (A.f 1) (A.f 2) (A.f 3) (A.f 4) (A.f 5) (A.f 6) (A.f 7) (A.f 8) (A.c 0) (A.c 1) (A.c 2) (A.c 3) (A.c 4) (A.c 5) (A.c 6) (A.c 7) (A.d 0) (A.d 1) (A.d 2) (A.d 3) (A.d 4) (A.d 5) (A.d 6) (A.d 7) (A.d 8),Qc K mg (A.f 9) (A.f 10) (A.f 11) (A.f 12) (A.f 13) (A.f 14) (A.f 15) (A.f 16) (A.f 17) (A.f 18) (A.f 19) (A.f 20) (A.f 21) (A.f 22) (A.f 23) (A.d 9) (A.d 10) (A.d 11) (A.d 12) (A.d 13) (A.d 14) (A.d 15) (A.d 16) (A.d 17) (A.d 18) (A.d 19) (A.d 20) (A.d 21) (A.d 22)<|A.d 23,P7 K mg (A.f 24) (A.f 25) (A.f 26) (A.f 27) (A.f 28) (A.d 24) (A.d 25) (A.d 26) (A.d 27)<|A.d 28,Qf K mg (A.f 29) (A.f 30) (A.f 31) (A.f 32) (A.f 33) (A.f 34) (A.f 35) (A.f 36) (A.f 37) (A.f 38) (A.f 39) (A.f 40) (A.f 41) (A.f 42) (A.f 43) (A.f 44) (A.c 8) (A.c 9) (A.c 10) (A.d 29) (A.d 30) (A.d 31) (A.d 32) (A.d 33) (A.d 34) (A.d 35) (A.d 36) (A.d 37) (A.d 38) (A.d 39) (A.d 40) (A.d 41) (A.d 42) (A.d 43)<|A.d 44,Qe K mg (A.f 45) (A.f 46) (A.f 47) (A.f 48) (A.f 49) (A.f 50) (A.f 51) (A.d 45) (A.d 46) (A.d 47) (A.d 48) (A.d 49) (A.d 50)<|A.d 51,Qg K mg (A.f 52) (A.f 53) (A.f 54) (A.f 55) (A.f 56) (A.f 57) (A.f 58) (A.c 11) (A.d 52) (A.d 53) (A.d 54) (A.d 55) (A.d 56) (A.d 57)<|A.d 58,Qd K mg (A.f 59) (A.f 60) (A.f 61) (A.f 62) (A.f 63) (A.c 12) (A.d 59) (A.d 60) (A.d 61) (A.d 62)<|A.d 63,Qb K mg (A.f 64) (A.f 65) (A.f 66) (A.f 67) (A.f 68) (A.f 69) (A.f 70) (A.f 71) (A.f 72) (A.f 73) (A.c 13) (A.c 14) (A.d 64) (A.d 65) (A.d 66) (A.d 67) (A.d 68) (A.d 69) (A.d 70) (A.d 71) (A.d 72)<|A.d 73,P8 K mg (A.f 74) (A.f 75) (A.f 76) (A.f 77) (A.f 78) (A.f 79) (A.c 15) (A.d 74) (A.d 75) (A.d 76) (A.d 77) (A.d 78)<|A.d 79,P9 K mg (A.f 80) (A.f 81) (A.f 82) (A.f 83) (A.f 84) (A.f 85) (A.f 86) (A.f 87) (A.f 88) (A.f 89) (A.f 90) (A.f 91) (A.d 80) (A.d 81) (A.d 82) (A.d 83) (A.d 84) (A.d 85) (A.d 86) (A.d 87) (A.d 88) (A.d 89) (A.d 90)<|A.d 91,Qa K mg (A.f 92) (A.f 93) (A.f 94) (A.f 95) (A.f 96) (A.f 97) (A.f 98) (A.f 99) (A.f 100) (A.f 101) (A.f 102) (A.f 103) (A.f 104) (A.f 105) (A.f 106) (A.f 107) (A.f 108) (A.f 109) (A.f 110) (A.f 111) (A.f 112) (A.c 16) (A.d 92) (A.d 93) (A.d 94) (A.d 95) (A.d 96) (A.d 97) (A.d 98) (A.d 99) (A.d 100) (A.d 101) (A.d 102) (A.d 103) (A.d 104) (A.d 105) (A.d 106) (A.d 107) (A.d 108) (A.d 109) (A.d 110) (A.d 111) (A.d 112) where
 bB:mg "len"=ag
 ir:mg "all"=ag
 PF:mg "set"=ag
 vg:mg "sorted"=ag
 aiL:mg "zip"=ag
 vh:mg "range"=ag
 Ev:mg "str"=ag
 Ex:mg "int"=ag
 vi:mg "ord"=ag
 yB:mg "list"=ag
 vf:mg "tuple"=ag
 vj:mg "enumerate"=ag
 Ew:mg "max"=ag
 PG:mg "reversed"=ag
abbrev bs{K mg A}(P:bS)(w:bL)(base:bG)(_:cS K mg A)(k i:Nat)(ps:List Str)(br:bC):=c6 P w K mg base (cL P w) k (A.f i) (A.d i) ps br
end
def Yp:bl ["self","number"] ["self","number"] (a6 JT):=bv
def Yu:bl ["self"] ["self"] (a6 JY):=bv
def Yt:bl ["self"] ["self"] (a6 JX):=bv
def Ys:bl ["self"] ["self"] (a6 JW):=bv
def Yr:bl ["self"] ["self"] (a6 JV):=bv
def Yk:bl ["self"] ["self"] (a6 JO):=bv
def Ym:bl ["self"] ["self"] (a6 JQ):=bv
def Yl:bl ["self"] ["self"] (a6 JP):=bv
def XC:bl ["holds"] ["holds"] (a6 IT):=bv
abbrev MK:List Str:=["text","signs","sign"]
def Bn:bl MK ["text","signs"] (a6 BE):=bv
def XW:bl ["text"] ["text"] (a6 Ji):=bv
abbrev MP:List Str:=["texts","text"]
def Br:bl MP ["texts"] (a6 BJ):=bv
def Ye:bl ["texts"] ["texts"] (a6 JG):=bv
def XM:bl ["name"] ["name"] (a6 I6):=bv
abbrev MJ:List Str:=["names","name"]
def Bk:bl MJ ["names"] (a6 BD):=bv
abbrev MO:List Str:=["names","one","other"]
def xb:bl MO ["names"] (a6 BI):=bv
def II:bl ["names","once","name"] ["names"] (a6 Jn):=bv
def XX:bl ["names"] ["names"] (a6 Jj):=bv
def rt:bl ["number","later","as_long","tail","k"] ["number"] (a6 I9):=bv
def IG:bl ["names","taken","number"] ["names"] (a6 Ja):=bv
def XJ:bl ["text","names"] ["text"] (a6 I4):=bv
def XH:bl ["text","most","path"] ["text","most"] (a6 I1):=bv
def XV:bl ["text"] ["text"] (a6 Jh):=bv
def Xz:bl ["text"] ["text"] (a6 IN):=bv
def IH:bl ["signs","sign"] [] (a6 Jb):=bv
def XB:bl ["byte"] ["byte"] (a6 IQ):=bv
abbrev MI:List Str:=["row","signs","byte"]
def w':bl MI ["row"] (a6 BC):=bv
abbrev MR:List Str:=["text","sign"]
def Bt:bl MR ["text"] (a6 BL):=bv
def IJ:bl ["texts","answered","text"] ["texts"] (a6 Js):=bv
def YG:bl ["self","line","reason"] ["self","line","reason"] (a6 J'):=bv
def YA:bl ["self","is_user","name","members"] ["self","is_user","name","members"] (a6 J4):=bv
def YD:bl ["self","text"] ["self","text"] (a6 J7):=bv
def YE:bl ["self","name"] ["self","name"] (a6 J8):=bv
def YF:bl ["self","entry"] ["self","entry"] (a6 J9):=bv
def YB:bl ["self","group","found","waiting","name"] ["self","group"] (a6 J5):=bv
abbrev MU:List Str:=["self","group","found","user"]
def xc:bl MU ["self","group"] (a6 BO):=bv
abbrev MV:List Str:=["self","user","group"]
def Bv:bl MV ["self","user"] (a6 BP):=bv
def YC:bl ["self","user","group"] ["self","user","group"] (a6 J6):=bv
def XY:bl ["line","parts","name","members"] ["line"] (a6 Jk):=bv
def X0:bl ["line","name"] ["line"] (a6 Jm):=bv
def XU:bl ["directory","entry"] ["directory","entry"] (a6 Jg):=bv
def XP:bl ["directory","line","entry"] ["directory","line","entry"] (a6 I'):=bv
abbrev MN:List Str:=["directory","line","group","member"]
def tW:bl MN ["directory"] (a6 BH):=bv
def Bq:bl ["directory","line","group"] ["directory"] (a6 Jq):=bv
def Bo:bl ["text","lines","not_ended","directory","number","line","entry","reason"] ["text"] (a6 Jp):=bv
def XQ:bl ["pattern","request","directory"] ["pattern","request","directory"] (a6 Jc):=bv
def XT:bl ["pattern","request"] ["pattern","request"] (a6 Jf):=bv
def XR:bl ["pattern","request"] ["pattern","request"] (a6 Jd):=bv
abbrev MQ:List Str:=["pattern","request","wish"]
def Bs:bl MQ ["pattern","request"] (a6 BK):=bv
def XS:bl ["pattern","request"] ["pattern","request"] (a6 Je):=bv
def XZ:bl ["pattern","request","directory"] ["pattern","request","directory"] (a6 Jl):=bv
def X1:bl ["pattern","request","directory"] ["pattern","request","directory"] (a6 Jo):=bv
abbrev MF:List Str:=["directory","patterns","pattern"]
def Bh:bl MF ["directory","patterns"] (a6 Bz):=bv
def IM:bl ["patterns","actions","pattern"] ["patterns"] (a6 JI):=bv
def IL:bl ["nodes","path","length","longer"] ["nodes","path"] (a6 JH):=bv
def IF:bl ["patterns","nodes","pattern"] ["patterns"] (a6 I3):=bv
abbrev ML:List Str:=["patterns","flags","pattern","wish"]
def xa:bl ML ["patterns"] (a6 BF):=bv
abbrev xV:List Str:=["patterns","times","pattern","time"]
def pU:bl xV ["patterns"] (a6 tZ):=bv
def Yn:bl ["self","directory","patterns"] ["self","directory","patterns"] (a6 JR):=bv
def Yx:bl ["self"] ["self"] (a6 J1):=bv
def Yw:bl ["self","k"] ["self","k"] (a6 J0):=bv
def Yz:bl ["self","pattern"] ["self","pattern"] (a6 J3):=bv
def Yy:bl ["self","k"] ["self","k"] (a6 J2):=bv
def Yv:bl ["self"] ["self"] (a6 JZ):=bv
def Yh:bl ["self","text"] ["self","text"] (a6 JL):=bv
def Yj:bl ["self"] ["self"] (a6 JN):=bv
def Yg:bl ["self","word"] ["self"] (a6 JK):=bv
def Yi:bl ["self"] ["self"] (a6 JM):=bv
def XO:bl ["kind","words","name"] ["kind","words"] (a6 I8):=bv
def Yf:bl ["word","actions"] ["word"] (a6 JJ):=bv
def XG:bl ["word"] ["word"] (a6 I0):=bv
abbrev ME:List Str:=["words","wishes","word","flags","wish"]
def Bg:bl ME ["words"] (a6 By):=bv
def XA:bl ["word","words"] ["word","words"] (a6 IP):=bv
def Yq:bl ["self","text","words"] ["self","text"] (a6 JU):=bv
def Yo:bl ["self","user","action","path","flags","time"] ["self","user","action","path","flags","time"] (a6 JS):=bv
abbrev C0:List Str:=["words","flags","word"]
def tV:bl C0 ["words"] (a6 xf):=bv
def XE:bl ["text","words","path","flags","time"] ["text"] (a6 IV):=bv
abbrev MH:List Str:=["path","name"]
def Bj:bl MH ["path"] (a6 BB):=bv
abbrev MG:List Str:=["request","words","flag"]
def Bi:bl MG ["request"] (a6 BA):=bv
def XD:bl ["request"] ["request"] (a6 IU):=bv
def XN:bl ["name","told"] ["name","told"] (a6 I7):=bv
def XI:bl ["node","nodes"] ["node","nodes"] (a6 I2):=bv
def IE:bl ["path","nodes","length"] ["path","nodes"] (a6 IZ):=bv
abbrev CY:List Str:=["request","apart","flag","time"]
def tT:bl CY ["request","apart"] (a6 xd):=bv
def Bl:bl ["counts","result","count"] ["counts"] (a6 IX):=bv
abbrev MM:List Str:=["apart","flag"]
def Bp:bl MM ["apart"] (a6 BG):=bv
def XK:bl ["number","told"] ["number","told"] (a6 I5):=bv
abbrev CZ:List Str:=["number","nodes","paths","node"]
def tU:bl CZ ["number","nodes"] (a6 xe):=bv
def ID:bl ["size","flags","rows","k"] ["size","flags"] (a6 IR):=bv
def pV:bl ["number","flags","left","row","place","flag","with_flag"] ["number","flags"] (a6 IS):=bv
def Bm:bl ["number","counts","places","count"] ["number","counts"] (a6 IY):=bv
def XF:bl ["number","apart","counts","places"] ["number","apart"] (a6 IW):=bv
def IK:bl ["held","numbers","texts","directory","fault"] ["held","numbers","texts"] (a6 JD):=bv
def X5:bl ["held","numbers","texts"] ["held","numbers","texts"] (a6 Jv):=bv
def X7:bl ["held","numbers","texts"] ["held","numbers","texts"] (a6 Jx):=bv
def Yb:bl ["held","numbers","texts"] ["held","numbers","texts"] (a6 JC):=bv
def X3:bl ["held","numbers","texts"] ["held","numbers","texts"] (a6 Jt):=bv
def X9:bl ["held","numbers","texts"] ["held","numbers","texts"] (a6 Jz):=bv
def X':bl ["held","numbers","texts"] ["held","numbers","texts"] (a6 JA):=bv
abbrev MT:List Str:=["held","numbers","texts","pattern","request","things","so"]
def Bu:bl MT ["held","numbers","texts"] (a6 BN):=bv
abbrev MS:List Str:=["held","numbers","texts","request","found","k","pattern"]
def tX:bl MS ["held","numbers","texts"] (a6 BM):=bv
def X6:bl ["held","numbers","texts","request"] ["held","numbers","texts"] (a6 Jw):=bv
def Yc:bl ["held","numbers","texts","counts"] ["held","numbers","texts"] (a6 JE):=bv
def X8:bl ["held","numbers","texts"] ["held","numbers","texts"] (a6 Jy):=bv
def Yd:bl ["held","numbers","texts","one","other"] ["held","numbers","texts"] (a6 JF):=bv
def Ya:bl ["held","numbers","texts"] ["held","numbers","texts"] (a6 JB):=bv
def X4:bl ["held","numbers","texts"] ["held","numbers","texts"] (a6 Ju):=bv
def YK:bl ["self","calls"] ["self","calls"] (a6 Kd):=bv
def YJ:bl ["self"] ["self"] (a6 Kc):=bv
def YI:bl ["self","number"] ["self"] (a6 Kb):=bv
def YH:bl ["self","length","row"] ["self"] (a6 Ka):=bv
abbrev C1:List Str:=["held","reader","call","numbers","k","texts","refusal"]
def ru:bl C1 ["held","reader"] (a6 xg):=bv
def X2:bl ["calls","held","reader","answered","answer"] ["calls"] (a6 Jr):=bv
def sD(a9 ba bN:ab):(List (Str×ab)):=[("is_user",a9),("name",ba),("members",bN)]
section
variable{a9 ba bN y:ab}
def sC:(sD a9 ba bN).lookup ("is_user":Str)=I a9:=eu
def y8:(sD a9 ba bN).lookup ("name":Str)=I ba:=bH eu
def QV:(sD a9 ba bN).lookup ("members":Str)=I bN:=bH<|bH eu
def Fa:cs "is_user" a9 []=([("is_user",a9)]:fa):=e1
def QP:cs "name" ba [("is_user",a9)]=([("is_user",a9),("name",ba)]:fa):=cp e1
def alH:cs "members" bN [("is_user",a9),("name",ba)]=([("is_user",a9),("name",ba),("members",bN)]:fa):=cp<|cp e1
end
def kr(a9 ba bN:ab):(List (Str×ab)):=[("text",a9),("users",ba),("groups",bN)]
section
variable{a9 ba bN y:ab}
def akc:(kr a9 ba bN).lookup ("text":Str)=I a9:=eu
def k6:(kr a9 ba bN).lookup ("users":Str)=I ba:=bH eu
def jR:(kr a9 ba bN).lookup ("groups":Str)=I bN:=bH<|bH eu
def Fb:cs "text" a9 []=([("text",a9)]:fa):=e1
def QQ:cs "users" ba [("text",a9)]=([("text",a9),("users",ba)]:fa):=cp e1
def aj9:cs "groups" bN [("text",a9),("users",ba)]=([("text",a9),("users",ba),("groups",bN)]:fa):=cp<|cp e1
def E6:(kr a9 ba bN).lookup ("has_name":Str)=ag:=bH<|bH<|bH hV
def ajw:(kr a9 ba bN).lookup ("add_entry":Str)=ag:=bH<|bH<|bH hV
def yZ:(kr a9 ba bN).lookup ("within":Str)=ag:=bH<|bH<|bH hV
def ajt:(kr a9 ba bN).lookup ("users_in":Str)=ag:=bH<|bH<|bH hV
def ajv:(kr a9 ba bN).lookup ("groups_with":Str)=ag:=bH<|bH<|bH hV
def aju:(kr a9 ba bN).lookup ("is_user_in":Str)=ag:=bH<|bH<|bH hV
end
def qD(a9 ba bN cU c8:ab):(List (Str×ab)):=[("users",a9),("actions",ba),("nodes",bN),("flags",cU),("times",c8)]
section
variable{a9 ba bN cU c8 y:ab}
def Fe:(qD a9 ba bN cU c8).lookup ("users":Str)=I a9:=eu
def Fi:(qD a9 ba bN cU c8).lookup ("actions":Str)=I ba:=bH eu
def Fg:(qD a9 ba bN cU c8).lookup ("nodes":Str)=I bN:=bH<|bH eu
def Fh:(qD a9 ba bN cU c8).lookup ("flags":Str)=I cU:=bH<|bH<|bH eu
def Ff:(qD a9 ba bN cU c8).lookup ("times":Str)=I c8:=bH<|bH<|bH<|bH eu
def ajU:cs "users" a9 []=([("users",a9)]:fa):=e1
def ajT:cs "actions" ba [("users",a9)]=([("users",a9),("actions",ba)]:fa):=cp e1
def ajS:cs "nodes" bN [("users",a9),("actions",ba)]=([("users",a9),("actions",ba),("nodes",bN)]:fa):=cp<|cp e1
def ajR:cs "flags" cU [("users",a9),("actions",ba),("nodes",bN)]=([("users",a9),("actions",ba),("nodes",bN),("flags",cU)]:fa):=cp<|cp<|cp e1
def ajQ:cs "times" c8 [("users",a9),("actions",ba),("nodes",bN),("flags",cU)]=([("users",a9),("actions",ba),("nodes",bN),("flags",cU),("times",c8)]:fa):=cp<|cp<|cp<|cp e1
end
def hZ(a9 ba:ab):(List (Str×ab)):=[("directory",a9),("patterns",ba)]
section
variable{a9 ba y:ab}
def lZ:(hZ a9 ba).lookup ("directory":Str)=I a9:=eu
def lY:(hZ a9 ba).lookup ("patterns":Str)=I ba:=bH eu
def aj8:cs "directory" a9 []=([("directory",a9)]:fa):=e1
def aj7:cs "patterns" ba [("directory",a9)]=([("directory",a9),("patterns",ba)]:fa):=cp e1
def E5:(hZ a9 ba).lookup ("pattern_at":Str)=ag:=bH<|bH hV
def ajs:(hZ a9 ba).lookup ("add_pattern":Str)=ag:=bH<|bH hV
def ajr:(hZ a9 ba).lookup ("drop_pattern":Str)=ag:=bH<|bH hV
def E4:(hZ a9 ba).lookup ("told_apart":Str)=ag:=bH<|bH hV
end
def oW(a9 ba:ab):(List (Str×ab)):=[("words",a9),("place",ba)]
section
variable{a9 ba y:ab}
def Fd:(oW a9 ba).lookup ("words":Str)=I a9:=eu
def y2:(oW a9 ba).lookup ("place":Str)=I ba:=bH eu
def aji:cs "place" y (oW a9 ba)=oW a9 y:=cp Ck
def QN:cs "words" a9 []=([("words",a9)]:fa):=e1
def ajP:cs "place" ba [("words",a9)]=([("words",a9),("place",ba)]:fa):=cp e1
def qA:(oW a9 ba).lookup ("ahead":Str)=ag:=bH<|bH hV
def mZ:(oW a9 ba).lookup ("take":Str)=ag:=bH<|bH hV
def ajq:(oW a9 ba).lookup ("are_all_taken":Str)=ag:=bH<|bH hV
end
def jl(a9 ba bN cU c8 fS gp g' iC:ab):(List (Str×ab)):=[("text",a9),("kind",ba),("name",bN),("actions",cU),("below",c8),("path",fS),("wishes",gp),("since",g'),("until",iC)]
section
variable{a9 ba bN cU c8 fS gp g' iC y:ab}
def aka:(jl a9 ba bN cU c8 fS gp g' iC).lookup ("text":Str)=I a9:=eu
def y7:(jl a9 ba bN cU c8 fS gp g' iC).lookup ("kind":Str)=I ba:=bH eu
def Fj:(jl a9 ba bN cU c8 fS gp g' iC).lookup ("name":Str)=I bN:=bH<|bH eu
def Fk:(jl a9 ba bN cU c8 fS gp g' iC).lookup ("actions":Str)=I cU:=bH<|bH<|bH eu
def akb:(jl a9 ba bN cU c8 fS gp g' iC).lookup ("below":Str)=I c8:=bH<|bH<|bH<|bH eu
def y6:(jl a9 ba bN cU c8 fS gp g' iC).lookup ("path":Str)=I fS:=bH<|bH<|bH<|bH<|bH eu
def QU:(jl a9 ba bN cU c8 fS gp g' iC).lookup ("wishes":Str)=I gp:=bH<|bH<|bH<|bH<|bH<|bH eu
def y5:(jl a9 ba bN cU c8 fS gp g' iC).lookup ("since":Str)=I g':=bH<|bH<|bH<|bH<|bH<|bH<|bH eu
def qE:(jl a9 ba bN cU c8 fS gp g' iC).lookup ("until":Str)=I iC:=bH<|bH<|bH<|bH<|bH<|bH<|bH<|bH eu
def aj6:cs "text" a9 []=([("text",a9)]:fa):=e1
def aj5:cs "kind" ba [("text",a9)]=([("text",a9),("kind",ba)]:fa):=cp e1
def aj4:cs "name" bN [("text",a9),("kind",ba)]=([("text",a9),("kind",ba),("name",bN)]:fa):=cp<|cp e1
def aj3:cs "actions" cU [("text",a9),("kind",ba),("name",bN)]=([("text",a9),("kind",ba),("name",bN),("actions",cU)]:fa):=cp<|cp<|cp e1
def aj2:cs "below" c8 [("text",a9),("kind",ba),("name",bN),("actions",cU)]=([("text",a9),("kind",ba),("name",bN),("actions",cU),("below",c8)]:fa):=cp<|cp<|cp<|cp e1
def aj1:cs "path" fS [("text",a9),("kind",ba),("name",bN),("actions",cU),("below",c8)]=([("text",a9),("kind",ba),("name",bN),("actions",cU),("below",c8),("path",fS)]:fa):=cp<|cp<|cp<|cp<|cp e1
def aj0:cs "wishes" gp [("text",a9),("kind",ba),("name",bN),("actions",cU),("below",c8),("path",fS)]=([("text",a9),("kind",ba),("name",bN),("actions",cU),("below",c8),("path",fS),("wishes",gp)]:fa):=cp<|cp<|cp<|cp<|cp<|cp e1
def ajZ:cs "since" g' [("text",a9),("kind",ba),("name",bN),("actions",cU),("below",c8),("path",fS),("wishes",gp)]=([("text",a9),("kind",ba),("name",bN),("actions",cU),("below",c8),("path",fS),("wishes",gp),("since",g')]:fa):=cp<|cp<|cp<|cp<|cp<|cp<|cp e1
def ajY:cs "until" iC [("text",a9),("kind",ba),("name",bN),("actions",cU),("below",c8),("path",fS),("wishes",gp),("since",g')]=([("text",a9),("kind",ba),("name",bN),("actions",cU),("below",c8),("path",fS),("wishes",gp),("since",g'),("until",iC)]:fa):=cp<|cp<|cp<|cp<|cp<|cp<|cp<|cp e1
end
def nK(a9 ba bN cU c8:ab):(List (Str×ab)):=[("user",a9),("action",ba),("path",bN),("flags",cU),("time",c8)]
section
variable{a9 ba bN cU c8 y:ab}
def vD:(nK a9 ba bN cU c8).lookup ("user":Str)=I a9:=eu
def y4:(nK a9 ba bN cU c8).lookup ("action":Str)=I ba:=bH eu
def vE:(nK a9 ba bN cU c8).lookup ("path":Str)=I bN:=bH<|bH eu
def y3:(nK a9 ba bN cU c8).lookup ("flags":Str)=I cU:=bH<|bH<|bH eu
def sB:(nK a9 ba bN cU c8).lookup ("time":Str)=I c8:=bH<|bH<|bH<|bH eu
def E':cs "user" a9 []=([("user",a9)]:fa):=e1
def QO:cs "action" ba [("user",a9)]=([("user",a9),("action",ba)]:fa):=cp e1
def ajX:cs "path" bN [("user",a9),("action",ba)]=([("user",a9),("action",ba),("path",bN)]:fa):=cp<|cp e1
def ajW:cs "flags" cU [("user",a9),("action",ba),("path",bN)]=([("user",a9),("action",ba),("path",bN),("flags",cU)]:fa):=cp<|cp<|cp e1
def ajV:cs "time" c8 [("user",a9),("action",ba),("path",bN),("flags",cU)]=([("user",a9),("action",ba),("path",bN),("flags",cU),("time",c8)]:fa):=cp<|cp<|cp<|cp e1
end
def oX(a9 ba:ab):(List (Str×ab)):=[("calls",a9),("place",ba)]
section
variable{a9 ba y:ab}
def Fl:(oX a9 ba).lookup ("calls":Str)=I a9:=eu
def sE:(oX a9 ba).lookup ("place":Str)=I ba:=bH eu
def Qu:cs "place" y (oX a9 ba)=oX a9 y:=cp Ck
def alJ:cs "calls" a9 []=([("calls",a9)]:fa):=e1
def alI:cs "place" ba [("calls",a9)]=([("calls",a9),("place",ba)]:fa):=cp e1
def ajy:(oX a9 ba).lookup ("is_done":Str)=ag:=bH<|bH hV
def E7:(oX a9 ba).lookup ("take_number":Str)=ag:=bH<|bH hV
def ajx:(oX a9 ba).lookup ("take_text":Str)=ag:=bH<|bH hV
end
section
variable{P:bS}{w:bL}{K:bR}{mg:Str->Option az}{h:bG}{f C iL a:ao}{x m qual:Str}{st:hG}{ps:List Str}{od df:Option ao}{sl:Array (Option az)}{ii da O6 ht ch e9:az}
def Ojn{B:Sort _}{f g:List az->B}(h:f []=g []):∀ay,ac ay=ac ([]:List Str)->f ay=g ay
 |[],_=>h
def Ojc{B:Sort _}{f g:List az->B}{p:Str}(h:∀a ay,ac ay=ac ps->f (a::ay)=g (a::ay)):∀ay,ac ay=ac (p::ps)->f ay=g ay
 |a::y,e=>h a y ‹e›
def Oj(l:(K.lookup f=I {ii,od,.func<|nS x qual (ql st) (mM st) (a6 st) .none da O6 ht df ch e9,sl})<|>zzk)(c:zO K ch qual=aa<|>zzk)(k:jY K (.ref f)=aa<|>zzk)
  (b:∀(da doc ht:az) (df:Option ao) (d e9:az) (ay:List az),ac ay=ac ps->FX (nS x qual (ql st) (mM st) (a6 st) .none da doc ht df d e9) {ay,[]}=pure (ps.zip ay):=by
   intro _ _ _ _ _ _;repeat refine RC.Ojc λ_=>?_
   exact RC.Ojn rfl):FnAt K x qual st ps f (nS x qual (ql st) (mM st) (a6 st) .none da O6 ht df ch e9):={N2 l c k,(N2 l c k).qq b}
def uZ{bk:eS}(X:K.In h)(G:h.Ns eh mg)(g:(g7 K eh x=I (I<|.ref f))<|>zzk)(k:FnAt K x x st ps f bk:=by exact RC.Oj):b2 K mg x st ps f bk:={k,s9 X G g}
def alx{bk:eS}(g:(iZ K (.ref C) m=I (I<|.ref f))<|>zzk)(i:qY K (.ref f)=aa<|>zzk)(c:jY K (.ref f)=aa<|>zzk)(k:FnAt K m qual st ps f bk:=by exact RC.Oj):hD K C m qual st ps f bk:={k,{g,i,(c)}}
def alB(X:K.In h)(G:h.Ns eh mg)(g:(g7 K eh x=I (I<|.ref C))<|>zzk)(i:(iZ K (.ref C) "__init__"=I (I<|.ref f))<|>zzk)(a:v6 K C nR=aa<|>zzk)(b:tb K C=aa<|>zzk)
  (c:Ga K C=aa<|>zzk) (d:(iZ K (.ref C) "__setattr__"=I (I<|.builtin "object.__setattr__"))<|>zzk) (e:Gd K C=aa<|>zzk) (k:qY K (.ref f)=aa<|>zzk) (l:jY K (.ref C)=aa<|>zzk):iQ K mg x C f:=
 {{a,b,c,(d)},s9 X G g,{e,i,k,(l)}}
def Na{o:Obj}:iA C [(C,o)]=I o:=by unfold iA;rw[nQ]
def Ub{o:Obj}(q:K.lookup C=I o):lg K C=lg [(C,o)] C:=by unfold lg;rw[q,Na]
def Ua{o:Obj}(q:K.lookup C=I o):tH K C=tH [(C,o)] C:=by unfold tH PySem.W.clsIn;rw[q,Na]
def alg{o:Obj}(X:K.In h)(G:h.Ns eh mg)(g:(g7 K eh x=I (I<|.ref C))<|>zzk)(i:(iZ K (.ref C) "__init__"=I (I<|.ref f))<|>zzk)(a:(iZ K (.ref C) "__getattribute__"=I (I<|.builtin "BaseException.__getattribute__"))<|>zzk)
  (b:iZ K (.ref C) "__getattr__"=I ag<|>zzk) (c:tb K C=aa<|>zzk) (q:K.lookup C=I o<|>zzk) (r:lg [(C,o)] C=aa<|>zze) (e:tH [(C,o)] C=aa<|>zze) (d:(iZ K (.ref C) "__setattr__"=I (I<|.builtin "object.__setattr__"))<|>zzk)
  (k:qY K (.ref f)=aa<|>zzk) (l:jY K (.ref C)=aa<|>zzk):mW K mg x C f:=
 {{a,b,c,(Ua q).trans e,d},s9 X G g,{(Ub q).trans r,i,k,l}}
def aln(g:iZ K (.ref C) m=I ag<|>zzk):cK K C m:=g
def alw{n:Int}{t:Nat}(X:K.In h)(G:h.Ns eh mg)(g:(g7 K eh x=I (I<|.int n t))<|>zzk):eP mg x (.int n):={_,s9 X G g,t,D}
def alu{n:Str}{t:Nat}(X:K.In h)(G:h.Ns eh mg)(g:(g7 K eh x=I (I<|.str n t))<|>zzk):eP mg x (.str n):={_,s9 X G g,t,D}
def alv(X:K.In h)(G:h.Ns eh mg)(g:(g7 K eh x=I (I<|.ref a))<|>zzk):eP mg x (.ref a):={_,s9 X G g,D}
structure iM(K:bR)(a:ao)(i j:Nat)(f:ao):Prop where
 a2:∀H:aP,d1 K H a [.int i,.int j,.ref f]
def ali{i j n t b:Nat}{sl:Array (Option az)}(l:K.lookup a=I {.type "tuple",od,.seq #[.int (i:Int) t,.int (j:Int) b,.ref f] n,sl}<|>zzk):iM K a i j f:=⟨λH=>.inr {_,_,_,l,D,D,(by change 3<=bg;decide),.cons {_,D}<|.cons {_,D}<|.cons D .nil}⟩
end
def eV:(Nat->Nat)
 |3=>1
 |4=>1
 |7=>1
 |11=>1
 |_=>0
def fw:(Nat->Nat)
 |0=>1
 |2=>1
 |5=>1
 |6=>1
 |7=>1
 |8=>1
 |9=>1
 |12=>2
 |13=>1
 |_=>0
def Q'(br:bR->bC):(Prop):=∀{P:bS} {w:bL} {K:bR} {mg:Str->Option az} {h:bG} {cr cn f1 f2 cS c3 df dr dF dS d4 co ct cx cy cz cA cB cC cD cF cG cH cI cJ cK cN cO cP cQ cR cT cU cV cW cX cY cZ c0 c1 c2 c4 c5 c7 c8 c9 c' da dc dd de dg dh di dj dk dl dm dn dp dq ds du dw dx dy dz dA dB dC dE dG dH dI dJ dK dL dO dP dQ dR dU dV dW dX dY dZ d0 d1 d2 d3 d5 d6 k l m n o p q r c d e f g i j cp cq cs cu cv cw b H S T U V W X a Y J L M N O Q R ca hp fK z A B C D E F G t u v x y:ao} {lI ab aH aT a5 bi bw bM bZ cb ad ar aw ax aA aB aC aD aF aG aI aJ aK aL aM aN aO aP aQ aS aV aW aX aY aZ a0 a1 a2 a3 a4 a6 a7 a8 a9 a' ba bc bd be bf bl bm bn bo bp bq bs bt bu bv bx bA bB bD bE bF bH bI bJ bK bN bO bP bQ bT bU bV bW bX bY b0 b1 b2 b3 b4 b5 b6 b7 b8 b' cc cd cf cg ch ci cj ck cl cm ae af ah ai aj ak al am an aq as au av:eS} {d7 d8 ef eg ei ej ek el em ep d9 d' ea ed ee Z:Nat},
  K.In h->
  h.Ns eh mg->
  mg "answers"=I (.ref cr)->
  P' K mg cn f1 f2 cS c3 df dr dF dS b H S T U V W X lI ab aH aT a5 bi bw bM bZ->
  Qc K mg d4 co ct cx cy cz cA cB cC cD cF cG cH cI cJ cb ad ar aw ax aA aB aC aD aF aG aI aJ aK aL->
  P7 K mg cK cN cO cP cQ aM aN aO aP aQ->
  Qf K mg cR cT cU cV cW cX cY cZ c0 c1 c2 c4 c5 c7 c8 c9 a Y J aS aV aW aX aY aZ a0 a1 a2 a3 a4 a6 a7 a8 a9 a'->
  Qe K mg c' da dc dd de dg dh ba bc bd be bf bl bm->
  Qg K mg di dj dk dl dm dn dp L bn bo bp bq bs bt bu->
  Qd K mg dq ds du dw dx M bv bx bA bB bD->
  Qb K mg dy dz dA dB dC dE dG dH dI dJ N O bE bF bH bI bJ bK bN bO bP bQ->
  P8 K mg dK dL dO dP dQ dR Q bT bU bV bW bX bY->
  P9 K mg dU dV dW dX dY dZ d0 d1 d2 d3 d5 d6 b0 b1 b2 b3 b4 b5 b6 b7 b8 b' cc cd->
  Qa K mg k l m n o p q r c d e f g i j cp cq cs cu cv cw R cf cg ch ci cj ck cl cm ae af ah ai aj ak al am an aq as au av->
  pj K (.ref a)=I (.type "type")->
  jX K a (.type "BaseException")=I aa->
  jX K a (.ref a)=I aa->
  pj K (.ref b)=I (.type "type")->
  jX K b (.type "BaseException")=I aa->
  eP mg "CALLS" (.ref ca)->
  K.lookup ca=I {.type "dict",ag,.dict #[{0,.int 0 d7,.ref hp},{1,.int 1 d8,.ref fK},{2,.int 2 ef,.ref z},{3,.int 3 eg,.ref A},{4,.int 4 ei,.ref B},{5,.int 5 ej,.ref C},{6,.int 6 ek,.ref D},{7,.int 7 el,.ref E},{8,.int 8 em,.ref F},{9,.int 9 ep,.ref G},{10,.int 10 d9,.ref t},{11,.int 11 d',.ref u},{12,.int 12 ea,.ref v},{13,.int 13 ed,.ref x},{14,.int 14 ee,.ref y}] Z,#[]}->
  iM K hp (eV 0) (fw 0) k->
  iM K fK (eV 1) (fw 1) l->
  iM K z (eV 2) (fw 2) m->
  iM K A (eV 3) (fw 3) n->
  iM K B (eV 4) (fw 4) o->
  iM K C (eV 5) (fw 5) p->
  iM K D (eV 6) (fw 6) q->
  iM K E (eV 7) (fw 7) r->
  iM K F (eV 8) (fw 8) c->
  iM K G (eV 9) (fw 9) d->
  iM K t (eV 10) (fw 10) e->
  iM K u (eV 11) (fw 11) f->
  iM K v (eV 12) (fw 12) g->
  iM K x (eV 13) (fw 13) i->
  iM K y (eV 14) (fw 14) j->
  g7 K eh "len"=I ag->
  g7 K eh "all"=I ag->
  g7 K eh "set"=I ag->
  g7 K eh "sorted"=I ag->
  g7 K eh "zip"=I ag->
  g7 K eh "range"=I ag->
  g7 K eh "str"=I ag->
  g7 K eh "int"=I ag->
  g7 K eh "ord"=I ag->
  g7 K eh "list"=I ag->
  g7 K eh "tuple"=I ag->
  g7 K eh "enumerate"=I ag->
  g7 K eh "max"=I ag->
  g7 K eh "reversed"=I ag->
  ∃bk:eS,(∀(s:bb) (ay:List az),ac ay=↥(["calls"]:List Str)->tF s bk {ay,[]} ((["calls"]:List Str).zip ay))/\∀base:bG,K.In base->base.Ns eh mg->c6 P w K mg base (cL P w) 11 cr bk ["calls"] (br K)
def alG:(Prop):=∃br:bR->bC,Q' br/\∀(K:bR) (H:aP) (xs:List ab) (a:W.Codec.denoteAll Rw0.args),qy H->W.Codec.withinAll Rw0.args a=aa->RL Rw0.args Rw0.asked a=aa->jS K H xs (W.Codec.encAll Rw0.args a)->
  br K xs H (λv U=>gj K U v<|Rw0.ret.enc<|RL Rw0.args Rw0.f a) λ_ _ _=>False
end RC
end
section
open PySem PySem.W PyProof.Rows
def RC.qc (_ : RC.alG) (p : Prop) :( Prop ):= p
theorem RC.keepP (a : RC.alG) {p : Prop} (h : RC.qc a p) : p := h
open Lean in
local macro_rules|`(#where)=>do
 let mut r:=#[]
 let p n:MacroM Command:=do `(theorem $(mkIdent<|.str `PySem.W.Fast s!"tw{Name.hash n}") : True:=trivial)
 for n in(List.range 1060).map (s!"o_{·}")++["env_3","heap_1","heap_8","heap_1053","view_1","sts_11","sts_997"]++[9,33,55,77,99,121,143,165,206,293,326,349,372,433,515,567,590,641,699,741,793,873,962,994,1052].flatMap λi=>[s!"tree_{i}",s!"sts_{i+1}"] do r:=r.push (<-p (.str `RC.head1 n))
 return mkNullNode<|r.push (<-p `PySem.Challenge.pw_requestclasses_s01_answers)
#where
local macro_rules | `(tactic| refine $f:ident $as*) => do if f.getId == `PySem.W.holds_os && as.back!.raw.isOfKind ``Lean.Parser.Term.syntheticHole then `(tactic| refine $f $(as.pop)* (RC.keepP ‹RC.alG› $(as.back!))) else Lean.Macro.throwUnsupported
set_option maxHeartbeats 0 in
theorem RC.head1(a:RC.alG):Rw0.Holds:=by
  w_on;k_headS;(case hw=>exact⟨[.list [.int 14]],by decide +kernel,by decide +kernel⟩)
  k_fillS
  obtain ⟨sp, b, hs⟩ := id a
  refine L2.alh (li:=Rw0) (Uu:=11) (wPs:=["calls"]) (Hj:=sp) (by decide +kernel) rfl rfl ⟨rfl,by decide,by decide⟩ (fun w h Y=>PySem.W.kIn_of Y) ?F hs
  intro w mg fa h Y KX G hmg
  unfold RC.Q' at b
  apply b KX G hmg
  iterate 11 (constructor<;>first|exact RC.uZ KX G|exact RC.aln|k_is|exact RC.Oj|exact RC.alx|exact RC.alB KX G|exact RC.alg KX G|exact RC.alw KX G|exact RC.alu KX G|exact RC.alv KX G)
  all_goals first | k_is | exact RC.alv KX G | exact RC.ali
end
section
local macro_rules(kind:=«term_<|>_»)|s=>mT s
local macro_rules(kind:=«term_⁻¹»)|s=>mT s
local macro_rules(kind:=«term∃_,_»)|s=>mT s
local macro_rules(kind:=Lean.Parser.Tactic.tacticLet__)|s=>mT s
local macro_rules(kind:=Lean.Parser.Tactic.rwSeq)|s=>mT s
local macro_rules(kind:=Lean.Parser.Tactic.show)|s=>mT s
local macro_rules(kind:=Lean.Parser.Term.fun)|s=>mT s
local macro_rules(kind:=Lean.Parser.Tactic.change)|s=>mT s
local macro_rules(kind:=Lean.Parser.Tactic.cases)|s=>mT s
local macro_rules(kind:=Lean.Parser.Command.declaration)|s=>mD true s
open Lean in
local macro_rules|`(def $n:ident $b* :bC:=fun $v $h $q $e=>∃$x:explicitBinders,$p)=>do
 let f(s:Syntax):Ident:=if s.isIdent then ⟨s⟩ else mI "E'"
 let mut l:=#[]
 for(i,t)in mB x do l:=l.push (<-`(bracketedBinder|($(⟨i⟩):ident : $(t.getD i))))
 for a in mC p do l:=l.push (<-`(bracketedBinder|(h : $a)))
 `(inductive $n $b* ($(f v) : List L2.ab) ($(f h) : L2.aP) ($(f q) : L2.dR) ($(f e) : L2.gh) : Prop|$(mI "mk"):ident $l*)
local macro_rules(kind:=«term{_}»)|s=>mT s
local macro_rules(kind:=Lean.Parser.Term.omission)|s=>mT s
local macro_rules(kind:=Lean.Parser.Tactic.omega)|s=>mT s
local macro_rules(kind:=«term∅»)|s=>mT s
local macro_rules(kind:=«term‹_›»)|s=>mT s
local macro_rules(kind:=coeSortNotation)|s=>mT s
local macro_rules(kind:=Lean.Parser.Term.tuple)|s=>mT s
noncomputable section
namespace RC
open Vapola
def kX c:∀t,cutAt c t≠[]
 |[]=>by simp[cutAt]
 |b::r=>by
  unfold cutAt;split
  .simp
  .split<;>simp
def ah9 c:cutAt c []=[[]]:=D
def lK c(r:aE):cutAt c (c::r)=[]::cutAt c r:=by
 rw[cutAt,aM D]
def mO(h:b≠c) r:∃w ws,cutAt c r=w::ws/\cutAt c (b::r)=(b::w)::ws:=by
 cases e:cutAt c r with
 |nil=>show absurd e<|kX c r
 |cons w ws=>show{w,ws,D,?_};rw[cutAt,aD h,e]
def i7 s t r(h:r≠[]):glued s (t::r)=t++(s++glued s r):=by
 cases r with
 |nil=>show absurd rfl h
 |cons a b=>rfl
def mJ c:∀t,glued [c] (cutAt c t)=t
 |[]=>rfl
 |b::r=>by
  by_cases h:b=c
  .subst h;rw[lK,i7 _ _ _<|kX _ _,mJ b r];rfl
  .let{w,ws,q,(b7)}:=mO h r
   have a:=mJ c r;rw[q]at a;rw[b7];cases ws with
   |nil=>have:w=r:=a;change b::w=b::r;rw[this]
   |cons v vs=>rw[i7 _ _ _ ()]at a⊢;rw[ju,a]
def ym c:∀t w,w∈cutAt c t->c∉w
 |[],w,h=>by
  have:=by simpa[cutAt]using h
  grind
 |b::r,w,h=>by
  by_cases a:b=c
  .subst a;rw[lK]at h;obtain rfl|h:=bK.mp h
   .simp
   .show ym b r w h
  .let{v,vs,e,(d)}:=mO a r
   rw[d]at h;obtain rfl|h:=bK.mp h
   .have f:=ym c r v (by grind);grind
   .show ym c r w (by grind)
def D2:∀{w:aE} (r:aE),c∉w->cutAt c (w++c::r)=w::cutAt c r
 |[],r,_=>lK c r
 |b::w,r,h=>by
  have b7:b≠c:=λq=>h<|q▸i1;have g:=D2 r λq=>h<|eJ _ q
  let{v,vs,a,(d)}:=mO b7<|w++c::r
  rw[g]at a;injection a with e f
  rw[ju,d,<-e,<-f]
def D3:∀{w:aE},c∉w->cutAt c w=[w]
 |[],_=>rfl
 |b::w,h=>by
  have b7:b≠c:=λq=>h<|q▸i1;have e:=D3 λq=>h<|eJ _ q
  let{v,vs,a,(d)}:=mO b7 w
  grind
def mP:∀{ws:List aE},ws≠[]->(∀w∈ws,c∉w)->cutAt c (glued [c] ws)=ws
 |[],h,_=>absurd rfl h
 |[w],_,h=>D3<|h w ()
 |w::v::r,_,h=>by change cutAt c (w++c::glued [c] (v::r))=_;rw[D2 _<|h w (),mP () λx a=>h x<|eJ _ a]
def OF(a:ws≠[])(h:∀w∈ws,c∉w):glued [c] ws=t↔ws=cutAt c t:=by
 constructor
 .rintro rfl;show(mP a h).symm
 .rintro rfl;show mJ c t
def NW:∀{a b:List aE},a≠[]->b≠[]->glued s (a++b)=glued s a++(s++glued s b)
 |[],_,h,_=>absurd rfl h
 |[x],b,_,h=>by rw[q6,i7 _ _ _ h];rfl
 |x::y::r,b,_,h=>by have q:=NW (s:=s) (a:=y::r) () h;have c:glued s (x::y::r++b)=x++(s++glued s (y::r++b)):=i7 s x (y::r++b) ();have d:=i7 s x (y::r) ();rw[c,q,d];simp
def nx t:bz t=aa↔(∃b,∃r,t=b::r/\g5 b=aa)/\ac t<=12/\∀b∈t,g5 b=aa\/eQ b=aa:=by
 unfold bz LONG;rw[cf,cf,dg];show and_congr ?_<|and_congr tx ?_
 .cases t with
  |nil=>simp
  |cons b r=>simp
 simp
def Xb b:g5 b=aa↔97<=b.toNat/\b.toNat<=122:=by unfold g5;rw[cf,dg,dg,F2];show tx
def sc b:eQ b=aa↔48<=b.toNat/\b.toNat<=57:=by unfold eQ;rw[cf,dg,dg,F2];show tx
def Ir b:m6 b=aa↔32<=b.toNat/\b.toNat<=126:=by unfold m6;rw[cf,dg,dg,F2];show tx
def ik(h:bz t=aa)(O:g5 c=ap)(Y:eQ c=ap):c∉t:=λq=>by
 obtain z|z:=((nx t).mp h).2.2 c q
 .rw[O]at z;cases z
 grind
def CS(h:bz t=aa):t≠[]:=by
 let{{b,r,e,_},_}:=(nx t).mp h
 rw[e];simp
def CU(h:bz t=aa):∃b,∃r,t=b::r/\g5 b=aa:=((nx t).mp h).1
def val(t:aE):=t.foldl (λn b=>10*n+(b.toNat-48)) 0
def wH t b:val (t++[b])=10*val t+(b.toNat-48):=by
 unfold val;simp
def O0:∀f g n,n<f->n<g->digitsFrom f n=digitsFrom g n
 |0,_,_,h,_=>by omega
 |f+1,0,_,_,h=>by omega
 |f+1,g+1,n,O,Y=>by
  unfold digitsFrom;split
  .rfl
  .rw[O0 f g (n/10) ∅ ∅]
def sd(h:n<10):dt n=[gF<|48+n]:=by
 unfold dt digitsFrom;rw[aM h]
def yk(h:10<=n):dt n=dt (n/10)++[gF<|48+n%10]:=by
 unfold dt;conv=>lhs;unfold digitsFrom
 rw[aD ∅,O0 n (n/10+1) (n/10) ∅ ∅]
def Mh(h:eQ b=aa):gF (48+(b.toNat-48))=b:=by have:=(sc b).mp h;rw[show 48+(b.toNat-48)=b.toNat by omega];simp
def BZ{A:Type}{P:List A->Prop}(kc:P [])(KW:∀l a,P l->P (l++[a])) l:P l:=by
 have:∀m:List A,P m.reverse:=by
  intro m;induction m with
  |nil=>show kc
  |cons a m b=>show Gv▸KW _ _ b
 have h:=this l.reverse;grind
def Uv:∀t:aE,t≠[]->(∀b∈t,eQ b=aa)->t.head?≠I 48->1<=val t:=by
 show BZ ?_ ?_
 .simp
 .intro l a f _ af d;rw[wH];cases l with
  |nil=>have g:=(sc a).mp (by grind);have:a≠48:=λq=>d (by rw[q];rfl);have:a.toNat≠48:=λq=>this (UInt8.toNat.inj<|by rw[q];rfl);omega
  |cons b r=>have:=f () (λc e=>af c<|la _ e) ‹d›;omega
def af':∀t:aE,t≠[]->(∀b∈t,eQ b=aa)->(ac t=1\/t.head?≠I 48)->dt (val t)=t:=by
 show BZ ?_ ?_
 .simp
 .intro l a h _ af d;have e:=af a ();have i:=(sc a).mp e;rw[wH];cases l with
  |nil=>change dt (10*0+_)=[a];rw[sd ∅,show 48+(10*0+(a.toNat-48))=48+(a.toNat-48) by omega,Mh e]
  |cons b r=>
   have Y:(b::r).head?≠I 48:=by
    obtain d|d:=d
    .simp at d
    .simpa using d
   have f:=λc g=>af c<|la _ g;have j:=Uv (b::r) () f Y;rw[yk ∅,show(10*val (b::r)+(a.toNat-48))/10=val (b::r) by omega,show(10*val (b::r)+(a.toNat-48))%10=a.toNat-48 by omega,h () f<|.inr Y,Mh e]
def mN:∀n,(∀b∈dt n,eQ b=aa)/\dt n≠[]/\(↥(dt n)=1\/(dt n).head?≠I 48)/\val (dt n)=n:=by
 intro n;induction n using SE with
 |_ n j=>
  by_cases h:n<10
  .have e:∀k,k<10->eQ (gF<|48+k)=aa/\val [gF<|48+k]=k:=by decide
   rw[sd h];show{λb a=>by rw[cy.mp a];show(e n h).1,(),.inl D,(e n h).2}
  .let{O,Y,d,(f)}:=j (n/10) ∅
   have e:∀k,k<10->eQ (gF<|48+k)=aa/\(gF<|48+k).toNat-48=k:=by decide
   have g:=e (n%10) ∅;rw[yk ∅];show{λb a=>?_,(),.inr ?_,?_}
   .obtain a|a:=cN.mp a
    .show O b a
    .rw[cy.mp a];show g.1
   .cases e:dt (n/10)with
    |nil=>show absurd e Y
    |cons c r=>
     obtain d|d:=d
     .have i:r=[]:=by
       grind
      subst i;rw[e]at f;intro q;rw[d3 q]at f;have:(0:Nat)=n/10:=f;omega
     .rw[e]at d;show d
   .rw[wH,f,g.2];omega
def wQ(h:g0 t=I n):dt n=t/\n<=h5/\(∀b∈t,eQ b=aa)/\t≠[]:=by
 unfold g0 at h;split at h
 .rename_i q;rw[cf,cf,cf,di,lf]at q
  let{f,g,i,(a)}:=q
  have c:t≠[]:=λe=>by rw[e]at f;simp at f
  dsimp only at h;split at h
  .rename_i hle;have d:=d3 h;show{?_,d▸hle,g,c};rw[<-d];show af' t c g ?_;obtain a|a:=a
   .show .inl ‹a›
   .show .inr ‹a›
  .cases h
 .cases h
def tO t:g0 t=if t≠[]/\ac t<=7/\(∀b∈t,eQ b=aa)/\dt (val t)=t/\val t<=h5 then I (val t)else ag:=by
 by_cases c:t≠[]/\ac t<=7/\(∀b∈t,eQ b=aa)/\dt (val t)=t/\val t<=h5
 .rw[aM c]
  let{O,Y,f,g,(h)}:=c
  unfold g0;rw[aM ?_]at⊢
  .change(if val t<=h5 then I (val t)else ag)=_;rw[aM h]
  .rw[cf,cf,cf,dg,di,lf];show{by cases t with|nil=>show absurd rfl O|cons a b=>rfl,f,Y,?_};have:=(mN<|val t).2.2.1;rw[g]at this;obtain q|q:=this
   .show .inl ‹q›
   .show .inr ‹q›
 .rw[aD c];cases e:g0 t with
  |none=>rfl
  |some n=>
   let{d,i,j,(k)}:=wQ e
   have l:val t=n:=d▸(mN n).2.2.2;unfold g0 at e;grind
def hS(t:aE)(most:Nat):(Option hH):=
 if t.head?=I 47 then
  (if t=[47]then I []else(let p:=(cutAt 47 t).drop 1;if ac p<=most/\p.all bz=aa then I p else ag))
 else ag
def Oa{p:hH}(h:p≠[]):p.flatMap (λn=>47::n)=47::glued [47] p:=by
 induction p with
 |nil=>show absurd rfl h
 |cons a r c=>
  cases r with
  |nil=>rw[h8,Af,gI];rfl
  |cons b s=>rw[h8,c ()];rfl
def Cp(h:hS t m=I p):en p=t/\ac p<=m/\p.all bz=aa:=by
 unfold hS at h;split at h
 .rename_i a;split at h
  .rename_i e;cases h;show{e.symm,cI _,D}
  .dsimp only at h;split at h
   .rename_i d;cases h;show{?_,d};cases t with
    |nil=>simp at a
    |cons b r=>
     have c:=‹a›
     subst c;rw[lK,GH,g9];unfold en;rw[aD<|by rw[q9];show kX _ _,Oa<|kX _ _,mJ]
   .cases h
 .cases h
def Ly t m:hS t m=(sR t).bind λp=>if ac p<=m then I p else ag:=by
 unfold sR;by_cases d:t=[47]
 .subst d;rfl
 .rw[aD d];unfold hS;cases t with
  |nil=>rfl
  |cons b r=>
   by_cases g:b=47
   .subst g;rw[aM<|show(47::r:aE).head?=I 47 from D,aD d,lK];dsimp only;have h:(cutAt 47 r).isEmpty=ap:=by
     cases e:cutAt 47 r with
     |nil=>show absurd e<|kX _ _
     |cons a c=>rfl
    rw[GH,g9,h];by_cases f:(cutAt 47 r).all bz=aa
    .rw[f];simp
    .rw[aD λq=>f q.2,aD (by show f)];rfl
   .rw[aD ‹g›]
    let{w,ws,_,e}:=mO g r
    rw[e];rfl
def oF(ws:List aE):(Option (List dT)):=
 if ws.all (λw=>w.head?==I 43)=aa then
  (let aF:=ws.map λw=>w.drop 1;if ac aF<=16/\aF.all bz=aa/\rising aF=aa then I aF else ag)
 else ag
def ai3:flagsOf ws=if ws.all (λw=>w.head?==I 43)=aa then I (ws.map λw=>w.drop 1)else ag:=by
 unfold flagsOf;induction ws with
 |nil=>rfl
 |cons w r c=>
  rw[cx,allOf,c,ra];cases w with
  |nil=>rfl
  |cons b s=>
   by_cases a:b=43
   .subst a;simp
   .have e:(((b::s:aE).head?==I 43)&&r.all λw=>w.head?==I 43)=ap:=by
     have z:((b::s:aE).head?==I 43)=ap:=by rw[k9];show λq=>a<|d3 q
     rw[z,wy]
    rw[e];split
    .rename_i q;injection q with d _
     show absurd d a
    .rfl
def kb(t:aE):(Option iY):=match cutAt 32 t with
 |u::a::p::x::r=>if bz u=aa/\bz a=aa then(hS p 6).bind λq=>(oF (x::r).dropLast).bind λaF=>
   if((x::r).getLastD []).head?=I 64 then(g0<|((x::r).getLastD []).drop 1).map λn=>{user:=u,action:=a,path:=q,flags:=aF,time:=n}else ag
  else ag
 |_=>ag
def ad2(aF:List dT)(e:aE):aF.flatMap (λf=>32::43::f)++(32::e)=32::glued [32] (aF.map (λf=>43::f)++[e]):=by
 induction aF with
 |nil=>rfl
 |cons f r a=>rw[h8,cx,hI,a,ju (as:=hm _ r),i7 _ _ _ ()];rfl
def t4 r:l4 r=glued [32] (r.user::r.action::en r.path::(r.flags.map (λf=>43::f)++[64::dt r.time])):=by unfold l4;rw[ad2,i7 _ _ _ (),i7 _ _ _ (),i7 _ _ _ ()];rfl
def afX{ws:List aE}(h:ws.all (λw=>w.head?==I 43)=aa):(ws.map λw=>w.drop 1).map (λf=>43::f)=ws:=by
 induction ws with
 |nil=>rfl
 |cons w r a=>
  rw[ra,cf]at h;rw[cx,cx,a h.2];cases w with
  |nil=>simp at h
  |cons b s=>
   have:=‹h.1›
   rw[this];rfl
def Ih{A:Type}{l:List A}(h:l≠[]) d:l.dropLast++[l.getLastD d]=l:=by
 cases l with
 |nil=>show absurd rfl h
 |cons a r=>
  have e:(a::r).getLastD d=(a::r).getLast ():=by rfl
  show To ()
def Y8(h:kb t=I r):iU r=aa/\l4 r=t:=by
 unfold kb at h;split at h
 .rename_i u a p x d e;split at h
  .rename_i l;cases i:hS p 6 with
   |none=>rw[i]at h;cases h
   |some q=>
    rw[i]at h;cases c:oF (x::d).dropLast with
    |none=>rw[c]at h;cases h
    |some aF=>
     rw[c]at h;split at h
     .rename_i f;cases j:g0 (((x::d).getLastD []).drop 1)with
      |none=>rw[j]at h;cases h
      |some n=>
       rw[j]at h;cases h
       let{o,cQ,(v)}:=Cp i
       let{fK,w,_}:=wQ j
       unfold oF at c;split at c
       .rename_i ax;dsimp only at c;split at c
        .rename_i g;cases c;show{?_,?_}
         .unfold iU;simp only[cf,dg];show{l.1,l.2,v,cQ,g.2.1,g.2.2,g.1,(w)}
         .rw[t4,o,fK,afX ax];have m:64::((x::d).getLastD []).drop 1=(x::d).getLastD []:=by
           cases k:(x::d).getLastD []with
           |nil=>rw[k]at f;simp at f
           |cons b s=>
            rw[k]at f;have:=‹f›
            rw[this];rfl
          rw[m,Ih (),<-e];show mJ 32 t
        .cases c
       .cases c
     .cases h
  .cases h
 .cases h
def pY(h:iS t=I r):iU r=aa/\l4 r=t:=by
 unfold iS at h;split at h
 .cases b:sR _ with
  |none=>rw[b]at h;cases h
  |some q=>
   rw[b]at h;cases a:flagsOf _ with
   |none=>rw[a]at h;cases h
   |some aF=>
    rw[a]at h;split at h
    .cases c:g0 _ with
     |none=>rw[c]at h;cases h
     |some n=>
      rw[c]at h;simp only[d4]at h;split at h
      .grind
      .cases h
    .cases h
 .cases h
def kV r:iU r=aa↔bz r.user=aa/\bz r.action=aa/\r.path.all bz=aa/\ac r.path<=6/\r.flags.all bz=aa/\rising r.flags=aa/\ac r.flags<=16/\r.time<=h5:=by unfold iU;simp only[cf,dg];show tx
def xC(h:p.all bz=aa)(O:g5 c=ap)(Y:eQ c=ap)(a:c≠47):c∉en p:=by
 unfold en;split
 .simpa using a
 .intro q
  let{n,d,(b)}:=js.mp q
  obtain z|z:=bK.mp b
  .show a z
  .show ik (by grind) O Y z
def OZ{t:aE}(h:∀b∈t,eQ b=aa)(Y:eQ c=ap):c∉t:=λq=>by
 grind
def un(h:p.all bz=aa):sR (en p)=I p:=by
 cases p with
 |nil=>rfl
 |cons a r=>
  have c:en (a::r)=47::glued [47] (a::r):=by unfold en;rw[aD (),Oa ()]
  rw[c];unfold sR;have b:∀w∈a::r,47∉w:=λw ax=>ik (di.mp h w ax) ⋯ ⋯;have f:¬((47:UInt8)::glued [47] (a::r)=[47]):=by
   intro q;injection q with _ q
   have e:=mP () b;rw[q]at e;injection e with d _
   show CS (by grind) d.symm
  rw[aD f,lK,mP () b];dsimp only;rw[aM (by rw[h];rfl)]
def rl(h:n<=h5):g0 (dt n)=I n:=by
 let{c,d,i,(a)}:=mN n
 rw[tO,aM ?_,a]at⊢;show{d,?_,c,by rw[a],by rw[a];show h};have h:n<=1000000:=h;by_cases b:n<10
 .rw[sd b];simp
 have len:∀k m,m<10^(k+1)->↥(dt m)<=k+1:=by
  intro k;induction k with
  |zero=>intro m e;show sd ∅▸bA 1
  |succ k g=>
   intro m e;by_cases f:m<10
   .rw[sd f];simp
   .rw[yk ∅,b0];have:=g (m/10) ∅;change _+1<=_;omega
 show len 6 n ∅
def Y7(h:iU r=aa):kb (l4 r)=I r:=by
 let{d,b,c,cQ,f1,f2,g,(fK)}:=(kV r).mp h
 let{m,n,_,_}:=mN r.time
 have a:g5 32=ap/\eQ 32=ap:=by decide
 have j:∀w∈r.user::r.action::en r.path::(r.flags.map (λf=>(43:UInt8)::f)++[64::dt r.time]),(32:UInt8)∉w:=by
  intro w ax;simp only[bK,cN,ct,h6,h0]at ax;obtain rfl|rfl|rfl|⟨f,i,rfl⟩|rfl:=ax
  .show ik d a.1 a.2
  .show ik b a.1 a.2
  .show xC c a.1 a.2 ⋯
  .intro q;obtain z|z:=bK.mp q
   .show absurd z ⋯
   .show ik (di.mp f1 f i) a.1 a.2 z
  .intro q;grind
 have ax:∀l:List aE,(l.map λf=>(43:UInt8)::f).all (λw=>w.head?==I 43)=aa:=λl=>by simp
 have k:∀l:List aE,(l.map λf=>(43:UInt8)::f).map (λw=>w.drop 1)=l:=λl=>by
  rw[dh];conv=>rhs;rw[<-ts l]
  rfl
 unfold kb;rw[t4,mP () j];cases e:r.flags.map (λf=>(43:UInt8)::f)++[64::dt r.time]with
 |nil=>simp at e
 |cons x o=>dsimp only;rw[aM {d,(b)},Ly,un c];simp only[d4];rw[aM cQ];rw[<-e,wr,S5];unfold oF;rw[aM<|ax _,k];rw[aM {g,f1,(f2)}];simp only[d4];rw[GH,g9,rl fK];rfl
def Y6(h:iU r=aa):iS (l4 r)=I r:=by
 let{j,d,c,cQ,f1,f2,n,(fK)}:=(kV r).mp h
 let{k,m,_,_}:=mN r.time
 have a:g5 32=ap/\eQ 32=ap:=by decide
 have g:∀w∈r.user::r.action::en r.path::(r.flags.map (λf=>43::f)++[64::dt r.time]),32∉w:=by
  intro w ax;simp only[bK,cN,ct,h6,h0]at ax;obtain rfl|rfl|rfl|⟨f,e,rfl⟩|rfl:=ax
  .show ik j a.1 a.2
  .show ik d a.1 a.2
  .show xC c a.1 a.2 ⋯
  .intro q;obtain z|z:=bK.mp q
   .show absurd z ⋯
   .show ik (di.mp f1 f e) a.1 a.2 z
  .intro q;grind
 have ax:∀l:List aE,(l.map λf=>(43:UInt8)::f).all (λw=>w.head?==I 43)=aa:=λl=>by simp
 have i:∀l:List aE,(l.map λf=>(43:UInt8)::f).map (λw=>w.drop 1)=l:=λl=>by
  rw[dh];conv=>rhs;rw[<-ts l]
  rfl
 have b:=t4 r;unfold iS;rw[b,mP () g];dsimp only;rw[un c];rw[wr,ai3,aM<|ax _,i,List.getLast?_concat]at⊢;simp only[d4];rw[rl fK];simp only[d4];rw[aM];rw[cf];show{h,by show b▸nQ _}
def Y' t:kb t=iS t:=by
 cases e:kb t with
 |some r=>
  let{O,(Y)}:=Y8 e
  rw[<-Y,Y6 O]
 |none=>
  cases a:iS t with
  |none=>rfl
  |some r=>
   let{O,(Y)}:=pY a
   rw[<-Y,Y7 O]at e;cases e
def mu:(aE):=[105,102]
def gc:(aE):=[102,114,111,109]
def eZ:(aE):=[116,111]
def n':(aE):=[100,111]
def np:(aE):=[97,116]
def gb:(aE):=[117,115,101,114]
def hL:(aE):=[103,114,111,117,112]
def et:(aE):=[97,110,121]
def P2:eH "if"=mu:=D
def ai':eH "from"=gc:=D
def ai9:eH "to"=eZ:=D
def aja:eH "do"=n':=D
def ajb:eH "at"=np:=D
def alD:eH "user"=gb:=D
def alE:eH "group"=hL:=D
def oQ:ANY=et:=D
def j7:(Who->List aE)
 |.any=>[et]
 |.user n=>[gb,n]
 |.group n=>[hL,n]
def lh(l:List Wish):=if l.isEmpty=aa then[]else mu::l.map wishText
def dx(w:aE):(Option Nat->List aE)
 |some n=>[w,dt n]
 |none=>[]
def kU(p:Pattern):=j7 p.who++(n'::jV p.acts::np::gD p.path p.below::(lh p.wishes++(dx gc p.since++dx eZ p.until_)))
def ad1 l:l.flatMap (λw=>32::w)=if l=[]then[]else 32::glued [32] l:=by
 induction l with
 |nil=>rfl
 |cons a r c=>
  rw[h8,c];cases r with
  |nil=>simp[glued]
  |cons b s=>rfl
def DE a l:glued [32] (a::l)=a++l.flatMap (λw=>32::w):=by
 rw[ad1];cases l with
 |nil=>simp[glued]
 |cons b s=>rfl
def N5:(Option Nat->aE)
 |some n=>eH " from "++dt n
 |none=>[]
def HC:(Option Nat->aE)
 |some n=>eH " to "++dt n
 |none=>[]
def Z5 p:iT p=whoText p.who++(eH " do "++(jV p.acts++(eH " at "++(gD p.path p.below++((if p.wishes.isEmpty=aa then[]else eH " if"++p.wishes.flatMap λw=>32::wishText w)++
  (N5 p.since++HC p.until_)))))):=by
 rfl
def xy p:iT p=glued [32] (kU p):=by
 have aj:eH " do "=32::n'++[32]:=by decide+kernel
 have aA:eH " at "=32::np++[32]:=D;have d:eH " if"=32::mu:=by decide+kernel
 have e:eH " from "=32::gc++[32]:=by decide
 have f:eH " to "=32::eZ++[32]:=by decide+kernel
 have ax:whoText p.who=glued [32] (j7 p.who):=by
  cases p.who with
  |any=>rfl
  |user n=>rfl
  |group n=>rfl
 have au:(if p.wishes.isEmpty=aa then[]else eH " if"++p.wishes.flatMap λw=>32::wishText w)=(lh p.wishes).flatMap (λw=>(32:UInt8)::w):=by
  unfold lh;split
  .rfl
  .rw[d,h8,List.flatMap_map]
 have a:N5 p.since=(dx gc p.since).flatMap (λw=>(32:UInt8)::w):=by
  cases p.since with
  |none=>rfl
  |some n=>change eH " from "++dt n=_;rw[e];simp[dx]
 have c:HC p.until_=(dx eZ p.until_).flatMap (λw=>(32:UInt8)::w):=by
  cases p.until_ with
  |none=>rfl
  |some n=>change eH " to "++dt n=_;rw[f];simp[dx]
 have b:j7 p.who≠[]:=by cases p.who<;>simp[j7]
 rw[Z5,au,a,c,aj,aA,ax];unfold kU;rw[NW b (),DE n'];simp
def fl p:jp p=aa↔isWho p.who=aa/\(p.acts.all (λa=>bz a&&a !=ANY)=aa/\distinct p.acts=aa/\ac p.acts<=6)/\(p.path.all bz=aa/\ac p.path<=5)/\
  (p.wishes.all (λw=>bz w.flag)=aa/\rising (p.wishes.map λw=>w.flag)=aa/\ac p.wishes<=6)/\(∀n,p.since=I n->n<=h5)/\(∀n,p.until_=I n->n<=h5):=by
 unfold jp;simp only[cf,dg];have l:∀o,(o.all λn=>decide (n<=h5))=aa↔∀n,o=I n->n<=h5:=by
  intro o;cases o with
  |none=>simp
  |some n=>simp
 rw[l,l];constructor
 .rintro⟨a,b,c,d,e,f,g,h,i,j,k⟩;show{a,{b,c,(d)},{e,(f)},{g,h,(i)},j,k}
 .rintro⟨a,⟨b,c,d⟩,⟨e,f⟩,⟨g,h,i⟩,j,k⟩;show{a,b,c,d,e,f,g,h,i,j,(k)}
def adJ(d:c∉s)(h:∀w∈l,c∉w):c∉glued s l:=by
 induction l with
 |nil=>simp[glued]
 |cons a r e=>
  cases r with
  |nil=>show h a ()
  |cons b t=>rw[i7 s a (b::t) ()];grind
def Cr(h:jp p=aa):∀w∈kU p,32∉w:=by
 let{b,{c,_,_},{f,_},{f1,_,_},_,_}:=(fl p).mp h
 have a:g5 32=ap/\eQ 32=ap:=by decide
 intro w ax;unfold kU at ax;simp only[cN,bK]at ax;obtain ax|rfl|rfl|rfl|rfl|ax|ax|ax:=ax
 .cases e:p.who with
  |any=>
   rw[e]at ax;have:w=et:=by simpa[j7]using ax
   rw[this];decide
  |user n=>
   rw[e]at ax b;simp only[j7,bK,h6,h0]at ax;obtain rfl|rfl:=ax
   .decide
   .show ik b a.1 a.2
  |group n=>
   rw[e]at ax b;simp only[j7,bK,h6,h0]at ax;obtain rfl|rfl:=ax
   .decide
   .show ik b a.1 a.2
 .decide
 .unfold jV;split
  .decide+kernel
  .show adJ ⋯ λw ax=>?_;have:=di.mp c w ax;rw[cf]at this;show ik this.1 a.1 a.2
 .decide
 .unfold gD;have:=xC f a.1 a.2 ⋯;split
  .split
   .decide
   .simp only[cN,l5];show{this,⋯}
  .show this
 .unfold lh at ax;split at ax
  .simp at ax
  .obtain rfl|ax:=bK.mp ax
   .decide
   .let{x,d,(rfl)}:=ct.mp ax;unfold wishText;intro q;obtain z|z:=bK.mp q
    .split at z<;>show absurd z ⋯
    .show ik (di.mp f1 x d) a.1 a.2 z
 .cases e:p.since with
  |none=>rw[e]at ax;simp[dx]at ax
  |some n=>
   rw[e]at ax;simp only[dx,bK,h6,h0]at ax;obtain rfl|rfl:=ax
   .decide
   .show OZ (mN n).1 a.2
 .cases e:p.until_ with
  |none=>rw[e]at ax;simp[dx]at ax
  |some n=>
   rw[e]at ax;simp only[dx,bK,h6,h0]at ax;obtain rfl|rfl:=ax
   .decide
   .show OZ (mN n).1 a.2
def Cq p:kU p≠[]:=by unfold kU;simp
def Z4(h:jp p=aa) t:iT p=t↔kU p=cutAt 32 t:=by rw[xy];show OF (Cq p)<|Cr h
def af(l:List aE):=l.headD []
def jx(l:List aE):(Option (Who×List aE)):=
 if af l=et then I (.any,l.drop 1)
 else if(af l=gb\/af l=hL)/\bz (af<|l.drop 1)=aa then I (if af l=gb then .user (af<|l.drop 1)else .group (af<|l.drop 1),l.drop 2)
 else ag
def lO(w:aE):(Option (List dT)):=
 if w=et then I []else(let l:=cutAt 44 w;if ac l<=6/\l.all bz=aa/\distinct l=aa/\l.contains et=ap then I l else ag)
def i9(w:aE):=[47,42].isSuffixOf w
def mT(w:aE):(Option hH):=
 if w=[47,42]then I []
 else if i9 w=aa then(if w=[47,47,42]then ag else hS (w.take<|ac w-2) 5)
 else hS w 5
def ge(w:aE):=w.head?==I 43||w.head?==I 45
def ha:(List aE->List Wish×List aE)
 |[]=>([],[])
 |w::r=>if ge w=aa then(let y:=ha r;({flag:=w.drop 1,on:=w.head?==I 43}::y.1,y.2))else([],w::r)
def i2 l:=
 if af l=mu then(let y:=ha<|l.drop 1;if 1<=ac y.1/\ac y.1<=6/\y.1.all (λw=>bz w.flag)=aa/\rising (y.1.map λw=>w.flag)=aa then I y else ag)
 else I ([],l)
def kl word l:=
 if af l=word then(g0<|af<|l.drop 1).map λn=>(I n,l.drop 2)else I (ag,l)
def mA(t:aE):(Option Pattern):=
 (jx<|cutAt 32 t).bind λx=>
  if af x.2=n' then(lO<|af<|x.2.drop 1).bind λacts=>
   if af (x.2.drop 2)=np then(mT<|af<|x.2.drop 3).bind λp=>(i2<|x.2.drop 4).bind λz=>
    (kl gc z.2).bind λb=>(kl eZ b.2).bind λc=>
     if c.2=[]then I {who:=x.1,acts:=acts,path:=p,below:=i9<|af<|x.2.drop 3,wishes:=z.1,since:=b.1,until_:=c.1}else ag
   else ag
  else ag
def DB a r:af (a::r)=a:=D
def lC{l:List aE}(h:af (l.drop i)≠[]):l.drop i=af (l.drop i)::l.drop (i+1):=by
 cases e:l.drop i with
 |nil=>rw[e]at h;show absurd rfl h
 |cons a r=>
  have:l.drop (i+1)=r:=by rw[<-Ai,e];rfl
  rw[this];rfl
def Um(h:jx l=I (w,r)):l=j7 w++r/\isWho w=aa:=by
 unfold jx at h;split at h
 .rename_i e;cases h;show{?_,D};have:=lC (i:=0) (by rw[g9,e];decide);rw[g9,e]at this;show this
 .split at h
  .rename_i d
   let{O,(Y)}:=d
   have a:=lC (l:=l) (by rw[g9];obtain O|O:=O<;>rw[O]<;>decide);have c:=lC (l:=l) (i:=1)<|CS Y;rw[g9]at a;cases h;split
   .rename_i b;show{?_,Y};rw[b,c]at a;show a
   .rename_i b;have f:=O.resolve_left b;show{?_,Y};rw[f,c]at a;show a
  .cases h
def Ul(h:isWho w=aa) r:jx (j7 w++r)=I (w,r):=by
 cases w with
 |any=>rfl
 |user n=>have e:=h;change jx (gb::n::r)=_;unfold jx;rw[aD<|by rw[DB];decide,aM {.inl D,e}]at⊢;rfl
 |group n=>have e:bz n=aa:=h;change jx (hL::n::r)=_;unfold jx;rw[aD<|by rw[DB];decide,aM {.inr D,e}]at⊢;rfl
def OV{l:List dT}:l.contains et=ap↔∀a∈l,(a !=ANY)=aa:=by
 rw[oQ];constructor
 .intro h a b;rw[v0];rintro rfl;grind
 .intro h;cases e:l.contains et with
  |false=>rfl
  |true=>have:=h _<|ex.mp e;rw[v0]at this;show absurd rfl this
def ai6(h:lO w=I l):jV l=w/\(l.all (λa=>bz a&&a !=ANY)=aa/\distinct l=aa/\ac l<=6):=by
 unfold lO at h;split at h
 .rename_i e;cases h;show{e▸oQ,D,D,cI _}
 .dsimp only at h;split at h
  .rename_i i;cases h
   let{c,d,f,(g)}:=i
   show{?_,?_,f,c}
   .unfold jV;rw[aD<|by rw[q9];show kX _ _,mJ]
   .rw[di];intro a b;rw[cf];show{di.mp d a b,OV.mp g a b}
  .cases h
def PY(h:l.all (λa=>bz a&&a !=ANY)=aa/\distinct l=aa/\ac l<=6):lO (jV l)=I l:=by
 let{O,Y,(d)}:=h
 have c:=λa g=>by have:=di.mp O a g;rwa[cf]at this
 cases l with
 |nil=>show aM oQ
 |cons a r=>
  have f:∀w∈a::r,44∉w:=λw ax=>ik (c w ax).1 ⋯ ⋯;have e:jV (a::r)=glued [44] (a::r):=by rfl
  have i:¬glued [44] (a::r)=et:=by
   intro q;have ax:=(OF () f).mp q;have d:cutAt 44 et=[et]:=by decide
   have b:=(c a ()).2;injection ax with ax _
   rw[ax,v0]at b;show b oQ.symm
  rw[e];unfold lO;rw[aD i,mP () f,aM {d,di.mpr λx b=>(c x b).1,Y,OV.mpr λx b=>(c x b).2}]
def DU w:i9 w=aa↔∃u,w=u++[47,42]:=by
 unfold i9;rw[S4];constructor
 .rintro⟨u,h⟩;grind
 .rintro⟨u,h⟩;show{u,(h.symm)}
def xB(h:p.all bz=aa):42∉en p:=xC h ⋯ ⋯ ⋯
def aiQ(h:mT w=I p):gD p (i9 w)=w/\p.all bz=aa/\ac p<=5:=by
 unfold mT at h;split at h
 .rename_i e;cases h;subst e;show{D,D,cI _}
 .split at h
  .rename_i a;split at h
   .cases h
   .rename_i f
    let{u,(c)}:=(DU w).mp a
    have d:w.take (ac w-2)=u:=by simp_all
    rw[d]at h
    let{O,Y,(b)}:=Cp h
    show{?_,b,Y};rw[a];unfold gD;rw[aM D,aD ?_,O,<-c]at⊢;intro q;have:=q9.mp q;subst this;have:=O.symm;rw[this]at c;show f c
  .rename_i a
   let{O,Y,(b)}:=Cp h
   show{?_,b,Y};unfold gD;rw[aD a,O]
def OL(h:p.all bz=aa) b:i9 (gD p b)=b:=by
 cases b with
 |true=>
  rw[DU];unfold gD;rw[aM D];split
  .show{[],D}
  simp
 |false=>
  cases e:i9 (gD p ap)with
  |false=>rfl
  |true=>
   let{u,(a)}:=(DU _).mp e
   exfalso;show xB h ?_;have:gD p ap=en p:=D;grind
def aiP(h:p.all bz=aa)(g:ac p<=5) b:mT (gD p b)=I p:=by
 have d:=OL h b;have c:hS (en p) 5=I p:=by rw[Ly,un h];change(if ac p<=5 then I p else ag)=I p;rw[aM g]
 unfold mT;cases b with
 |false=>
  have e:gD p ap=en p:=D;rw[d,e,aD ?_]at⊢
  .show c
  .intro q;have:=xB h;grind
 |true=>
  rw[d];cases p with
  |nil=>rfl
  |cons a r=>
   have e:gD (a::r) aa=en (a::r)++[47,42]:=D;have i:en (a::r)=47::a++r.flatMap (λn=>47::n):=D
   let{x,y,f,(j)}:=CU<|di.mp h a ()
   have k:x≠47:=by rintro rfl;revert j;decide
   rw[e,aD ?_,aM D,aD ?_,b0]at⊢
   .change hS ((en (a::r)++[47,42]).take<|↥(en<|a::r)+2-2) 5=_;rw[Nat.add_sub_cancel,SQ];show c
   .grind
   .rw[i,f];intro q;simp at q
def adj w:ge (wishText w)=aa/\(wishText w).drop 1=w.flag/\((wishText w).head?==I 43)=w.on:=by unfold wishText ge;cases w.on<;>show{D,D,(rfl)}
def wF:∀{l:List aE} {ws:List Wish} {r:List aE},ha l=(ws,r)->l=ws.map wishText++r/\(r≠[]->ge (af r)=ap)
 |[],ws,r,h=>by cases h;simp
 |w::l,ws,r,h=>by
  unfold ha at h;split at h
  .rename_i ax;cases e:ha l with
   |mk a b=>
    rw[e]at h;cases h
    let{O,(Y)}:=wF e
    show{?_,Y};congr 1;unfold ge at ax;cases w with
    |nil=>simp at ax
    |cons x y=>
     change x::y=(if((I x==I 43)=aa)then 43 else 45)::y;by_cases c:x=43
     .rw[aM<|by rw[c];rfl,c]
     .have d:x=45:=by
       grind
      rw[aD<|‹c›,d]
  .rename_i ax;cases h;show{D,λ_=>by simpa[af]using ax}
def Hc:∀ws r,(r≠[]->ge (af r)=ap)->ha (ws.map wishText++r)=(ws,r)
 |[],r,h=>by
  cases r with
  |nil=>rfl
  |cons a s=>have:=h ();change ha (a::s)=_;unfold ha;rw[aD (by rw[show ge a=ap from this];simp)]
 |w::ws,r,h=>by
  let{O,Y,(b)}:=adj w
  rw[cx,ju];unfold ha;rw[aM O,Hc ws r h,Y,b]
def Ug(h:i2 l=I (ws,r)):l=lh ws++r/\(ws.all (λw=>bz w.flag)=aa/\rising (ws.map λw=>w.flag)=aa/\ac ws<=6):=by
 unfold i2 at h;split at h
 .rename_i e;have d:=lC (by rw[g9,e];decide);rw[g9,e]at d;dsimp only at h;split at h
  .rename_i c;cases f:ha (l.drop 1)with
   |mk a b=>
    rw[f]at h c;cases h
    let{O,_}:=wF f
    show{?_,c.2.2.1,c.2.2.2,c.2.1};rw[d,O];unfold lh;rw[aD ?_]at⊢
    .rfl
    .rw[q9];rintro rfl;show absurd c.1 ()
  .cases h
 .cases h;show{D,D,D,cI _}
def Uf(h:ws.all (λw=>bz w.flag)=aa/\rising (ws.map λw=>w.flag)=aa/\ac ws<=6) r(a:r≠[]->ge (af r)=ap)(au:af r≠mu):
  i2 (lh ws++r)=I (ws,r):=by
 unfold lh;cases ws with
 |nil=>change i2 r=_;unfold i2;rw[aD au]
 |cons w ws=>rw[aD ()];unfold i2;rw[aM<|by rfl,show(mu::(w::ws).map wishText++r).drop 1=(w::ws).map wishText++r from D,Hc _ _ a,aM {(),h.2.2,h.1,h.2.1}]
def Pt{w:aE}(ax:w≠[])(h:kl w l=I (o,r)):l=dx w o++r/\∀n,o=I n->n<=h5:=by
 unfold kl at h;split at h
 .rename_i e;have a:=lC (by rw[g9,e];show ax);rw[g9,e]at a;cases b:g0 (af<|l.drop 1)with
  |none=>rw[b]at h;cases h
  |some n=>
   rw[b]at h;cases h
   let{fK,g,_,i}:=wQ b
   have c:=lC (l:=l) i;show{?_,λm d=>by cases d;show g};rw[c,<-fK]at a;show a
 .cases h;show{D,λn f=>by cases f}
def Ps(h:∀n,o=I n->n<=h5) r(a:af r≠w):kl w (dx w o++r)=I (o,r):=by
 cases o with
 |none=>change(if af r=w then _ else _)=_;rw[aD a];rfl
 |some n=>change(if af (w::dt n::r)=w then _ else _)=_;rw[aM<|DB _ _];change Sw _ (g0<|dt n)=_;rw[rl<|h n D];rfl
def aaa(h:mA t=I p):jp p=aa/\kU p=cutAt 32 t:=by
 unfold mA at h;cases k:jx (cutAt 32 t)with
 |none=>rw[k]at h;cases h
 |some x=>
  rw[k,d4]at h
  let{w,(l)}:=x
  dsimp only at h;split at h
  .rename_i A;cases d:lO (af<|l.drop 1)with
   |none=>rw[d]at h;cases h
   |some acts=>
    rw[d,d4]at h;split at h
    .rename_i v;cases j:mT (af<|l.drop 3)with
     |none=>rw[j]at h;cases h
     |some q=>
      rw[j,d4]at h;cases hz:i2 (l.drop 4)with
      |none=>rw[hz]at h;cases h
      |some z=>
       rw[hz,d4]at h
       let{ws,(O)}:=z
       dsimp only at h;cases f:kl gc O with
       |none=>rw[f]at h;cases h
       |some b=>
        rw[f,d4]at h
        let{since,(P)}:=b
        dsimp only at h;cases g:kl eZ P with
        |none=>rw[g]at h;cases h
        |some c=>
         rw[g,d4]at h
         let{T,(S)}:=c
         dsimp only at h;split at h
         .rename_i K;cases h;subst K
          let{ba,(bN)}:=Um k
          let{m,(n)}:=ai6 d
          let{B,cQ,(M)}:=aiQ j
          let{Q,(R)}:=Ug hz
          let{D,(E)}:=Pt ⋯ f
          let{F,(G)}:=Pt ⋯ g
          show{(fl _).mpr {bN,n,{cQ,(M)},R,E,G},?_};unfold kU;dsimp only;rw[ba,m,B];congr 1;have C:af (l.drop 1)≠[]:=by
           rw[<-m];unfold jV;split
           .rw[oQ];decide
           .rename_i L;cases acts with
            |nil=>show absurd rfl L
            |cons a r=>
             let{x,y,e,_}:=CU (by have:=di.mp n.1 a ();rw[cf]at this;show this.1);cases r with
             |nil=>change a≠[];rw[e];simp
             |cons b s=>rw[i7 [44] a (b::s) (),e];simp
          have N:af (l.drop 3)≠[]:=by
           rw[<-B];unfold gD en;split
           .split
            .simp
            .simp
           .cases q with
            |nil=>simp
            |cons a r=>simp
          have o:=lC (l:=l) (i:=0) (by rw[g9,A];decide);have H:=lC (l:=l) (i:=1) C;have u:=lC (l:=l) (i:=2) (by rw[v];decide);have J:=lC (l:=l) (i:=3) N;rw[g9,A]at o;rw[v]at u;rw[o];congr 1;change _=l.drop 1;rw[H];congr 1;change _=l.drop 2;rw[u];congr 1;change _=l.drop 3;rw[J];congr 1;change _=l.drop 4;rw[Q,D,F,gI]
         .cases h
    .cases h
  .cases h
def Z'(h:jp p=aa):mA (iT p)=I p:=by
 let{g,d,{c,(cQ)},f1,aj,f}:=(fl p).mp h
 have b:∀o,af (dx eZ o)=[]\/af (dx eZ o)=eZ:=λo=>by cases o with|none=>show .inl D|some n=>show .inr D
 have a:af (dx gc p.since++dx eZ p.until_)=[]\/af (dx gc p.since++dx eZ p.until_)=eZ\/af (dx gc p.since++dx eZ p.until_)=gc:=by
  cases p.since with
  |none=>show(b p.until_).imp id .inl
  |some n=>show .inr<|.inr D
 unfold mA;rw[xy,mP (Cq p)<|Cr h];unfold kU;rw[Ul g,d4];change zW (lO<|jV p.acts) _=_;rw[PY d];change zW (mT<|gD p.path p.below) _=_;rw[aiP c cQ,d4];change zW (i2<|lh p.wishes++(dx gc p.since++dx eZ p.until_)) _=_;rw[Uf f1 _ (λ_=>?_) ?_,d4]at⊢
 .rw[Ps aj _ ?_,d4]at⊢
  .have:=Ps (w:=eZ) f [] ⋯;rw[gI]at this;rw[this,d4];dsimp only;change I {who:=p.who,acts:=p.acts,path:=p.path,below:=i9<|gD p.path p.below,wishes:=p.wishes,since:=p.since,until_:=p.until_}=I p;rw[OL c]
  .obtain e|e:=b p.until_<;>rw[e]<;>decide
 .obtain e|e|e:=a<;>rw[e]<;>decide
 .obtain e|e|e:=a<;>rw[e]<;>decide
def nj(r:List aE):=match r with
 |i::s=>if i=eH "if" then wishesOf s else([],r)
 |[]=>([],[])
def Ct(t:aE)(w:Who)(a:aE)(y:hH×Bool)(r:List aE):(Option Pattern):=
 (qS (eH "from") (nj r).2).bind λb=>(qS (eH "to") b.2).bind λc=>
  if(jp {who:=w,acts:=v1 a,path:=y.1,below:=y.2,wishes:=(nj r).1,since:=b.1,until_:=c.1}&&iT {who:=w,acts:=v1 a,path:=y.1,below:=y.2,wishes:=(nj r).1,since:=b.1,until_:=c.1}==t)=aa then
   I {who:=w,acts:=v1 a,path:=y.1,below:=y.2,wishes:=(nj r).1,since:=b.1,until_:=c.1}else ag
def Cs(t:aE)(w:Who):(List aE->Option Pattern)
 |d::a::v::p::r=>if d=eH "do"/\v=eH "at" then(atOf p).bind λy=>Ct t w a y r else ag
 |_=>ag
def Ls t:qO t=(sI<|cutAt 32 t).bind λx=>Cs t x.1 x.2:=D
def xz(h:qO t=I p):jp p=aa/\iT p=t:=by
 rw[Ls]at h;cases f:sI (cutAt 32 t)with
 |none=>rw[f]at h;cases h
 |some x=>
  rw[f,d4]at h;unfold Cs at h;split at h
  .split at h
   .rename_i g r _ _;cases e:atOf g with
    |none=>rw[e]at h;cases h
    |some q=>
     rw[e,d4]at h;unfold Ct at h;cases a:qS (eH "from") (nj r).2 with
     |none=>rw[a]at h;cases h
     |some b=>
      rw[a,d4]at h;cases d:qS (eH "to") b.2 with
      |none=>rw[d]at h;cases h
      |some c=>
       rw[d,d4]at h;split at h
       .grind
       .cases h
   .cases h
  .cases h
def aiM(h:p.all bz=aa) b:atOf (gD p b)=I (p,b):=by
 unfold atOf;cases b with
 |true=>
  cases p with
  |nil=>rfl
  |cons a r=>
   have e:gD (a::r) aa=en (a::r)++[47,42]:=D
   let{x,y,c,(f)}:=CU<|di.mp h a ()
   have d:en (a::r)=47::a++r.flatMap (λn=>47::n):=D;rw[e,aD<|by rw[d,c];simp,List.reverse_append];change zW (sR (en<|a::r).reverse.reverse) _=_;rw[List.reverse_reverse,un h];rfl
 |false=>
  have e:gD p ap=en p:=D;rw[e,aD λq=>by have:=xB h;grind];split
  .exfalso;show xB h ?_;simp_all
  .rw[un h];rfl
def Uj w:wishOf (wishText w)=I w:=by
 let{f,(o)}:=w
 cases o<;>rfl
def Hb:∀ws r,(af r=[]\/af r=eZ\/af r=gc)->wishesOf (ws.map wishText++r)=(ws,r)
 |[],r,h=>by
  cases r with
  |nil=>rfl
  |cons a s=>obtain h|h|h:=h<;>(subst h;rfl)
 |w::ws,r,h=>by rw[cx,ju];unfold wishesOf;rw[Uj,Hb ws r h]
def Pr(h:∀n,o=I n->n<=h5) r(b:af r≠w)(ax:w≠[]):qS w (dx w o++r)=I (o,r):=by
 cases o with
 |none=>
  change qS w r=_;unfold qS;split
  .rename_i a n s;have b:¬a=w:=b;rw[aD b]
  .rfl
 |some n=>change(if w=w then(g0<|dt n).map (λk=>(I k,r))else _)=_;rw[aM D,rl<|h n D];rfl
def Z6(h:jp p=aa):qO (iT p)=I p:=by
 let{u,d,{l,(cQ)},f1,aj,m}:=(fl p).mp h
 have c:∀o:Option Nat,af (dx eZ o)=[]\/af (dx eZ o)=eZ:=λo=>by cases o with|none=>show .inl D|some n=>show .inr D
 have a:af (dx gc p.since++dx eZ p.until_)=[]\/af (dx gc p.since++dx eZ p.until_)=eZ\/af (dx gc p.since++dx eZ p.until_)=gc:=by
  cases p.since with
  |none=>show(c p.until_).imp id .inl
  |some n=>show .inr<|.inr D
 have k:∀r,sI (j7 p.who++r)=I (p.who,r):=by
  intro r;cases p.who with
  |any=>change sI (et::r)=_;unfold sI;dsimp only;rw[aM oQ.symm]
  |user n=>rfl
  |group n=>rfl
 have j:v1 (jV p.acts)=p.acts:=by
  have:=PY d;unfold lO at this;unfold v1;rw[oQ];by_cases e:jV p.acts=et
  .rw[aM e]at this⊢;show d3 this
  .rw[aD e]at this⊢;dsimp only at this;split at this
   .show d3 this
   .cases this
 have hz:nj (lh p.wishes++(dx gc p.since++dx eZ p.until_))=(p.wishes,dx gc p.since++dx eZ p.until_):=by
  cases t:p.wishes with
  |nil=>
   change nj (dx gc p.since++dx eZ p.until_)=_;generalize q:dx gc p.since++dx eZ p.until_=g at a;cases g with
   |nil=>rfl
   |cons i s=>change(if i=eH "if" then _ else _)=_;rw[aD];rw[P2];have:af (i::s)=i:=D;rw[this]at a;obtain e|e|e:=a<;>rw[e]<;>decide
  |cons w ws=>change nj (mu::(hm wishText (w::ws)++(dx gc p.since++dx eZ p.until_)))=_;unfold nj;dsimp only;rw[aM P2.symm,Hb _ _ a]
 have b:=xy p;rw[Ls,b,mP (Cq p)<|Cr h];have f:sI (kU p)=I (p.who,_):=k _;rw[f,d4];unfold Cs;dsimp only;rw[aM {aja.symm,(ajb.symm)},aiM l,d4];unfold Ct;rw[hz,ai',ai9];dsimp only;rw[Pr aj _ ?_ ⋯,d4]at⊢
 .dsimp only;have:=Pr (w:=eZ) m [] ⋯ ⋯;rw[gI]at this;rw[this,d4,j];dsimp only;rw[aM];rw[cf];show{h,by rw[<-b];show nQ _}
 .obtain e|e:=c p.until_<;>rw[e]<;>decide
def aab t:mA t=qO t:=by
 cases e:mA t with
 |some p=>
  let{O,(Y)}:=aaa e
  have b:=(Z4 O t).mpr Y;rw[<-b,Z6 O]
 |none=>
  cases a:qO t with
  |none=>rfl
  |some p=>
   let{O,(Y)}:=xz a
   rw[<-Y,Z' O]at e;cases e
def fk b:=[10,32,42,43,44,45,47,58,64].contains b||eQ b||g5 b
def b4 b:=if fk b=aa then b else if m6 b=aa then 63 else 33
def Iv(h:fk b=aa):b4 b=b:=by unfold b4;rw[aM h]
def Nr(h:fk (b4 b)=aa):b4 b=b:=by
 unfold b4 at h⊢;split
 .rfl
 .rename_i O;rw[aD O]at h;split at h
  .show absurd h ⋯
  .show absurd h ⋯
def Xm(a:fk c=aa):b4 b=c↔b=c:=by
 constructor
 .intro h;have:=Nr<|h▸a;grind
 .rintro rfl;show Iv a
def Iu(h:b≠10):b4 b=33↔m6 b=ap:=by
 unfold b4;by_cases a:fk b=aa
 .rw[aM a];have d:m6 b=aa:=by
   unfold fk at a;rw[lf,lf]at a;rw[Ir];obtain(a|a)|a:=a
   .have c:=ex.mp a;simp only[bK,h6,h0]at c;obtain rfl|rfl|rfl|rfl|rfl|rfl|rfl|rfl|rfl:=c
    .show absurd rfl h
    all_goals decide
   .have:=(sc b).mp a;omega
   .have:=(Xb b).mp a;omega
  rw[d];constructor
  .rintro rfl;show absurd a ⋯
  simp
 grind
def C8{t:aE}(h:∀b∈t,fk b=aa):t.map b4=t:=by
 conv=>rhs;rw[<-ts t]
 show pr λb a=>Iv<|h b a
def M4{t:aE}(h:∀b∈t.map b4,fk b=aa):t.map b4=t:=by
 conv=>rhs;rw[<-ts t]
 show pr λb a=>Nr (by grind)
def tS{A:Type}{F:aE->Option A}(d:∀t a,F t=I a->∀b∈t,fk b=aa) t:F (t.map b4)=F t:=by
 cases e:F t with
 |some a=>rw[C8<|d t a e,e]
 |none=>
  cases c:F (t.map b4)with
  |none=>rfl
  |some a=>rw[M4<|d _ a c,e]at c;cases c
def acS(h:g5 b=aa):fk b=aa:=by unfold fk;rw[h,Az]
def Nu(h:eQ b=aa):fk b=aa:=by unfold fk;rw[h,Az,TO]
def jE(h:bz t=aa):∀b∈t,fk b=aa:=λb a=>by
 obtain z|z:=((nx t).mp h).2.2 b a
 .show acS z
 .show Nu z
def x2(e:fk c=aa)(h:∀w∈l,∀b∈w,fk b=aa):∀b∈glued [c] l,fk b=aa:=by
 induction l with
 |nil=>intro b d;simp[glued]at d
 |cons a r f=>
  cases r with
  |nil=>show h a ()
  |cons x y=>
   rw[i7 [c] a (x::y) ()];intro b d;simp only[cN,cy]at d;obtain d|rfl|d:=d
   .show h a () b d
   .show e
   .show f (λw ax=>h w<|eJ _ ax) b d
def Dm(h:p.all bz=aa):∀b∈en p,fk b=aa:=by
 unfold en;split
 .intro b a;rw[cy.mp a];decide
 .intro b a
  let{n,d,(c)}:=js.mp a
  obtain rfl|z:=bK.mp c
  .decide
  .show jE (by grind) b z
def Dn n:∀b∈dt n,fk b=aa:=λb a=>Nu<|(mN n).1 b a
def acT(h:iU r=aa):∀b∈l4 r,fk b=aa:=by
 let{e,c,d,cQ,f1,f2,g,(fK)}:=(kV r).mp h
 rw[t4];show x2 ⋯ λw ax=>?_;simp only[bK,cN,ct,h6,h0]at ax;obtain rfl|rfl|rfl|⟨f,i,rfl⟩|rfl:=ax
 .show jE e
 .show jE c
 .show Dm d
 .intro b a;obtain rfl|z:=bK.mp a
  .decide
  .show jE (by grind) b z
 .intro b a;obtain rfl|z:=bK.mp a
  .decide
  .show Dn _ b z
def kf{t:aE}(h:t.all fk=aa):∀b∈t,fk b=aa:=di.mp h
def Nt(h:jp p=aa):∀b∈iT p,fk b=aa:=by
 let{c,{f,_,_},{d,_},{f1,_,_},_,_}:=(fl p).mp h
 rw[xy];show x2 ⋯ λw ax=>?_;unfold kU at ax;simp only[cN,bK]at ax;obtain ax|rfl|rfl|rfl|rfl|ax|ax|ax:=ax
 .cases e:p.who with
  |any=>
   rw[e]at ax;have:w=et:=by simpa[j7]using ax
   rw[this];show kf ⋯
  |user n=>
   rw[e]at ax c;simp only[j7,bK,h6,h0]at ax;obtain rfl|rfl:=ax
   .show kf ⋯
   .show jE c
  |group n=>
   rw[e]at ax c;simp only[j7,bK,h6,h0]at ax;obtain rfl|rfl:=ax
   .show kf ⋯
   .show jE c
 .show kf ⋯
 .unfold jV;split
  .rw[oQ];show kf ⋯
  .show x2 ⋯ λw ax=>?_;have:=di.mp f w ax;rw[cf]at this;show jE this.1
 .show kf ⋯
 .unfold gD;split
  .split
   .show kf ⋯
   .intro b a;obtain a|a:=cN.mp a
    .show Dm d b a
    .show kf (t:=[47,42]) ⋯ b a
  .show Dm d
 .unfold lh at ax;split at ax
  .simp at ax
  .obtain rfl|ax:=bK.mp ax
   .show kf ⋯
   .let{x,g,(rfl)}:=ct.mp ax;unfold wishText;intro b a;obtain z|z:=bK.mp a
    .rw[z];split<;>decide
    .show jE (di.mp f1 x g) b z
 .cases e:p.since with
  |none=>rw[e]at ax;simp[dx]at ax
  |some n=>
   rw[e]at ax;simp only[dx,bK,h6,h0]at ax;obtain rfl|rfl:=ax
   .show kf ⋯
   .show Dn n
 .cases e:p.until_ with
  |none=>rw[e]at ax;simp[dx]at ax
  |some n=>
   rw[e]at ax;simp only[dx,bK,h6,h0]at ax;obtain rfl|rfl:=ax
   .show kf ⋯
   .show Dn n
def my t:kb (t.map b4)=iS t:=by
 rw[Y'];show tS (λt r h=>?_) t
 let{O,(Y)}:=pY h
 show Y▸acT O
def Lr t:mA (t.map b4)=qO t:=by
 rw[aab];show tS (λt r h=>?_) t
 let{O,(Y)}:=xz h
 show Y▸Nt O
def Z3(h:qO t=I p):t.map b4=t/\iT p=t:=by
 let{O,(Y)}:=xz h
 show{C8<|Y▸Nt O,Y}
def MB t:namesOf (t.map b4)=namesOf t:=by
 show tS (λt r h=>?_) t;unfold namesOf at h;split at h
 .grind
 .split at h
  .rename_i a;show mJ 32 t▸x2 ⋯ λw ax=>jE (by grind)
  .cases h
def afM{t:aE}(h:bz n=aa):t.map b4=n↔t=n:=by
 constructor
 .intro e;have:=M4<|e▸jE h;grind
 .rintro rfl;show C8<|jE h
def Hu:USER=[117,115,101,114,32]:=D
def rh:mh=[103,114,111,117,112,32]:=D
def O8(a:∀b,b4 b=c↔b=c):∀t,cutAt c (t.map b4)=(cutAt c t).map (hm b4)
 |[]=>rfl
 |b::r=>by
  have b7:=O8 a r;by_cases h:b=c
  .subst h;rw[cx,(a b).mpr D,lK,lK,b7];rfl
  .let{w,ws,e,(f)}:=mO h r
   let{v,vs,d,(g)}:=mO (λq=>h<|(a b).mp q)<|r.map b4
   rw[b7,e]at d;injection d with i j
   rw[cx,g,f,<-i,<-j];rfl
inductive m0 where
 |user (n:dT)
 |group (g:iB)
def lE(l:aE):(Option iB):=
 if l.contains 58=aa then
  (let a:=l.takeWhile (·!=58)
   let b:=(l.dropWhile (·!=58)).drop 1
   let n:=a.drop 6
   let cd:=cutAt 32 b
   if cd.headD []=[]/\bz n=aa then
    (if(cd.drop 1).all bz=aa/\distinct (cd.drop 1)=aa then I {name:=n,members:=cd.drop 1}else ag)
   else ag)
 else ag
def fP(l:aE):(Option m0):=
 if GROUP.isPrefixOf l=aa then(lE l).map .group
 else if USER.isPrefixOf l=aa/\bz (l.drop 5)=aa then I (.user<|l.drop 5)else ag
def dU d(l:aE)(e:Option m0):=
 if l.contains 33=aa then 1 else match e with
  |none=>2
  |some (.user u)=>if 0<ac d.groups then 3 else if(gk d).contains u=aa then 4 else if 12<=ac d.users then 5 else 0
  |some (.group g)=>if(gk d).contains g.name=aa then 4 else if 8<=ac d.groups\/12<ac g.members then 5 else 0
def jd(d:dD):(m0->dD)
 |.user u=>{d with users:=d.users++[u]}
 |.group g=>{d with groups:=d.groups++[g]}
def Cd{l:aE}(h:a.isPrefixOf l=aa):l=a++l.drop ↥a:=by
 let{r,(e)}:=pu.mp h
 rw[<-e,wq]
def wK:kt l=I u↔l=USER++u/\bz u=aa:=by
 unfold kt;constructor
 .intro h;split at h
  .rename_i q;rw[cf]at q;cases h;show{Cd q.1,q.2}
  .cases h
 .rintro⟨rfl,h⟩;have e:(USER++u).drop ↥USER=u:=wq;rw[aM,e];rw[cf];show{pu.mpr {u,(rfl)},h}
def D1{cd:List aE}(h:cutAt 32 b=[]::cd):b=cd.flatMap λm=>32::m:=by have e:=mJ 32 b;rw[h,DE]at e;show e.symm
def MZ{cd:List dT}(h:cd.all bz=aa):cutAt 32 (cd.flatMap λm=>32::m)=[]::cd:=by
 have a:∀w∈[]::cd,32∉w:=λw ax=>by
  obtain rfl|ax:=bK.mp ax
  .simp
  .show ik (by grind) ⋯ ⋯
 have:=mP () a;rw[DE]at this;show this
def r4:kv l=I g↔l=m8 g/\bz g.name=aa/\g.members.all bz=aa/\distinct g.members=aa:=by
 constructor
 .intro h;unfold kv at h;split at h
  .rename_i a b e;dsimp only at h;split at h
   .rename_i q;rw[cf]at q;split at h
    .rename_i cd f;split at h
     .rename_i c;rw[cf]at c;cases h;show{?_,q.2,c.1,c.2};have d:=mJ 58 l;rw[e]at d;rw[<-d];change a++([58]++b)=_;unfold m8;conv=>lhs;rw[Cd q.1,D1 f]
      rw[hI];rfl
     .cases h
    .cases h
   .cases h
  .cases h
 .rintro⟨rfl,O,Y,j⟩;have k:(58:UInt8)∉mh++g.name:=by
   rw[cN,l5];show{by rw[rh];decide,ik O ⋯ ⋯}
  have n:(58:UInt8)∉g.members.flatMap λm=>(32:UInt8)::m:=by
   intro q
   let{m,o,(p)}:=js.mp q
   obtain z|z:=bK.mp p
   .show absurd z ⋯
   .show ik (di.mp Y m o) ⋯ ⋯ z
  have e:m8 g=(mh++g.name)++58::(g.members.flatMap λm=>(32:UInt8)::m):=by unfold m8;rw[hI]
  unfold kv;rw[e,D2 _ k,D3 n];dsimp only;have i:(mh++g.name).drop ↥GROUP=g.name:=wq;rw[i,aM<|by rw[cf];show{pu.mpr {_,D},O},MZ Y];dsimp only;rw[aM (by rw[cf];show{Y,(j)})]
def H3{l:aE}(h:l.contains 58=aa):l=l.takeWhile (·!=58)++58::(l.dropWhile (·!=58)).drop 1/\58∉l.takeWhile (·!=58):=by
 induction l with
 |nil=>simp at h
 |cons b r e=>
  by_cases a:b=58
  .subst a;simp
  .have c:(b !=58)=aa:=by rw[v0];show a
   have d:r.contains 58=aa:=by
    rw[ni,lf]at h;obtain z|z:=h
    .show absurd (eq_of_beq z).symm a
    .show z
   let{O,(Y)}:=e d
   rw[SR,Tn,aM c,aM c];show{?_,?_}
   .rw[ju,<-O]
   .rw[bK,l5];show{λq=>a q.symm,Y}
def adH{l:aE}(i:GROUP.isPrefixOf l=aa):lE l=kv l:=by
 cases e:lE l with
 |some g=>
  symm;rw[r4];unfold lE at e;split at e
  .rename_i d
   let{aj,(aA)}:=H3 d
   dsimp only at e;split at e
   .rename_i O;split at e
    .rename_i Y;cases e;show{?_,O.2,Y.1,Y.2};have s:GROUP.isPrefixOf (l.takeWhile (·!=58))=aa:=by
      rw[pu]at i⊢
      let{r,(t)}:=i
      rw[<-t];have w:∀b∈mh,(b !=58)=aa:=by rw[rh];decide
      show{_,D}
     have k:=Cd s;have c:cutAt 32 ((l.dropWhile (·!=58)).drop 1)=[]::(cutAt 32 ((l.dropWhile (·!=58)).drop 1)).drop 1:=by
      cases f:cutAt 32 ((l.dropWhile (·!=58)).drop 1)with
      |nil=>show absurd f<|kX _ _
      |cons x y=>have:=O.1;rw[f]at this;have v:x=[]:=this;rw[v];rfl
     unfold m8;dsimp only;conv=>lhs;rw[aj]
     rw[<-D1 c];conv=>lhs;rw[k]
     rw[hI,rh];rfl
    .cases e
   .cases e
  .cases e
 |none=>
  cases j:kv l with
  |none=>rfl
  |some g=>
   exfalso
   let{o,O,Y,(p)}:=r4.mp j
   have q:(58:UInt8)∉mh++g.name:=by rw[cN,l5];show{by rw[rh];decide,ik O ⋯ ⋯}
   have a:l=(mh++g.name)++58::(g.members.flatMap λm=>(32:UInt8)::m):=by rw[o];unfold m8;rw[hI]
   have h:∀b∈mh++g.name,(b !=58)=aa:=λb c=>by rw[v0];rintro rfl;show q c
   have u:l.takeWhile (·!=58)=mh++g.name:=by rw[a,List.takeWhile_append_of_pos h,SR,aD ⋯,gI]
   have af:(l.dropWhile (·!=58)).drop 1=g.members.flatMap λm=>(32:UInt8)::m:=by rw[a,List.dropWhile_append_of_pos h,Tn,aD ⋯];rfl
   have d:l.contains 58=aa:=by rw[ex,a];simp
   have n:(mh++g.name).drop 6=g.name:=by rfl
   unfold lE at e;rw[aM d]at e;dsimp only at e;rw[u,af,MZ Y,n,aM {D,(O)},aM {Y,(p)}]at e;cases e
def acR(h:kt l=I u):∀b∈l,fk b=aa:=by
 let{rfl,(O)}:=wK.mp h;intro b a;obtain a|a:=cN.mp a
 .show kf ⋯ b a
 .show jE O b a
def acU(h:kv l=I g):∀b∈l,fk b=aa:=by
 let{rfl,O,Y,_}:=r4.mp h;intro b a;unfold m8 at a;simp only[cN,bK,js]at a;obtain a|a|rfl|⟨m,c,rfl|a⟩:=a
 .show kf ⋯ b a
 .show jE O b a
 .decide
 .decide
 .show jE (by grind) b a
def u1 l:fP l=match kt l with
  |some u=>I<|.user u
  |none=>(kv l).map .group:=by
 unfold fP;by_cases a:GROUP.isPrefixOf l=aa
 .rw[aM a,adH a];have f:kt l=ag:=by
   cases e:kt l with
   |none=>rfl
   |some u=>let{rfl,_}:=wK.mp e;rw[rh,Hu]at a;show absurd a ()
  rw[f]
 .rw[aD a];have d:kv l=ag:=by
   cases e:kv l with
   |none=>rfl
   |some g=>let{rfl,_}:=r4.mp e;show absurd (by rfl) a
  rw[d];have c:↥USER=5:=by rfl
  unfold kt;rw[c];by_cases b:USER.isPrefixOf l=aa/\bz (l.drop 5)=aa
  .rw[aM b,aM (by rw[cf];show b)]
  .rw[aD b,aD (by rw[cf];show b)];rfl
def afR l:fP (l.map b4)=fP l:=by
 rw[u1,u1,tS (λ_ _ h=>acR h) l,tS (λ_ _ h=>acU h) l]
def Nf(d:dD)(n:Nat)(e:Option m0):(Except Nat dD):=if 0<n then .error n else match e with
 |some e=>.ok<|jd d e
 |none=>.error 0
def acH d(p:10∉l):FO d (l,aa)=Nf d (dU d (l.map b4)<|fP<|l.map b4) (fP<|l.map b4):=by
 rw[afR];have r:(l.map b4).contains 33=aa↔¬l.all m6=aa:=by
  rw[ex,ct,di];constructor
  .rintro⟨b,i,e⟩ q;have:=(Iu λz=>p<|z▸i).mp e;rw[q b i]at this;cases this
  .intro q;have:∃b∈l,m6 b=ap:=by
    grind
   let{b,i,(e)}:=this
   show{b,i,(Iu λz=>p<|z▸i).mpr e}
 unfold FO;dsimp only;rw[pA];by_cases m:l.all m6=aa
 .have f:¬(l.map b4).contains 33=aa:=λq=>r.mp q m;rw[aD<|by rw[m];simp,u1];cases w:kt l with
  |some u=>
   dsimp only;by_cases h:d.groups.isEmpty=aa
   .have s:d.groups=[]:=q9.mp h;have o:gk d=d.users:=by unfold gk;rw[s];simp
    have n:¬0<ac d.groups:=by rw[s];simp
    rw[aD (by rw[h];simp)];by_cases c:d.users.contains u=aa
    .have e:dU d (l.map b4) (I<|.user u)=4:=by
      unfold dU;rw[aD f];dsimp only;rw[aD n,o,aM c]
     rw[aM c,e];rfl
    .rw[aD c];by_cases j:12<=ac d.users
     .have e:dU d (l.map b4) (I<|.user u)=5:=by
       unfold dU;rw[aD f];dsimp only;rw[aD n,o,aD c,aM j]
      rw[aM<|show USERS<=ac d.users from j,e];rfl
     .have e:dU d (l.map b4) (I<|.user u)=0:=by
       unfold dU;rw[aD f];dsimp only;rw[aD n,o,aD c,aD j]
      rw[aD<|show ¬USERS<=ac d.users from j,e];rfl
   .have v:0<ac d.groups:=by
     cases e:d.groups with
     |nil=>rw[e]at h;show absurd rfl h
     |cons a b=>simp
    have e:dU d (l.map b4) (I<|.user u)=3:=by unfold dU;rw[aD f];dsimp only;rw[aM v]
    rw[aM<|‹h›,e];rfl
  |none=>
   dsimp only;cases h:kv l with
   |none=>
    dsimp only[Option.map_none];have e:dU d (l.map b4) ag=2:=by unfold dU;rw[aD f]
    rw[e];rfl
   |some g=>
    dsimp only[Su];by_cases c:(gk d).contains g.name=aa
    .have e:dU d (l.map b4) (I<|.group g)=4:=by
      unfold dU;rw[aD f];dsimp only;rw[aM c]
     rw[aM c,e];rfl
    .rw[aD c];have t:(decide (GROUPS<=ac d.groups)||decide (MEMBERS<ac g.members))=aa↔(8<=ac d.groups\/12<ac g.members):=by
      rw[lf,dg,dg];show tx
     by_cases k:8<=ac d.groups\/12<ac g.members
     .have e:dU d (l.map b4) (I<|.group g)=5:=by
       unfold dU;rw[aD f];dsimp only;rw[aD c,aM k]
      rw[aM<|t.mpr k,e];rfl
     .have e:dU d (l.map b4) (I<|.group g)=0:=by
       unfold dU;rw[aD f];dsimp only;rw[aD c,aD k]
      rw[aD λq=>k<|t.mp q,e];rfl
 .have e:∀x,dU d (l.map b4) x=1:=λx=>by unfold dU;rw[aM<|r.mpr m]
  rw[aM<|‹m›,e];rfl
def hO:(Nat->dD->List aE->Except Fault dD)
 |_,d,[]=>.ok d
 |i,d,l::r=>if 0<dU d l (fP l)then .error {i,dU d l<|fP l}else match fP l with
   |some e=>hO (i+1) (jd d e) r
   |none=>.error ⟨i,0⟩
def Nb:∀(a':List aE) i d more,(∀l∈a',10∉l)->
  linesRead i d (a'.map (λx=>(x,aa))++more)=match hO i d (a'.map<|hm b4)with
   |.error f=>.error f
   |.ok e=>linesRead (i+ac a') e more
 |[],i,d,more,_=>rfl
 |l::r,i,d,more,h=>by
  rw[cx,ju];unfold linesRead;rw[acH d<|h l (),cx];unfold hO Nf;by_cases q:0<dU d (l.map b4) (fP<|l.map b4)
  .rw[aM q,aM q]
  .rw[aD q,aD q];cases e:fP (l.map b4)with
   |none=>rfl
   |some x=>
    dsimp only;rw[Nb r (i+1) (jd d x) more λy a=>h y<|eJ _ a,cz,show i+(ac r+1)=i+1+ac r by omega];cases hO (i+1) (jd d x) (hm (hm b4) r)with
    |error f=>rfl
    |ok e=>cases more<;>rfl
def jJ(x:aE):(Except Fault dD):=
 let a':=(cutAt 10 x).dropLast
 match hO 1 {users:=[],groups:=[]} a' with
 |.error f=>.error f
 |.ok d=>if(cutAt 10 x).getLastD []≠[]then .error {ac a'+1,1}else
  match d.groups.findIdx? λg=> !g.members.all λm=>(gk d).contains m with
  |some k=>.error {ac d.users+k+1,6}
  |none=>match d.groups.findIdx? (m7 d)with
   |some k=>.error {ac d.users+k+1,7}
   |none=>if ac d.users=0 then .error {ac a'+1,8}else .ok d
def adN{A B:Type}(f:A->B)(l:List A) a:(l.map f).getLastD (f a)=f (l.getLastD a):=by
 simp
def afY{A B:Type}(f:A->B):∀l:List A,(l.map f).dropLast=l.dropLast.map f
 |[]=>rfl
 |[a]=>rfl
 |a::b::r=>by simp
def OY t:jJ (t.map b4)=Rx t:=by
 have j:=O8 (c:=10) (λb=>Xm ⋯) t;have m:=λl h=>ym 10 t l<|List.dropLast_subset _ h;unfold jJ Rx linesOf;dsimp only;have n:(hm (hm b4)<|cutAt 10 t).getLastD []=hm b4 ((cutAt 10 t).getLastD []):=adN (hm b4) (cutAt 10 t) [];rw[Nb _ _ _ _ m,j,afY,n,bt];cases hO 1 {users:=[],groups:=[]} (((cutAt 10 t).dropLast).map<|hm b4)with
 |error f=>rfl
 |ok d=>
  dsimp only;by_cases h:(cutAt 10 t).getLastD []=[]
  .rw[aD<|by rw[h];simp,h,aM<|show[].isEmpty=aa from D,show linesRead (1+(cutAt 10 t).dropLast.length) d []= .ok (1+(cutAt 10 t).dropLast.length,d)from D];dsimp only;cases d.groups.findIdx? λg=> !g.members.all (gk d).contains with
   |some k=>rfl
   |none=>
    cases d.groups.findIdx? (m7 d)with
    |some k=>rfl
    |none=>
     by_cases i:ac d.users=0
     .rw[aM i,aM<|by rw[q9];show tu.mp i,Gr]
     .rw[aD i,aD (by rw[q9];grind)]
  .have o:hm b4 ((cutAt 10 t).getLastD [])≠[]:=λq=>h<|SY.mp q;have p:((cutAt 10 t).getLastD []).isEmpty=ap:=by
    cases e:(cutAt 10 t).getLastD []with
    |nil=>show absurd e h
    |cons a b=>rfl
   rw[aM o,p,aD eY];have:∀x,FO d (x,ap)= .error 1:=λx=>by rfl
   unfold linesRead;rw[this];dsimp only;rw[Gr]
def KC:∀a' i d e,(d.groups≠[]\/True)->hO i d a'= .ok e->(d.groups=[]->True)->
  nO e=nO d++a'.flatMap ended
 |[],i,d,e,_,h,_=>by cases h;rw[Af,gI]
 |l::r,i,d,e,_,h,_=>by
  unfold hO at h;split at h
  .cases h
  .rename_i b7;cases q:fP l with
   |none=>rw[q]at h;cases h
   |some x=>
    rw[q]at h b7;dsimp only at h;have dY:=KC r (i+1) (jd d x) e (.inr trivial) h λ_=>trivial;rw[dY,h8,<-hI];congr 1;rw[u1]at q;cases x with
    |user u=>
     have c:l=USER++u:=by
      cases b:kt l with
      |none=>simp_all
      |some v=>rw[b]at q;cases q;show(wK.mp b).1
     have a:d.groups=[]:=by
      unfold dU at b7;split at b7
      .omega
      .dsimp only at b7;split at b7
       .omega
       grind
     unfold nO jd;rw[c];dsimp only;rw[a,Af,gI,gI,List.flatMap_append,h8,Af,gI]
    |group g=>
     have c:l=m8 g:=by
      cases b:kt l with
      |none=>
       rw[b]at q;cases a:kv l with
       |none=>rw[a]at q;cases q
       |some e7=>rw[a]at q;cases q;show(r4.mp a).1
      |some v=>rw[b]at q;cases q
     unfold nO jd;rw[c];simp
def ad3(a':List aE):a'.flatMap ended=glued [10] (a'++[[]]):=by
 induction a' with
 |nil=>rfl
 |cons a r b=>rw[h8,b,ju,i7 [10] a (r++[[]]) ()];unfold ended;simp
def af4(h:jJ x= .ok d):nO d=x/\d.users≠[]:=by
 unfold jJ at h;dsimp only at h;cases e:hO 1 {users:=[],groups:=[]} (cutAt 10 x).dropLast with
 |error f=>rw[e]at h;cases h
 |ok fD=>
  rw[e]at h;dsimp only at h;split at h
  .cases h
  .rename_i a;have a:(cutAt 10 x).getLastD []=[]:=‹a›
   split at h
   .cases h
   .split at h
    .cases h
    .split at h
     .cases h
     .rename_i b;cases h;show{?_,λq=>b<|by rw[q];rfl};rw[KC _ _ _ _ (.inr trivial) e λ_=>trivial];change[]++_=x;rw[Gy,ad3];have:=Ih (kX 10 x) [];rw[a]at this;rw[this,mJ]
structure gZ(d:dD):Prop where
 cF:d.users.Nodup
 kF:↥d.users<=12
 kE:∀u∈d.users,bz u=aa
 r8:↥d.groups<=8
 r7:(d.groups.map λg=>g.name).Nodup
 uS:∀g∈d.groups,bz g.name=aa
 apart:∀g∈d.groups,g.name∉d.users
 rV:∀g∈d.groups,↥g.members<=12
 C2:∀g∈d.groups,∀m∈g.members,bz m=aa
def gZ.empty:gZ {users:=[],groups:=[]}:={ne,(),(),(),ne,(),(),(),()}
def gZ.add(h:gZ d)(f:fP l=I x)(i:¬0<dU d l (I x)):gZ (jd d x):=by
 rw[u1]at f;unfold dU at i;split at i
 .omega
 .cases x with
  |user u=>
   have k:kt l=I u:=by
    cases k:kt l with
    |none=>
     rw[k]at f;dsimp only at f;cases j:kv l with
     |none=>rw[j]at f;cases f
     |some g=>rw[j]at f;cases f
    |some v=>rw[k]at f;cases f;rfl
   have p:=(wK.mp k).2;dsimp only at i;split at i
   .omega
   .split at i
    .omega
    .rename_i e;split at i
     .omega
     .have e:u∉gk d:=λq=>e<|ex.mpr q;unfold gk at e;rw[cN,l5]at e;show{?_,?_,?_,h.r8,h.r7,h.uS,?_,h.rV,h.C2}
      .change(d.users++[u]).Nodup;rw[nf];show{h.cF,(),λa o b m=>?_};rw[cy.mp m];rintro rfl;show e.1 o
      .change(d.users++[u]).length<=12;rw[b0];change _+1<=12;omega
      .intro v n;obtain n|n:=cN.mp n
       .show h.kE v n
       .rw[cy.mp n];show p
      .intro g j q;obtain q|q:=cN.mp q
       .show h.apart g j q
       .show e.2<|ct.mpr {g,j,cy.mp q}
  |group g=>
   have j:kv l=I g:=by
    cases k:kt l with
    |none=>simp_all
    |some v=>rw[k]at f;cases f
   let{_,r,s,w}:=r4.mp j
   dsimp only at i;split at i
   .omega
   .rename_i e;split at i
    .omega
    .rename_i t;have e:g.name∉gk d:=λq=>e<|ex.mpr q;unfold gk at e;rw[cN,l5]at e;have mem:∀{y:iB},y∈(jd d<|.group g).groups->y∈d.groups\/y=g:=λc=>(cN.mp c).imp id cy.mp;show{h.cF,h.kF,h.kE,?_,?_,?_,?_,?_,?_}
     .change(d.groups++[g]).length<=8;rw[b0];change _+1<=8;omega
     .change((d.groups++[g]).map λg=>g.name).Nodup;rw[dX,nf];show{h.r7,(),λa o b m=>?_};have m:b=g.name:=‹m›
      subst m;rintro rfl;show e.2 o
     .intro y c;obtain c|rfl:=mem c
      .show h.uS y c
      .show r
     .intro y c;obtain c|rfl:=mem c
      .show h.apart y c
      .show e.1
     .intro y c;obtain c|rfl:=mem c
      .show h.rV y c
      .omega
     .intro y c;obtain c|rfl:=mem c
      .show h.C2 y c
      .show di.mp s
def KD:∀a' i d e,gZ d->hO i d a'= .ok e->gZ e
 |[],_,_,_,h,q=>by cases q;show h
 |l::r,i,d,e,h,q=>by
  unfold hO at q;split at q
  .cases q
  .rename_i dY;cases b7:fP l with
   |none=>rw[b7]at q;cases q
   |some x=>rw[b7]at q dY;show KD r (i+1) (jd d x) e (h.add b7 dY) q
def OX(h:jJ x= .ok d):gZ d:=by
 unfold jJ at h;dsimp only at h;cases e:hO 1 {users:=[],groups:=[]} (cutAt 10 x).dropLast with
 |error f=>rw[e]at h;cases h
 |ok fD=>
  rw[e]at h;dsimp only at h;split at h
  .cases h
  .split at h
   .cases h
   .split at h
    .cases h
    .split at h
     .cases h
     .cases h;show KD _ _ _ _ gZ.empty e
inductive jh(d:dD)(l:List dT):dT->Prop
 |base {x:dT}:x∈l->jh d l x
 |step {y x:dT}:jh d l y->x∈eF d y->jh d l x
def K3{l:List dT}:x∈cE l a↔x∈l\/x=a:=by
 unfold cE;split
 .rename_i h;constructor
  .show .inl
  .rintro(O|rfl)
   .show O
   grind
 simp
def ZA{l:List dT}:ac l<=↥(cE l a)/\(↥(cE l a)=ac l->a∈l):=by
 unfold cE;split
 .rename_i h;show{bA _,λ_=>ex.mp h}
 simp
def DL:∀(cd:List dT) l x,x∈cd.foldl cE l↔x∈l\/x∈cd
 |[],l,x=>by simp
 |a::r,l,x=>by rw[h7,DL r,K3];grind
def N8:∀(cd:List dT) l,ac l<=↥(cd.foldl cE l)/\(↥(cd.foldl cE l)=ac l->∀x∈cd,x∈l)
 |[],l=>{bA _,λ_ x b=>by simp at b}
 |a::r,l=>by
  let{O,(Y)}:=ZA
  let{e,(f)}:=N8 r<|cE l a
  rw[h7];show{b5 O e,λq x b=>?_};have d:↥(cE l a)=ac l:=by omega
  have c:=Y d;obtain rfl|b:=bK.mp b
  .show c
  .have:=f ∅ x b;obtain z|rfl:=K3.mp this
   .show z
   .show c
def kO d(l:List dT):=(l.flatMap<|eF d).foldl cE l
def t1:x∈kO d l↔x∈l\/∃y∈l,x∈eF d y:=by unfold kO;rw[DL,js]
def o0 d(l:List dT):=∀y∈l,∀x∈eF d y,x∈l
def o0.Zi(c:o0 d l)(h:∀x∈s,x∈l)(r:jh d s x):x∈l:=by
 induction r with
 |base a=>show h _ a
 |step _ a b=>show c _ b _ a
def qo(d:dD)(l:List dT):=↥(d.groups.filter λg=>l.contains g.name)
def Oi{A:Type}{p q:A->Bool}:∀{l:List A},(∀x∈l,p x=aa->q x=aa)->↥(l.filter p)<=↥(l.filter q)/\(↥(l.filter p)=↥(l.filter q)->∀x∈l,q x=aa->p x=aa)
 |[],_=>{bA _,λ_ x b=>by simp at b}
 |a::r,h=>by
  let{O,(Y)}:=Oi λx b=>h x<|eJ _ b
  have d:=h a ();rw[px,px];cases c:p a with
  |true=>
   rw[d c,aM D,aM D,cz,cz];show{∅,λe x b f=>?_};obtain rfl|b:=bK.mp b
   .show c
   grind
  |false=>
   rw[aD eY];cases f:q a with
   |true=>show aM D▸cz▸{∅,λe=>∅}
   |false=>
    show{O,λe x b g=>?_};obtain rfl|b:=bK.mp b
    .grind
    grind
def MY(h:x∈eF d y):∃g∈d.groups,g.name=y:=by
 unfold eF at h;cases e:d.groups.find? λg=>g.name==y with
 |none=>rw[e]at h;simp at h
 |some g=>show{g,SX e,eq_of_beq<|‹List.find?_some e›}
def aih(h:¬o0 d (kO d l)):qo d l<qo d (kO d l):=by
 have mono:∀g∈d.groups,l.contains g.name=aa->(kO d l).contains g.name=aa:=λg _ a=>ex.mpr (t1.mpr<|by grind)
 let{O,(Y)}:=Oi mono
 show Nat.lt_of_le_of_ne O λe=>h λy f x b=>?_;let{g,c,(rfl)}:=MY b;have a:=Y e g c<|ex.mpr f;show t1.mpr<|.inr {g.name,ex.mp a,b}
def aig d l:qo d l<=ac d.groups:=Gz _ _
def Zh d f l:sQ d (f+1) l=if(kO d l).length=ac l then l else sQ d f (kO d l):=D
def KG d:∀f l,(o0 d l\/ac d.groups<qo d l+f)->o0 d (sQ d f l)/\(∀x∈l,x∈sQ d f l)/\∀x∈sQ d f l,jh d l x
 |0,l,h=>by
  show{?_,λ_ g=>g,λ_ g=>.base g};obtain h|h:=h
  .show h
  .have:=aig d l;omega
 |f+1,l,h=>by
  rw[Zh];split
  .rename_i e;show{λy j x g=>(N8 _ l).2 e x<|js.mpr {y,j,(g)},λ_ g=>g,λ_ g=>.base g}
  .rename_i e;have k:∀x∈l,x∈kO d l:=λx g=>t1.mpr<|.inl g;have m:o0 d (kO d l)\/ac d.groups<qo d (kO d l)+f:=by
    by_cases q:o0 d (kO d l)
    .show .inl q
    .have:=aih q;obtain h|h:=h
     .show absurd (λy j x g=>?_) q;have n:y∈l:=by
       obtain z|⟨u,i,z⟩:=t1.mp j
       .show z
       .show h u i y z
      show k _<|h y n x g
     omega
   let{a,b,(c)}:=KG d f (kO d l) m
   show{a,λx g=>b x<|k x g,λx g=>?_};have:=c x g;clear g;induction this with
   |base g=>
    obtain z|⟨u,i,z⟩:=t1.mp g
    .show .base z
    .show .step (.base i) z
   |step _ g o=>show .step o g
def Zg d l:o0 d l\/ac d.groups<qo d l+ac d.groups:=by
 by_cases h:qo d l=0
 .left;intro y c x a;let{g,b,(rfl)}:=MY a;have:=tu.mp h;simp_all
 .omega
def KE d l x:(sQ d ↥d.groups l).contains x=aa↔jh d l x:=by
 let{a,b,(c)}:=KG d ↥d.groups l<|Zg d l
 rw[ex];show{c x,a.Zi b}
def NN d g u:hk d g u=aa↔u∈d.users/\jh d (eF d g) u:=by unfold hk;rw[cf,KE,ex]
def adk d g:m7 d g=aa↔jh d g.members g.name:=KE d g.members g.name
def C3(h:(d.groups.map λg=>g.name).Nodup)(b:g∈d.groups):eF d g.name=g.members:=by
 unfold eF;have:d.groups.find? (λx=>x.name==g.name)=I g:=by
  revert h b;generalize d.groups=bY;intro h b;induction bY with
  |nil=>simp at b
  |cons a r f=>
   rw[cx,pq]at h;rw[wm];obtain rfl|b:=bK.mp b
   .rw[nQ]
   .have c:(a.name==g.name)=ap:=by
     rw[k9];show λe=>h.1<|e▸ct.mpr {g,b,(rfl)}
    show c▸f h.2 b
 grind
def act(h:n∉d.groups.map λg=>g.name):eF d n=[]:=by
 unfold eF;have:d.groups.find? (λx=>x.name==n)=ag:=by rw[Td];show λg a q=>h<|ct.mpr {g,a,eq_of_beq q}
 rw[this];rfl
structure je(d:dD)(s found waiting:List dT):Prop where
 aJ:found.Nodup
 uP:∀x∈found,jh d s x
 Dx:∀x∈waiting,jh d s x
 start:∀x∈s,x∈found\/x∈waiting
 next:∀y∈found,∀x∈eF d y,x∈found\/x∈waiting
def je.first d s:je d s [] s:={ne,(),λ_ a=>.base a,λ_ a=>.inr a,()}
def je.Xy(h:je d s found (w++[n]))(c:n∈found):je d s found w:=by
 have f:∀{x:dT},x∈found\/x∈w++[n]->x∈found\/x∈w:=λ{x} q=>by
  obtain q|q:=q
  .show .inl q
  .obtain q|q:=cN.mp q
   .show .inr q
   grind
 show{h.aJ,h.uP,λx a=>h.Dx x<|la _ a,λx a=>f<|h.start x a,λy b x a=>f<|h.next y b x a}
def je.new(h:je d s found (w++[n]))(j:n∉found):je d s (found++[n]) (w++eF d n):=by
 have k:=h.Dx n ();have f:∀{x:dT},x∈found\/x∈w++[n]->x∈found++[n]\/x∈w++eF d n:=λ{x} q=>by
  obtain q|q:=q
  .show .inl<|la _ q
  .obtain q|q:=cN.mp q
   .show .inr<|la _ q
   .show .inl<|j3 _ q
 show{?_,λx c=>?_,λx c=>?_,λx c=>f<|h.start x c,λy e x c=>?_}
 .rw[nf];show{h.aJ,(),λa g b i=>by rw[cy.mp i];rintro rfl;show j g}
 .obtain c|c:=cN.mp c
  .show h.uP x c
  grind
 .obtain c|c:=cN.mp c
  .show h.Dx x<|la _ c
  .show .step k c
 .obtain e|e:=cN.mp e
  .show f<|h.next y e x c
  .rw[cy.mp e]at c;show .inr<|j3 _ c
def je.done(h:je d s found []) x:x∈found↔jh d s x:=by
 show{h.uP x,λr=>?_};induction r with
 |base a=>show(h.start _ a).resolve_right ()
 |step _ a b=>show(h.next _ b _ a).resolve_right ()
def mV(d:dD):=d.groups.flatMap λg=>g.members
def M1(h:x∈eF d n):x∈mV d:=by
 unfold eF at h;cases e:d.groups.find? λg=>g.name==n with
 |none=>rw[e]at h;simp at h
 |some g=>rw[e]at h;show js.mpr {g,SX e,h}
def rS{A:Type}[DecidableEq A]:∀{l m:List A},l.Nodup->(∀x∈l,x∈m)->ac l<=ac m
 |[],_,_,_=>cI _
 |a::r,m,aJ,h=>by rw[pq]at aJ;have q:=h a ();have:=rS (m:=m.erase a) aJ.2 λx c=>(List.mem_erase_of_ne λe=>aJ.1<|by grind).mpr (by grind);rw[List.length_erase_of_mem q]at this;have b:=wk q;rw[cz];omega
def KH(a:∀x∈s,x∈mV d)(r:jh d s x):x∈mV d:=by
 cases r with
 |base h=>show a x h
 |step _ h=>show M1 h
def jy d(found waiting:List dT):=(↥(mV d)-ac found)*13+ac waiting
def Hi:jy d found w<jy d found (w++[n]):=by unfold jy;simp
def Us(h:je d s found (w++[n]))(b:∀x∈s,x∈mV d)(a:n∉found)(e:↥(eF d n)<=12):
  jy d (found++[n]) (w++eF d n)<jy d found (w++[n]):=by
 have O:=(h.new a);have Y:=rS O.aJ λx c=>KH b<|O.uP x c;unfold jy;rw[b0]at Y⊢;rw[b0,b0];have Y:ac found+1<=↥(mV d):=Y;change(↥(mV d)-(ac found+1))*13+_<_;omega
def kW d:=if d<10 then gF (48+d)else gF (87+d)
def hb:(Nat->Nat->aE)
 |0,_=>[]
 |k+1,m=>kW (m/36^k)::hb k (m%36^k)
def fO(k m:Nat):(aE):=gF (97+m/36^k)::hb k (m%36^k)
def f3:(Nat->Nat)
 |0=>0
 |k+1=>f3 k+26*36^k
def fv:(Nat->aE)
 |0=>[97]
 |n+1=>nextName<|fv n
def no:∀k m,↥(hb k m)=k
 |0,_=>rfl
 |k+1,m=>by rw[hb,cz,no k]
def p4 k:0<36^k:=Nat.pos_of_ne_zero ()
def wR:∀k,hb k 0=zeros k
 |0=>rfl
 |k+1=>by rw[hb,Sz,Sy,wR k];rfl
def af7:∀d,d<35->nextByte (kW d)=kW (d+1):=⋯
def af8:∀d,d<36->(kW d=122↔d=35):=⋯
def Mv:∀k m,m<36^k->nextTail (hb k m)=if m+1<36^k then I (hb k<|m+1)else ag
 |0,m,h=>by
  have:m=0:=‹h›
  subst this;rfl
 |k+1,m,h=>by
  have d:=p4 k;have i:m/36^k<36:=pp (by rw[nU]at h;show h);have j:m%36^k<36^k:=mb _ d;have g:36^k*(m/36^k)+m%36^k=m:=nV m<|36^k;rw[hb,nextTail,Mv k (m%36^k) j];by_cases O:m%36^k+1<36^k
  .rw[aM O];have a:(m+1)/36^k=m/36^k:=by
    rw[z6 d];constructor
    .rw[iz];omega
    .rw[iz];omega
   have b:(m+1)%36^k=m%36^k+1:=by have:=nV (m+1)<|36^k;rw[a]at this;omega
   have Y:m+1<36^(k+1):=by have:36^k*(m/36^k)<=36^k*35:=zZ _ ∅;rw[nU];omega
   rw[aM Y,hb,a,b]
  .rw[aD O];have l:m%36^k=36^k-1:=by omega
   by_cases c:m/36^k=35
   .rw[c];have:¬m+1<36^(k+1):=by
     rw[c]at g;rw[nU];omega
    rw[aD this];rw[aM ⋯]
   .have f:m/36^k<35:=by omega
    have a:(m+1)/36^k=m/36^k+1:=by
     rw[z6 d];constructor
     .rw[q5,iz];omega
     .rw[q5,iz];omega
    have b:(m+1)%36^k=0:=by have:=nV (m+1)<|36^k;rw[a,z0]at this;omega
    have Y:m+1<36^(k+1):=by have:36^k*(m/36^k)<=36^k*34:=zZ _ ∅;rw[nU];omega
    rw[aM Y,hb,a,b,wR,no];rw[aD λe=>c<|(af8 _ i).mp e,af7 _ f]
def Og:∀d,d<26->(gF (97+d)=122↔d=25):=⋯
def ad6:∀d,d<25->gF (97+d)+1=gF (97+(d+1)):=⋯
def Mw k m(h:m<26*36^k):nextName (fO k m)=if m+1<26*36^k then fO k (m+1)else fO (k+1) 0:=by
 have d:=p4 k;have f:m/36^k<26:=pp (by rw[iz];show h);have j:m%36^k<36^k:=mb _ d;have i:36^k*(m/36^k)+m%36^k=m:=nV m<|36^k;rw[fO,nextName,Mv k _ j];by_cases O:m%36^k+1<36^k
 .rw[aM O];have a:(m+1)/36^k=m/36^k:=by
   rw[z6 d];constructor
   .rw[iz];omega
   .rw[iz];omega
  have b:(m+1)%36^k=m%36^k+1:=by have:=nV (m+1)<|36^k;rw[a]at this;omega
  have Y:m+1<26*36^k:=by have:36^k*(m/36^k)<=36^k*25:=zZ _ ∅;omega
  rw[aM Y,fO,a,b]
 .rw[aD O];by_cases c:m/36^k=25
  .have:¬m+1<26*36^k:=by
    rw[c]at i;omega
   rw[aD this];rw[aM<|(Og _ f).mpr c,no,fO,Sz,Sy,wR];rfl
  .have g:m/36^k<25:=by omega
   have a:(m+1)/36^k=m/36^k+1:=by
    rw[z6 d];constructor
    .rw[q5,iz];omega
    .rw[q5,iz];omega
   have b:(m+1)%36^k=0:=by have:=nV (m+1)<|36^k;rw[a,z0]at this;omega
   have Y:m+1<26*36^k:=by have:36^k*(m/36^k)<=36^k*24:=zZ _ ∅;omega
   rw[aM Y,fO,a,b,wR];rw[aD λe=>c<|(Og _ f).mp e,no,ad6 _ g]
def CW k(a:fv (f3 k)=fO k 0):∀n,n<26*36^k->fv (f3 k+n)=fO k n
 |0,_=>a
 |n+1,h=>by change nextName (fv<|f3 k+n)=_;rw[CW k a n ∅,Mw k n ∅,aM h]
def MD:∀k,fv (f3 k)=fO k 0
 |0=>rfl
 |k+1=>by
  have q:=p4 k;have e:f3 (k+1)=f3 k+(26*36^k-1)+1:=by rw[f3];omega
  rw[e];change nextName (fv<|f3 k+(26*36^k-1))=_;rw[CW k (MD k) _ ∅,Mw k _ ∅,aD ∅]
def CX k n(h:n<26*36^k):fv (f3 k+n)=fO k n:=CW k (MD k) n h
def Mg N:∃k n,N=f3 k+n/\n<26*36^k:=by
 induction N with
 |zero=>show{0,0,D,⋯}
 |succ N a=>
  let{k,n,rfl,(h)}:=a;by_cases Y:n+1<26*36^k
  .show{k,n+1,D,Y}
  .show{k+1,0,?_,∅};rw[f3];omega
def G'(b:UInt8):=if b.toNat<58 then b.toNat-48 else b.toNat-87
def Ud:∀d,d<36->G' (kW d)=d:=⋯
def wJ:(aE->Nat)
 |[]=>0
 |b::r=>G' b*36^ac r+wJ r
def Hm:∀k m,m<36^k->wJ (hb k m)=m
 |0,m,h=>by
  have:=‹h›
  subst this;rfl
 |k+1,m,h=>by have b:=p4 k;have a:m/36^k<36:=pp<|h;rw[hb,wJ,Ud _ a,no,Hm k _ ∅];have:=nV m<|36^k;grind
def t6:(aE->Nat)
 |[]=>0
 |b::r=>f3 (ac r)+((b.toNat-97)*36^ac r+wJ r)
def ad5:∀d,d<26->(gF<|97+d).toNat-97=d:=⋯
def Zj k n(h:n<26*36^k):t6 (fO k n)=f3 k+n:=by have b:=p4 k;have a:=pp (by rw[iz];show h);rw[fO,t6,no,ad5 _ a,Hm k _ ∅];have:=nV n<|36^k;rw[iz]at this;omega
def KL N:t6 (fv N)=N:=by let{k,n,rfl,(h)}:=Mg N;rw[CX k n h,Zj k n h]
def ach(h:fv m=fv n):m=n:=by
 rw[<-KL m,h,KL]
def N6 used:∀f j k,k<=f->(∀i,i<k->fv (j+i)∈used)->(fv (j+k)∉used\/k=f)->freshFrom used f (fv j)=fv (j+k)
 |0,j,k,q,_,_=>by
  have:k=0:=by omega
  subst this;rfl
 |f+1,j,0,_,_,h=>by
  rw[freshFrom];obtain h|h:=h
  .rw[aD (by rw[ex];show h)];rfl
  .omega
 |f+1,j,k+1,q,a,h=>by
  rw[freshFrom,aM (by rw[ex];show a 0 ∅)];have:=N6 used f (j+1) k ∅ (λi au=>by have:=a (i+1) ∅;rwa[show j+(i+1)=j+1+i by omega]at this) (by
   obtain h|h:=h
   .left;rwa[show j+(k+1)=j+1+k by omega]at h
   .omega)
  show show j+(k+1)=j+1+k by omega▸this
def DR{used:List dT}(h:∀i,i<k->fv i∈used):k<=ac used:=by have aJ:((dv k).map fv).Nodup:=ala _ (λa b c e=>c<|ach e) List.nodup_range;have:=rS aJ (λx d=>by let{i,au,(rfl)}:=ct.mp d;show h i<|by grind);simpa using this
def uV(h:∀i,i<k->fv i∈used)(a:fv k∉used):fresh used=fv k:=by have:=N6 used ↥used 0 k (DR h) (λi au=>by rw[l'];show h i au) (.inl<|by rw[l'];show a);rwa[l']at this
def DK(used:List dT):∃k,k<=ac used/\(∀i,i<k->fv i∈used)/\fv k∉used:=by
 apply TH;intro c;have all:∀k,k<=ac used+1->∀i,i<k->fv i∈used:=by
  intro k;induction k with
  |zero=>omega
  |succ k a=>
   intro b i au;have a:=a ∅;obtain h|h:=fs i k
   .show a i h
   .grind
 have:=DR<|all (ac used+1) (bA _);omega
def adV used:fresh used∉used:=by
 let{k,_,O,Y}:=DK used
 show uV O Y▸Y
def af6:∀d,d<36->(g5 (kW d)||eQ (kW d))=aa:=⋯
def Of:∀d,d<26->g5 (gF<|97+d)=aa:=⋯
def HJ:∀k m,m<36^k->∀b∈hb k m,(g5 b||eQ b)=aa
 |0,_,_,b,q=>by simp[hb]at q
 |k+1,m,h,b,q=>by
  have b7:=pp<|h;rw[hb,bK]at q;obtain rfl|q:=q
  .show af6 _ b7
  .show HJ k _ ∅ b q
def ab5 k n(h:n<26*36^k)(d:k<=11):bz (fO k n)=aa:=by
 have c:=pp (by rw[iz];show h);unfold bz fO;rw[cf,cf];show{‹Of _ c›,by simp[no,LONG];omega,?_};rw[di];intro b a;obtain rfl|a:=bK.mp a
 .rw[Of _ c];rfl
 .show HJ k _ ∅ b a
def acg(h:N<=1000000):bz (fv N)=aa:=by
 let{k,n,rfl,(c)}:=Mg N;rw[CX k n c];show ab5 k n c ?_;obtain e|e:=fs k 12
 .omega
 .have O:=by
   have mono:∀a b,a<=b->f3 a<=f3 b:=by
    intro a b d;induction d with
    |refl=>show bA _
    |step _ f=>show b5 f (by rw[f3];omega)
   show mono 4 k ∅
  have Y:f3 4=1247714:=by decide
  omega
def oB(h:ac used<=1000000):bz (fresh used)=aa:=by
 let{k,a,O,(Y)}:=DK used
 show uV O Y▸acg ∅
structure Lt(B:Type)(lt:B->B->Bool):Prop where
 jF:∀a,lt a a=ap
 iD:∀a b c,lt a b=aa->lt b c=aa->lt a c=aa
 tL:∀a b,lt a b=ap->lt b a=ap->a=b
section
variable{B:Type}{lt:B->B->Bool}
def Lt.neg(o:Lt B lt)(O:lt b a=ap)(Y:lt c b=ap):lt c a=ap:=by
 rw[<-kC];intro h;cases d:lt a b with
 |true=>rw[o.iD c a b h d]at Y;cases Y
 |false=>have:=o.tL a b d O;grind
def iO(lt:B->B->Bool)(l:List B):=l.Pairwise λa b=>lt b a=ap
def H1(o:Lt B lt):∀{l m:List B},l.Perm m->iO lt l->iO lt m->l=m
 |[],m,p,_,_=>(SW.mp p).symm
 |a::r,[],p,_,_=>absurd p.symm ()
 |a::r,b::s,p,q,b7=>by
  have e:a=b:=by
   have O:a∈b::s:=p.mem_iff.mp ();have Y:b∈a::r:=p.mem_iff.mpr ();obtain h|O:=bK.mp O
   .show h
   .obtain h|Y:=bK.mp Y
    .show h.symm
    .show o.tL a b ((gm.mp b7).1 a O)<|(gm.mp q).1 b Y
  subst e;rw[H1 o (by simp_all) (gm.mp q).2 (gm.mp b7).2]
def rB(lt:B->B->Bool)(l:List B) b:=↥(l.filter λy=>lt y b)
def DP:∀(l:List B),(∀x∈l,p x=aa->q x=aa)->↥(l.filter p)<=↥(l.filter q)
 |[],_=>bA _
 |a::r,h=>by
  have b7:=DP r λx c=>h x (by simp[c]);rw[px,px];cases b:p a with
  |true=>rw[h a () b];simp;show b7
  |false=>
   cases d:q a with
   |true=>simp;omega
   |false=>simpa using b7
def Oh:∀(l:List B) {b:B},b∈l->(∀x∈l,p x=aa->q x=aa)->p b=ap->q b=aa->↥(l.filter p)<↥(l.filter q)
 |[],_,b7,_,_,_=>by simp at b7
 |a::r,b,b7,h,O,Y=>by
  rw[px,px];obtain e|b7:=bK.mp b7
  .subst e;rw[O,Y];have:=DP r λx f=>h x (by simp[f]);simp;omega
  .have c:=Oh r b7 (by grind) O Y;cases d:p a with
   |true=>rw[h a () d];simp;show c
   |false=>
    cases g:q a with
    |true=>simp;omega
    |false=>simpa using c
def xn(o:Lt B lt)(d:a∈l):lt a b=decide (rB lt l a<rB lt l b):=by
 cases h:lt a b with
 |true=>symm;rw[dg];show Oh l d (λx _ c=>o.iD x a b c h) (o.jF a) h
 |false=>
  symm;rw[sV];have:rB lt l b<=rB lt l a:=DP l λx _ c=>by
   cases e:lt x a with
   |true=>rfl
   |false=>rw[o.neg h e]at c;cases c
  omega
def iG(lt:B->B->Bool)(l:List B)(i:Nat):(Nat):=match l[i]? with
 |some b=>rB lt l b
 |none=>0
def Y1 lt l{C:Type}(a:B->C):((dv ↥l).map<|iG lt l).zip (l.map a)=l.map λb=>(rB lt l b,a b):=by
 apply wn
 .simp
 .intro i O Y;simp[iG,cA<|show i<ac l by simpa using Y]
def ny(lt:B->B->Bool)(x:B):(List B->List B)
 |[]=>[x]
 |y::r=>if lt y x=aa then y::ny lt x r else x::y::r
def ic(lt:B->B->Bool):(List B->List B)
 |[]=>[]
 |x::r=>ny lt x<|ic lt r
def x5 x:∀l,(ny lt x l).Perm<|x::l
 |[]=>wu _
 |y::r=>by
  rw[ny];split
  .show((x5 x r).cons y).trans<|GK x y r
  rfl
def Dv(o:Lt B lt):∀{l:List B},iO lt l->iO lt (ny lt x l)
 |[],_=>wg _ _
 |y::r,h=>by
  let{O,(Y)}:=gm.mp h
  rw[ny];split
  .rename_i a;show gm.mpr {λz hz=>?_,Dv o Y};obtain rfl|hz:=bK.mp<|(x5 x r).mem_iff.mp hz
   .rw[<-kC];intro q;show absurd (o.iD y z y a q) (by rw[o.jF];decide)
   grind
  .rename_i a;have a:=‹a›
   show gm.mpr {λz hz=>?_,h};obtain rfl|hz:=bK.mp hz
   .show a
   .show o.neg a<|O z hz
def kK:∀l,(ic lt l).Perm l
 |[]=>wu _
 |x::r=>(x5 x _).trans<|(kK r).cons x
def w3(o:Lt B lt):∀l,iO lt<|ic lt l
 |[]=>rb
 |x::r=>Dv o<|w3 o r
def rp(o:Lt B lt)(p:m.Perm l)(h:iO lt m):m=ic lt l:=H1 o (p.trans (kK l).symm) h<|w3 o l
def VM(o:Lt B lt)(p:m.Perm l):ic lt m=ic lt l:=rp o ((kK m).trans p)<|w3 o m
end
def Pp:∀a,bytesBefore a a=ap
 |[]=>rfl
 |b::r=>by rw[bytesBefore,Pp r,tE,pB,sV];simp
def Pn:∀a b c,bytesBefore a b=aa->bytesBefore b c=aa->bytesBefore a c=aa
 |[],_,_,h,_=>by simp[bytesBefore]at h
 |_::_,[],_,h,_=>by simp[bytesBefore]at h
 |_::_,_::_,[],_,h=>by simp[bytesBefore]at h
 |x::a,y::b,z::c,O,Y=>by
  rw[bytesBefore,lf,cf,ei]at O Y⊢;obtain O|⟨rfl,O⟩:=O
  .grind
  .obtain Y|⟨rfl,Y⟩:=Y
   .show .inl Y
   .show .inr {D,Pn a b c O Y}
def Po:∀a b,ac a=ac b->bytesBefore a b=ap->bytesBefore b a=ap->a=b
 |[],[],_,_,_=>rfl
 |[],_::_,h,_,_=>by simp at h
 |_::_,[],h,_,_=>by simp at h
 |x::a,y::b,h,O,Y=>by rw[bytesBefore,TP,sV]at O Y;have e:=UInt8.le_antisymm (RQ.mp Y.1)<|RQ.mp O.1;subst e;rw[nQ]at O Y;rw[Po a b (by grind) O.2 Y.2]
def CT a b:fi a b=aa↔ac a<ac b\/(ac a=ac b/\bytesBefore a b=aa):=by unfold fi;simp
def f4:Lt dT fi:=by
 show{λa=>?_,λa b c O Y=>?_,λa b O Y=>?_}
 .rw[<-kC,CT,Pp];simp
 .rw[CT]at O Y⊢;obtain O|⟨e,O⟩:=O
  .omega
  .obtain Y|⟨f,Y⟩:=Y
   .show .inl ∅
   .show .inr {∅,Pn a b c O Y}
 .rw[<-kC,CT]at O Y;have d:ac a=ac b:=by
   omega
  show Po a b d ?_ ?_
  .grind
  grind
def gs:(List dT->List dT->Bool)
 |a::r,b::s=>fi a b||(decide (a=b)&&gs r s)
 |_,_=>ap
def hr a b:=decide (ac a<ac b)||(decide (ac a=ac b)&&gs a b)
def BQ:∀a,gs a a=ap
 |[]=>rfl
 |b::r=>by rw[gs,BQ r,f4.jF,tE,pB]
def Kh:∀a b c,gs a b=aa->gs b c=aa->gs a c=aa
 |[],_,_,h,_=>by simp[gs]at h
 |_::_,[],_,h,_=>by simp[gs]at h
 |_::_,_::_,[],_,h=>by simp[gs]at h
 |x::a,y::b,z::c,O,Y=>by
  rw[gs,lf,cf,dg]at O Y⊢;obtain O|⟨rfl,O⟩:=O
  .obtain Y|⟨rfl,_⟩:=Y
   .show .inl<|f4.iD _ _ _ O Y
   grind
  .obtain Y|⟨rfl,Y⟩:=Y
   .show .inl Y
   .show .inr {D,Kh a b c O Y}
def Ki:∀a b,ac a=ac b->gs a b=ap->gs b a=ap->a=b
 |[],[],_,_,_=>rfl
 |[],_::_,h,_,_=>by simp at h
 |_::_,[],h,_,_=>by simp at h
 |x::a,y::b,h,O,Y=>by rw[gs,TP]at O Y;have e:=f4.tL x y O.1 Y.1;subst e;rw[cn D]at O Y;rw[Ki a b (by grind) O.2 Y.2]
def t0 a b:hr a b=aa↔ac a<ac b\/(ac a=ac b/\gs a b=aa):=by unfold hr;simp
def oh:Lt (List dT) hr:=by
 show{λa=>?_,λa b c O Y=>?_,λa b O Y=>?_}
 .rw[<-kC,t0,BQ];simp
 .rw[t0]at O Y⊢;obtain O|⟨e,O⟩:=O
  .omega
  .obtain Y|⟨f,Y⟩:=Y
   .show .inl ∅
   .show .inr {∅,Kh a b c O Y}
 .rw[<-kC,t0]at O Y;have d:ac a=ac b:=by
   omega
  show Ki a b d ?_ ?_
  .grind
  grind
def K2 n:∀l,putSorted n l=ny fi n l
 |[]=>rfl
 |m::r=>by rw[putSorted,ny,K2 n r]
def W6 l:sorted l=ic fi l:=by
 have key:∀(l acc:List dT),iO fi acc->iO fi (l.foldl (λa n=>putSorted n a) acc)/\(l.foldl (λa n=>putSorted n a) acc).Perm (l++acc):=by
  intro l;induction l with
  |nil=>simp
  |cons x r b=>
   intro acc h;rw[h7,K2]
   let{O,(Y)}:=b (ny fi x acc)<|Dv f4 h
   show{O,Y.trans<|((x5 x acc).append_left r).trans z8}
 let{O,(Y)}:=key l [] rb
 rw[gI]at Y;show rp f4 Y O
def w6(o:Lt B lt)(f:∀a b,cmp a b= .first↔lt a b=aa) l:sortBy cmp l=ic lt l:=by
 have aS:∀x l,iO lt l->iO lt (insertBy cmp x l)/\(insertBy cmp x l).Perm (x::l):=by
  intro x l;induction l with
  |nil=>intro _;show{wg _ _,wu _}
  |cons y r e=>
   intro h
   let{O,(Y)}:=gm.mp h
   rw[insertBy];split
   .rename_i c;have c:=(f x y).mp c;show{gm.mpr {λz hz=>?_,h},wu _};obtain rfl|hz:=bK.mp hz
    .rw[<-kC];intro q;show absurd (o.iD x z x c q) (by rw[o.jF];decide)
    .rw[<-kC];intro q;have:=o.iD z x y q c;grind
   .rename_i c
    let{dP,(d)}:=e Y
    show{gm.mpr {λz hz=>?_,dP},(d.cons y).trans<|GK x y r};obtain rfl|hz:=bK.mp<|d.mem_iff.mp hz
    .grind
    grind
 have key:∀(l acc:List B),iO lt acc->iO lt (l.foldl (λr x=>insertBy cmp x r) acc)/\(l.foldl (λr x=>insertBy cmp x r) acc).Perm (l++acc):=by
  intro l;induction l with
  |nil=>simp
  |cons x r e=>
   intro acc h
   let{dP,(d)}:=aS x acc h
   let{O,(Y)}:=e _ dP
   show{O,Y.trans<|(d.append_left r).trans z8}
 let{O,(Y)}:=key l [] rb
 rw[gI]at Y;show rp o Y O
def u7 a b:vY a b= .first↔fi a b=aa:=by
 unfold vY;cases h:fi a b with
 |true=>simp
 |false=>cases fi b a<;>simp
def sg a b:vY a b= .same↔a=b:=by
 unfold vY;constructor
 .intro h;cases O:fi a b with
  |true=>rw[O]at h;simp at h
  |false=>
   cases Y:fi b a with
   |true=>grind
   |false=>show f4.tL a b O Y
 .rintro rfl;rw[f4.jF];simp
def Pa:∀a b,ac a=ac b->(cmpNames a b= .first↔gs a b=aa)
 |[],[],_=>by simp[cmpNames,gs]
 |[],_::_,h=>by simp at h
 |_::_,[],h=>by simp at h
 |x::a,y::b,h=>by
  rw[cmpNames,gs,orElse];by_cases e:x=y
  .subst e;rw[aM<|(sg x x).mpr D,Pa a b<|by grind,f4.jF];simp
  .rw[aD λq=>e<|(sg x y).mp q,u7];simp[e]
def O':∀a b,ac a=ac b->(cmpNames a b= .same↔a=b)
 |[],[],_=>by simp[cmpNames]
 |[],_::_,h=>by simp at h
 |_::_,[],h=>by simp at h
 |x::a,y::b,h=>by
  rw[cmpNames,orElse];by_cases e:x=y
  .subst e;rw[aM<|(sg x x).mpr D,O' a b (by grind)];simp
  .have O:=mt (sg x y).mp e;simp[e,O]
def yn a b:vZ a b= .first↔hr a b=aa:=by
 unfold vZ orElse sW;rw[t0];by_cases O:ac a<ac b
 .simp[O]
 .by_cases Y:ac b<ac a
  .simp[O,Y];omega
  .have e:ac a=ac b:=by omega
   simp[e,Pa a b e]
def Pb a b:vZ a b= .same↔a=b:=by
 unfold vZ orElse sW;by_cases O:ac a<ac b
 .simp[O];grind
 .by_cases Y:ac b<ac a
  .simp[O,Y];intro e;subst e;omega
  .have e:ac a=ac b:=by omega
   simp[O,Y,O' a b e]
section
variable{B:Type}[BEq B][LawfulBEq B]
def Zx(l:List B) a x:x∈cE l a↔x∈l\/x=a:=by
 unfold cE;split
 .rename_i h;have:=‹h›
  constructor
  .show .inl
  .rintro(h|rfl)
   .show h
   .show this
 .simp
def ls:∀(l acc:List B) x,x∈l.foldl cE acc↔x∈acc\/x∈l
 |[],acc,x=>by simp
 |a::r,acc,x=>by rw[h7,ls r,Zx,bK,or_assoc]
def Zw{l:List B}(h:l.Nodup) a:(cE l a).Nodup:=by
 unfold cE;split
 .show h
 .rename_i b;have b:=‹b›
  rw[nf];show{h,(),λx c y d=>?_};rw[cy.mp d];rintro rfl;show b c
def rD:∀(l acc:List B),acc.Nodup->(l.foldl cE acc).Nodup
 |[],_,h=>h
 |a::r,acc,h=>rD r _<|Zw h a
def KY:∀(l acc:List B),(acc++l).Nodup->l.foldl cE acc=acc++l
 |[],acc,_=>by simp
 |a::r,acc,h=>by
  have b7:a∉acc:=λq=>by grind
  have e:cE acc a=acc++[a]:=by unfold cE;rw[aD ‹b7›]
  rw[h7,e,KY r (acc++[a]) ‹h›];simp
def ZJ{l:List B}(a:l.Nodup)(b:m.Nodup)(h:∀x,x∈l↔x∈m):l.Perm m:=by
 grind
end
def DJ(h:∀x,x∈a↔x∈b):fresh a=fresh b:=by
 let{k,_,O,Y}:=DK a
 rw[uV O Y,uV (λi au=>(h _).mp<|O i au) λq=>Y<|(h _).mpr q]
def O9{a b:List dT}(h:∀x,x∈a↔x∈b) x:a.contains x=b.contains x:=by
 simpa using h x
def rJ(l:List dT):=ic fi<|l.foldl cE []
def ot l x:x∈rJ l↔x∈l:=by
 rw[rJ,(kK _).mem_iff,ls];simp
def LB(a:g.Nodup)(h:∀x,x∈told↔x∈g):rJ (told++[fresh told])=sortBy vY (g++[fresh g]):=by
 rw[w6 f4 u7,DJ h];show VM f4<|ZJ (rD _ _ ne) ?_ λx=>?_
 .rw[nf];show{a,(),λx b y c=>?_};rw[cy.mp c];rintro rfl;show adV _ b
 .rw[ls];simp[h]
def jN(l:List Nat):=l.Pairwise λa b=>a<b
def Ca n x:∀l,x∈putSortedNat n l↔x=n\/x∈l
 |[]=>by simp[putSortedNat]
 |m::r=>by
  rw[putSortedNat];split
  .simp
  .split
   .rename_i e;subst e;simp
   .rw[bK,Ca n x r,bK];constructor
    .rintro(h|h|h)
     .show .inr<|.inl h
     .show .inl h
     grind
    .rintro(h|h|h)
     .show .inr<|.inl h
     .show .inl h
     .show .inr<|.inr h
def K5 n:∀{l:List Nat},jN l->jN (putSortedNat n l)
 |[],_=>wg _ _
 |m::r,h=>by
  let{O,(Y)}:=gm.mp h
  rw[putSortedNat];split
  .rename_i q;show gm.mpr {λy a=>by
    obtain rfl|a:=bK.mp a
    .show q
    .show wb q<|O y a,h}
  .split
   .show h
   .show gm.mpr {λy a=>?_,K5 n Y};obtain rfl|a:=(Ca n y r).mp a
    .omega
    grind
def KZ:∀(l acc:List Nat),jN acc->jN (l.foldl (λl n=>putSortedNat n l) acc)/\∀x,x∈l.foldl (λl n=>putSortedNat n l) acc↔x∈acc\/x∈l
 |[],acc,h=>{h,λx=>()}
 |n::r,acc,h=>by
  let{O,(Y)}:=KZ r (putSortedNat n acc)<|K5 n h
  show{O,λx=>?_};rw[h7,Y,Ca];grind
def AM:∀{l m:List Nat},jN l->jN m->(∀x,x∈l↔x∈m)->l=m
 |[],[],_,_,_=>rfl
 |[],b::s,_,_,h=>absurd ((h b).mpr ()) ()
 |a::r,[],_,_,h=>absurd ((h a).mp ()) ()
 |a::r,b::s,b7,dY,h=>by
  let{cX,(d8)}:=gm.mp b7
  let{d,(f)}:=gm.mp dY
  have e:a=b:=by
   obtain q|q:=bK.mp<|(h a).mp ()
   .show q
   .obtain k|k:=bK.mp<|(h b).mpr ()
    .show k.symm
    .have:=cX b k;have:=d a q;omega
  subst e;rw[AM d8 f λx=>?_]at⊢;have c:=h x;rw[bK,bK]at c;constructor
  .intro q;obtain rfl|k:=c.mp<|.inr q
   .have:=cX x q;omega
   .show k
  .intro q;obtain rfl|k:=c.mpr<|.inr q
   .have:=d x q;omega
   .show k
def hK(ps:List Pattern):=0::(ps.filterMap (λp=>p.since)++ps.filterMap λp=>p.until_)
def AV d ps:jN (bh d ps).times/\∀x,x∈(bh d ps).times↔x∈hK ps:=by
 let{O,(Y)}:=KZ (ps.flatMap λp=>p.since.toList++p.until_.toList) [0]<|wg _ _
 show{O,λx=>(Y x).trans ?_};simp only[hK,bK,cN,js,q7,Option.mem_toList,h6,h0];constructor
 .rintro(h|⟨p,a,h|h⟩)
  .show .inl h
  .show .inr<|.inl {p,a,(h)}
  .show .inr<|.inr {p,a,(h)}
 .rintro(h|⟨p,a,h⟩|⟨p,a,h⟩)
  .show .inl h
  .show .inr {p,a,.inl h}
  .show .inr {p,a,.inr h}
def AN:∀{l:List Nat},jN l->∀x∈l,x<=l.getLastD 0
 |[],_,x,q=>absurd q ()
 |[a],_,x,q=>by rw[cy.mp q];simp
 |a::b::r,h,x,q=>by
  let{O,(Y)}:=gm.mp h
  have e:(a::b::r).getLastD 0=(b::r).getLastD 0:=by simp[S6]
  obtain rfl|q:=bK.mp q
  .show b5 (po<|by simp_all)<|AN Y b ()
  .show AN Y x q
def Di:∀{l:List Nat},l≠[]->l.getLastD 0∈l
 |[],h=>absurd rfl h
 |[a],_=>by simp
 |a::b::r,_=>by
  have e:(a::b::r).getLastD 0=(b::r).getLastD 0:=by simp[S6]
  show eJ _<|Di ()
abbrev hC:=List<|List aE×List aE
def gy(N:hC) p n:=
 if p++[n]∈N.map (λx=>x.1)then N else N.map (λx=>if x.1=p then(x.1,x.2++[n])else x)++[(p++[n],[])]
def dp(N:hC)(path:List aE):(Nat->hC)
 |0=>N
 |i+1=>gy (dp N path i) (path.take i)<|path.getD i []
def yH(N:hC) p n:(N.map λx=>if x.1=p then(x.1,x.2++[n])else x).map (λx=>x.1)=N.map λx=>x.1:=by rw[dh];apply pr;intro x _;change(if x.1=p then(x.1,x.2++[n])else x).1=x.1;split<;>rfl
def PQ N p n:↥(gy N p n)<=↥N+1:=by
 unfold gy;split
 .omega
 .simp
def ai5(h:x∈N.map λx=>x.1):x∈(gy N p n).map λx=>x.1:=by
 unfold gy;split
 .show h
 .rw[dX,yH];show la _ h
def PO N p n:p++[n]∈(gy N p n).map λx=>x.1:=by
 unfold gy;split
 .assumption
 .simp
def PN(h:(N.map λx=>x.1).Nodup):((gy N p n).map λx=>x.1).Nodup:=by
 unfold gy;split
 .show h
 .rename_i f;rw[dX,yH,nf];show{h,(),λa c b d=>by
   have e:=‹d›
   show e▸λz=>f<|z▸c}
def PR(h:∀x∈N,ac x.2<=m):∀x∈gy N p n,ac x.2<=m+1:=by
 unfold gy;split
 .intro x a;have:=h x a;omega
 .intro x a;obtain a|a:=cN.mp a
  .let{y,b,(e)}:=ct.mp a
   have:=h y b;split at e
   .subst e;simp;show this
   .subst e;omega
  grind
def pQ{path:List aE}(h:i<ac path):path.take (i+1)=path.take i++[path.getD i []]:=by
 simp[cA h]
def PW(a:[]∈N.map λx=>x.1)(c:(N.map λx=>x.1).Nodup)(b:∀x∈N,ac x.2<=10000):∀i,i<=ac path->path.take i∈(dp N path i).map (λx=>x.1)/\((dp N path i).map λx=>x.1).Nodup/\↥(dp N path i)<=↥N+i/\∀x∈dp N path i,ac x.2<=10000+i
 |0,_=>{by simpa[dp]using a,c,bA _,b}
 |i+1,au=>by
  let{_,Y,b7,q}:=PW (path:=path) a c b i ∅
  show{?_,PN Y,?_,?_}
  .rw[pQ ∅];show PO _ _ _
  .have:=PQ (dp N path i) (path.take i)<|path.getD i [];rw[dp];omega
  .show PR q
def Mn{N:hC}(h:(N.map λx=>x.1).Nodup){j:Nat}(O:N[i]? =I x)(Y:N[j]? =I y)(e:x.1=y.1):i=j:=by
 have a:(N.map λx=>x.1)[i]? =I x.1:=by rw[cO,O];rfl
 have b:(N.map λx=>x.1)[j]? =I x.1:=by rw[cO,Y,e];rfl
 let{cX,(c)}:=ee.mp a
 let{d8,(d)}:=ee.mp b
 show(GB h).mp<|c.trans d.symm
def d7(ps:List Pattern):=ps.foldl (λN p=>dp N p.path ↥p.path) [([],[])]
def Mp{ps:List Pattern}(h:ps[i]? =I p):d7 (ps.take<|i+1)=dp (d7<|ps.take i) p.path ↥p.path:=by unfold d7;rw[j2,h,pw];rfl
structure vy(N:hC)(n:Nat):Prop where
 lq:[]∈N.map (λx=>x.1)
 aJ:(N.map λx=>x.1).Nodup
 len:↥N<=n
 bU:∀x∈N,↥x.2<=n
def PX(h:∀x∈N,ac x.2<=m):∀i,∀x∈dp N path i,ac x.2<=m+i
 |0=>h
 |i+1=>PR<|PX h i
def ET(h:[]∈N.map λx=>x.1):∀i,[]∈(dp N path i).map λx=>x.1
 |0=>h
 |i+1=>ai5<|ET h i
def PU:∀i,↥(dp N path i)<=↥N+i
 |0=>bA _
 |i+1=>by have:=PU (N:=N) (path:=path) i;have:=PQ (dp N path i) (path.take i)<|path.getD i [];rw[dp];omega
def PS(h:(N.map λx=>x.1).Nodup):∀i,((dp N path i).map λx=>x.1).Nodup
 |0=>h
 |i+1=>PN<|PS h i
def rT(h:∀p∈ps,ac p.path<=5):vy (d7 ps) (1+5*ac ps):=by
 have key:∀(ps:List Pattern) N n,(∀p∈ps,ac p.path<=5)->vy N n->vy (ps.foldl (λN p=>dp N p.path ↥p.path) N) (n+5*ac ps):=by
  intro ps;induction ps with
  |nil=>intro N n _ h;show h
  |cons p r c=>intro N n a h;have d:=a p ();have:=c (dp N p.path ↥p.path) (n+5) (by grind) {ET h.lq _,PS h.aJ _,by have:=PU (N:=N) (path:=p.path) ↥p.path;have:=h.len;omega,λx b=>by have:=PX h.bU ↥p.path x b;omega};show cz▸show n+5*(ac r+1)=n+5+5*ac r by omega▸this
 show key ps _ 1 h {(),(),(),()}
def mG(ns:List hH)(p:hH):=ns.filterMap λq=>if(↥q==ac p+1&&p.isPrefixOf q)=aa then q.getLast? else ag
def Nv(p q:hH)(n:dT):(↥(q++[n])==ac p+1&&p.isPrefixOf (q++[n]))=decide (q=p):=by
 rw[ey,cf,ei,pu,decide_eq_true_iff,b0,lb];constructor
 .rintro⟨O,Y⟩;have:=List.prefix_of_prefix_length_le Y (List.prefix_append q [n]) ∅;show(List.IsPrefix.eq_of_length this ∅).symm
 .rintro rfl;simp
def acY ns(p q:hH) n:mG (ns++[q++[n]]) p=mG ns p++if q=p then[n]else[]:=by
 unfold mG;rw[Tg,j4,Nv];by_cases h:q=p
 .simp[h]
 .simp[h]
def Q4(ns:List hH):=∀q n,q++[n]∈ns->q∈ns
def acZ(h:Q4 ns)(b:p∉ns):mG ns p=[]:=by
 unfold mG;rw[List.filterMap_eq_nil_iff];intro q a;obtain rfl|⟨r,n,rfl⟩:=GG q
 .simp
 .rw[GI]at a⊢;rw[Nv];have:¬r=p:=λe=>b<|e▸h r n a;simp[this]
structure lT(N:hC):Prop where
 bU:∀x∈N,x.2=mG (N.map λx=>x.1) x.1
 cl:Q4 (N.map λx=>x.1)
def PP N(p:hH)(n:dT):(gy N p n).map (λx=>x.1)=cE (N.map λx=>x.1) (p++[n]):=by
 unfold gy cE;by_cases h:p++[n]∈N.map λx=>x.1
 .grind
 .rw[aD h,aD<|‹h›,dX,yH];rfl
def lT.add(h:lT N){p:hH}{n:dT}(f:p∈N.map λx=>x.1):lT (gy N p n):=by
 by_cases e:p++[n]∈N.map λx=>x.1
 .have:gy N p n=N:=by unfold gy;rw[aM e]
  rw[this];show h
 have c:(gy N p n).map (λx=>x.1)=N.map (λx=>x.1)++[p++[n]]:=by rw[PP];unfold cE;rw[aD ‹e›]
 constructor
 .intro x b;rw[c,acY];have:gy N p n=N.map (λx=>if x.1=p then(x.1,x.2++[n])else x)++[(p++[n],[])]:=by unfold gy;rw[aD e]
  rw[this,cN]at b;obtain b|b:=b
  .let{y,d,(rfl)}:=ct.mp b;by_cases q:y.1=p
   .rw[aM q];rw[<-h.bU y d,aM q.symm]
   .rw[aD q,aD λk=>q k.symm,gI];show h.bU y d
  .rw[cy.mp b];rw[acZ h.cl e,aD ‹gC ac›];rfl
 .rw[c];intro q m a;rw[cN]at a⊢;obtain a|a:=a
  .show .inl<|h.cl q m a
  .have:=cy.mp a;have:=(List.append_inj' this rfl).1;rw[this];show .inl f
def PT(a:[]∈N.map λx=>x.1):∀i,i<=ac path->(dp N path i).map (λx=>x.1)=((dv<|i+1).map λk=>path.take k).foldl cE (N.map λx=>x.1)
 |0,_=>by
  have:cE (N.map λx=>x.1) []=N.map λx=>x.1:=by unfold cE;rw[aM ‹a›]
  show this.symm
 |i+1,au=>by rw[dp,PP,PT a i ∅,wf (n:=i+1),dX,pw,tr,h7,Ta,pQ ∅]
def PV(a:[]∈N.map λx=>x.1)(h:lT N):∀i,i<=ac path->lT (dp N path i)/\path.take i∈(dp N path i).map λx=>x.1
 |0,_=>{h,by simpa[dp]using a}
 |i+1,au=>by
  let{O,(Y)}:=PV (path:=path) a h i ∅
  show{O.add Y,?_};rw[pQ (path:=path) ∅];show PO _ _ _
def CM d ps:(d7 ps).map (λx=>x.1)=(bh d ps).nodes/\(∀x∈d7 ps,x.2=FT (bh d ps) x.1)/\lT (d7 ps):=by
 have key:∀(ps:List Pattern) N,[]∈N.map (λx=>x.1)->lT N->(ps.foldl (λN p=>dp N p.path ↥p.path) N).map (λx=>x.1)=(ps.flatMap λp=>zH p.path).foldl cE (N.map λx=>x.1)/\lT (ps.foldl (λN p=>dp N p.path ↥p.path) N):=by
  intro ps;induction ps with
  |nil=>simp
  |cons p r f=>
   intro N a h
   let{O,(Y)}:=f (dp N p.path ↥p.path) (ET a _) (PV a h _<|bA _).1
   show{O.trans ?_,Y};rw[h8,pw,PT a _<|bA _];rfl
 let{O,(Y)}:=key ps [([],[])] () {by simp[mG],by intro q n b;simp at b}
 have e:(d7 ps).map (λx=>x.1)=(bh d ps).nodes:=O;show{e,λx c=>?_,Y};have:=Y.bU x c;change x.2=mG (bh d ps).nodes x.1;show e▸this
def i6(ns:List hH)(q:hH):(Nat->hH)
 |0=>[]
 |k+1=>if ns.contains (q.take<|k+1)=aa then q.take (k+1)else i6 ns q k
def M'(ns:List hH)(q:hH):∀k,((dv<|k+1).map λk=>q.take k).foldl (λa b=>if ns.contains b=aa then b else a) []=i6 ns q k
 |0=>by simp[i6]
 |k+1=>by rw[wf,dX,pw,M' ns q k,tr,h7,Ta,i6]
def CO g q:nodeFor g q=i6 g.nodes q ↥q:=M' g.nodes q ↥q
def bU:(Nat->Nat->Nat)
 |_,0=>1
 |0,_+1=>0
 |n+1,k+1=>bU n k+bU n (k+1)
def nE n:bU n 0=1:=by cases n<;>rfl
def oL:∀n k,n<k->bU n k=0
 |0,0,h=>by omega
 |0,k+1,_=>rfl
 |n+1,0,h=>by omega
 |n+1,k+1,h=>by rw[bU,oL n k ∅,oL n (k+1) ∅]
def yp:∀n k,k<=n->bU n (k+1)*(k+1)=bU n k*(n-k)
 |0,k,h=>by
  have:k=0:=by omega
  subst this;rfl
 |n+1,0,_=>by have:=yp n 0 ∅;rw[nE]at this;change(bU n 0+bU n (0+1))*1=bU (n+1) 0*(n+1);rw[nE,nE];omega
 |n+1,k+1,h=>by
  have O:=yp n k ∅;rw[bU,bU,q5,show n+1-(k+1)=n-k by omega,q5];obtain q|q:=fs k n
  .have Y:=yp n (k+1) ∅;rw[Y,<-O,<-z0,<-z0];congr 1;omega
  .have e:k=n:=by omega
   subst e;rw[oL k (k+1) ∅,oL k (k+1+1) ∅];simp
def aik n k:(bU n k:Int)*(n-k)/(k+1)=bU n (k+1):=by
 obtain h|h:=fs n k
 .rw[oL n k h,oL n (k+1) ∅];simp
 .have:=yp n k h;have e:bU n k*((n:Int)-k)=bU n (k+1)*(k+1):=by
   have:(bU n (k+1)*(k+1):Nat)=((bU n k*(n-k):Nat):Int):=by rw[this]
   rw[Ak,Ak,Int.natCast_sub h]at this;grind
  rw[e,Int.mul_ediv_cancel _ ∅]
def fB(n:Nat):(Nat->Nat)
 |0=>0
 |m+1=>fB n m+bU n m
def Hp n:∀m,fB (n+1) (m+1)=fB n m+fB n (m+1)
 |0=>by simp[fB,nE]
 |m+1=>by rw[fB,Hp n m,bU];have:fB n (m+1)=fB n m+bU n m:=D;have:fB n (m+1+1)=fB n (m+1)+bU n (m+1):=D;omega
def Hq n:∀j,fB n (n+1+j)=fB n (n+1)
 |0=>rfl
 |j+1=>by rw[<-Gs,fB,Hq n j,oL _ _ ∅];rfl
def Hr:∀n,fB n (n+1)=2^n
 |0=>rfl
 |n+1=>by rw[Hp,Hq n 1,Hr n];omega
def Uw n(h:a<=b):fB n a<=fB n b:=by
 let{c,(rfl)}:=SK h;induction c with
 |zero=>show bA _
 |succ c d=>rw[<-Gs,fB];omega
section
variable{B:Type}
def i':(Nat->List B->List (List B))
 |0,_=>[[]]
 |_+1,[]=>[]
 |m+1,a::r=>(i' m r).map (a:: ·)++i' (m+1) r
def u5(l:List B):i' 0 l=[[]]:=by cases l<;>rfl
def u6:∀m (l:List B),↥(i' m l)=bU ↥l m
 |0,l=>by rw[u5,nE];rfl
 |m+1,[]=>rfl
 |m+1,a::r=>by rw[i',b0,bt,u6 m r,u6 (m+1) r,cz,bU]
def qn:∀m (l:List B) s,s∈i' m l->ac s=m/\s.Sublist l
 |0,l,s,h=>by rw[u5,cy]at h;subst h;simp
 |m+1,[],s,h=>by cases h
 |m+1,a::r,s,h=>by
  rw[i',cN]at h;obtain h|h:=h
  .let{t,b,(rfl)}:=ct.mp h
   let{O,(Y)}:=qn m r t b
   show{by rw[cz,O],Y.cons₂ a}
  .let{O,(Y)}:=qn (m+1) r s h
   grind
def aic:∀m (l:List B),ac l<m->i' m l=[]:=by intro m l h;have:=u6 m l;rw[oL _ _ h]at this;grind
def fL(l:List B):(Nat->List (List B))
 |0=>[]
 |m+1=>fL l m++i' m l
def xi(l:List B):∀m,↥(fL l m)=fB ↥l m
 |0=>rfl
 |m+1=>by rw[fL,b0,xi l m,u6];rfl
def Kp(a:B) r:∀m,(fL (a::r)<|m+1).Perm (fL r (m+1)++(fL r m).map (a:: ·))
 |0=>by simp[fL,u5]
 |m+1=>by
  rw[fL,i'];show(ak8 _<|Kp a r m).trans ?_;conv=>rhs;rw[fL,fL]
  rw[dX,show fL r (m+1)=fL r m++i' m r from D];simp only[hI];show GL _<|GL _ ?_;rw[<-hI];show List.perm_append_comm
end
def A6:∀l,(fL l<|ac l+1).Perm<|subsets l
 |[]=>by rfl
 |a::r=>by show(Kp a r<|ac r+1).trans ?_;rw[fL,aic (ac r+1) r ∅,gI];show ak9 (A6 r)<|(A6 r).map _
def lR(l:List dT):=l.Pairwise λa b=>fi a b=aa
def acd(h:fi a b=aa):fi b a=ap:=by rw[<-kC];intro q;have:=f4.iD _ _ _ h q;rw[f4.jF]at this;cases this
def YW(h:ac s<ac t):hr t s=ap:=by rw[<-kC,t0];omega
def YY a s t:hr (a::t) (a::s)=hr t s:=by unfold hr;rw[gs,f4.jF];simp
def D7:∀m l,lR l->iO hr (i' m l)
 |0,l,_=>by rw[u5];show wg _ _
 |m+1,[],_=>rb
 |m+1,a::r,h=>by
  let{O,(Y)}:=gm.mp h
  show Gx.mpr {?_,D7 (m+1) r Y,?_}
  .rw[wh];show(D7 m r Y).imp λ{s t} q=>by rw[YY];show q
  .intro s d t g;let{s',f,(rfl)}:=ct.mp d
   let{cX,_}:=qn m r s' f
   let{d8,(i)}:=qn (m+1) r t g
   cases t with
   |nil=>simp at d8
   |cons b t'=>
    have c:=O b<|i.subset ();unfold hr;rw[gs,acd c,cz];have:¬b=a:=λe=>by rw[e,f4.jF]at c;cases c
    have:=‹d8›
    simp[*]
def Ko:∀{m:Nat} {s:List dT},s∈fL l m->ac s<m
 |0,s,h=>by cases h
 |m+1,s,h=>by
  rw[fL,cN]at h;obtain h|h:=h
  .show nc<|Ko h
  .rw[(qn m l s h).1];omega
def Kn(h:lR l):∀m,iO hr<|fL l m
 |0=>rb
 |m+1=>Gx.mpr {Kn h m,D7 m l h,λs a t b=>YW<|(qn m l t b).1▸Ko a}
def LC(h:lR l):sortBy vZ (subsets l)=fL l (ac l+1):=by rw[w6 oh yn];show(rp oh (A6 l)<|Kn h _).symm
def mI(left n:Nat):=match left with
 |0=>0
 |m+1=>bU n m
def mw:(Nat->List dT->Nat->List dT)
 |_,[],_=>[]
 |left,a::r,k=>if k<mI left ↥r then a::mw (left-1) r k else mw left r (k-mI left ↥r)
def xk:∀left l k,k<bU ↥l left->(i' left l)[k]? =I (mw left l k)
 |0,[],k,h=>by
  rw[nE]at h;have:k=0:=by omega
  subst this;rfl
 |left+1,[],k,h=>by rw[nW,bU]at h;omega
 |0,a::r,k,h=>by
  rw[nE]at h;have e:k=0:=by omega
  subst e;have:=xk 0 r 0 (by rw[nE];omega);rw[u5]at this⊢;show this
 |left+1,a::r,k,h=>by
  rw[i'];rw[cz,bU]at h;change _=I (if k<bU ↥r left then a::mw left r k else mw (left+1) r (k-bU ↥r left));have b:↥((i' left r).map (a:: ·))=bU ↥r left:=by rw[bt,u6]
  split
  .rename_i q;rw[gH<|b▸q,cO,xk left r k q];rfl
  .rename_i q;rw[jt ∅,b];show xk (left+1) r _ ∅
def YU l(b:left<m)(h:k<bU ↥l left):(fL l m)[fB ↥l left+k]? =I (mw left l k):=by
 let{c,(rfl)}:=SK b;clear b;induction c with
 |zero=>rw[fL,jt<|by rw[xi];omega,xi,show fB ↥l left+k-fB ↥l left=k by omega];show xk left l k h
 |succ c d=>
  rw[<-Gs,fL,gH ?_]at⊢
  .show d
  .rw[xi];have:fB ↥l left+bU ↥l left<=fB ↥l (left.succ+c):=Uw (a:=left+1) _ ∅;omega
def uX{A C:Type}(f:A->List C) m(b:0<m):∀(l:List A),(∀x∈l,↥(f x)=m)->∀k,(l.flatMap f)[k]? =(l[k/m]?).bind λx=>(f x)[k%m]?
 |[],_,k=>by simp
 |a::r,h,k=>by
  rw[h8];have b7:=h a ();obtain q|q:=fs k m
  .rw[gH ∅,Nat.div_eq_of_lt q,SG q];rfl
  .rw[jt ∅,b7,uX f m b r (by grind)<|k-m,Nat.div_eq_sub_div b q,Nat.mod_eq_sub_mod q];rfl
def oE{A C:Type}(f:A->List C) m:∀(l:List A),(∀x∈l,↥(f x)=m)->↥(l.flatMap f)=ac l*m
 |[],_=>by simp
 |a::r,h=>by rw[h8,b0,h a (),oE f m r<|by grind,cz,zY];omega
def w5(cmp:B->B->Order) l:↥(sortBy cmp l)=ac l:=by
 have aS:∀x l,↥(insertBy cmp x l)=ac l+1:=by
  intro x l;induction l with
  |nil=>rfl
  |cons y r a=>rw[insertBy];split<;>simp[a]
 have key:∀(l acc:List B),↥(l.foldl (λr x=>insertBy cmp x r) acc)=ac acc+ac l:=by
  intro l;induction l with
  |nil=>intro acc;rfl
  |cons x r a=>intro acc;rw[h7,a,aS,cz];omega
 have:=key l [];simpa[sortBy]using this
def HW:∀l,↥(subsets l)=2^ac l
 |[]=>rfl
 |a::r=>by rw[subsets];simp[HW r];omega
def Cu g:(fH g).paths.length=2*ac g.nodes/\(fH g).users.length=ac g.users+1/\(fH g).actions.length=ac g.actions+1/\(fH g).flags.length=2^ac g.flags/\(fH g).times=g.times:=by
 show{?_,?_,?_,?_,D}
 .change(sortBy _ _).length=_;rw[w5];simp;omega
 .change(sortBy _ _).length=_;rw[w5];simp
 .change(sortBy _ _).length=_;rw[w5];simp
 .change(sortBy _ _).length=_;rw[w5,HW]
def Za g:↥(qL g)=hl g:=by
 let{O,Y,b,c,(d)}:=Cu g
 unfold qL hl vV;rw[oE _<|(ac g.users+1)*((ac g.actions+1)*(2^ac g.flags*ac g.times)),O];intro p _;rw[oE _<|(ac g.actions+1)*(2^ac g.flags*ac g.times),Y];intro u _;rw[oE _<|2^ac g.flags*ac g.times,b];intro a _;rw[oE _<|↥g.times,c];intro aF _;rw[bt,d]
def Zb g(e:0<ac g.times)
  (o:(fH g).paths[k/ac g.times/2^ac g.flags/(ac g.actions+1)/(ac g.users+1)]? =I p)
  (O:(fH g).users[k/ac g.times/2^ac g.flags/(ac g.actions+1)%(ac g.users+1)]? =I u)
  (Y:(fH g).actions[k/ac g.times/2^ac g.flags%(ac g.actions+1)]? =I a)
  (q:(fH g).flags[k/ac g.times%2^ac g.flags]? =I aF)
  (r:g.times[k%ac g.times]? =I n):(qL g)[k]? =I {user:=u,action:=a,path:=p,flags:=aF,time:=n}:=by
 let{cX,d8,s,t,(f)}:=Cu g
 have x:0<2^ac g.flags:=Gl _;generalize 2^ac g.flags=e4 at*;generalize m:ac g.times=eU at*;generalize z:ac g.actions+1=cw at*;generalize A:ac g.users+1=j at*;have w:0<cw:=by omega
 have y:0<j:=by omega
 have h:=Go e x;have i:=Go h w;have v:=Go i y;unfold qL;have d:∀(p:hH) u a aF,↥((fH g).times.map λn=>({user:=u,action:=a,path:=p,flags:=aF,time:=n}:iY))=eU:=λp u a aF=>by rw[bt,f,m]
 have c:∀(p:hH) (u a:dT),↥((fH g).flags.flatMap λaF=>(fH g).times.map λn=>({user:=u,action:=a,path:=p,flags:=aF,time:=n}:iY))=eU*e4:=λp u a=>by rw[oE _ eU _ λaF _=>d p u a aF,t,iz]
 have b:∀p u,↥((fH g).actions.flatMap λa=>(fH g).flags.flatMap λaF=>(fH g).times.map λn=>({user:=u,action:=a,path:=p,flags:=aF,time:=n}:iY))=eU*e4*cw:=λp u=>by rw[oE _ (eU*e4) _ λa _=>c p u a,s,iz]
 have l:∀(p:hH),↥((fH g).users.flatMap λu=>(fH g).actions.flatMap λa=>(fH g).flags.flatMap λaF=>(fH g).times.map λn=>({user:=u,action:=a,path:=p,flags:=aF,time:=n}:iY))=eU*e4*cw*j:=λp=>by rw[oE _ (eU*e4*cw) _ λu _=>b p u,d8,iz]
 rw[uX _ _ v _ λp _=>l p,<-nd,<-nd,<-nd,o,d4,
  uX _ _ i _ λu _=>b p u,z1,Gp,<-nd,<-nd,O,d4,
  uX _ _ h _ λa _=>c p u a,z1,Gp,<-nd,Y,d4,
  uX _ _ e _ λaF _=>d p u a aF,z1,Gp,q,d4,cO,f,r]
 rfl
def Ho(af:d.users.Nodup) ps:(bh d ps).users.Nodup/\(d.users++eb ps).foldl cE []=(bh d ps).users:=by show{rD _ _ af,?_};rw[pw,KY d.users [] ‹af›];rfl
def ai7 d ps:(bh d ps).actions.Nodup:=rD _ _ ne
def VL(h:l.Nodup)(s:iO fi l):lR l:=by
 induction l with
 |nil=>show rb
 |cons a r d=>
  let{aj,(aA)}:=gm.mp s
  rw[pq]at h;show gm.mpr {λb c=>?_,d h.2 aA};cases q:fi a b with
  |true=>rfl
  |false=>show absurd (f4.tL a b q<|aj b c) λe=>h.1<|e▸c
def uY d ps:lR (bh d ps).flags/\rJ (ps.flatMap λp=>p.wishes.map λw=>w.flag)=(bh d ps).flags:=by
 have e:rJ (ps.flatMap λp=>p.wishes.map λw=>w.flag)=(bh d ps).flags:=by change _=sorted _;rw[W6];rfl
 show{e▸VL ((kK _).nodup_iff.mpr<|rD _ _ ne) (w3 f4 _),e}
def xl:∀{l:List dT},rising l=aa↔lR l
 |[]=>by simp[rising,lR]
 |[a]=>by simp[rising,lR]
 |a::b::r=>by
  have q:=xl (l:=b::r);rw[rising,cf,q];constructor
  .rintro⟨O,Y⟩;show gm.mpr {λc d=>?_,Y};obtain rfl|d:=bK.mp d
   .show O
   .show f4.iD _ _ _ O<|(gm.mp Y).1 c d
  .intro h
   let{O,(Y)}:=gm.mp h
   show{O b (),Y}
def Ht(h:lR l)(s:m.Sublist l):lR m:=ak' s h
def De ns q:∀k,∃j,j<=k/\i6 ns q k=q.take j/\([]∈ns->i6 ns q k∈ns)
 |0=>{0,bA _,D,λh=>h}
 |k+1=>by
  rw[i6];split
  .rename_i h;show{k+1,bA _,D,λ_=>‹h›}
  .let{j,O,Y,(b7)}:=De ns q k
   show{j,∅,Y,b7}
def CN d(h:∀p∈ps,jp p=aa):[]∈(bh d ps).nodes/\∀q∈(bh d ps).nodes,ac q<=5/\q.all bz=aa:=by
 have e:(bh d ps).nodes=(ps.flatMap λp=>zH p.path).foldl cE [[]]:=D;rw[e];show{by rw[ls];simp,λq a=>?_};rw[ls]at a;obtain a|a:=a
 .rw[cy.mp a];simp
 .let{p,f,(b)}:=js.mp a
  let{k,_,rfl}:=ct.mp b;have:=(fl p).mp<|h p f;show{?_,?_}
  .rw[g8];omega
  .rw[di];show λn c=>di.mp this.2.2.1.1 n<|wi c
def ac0 ns p:↥(mG ns p)<=ac ns:=pt _ _
structure vB(g:Grid):Prop where
 ay:↥g.users<=1000000
 nG:↥g.actions<=1000000
 kE:∀u∈g.users,bz u=aa
 ai2:∀u∈g.actions,bz u=aa
 lq:[]∈g.nodes
 ij:↥g.nodes<=1000000
 aJ:∀q∈g.nodes,↥q<=5/\q.all bz=aa
 cv:↥g.flags<=16
 adZ:∀u∈g.flags,bz u=aa
 DH:lR g.flags
 cV:∀t∈g.times,t<=h5
 hp:0∈g.times
def Cw(o:vB g)(a:q∈g.nodes):↥(zu g q)<=6/\(zu g q).all bz=aa:=by
 let{O,(Y)}:=o.aJ q a
 unfold zu;show{by simp;omega,?_};rw[List.all_append,Y];simp;show oB<|b5 (ac0 g.nodes q) o.ij
def Zc(o:vB g)(h:iU r=aa):iU (qM g r)=aa:=by
 let{O,Y,b,c,a,d,f,(l)}:=(kV r).mp h
 show(kV _).mpr {?_,?_,?_,?_,?_,?_,?_,?_}
 .change bz (if _ then _ else _)=aa;split
  .show O
  .show oB o.ay
 .change bz (if _ then _ else _)=aa;split
  .show Y
  .show oB o.nG
 .change List.all (if _ then _ else _) bz=aa;split
  .show b
  .show(Cw o ?_).2;rw[CO]
   let{j,_,_,h}:=De g.nodes r.path ↥r.path
   show h o.lq
 .change ac (if _ then _ else _)<=6;split
  .show c
  .show(Cw o ?_).1;rw[CO]
   let{j,_,_,h}:=De g.nodes r.path ↥r.path
   show h o.lq
 .rw[di]at a⊢;show λn i=>a n (to.mp i).1
 .show xl.mpr<|Ht (xl.mp d) Ah
 .show b5 (Gz _ _) f
 .have k:g.times.filter (λn=>decide (n<=r.time))≠[]:=λe=>by
   have:0∈g.times.filter (λn=>decide (n<=r.time)):=to.mpr {o.hp,()};rw[e]at this;cases this
  show o.cV _ (to.mp<|Di k).1
def adI{d:dD}(cF:∀u∈d.users,bz u=aa)(y:ac d.users<=12)(c:∀p∈ps,jp p=aa)(q:ac ps<=20)(v:(bh d ps).flags.length<=16):vB (bh d ps):=by
 have m:∀{B:Type} [BEq B] (l acc:List B),↥(l.foldl cE acc)<=ac acc+ac l:=by
  intro B _ l;induction l with
  |nil=>intro acc;simp
  |cons a r k=>intro acc;rw[h7];show b5 (k _) ?_;unfold cE;split<;>simp<;>omega
 have o:∀{B:Type} (f:Pattern->List B) (n:Nat),(∀p∈ps,↥(f p)<=n)->↥(ps.flatMap f)<=20*n:=by
  intro B f n h;have:∀dY:List Pattern,(∀p∈dY,↥(f p)<=n)->↥(dY.flatMap f)<=ac dY*n:=by
   intro dY;induction dY with
   |nil=>intro _;simp
   |cons a r k=>intro h;rw[h8,b0,cz,zY];have:=h a ();have:=k λp c=>h p (by simp[c]);omega
  show b5 (this ps h)<|tj _ q
 have z:↥(eb ps)<=20:=b5 (pt _ _) q;have kE:∀u∈eb ps,bz u=aa:=λu g=>by
  let{p,b,(e)}:=q7.mp g
  have:=((fl p).mp<|c p b).1;cases ax:p.who with
  |any=>rw[ax]at e;cases e
  |group n=>rw[ax]at e;cases e
  |user n=>rw[ax]at e this;cases e;show this
 let{lq,(x)}:=CN d c
 let{aZ,(s)}:=AV d ps
 show{?_,?_,?_,?_,lq,?_,x,v,?_,(uY d ps).1,?_,?_}
 .have:=m (eb ps) d.users;change ac (GF _ _ _)<=_;omega
 .have O:=m (ps.flatMap λp=>p.acts) [];have Y:=o (λp=>p.acts) 6 λp b=>((fl p).mp<|c p b).2.1.2.2;change ac (GF _ _ _)<=_;rw[nW]at O;omega
 .intro u g;rw[show(bh d ps).users=(eb ps).foldl cE d.users from D,ls]at g;obtain h|h:=g
  .show cF u h
  .show kE u h
 .intro u g;rw[show(bh d ps).actions=(ps.flatMap λp=>p.acts).foldl cE []from D,ls]at g;obtain h|h:=g
  .cases h
  .let{p,b,(i)}:=js.mp h
   have:=di.mp ((fl p).mp<|c p b).2.1.1 u i;simp at this;show this.1
 .have O:=m (ps.flatMap λp=>zH p.path) [[]];have Y:=o (λp=>zH p.path) 6 λp b=>by
   have:=((fl p).mp<|c p b).2.2.1.2;change(hm _ _).length<=6;simp;omega
  change ac (GF _ _ _)<=_;rw[lb]at O;omega
 .intro u g;rw[<-(uY d ps).2,ot]at g
  let{p,b,(i)}:=js.mp g
  let{w,ax,(rfl)}:=ct.mp i;show di.mp ((fl p).mp<|c p b).2.2.2.1.1 w ax
 .intro t j;rw[s]at j;simp only[hK,bK,cN,q7]at j;obtain rfl|⟨p,b,e⟩|⟨p,b,e⟩:=j
  .show cI _
  .show((fl p).mp<|c p b).2.2.2.2.1 t e
  .show((fl p).mp<|c p b).2.2.2.2.2 t e
 .rw[s];simp[hK]
def Bc(o:Lt B lt)(c:∀a b,cmp a b= .first↔lt a b=aa) l x:x∈sortBy cmp l↔x∈l:=by
 rw[w6 o c];show(kK l).mem_iff
def Km:∀{m:Nat} {s:List dT},s∈fL l m->s.Sublist l
 |0,s,h=>by cases h
 |m+1,s,h=>by
  rw[fL,cN]at h;obtain h|h:=h
  .show Km h
  .show(qn m l s h).2
def uT{B:Type}{l:List B}(h:i<ac l):∃x,l[i]? =I x/\x∈l:={l[i],cA h,wl h}
def D6 g:1*(2*ac g.nodes)*(ac g.users+1)*(ac g.actions+1)*2^ac g.flags*ac g.times=hl g:=by unfold hl vV;rw[SF];grind
def abY(o:vB g)(w:k<hl g):∃p u a aF t,
  (fH g).paths[k/ac g.times/2^ac g.flags/(ac g.actions+1)/(ac g.users+1)%(2*ac g.nodes)]? =I p/\
  (fH g).users[k/ac g.times/2^ac g.flags/(ac g.actions+1)%(ac g.users+1)]? =I u/\
  (fH g).actions[k/ac g.times/2^ac g.flags%(ac g.actions+1)]? =I a/\
  (fH g).flags[k/ac g.times%2^ac g.flags]? =I aF/\
  g.times[k%ac g.times]? =I t/\(qL g)[k]? =I {user:=u,action:=a,path:=p,flags:=aF,time:=t}/\
  iU {user:=u,action:=a,path:=p,flags:=aF,time:=t}=aa:=by
 let{cX,d8,z,A,(E)}:=Cu g
 have r:0<ac g.times:=wk o.hp;have D:0<2^ac g.flags:=Gl _;have m:k/ac g.times/2^ac g.flags/(ac g.actions+1)/(ac g.users+1)<2*ac g.nodes:=by rw[nd,nd,nd];show pp ?_;rw[<-D6,SF]at w;grind
 let{p,ep,(mp)}:=uT (by rw[cX];show m);let{u,j,(C)}:=uT (i:=k/ac g.times/2^ac g.flags/(ac g.actions+1)%(ac g.users+1)) (by rw[d8];show mb _ ∅);let{a,c,(B)}:=uT (i:=k/ac g.times/2^ac g.flags%(ac g.actions+1)) (by rw[z];show mb _ ∅);let{aF,d,(s)}:=uT (i:=k/ac g.times%2^ac g.flags) (by rw[A];show mb _ D);let{t,f,(mt)}:=uT (l:=g.times)<|mb _ r;show{p,u,a,aF,t,by rw[SG m];show ep,j,c,d,f,Zb g r ep j c d f,(kV _).mpr ?_};have v:ac p<=6/\p.all bz=aa:=by
  obtain h|h:=cN.mp<|(Bc oh yn _ p).mp mp
  .have:=o.aJ p h;show{∅,this.2}
  .let{q,y,(rfl)}:=ct.mp h;show Cw o y
 have b:aF.Sublist g.flags:=by have e:(fH g).flags=fL g.flags (ac g.flags+1):=LC o.DH;rw[e]at s;show Km s
 show{?_,?_,v.2,v.1,?_,xl.mpr<|Ht o.DH b,b5 b.length_le o.cv,o.cV t mt}
 .obtain h|h:=cN.mp<|(Bc f4 u7 _ u).mp C
  .show o.kE u h
  .rw[cy.mp h];show oB o.ay
 .obtain h|h:=cN.mp<|(Bc f4 u7 _ a).mp B
  .show o.ai2 a h
  .rw[cy.mp h];show oB o.nG
 .rw[di];show λn x=>o.adZ n<|b.subset x
def oD{B C:Type}{f:B->List C}:∀{l:List B},(∀x∈l,↥(f x)<=n)->↥(l.flatMap f)<=ac l*n
 |[],_=>by simp
 |a::r,h=>by rw[h8,b0,cz,zY];have:=h a ();have:=oD (l:=r) λp b=>h p (by simp[b]);omega
def NV:∀{l:List aE},(∀x∈l,ac x<=n)->↥(glued [c] l)<=ac l*(n+1)
 |[],_=>by simp[glued]
 |[a],h=>by have:=h a ();simp[glued];omega
 |a::b::r,h=>by
  have O:=h a ();have Y:=NV (c:=c) (l:=b::r) λp d=>h p (by simp[d]);rw[glued,b0,b0,lb,show(a::b::r).length=↥(b::r)+1 from D,zY]
  .omega
  simp
def lz(h:bz t=aa):ac t<=12:=by unfold bz at h;simp only[cf,dg]at h;show h.2.1
def DZ(h:n<=h5):↥(dt n)<=7:=by
 have O:=rl h;rw[tO]at O;split at O
 .rename_i q;show q.2.1
 .cases O
def Lx(h:p.all bz=aa):↥(en p)<=1+ac p*13:=by
 unfold en;split
 .simp
 .have:=oD (l:=p) (f:=λn=>47::n) (n:=13) λx a=>by
   have:=lz<|di.mp h x a;simp;omega
  omega
def OW(ok:gZ d):↥(nO d)<=2000:=by
 unfold nO;rw[b0];have O:=oD (f:=λu=>ended<|USER++u) (n:=18) λu e=>by
  have:=lz<|ok.kE u e;have:↥USER=5:=by decide
  simp[ended];omega
 have Y:=oD (f:=λg=>ended<|m8 g) (n:=177) λg a=>by
  have O:=lz<|ok.uS g a;have Y:=oD (l:=g.members) (f:=λm=>32::m) (n:=13) λm c=>by have:=lz<|ok.C2 g a m c;simp;omega
  have b:=ok.rV g a;have:↥GROUP=6:=by decide
  unfold ended m8;rw[b0,b0,b0,cz,lb];omega
 have b:=ok.kF;have h:=ok.r8;omega
def Kx(h:iU r=aa):↥(l4 r)<=2000:=by
 let{O,Y,a,e,b,g,i,(c)}:=(kV r).mp h
 have cX:=lz O;have d8:=lz Y;have j:=Lx a;have k:=DZ c;have m:=oD (l:=r.flags) (f:=λf=>32::43::f) (n:=14) λf d=>by have:=lz<|di.mp b f d;simp;omega
 unfold l4;simp only[b0,cz];omega
def Z9(h:jp p=aa):↥(iT p)<=2000:=by
 let{O,{Y,_,o},{q,(r)},{s,_,u},v,y}:=(fl p).mp h
 have w:↥(whoText p.who)<=18:=by
  cases e:p.who with
  |any=>decide
  |user n=>
   rw[e]at O;have:=lz O;have:↥USER=5:=by decide
   simp[whoText];omega
  |group n=>
   rw[e]at O;have:=lz O;have:↥GROUP=6:=by decide
   simp[whoText];omega
 have a:↥(jV p.acts)<=100:=by
  unfold jV;split
  .decide
  .have:=NV (c:=44) (l:=p.acts) (n:=12) λx d=>by
    have:=di.mp Y x d;rw[cf]at this;show lz this.1
   have:ac p.acts*13<=6*13:=tj _ o;omega
 have E:=Lx q;have F:ac p.path*13<=5*13:=tj _ r;have t:↥(gD p.path p.below)<=100:=by
  unfold gD;split
  .split
   .decide
   .simp;omega
  .omega
 have f:=oD (l:=p.wishes) (f:=λw=>32::wishText w) (n:=14) λx d=>by have:=lz<|di.mp s x d;simp[wishText];omega
 have G:ac p.wishes*14<=6*14:=tj _ u;have z:↥(eH " do ")=4:=by decide
 have A:↥(eH " at ")=4:=by decide
 have B:↥(eH " if")=3:=by decide
 have C:↥(eH " from ")=6:=by decide
 have D:↥(eH " to ")=4:=by decide
 have i:↥(if p.wishes.isEmpty=aa then[]else eH " if"++p.wishes.flatMap λw=>32::wishText w)<=100:=by
  split
  .simp
  .rw[b0];omega
 have j:∀n,p.since=I n->↥(dt n)<=7:=λn e=>DZ<|v n e;have g:∀n,p.until_=I n->↥(dt n)<=7:=λn e=>DZ<|y n e;unfold iT;cases k:p.since with
 |none=>
  cases b:p.until_ with
  |none=>simp only[b0,nW];omega
  |some n=>have:=g n b;simp only[b0,nW];omega
 |some m=>
  have:=j m k;cases b:p.until_ with
  |none=>simp only[b0,nW];omega
  |some n=>have:=g n b;simp only[b0];omega
def OP{l:List Int}(h:l.drop i=n::r):l[i]? =I n/\r=l.drop (i+1)/\i<ac l:=by
 have au:i<ac l:=by
  obtain q|q:=fs i ↥l
  .show q
  .rw[mc q]at h;cases h
 rw[nX au]at h;injection h with O Y
 grind
def BS{l:List Int}(h:tf (l.drop i)=I (x,t)):∃n:Nat,l[i]? =I (n:Int)/\x=(l.drop<|i+1).take n/\ac x=n/\t=l.drop (i+1+n)/\i+1+n<=ac l:=by
 cases e:l.drop i with
 |nil=>rw[e]at h;simp[tf]at h
 |cons n r=>
  rw[e,tf]at h
  let{O,Y,(b)}:=OP e
  split at h
  .rename_i a
   let{rfl,(rfl)}:=tg<|d3 h
   subst Y;show{n.toNat,by rw[O];congr 1;omega,D,?_,by rw[Ai],?_}
   .rw[g8];omega
   .have:=a.2;rw[gn]at this;omega
  .cases h
def Pl{l:List Int}(h:v8 q (l.drop i)=I (c,t)):
  ∃p n k xs,l[i]? =I p/\q p=I (n,k)/\i+1+n<=ac l/\c=(p::(l.drop<|i+1).take n)::xs/\na k (l.drop<|i+1+n)=I (xs,t):=by
 cases e:l.drop i with
 |nil=>rw[e]at h;simp[v8]at h
 |cons p r=>
  rw[e,v8]at h
  let{O,Y,(f)}:=OP e
  subst Y;cases a:q p with
  |none=>rw[a]at h;cases h
  |some z=>
   let{n,(k)}:=z
   rw[a]at h;dsimp only at h;split at h
   .cases h
   .rename_i d;cases b:na k ((l.drop<|i+1).drop n)with
    |none=>rw[b]at h;cases h
    |some z=>
     let{xs,(u)}:=z
     rw[b]at h
     let{rfl,(rfl)}:=tg<|d3 h
     show{p,n,k,xs,O,a,?_,D,?_}
     .rw[gn]at d;omega
     simp_all
def ain{l:List Int}(au:i<ac l)(h:pk q f (l.drop i)=I b7):
  ∃c,∃t,∃b,∃a,b7=c::a/\v8 q (l.drop i)=I (c,t)/\pk q b t=I a:=by
 cases e:l.drop i with
 |nil=>have:=gC ac e;simp at this;omega
 |cons p r=>
  rw[e]at h;cases f with
  |zero=>simp[pk]at h
  |succ f=>rw[pk]at h;grind
def aim(h:pk b7 f []=I q):q=[]:=by
 cases f<;>show(d3 h).symm
def Uxx{P:List Int->List (List Int)->Prop}(a:P [] [])(b:∀x,P [] [x])(c:∀x y,P [] [x,y])(d:∀x y z r,P [] (x::y::z::r))(e:∀x,P [x] [])(f:∀x y,P [x] [y])(g:∀x y z r,P [x] (y::z::r))(h:∀x y t,P (x::y::t) [])(i:∀x y t z,P (x::y::t) [z])(j:∀x y t z w r,P (x::y::t) (z::w::r)):∀t r,P t r
 |[],[]=>a
 |[],[_]=>b _
 |[],[_,_]=>c _ _
 |[],_::_::_::_=>d _ _ _ _
 |[_],[]=>e _
 |[_],[_]=>f _ _
 |[_],_::_::_=>g _ _ _ _
 |_::_::_,[]=>h _ _ _
 |_::_::_,[_]=>i _ _ _ _
 |_::_::_,_::_::_=>j _ _ _ _ _ _
def Uk:∀c,F7 c=c
 |[]=>rfl
 |[]::_=>rfl
 |(x::t)::r=>by
  cases x with
  |negSucc n=>rfl
  |ofNat n=>revert t r;rcases n with _|_|_|_|_|_|_|_|_|_|_|_|_|_|_|n<;>show Uxx rfl (λ_=>rfl) (λ_ _=>rfl) (λ_ _ _ _=>rfl) (λ_=>rfl) (λ_ _=>rfl) (λ_ _ _ _=>rfl) (λ_ _ _=>rfl) (λ_ _ _ _=>rfl) (λ_ _ _ _ _ _=>rfl)
def ai0(h:F8 l=aa):∃a,pk pi ↥l l=I a/\s8 l=Sn (So gl akh a)/\ac a<=200/\∀c∈a,zJ c=aa:=by
 unfold F8 RZ at h;cases e:pk pi ↥l l with
 |none=>rw[e]at h;cases h
 |some a=>
  rw[e]at h;dsimp only at h;have b:a.map F7=a:=by
   conv=>rhs;rw[<-ts a]
   show pr λc _=>Uk c
  rw[b,cf]at h;show{a,D,?_,?_,?_}
  .unfold s8 RZ;rw[e];dsimp only;rw[b]
  .have:=h.1;unfold PyFlat.atMost at this;simpa using this
  .have:=h.2;unfold aki at this;rw[cf]at this;show di.mp this.1
end RC
namespace L2
open PySem
def k2(xs:Array Nat):=xs.toList.Pairwise λa b=>a<b
def xm(h:k2 xs){j:Nat}(d:i<j)(au:xs[i]? =I a)(c:xs[j]? =I b):a<b:=by
 rw[<-j5]at au c
 let{cX,(e)}:=ee.mp au
 let{d8,(f)}:=ee.mp c
 have:=SV.mp h i j cX d8 d;omega
def Eu(h:k2 xs) j:∀fuel lo au,au-lo<=fuel->lo<=au->au<=xs.size->(∀i a,i<lo->xs[i]? =I a->a<j)->(∀i a,au<=i->xs[i]? =I a->j<=a)->
  ∃r,RV xs j fuel lo au=r/\r<=xs.size/\(∀i a,i<r->xs[i]? =I a->a<j)/\∀i a,r<=i->xs[i]? =I a->j<=a
 |0,lo,au,dY,eq,b7,O,Y=>{lo,D,∅,O,λi a c e=>Y i a ∅ e}
 |fuel+1,lo,au,dY,eq,b7,O,Y=>by
  rw[RV];split
  .have q:(lo+au)/2<xs.size:=by omega
   have b:=gK q;have d:xs.getD ((lo+au)/2) j=xs[(lo+au)/2]:=by simp[Array.getD,q]
   dsimp only;rw[d];split
   .rename_i lt;show Eu h j fuel _ au ∅ ∅ b7 (λi a c e=>?_) Y;obtain k|k:=fs i<|(lo+au)/2
    .show wb (xm h k e b) lt
    .have:i=(lo+au)/2:=by omega
     subst this;rw[b]at e;injection e with e;rw[<-e];show lt
   .show Eu h j fuel lo _ ∅ ∅ ∅ O λi a c e=>?_;obtain k|k:=fs ((lo+au)/2) i
    .have:=xm h k b e;omega
    .have:i=(lo+au)/2:=by omega
     subst this;rw[b]at e;injection e with e;omega
  .have:lo=au:=by omega
   subst this;show{lo,D,∅,O,Y}
def PE(h:k2 xs) j:iX xs j<=xs.size/\(∀i a,i<iX xs j->xs[i]? =I a->a<j)/\∀i a,iX xs j<=i->xs[i]? =I a->j<=a:=by
 let{r,e,O,Y,(b)}:=Eu h j xs.size 0 xs.size ∅ ∅ (bA _) (λi a q=>∅) (λi a q e=>by grind)
 have:iX xs j=r:=e;show this▸{O,Y,(b)}
def aiI(h:k2 xs)(O:∀a,k≠0->xs[k-1]? =I a->a<j)(Y:∀a,xs[k]? =I a->j<=a)(g:k<=xs.size):iX xs j=k:=by
 let{f,c,(d)}:=PE h j
 obtain q|q|q:=Nat.lt_trichotomy (iX xs j) k
 .have b:k-1<xs.size:=by omega
  have e:=gK b;have:=O _ ∅ e;have:=d (k-1) _ ∅ e;omega
 .show q
 .have b:k<xs.size:=by omega
  have e:=gK b;have:=Y _ e;have:=c k _ q e;omega
structure lS(led:Bool)(t:SetTable)(n:Nat):Prop where
 up:k2 t.place
 Mq:t.dummies=#[]
 led:t.led=led
 fits:t.fits n=aa
def U8 led f m:lS led (.fresh f m led) 0:={rb,D,D,by rfl}
def Y2 n:k2 (wA n):=by unfold k2;show Array.toList_range▸SU
def wS{t:SetTable}(a:t.led=led) n:lS led (t.standIn n) n:={Y2 n,D,a,SetTable.standIn_fits t n}
def NR j:RT #[] j=ap:=by
 rfl
def K'(af:t.dummies=#[]):∀fuel p {j:Nat} {d:Option Nat},p.dummy=ag->F6 t eq h fuel p=I (.empty j d)->d=ag/\t.slot j= .empty
 |0,p,j,d,_,e=>by simp[F6]at e
 |fuel+1,p,j,d,dY,e=>by
  have b7:∀q,q.dummy=ag->(t.advance q).dummy=ag:=λq b=>by
   unfold SetTable.advance;split
   .show b
   .show b
  rw[F6]at e;cases a:t.slot p.j with
  |empty=>grind
  |dummy=>
   unfold RS at a;dsimp only at a;rw[af,NR]at a;split at a
   .cases a
   .simp at a
  |live i=>
   rw[a]at e;dsimp only at e;split at e
   .simp at e
   .show K' af fuel _ (b7 p dY) e
def Y3(h:k2 xs)(o:xs[iX xs j]? ≠I j):k2 (SetTable.insertAt xs (iX xs j) j):=by
 let{r,n,(f)}:=PE h j
 have gt:∀i a,iX xs j<=i->xs[i]? =I a->j<a:=λi a au e=>by
  have s:=f i a au e;obtain q|q:=fs (iX xs j) i
  .have p:iX xs j<xs.size:=by have:=(rf.mp e).1;omega
   have g:=gK p;have:=xm h q g e;have:=f _ _ (bA _) g;omega
  .have:i=iX xs j:=by omega
   rw[this]at e;have:a≠j:=λk=>o (by rw[e,k]);omega
 unfold k2;rw[SetTable.toList_insertAt];show Gx.mpr {h.sublist<|SP _ _,gm.mpr {λa c=>?_,h.sublist<|List.drop_sublist _ _},λa c b d=>?_}
 .let{i,(au)}:=ng c
  rw[GD,j5]at au;show gt _ a ∅ au
 .let{i,(au)}:=ng c
  have l:i<iX xs j:=by have:=(ee.mp au).1;simp at this;omega
  rw[S8 l,j5]at au;have O:=n i a l au;obtain rfl|d:=bK.mp d
  .show O
  .let{k,(m)}:=ng d
   rw[GD,j5]at m;show wb O<|gt _ b ∅ m
def U7(T:lS led t es.size) h x:lS led (layNew t es h x).2.1 (layNew t es h x).1.size:=by
 unfold layNew;split
 .rename_i slot c e;unfold SetTable.freeSlot at e;split at e
  .rename_i j d ep;let{rfl,(b)}:=K' T.Mq _ _ D ep;simp only[Option.getD_none,Option.some.injEq,Prod.mk.injEq]at e
   let{rfl,_}:=e
   dsimp only;unfold SetTable.orStandIn;split
   .rename_i a;show{Y3 T.up λq=>?_,?_,T.led,a}
    .unfold RS at b;grind
    .change(if RT t.dummies j=aa then _ else t.dummies)=#[];rw[T.Mq,NR];rfl
   .show wS T.led _
  .cases e
 .simpa using wS T.led<|es.size+1
def U6(g:t.led=led) wanted:lS led (qN t es wanted).2.1 (qN t es wanted).1.size:=by
 unfold qN;split
 .rename_i t' order e;dsimp only;split
  .rename_i f;simp only[cf]at f;have key:t'.led=led/\t'.dummies=#[]/\k2 t'.place:=by
    unfold SetTable.relaid SetTable.laid at e;cases h:SetTable.layClean (SetTable.sizeAbove wanted-1) (es.map (·.1))with
    |none=>rw[h]at e;simp at e
    |some owner=>rw[h]at e;have e:=(d3 e);have i:t'=_:=(gC Prod.fst e).symm;rw[i];show{g,D,?_};unfold k2;dsimp only;rw[List.map_filterMap];show alc _ (λa b j c f d af=>?_) SU;simp_all
   show{key.2.2,key.2.1,key.1,(f.2)}
  .show wS g _
 .show wS g _
def n3:(az->Int)
 |.int k _=>k
 |_=>0
structure k0(prog:bS)(w:bL)(h:bG)(a:ao)(led:Bool)(zs:List Int):Prop where
 bE:∃es ep t,(h.get? a=I {cls:=.type "set",dict:=ag,data:=.set es ep t,slots:=#[]}/\lS led t es.size/\Aq (h1 prog w) es.toList/\(es.toList.map λe=>n3 e.2).Perm zs)
section
variable{prog:bS}{w:bL}{A:db}{E:az->bb->Prop}{s:bb}{a:ao}{led:Bool}{zs:List Int}
def Dr(h:(h1 prog w).is k v=aa):n3 v=k/\∃t,v= .int k t:=by let{t,(rfl)}:=RP h;show{D,t,(rfl)}
def x4 k t:(h1 prog w).is k (.int k t)=aa:=by simp[h1,F0]
def ad8{es:Array (Int×az)}(c:Aq (h1 prog w) es.toList)(b:k∉es.toList.map λe=>n3 e.2):es.toList.findIdx? (λe=>(h1 prog w).is k e.2)=ag:=by rw[Ag];intro e a;rw[<-kC];intro q;show b<|ct.mpr {e,a,(Dr q).1}
def ad7{es:Array (Int×az)}(b:Aq (h1 prog w) es.toList)(d:k∈es.toList.map λe=>n3 e.2):∃j,es.toList.findIdx? (λe=>(h1 prog w).is k e.2)=I j:=by
 let{e,a,(q)}:=ct.mp d
 let{{g,O,_},_}:=b e a
 have f:=q▸(Dr O).1.symm;subst f;cases c:es.toList.findIdx? (λe=>(h1 prog w).is g e.2)with
 |some j=>show{j,(rfl)}
 |none=>have:=Ag.mp c e a;rw[O]at this;cases this
def stored(b:s.heap.get? a=I {cls:=.type "set",dict:=ag,data:=.set es ep t,slots:=#[]}):
  (s.heap.update a<|Gi es' t').get? a=I {cls:=.type "set",dict:=ag,data:=.set es' (ep+1) t',slots:=#[]}:=by
 have:=me (Gi es' t') b D;show this
def Xr(S:k0 prog w s.heap a led zs)(room:ac zs+1<o')
  (h:∀b h',lc a s.heap h'->k0 prog w h' a led (if k∈zs then zs else zs++[k])->Q b {s with heap:=h'}):
  aR (aU prog w) A (setAddHashed a (.int k tk)<|(h1 prog w).hash k) Q E s:=by
 let{es,ep,t,l,T,d,(n)}:=S.bE
 have hz:es.size=ac zs:=by rw[<-n.length_eq];simp
 have F:es.size<o':=by omega
 unfold setAddHashed Rt;show hj<|av<|o4 l D T.fits ?_;dsimp only;rw[byScan_of (knd:=h1 prog w) (x:=.int k tk) D F d];rw[aM D];unfold setAddByScan;show av<|av<|vJ<|av<|wpAny_setScan_of (knd:=h1 prog w) (x4 k tk) l D T.fits d ?_;by_cases i:k∈es.toList.map λe=>n3 e.2
 .let{j,(G)}:=ad7 d i
  rw[G];show a7<|a7 ?_;have:=h ap s.heap (Heap.SameBut.refl a s.heap) (by rw[aM<|n.mem_iff.mp i];show S);show this
 rw[ad8 d i];rw[aD λq=>i<|n.mem_iff.mpr q]at h;have f:=layNew_perm t es ((h1 prog w).hash k)<|.int k tk;have fK:=U7 T ((h1 prog w).hash k)<|.int k tk;generalize layNew t es ((h1 prog w).hash k) (.int k tk)=L at f fK
 let{c,g,N,(O)}:=L
 dsimp only at f fK⊢;have z:Aq (h1 prog w) c.toList:=by rw[AA]at f;show(d.push (x4 k tk) D).perm f
 have r:(c.toList.map λe=>n3 e.2).Perm (zs++[k]):=by show(f.map _).trans ?_;rw[AA,dX];show n.append_right _
 have J:c.size<o':=by have:=r.length_eq;simp at this;omega
 have B:∀(b:Bool) (u:bb) (R:Unit->bb->Prop),R fr u->aR (aU prog w) A (match b with|true=>jo "set.scan.the-table-gave-way"|false=>pure fr) R E u:=λb u R q=>by
  cases b
  .show a7 q
  .show vJ q
 show av<|B _ _ _ ?_;have last:∀(cj:SetTable),lS led cj c.size->aR (aU prog w) A (do
    storeSet a c cj
    if(!N&&cj.tooFull)=aa then do
      (match(qN cj c<|s4 c.size).2.2 with|true=>jo "set.scan.the-table-gave-way"|false=>pure fr)
      storeSet a (qN cj c<|s4 c.size).1 (qN cj c<|s4 c.size).2.1
      pure (I aa)
     else pure (I aa)) (λo s'=>∃b h',o=I b/\s'={s with heap:=h'}/\lc a s.heap h'/\k0 prog w h' a led (zs++[k])) E s:=by
  intro cj g;show av<|Ra l D ?_<|RB J;have p:=stored (s:=s) (es':=c) (t':=cj) l;split
  .have cQ:=relayAll_perm cj c<|s4 c.size;have v:=U6 (es:=c) g.led<|s4 c.size;generalize qN cj c (s4 c.size)=it at cQ v
   let{y,M,(P)}:=it
   dsimp only at cQ v⊢;have K:y.size<o':=by have:=cQ.length_eq;simp at this;omega
   show av<|B _ _ _ ?_;show av<|Ra p D ?_<|RB K;show a7 {aa,_,D,D,(mf _ a _).trans<|mf _ a _,{y,ep+1+1,M,?_,v,z.perm cQ,(cQ.map _).trans r}};show stored (s:={s with heap:=s.heap.update a<|Gi c cj}) p
  .show a7 {aa,_,D,D,mf _ a _,{c,_,cj,p,g,z,r}}
 have fin:∀(o:Option Bool) (s':bb),(∃b h',o=I b/\s'={s with heap:=h'}/\lc a s.heap h'/\k0 prog w h' a led (zs++[k]))->
   aR (aU prog w) A (match o with|some added=>pure added|none=>Rt a (.int k tk) ((h1 prog w).hash k) 99999) Q E s':=by
  rintro _ _ ⟨b,h',rfl,rfl,H,C⟩;show a7<|h b h' H C
 split
 .show fA (last g fK) fin λ_ _ e=>e
 .show av (m:=pure aa)<|a7 ?_;show fA (last g fK) fin λ_ _ e=>e
end
def lp:Slot "set_iterator" "__next__" "set_iterator.__next__":=
 Slot.of (owner:="set_iterator") (n:="__next__") (by kernel_rfl) ⋯ ⋯ (rfl) (by first|show .inl ⋯|show .inr ⋯) (by kernel_rfl)
def yh:zC table "set_iterator.__next__"=I Builtin.«set_iterator.__next__»:=entryFor_of_tree (by kernel_rfl)
def yC a:sZ "set_iterator.__next__" {[a],[]}:=by
 kernel_rfl
def Io:Slot "set_iterator" "__iter__" "set_iterator.__iter__":=
 Slot.of (owner:="set_iterator") (n:="__iter__") (by rw[FE,FW];kernel_rfl) ⋯ ⋯ (rfl) (by first|show .inl ⋯|show .inr ⋯) (by rw[zz];kernel_rfl)
def afQ:zC table "set.__iter__"=I Builtin.«frozenset.__iter__»:=RF (id':="frozenset.__iter__") (by kernel_rfl) D ⋯ (by kernel_rfl)
abbrev j'(f:az)(i:Nat)(s:az)(n ep:Nat):Obj:={cls:=.type "set_iterator",dict:=ag,data:=.fields #[f,.int i 0,s,.int n 0,.int ep 0],slots:=#[]}
section
variable{prog:bS}{w:bL}{A:db}{E:az->bb->Prop}{s:bb}{a aQ:ao}{es:Array (Int×az)}{ep:Nat}{t:SetTable}{f:az}{i:Nat}
def Iy{sl:Nat}{b1:Nat}(b:s.heap.get? aQ=I (j' (.int sl 0) i (.ref a) es.size ep))(g:s.heap.get? a=I {cls:=.type "set",dict:=ag,data:=.set es ep t,slots:=#[]})
  (h:t.fits es.size=aa) (j:∀A E R,R (I (v,b1)) s->aR (aU prog w) A (zo a sl i ep) R E s)
  (f:∀h',h'.get? aQ=I (j' (.int b1 0) (i+1) (.ref a) es.size ep)->lc aQ s.heap h'->Q (I v) {s with heap:=h'}):aR (aU prog w) A (pyNext<|.ref aQ) Q E s:=by
 have c:s.TypeIs (.ref aQ) "set_iterator":={_,b,D};show av<|o8<|nL c lp<|jT lp c yh ?_<|yC _;show av<|a7 ?_;show av<|o6 b D ?_;dsimp only;show av<|vI g D h ?_;rw[aD ()];show av<|j _ _ _<|av<|sG b () λO d aj=>av<|sG d () λY e aA=>a7 {_,D,a7<|f Y ?_<|aj.trans aA};simpa[g4,j']using e
def H0(d:A.handled=ag)(c:∀h',(∀b o,q.get? b=I o->h'.get? b=I o)->Q ag {s with heap:=h'}):
  aR (aU prog w) A.in1 (do let e<-newExc (.type "StopIteration") [];FH e) (λfin s'=>∃v,fin=Fin.done (Flow.ret v)/\aR (aU prog w) A (pure<|I v) Q E s')
   (λe s'=>aR (aU prog w) A (do if<-zA e (.type "StopIteration")then pure ag else throw e) Q E s') {s with heap:=q}:=by
 show av ?_;show av (m:=vW _ _)<|vL (a:=iW) (by first|rfl|(rfl)) ?_;show l1 ?_ (by size_fits);show av<|FA ?_;rw[d];show av<|a7<|Ft ?_;show av<|zj (b:=aa) {_,dC _ D,D} Rz ?_;show a7<|c _ λb o e=>cB _<|cB _ e
def Ix(l:A.handled=ag){sl:Nat}(c:s.heap.get? aQ=I (j' (.int sl 0) i (.ref a) es.size ep))(g:s.heap.get? a=I {cls:=.type "set",dict:=ag,data:=.set es ep t,slots:=#[]})
  (j:t.fits es.size=aa) (m:∀A E R,R ag s->aR (aU prog w) A (zo a sl i ep) R E s)
  (f:∀h',(∀b o,b≠aQ->s.heap.get? b=I o->h'.get? b=I o)->Q ag {s with heap:=h'}):aR (aU prog w) A (pyNext<|.ref aQ) Q E s:=by
 have d:s.TypeIs (.ref aQ) "set_iterator":={_,c,D};show av<|o8<|nL d lp<|jT lp d yh (av<|a7<|av<|o6 c D ?_)<|yC _;dsimp only;show av<|vI g D j ?_;rw[aD ()];show av (m _ _ _<|av<|sG c () λO n aj=>H0 (s:=s) l λh' k=>f h' λb o h e=>k b o<|by rw[aj.2 b h];show e)
def Xo{j:Nat}(b:s.heap.get? aQ=I (j' (.ref tp) i (.ref a) es.size ep))(d:s.heap.get? a=I {cls:=.type "set",dict:=ag,data:=.set es ep t,slots:=#[]})
  (f:t.fits es.size=aa) (m:s.heap.get? tp=I {cls:=.type "tuple",dict:=ag,data:=.seq ps q,slots:=#[]}) (l:ps[i]? =I (.int j 0)) (k:es[j]? =I e)
  (h:∀h',h'.get? aQ=I (j' (.ref tp) (i+1) (.ref a) es.size ep)->lc aQ s.heap h'->Q (I e.2) {s with heap:=h'}):aR (aU prog w) A (pyNext<|.ref aQ) Q E s:=by
 have c:s.TypeIs (.ref aQ) "set_iterator":={_,b,D};unfold pyNext;show av<|o8<|nL c lp<|jT lp c yh ?_<|yC _;show av<|a7 ?_;show av<|o6 b D ?_;dsimp only;show av<|vI d D f ?_;rw[aD ()];show av<|Fu m D ?_;dsimp only;rw[hJ i,l];dsimp only;show av ?_;show av<|o4 d D f ?_;dsimp only;rw[hJ,hJ,aD (),k];show a7 ?_;show av<|sG b () λO g aj=>a7 {_,D,a7<|h O ?_ aj};simpa[g4,j']using g
def Xn(m:A.handled=ag)(c:s.heap.get? aQ=I (j' (.ref tp) i (.ref a) es.size ep))(j:s.heap.get? a=I {cls:=.type "set",dict:=ag,data:=.set es ep t,slots:=#[]})
  (l:t.fits es.size=aa) (p:s.heap.get? tp=I {cls:=.type "tuple",dict:=ag,data:=.seq ps b7,slots:=#[]}) (n:ps[i]? =ag)
  (h:∀h',(∀b o,b≠aQ->s.heap.get? b=I o->h'.get? b=I o)->Q ag {s with heap:=h'}):aR (aU prog w) A (pyNext<|.ref aQ) Q E s:=by
 have d:s.TypeIs (.ref aQ) "set_iterator":={_,c,D};show av<|o8<|nL d lp<|jT lp d yh ?_<|yC _;show av<|a7 ?_;show av<|o6 c D ?_;dsimp only;show av<|vI j D l ?_;rw[aD ()];show av<|Fu p D ?_;dsimp only;rw[hJ i,n];show av<|sG c () λO g aj=>av<|sG g () λY q aA=>?_;show H0 (s:=s) m λh' k=>h h' λb o f e=>k b o (by rw[aA.2 b f,aj.2 b f];show e)
end
def OC{α:Type}{l:List α} h:(l[i]::l.eraseIdx i).Perm l:=by
 rw[List.eraseIdx_eq_take_drop_succ];have e:l=l.take i++l[i]::l.drop (i+1):=by simp
 show(z8.symm).trans (by rw[<-e])
def Li next:∀fuel k (left:List α) out,ac left=fuel->(FI next fuel k left out).toList.Perm (out.toList++left)
 |0,k,left,out,h=>by rw[tu.mp h,FI];simp
 |fuel+1,k,left,out,h=>by
  rw[FI];have q:next k%ac left<ac left:=mb _ ∅
  rw[cA q];show(Li next fuel (k+1) _ _ (by rw[S3 q];omega)).trans ?_;rw[AA,hI];show GL _<|OC q
def xq next(xs:Array α):(pickOrder next xs).toList.Perm xs.toList:=by
 have:=Li next xs.size 0 xs.toList #[] ()
 simpa[pickOrder]using this
section
variable{prog:bS}{w:bL}{A:db}{E:az->bb->Prop}{s:bb}{a aQ:ao}{es:Array (Int×az)}{ep:Nat}{t:SetTable}{i:Nat}
abbrev nq(es:Array (Int×az))(ep:Nat)(t:SetTable):Obj:={cls:=.type "set",dict:=ag,data:=.set es ep t,slots:=#[]}
abbrev fx(w:bL):=w.params.followText "set-order"
def wE(h:Q (fx w) s):aR (aU prog w) A setsByText Q E s:=av<|FC<|a7 h
def Ms(c:fx w=aa)(b:s.heap.get? a=I (nq es ep t))(d:t.fits es.size=aa)
  (h:R (((pickOrder (w.params.setOrder a ep) es)[i]?).map λe=>(e.2,sl)) s):aR (aU prog w) A (zo a sl i ep) R E s:=by
 show av<|o4 b D d ?_;show av<|wE ?_;rw[aM c];rw[aD ()];show av<|av<|o4 b D d ?_;dsimp only;show av<|wE ?_;rw[aM c];show av<|FC ?_;show a7<|a7 h
def Mt(c:fx w=ap)(af:(!t.plain&&decide (es.size>1))=ap)(e:t.led=aa)(b:s.heap.get? a=I (nq es ep t))(d:t.fits es.size=aa)
  (h:R (match es[iX t.place sl]?,t.place[iX t.place sl]? with|some (_,x),I j=>I (x,j+1)|_,_=>ag) s):aR (aU prog w) A (zo a sl i ep) R E s:=by
 show av<|o4 b D d<|av<|wE ?_;rw[aD<|c▸eY];change aR _ _ (if(!t.plain&&decide (es.size>1))=aa then _ else _) _ _ _;rw[af];show av ?_;change aR _ _ (if(!t.led&& !es.isEmpty)=aa then _ else _) _ _ _;rw[e];show a7<|a7 h
def OR:∀n (xs:List α) s R,ac xs=n->(∀ys d,ys.Perm xs->R ys {s with drawn:=d})->aR (aU prog w) A (drawOrder n xs) R E s
 |0,xs,s,R,h,b7=>by have:=tu.mp h;subst this;show a7 (by simp_all)
 |n+1,[],s,R,h,b7=>by simp at h
 |n+1,x::r,s,R,h,b7=>by
  rw[drawOrder];rotate_left
  .intro q;cases q
  have a:(aU prog w).w.draws .order (s.drawn.get .order)%↥(x::r)<↥(x::r):=mb _ ();show av λΓ p b=>{(),?_};change aR _ _ _ _ _ _;show cA a▸av (OR n _ _ _ (by rw[S3 a];omega) λys d p=>a7<|b7 _ d<|(p.cons _).trans<|OC a)
def adg(b:s.heap.get? a=I (nq es ep t))(c:t.fits es.size=aa)
  (O:(!fx w&&(!t.plain&&decide (es.size>1)))=ap->Q (.ref s⁻¹) {s with heap:=s.heap.push<|j' (.int 0 0) 0 (.ref a) es.size ep})
  (Y:(!fx w&&(!t.plain&&decide (es.size>1)))=aa->∀(ys:List Nat) d,ys.Perm (dv es.size)->
   Q (.ref<|s⁻¹+1) {s with heap:=(s.heap.push {cls:=.type "tuple",data:=.seq (ys.map λ(i:Nat)=>jW i 0).toArray}).push<|j' (.ref s⁻¹) 0 (.ref a) es.size ep,drawn:=d})
  (hz:es.size<=bg):aR (aU prog w) A (pyIter<|.ref a) Q E s:=by
 have e:s.TypeIs (.ref a) "set":={_,b,D};show zf e TA<|jT TA e afQ ?_<|F.args_set_iter_1 _;show av<|av<|a7<|a7 ?_;show av<|av<|vI b D c<|a7 ?_;show av ?_;show av<|o4 b D c ?_;dsimp only;show av<|wE ?_;show a7 ?_;change aR _ _ (if(!fx w&&(!t.plain&&decide (es.size>1)))=aa then _ else _) _ _ _;cases f:(!fx w&&(!t.plain&&decide (es.size>1)))with
 |false=>show av<|a7<|av<|av<|o4 b D c<|a7<|av<|l1<|a7 {_,D,"set_iterator",_,{_,dC _ D,D},lp.lookup,O f}
 |true=>show av (OR es.size (dv es.size) _ _ () λys d p=>av<|Rf (av<|av<|o4 (cB _ b) D c<|a7<|av<|l1<|a7 {_,D,"set_iterator",_,{_,dC _ D,D},lp.lookup,?_})<|by have:=p.length_eq;simp[this];show hz);have:=Y f ys d p;rw[<-hn s.heap]at this;show this
end
def aiS a:sZ "set_iterator.__iter__" {[a],[]}:=by
 unfold sZ;kernel_rfl
def afP:zC table "set_iterator.__iter__"=I Builtin.«dict_keyiterator.__iter__»:=RF (id':="dict_keyiterator.__iter__") (by kernel_rfl) D ⋯ (by kernel_rfl)
section
variable{prog:bS}{w:bL}{A:db}{E:az->bb->Prop}{s:bb}{a aQ tp:ao}{es:Array (Int×az)}{ep:Nat}{t:SetTable}{i:Nat}
def Dp(a:s.TypeIs (.ref aQ) "set_iterator")(h:Q (.ref aQ) s):aR (aU prog w) A (pyIter<|.ref aQ) Q E s:=zf a Io<|jT Io a afP (a7 {_,D,"set_iterator",_,a,lp.lookup,h})<|aiS _
def rU(a:∀b o,b∉jw->s.heap.get? b=I o->h'.get? b=I o):Moved jw Eq s {s with heap:=h'}:={a,D,D,D,bA _}
def Up(m:A.handled=ag)(c:fx w=aa)(f:t.fits es.size=aa)(n:a≠aQ):
  qW prog w A aQ [aQ,a] [aQ] Eq es.size (λi v=>∃e,(pickOrder (w.params.setOrder a ep) es)[i]? =I e/\v=e.2)
   (λi s=>s.heap.get? aQ=I (j' (.int 0 0) i (.ref a) es.size ep)/\s.heap.get? a=I (nq es ep t)) where
 sub:=λb c=>by simp at c;simp[c]
 grefl:=λ_=>D
 gtrans:=λ_ _ _ O Y=>O.trans Y
 frame:=λi s h' tk st _ h=>{h aQ () _ st.1,h a () _ st.2}
 item:=λi s Q E au st d=>by
  have j:i<(pickOrder (w.params.setOrder a ep) es).size:=by have:=(xq (w.params.setOrder a ep) es).length_eq;simp at this;omega
  show Iy (b1:=0) (v:=(pickOrder (w.params.setOrder a ep) es)[i].2) st.1 st.2 f (λA E R g=>Ms c st.2 f ?_) λh' l aj=>?_
  .rw[gK j];show g
  .show d _ _ {_,gK j,D} {l,by show aj.2 a n▸st.2} (rU λb o c e=>aj.2 b ‹c›▸e)
 done:=λs Q E st d=>by
  show Ix (sl:=0) m st.1 st.2 f (λA E R g=>Ms c st.2 f ?_) λh' k=>d _<|rU λb o c e=>k b o ‹c› e;have:=by have:=(xq (w.params.setOrder a ep) es).length_eq;simpa using this
  rw[wB ∅];show g
 self:=λi s Q E st d=>Dp {_,st.1,D} d
def rq(t:SetTable):(Nat->Nat)
 |0=>0
 |i+1=>t.place.getD i 0+1
def Ip(T:lS aa t es.size)(au:i<=es.size):iX t.place (rq t i)=i:=by
 have hz:=by have:=T.fits;simp only[RU,cf,ei]at this;show this.1
 show aiI T.up (λb c e=>?_) (λb e=>?_) ∅
 .let{j,(rfl)}:=Nat.exists_eq_succ_of_ne_zero c;rw[rq];have:t.place.getD j 0=b:=by rw[G0,show j=j.succ-1 by omega,e];rfl
  omega
 .cases i with
  |zero=>show cI _
  |succ j=>
   rw[rq];have d:j<t.place.size:=by omega
   have a:=gK d;have:=xm T.up () a e;have:t.place.getD j 0=t.place[j]:=by rw[G0,a];rfl
   omega
def Ur(l:A.handled=ag)(c:fx w=ap)(af:(!t.plain&&decide (es.size>1))=ap)(T:lS aa t es.size)(m:a≠aQ):
  qW prog w A aQ [aQ,a] [aQ] Eq es.size (λi v=>∃e,es[i]? =I e/\v=e.2)
   (λi s=>i<=es.size/\s.heap.get? aQ=I (j' (.int (rq t i) 0) i (.ref a) es.size ep)/\s.heap.get? a=I (nq es ep t)) where
 sub:=λb c=>by simp at c;simp[c]
 grefl:=λ_=>D
 gtrans:=λ_ _ _ O Y=>O.trans Y
 frame:=λi s h' tk st _ g=>{st.1,g aQ () _ st.2.1,g a () _ st.2.2}
 item:=λi s Q E au st d=>by
  have hz:=by have:=T.fits;simp only[RU,cf,ei]at this;show this.1
  have h:i<t.place.size:=by omega
  show Iy (b1:=rq t<|i+1) (v:=es[i].2) st.2.1 st.2.2 T.fits (λA E R f=>Mt c af T.led st.2.2 T.fits ?_) λh' j aj=>?_
  .rw[Ip T st.1,gK au,gK h];rw[rq,G0,gK h]at f;show f
  .show d _ _ {_,gK au,D} {au,j,by rw[aj.2 a m];show st.2.2} (rU λb o c e=>by show aj.2 b ‹c›▸e)
 done:=λs Q E st d=>by show Ix l st.2.1 st.2.2 T.fits (λA E R f=>Mt c af T.led st.2.2 T.fits ?_) λh' k=>d _<|rU λb o c e=>k b o ‹c› e;rw[Ip T<|bA _,wB<|bA _];show f
 self:=λi s Q E st d=>Dp {_,st.2.1,D} d
def Ut(p:A.handled=ag)(l:t.fits es.size=aa){ys:List Nat}(h:ys.Perm (dv es.size))(q:a≠aQ)(r:tp≠aQ):
  qW prog w A aQ [aQ,a,tp] [aQ] Eq es.size (λi v=>∃j e,ys[i]? =I j/\es[j]? =I e/\v=e.2)
   (λi s=>s.heap.get? aQ=I (j' (.ref tp) i (.ref a) es.size ep)/\s.heap.get? a=I (nq es ep t)/\s.heap.get? tp=I {cls:=.type "tuple",data:=.seq (ys.map λ(i:Nat)=>jW i 0).toArray}) where
 sub:=λb c=>by simp at c;simp[c]
 grefl:=λ_=>D
 gtrans:=λ_ _ _ O Y=>O.trans Y
 frame:=λi s h' tk st _ f=>{f aQ () _ st.1,f a () _ st.2.1,f tp () _ st.2.2}
 item:=λi s Q E au st d=>by
  have g:i<ac ys:=by have:=h.length_eq;simp at this;omega
  have m:=by have:=h.mem_iff.mp<|wl g;simpa using this
  show Xo (j:=ys[i]) st.1 st.2.1 l st.2.2 ?_ (gK m) λh' n aj=>?_
  .rw[GC,cO,cA g];rfl
  .show d _ _ {_,_,cA g,gK m,D} {n,by rw[aj.2 a q];show st.2.1,by rw[aj.2 tp r];show st.2.2} (rU λb o c e=>by rw[aj.2 b ‹c›];show e)
 done:=λs Q E st d=>by show Xn p st.1 st.2.1 l st.2.2 ?_ λh' k=>d _<|rU λb o c e=>k b o ‹c› e;have:=h.length_eq;rw[GC,cO,nh (by simp at this;omega)];rfl
 self:=λi s Q E st d=>Dp {_,st.1,D} d
def ajg prog w A(s:bb) a n vs(v:az) aj:=
 ∃(J:ao) (fp jw:List ao) (P:Nat->az->Prop) (St:Nat->bb->Prop),v= .ref J/\(∀b o,s.heap.get? b=I o->aj.heap.get? b=I o)/\aj.gens=s.gens/\aj.os=s.os/\aj.toks=s.toks/\
  qW prog w A J fp jw Eq n P St/\St 0 aj/\(∀b∈fp,b=a\/s⁻¹<=b)/\(∀b∈jw,s⁻¹<=b)/\∀acc,wv P acc n->acc.toList.Perm vs
def EV(h:wv P acc n)(a:ac l=n)(b:∀i v,P i v->l[i]? =I v):acc.toList=l:=by
 show Tj λi=>?_;obtain q|q:=fs i acc.size
 .rw[j5,gK q,b i _<|h.2 i _<|gK q]
 .rw[nh ∅,nh<|a▸h.1▸q]at⊢
def adh(u:B.handled=ag)(c:s.heap.get? a=I (nq es ep t))(T:lS (!fx w) t es.size)(hz:es.size<=bg):
  aR (aU prog w) A (pyIter<|.ref a) (ajg prog w B s a es.size<|es.toList.map λe=>e.2) E s:=by
 have y:=cm c;have hlen:↥(es.toList.map λe=>e.2)=es.size:=by simp
 show adg c T.fits (λn=>?_) (λn ys d p=>?_) hz
 .cases m:fx w with
  |true=>
   show{_,_,_,_,_,D,λb o e=>cB _ e,D,D,D,Up (ep:=ep) (t:=t) u m T.fits<|du y,{dC _ D,cB _ c},?_,?_,λacc f=>?_}
   .intro b q;simp at q;obtain rfl|rfl:=q
    .show .inr<|bA _
    .show .inl D
   .intro b q;rw[cy.mp q];show bA _
   .have x:↥((pickOrder (w.params.setOrder a ep) es).toList.map λe=>e.2)=↥(es.toList.map λe=>e.2):=by
     have:=(xq (w.params.setOrder a ep) es).length_eq;simpa using this
    rw[EV f (x.trans hlen) λi v g=>by let{e,O,(rfl)}:=g;rw[cO,j5,O];rfl];show(xq _ _).map _
  |false=>
   rw[m]at n T;show{_,_,_,_,_,D,λb o e=>cB _ e,D,D,D,Ur (ep:=ep) u m ‹n› T<|du y,{cI _,dC _ D,cB _ c},?_,?_,λacc f=>?_}
   .simp
   .intro b q;rw[cy.mp q];show bA _
   .rw[EV f hlen λi v g=>by let{e,O,(rfl)}:=g;rw[cO,j5,O];rfl]
 .have H:s⁻¹+1=(s.heap.push {cls:=.type "tuple",data:=.seq (ys.map λ(i:Nat)=>jW i 0).toArray}).objs.size:=(hn ..).symm;show{_,_,_,_,_,D,λb o e=>cB _<|cB _ e,D,D,D,Ut (ep:=ep) (t:=t) (tp:=s⁻¹) u T.fits p (du<|nc y)<|du<|z2 _,{?_,cB _<|cB _ c,cB _<|dC _ D},?_,?_,λacc f=>?_}
  .rw[H];show dC _ D
  .simp
  .intro b q;rw[cy.mp q];show jZ _
  .have x:(ys.filterMap λj=>(es[j]?).map λe=>e.2).Perm (es.toList.map λe=>e.2):=by
    show(p.filterMap _).trans ?_;have:(λ(j:Nat)=>(es[j]?).map λe=>e.2)=λj=>(es.toList.map λe=>e.2)[j]? :=by funext j;rw[cO,j5]
    rw[this];have:=List.filterMap_getElem?_range_length<|es.toList.map λe=>e.2;rw[hlen]at this;rw[this]
   show ak5 ?_ x;have z:=by
    have:∀l:List Nat,(∀j∈l,j<es.size)->l.filterMap (λj=>(es[j]?).map λe=>e.2)=l.map λj=>((es[j]?).map λe=>e.2).getD .none:=by
     intro l;induction l with
     |nil=>intro _;rfl
     |cons j r J=>intro h;rw[j4,cx,J λk F=>h k<|by simp[F],gK<|h j ()];rfl
    show this ys λj C=>by have:=p.mem_iff.mp C;simpa using this
   rw[z];have G:↥(ys.map λj=>((es[j]?).map λe=>e.2).getD iW)=↥(es.toList.map λe=>e.2):=by have:=p.length_eq;simpa using this
   rw[EV f (G.trans hlen) λi v g=>by let{j,e,O,Y,(rfl)}:=g;rw[cO,O];change I (((es[j]?).map λe=>e.2).getD .none)=_;rw[Y];rfl]
end
end L2
namespace L2
open PySem PySem.Spec PyProof.Rows
open PySem.W (Frag)
section
variable{ci:hY}{n:Nat}{g:iN}{eK:gA}{bW:bD}{vs:List Nat}{σ:St}{an:aP}{aq:ao}{ji:aP->Prop}
def nv(a:Nat->aP->Prop)(l:a 0 (al an aq<|.ai []))(o:∀i H,i<n->a i H->ci.go i H)(r:∀H,a n H->ci.ib n H)
  (q:∀i x H U,i<n->a i H->ci.j6 i H x U->g x (ft σ vs) U λc aw=>ft c vs=ft σ vs/\eK c aw λb d=>
   if b=aa then bW c d λy f=>∃acc,f aq=I (.ai acc)/\ac acc<bg/\a (i+1) (al f aq<|.ai<|acc++[y])else a (i+1) d) (af:∀H,a n H->ji H):
  ∃W:Nat->Nat->aP->Prop,(∃m,W 0 m<|al an aq<|.ai [])/\∀i m H,W i m H->
   (ci.ib i H/\ji H)\/(ci.go i H/\∃h:aP->Prop,(∀U,h U->∃k,k<m/\W (i+1) k U)/\∀x U,ci.j6 i H x U->g x (ft σ vs) U λc aw=>ft c vs=ft σ vs/\eK c aw λb d=>
    if b=aa then bW c d λy f=>∃acc,f aq=I (.ai acc)/\ac acc<bg/\h (al f aq<|.ai<|acc++[y])else h d):=by
 show{λi m H=>m=n-i/\i<=n/\a i H,{n,(),cI _,l},?_};rintro i m H ⟨rfl,au,p⟩;by_cases j:i<n
 .show .inr {o i H j p,a<|i+1,λU s=>{n-(i+1),∅,D,j,s},λx U y=>q i x H U j p y}
 .have e:i=n:=by omega
  subst e;show .inl {r H p,af H p}
def jC(os:List (Option ab)) i:=(os.take i).filterMap id
def aao os:jC os 0=[]:=D
def LK os:jC os (ac os)=os.filterMap id:=by unfold jC;simp
def LJ os i:↥(jC os i)<=i:=by unfold jC;grind
def LH{os:List (Option ab)}(h:os[i]? =I (I y)):jC os (i+1)=jC os i++[y]:=by unfold jC;rw[j2,h];simp
def LI{os:List (Option ab)}(h:os[i]? =I ag):jC os (i+1)=jC os i:=by unfold jC;rw[j2,h];simp
def i4{A:Type}(l:List A)(f:A->ab):(l.map λx=>I<|f x).filterMap id=l.map f:=by
 simp
def vA(ci:hY)(g:iN)(eK:gA)(bW:bD) vs σ an aq(ji:aP->Prop):=∃W:Nat->Nat->aP->Prop,(∃m,W 0 m<|al an aq<|.ai [])/\∀i m H,W i m H->
   (ci.ib i H/\ji H)\/(ci.go i H/\∃a:aP->Prop,(∀U,a U->∃f,f<m/\W (i+1) f U)/\∀x U,ci.j6 i H x U->g x (ft σ vs) U λc aw=>ft c vs=ft σ vs/\eK c aw λb d=>
    if b=aa then bW c d λy e=>∃acc,e aq=I (.ai acc)/\ac acc<bg/\a (al e aq<|.ai<|acc++[y])else a d)
def E8(g:iN)(eK:gA)(bW:bD) vs σ x o U:=
 ∀d (e:aP->Prop),(∀y,o=I y->d y U)->(o=ag->e U)->g x (ft σ vs) U λa aw=>ft a vs=ft σ vs/\eK a aw λb c=>if b=aa then bW a c d else e c
def Nl os(xs:List ab)(hz:ac os<=bg)
  (b:∀i l,i<ac os->ci.go i (al an aq<|.ai l)) (d:∀l,ci.ib ↥os<|al an aq<|.ai l)
  (h:∀i l x U,ci.j6 i (al an aq<|.ai l) x U->U=al an aq (.ai l)/\xs[i]? =I x)
  (c:∀i x o,xs[i]? =I x->os[i]? =I o->E8 g eK bW vs σ x o (al an aq<|.ai<|jC os i))
  (af:ji (al an aq<|.ai<|os.filterMap id)):vA ci g eK bW vs σ an aq ji:=by
 show nv (λi H=>H=al an aq (.ai<|jC os i)) (by rfl) (λi H au e=>e▸b i _ au) (λH e=>e▸d _) (λi x H U au e y=>?_) (λH e=>by rw[e,LK];show af);subst e;let{rfl,(f)}:=h i _ x U y
 let{o,(a)}:∃o,os[i]? =I o:={_,cA au}
 show c i x o f a _ _ (λy e=>?_) λe=>?_
 .subst e;show{_,ar,z3 (LJ os i) ∅,by rw[ho,LH a]}
 .subst e;rw[LI a]
def aB.new{K:bR}(h:aB K H a xs)(b:H aq=ag):aB K (al H aq o) a xs:=(a4.new (a4.refl H) b).seq h
def hv{K:bR}{A:Type}(l:List A) q dn(d:aB K an a (l.map q))(c:an aq=ag)(hz:ac l<=bg)
  (h:∀(i:Nat) x acc,l[i]? =I x->E8 g eK bW vs σ (q x) (dn x) (al an aq<|.ai acc)) (af:ji (al an aq<|.ai<|(l.map dn).filterMap id)):vA (sA K a) g eK bW vs σ an aq ji:=by
 show Nl (l.map dn) (l.map q) (by rw[bt];show hz) (λi acc au=>?_) (λacc=>?_) (λi acc x U y=>?_) (λi x o b f=>?_) af
 .rw[bt]at au;show{_,q l[i],d.new c,by rw[cO,cA au];rfl}
 .show{_,d.new c,()}
 .show{y.1,y.2 _<|d.new c}
 .rw[cO]at b f;cases e:l[i]? with
  |none=>rw[e]at b;cases b
  |some z=>rw[e]at b f;cases b;cases f;show h i z _ e
def Nk{A:Type}(l:List A) c dn(hz:ac l<=bg)(j:an aq=ag)
  (h:∀(i:Nat) x acc,l[i]? =I x->E8 g eK bW vs σ (.str ⟨#[c x]⟩) (dn x) (al an aq<|.ai acc)) (af:ji (al an aq<|.ai<|(l.map dn).filterMap id)):vA (sy ⟨(l.map c).toArray⟩) g eK bW vs σ an aq ji:=by
 show Nl (l.map dn) (l.map λx=>.str ⟨#[c x]⟩) (by rw[bt];show hz) (λi acc au=>?_) (λacc=>?_) (λi acc x U y=>?_) (λi x o b f=>?_) af
 .change i<(l.map c).toArray.size;simpa using au
 .change(l.map c).toArray.size<=_;simp
 .let{e,d,af,(rfl)}:=y;show{e,?_};have a:(l.map c)[i]? =I d:=‹af›
  rw[cO]at a⊢;cases q:l[i]? with
  |none=>rw[q]at a;cases a
  |some z=>rw[q]at a;cases a;rfl
 .rw[cO]at b f;cases e:l[i]? with
  |none=>rw[e]at b;cases b
  |some z=>rw[e]at b f;cases b;cases f;show h i z _ e
end
section
variable{ci:hY}{n:Nat}{g:iN}{cj:fq}{aq:m1}{σ:St}{H:aP}
def oC(a:Nat->St->aP->Prop)(h:a 0 σ H)(j:∀i σ H,i<n->a i σ H->ci.go i H)(l:∀σ H,a n σ H->ci.ib n H)
  (k:∀i x σ H U,i<n->a i σ H->ci.j6 i H x U->g x σ U λd aw=>cj {aq with b1:=a<|i+1,e9:=a<|i+1,hg:=aq.b1} d aw) (af:∀σ H,a n σ H->aq.b1 σ H):
  ∃W:Nat->Nat->St->aP->Prop,(∃m,W 0 m σ H)/\∀i m σ H,W i m σ H->
   (ci.ib i H/\aq.b1 σ H)\/(ci.go i H/\∃N:St->aP->Prop,(∀c U,N c U->∃f,f<m/\W (i+1) f c U)/\∀x U,ci.j6 i H x U->g x σ U λd aw=>cj {aq with b1:=N,e9:=N,hg:=aq.b1} d aw):=by
 show{λi m σ H=>m=n-i/\i<=n/\a i σ H,{n,(),cI _,h},?_};rintro i m σ H ⟨rfl,au,p⟩;by_cases b:i<n
 .show .inr {j i σ H b p,a<|i+1,λc U o=>{n-(i+1),∅,D,b,o},λx U y=>k i x σ H U b p y}
 .have e:i=n:=by omega
  subst e;show .inl {l σ H p,af σ H p}
end
def Py(N:List Str)(b7 scope:jq)(bo:List (Str×Nat)):=
 decide (scope.kind= .function)&&(scope.names.all (λy=>decide (scope.names.lookup y.1=I y.2))&&(bo.all (λp=>decide (N[p.2]? =I p.1))&&(scope.names.all (λy=> !decide (y.2= .free)||(decide (b7.names.lookup y.1=I .cell)||decide (b7.names.lookup y.1=I .free)))&&
  scope.names.all (λy=> !(decide (y.2= .local)||decide (y.2= .cell))||((bo.map (·.1)).contains y.1|| !N.contains y.1)))))
def fn(h:Py N b7 scope bo=aa):vG N b7 scope bo:=by
 unfold Py at h;simp only[cf,dg,di,lf,GV,sV,ex]at h
 let{O,Y,b,c,(d)}:=h
 show{O,Y,b,λy a e=>?_,λy a e=>?_}
 .obtain q|q:=c y a
  .show absurd e q
  .show q
 .obtain q|q|q:=d y a
  .have:(decide (y.2= .local)||decide (y.2= .cell))=aa:=by
    obtain e|e:=e<;>simp[e]
   rw[this]at q;cases q
  .show .inl q
  .show .inr (by grind)
section
variable{P:bS}{w:bL}{A:db}{E:az->bb->Prop}{s:bb}
def abT(e:sL (.type T) "__init__"=pure (I<|.builtin "object.__init__"))(f:Bind.madeBy (.type T)=pure (I newId))(g:(I newId !=I "object.__new__")=aa):
  Meets (Builtin.«object.__init__» {self::a::r,kw}) (λ_ R s=>s.TypeIs self T/\R (.ok<|.ret .none) s):=by
 show Meets.of_wp λprog w A R s c=>?_
 let{d,(b)}:=c
 repeat(any_goals (first|assumption|wp_step))
 show{_,D,b}
def aiv(b:TypeCalled T newId "object.__init__")(p:(I newId !=I "object.__new__")=aa)(v:RH T {a::r,kw}=pure fr)
  (o:FU newId {.type T::a::r,kw}=pure fr) (a0:∀obj,sZ "object.__init__" {obj::a::r,kw}) (m:zC table newId=I q) (g:MeetsIn P w (q {.type T::a::r,kw}) S)
  (h:S A.in1 (sJ (λobj d=>d.TypeIs obj T/\Q obj d) E) s):aR (aU P w) A (call (.type T) (a::r) kw) Q E s:=by
 let{c,bV,(z)}:=b.mro
 have y:=b.made;have B:=b.sub;show o7<|zF ?_;change aR _ _ (callAny (.type T) _) _ _ _;show a7 {Ar _ ⋯,l6 F.entry_type_call ?_};rw[TW (Rp T (a::r) kw)<|units_type_call_type T (a::r) kw];have O:=b.notType;have Y:=b.canCreate;repeat(any_goals (first|assumption|wp_step))
 show jU (vX b.plain m<|vL o<|g A.in1 _ s h) λr d f=>?_;cases r with
 |error e=>show f
 |ok cv=>
  cases cv with
  |ret obj=>
   let{j,(k)}:=f
   have x:=b.init.lookup;have u:=b.init.bind obj;repeat(any_goals (first|assumption|wp_step))
   show jU (vX b.init.plain F.entry_object_init<|b.init.check _ _ _ _ _ _ _ _ j (a0 obj)<|abT (self:=obj) b.init.lookup b.made p P w A.in1 (sJ (λr l=>r= .none/\Q obj l) E) d {j,D,(k)}) λt l i=>?_;cases t with
   |error e=>show i
   |ok n=>
    cases n with
    |ret r=>
     let{rfl,(k)}:=i
     repeat(any_goals (first|assumption|wp_step))
    |_=>show i.elim
  |_=>show f.elim
def Uz a v:RH "enumerate" {[a],[("start",v)]}=pure fr:=by kernel_rfl
def ab' a v:FU "enumerate.__new__" {[.type "enumerate",a],[("start",v)]}=pure fr:=by kernel_rfl
def aiT o a v:sZ "object.__init__" {[o,a],[("start",v)]}:=by
 unfold sZ;kernel_rfl
end
section
variable{P:bS}{w:bL}{A:db}{E:az->bb->Prop}{s:bb}
open AutoSeq1 (wpAny_loadPart')
def afO(d:Av m=aa):MeetsIn P w (Builtin.«enumerate.__new__» {[.type "enumerate",x],[("start",.int m t)]}) (λA R s=>
  aR (aU P w) A.in1 (pyIter x) (λaQ aj=>R (.ok<|.ret<|.ref aj⁻¹) {aj with heap:=aj.heap.push {cls:=.type "enumerate",data:=.fields #[.none,.bool ap,aQ,g4 m,.none,.none]}}) (λe aj=>R (.error e) aj) s):=
 .of_wp λA R s h=>by
  have f:=sub_enumerate;have a:∀{b:az->bb->Prop},(∀aQ aj,R (.ok<|.ret<|.ref aj⁻¹) {aj with heap:=aj.heap.push {cls:=.type "enumerate",data:=.fields #[.none,.bool ap,aQ,g4 m,.none,.none]}}->b aQ aj)->aR (aU P w) A.in1 (pyIter x) b (λe s'=>R (.error e) s') s:=λk=>fA h (λaQ aj q=>k aQ aj q) (λ_ _ q=>q)
  wp_walk
  show wpAny_stack_any λst=>a7 ?_;split
  .rename_i c _ _ _ _ _;cases(c==ix "enumerate")
   .wp_walk using a
    intro aQ aj q
    wp_walk
    show{_,D,q}
   .wp_walk using a
    intro aQ aj q
    wp_walk
    show{_,D,q}
  .wp_walk using a
   intro aQ aj q
   wp_walk
   show{_,D,q}
def Pk(a:Av m=aa)
  (h:aR (aU P w) A.in1.in1 (pyIter x) (λaQ aj=>Q (.ref aj⁻¹) {aj with heap:=aj.heap.push {cls:=.type "enumerate",data:=.fields #[.none,.bool ap,aQ,g4 m,.none,.none]}}) E s):
  aR (aU P w) A (call (.type "enumerate") [x] [("start",.int m t)]) Q E s:=aiv F.called_enumerate ⋯ (Uz x _) (ab' x _) (λo=>aiT o x _) F.entry_enumerate_new (afO a)<|fA h (λaQ aj q=>{{_,dC _ D,D},q}) λ_ _ q=>q
def aiu(d:args.any (·.1)=ap)(c:Dk.any (·.1.isNone)=ap)
  (h:aR M A (evalArgs (.type T) aa args Dk) (λa b=>aR M A (call (.type T) a.pos a.kw) Q E b) E s):aR M A (callWith pos (.type T) [] args Dk) Q E s:=by
 show av<|hj<|fA h (λa b f=>av<|o3 ?_) λ_ _ x=>x;rw[d,c];show av<|a7<|av<|fA f (λr g e=>av<|hj<|wpAny_point<|a7 e) λ_ _ x=>x
def ab7(hit:s.heap.IsKeyIter aQ d i n ep)(e:s.heap.get? d=I od)(b:od.data= .dict es ep)
  (hsz:es.size=n) (l:es[i]? =I q) (f:∀h',h'.IsKeyIter aQ d (i+1) n ep->lc aQ s.heap h'->Q q.key {s with heap:=h'}):aR (aU P w) A (Au<|.ref aQ) Q E s:=by
 let{o,a,g,(af)}:=id hit
 unfold Au;show av<|nL (name:=kz "__next__") hit.typeIs py<|jT py hit.typeIs Ao ?_<|Ap _;show av (a7<|av<|av ?_);first|show av (o2 hit.typeIs<|a7 ?_)|show av<|wpAny_typeNameOf_keyiter hit.typeIs<|a7 ?_
 show av<|o6 a af ?_;have k:Ay "dict_keyiterator"=ap:=by decide
 show av<|a7<|av<|sH e b ?_;rw[aD (by rw[hsz];simp)];show av<|a7<|av<|vO e b ?_;rw[aD ()]
 let{j,(h)}:=rf.mp l
 show a7 ?_;simp only[show ¬((i:Int)<0)from ∅,ku,hJ,gK j];show av ?_;first|show av (o2 hit.typeIs<|a7 ?_)|show av<|wpAny_typeNameOf_keyiter hit.typeIs<|a7 ?_
 show av<|zi hit.typeIs ?_;change aR _ _ (vT (.ref aQ) 1 (g4<|(i:Int)+1)>>=_) _ _ s;have c:(s.heap.update aQ (q2 (·.setIfInBounds 1 (g4<|(i:Int)+1)))).IsKeyIter aQ d (i+1) n ep:=
  {_,me _ a<|zX<|q3 af _,(Gj ..).trans g,by rw[q3 af];simp[g4]}
 show av<|qG a af ()<|av<|hj ?_;show av<|zi c.typeIs ?_;change aR _ _ (pure es[i].key) _ _ _;rw[h];show a7<|a7 {_,D,a7<|f _ c<|mf ..}
def ab8(c:A.handled=ag)(hit:s.heap.IsKeyIter aQ d i n ep)(g:s.heap.get? d=I od)(b:od.data= .dict es ep)
  (hsz:es.size=n) (j:n<=i) (h:∀h' e,Tx aQ s.heap h'->(∃o,h'.get? e=I o/\o.cls= .type "StopIteration")->E (.ref e) {s with heap:=h'}):aR (aU P w) A (Au<|.ref aQ) Q E s:=by
 let{o,f,p,(af)}:=id hit
 unfold Au;show av<|nL (name:=kz "__next__") hit.typeIs py<|jT py hit.typeIs Ao ?_<|Ap _;show av (a7<|av<|av ?_);first|show av (o2 hit.typeIs<|a7 ?_)|show av<|wpAny_typeNameOf_keyiter hit.typeIs<|a7 ?_
 show av<|o6 f af ?_;have l:Ay "dict_keyiterator"=ap:=by decide
 show av<|a7<|av<|sH g b ?_;rw[aD (by rw[hsz];simp)];show av<|a7<|av<|vO g b ?_;rw[aD ()];have k:es.size<=i:=by rw[hsz];show j
 show a7 ?_;simp only[show ¬((i:Int)<0)from ∅,ku,hJ,wB k];show av ?_;first|show av (o2 hit.typeIs<|a7 ?_)|show av<|wpAny_typeNameOf_keyiter hit.typeIs<|a7 ?_
 change aR _ _ (vT (.ref aQ) 0 .none>>=_) _ _ s;show av<|qG f af () ?_;show av ?_;simp only[newExc,newTuple];show av (l1 ?_<|by size_fits);show av (m:=vW _ _) (vL (a:=iW) (by first|rfl|(simp only[vW];rfl))<|l1 ?_<|by size_fits);simp only[FH];show av (FA ?_);first|rw[show A.in1.handled=ag from c]at⊢|rw[c]at⊢
 show av<|a7<|Ft ?_;show h _ _ (((mf ..).extBut.push _).push _) {_,dC _ D,D}
def OQ(m:A.handled=ag)(f:od.data= .dict es ep)(hsz:es.size=n)(p:d≠aQ):
  Draws P w A aQ [aQ,d] n (λi v=>∃c,es[i]? =I c/\v=c.key) (λi h=>h.IsKeyIter aQ d i n ep/\h.get? d=I od) where
 live:=λ_ _ st=>let{o,q,_}:=st.1;{o,(q)}
 frame:=λ_ _ _ st j=>{st.1.at λo e=>j aQ () o e,j d () _ st.2}
 item:=λi s Q E au st l=>by
  have g:i<es.size:=by omega
  show ab7 st.1 st.2 f hsz (gK g) λh' a b=>l _ h' s.toks {_,gK g,D} {a,(b.2 d p).trans st.2} b
 done:=λs Q E st k=>ab8 m st.1 st.2 f hsz (bA _) k
def afZ{St:Nat->bG->Prop}(aq:Draws P w A aQ fp n q St) m:Draws P w A aQ fp (m+n) (λj v=>q (j-m) v) (λj h=>m<=j/\St (j-m) h) where
 live:=λ_ _ st=>aq.live _ _ st.2
 frame:=λ_ _ _ st f=>{st.1,aq.frame _ _ _ st.2 f}
 item:=λj s Q E g st e=>aq.item (j-m) s Q E ∅ st.2 λx h' tk a b c=>e x h' tk a {by have:=st.1;omega,show j+1-m=j-m+1 by omega▸b} c
 done:=λs Q E st d=>aq.done s Q E (by grind) d
end
section
variable{X:bO}{pins:List (ao×Obj)}{σ:St}{H:aP}{s:bb}{E:az->bb->Prop}
def AP{p:Prop}(h:ix a=ix b)(n:a≠b<|>zzd):p:=by grind
def OI{St:Nat->bG->Prop}(aq:Draws X.prog X.w X.A.in1 aQ fp n b7 St)(J:aC X pins σ H s)
  (j:∀b∈[e,aQ],gi X pins H b) (f:tw s.heap e aQ (m+i:Nat) old) (st:St i s.heap) (au:i<n) (M:e≠aQ) (g:e∉fp) (O:∀u,b7 i u->cb x u):
  aR (aU X.prog X.w) X.A (pyNext<|.ref e) (λr aj=>∃u,r=I u/\aR (aU X.prog X.w) X.A (zy (.Tuple elts dY lm) (.ref e) u) (λ_ aA=>∃T,u= .ref T/\H T=ag/\aC X pins σ (al H T<|.aZ [.int (m+i:Nat),x]) aA/\
   (∃old,tw aA.heap e aQ (m+(i+1):Nat) old)/\St (i+1) aA.heap/\∀b∈[e,aQ],al H T (.aZ [.int (m+i:Nat),x]) b=ag) E aj) E s:=by
 have h:=cm f;have G:aQ<s⁻¹:=by let{o,(q)}:=aq.live _ _ st;show cm q
 show wpAny_pyNext_enum_itemD (afZ aq m) f {∅,by rw[show m+i-m=i by omega];show st} ∅ M g λu h' tk d N K v hsz L=>?_;rw[show m+i-m=i by omega]at d
 let{_,k}:=K
 rw[show m+i+1-m=i+1 by omega]at k;show{_,D,Rj N λc F c9=>?_};have B:=(c9.2 _<|ma h).trans v;have new:em X.prog X.w (al H s⁻¹<|.aZ [.int ((m+i:Nat):Int),x]) c s⁻¹ (.aZ [.int ((m+i:Nat):Int),x]):=
  {by change 2<=bg;decide,[.int ((m+i:Nat):Int) tk,u],.cons {_,D}<|.cons (O u d) .nil,{_,B,D,_,D}}
 have l:aC X pins σ (al H s⁻¹<|.aZ [.int ((m+i:Nat):Int),x]) {s with heap:=c,toks:=tk+1}:=
  J.wN (λb ob a q=>(c9.2 b λz=>a<|by simp[z]).trans<|L b ob (λz=>a<|by simp[z]) (λz=>a<|by simp[z]) q) j (bA _) new
 show{_,D,J.a0.fresh<|bA _,l,{u,?_},aq.frame _ _ _ k λb a o y=>(c9.2 b λq=>g<|q▸a).trans y,λb a=>?_}
 .have t:((m+(i+1):Nat):Int)=((m+i:Nat):Int)+1:=by omega
  rw[t];show F
 .have C:b<s⁻¹:=by
   have p:=‹a›
   obtain z|z:=p
   .rw[z];show h
   .rw[z];show G
  rw[aI<|du C];show(j b a).1
def OH{St:Nat->bG->Prop}(aq:Draws X.prog X.w X.A.in1 aQ fp n b7 St)(J:aC X pins σ H s)
  (k:∀b∈[e,aQ],gi X pins H b) (i:tw s.heap e aQ j old) (st:St n s.heap):aR (aU X.prog X.w) X.A (pyNext<|.ref e) (λr aj=>r=ag/\aC X pins σ H aj) E s:=by
 let{c,f1,f2,d,f,(g)}:=k aQ ()
 show wpAny_pyNext_enum_endD aq i st λh' a=>{D,J.h9 (λb o h q=>a b o h q) c f1 d f g}
end
def QJ(K:bR)(a:ao)(m:Nat):(hY):=
 {λi H=>∃(xs:List ab) (x:ab),aB K H a xs/\xs[i]? =I x,λi H v U=>∃T x,v= .ref T/\H T=ag/\U=al H T (.aZ [.int (m+i:Nat),x])/\∀xs,aB K H a xs->xs[i]? =I x,λi H=>∃xs:List ab,aB K H a xs/\ac xs=i}
def QI(d:ao)(o:Obj)(kvs:List (d'×ab))(m:Nat):(hY):=
 {λi H=>H d=I (.cg o<|.bJ kvs)/\i<ac kvs,λi H x U=>∃T k v,kvs[i]? =I (k,v)/\x= .ref T/\H T=ag/\U=al H T (.aZ [.int (m+i:Nat),da k]),λi H=>H d=I (.cg o<|.bJ kvs)/\ac kvs=i}
def UK{K:bR} a e aQ m:
  km P w K (.Tuple elts b7 lm) (QJ K a m) [e,aQ] e (λi h=>(∃old,tw h e aQ (m+i:Nat) old)/\h.IsListIter aQ a i/\e≠aQ) where
 mem:=by simp
 obj:=λi h st b ad=>by
  let{{old,(c)},{o,j,l,(af)},_}:=st
  have O:b=e\/b=aQ:=‹ad›
  obtain z|z:=O
  .rw[z];show{_,c,λv q=>nomatch q}
  .rw[z];show{o,j,λv q=>by rw[af]at q;cases q}
 keep:=λi h h' st k=>let{{old,(c)},au,g}:=st;{{old,k e () _ c},au.at λo q=>k aQ () o q,g}
 item:=by
  intro X y ax t l i pins s σ H E J F st G;subst y ax t
  let{{old,(c)},hit,g}:=st
  let{xs,x,n,(L)}:=G
  let{aW,M,p,(hz)}:=J.list n
  let{u,ae,(al)}:=M.get L
  let{rQ,d,f,_}:=id p.isList
  have ab:a≠e:=λz=>by rw[z,c]at d;cases d;show AP f
  have B:a≠aQ:=λz=>by let{o,j,C,_}:=hit;rw[z,j]at d;cases d;rw[C]at f;show AP f
  have aq:=Draws.list (prog:=X.prog) (w:=X.w) (A:=X.A.in1) (show X.A.in1.handled=ag from J.ok.af l) aQ a B aW.toArray;have hlen:i<aW.toArray.size:=by rw[ed];show(ee.mp ae).1
  show bp (OI aq J F c {hit,(p.isList)} hlen g (by simp[g,ab.symm]) (x:=x) λN ak=>?_) λr aj {N,Z,(q)}=>{N,Z,bp q λ_ aA {T,R,S,U,V,W,(Y)}=>{.ref T,_,U,R▸D,{T,x,D,S,D,λys ah=>by rw[J.rY ah n];show L},{V,W.1,(g)},Y}};grind
 done:=by
  intro X y ax t l i pins s σ H E J F st G;subst y ax t
  let{{old,(c)},hit,g}:=st
  let{xs,n,(L)}:=G
  let{aW,M,p,(hz)}:=J.list n
  let{rQ,d,f,_}:=id p.isList
  have B:a≠aQ:=λz=>by let{o,j,C,_}:=hit;rw[z,j]at d;cases d;rw[C]at f;show AP f
  have aq:=Draws.list (prog:=X.prog) (w:=X.w) (A:=X.A.in1) (show X.A.in1.handled=ag from J.ok.af l) aQ a B aW.toArray;have ai:=↥M;show OH aq J F c {?_,p.isList};rw[ed,show ↥aW=i by omega];show hit
 self:=λA i s Q E st h=>let{{_,c},_}:=st;vK c h
def UL{K:bR}(f:o.data= .dict es ep) e aQ m:
  km P w K (.Tuple elts b7 lm) (QI d o kvs m) [e,aQ] e (λi h=>(∃old,tw h e aQ (m+i:Nat) old)/\h.IsKeyIter aQ d i ↥kvs ep/\e≠aQ) where
 mem:=by simp
 obj:=λi h st b ai=>by
  let{{old,(a)},{o,ar,j,(af)},_}:=st
  have U:b=e\/b=aQ:=‹ai›
  obtain z|z:=U
  .rw[z];show{_,a,λv q=>nomatch q}
  .rw[z];show{o,ar,λv q=>by rw[af]at q;cases q}
 keep:=λi h h' st k=>let{{old,(a)},au,g}:=st;{{old,k e () _ a},au.at λo q=>k aQ () o q,g}
 item:=by
  intro X n ax l j i pins s σ H E J C st F;subst n ax l
  let{{old,(a)},hit,g}:=st
  let{af,(au)}:=F
  let{av,c,aB,es',ae,vs,B,hsz,R,(N)}:=J.qg af
  let{rfl,(rfl)}:=qk f B
  let{{k,(v)},M}:∃p,kvs[i]? =I p:={kvs[i],cA au}
  let{u,aw,(aH)}:=Dl R M
  have am:d≠e:=λz=>by rw[z,a]at c;cases c;cases f
  have y:d≠aQ:=λz=>by let{bX,G,ak,(t)}:=hit;rw[z,G]at c;cases c;rw[t]at f;cases f
  have aq:=OQ (P:=X.prog) (w:=X.w) (A:=X.A.in1) (show X.A.in1.handled=ag from J.ok.af j) f hsz y;show bp (OI aq J C a {hit,(c)} au g (by simp[g,am.symm]) (x:=da k) λS ay=>?_) λr aj {S,ah,(q)}=>{S,ah,bp q λ_ aA {T,V,W,Y,Z,ab,(ad)}=>{.ref T,_,Y,V▸D,{T,k,v,M,D,W,(rfl)},{Z,ab.1,(g)},ad}};let{L,an,(rfl)}:=ay
  let{od,aC,O,aD,al,aF,as,(aG)}:=N
  rw[c]at O;cases O
  let{rfl,_}:=qk f al
  show B2 (show oz k L.key=aa from(as.get? (e:=L) ‹an› aw).1)
 done:=by
  intro X n ax l j i pins s σ H E J C st F;subst n ax l
  let{{old,(a)},hit,g}:=st
  let{af,(au)}:=F
  let{av,c,aB,es',ae,vs,B,hsz,R,(N)}:=J.qg af
  let{rfl,(rfl)}:=qk f B
  have y:d≠aQ:=λz=>by let{bX,G,ak,(t)}:=hit;rw[z,G]at c;cases c;rw[t]at f;cases f
  have aq:=OQ (P:=X.prog) (w:=X.w) (A:=X.A.in1) (show X.A.in1.handled=ag from J.ok.af j) f hsz y;subst au;show OH aq J C a {hit,(c)}
 self:=λA i s Q E st h=>let{{_,a},_}:=st;vK a h
inductive qyadw(K:bR)(R:hY->aP->Prop)(x:ab)(y:ab)(aw:aP):Prop|mk(m:Nat)(_:y= .int m)(_:m<=2^40)(_:((∃a xs,x= .ref a/\aB K aw a xs/\R (QJ K a m) aw)\/∃d o kvs,x= .ref d/\aw d=I (.cg o<|.bJ kvs)/\R (QI d o kvs m) aw))
def adw(K:bR)(bW b:bD):(gV):=λσ H R=>bW σ H λx an=>b σ an λy aw=>qyadw K R x y aw
def Oe{m:Nat}(h:m<=2^40):Av m=aa:=by unfold Av;rw[cf,dg,dg];omega
def Lj{σ:St}{m:Nat}(J:aC X pins σ H s)(T:km X.prog X.w X.K dE ci [s⁻¹+1,s⁻¹] (s⁻¹+1) eq) b7 dY
  (st:∀(dP:((s.heap.push b7).push dY).get? s⁻¹=I b7) (c:((s.heap.push b7).push dY).get? (s⁻¹+1)=I dY),eq 0<|(s.heap.push b7).push dY) (q:R ci H) (O:b7.isFreed=ap<|>zzr) (Y:dY.isFreed=ap<|>zzr) (a:dY={cls:=.type "enumerate",data:=.fields #[.none,.bool ap,.ref s⁻¹,g4 m,.none,.none]}<|>zzr):
  aR (aU X.prog X.w) X.A (pyIter<|.ref (s.heap.push b7).objs.size) (yV X pins σ dE R) X.cT {s with heap:=(s.heap.push b7).push dY}:=by
 have hz:(s.heap.push b7).objs.size=s⁻¹+1:=hn ..;have dP:((s.heap.push b7).push dY).get? s⁻¹=I b7:=cB _<|dC _ O;have c:((s.heap.push b7).push dY).get? (s⁻¹+1)=I dY:=by rw[<-hz];show dC _ Y
 rw[hz];have a:=c.trans<|gC I a;show vK a {s⁻¹+1,[s⁻¹+1,s⁻¹],eq,ci,H,D,J.fc (t':=s.toks) λb o e=>cB _<|cB _ e,T,st dP c,λb f=>?_,q};have d:=‹f›
 have hle:s⁻¹<=b:=by
  obtain z|z:=d
  .grind
  grind
 show J.mL hle<|J.a0.fresh hle
def Cj(r:ea X "enumerate")(i:X.mg "enumerate"=ag)(n:aX X e bW)(z:aX X b7 dY)(c:bj [e] X.am=[(ap,eval e X.am)]<|>zzr):
  ko X (.Tuple elts eq lm) (.Call (.Name "enumerate" p) [e] [{I "start",b7,b6}] pos) (adw X.K bW dY):=by
 intro pins s σ H R J h;show l2<|mF J r i RK ?_;rw[c];show aiu D D ?_;show evalArgs_kwB D ?_;show pz<|bp (n pins s σ H _ J h) λv aj {x,an,l,k,(C)}=>rd<|kws_cons<|bp (z pins aj σ an _ l C) λM aA {y,aw,b,F,(E)}=>kws_nil ?_;let{m,rfl,j,(q)}:=E;let{t,(rfl)}:=F;obtain⟨a,xs,rfl,w,q⟩|⟨d,o,kvs,rfl,af,q⟩:=q
 .cases k
  let{aW,L,B,(hz)}:=b.list w
  show Pk (Oe j)<|zg B.isList ?_;show Lj b (UK a _ _ m) _ _ (λdP f=>{{.none,f},{_,dP,D,D},Gm _}) q
 .cases k
  let{c,u,A,es,ep,vs,g,hsz,G,(i)}:=b.qg af
  show Pk (Oe j)<|Dq c u A g ?_;show Lj b (UL g _ _ m) _ _ (λdP f=>{{.none,f},{_,dP,D,by rw[hsz]<;>rfl},Gm _}) q
end L2
set_option tactic.hygienic false
namespace L2
open PySem PyProof.Rows PySem.Calls PySem.Spec
section
variable{prog:bS}{w:bL}{A:db}{E:az->bb->Prop}{s:bb}{a:ao}{es:Array (Int×az)}{ep:Nat}{t:SetTable}
def adz(c:s.TypeIs (.ref a) "set")(h:Q ap s):aR (aU prog w) A (GU<|.ref a) Q E s:=by show av<|ze c F.slot_set_len.lookup ?_;generalize d:"set.__len__"=e;subst d;show av<|zj (b:=aa) c (by rw[zz];kernel_rfl)<|av<|Fs c<|a7 h
def aid(am:A.handled=ag)(N:s.heap.get? a=I (nq es ep t))(T:lS (!fx w) t es.size)(hz:es.size<=bg)
  (h:∀h' tk d vs,(∀b o,s.heap.get? b=I o->h'.get? b=I o)->vs.Perm (es.toList.map λe=>e.2)->R vs {s with heap:=h',toks:=tk,drawn:=d}):
  aR (aU prog w) A (collect<|.ref a) R E s:=by
 have aq:=cm N;unfold collect;show av<|Rb<|l6 entry_proto_collect' ?_;rw[pD PySem.F.plain_proto_collect _];change aR _ A.in1 (newList []>>=λl=>again<|.builtin "list.__iadd__" {[l,.ref a],[]}) _ _ s;show av<|l1 ?_;show a7 {nN Si _,l6 entry_list_iadd' ?_};rw[pD Si _];have H:(s.heap.push {cls:=.type "list",data:=.seq ([]:List az).toArray}).get? s⁻¹=I {cls:=.type "list",data:=.seq #[]}:=dC _ D;have m:(s.heap.push {cls:=.type "list",data:=.seq ([]:List az).toArray}).get? a=I (nq es ep t):=cB _ N;generalize V:s.heap.push {cls:=.type "list",data:=.seq ([]:List az).toArray}=O at H m;have aB:∀b o,s.heap.get? b=I o->O.get? b=I o:=λb o e=>by rw[<-V];show cB _ e
 have aC:O.objs.size=s⁻¹+1:=by rw[<-V];show hn ..
 generalize L:s⁻¹=S at*;change aR _ A.in1 (Ax (.ref S) (.ref a)<|.ref S) _ _ {s with heap:=O};unfold Ax;have ah:F5 {s with heap:=O} (.ref a) "set":={_,m,D};show av<|Fs (T:="set") ah ?_;have X:S≠a:=ma aq;have as:Aw (.ref S) (.ref a)=ap:=by simp[Aw,X]
 have aw:(ix "set"==ix "list")=ap:=by decide
 have ax:(ix "set"==ix "tuple")=ap:=by decide
 simp only[as,aw,ax,pB,pC,ku];show av<|fA (adh (s:={s with heap:=O}) (B:=A.in1) am m T hz) (λv aA bM=>?_) λ_ _ q=>q;let{J,fp,jw,P,St,rfl,p,U,Z,ab,W,st,al,ar,(aj)}:=bM
 let{Y,g2,C,aG,(aF)}:=aA
 dsimp only at p U Z ab;subst U;subst Z;subst ab;have K:=p _ _ H;have ai:=p _ _ m;show av<|hj<|adz {_,ai,D} ?_;have M:S∉fp:=λq=>by
  obtain q|q:=al S q
  .show X q
  .dsimp only at q;omega
 have key:∀(j:bG) (r:Nat),(∀b∈fp,∀o,Y.get? b=I o->j.get? b=I o)->(∀b o,b≠S->Y.get? b=I o->j.get? b=I o)->j.get? S=I {cls:=.type "list",data:=.seq #[] r}->
   h2 (aU prog w) A (.builtin "list.extend.loop" {[.ref S,.ref J,.ref S],[]})
    (λ(q:s6) (s':bb)=>∃(h':bG) (tk:Nat) (d:Drawn) (g:Array az) (i:Nat),q= .ok (.ret<|.ref S)/\s'={s with heap:=h',toks:=tk,drawn:=d}/\(∀b o,s.heap.get? b=I o->h'.get? b=I o)/\
     h'.get? S=I {cls:=.type "list",dict:=ag,data:=.seq g i,slots:=#[]}/\wv P g es.size) {s with heap:=j,drawn:=C}:=by
  intro j r y an k;show RG W hz S M _ es.size 0 _ #[] r D (cI _) (W.frame 0 _ j _ st (bA _) y) k (ItemsOf.nil _) λs' g i n u au=>?_
  let{ae,ad,G,aD,(ay)}:=s'
  obtain rfl:s.gens=ad:=n.gens;obtain rfl:G=C:=n.drawn;obtain rfl:ay=s.os:=n.os;show{ae,aD,G,g,i,D,D,λb o e=>n.heap b o (λq=>?_)<|an b o ?_<|p b o<|aB b o e,u,au}
  .have f:=cm e;rw[L]at f;obtain q|q:=bK.mp q
   .show absurd q<|du f
   .have:=ar b q;dsimp only at this;rw[aC]at this;show absurd (dW f<|b5 (jZ _) this)<|kB _
  .have f:=cm e;rw[L]at f;show du f
 have fin:∀(c:Code) (z:bb),h2 (aU prog w) A c (λ(q:s6) (s':bb)=>∃(h':bG) (tk:Nat) (d:Drawn) (g:Array az) (i:Nat),q= .ok (.ret<|.ref S)/\s'={s with heap:=h',toks:=tk,drawn:=d}/\(∀b o,s.heap.get? b=I o->h'.get? b=I o)/\
     h'.get? S=I {cls:=.type "list",dict:=ag,data:=.seq g i,slots:=#[]}/\wv P g es.size) z->
   h2 (aU prog w) A c (sJ (λv s'=>aR (aU prog w) A (match v with
    |.ref a=>(do match(<-load a).data with
     |.seq xs _=>pure xs.toList
     |_=>vQ "internal:collect":Sem (List az))
    |_=>vQ "internal:collect") R E s') E) z:=by
  intro c z ak;show jU ak λq s' x=>?_;let{h',tk,d,g,i,rfl,rfl,y,u,(au)}:=x;change aR _ A (load S>>=_) _ _ _;show av<|wpAny_load u ?_;show a7<|h h' tk d g.toList y<|aj g au
 show av<|vJ<|av ?_;change aR _ _ (zm S (·.push .none)>>=λ_=>zm S (·.pop)) _ _ _;show av<|vH K D ?_;have k:=me (ga (·.push iW)) K D;show vH (hz:=by seq_fits) k D ?_;have af:=me (ga (·.pop)) k D;show a7 {nN PySem.F.plain_extend_loop _,fin _ _<|key _ _ (λb f o e=>?_) (λb o f e=>?_) af}
 .have Q:b≠S:=λq=>M<|q▸f;show(jv _ _<|eo Q).trans<|(jv _ _<|eo Q).trans e
 .show(jv _ _<|eo f).trans<|(jv _ _<|eo f).trans e
def ints_of{zs:List Int}:∀{vs:List az},(∀v∈vs,∃k t,v=jW k t)->ww vs (vs.map n3)
 |[],_=>.nil
 |v::r,h=>by let{k,t,(rfl)}:=h v ();show .cons k t (ints_of (zs:=zs) λu a=>h u<|by simp[a])
def W4(x:A.handled=ag)(S:k0 prog w s.heap a (!fx w) zs)(C:ac zs<64)
  (h:∀(aq:ao) (g h':bG) tk d out e ns,(∀b o,s.heap.get? b=I o->g.get? b=I o)->(∀b o,g.get? b=I o->h'.get? b=I o)->g.objs.size<=aq->h'.get? aq=I (hF "list" out.toArray e)->ww out ns->ns.Perm zs->ns.Pairwise (·<= ·)->
   Q (.ref aq) {s with heap:=h',toks:=tk,drawn:=d}):
  aR (aU prog w) A (call (.builtin "sorted") [.ref a]) Q E s:=by
 let{es,ep,t,p,T,u,(l)}:=S.bE
 have hz:es.size<64:=by have:=l.length_eq;simp at this;omega
 show call_function_entry kind_sorted plain_sorted entry_sorted (args_sorted1 _)<|av<|a7 ?_;show av<|aid x p T (by rw[cc];omega) λh' tk d vs y i=>?_;have hlen:=by have:=i.length_eq;simpa using this
 have z:ac vs<64:=by rw[hlen];show hz
 show av (Fw ?_<|by rw[cc];omega);have c:(h'.push {cls:=.type "list",data:=.seq vs.toArray}).get? h'.objs.size=I (hF "list" vs.toArray 0):=dC _ D;have r:∀v∈vs,∃k t,v=jW k t:=λv q=>by
  let{e,f,(rfl)}:=ct.mp<|i.mem_iff.mp q
  let{{k,O,_},_}:=u e f
  let{_,t,Y}:=Dr O
  show{k,t,(Y)}
 have n:=ints_of (zs:=zs) r;have B:(vs.map n3).Perm zs:=by show(i.map _).trans ?_;rw[dh];show l
 show av<|hj<|jT Rr {_,c,D} RE (list_sort_tree c n z λout ns O Y m=>{.none,D,?_})<|args_list_sort _;let{e,(f)}:=sortedHeap_at c;show a7 {_,D,h h'.objs.size h' _ tk d out.toList e ns y (λb o q=>?_) (bA _) ‹f› O (Y.trans B) m};have j:=cm q;rw[sortedHeap_old (du j) (by rw[hn];show nc j)];show cB _ q
end
end L2
namespace L2
open PySem PySem.Spec PyProof.Rows
open PySem.SeqAt
open PySem.AutoSeq1 (wpAny_loadPart')
open PySem.MeetsSeq PySem.MeetsSeq2 PySem.MeetsSeq3
def mD:(List (Bool×Bool)->Bool->Bool)
 |[],f=>f
 |(aa,_)::r,f=>mD r f
 |(ap,b)::_,_=>b
def su A s y x b:=
 ∀prog w E Q,Q (.bool b) s->aR (aU prog w) A (richCompare .Lt y x) Q E s
def hQ n(e l:Nat->Bool):=(dv n).map λj=>(e j,l j)
def K9(h:i<n):(hQ n e l).drop i=(e i,l i)::(hQ n e l).drop (i+1):=by
 have a:i<↥(hQ n e l):=by simp[hQ];show h
 rw[nX a];simp[hQ]
def K8(h:n<=i):(hQ n e l).drop i=[]:=mc (by simp[hQ];show h)
def UN l b items q n eq b7 dY sl e7 e lt:
  Meets (Builtin.«tuple.__lt__» {[.ref l,.ref b],[]})
   (λA R s=>s.heap.get? l=I {cls:=.type "tuple",dict:=b7,data:=.seq items n,slots:=sl}/\s.heap.get? b=I {cls:=.type "tuple",dict:=dY,data:=.seq q eq,slots:=e7}/\
    (∀j O (Y:j<q.size),EqAt A.in1 s items[j] q[j]<|e j)/\(∀j O (Y:j<q.size),su A.in1 s items[j] q[j]<|lt j)/\
    R (.ok<|.ret<|.bool<|mD (hQ (min items.size q.size) e lt)<|decide (items.size<q.size)) s):=
 .of_wp λprog w A R s h=>by
  let{p,g,d,tk,(os)}:=s;let{z,t,u,B,(h)}:=h
  have f2:=AutoSeq1.sub_tuple_tuple;have m:↥(items.toList.zip q.toList)=min items.size q.size:=by simp
  wp_walk using iR z,iR t,wpAny_forIn_list _ (λrest b s'=>b.1=ag/\s'={p,g,d,tk,(os)}/\∃i,rest=(items.toList.zip q.toList).drop i/\
   R (.ok<|.ret<|.bool<|mD ((hQ (min items.size q.size) e lt).drop i)<|decide (items.size<q.size)) {p,g,d,tk,(os)}) _
  case turn=>
   rintro⟨y,x⟩ rest b s' ⟨f,rfl,i,hz,a⟩;have o:i<↥(items.toList.zip q.toList):=by
    obtain h'|h':=fs i ↥(items.toList.zip q.toList)
    .show h'
    .rw[mc h']at hz;cases hz
   have k:i<min items.size q.size:=m▸o;have O:i<items.size:=dW k<|Nat.min_le_left _ _;have Y:i<q.size:=dW k<|Nat.min_le_right _ _;rw[nX o]at hz;injection hz with r C
   have c:y=items[i]:=by have:=gC Prod.fst r;simpa using this
   have F:x=q[i]:=by have:=gC Prod.snd r;simpa using this
   subst c F;rw[K9 k]at a;show av<|u i O Y prog w _ _ ?_;cases c:e i with
   |true=>
    rw[c]at a
    wp_walk
    show{D,D,i+1,C,a}
   |false=>
    rw[c]at a;have E:=B i O Y prog w
    wp_walk using E
    show{_,D,a}
  case fin=>
   rintro⟨G,H⟩ s' ⟨f,rfl,i,hz,a⟩;simp only at f;subst f;have v:min items.size q.size<=i:=by
    obtain h'|h':=fs i ↥(items.toList.zip q.toList)
    .rw[nX h']at hz;cases hz
    .show m▸h'
   rw[K8 v]at a
   wp_walk
   show{_,D,by simpa[Builtin.Tuple.tupleCompareSizes,mD]using a}
  case h=>show{D,D,0,D,‹h›}
def acD l b(items a:Array az) n eq b7 dY sl e7 e lt k:
  ∀i,min items.size a.size-i=k->Meets (Builtin.«list.__eq__.loop» {[.ref l,.ref b,g4 i,g4 0],[]})
   (λA R s=>s.heap.get? l=I {cls:=.type "list",dict:=b7,data:=.seq items n,slots:=sl}/\s.heap.get? b=I {cls:=.type "list",dict:=dY,data:=.seq a eq,slots:=e7}/\
    (∀j O (Y:j<a.size),EqAt A.in1 s items[j] a[j]<|e j)/\(∀j O (Y:j<a.size),su A.in1 s items[j] a[j]<|lt j)/\
    R (.ok<|.ret<|.bool<|mD ((hQ (min items.size a.size) e lt).drop i)<|decide (items.size<a.size)) s):=by
 induction k with
 |zero=>
  intro i x prog w A R s h
  let{y,g,d,tk,(os)}:=s;let{f,c,p,r,(h)}:=h
  rw[K8 ∅]at h;obtain O|O:=fs i items.size
  .have Y:a.size<=i:=by omega
   wp_walk using iR f,iR c
   have m:items[((i:Nat):Int).toNat]? =I items[i]:=by simp[O]
   have o:a[((i:Nat):Int).toNat]? =ag:=by simp;omega
   rw[m,o]
   wp_walk using iR f,iR c
   show h
  .wp_walk using iR f,iR c
   have m:items[((i:Nat):Int).toNat]? =ag:=by simp;omega
   rw[m]
   wp_walk using iR f,iR c
   show h
 |succ k B=>
  intro i x prog w A R s h
  let{y,g,d,tk,(os)}:=s;let{f,c,p,r,(h)}:=h
  wp_walk using iR f,iR c
  have q:i<items.size:=by omega
  have t:i<a.size:=by omega
  have m:items[((i:Nat):Int).toNat]? =I items[i]:=by simp[q]
  have o:a[((i:Nat):Int).toNat]? =I a[i]:=by simp[t]
  have v:((i:Int)+1)=((i+1:Nat):Int):=by push_cast;rfl
  rw[K9 ∅]at h;rw[m,o];show av<|p i q t prog w _ _ ?_;cases u:e i with
  |true=>
   rw[u]at h
   wp_walk
   rw[v];show{nN zt _,l6 entry_eq_loop (by rw[pD zt _];show B (i+1) ∅ prog w A R _ {f,c,p,r,(h)})}
  |false=>
   rw[u]at h;have z:=r i q t prog w
   wp_walk using iR f,iR c
   rw[m,o]
   wp_walk using z
   show h
def acF l b items q n eq b7 dY sl e7 e lt:
  Meets (Builtin.«list.__lt__» {[.ref l,.ref b],[]})
   (λA R s=>s.heap.get? l=I {cls:=.type "list",dict:=b7,data:=.seq items n,slots:=sl}/\s.heap.get? b=I {cls:=.type "list",dict:=dY,data:=.seq q eq,slots:=e7}/\
    (∀j O (Y:j<q.size),EqAt A.in1 s items[j] q[j]<|e j)/\(∀j O (Y:j<q.size),su A.in1 s items[j] q[j]<|lt j)/\
    R (.ok<|.ret<|.bool<|mD (hQ (min items.size q.size) e lt)<|decide (items.size<q.size)) s):=by
 intro prog w A R s h
 let{m,g,d,tk,(os)}:=s;let{c,a,f,i,(h)}:=h
 have k:=AutoSeq1.sub_list_list
 wp_walk using iR c,iR a
 show{nN zt _,l6 entry_eq_loop (by rw[pD zt _];show acD l b items q n eq b7 dY sl e7 e lt _ 0 D prog w A R _ {c,a,f,i,(h)})}
end L2
namespace L2
open PySem PySem.Spec PyProof.Rows
open PySem.SeqAt
mutual
def gP:eX->eX->Bool
 |.int a,.int b=>decide (a<b)
 |.str a,.str b=>decide (a.cps.toList<b.cps.toList)
 |.list xs,.list ys=>f6 xs ys
 |.tuple xs,.tuple ys=>f6 xs ys
 |_,_=>ap
def f6:List eX->List eX->Bool
 |[],[]=>ap
 |[],_::_=>aa
 |_::_,[]=>ap
 |x::xs,y::ys=>if fJ x y=aa then f6 xs ys else gP x y
end
mutual
def dH:eX->eX->Bool
 |.int _,.int _=>aa
 |.str _,.str _=>aa
 |.list xs,.list ys=>gQ xs ys
 |.tuple xs,.tuple ys=>gQ xs ys
 |_,_=>ap
def gQ:List eX->List eX->Bool
 |x::xs,y::ys=>dH x y&&gQ xs ys
 |[],_=>aa
 |_::_,[]=>aa
end
def gPt:gP (.tuple a) (.tuple b)=f6 a b:=D
def gPi:gP (.int a) (.int b)=decide (a<b):=D
def gPs:gP (.str a) (.str b)=decide (a.cps.toList<b.cps.toList):=D
def gPl:gP (.list a) (.list b)=f6 a b:=D
def dHl:dH (.list a) (.list b)=gQ a b:=D
def dHt:dH (.tuple a) (.tuple b)=gQ a b:=D
def dHi:dH (.int a) (.int b)=aa:=D
abbrev uq(xs ys:List eX) j:=gP (xs.getD j .none)<|ys.getD j .none
def ZB n e l:hQ (n+1) e l=(e 0,l 0)::hQ n (λj=>e<|j+1) (λj=>l<|j+1):=by unfold hQ;rw[SS,cx,dh];rfl
def Dc:∀xs ys,mD (hQ (min ↥xs ↥ys) (pairEq xs ys)<|uq xs ys) (decide (ac xs<ac ys))=f6 xs ys
 |[],[]=>rfl
 |[],_::_=>by simp[f6,hQ,mD]
 |_::_,[]=>by simp[f6,hQ,mD]
 |x::xs,y::ys=>by
  have q:=Dc xs ys;have a:min ↥(x::xs) ↥(y::ys)=min ↥xs (ac ys)+1:=by simp
  have b:decide (↥(x::xs)<↥(y::ys))=decide (ac xs<ac ys):=by simp
  rw[a,b,ZB,f6];change mD ((fJ x y,gP x y)::hQ _ (pairEq xs ys) (uq xs ys)) _=_;cases h:fJ x y with
  |true=>show q
  |false=>rfl
mutual
theorem Db:∀(e f:eX) (A:db) (s:bb) (a b:az) (as b':List ao),ph s.heap a e as->ph s.heap b f b'->dH e f=aa->e.canLay0=aa->f.canLay0=aa->
  A.units+min e.depth f.depth<eW->su A s a b (gP e f)
 |.int x,.int y,A,s,_,_,_,_,fD,go,_,_,_,b7=>by
  cases fD with
  |int _ t=>cases go with
   |int _ u=>show λprog w E Q h=>(lt_int h:aR (aU prog w) A (compareOp .Lt (.int x t)<|.int y u) Q E s)
 |.str x,.str y,A,s,_,_,_,_,fD,go,_,_,_,b7=>by
  cases fD with
  |str _ t=>cases go with
   |str _ u=>show λprog w E Q h=>(lt_str h:aR (aU prog w) A (compareOp .Lt (.str x t)<|.str y u) Q E s)
 |.list xs,.list ys,A,s,_,_,_,_,fD,go,q,hz,is,b7=>by
  cases fD with
  | @list l o vs n _ mR O Y gt eq=>cases go with
   | @list mk bX dY mp _ mS kw kY le e7=>
    let{cls,li,data,(sl)}:=o;let{p,g,data2,(m)}:=bX;simp only at Y gt kY le;subst Y gt kY le;have i:vs.size=↥xs:=‹s7 _ _ _ eq›
    have k:dY.size=↥ys:=‹s7 _ _ _ e7›
    intro prog w E Q h;show Rv (op:=.Lt) {_,O,D} {_,kw,D} PySem.F.slot_list_lt PySem.F.entry_list_lt (PySem.F.args_list_lt_2 _ _) (acF l mk vs dY n mp li g sl m (pairEq xs ys)<|uq xs ys)
     {O,kw,λj c d=>?_,λj c d=>?_,?_} (room_here b7)
    .have:=RD xs ys A.in1 s vs.toList dY.toList _ _ eq e7 hz is (zq b7) j ‹c› ‹d›;simpa using this
    .have:=C' xs ys A.in1 s vs.toList dY.toList _ _ eq e7 q hz is (zq b7) j ‹c› ‹d›;simpa using this
    .rw[i,k,Dc];show{(λx=>nomatch x),h}
 |.tuple xs,.tuple ys,A,s,_,_,_,_,fD,go,q,hz,is,b7=>by
  cases fD with
  | @tuple l o vs n _ mR O Y gt eq=>cases go with
   | @tuple mk bX dY mp _ mS kw kY le e7=>
    let{cls,li,data,(sl)}:=o;let{p,g,data2,(m)}:=bX;simp only at Y gt kY le;subst Y gt kY le;have i:vs.size=↥xs:=‹s7 _ _ _ eq›
    have k:dY.size=↥ys:=‹s7 _ _ _ e7›
    intro prog w E Q h;show Rv (op:=.Lt) {_,O,D} {_,kw,D} PySem.F.slot_tuple_lt PySem.F.entry_tuple_lt (PySem.F.args_tuple_lt_2 _ _) (UN l mk vs dY n mp li g sl m (pairEq xs ys)<|uq xs ys)
     {O,kw,λj c d=>?_,λj c d=>?_,?_} (room_here b7)
    .have:=RD xs ys A.in1 s vs.toList dY.toList _ _ eq e7 hz is (zq b7) j ‹c› ‹d›;simpa using this
    .have:=C' xs ys A.in1 s vs.toList dY.toList _ _ eq e7 q hz is (zq b7) j ‹c› ‹d›;simpa using this
    .rw[i,k,Dc];show{(λx=>nomatch x),h}
 |.none,_,_,_,_,_,_,_,_,_,q,_,_,_=>by cases q
 |.bool _,_,_,_,_,_,_,_,_,_,q,_,_,_=>by cases q
 |.dict _,_,_,_,_,_,_,_,_,_,q,_,_,_=>by cases q
 |.int _,.none,_,_,_,_,_,_,_,_,q,_,_,_=>by cases q
 |.int _,.bool _,_,_,_,_,_,_,_,_,q,_,_,_=>by cases q
 |.int _,.str _,_,_,_,_,_,_,_,_,q,_,_,_=>by cases q
 |.int _,.list _,_,_,_,_,_,_,_,_,q,_,_,_=>by cases q
 |.int _,.tuple _,_,_,_,_,_,_,_,_,q,_,_,_=>by cases q
 |.int _,.dict _,_,_,_,_,_,_,_,_,q,_,_,_=>by cases q
 |.str _,.none,_,_,_,_,_,_,_,_,q,_,_,_=>by cases q
 |.str _,.bool _,_,_,_,_,_,_,_,_,q,_,_,_=>by cases q
 |.str _,.int _,_,_,_,_,_,_,_,_,q,_,_,_=>by cases q
 |.str _,.list _,_,_,_,_,_,_,_,_,q,_,_,_=>by cases q
 |.str _,.tuple _,_,_,_,_,_,_,_,_,q,_,_,_=>by cases q
 |.str _,.dict _,_,_,_,_,_,_,_,_,q,_,_,_=>by cases q
 |.list _,.none,_,_,_,_,_,_,_,_,q,_,_,_=>by cases q
 |.list _,.bool _,_,_,_,_,_,_,_,_,q,_,_,_=>by cases q
 |.list _,.int _,_,_,_,_,_,_,_,_,q,_,_,_=>by cases q
 |.list _,.str _,_,_,_,_,_,_,_,_,q,_,_,_=>by cases q
 |.list _,.tuple _,_,_,_,_,_,_,_,_,q,_,_,_=>by cases q
 |.list _,.dict _,_,_,_,_,_,_,_,_,q,_,_,_=>by cases q
 |.tuple _,.none,_,_,_,_,_,_,_,_,q,_,_,_=>by cases q
 |.tuple _,.bool _,_,_,_,_,_,_,_,_,q,_,_,_=>by cases q
 |.tuple _,.int _,_,_,_,_,_,_,_,_,q,_,_,_=>by cases q
 |.tuple _,.str _,_,_,_,_,_,_,_,_,q,_,_,_=>by cases q
 |.tuple _,.list _,_,_,_,_,_,_,_,_,q,_,_,_=>by cases q
 |.tuple _,.dict _,_,_,_,_,_,_,_,_,q,_,_,_=>by cases q
theorem C':∀(xs ys:List eX) (A:db) (s:bb) (vs ws:List az) (as b':List ao),v4 s.heap vs xs as->v4 s.heap ws ys b'->gQ xs ys=aa->fY xs=aa->fY ys=aa->
  A.units+min (f' xs) (f' ys)<eW->∀j (O:j<ac vs) (Y:j<ac ws),su A s vs[j] ws[j]<|uq xs ys j
 |[],_,_,_,_,_,_,_,q,_,_,_,_,_,j,O,_=>by cases q;show absurd O<|ti _
 |_::_,[],_,_,_,_,_,_,_,b7,_,_,_,_,j,_,Y=>by cases b7;show absurd Y<|ti _
 |x::xs,y::ys,A,s,_,_,_,_,q,b7,go,e7,fD,eq,j,O,Y=>by
  have dY:x.canLay0=aa/\fY xs=aa:=by simpa[fY]using e7
  have a:y.canLay0=aa/\fY ys=aa:=by simpa[fY]using fD
  have b:dH x y=aa/\gQ xs ys=aa:=by simpa[gQ]using go
  cases q with
  |cons r rs=>
   cases b7 with
   |cons c d=>
    cases j with
    |zero=>show Db x y A s _ _ _ _ r c b.1 dY.1 a.1<|room_head eq
    |succ j=>show C' xs ys A s _ _ _ _ rs d b.2 dY.2 a.2 (room_tail eq) j (SI O)<|SI Y
end
section
variable{X:bO}
inductive KS(K:b9)(x:ab)(y:ab)(H:aP)(Q:dR):Prop|mk(d e)(_:dS K H x d)(_:dS K H y e)(_:dH d e=aa)(_:kA d=aa)(_:kA e=aa)(_:Q (.a1<|gP d e) H)
def LQ(c:X.A.units+64<eW):eE X (compareOp .Lt) (KS X.K):=by
 intro pins s σ H x y v u Q J i j h
 let{d,e,af,b,lk,a,k,(q)}:=h
 let{as,(f)}:=dS.nr J d x v af i
 let{b',(g)}:=dS.nr J e y u b j
 show Db d e _ s v u as b' f g lk (zG a) (zG k) (Ru a c) _ _ _ _ {.a1 _,H,J,D,q}
end
end L2
namespace L2
open PySem PySem.Spec PyProof.Rows
def adW(br:bC):bC:=λvs H Q E=>∃(aH:ao) (xs:List ab),H aH=I (.ai xs)/\br vs (dG H aH) (λv U=>U aH=ag->Q v (al U aH<|.ai xs)) λc od U=>U aH=ag->E c od (al U aH<|.ai xs)
section
variable{P:bS}{w:bL}{H U:aP}{h h':bG}{aH:ao}{xs:List ab}{aF:List ao}
def YZ(ok:dq P w H h)(e:H aH=I (.ai xs)):dq P w (dG H aH) h:=λa o q=>by
 have bI:a≠aH:=λz=>by rw[z,iF]at q;cases q
 rw[dF bI]at q;show(ok a o q).hq (λ_ _ _ k=>k) (λb k=>?_) λb ys k=>?_
 .rw[dF λz=>by rw[z,e]at k;cases k];show k
 .rw[dF λz=>by rw[z,e]at k;cases k];show k
def K1(ok:dq P w H h)(e:H aH=I (.ai xs))(e4:aH∉aF)(cF:fy aF [] (dG H aH) U h h')(i:dq P w U h'):U aH=ag/\fy aF [] H (al U aH<|.ai xs) h h'/\dq P w (al U aH<|.ai xs) h':=by
 let{hz,aW,n,j,(d)}:=ok aH _ e
 have c:=cF.free aH _ d iF ();have g:=cF.keep aH _ d iF e4 ();have up:∀b,b≠aH->al U aH (.ai xs) b=U b:=λb f=>aI f;have neN:∀b,H b=ag->b≠aH:=λb q z=>by rw[z,e]at q;cases q
 show{c,{λb o q k=>?_,λb o q k=>?_,λb o q k x=>?_,cF.there,λb ys q=>?_,λb o u q=>?_,λb ps q=>?_},λa o q=>?_}
 .show cF.keep b o q<|dF (neN b k)▸k
 .show cF.slot b o q (by rw[dF<|neN b k];show k)
 .show up b (neN b k)▸cF.free b o q (by rw[dF<|neN b k];show k) x
 .have bI:b≠aH:=λz=>by rw[z,e]at q;cases q
  show up b bI▸cF.gL b ys (by rw[dF bI];show q)
 .have bI:b≠aH:=λz=>by rw[z,e]at q;cases q
  show up b bI▸cF.hw b o u (dF bI▸q)
 .have bI:b≠aH:=λz=>by rw[z,e]at q;cases q
  show up b bI▸cF.ia b ps (by rw[dF bI];show q)
 .by_cases z:a=aH
  .subst z;rw[ar]at q;cases q;show{hz,aW,n,j,(g)}
  .rw[up a z]at q;show(i a o q).hq (λ_ _ _ k=>k) (λb k=>?_) λb ys k=>?_
   .rw[up b λy=>by rw[y,c]at k;cases k];show k
   .rw[up b λy=>by rw[y,c]at k;cases k];show k
end
def c6.frame{K:b9}(F:c6 P w K mg base (cL P w) k f bk ps br):c6 P w K mg base (cL P w) k f bk ps (adW br):=by
 show{λvs H Q E {aH,xs,_,q}=>F.len vs _ _ _ q,λA aN s H args ay vs Q E G c t J {aH,xs,e,(q)}=>?_};have e4:aH∉ev aN:=λz=>by rw[c.mK aH z]at e;cases e
 have j:∀b,H b=ag->dG H aH b=ag:=λb q=>by
  by_cases z:b=aH
  .show z▸iF
  .show dF z▸q
 have y:oY P w K mg base A aN s (dG H aH):={c.frames,c.f5,λb o z=>{(c.b' b o z).1,j b (c.b' b o z).2},c.lM,c.jG,λb z=>j b<|c.mK b z,YZ c.a0 e,c.dV};show jU (F.run A aN s (dG H aH) args ay vs _ _ G y t J q) λr s' x=>?_;cases r with
 |ok cv=>
  cases cv with
  |ret u=>
   let{v,U,O,Y,l,m,p,(g)}:=x
   let{h,cF,(ok)}:=K1 c.a0 e e4 l m
   show{v,_,O,Y,cF,ok,p,g h}
  |next=>show x
  |brk=>show x
  |cont=>show x
 |error bE=>
  let{a,C,ae,T,U,rfl,d,(g)}:=x
  let{h,cF,(ok)}:=K1 c.a0 e e4 d.cF d.a0
  have i:aH<s⁻¹:=by
   let{hz,aW,n,L,(B)}:=c.a0 aH _ e
   show cm B
  show{a,C,ae,T,_,D,{d.os,d.dV,cF,ok,d.yc,aI (ma<|dW i d.cw)▸d.cr,aI (ma<|dW i d.ak)▸d.r',d.cw,d.ak},g h}
def ek{κ:Type}[DecidableEq κ](l:List κ):=l.foldl (λacc k=>if k∈acc then acc else acc++[k]) []
def CA [DecidableEq κ](l:List κ) k:ek (l++[k])=if k∈ek l then ek l else ek l++[k]:=by
 unfold ek;simp
def xG [DecidableEq κ](l:List κ):↥(ek l)<=ac l:=by
 have:∀(m acc:List κ),↥(m.foldl (λacc k=>if k∈acc then acc else acc++[k]) acc)<=ac acc+ac m:=by
  intro m;induction m with
  |nil=>simp
  |cons a r b=>intro acc;rw[h7];show b5 (b _) ?_;split<;>simp<;>omega
 simpa[ek]using this l []
section
variable{prog:bS}{w:bL}{A:db}{R:s6->bb->Prop}{J:ao}{fp jw:List ao}{G:Array Am->Array Am->Prop}{n:Nat}{P:Nat->az->Prop}{St:Nat->bb->Prop}
variable{κ:Type}[DecidableEq κ][BEq κ][LawfulBEq κ]
def Xv(knd:Gf prog w κ)(W:qW prog w A.in1 J fp jw G n P St) aq(l:aq∉fp) key(C:∀i v,P i v->knd.is (key i) v=aa/\v.scannable=aa)(K:n+1<o'):
  ∀k i s,n-i=k->i<=n->St i s->s.heap.SetOf knd aq (λq=>decide (q∈ek ((dv i).map key))) ↥(ek<|(dv i).map key)->
   (∀s',Moved (aq::jw) G s s'->s'.heap.SetOf knd aq (λq=>decide (q∈ek ((dv n).map key))) ↥(ek<|(dv n).map key)->R (.ok<|.ret .none) s')->
   h2 (aU prog w) A (.builtin "set.update.loop" {[.ref aq,.ref J],[]}) R s:=by
 have ax:aq∉jw:=λh=>l<|W.sub _ h;intro k;induction k with
 |zero=>
  intro i s B au j f d;have e:i=n:=by omega
  subst e;show l6 zR ?_;rw[pD te _];change aR _ A.in1 (pyNext (.ref J)>>=_) _ _ s;show av<|W.done s _ _ j λs' a=>a7<|d s' (a.mono λb c=>eJ _ c) ?_
  let{o,es,ep,t,g,(more)}:=f
  show{o,es,ep,t,a.heap aq _ ax g,more}
 |succ k F=>
  intro i s B au j f d;have m:i<n:=by omega
  show l6 zR ?_;rw[pD te _];change aR _ A.in1 (pyNext (.ref J)>>=_) _ _ s;show av<|W.item i s _ _ m j λv s' r E a=>?_
  let{O,(Y)}:=C i v r
  have u:s'.heap.SetOf knd aq (λq=>decide (q∈ek ((dv i).map key))) ↥(ek<|(dv i).map key):=by
   let{o,es,ep,t,g,(more)}:=f
   show{o,es,ep,t,a.heap aq _ ax g,more}
  show av<|hj ?_;unfold setAdd;show hj<|av<|knd.pyHash (k:=key i) O ?_;have hle:↥(ek<|(dv i).map key)<=i:=by have:=xG<|(dv i).map key;simpa using this
  show wpAny_setAddHashed_of (knd:=knd) (s:={s' with toks:=s'.toks+1}) O Y u ∅ λh' p y=>?_;have z:h'.SetOf knd aq (λq=>decide (q∈ek ((dv<|i+1).map key))) ↥(ek<|(dv<|i+1).map key):=by
   show SetOf_congr y (λq=>?_) ?_
   .rw[wf,dX,tr,CA];by_cases a:key i∈ek ((dv i).map key)
    .rw[aM a];by_cases e:q=key i
     .subst e;simp[a]
     .simp[e]
    .rw[aD a];simp
   .rw[wf,dX,tr,CA];by_cases a:key i∈ek ((dv i).map key)
    .rw[aM a];simp[a]
    .rw[aD a];simp[a]
  show a7 {nN te _,F (i+1) _ ∅ m (W.frame _ s' _ _ E (jZ _) λb c o e=>?_) z λH D x=>?_}
  .rw[p.2 b λh:b=aq=>l<|by rw[<-h];show c];show e
  .show d H (Moved.trans W.gtrans ((a.mono λb c=>eJ _ c).then_heap (jZ _) λb o c e=>?_) D) x;rw[p.2 b λh:b=aq=>c<|by rw[h];show i1];show e
end
section
variable{prog:bS}{w:bL}{A:db}{E:az->bb->Prop}{s:bb}
abbrev lF(led:Bool):Obj:={cls:=.type "set",dict:=ag,data:=.set #[] 0<|.fresh 0 0 led}
def aie a(h:Q₁ (.ref s⁻¹) {s with heap:=s.heap.push<|lF<|!fx w}):
  h2 (aU prog w) A (.call (.builtin "set.__new__") {[.type "set",a],[]}) (sJ Q₁ E) s:=by
 show zF ?_;show av<|vL (PySem.F.newCall_set_1 a)<|a7 {nN PySem.F.plain_set_new _,l6 PySem.F.entry_set_new ?_};unfold Builtin.«set.__new__» Builtin.Frozenset.newClass;have c:=sub_set_self
 let{b,g,d,tk,(os)}:=s
 dsimp only
 wp_walk
 show FC<|a7 ?_;dsimp only;simp only[newObj];show av<|zl<|a7<|a7 h
def IA(Good:bG->Prop)(n:A.handled=ag)(G:s.heap.IsList l items)
  (fill:∀B R J aj,B.handled=ag->l≠J->s⁻¹∉[J,l]->aj.heap.IsListIter J l 0->aj.heap.IsList l items->aj.heap.get? s⁻¹=I (lF<|!fx w)->
   (∀s',Moved [s⁻¹,J] (λa b=>b=a) aj s'->Good s'.heap->R (.ok<|.ret .none) s')->h2 (aU prog w) B (.builtin "set.update.loop" {[.ref s⁻¹,.ref J],[]}) R aj)
  (h:∀h' tk,Good h'->(∀b o,s.heap.get? b=I o->h'.get? b=I o)->Q (.ref s⁻¹) {s with heap:=h',toks:=tk}):
  aR (aU prog w) A (call (.type "set") [.ref l]) Q E s:=by
 let{c,bV,(Z)}:=PySem.F.called_set.mro
 have Y:=PySem.F.called_set.made;have ab:=PySem.F.called_set.sub;show o7<|zF ?_;change aR _ _ (callAny (.type "set") _) _ _ _;show a7 {Ar _ ⋯,l6 PySem.F.entry_type_call ?_};rw[TW (Rp "set" [.ref l] []) D];have g1:=PySem.F.called_set.notType;have g2:=PySem.F.called_set.canCreate;have g3:=PySem.F.typeCall_set_1 (.ref l);repeat(any_goals (first|assumption|wp_step))
 show jU (aie (.ref l) (E:=E) (Q₁:=λv aj=>v= .ref s⁻¹/\aj={s with heap:=s.heap.push<|lF<|!fx w}) {D,(rfl)}) λr aj d=>?_;cases r with
 |error e=>show d
 |ok cv=>
  cases cv with
  |next=>show d.elim
  |brk=>show d.elim
  |cont=>show d.elim
  |ret v=>
   let{rfl,(rfl)}:=d;have u:(s.heap.push<|lF<|!fx w).get? s⁻¹=I (lF<|!fx w):=dC _ D;have L:F5 {s with heap:=s.heap.push<|lF<|!fx w} (.ref s⁻¹) "set":={_,u,D};have S:=PySem.F.called_set.init.lookup;have T:=PySem.F.called_set.init.bind (.ref s⁻¹);repeat(any_goals (first|assumption|wp_step))
   show jU (vX (R:=sJ (λr aA=>r= .none/\∃h' tk,aA={s with heap:=h',toks:=tk}/\Good h'/\(∀b o,s.heap.get? b=I o->h'.get? b=I o)) E) PySem.F.called_set.init.plain PySem.F.entry_set_init<|check_set_init_1 L ?_) λO aA f=>?_
   .let{{ii,od,ad,(N)},x,k,ij,m}:=G
    simp only at k m;subst k;subst m;have K:(s.heap.push<|lF<|!fx w).get? l=I {cls:=.type "list",dict:=od,data:=.seq items ij,slots:=N}:=cB _ x;have U:=PySem.F.sub_list_set;have V:=PySem.F.sub_list_frozenset;have W:(ix "list"==ix "dict")=ap:=by decide
    have p:(s.heap.push<|lF<|!fx w).IsList l items:={_,K,D,ij,D};unfold Builtin.«set.__init__» noKeywords Builtin.Frozenset.updateFrom;generalize z:pyIter=ko
    wp_walk
    subst z;show zg p<|av<|Rb ?_;have t:l<s⁻¹:=cm x;have X:A.in1.in1.in1.handled=ag:=by simp[n]
    have hsz:(s.heap.push<|lF<|!fx w).objs.size=s⁻¹+1:=hn ..;have H:l≠(s.heap.push<|lF<|!fx w).objs.size:=by rw[hsz];show du<|nc t
    have y:s⁻¹∉[(s.heap.push<|lF<|!fx w).objs.size,l]:=by
     rw[hsz];intro q;obtain q|q:=bK.mp q
     .show absurd q<|du<|z2 _
     .show absurd (cy.mp q)<|ma t
    show fill _ _ _ _ (by simp[n]) H y {_,dC _ D,D,D} (p.push _) (cB _ u) λs' g i=>?_
    let{h',e7,fD,P,(M)}:=s'
    obtain rfl:e7=s.gens:=g.gens;obtain rfl:fD=s.drawn:=g.drawn;obtain rfl:M=s.os:=g.os;change aR _ _ _ _ _ _;show a7 ?_;change aR _ _ (ret iW) _ _ _;show a7 {D,h',P,D,i,λb o e=>?_};have j:=cm e;show g.heap b o ?_<|cB _<|cB _ e;intro q;obtain q|q:=bK.mp q
    .show absurd q<|du j
    .have:=cy.mp q;rw[hsz]at this;show absurd this<|du<|nc j
   .cases O with
    |error e=>show f
    |ok f2=>
     cases f2 with
     |next=>show f.elim
     |brk=>show f.elim
     |cont=>show f.elim
     |ret r=>
      let{rfl,h',tk,rfl,i,(C)}:=f;repeat(any_goals (first|assumption|wp_step))
      show h _ _ i C
variable{κ:Type}[DecidableEq κ][BEq κ][LawfulBEq κ]
def Xu(knd:Gf prog w κ) key(k:∀i v,items[i]? =I v->knd.is (key i) v=aa/\v.scannable=aa)
  (j:A.handled=ag) (m:s.heap.IsList l items) (g:items.size+1<o')
  (h:∀h' tk,h'.SetOf knd s⁻¹ (λq=>decide (q∈ek ((dv items.size).map key))) ↥(ek<|(dv items.size).map key)->
   (∀b o,s.heap.get? b=I o->h'.get? b=I o)->Q (.ref s⁻¹) {s with heap:=h',toks:=tk}):
  aR (aU prog w) A (call (.type "set") [.ref l]) Q E s:=IA _ j m (λB R J aj c p d O Y a e=>Xv knd ((FY (by simp[c]) J l p items).toS) s⁻¹ d key k g (items.size-0) 0 _ ∅ (cI _) {O,(Y)} (SetOf_congr ((setObjOf_fresh<|!fx w).setOf a ∅) (λ_=>D) D) λs' n f=>e s' n f) h
def Xq{St:Nat->bb->Prop}
  (W:qW prog w A.in1 J fp jw G n P St) aq (l:aq∉fp) key (B:∀i v,P i v->∃t,v=jW (key i) t) (H:n+1<o'):
  ∀k i s,n-i=k->i<=n->St i s->k0 prog w s.heap aq led (ek<|(dv i).map key)->
   (∀s',Moved (aq::jw) G s s'->k0 prog w s'.heap aq led (ek<|(dv n).map key)->R (.ok<|.ret .none) s')->
   h2 (aU prog w) A (.builtin "set.update.loop" {[.ref aq,.ref J],[]}) R s:=by
 have ax:aq∉jw:=λh=>l<|W.sub _ h;intro k;induction k with
 |zero=>
  intro i s z au j f d;have e:i=n:=by omega
  subst e;show l6 zR ?_;rw[pD te _];change aR _ A.in1 (pyNext (.ref J)>>=_) _ _ s;show av<|W.done s _ _ j λs' c=>a7<|d s' (c.mono λb a=>eJ _ a) ?_
  let{es,ep,t,g,(more)}:=f.bE
  show{es,ep,t,c.heap aq _ ax g,more}
 |succ k E=>
  intro i s z au j f d;have m:i<n:=by omega
  show l6 zR ?_;rw[pD te _];change aR _ A.in1 (pyNext (.ref J)>>=_) _ _ s;show av<|W.item i s _ _ m j λv s' q D c=>?_;let{hp,(rfl)}:=B i v q;have r:k0 prog w s'.heap aq led (ek<|(dv i).map key):=by
   let{es,ep,t,g,(more)}:=f.bE
   show{es,ep,t,c.heap aq _ ax g,more}
  change aR _ A.in1 (qR [jW (key i) hp] (setAdd aq<|.int (key i) hp)>>=_) _ _ s';show av<|hj ?_;unfold setAdd;show hj<|av<|(R3 prog w).pyHash (k:=key i) (x4 (key i) hp) ?_;have hle:↥(ek<|(dv i).map key)<=i:=by have:=xG<|(dv i).map key;simpa using this
  show Xr (s:={s' with toks:=s'.toks+1}) r ∅ λb h' p x=>?_;have y:k0 prog w h' aq led (ek<|(dv<|i+1).map key):=by rw[wf,dX,tr,CA];show x
  show a7 {nN te _,E (i+1) _ ∅ m (W.frame _ s' _ _ D (jZ _) λb a o e=>?_) y λF C u=>?_}
  .rw[p.2 b λh:b=aq=>l<|by rw[<-h];show a];show e
  .show d F (Moved.trans W.gtrans ((c.mono λb a=>eJ _ a).then_heap (jZ _) λb o a e=>?_) C) u;rw[p.2 b λh:b=aq=>a<|by rw[h];show i1];show e
def Xp key(n:∀i v,items[i]? =I v->∃t,v=jW (key i) t)
  (m:A.handled=ag) (p:s.heap.IsList l items) (j:items.size+1<o')
  (h:∀h' tk,k0 prog w h' s⁻¹ (!fx w) (ek<|(dv items.size).map key)->(∀b o,s.heap.get? b=I o->h'.get? b=I o)->Q (.ref s⁻¹) {s with heap:=h',toks:=tk}):
  aR (aU prog w) A (call (.type "set") [.ref l]) Q E s:=IA _ m p (λB R J aj c r d O Y a f=>Xq ((FY (by simp[c]) J l r items).toS) s⁻¹ d key n j (items.size-0) 0 _ ∅ (cI _) {O,(Y)} ({#[],0,_,a,U8 _ 0 0,λe k=>by simp at k,by simp[ek]}) λs' q g=>f s' q g) h
end
section
variable{X:bO}
def vo(P:bS)(w:bL)(a:ao)(zs:List Int):(fR):=.ext λh=>k0 P w h a (!fx w) zs
def Xw(e:k0 P w h a (!fx w) zs):em P w H h a (vo P w a zs):=
 {e,(let{_,_,_,b,_}:=e.bE;{_,b}),λO Y q k=>by
  let{es,ep,t,b,(more)}:=q.bE
  show{es,ep,t,k _ b,more}}
inductive qsaiq(K:b9)(P:bS)(w:bL)(xs:List ab)(H:aP)(Q:dR):Prop|mk(a:ao)(l:List Int)(_:xs=[.ref a])(_:aB K H a (l.map ab.int))(_:↥l+1<4096)(_:∀p,H p=ag->Q (.ref p) (al H p<|vo P w p<|ek l))
def aiq(m:X.hf=aa):fz X (.type "set") (qsaiq X.K X.prog X.w):=by
 intro pins s σ H vs ay Q J r h;let{a,l,rfl,y,hlen,(q)}:=h
 let{aW,j,x,_}:=J.list y
 rw[bF.rA r];have c:=by have:=↥j;rw[bt]at this;show this.symm
 have n:∀i v,aW.toArray[i]? =I v->∃t,v=jW (l.getD i 0) t:=by
  intro i v z;have g:=‹z›
  have au:i<↥l:=c▸(ee.mp g).1;let{u,f,(A)}:=j.get (by rw[cO,cA au];rfl);rw[g]at f;cases f;let{t,(rfl)}:=A;show{t,by rw[pv,cA au];rfl}
 show Xp (λi=>l.getD i 0) n (J.ok.af m) x.isList (by rw[ed,c];show hlen) λh' tk d o=>?_;have k:(dv aW.toArray.size).map (λi=>l.getD i 0)=l:=by
  rw[ed,c];apply wn
  .simp
  .intro i O Y;simp at O⊢;grind
 rw[k]at d;show{.ref _,al H s⁻¹<|vo X.prog X.w s⁻¹<|ek l,J.gx (λb u e=>o b u e) (bA _)<|Xw d,D,q _<|J.a0.fresh<|bA _}
def aC.draws(J:aC X pins σ H s) d:aC X pins σ H {s with drawn:=d}:={J.ok,J.os,J.dV,J.base,J.fC,J.cell,J.free,J.hX,J.fM,J.a0,(J.len)}
def aio(l:X.hf=aa):fz X (.builtin "sorted") (λxs H Q=>∃(a:ao) (zs:List Int),xs=[.ref a]/\H a=I (vo X.prog X.w a zs)/\ac zs<64/\
  ∀p (ns:List Int),ns.Perm zs->ns.Pairwise (·<= ·)->H p=ag->Q (.ref p) (al H p<|.ai<|ns.map ab.int)):=by
 intro pins s σ H vs ay Q J r h;let{a,zs,rfl,b,i,(q)}:=h;rw[bF.rA r]
 let{k,_}:=J.a0 a _ b
 show W4 (J.ok.af l) k i λaq t h' tk d out e ns n o f m j g b=>?_;have c:=(J.fc (t':=s.toks) n).draws d;have hlen:↥(ns.map ab.int)<=bg:=by rw[bt,g.length_eq,cc];omega
 show{.ref aq,al H aq<|.ai<|ns.map ab.int,c.gx o f {hlen,out,e,Hl j,m},D,q aq ns g b<|c.a0.fresh f}
end
section
variable{X:bO}{K:b9}
def aau(e:X.K=K)(a:X.A.units+64<eW):eE X (compareOp .Lt) (KS K):=by subst e;show LQ a
def LR(e:X.K=K):eE X (compareOp .In) (B7 K ap):=by subst e;show rL
def uJ(e:X.K=K):sx X (KU K):=by subst e;show r0
def adc(e:X.K=K):sx X (KV K):=by subst e;show eB
def air(e:X.K=K):fz X (.type "list") (Zp K):=by subst e;show Ee
def Ll{k:Nat}{pos:Pos} n(e:X.K=K)(a:X.hf=aa)(h:vw X es t)(b:↥(qV es X.am)=n<|>zzr)(c:(qV es X.am).findIdx? (·.1)=ag<|>zzr):
  oT X (.Tuple es k pos) (N1 K n t):=by subst e;show ug a h b c
end
def mx:(Option Nat->Obj)
 |some r=>{cls:=.type "tuple",data:=.seq (GZ r .none) 0}
 |none=>{cls:=.none,data:=.freed}
def oi(cu:ao->Option Nat)(n:Nat):(bG):={objs:=(wA n).map λa=>mx<|cu a}
def Kt(h:(oi cu n).get? a=I o):∃r,a<n/\cu a=I r/\o=mx (I r):=by
 unfold Tv oi at h;by_cases b:a<n
 .have e:((wA n).map λa=>mx<|cu a)[a]? =I (mx<|cu a):=by simp[b]
  rw[e]at h;cases q:cu a with
  |none=>rw[q]at h;cases h
  |some r=>rw[q]at h;show{r,b,D,(d3 h).symm}
 .have e:((wA n).map λa=>mx<|cu a)[a]? =ag:=by simp[b]
  rw[e]at h;cases h
def Ku{n:Nat}{a:ao}(b:a<n)(h:cu a=I r):(oi cu n).get? a=I (mx<|I r):=by
 unfold Tv oi;have e:((wA n).map λa=>mx<|cu a)[a]? =I (mx<|cu a):=by simp[b]
 rw[e,h];rfl
section
variable{M:Model}{Γ:PySem.Ctx}
open Sem (wp)
def alA:wp M Γ (eqBool .none .none) Q E p s=Q aa p s:=by
 rfl
def CL:∀(l:List (az×az)) i p,(∀z∈l,z=(.none,.none))->
  wp M Γ (forIn (l.zipIdx i) (ag,fr) (λx r=>match x with
   |((p,q),i)=>do
    if !(<-eqBool p q)then(do let c<-oneLt' (b&&i==0) p q;pure (ForInStep.done (I c,fr)))else pure (wx (ag,fr)))) R E p s=R (ag,fr) p s
 |[],i,p,_=>by rfl
 |z::r,i,p,h=>by have e:=h z ();subst e;rw[List.zipIdx_cons,Ae,l9];show CL r (i+1) p λz hz=>h z (by simp[hz])
def NA(h:wp M Γ (tC v) Q E p s):∃a o xs n,(v= .ref a/\s.heap.get? a=I o/\o.data= .seq xs n/\Q xs p s):=by
 unfold tC at h;rw[l9]at h;unfold seqItems? at h;cases v with
 |ref a=>
  let{{c,d,e,(sl)},f,h}:=h
  cases e with
  |seq xs n=>show{a,_,xs,n,D,f,D,h}
  |_=>show h.elim
 |builtin id=>
  rw[l9]at h;have h:wp M Γ (if(withoutEnding? id "#opaque").isSome=aa then vQ id else pure fr) (λ_ pos' b=>wp M Γ (pure ag:Sem (Option<|Array az)) (λx pos' b=>wp M Γ (match x with|some xs=>pure xs|none=>vQ "internal:list-without-items") Q E pos' b) E pos' b) E p s:=h;split at h
  .show(h:False).elim
  .show(h:False).elim
 |_=>show(h:False).elim
def NB(b:s.heap.get? a=I o)(af:o.data= .seq xs n)(h:Q xs p s):wp M Γ (tC<|.ref a) Q E p s:=by
 unfold tC
 let{c,d,e,(sl)}:=o
 subst af;show{_,b,h}
def Ml r q:∀z∈(GZ r iW).toList.zip (GZ q iW).toList,z=(.none,.none):=by
 simp
def acC(a:s.heap.get? x=I (mx<|I r))(c:s.heap.get? y=I (mx<|I q))
  (h:Q (decide (r<q)) p s):wp M Γ (m5 (l3 b) (.ref x)<|.ref y) Q E p s:=by
 rw[kat_lt_eq,l9];show NB a D ?_;rw[l9];show NB c D ?_;rw[l9,CL _ _ _<|Ml r q,AB,AB];show h
def acB(k:s.heap=oi cu n)(h:wp M Γ (m5 (l3 b) x y) Q E p s):
  ∃a c r q,x= .ref a/\y= .ref c/\a<n/\c<n/\cu a=I r/\cu c=I q/\Q (decide (r<q)) p s:=by
 rw[kat_lt_eq,l9]at h;replace h:=NA h;let{a,o,xs,m,rfl,d,af,(h)}:=h;rw[l9]at h;replace h:=NA h;let{c,t,ys,l,rfl,e,hd2,(h)}:=h;rw[k]at d e;let{r,f,j,(rfl)}:=Kt d;let{q,g,i,(rfl)}:=Kt e;cases af;cases hd2;rw[l9,CL _ _ _<|Ml r q]at h;rw[AB,AB]at h;show{a,c,r,q,D,D,f,g,j,i,(h)}
def eO M Γ aj aA kd{α:Type}(t:StateT l8 Sem α):=∀st (Q:α×l8->bb->Prop) p a,gB st=kd->
 wp M Γ (t.run st) (λr _ s=>Q r s) (λ_ _ _=>False) p aj->wp M Γ (t.run st) (λr _ s=>s=aA/\gB r.2=kd/\Q r aj) (λ_ _ _=>False) a aA
variable{aj aA:bb}{kd:SortKind}
def ll(a:α):eO M Γ aj aA kd (pure a):=λst Q p c b h=>{D,b,(h)}
def mo{f:α->StateT l8 Sem b7}(O:eO M Γ aj aA kd t)(Y:∀a,eO M Γ aj aA kd<|f a):eO M Γ aj aA kd (t>>=f):=λst Q p b d h=>by
 rw[StateT.run_bind,l9]at h⊢;have c:=O st (λr s=>∃b,wp M Γ ((f r.1).run r.2) (λr _ s=>Q r s) (λ_ _ _=>False) b s) p b d<|s5 M Γ _ (λr p s q=>{p,(q)}) (λ_ _ _ q=>q) p aj h;show s5 M Γ _ (λr cQ s q=>?_) (λ_ _ _ q=>q) b aA c
 let{rfl,e,g,(q)}:=q
 show Y r.1 r.2 Q g cQ e q
def n8:eO M Γ aj aA kd get:=λst Q p b a h=>{D,a,(h)}
def UW(h:∀st,gB st=kd->eO M Γ aj aA kd (f st)):eO M Γ aj aA kd (get>>=f):=λst Q p b a q=>h st a st Q p b a q
def UR x(a:gB x=kd):eO M Γ aj aA kd (set x):=λst Q p c b h=>{D,a,(h)}
def mn(a:∀st,gB (f st)=gB st):eO M Γ aj aA kd (modify f):=λst Q p c b h=>{D,(a st).trans b,h}
def pJ x:eO M Γ aj aA kd (liftM<|jo x):=λst Q p b a h=>{D,a,(h)}
def n6 x:eO M Γ aj aA kd (liftM (vQ x):StateT l8 Sem α):=λst Q p b a h=>h.elim
def n7 [Decidable c](O:eO M Γ aj aA kd t)(Y:eO M Γ aj aA kd u):eO M Γ aj aA kd (if c then t else u):=by
 grind
def Hy{f:Nat->q->StateT l8 Sem (ForInStep q)}(h:∀i b,eO M Γ aj aA kd<|f i b):∀(l:List Nat) b,eO M Γ aj aA kd<|forIn l b f
 |[],b=>ll b
 |x::r,b=>by
  rw[Ae];show mo (h x b) λz=>?_;cases z with
  |done c=>show ll c
  |yield c=>show Hy h r c
def pM{f:Nat->q->StateT l8 Sem (ForInStep q)}(h:∀i b,eO M Γ aj aA kd<|f i b):eO M Γ aj aA kd (forIn [a:b] c f):=by rw[Std.Legacy.Range.forIn_eq_forIn_range'];show Hy h _ _
def nm mU i:eO M Γ aj aA kd (elem' mU i):=by
 rw[elem'_eq];split
 .show ll _
 .show n6 _
def UV(c0:∀x y (Q:Bool->bb->Prop) (E:az->bb->Prop) p b7,wp M Γ (m5 kd x y) (λb _ s=>Q b s) (λe _ s=>E e s) p aj->wp M Γ (m5 kd x y) (λb _ s=>s=aA/\Q b aj) (λ_ _ _=>False) b7 aA) x y:eO M Γ aj aA kd (lt' x y):=by
 intro st Q p b7 a h;have h:wp M Γ ((liftM (m5 (gB st) x.1 y.1).attempt>>=λr=>match r with
  |.ok b=>(pure (I b):StateT l8 Sem (Option Bool))
  |.error e=>(do modify λs=>s3 (gB s) (gE s) (pendingOf s) (gallopOf s)<|I e;return ag)).run st) (λr _ s=>Q r s) (λ_ _ _=>False) p aj:=h
 change wp M Γ ((liftM (m5 (gB st) x.1 y.1).attempt>>=λr=>match r with
  |.ok b=>(pure (I b):StateT l8 Sem (Option Bool))
  |.error e=>(do modify λs=>s3 (gB s) (gE s) (pendingOf s) (gallopOf s)<|I e;return ag)).run st) _ (λ_ _ _=>False) b7 aA
 rw[a]at h⊢;rw[StateT.run_bind,l9]at h⊢;have e:∀G p s,wp M Γ ((liftM (m5 kd x.1 y.1).attempt:StateT l8 Sem (Except az Bool)).run st) G (λ_ _ _=>False) p s=wp M Γ (m5 kd x.1 y.1) (λb p s=>G (.ok b,st) p s) (λe p s=>G (.error e,st) p s) p s:=by simp
 rw[e]at h⊢;have Y:=c0 x.1 y.1 (λb s=>∃p,wp M Γ ((pure (I b):StateT l8 Sem (Option Bool)).run st) (λr _ s=>Q r s) (λ_ _ _=>False) p s) (λ_ _=>True) p b7<|s5 M Γ _ (λb p s q=>{p,(q)}) (λ_ _ _ _=>trivial) p aj h;show s5 M Γ _ (λb cQ s q=>?_) (λ_ _ _ q=>q.elim) b7 aA Y
 let{rfl,c,(q)}:=q
 show{D,a,(q)}
def pK i j:eO M Γ aj aA kd (reverseSlice' i j):=mn λ_=>D
def pN i j:eO M Γ aj aA kd (moveDown' i j):=mn λ_=>D
def pL i:eO M Γ aj aA kd (setMinGallop' i):=mn λ_=>D
section
variable(c0:∀x y:Keyed,eO M Γ aj aA kd (lt' x y))
include c0
def AR i j:eO M Γ aj aA kd (ltAt' i j):=by
 rw[ltAt'_eq]
 repeat' (first|with_reducible show mo ?_ λ_=>?_|rfl|rfl|with_reducible show nm _ _|grind|with_reducible show n8|rfl|rfl|rfl|rfl|rfl|rfl|rfl|show λ_=>rfl|dsimp only|split)
def UX lo n:eO M Γ aj aA kd (countRun' lo n):=by
 rw[countRun'_eq]
 repeat' (first|(with_reducible first|show mo ?_ λ_=>?_|show ll _|show pM λ_ _=>?_|show nm _ _|show c0 _ _|show AR c0 _ _|show n8|show pJ _|show n6 _|show n7 ?_ ?_|show pK _ _|show pN _ _|show pL _|show mn ?_)|show λ_=>rfl|dsimp only|split)
def UY lo n ok:eO M Γ aj aA kd (binarySort' lo n ok):=by
 rw[binarySort'_eq]
 repeat' (first|(with_reducible first|show mo ?_ λ_=>?_|show ll _|show pM λ_ _=>?_|show nm _ _|show c0 _ _|show AR c0 _ _|show n8|show pJ _|show n6 _|show n7 ?_ ?_|show pK _ _|show pN _ _|show pL _|show mn ?_)|show λ_=>rfl|dsimp only|split)
def UZ left key mU base i:eO M Γ aj aA kd (beyond' left key mU base i):=by
 unfold beyond'
 repeat' (first|(with_reducible first|show mo ?_ λ_=>?_|show ll _|show nm _ _|show c0 _ _|show n7 ?_ ?_)|dsimp only|split)
def AS left key mU base n hint:eO M Γ aj aA kd (gallop' left key mU base n hint):=by
 rw[gallop'_eq]
 repeat' (first|(with_reducible first|show mo ?_ λ_=>?_|show ll _|show pM λ_ _=>?_|show UZ c0 _ _ _ _ _|show nm _ _|show c0 _ _|show AR c0 _ _|show n8|show pJ _|show n6 _|show n7 ?_ ?_|show pK _ _|show pN _ _|show pL _|show mn ?_)|show λ_=>rfl|dsimp only|split)
def US a b:eO M Γ aj aA kd (mergeLo' a b):=by
 rw[mergeLo'_eq]
 repeat' (first|(with_reducible first|show mo ?_ λ_=>?_|show ll _|show pM λ_ _=>?_|show nm _ _|show c0 _ _|show AS c0 _ _ _ _ _ _|show n8|show pJ _|show n6 _|show n7 ?_ ?_|show pK _ _|show pN _ _|show pL _|show mn ?_)|show λ_=>rfl|dsimp only|split)
def UT a b:eO M Γ aj aA kd (mergeHi' a b):=by
 rw[mergeHi'_eq]
 repeat' (first|(with_reducible first|show mo ?_ λ_=>?_|show ll _|show pM λ_ _=>?_|show nm _ _|show c0 _ _|show AS c0 _ _ _ _ _ _|show n8|show pJ _|show n6 _|show n7 ?_ ?_|show pK _ _|show pN _ _|show pL _|show mn ?_)|show λ_=>rfl|dsimp only|split)
def UU i:eO M Γ aj aA kd (mergeAt' i):=by
 rw[mergeAt'_eq];show UW λst a=>?_
 repeat' (first|(with_reducible first|show mo ?_ λ_=>?_|show ll _|show pM λ_ _=>?_|show nm _ _|show c0 _ _|show AS c0 _ _ _ _ _ _|show US c0 _ _|show UT c0 _ _|show n8|show pJ _|show n6 _|show n7 ?_ ?_|show pK _ _|show pN _ _|show pL _|show mn ?_)|show λ_=>rfl|with_reducible show UR _ a|dsimp only|split)
def UQ:eO M Γ aj aA kd sortRuns':=by
 rw[sortRuns'_eq]
 repeat' (first|(with_reducible first|show mo ?_ λ_=>?_|show ll _|show pM λ_ _=>?_|show nm _ _|show c0 _ _|show UX c0 _ _|show UY c0 _ _ _|show UU c0 _|show n8|show pJ _|show n6 _|show n7 ?_ ?_|show pK _ _|show pN _ _|show pL _|show mn ?_)|show λ_=>rfl|dsimp only|split)
end
end
section
variable{X:bO}
def Vy(tk gr:bD):(bD):=λσ H Q=>∀p,H p=ag->tk σ (al H p<|.cD []) λx an=>gr σ an λy aw=>∃b cZ,x= .ref b/\aw p=I (.cD [])/\aw b=I (.aZ<|cZ.map da)/\Q (.ref p) (al aw p<|.cD [(cZ,y)])
def ZW(N:X.A.units+1<eW)(t:aX X k tk)(C:aX X v gr):aX X (.Dict [I k] [v] pos) (Vy tk gr):=by
 intro pins s σ H Q J q;have w:=J.a0.fresh<|bA s⁻¹;have i:=J.gx (a:=s⁻¹) (o:=.cD []) (h':=s.heap.push {cls:=.type "dict",data:=.dict #[]}) (t':=s.toks) (λ_ _ q=>cB _ q) (bA _)<|afW s.heap J.PD;rw[arm_eval_Dict,zip_pairTrees [I k] [v] X.am pos D D,dictDisplay_pairs _ (by intro z;cases z) (by change 1<17;decide)];show av<|o3<|av ?_;unfold subDict;show av<|zl ?_;show av<|hj ?_;rw[aM (by change 1<=15;decide)];show av ?_;show pairTrees_cons_walk<|bp (t pins _ σ _ _ i<|q _ w) λu aj {x,an,j,L,(F)}=>bp (C pins aj σ an _ j F) λO aA {y,aw,d,M,(G)}=>pairTrees_nil_walk ?_;let{b,cZ,rfl,e,g,(K)}:=G;obtain rfl:u=cM b:=L;show hj ?_
 let{z,af,xs,e0,(l)}:=OO d.a0 e
 have E:xs=[]:=by cases e0;rfl
 subst E;show av ?_;rw[Ae];show av<|av<|wpAny_dictSet_heap (hsz:=cI _) (show X.A.units<eW by omega) (qb d.a0 g) l λh' m B=>a7 ?_;dsimp only;rw[List.forIn_nil];show a7<|a7<|a7<|a7 {.ref s⁻¹,_,?_,D,K}
 let{q,es,ep,h,Y,n,p,_,r}:=m
 show D0 d (by rw[e];show l7) B {q,(h)} {by change 1<=bg;decide,af,_,((jk.put (kvs:=[]) e0 cZ g M).keeps λc ys f=>?_),q,es,ep,h,Y,n,p,r};rw[aI<|cq f e λz=>nomatch z];show f
inductive qsait(xs:List ab)(H:aP)(Q:dR):Prop|mk(a kvs)(_:xs=[ab.ref a])(_:gX H a (.cD kvs))(_:Q (.int ↥kvs) H)
def ait:fz X (.builtin "len") qsait:=by
 intro pins s σ H xs ay Q J r h;let{a,kvs,rfl,e,(q)}:=h;let{u,rfl,(k)}:=n2 r;cases k
 let{z,af,xs,e0,o,es,ep,c,j,f,g,_}:=oH J.a0 e
 have b:s.TypeIs (.ref a) "dict":={o,c,(j.1)};have i:es.size=↥kvs:=by rw[Rs g,pn e0]
 rw[cc]at z;show Calls.call_function_entry kind_len plain_len entry_len (args_len1 _) ?_;unfold Builtin.«len»;show av (m:=oneArg "len" _)<|a7<|av ?_;show nL (name:=kz "__len__") b TC<|jT TC b F.entry_dict_len ?_<|F.args_dict_len_1 _;change aR _ _ (dictSize a>>=_) _ _ s;unfold dictSize;show av<|av<|sH c f<|a7 ?_;show av<|wpAny_pendingCount_other af<|wpAny_ret_mkInt ?_;have d:((es.size:Nat):Int)+((0:Nat):Int)=((↥kvs:Nat):Int):=by rw[i];omega
 rw[d];show av<|hj<|a7<|av<|Fz ?_;rw[aD ∅];rw[aD ∅];show av<|wpAny_mkInt<|a7 {_,D,.int ↥kvs,H,J.eL _,{_,D},q}
inductive qyVv(Q:dR)(x:ab)(an:aP):Prop|mk(d u)(_:x= .ref d)(_:an d=I u)(_:k3 (I u))(_:∀od,Q x<|al an d<|.cg od u)
def Vv(t:bD):(bD):=λσ H Q=>t σ H λx an=>qyVv Q x an
def ZU(h:aX X e t):aX X e (Vv t):=by
 intro pins s σ H Q J ax;show bp (h pins s σ H _ J ax) λv aj {x,an,a,r,(f)}=>?_
 let{d,u,_,af,c,q}:=f
 let{od,(b)}:=a.Df af c
 show{_,_,b,r,q od}
end
open PySem.W (Frag)
section
variable{ci:hY}{n:Nat}{g:iN}{eK:gA}{bW:bD}{vs:List Nat}{σ:St}{an:aP}{aq:ao}{ji:aP->Prop}
def QC(g:iN)(eK:gA)(bW:bD) vs σ x o U:=
 ∀d (e:aP->Prop),(∀y aw,o=I y->a4 U aw->aO aw->d y aw)->(∀aw,o=ag->a4 U aw->aO aw->e aw)->g x (ft σ vs) U λa aw=>ft a vs=ft σ vs/\eK a aw λb c=>if b=aa then bW a c d else e c
def acM(os:List (Option ab))(xs:List ab)(f:an aq=ag)(ak:aO an)(hz:ac os<=bg)
  (j:∀i U,i<ac os->a4 an U->ci.go i U) (l:∀U,a4 an U->ci.ib ↥os U)
  (n:∀i x U aw,a4 an U->ci.j6 i U x aw->aw=U/\xs[i]? =I x)
  (k:∀(i:Nat) x o U,xs[i]? =I x->os[i]? =I o->a4 an U->aO U->QC g eK bW vs σ x o U)
  (af:∀U,a4 an U->aO U->U aq=I (.ai<|os.filterMap id)->ji U):vA ci g eK bW vs σ an aq ji:=by
 show nv (λi H=>a4 an H/\aO H/\H aq=I (.ai<|jC os i)) {(a4.refl an).new f,ak.ai,by rw[ar,aao]} (λi H au p=>j i H au p.1) (λH p=>l H p.1) (λi x H U au p y=>?_) (λH p=>af H p.1 p.2.1<|by rw[<-LK];show p.2.2)
 let{aj,q,(d)}:=p
 let{rfl,(m)}:=n i x H U aj y
 let{o,(a)}:∃o,os[i]? =I o:={_,cA au}
 show k i x o _ m a aj q _ _ (λy aw e aA c=>?_) λaw e aA c=>?_
 .subst e;show{_,aA _ _ d,z3 (LJ os i)<|dW au hz,λb o h=>aI (b3 h f)▸aA _ _ (aj b o h),c.ai,by rw[ar,LH a]}
 .subst e;show{aj.trans aA,c,LI a▸aA _ _ d}
def acN dn(c:an d=I (.cg ob<|.bJ kvs))(f:an aq=ag)(ak:aO an)(hz:ac kvs<=bg)
  (j:∀(i:Nat) x U,kvs[i]? =I x->a4 an U->aO U->QC g eK bW vs σ (da x.1) (dn x) U) (af:∀U,a4 an U->aO U->U aq=I (.ai<|(kvs.map dn).filterMap id)->ji U):vA (E9 d ob kvs) g eK bW vs σ an aq ji:=by
 show acM (kvs.map dn) (kvs.map λx=>da x.1) f ak (by rw[bt];show hz) (λi U au s=>?_) (λU s=>?_) (λi x U aw s y=>?_) (λi x o U a b s n=>?_) af
 .rw[bt]at au;show{s _ _ c,au}
 .show{s _ _ c,()}
 .let{e,k,v,h,(rfl)}:=y;show{e,by rw[cO,h];rfl}
 .rw[cO]at a b;cases e:kvs[i]? with
  |none=>rw[e]at a;cases a
  |some z=>rw[e]at a b;cases a;cases b;show j i z U e s n
end
end L2
namespace L2
open PySem PySem.Spec PyProof.Rows
open Sem (wp)
def BX(cu:ao->Option Nat)(n:Nat):(az->Option Nat)
 |.ref a=>if a<n then cu a else ag
 |_=>ag
@[reducible] def t3 (cu:ao->Option Nat) (n:Nat):KeyKind where
 α:=Nat
 blt a b:=decide (a<b)
 irrefl a:=by simp
 trans a b c O Y:=by simp at O Y⊢;omega
 negTrans a b c h:=by simp at h⊢;omega
 total a b O Y:=by simp at O Y;omega
 keyOf:=BX cu n
 dflt:=0
def Kv(h:BX cu n v=I r):∃a,v= .ref a/\a<n/\cu a=I r:=by unfold BX at h;grind
section
variable{prog:bS}{w:bL}{A:db}{E:az->bb->Prop}{s:bb}{cu:ao->Option Nat}{n:Nat}{b:Bool}
def Y0(a:s.heap=oi cu n):G.LtAt prog w s (t3 cu n) (l3 b):=by intro A E x y r q Q c f h;let{x,rfl,d,(e)}:=Kv c;let{y,rfl,g,(i)}:=Kv f;intro Γ p _;show acC (a▸Ku d e) (a▸Ku g i) h
def YR{a₀:Array Keyed}(v:∀(x y:ao) r q,x<n->y<n->cu x=I r->cu y=I q->aR (aU prog w) A (m5 (l3 b) (.ref x)<|.ref y) (λc s'=>s'=s/\c=decide (r<q)) (λ_ _=>False) s)
  (m:∀p∈a₀.toList,∃x r,p.1= .ref x/\x<n/\cu x=I r) (Y:2<=a₀.size):
  wpS (aU prog w) A E s sortRuns' (λ_ d=>(gE d).Perm a₀/\FR d=ag/\SortedToK (t3 cu n) (gE d) a₀.size) (s3 (l3 b) a₀ #[] 7 ag):=by
 intro Γ p g;have O:=G.wpS_sortRunsSt (prog:=prog) (w:=w) (A:=A) (E:=λ_ _=>False) (s:={s with heap:=oi cu n}) (κ:=t3 cu n) (kd:=l3 b) (a₀:=a₀) (st:=s3 (l3 b) a₀ #[] 7 ag)
  (Q:=λ_ d=>(gE d).Perm a₀/\FR d=ag/\SortedToK (t3 cu n) (gE d) a₀.size) (Y0 D) (λp B=>by let{x,r,e,F,(f)}:=m p B;show{r,by rw[e];change(if x<n then cu x else ag)=I r;rw[aM F,f]})
  {Array.Perm.refl _,D,D} D (Stable.refl _) Y (λd j k l _=>{j,k,(l)}) Γ p g
 have o:=UQ (M:=aU prog w) (Γ:=Γ) (aj:={s with heap:=oi cu n}) (aA:=s) (kd:=l3 b) (UV λx y Q E p i h=>?_) (s3 (l3 b) a₀ #[] 7 ag) _ p p D O
 .show s5 _ Γ _ (λr p s' q=>?_) (λ_ _ _ q=>q.elim) p s o;show{q.1,(q.2.2.2)}
 .let{a,c,r,q,rfl,rfl,t,u,f,C,(h)}:=acB (cu:=cu) (n:=n) D h;show s5 _ Γ _ (λc p s' z=>?_) (λ_ _ _ z=>z) i s<|v a c r q t u f C Γ i g;grind
end
end L2
namespace L2
open PySem PySem.Spec PyProof.Rows PySem.W
open PySem.SeqAt
section
variable{prog:bS}{w:bL}{A:db}{E:az->bb->Prop}{s:bb}{Q:Bool->bb->Prop}
def aax(h:su A s p q c)(a:Q c s):aR (aU prog w) A (oneLt' ap p q) Q E s:=av<|h prog w E _<|m3 a
def Nh:∀xs ys vs ws as b' i,1<=i->v4 s.heap vs xs as->v4 s.heap ws ys b'->gQ xs ys=aa->fY xs=aa->fY ys=aa->
  A.units+min (f' xs) (f' ys)<eW->Q (f6 xs ys) s->KatLex prog w A b (decide (ac xs<ac ys)) Q (vs.zip ws) i s
 |[],[],_,_,_,_,i,_,b7,eq,_,_,_,_,h=>by cases b7;cases eq;show h
 |[],_::_,_,_,_,_,i,_,b7,eq,_,_,_,_,h=>by cases b7;show h
 |_::_,[],_,_,_,_,i,_,b7,eq,_,_,_,_,h=>by cases eq;rw[List.zip_nil_right];show h
 |x::xs,y::ys,_,_,_,_,i,au,b7,eq,is,go,gt,fD,h=>by
  have e7:x.canLay0=aa/\fY xs=aa:=by simpa[fY]using go
  have a:y.canLay0=aa/\fY ys=aa:=by simpa[fY]using gt
  have d:dH x y=aa/\gQ xs ys=aa:=by simpa[gQ]using is
  have f:decide (↥(x::xs)<↥(y::ys))=decide (ac xs<ac ys):=by simp
  rw[f',f']at fD;have e:A.units+min x.depth y.depth<eW:=Nat.lt_of_le_of_lt (Nat.add_le_add_left (Nat.le_min.mpr {Nat.le_trans (Nat.min_le_left _ _) (Nat.le_max_left _ _),Nat.le_trans (Nat.min_le_right _ _) (Nat.le_max_left _ _)}) _) fD
  have g:A.units+min (f' xs) (f' ys)<eW:=Nat.lt_of_le_of_lt (Nat.add_le_add_left (Nat.le_min.mpr {Nat.le_trans (Nat.min_le_left _ _) (Nat.le_max_right _ _),Nat.le_trans (Nat.min_le_right _ _) (Nat.le_max_right _ _)}) _) fD
  cases b7 with
  | @cons v vs _ _ j k r rs=>
   cases eq with
   | @cons u ay _ _ l m q dY=>
    rw[SN,f];rw[f6]at h;show eqAt_reads x y A s v u _ _ r q e7.1 a.1 e prog w _ _ ?_;cases c:fJ x y with
    |true=>rw[c,aM D]at h;rw[aM D];show Nh xs ys vs ay _ _ (i+1) ∅ rs dY d.2 e7.2 a.2 g h
    |false=>
     rw[c,aD ⋯]at h;rw[aD ⋯];have hz:(b&&i==0)=ap:=by
      have:(i==0)=ap:=by rw[k9];omega
      rw[this,tE]
     rw[hz];show aax (Db x y A s v u _ _ r q d.1 e7.1 a.1 e) h
def r1:(eX->Bool)
 |.tuple (.int _::_)=>aa
 |_=>ap
def ac8(L:ph s.heap x d as)(M:ph s.heap y e b')(af:r1 d=aa)(C:r1 e=aa)(lk:dH d e=aa)(ch:d.canLay0=aa)(p:e.canLay0=aa)(G:A.units+min d.depth e.depth<eW)
  (h:Q (gP d e) s):aR (aU prog w) A (m5 (l3 aa) x y) Q E s:=by
 match d,e,af,C with
 |.tuple (.int n::a3),.tuple<|.int m::es,_,_=>
  cases L with
  | @tuple a o vs k _ _ O Y B c=>
   cases M with
   | @tuple N bX g P _ _ g1 g2 g3 b=>
    show kat_lt O B g1 g3 ?_;have J:vs.size=↥(zT n::a3):=‹s7 _ _ _ c›
    have K:g.size=↥(zT m::es):=‹s7 _ _ _ b›
    rw[J,K];have F:gQ a3 es=aa:=by
     have:(dH (.int n) (.int m)&&gQ a3 es)=aa:=by simpa[dHt,dHi,gQ]using lk
     show(wz.mp this).2
    have i:fY a3=aa:=by simpa[pm,fY]using ch
    have j:fY es=aa:=by simpa[pm,fY]using p
    have H:A.units+min (f' a3) (f' es)<eW:=by
     have v:(Sp<|.int n::a3).depth=f' a3+1:=by simp[pl,f']
     have z:(Sp<|.int m::es).depth=f' es+1:=by simp[pl,f']
     rw[v,z]at G;omega
    generalize vs.toList=l at c;generalize g.toList=R at b;cases c with
    |cons r rs=>
     cases b with
     |cons q dY=>
      rw[SN,show decide (↥(zT n::a3)<↥(zT m::es))=decide (↥a3<↥es) by simp];rw[gPt,f6]at h;show eqAt_reads (.int n) (.int m) A s _ _ _ _ r q D D (by simp[pl];omega) prog w _ _ ?_;cases f:fJ (.int n) (.int m)with
      |true=>rw[f,aM D]at h;rw[aM D];show Nh a3 es _ _ _ _ 1 (bA _) rs dY F i j H h
      |false=>
       rw[f,aD ⋯]at h;rw[aD ⋯];cases r with
       |int _ t=>
        cases q with
        |int _ u=>show oneLt_int h
def ac2{vs:List az}(a3:List eX)(b:ac a3=ac vs)(z:0<ac vs)(c:∀(i:Nat) v d,vs[i]? =I v->a3[i]? =I d->r1 d=aa/\∃as,ph s.heap v d as)(h:R (l3 aa) s):
  aR (aU prog w) A (keyKind' vs.toArray) R E s:=by
 have key:∀(vs:List az) (a3:List eX),ac a3=ac vs->(∀(i:Nat) v d,vs[i]? =I v->a3[i]? =I d->r1 d=aa/\∃as,ph s.heap v d as)->∃aF,ac aF=ac vs/\KatTups s.heap vs aF/\∀f∈aF,∃n t,f=jW n t:=by
  intro vs;induction vs with
  |nil=>intro a3 _ _;show{[],D,KatTups.nil,()}
  |cons v vs y=>
   intro a3 b c;cases a3 with
   |nil=>simp at b
   |cons d a3=>
    let{aF,O,Y,(e)}:=y a3 ‹b› λi v d p q=>c (i+1) v d p q
    let{u,as,(bM)}:=c 0 v d D D
    match d,u with
    |.tuple (.int n::es),_=>
     cases bM with
     | @tuple a o ay k _ _ g1 g2 g3 m=>
      have j:∃t rest,ay.toList=jW n t::rest:=by
       generalize ay.toList=l at m;cases m with
       |cons r rs=>cases r with|int _ t=>show{t,_,D}
      let{t,rest,(j)}:=j
      show{jW n t::aF,by simp[O],KatTups.cons g1 g2 g3 ?_ Y,λf g=>?_}
      .rw[<-j5,j];rfl
      .obtain rfl|g:=bK.mp g
       .show{n,t,(rfl)}
       .show e f g
 let{aF,O,Y,(e)}:=key vs a3 b c
 show kat_kind (T:=ix "int") Y ∅ (λv x=>?_) D ?_
 .let{n,t,(rfl)}:=e v x;show Looks.of_pure D
 .show h
end
section
variable{X:bO}{pins:List (ao×Obj)}{σ:St}{H:aP}{s:bb}{be:db}{E:az->bb->Prop}
variable{k:Nat}{f:ao}{bk:eS}{ps:List Str}{br:bC}
def YT(F:c6 X.prog X.w X.K X.mg X.base (cL X.prog X.w) k f bk ps br)(j:c2 k be)(g:be.frames=X.A.frames)(d:f9 X.K bk ps [])(J:aC X pins σ H s)(r:bF vs ay)(h:br vs H Q iu):
  aR (aU X.prog X.w) be (call (.ref f) ay) (f8 X pins σ Q) (λ_ _=>False) s:=by
 have i:↥(ay++[])=↥ps:=by rw[gI,<-↥r];show F.len _ _ _ _ h
 have a:=J.yg;have c:=d s ay J.e5 i;rw[gI]at c;show o7<|jU (F.run be X.stack s H {ay,[]} ay vs Q iu j {g.trans a.frames,a.f5,a.b',a.lM,a.jG,a.mK,a.a0,a.dV} c r h) λr s' b=>?_;cases r with
 |error e=>
  let{_,_,_,_,_,_,_,z}:=b
  show z.elim
 |ok cv=>
  cases cv with
  |ret u=>show J.after b
  |next=>show gJ b
  |brk=>show gJ b
  |cont=>show gJ b
def aC.ai4(J:aC X pins σ H s)(fp:gi X pins H a)(new:em X.prog X.w (al H a o) s.heap a o):aC X pins σ (al H a o) s:=by
 let{d,f1,f2,i,j,(k)}:=fp
 show{J.ok,J.os,J.dV,{J.base.keep,J.base.slot,λb ob e n h=>?_,J.base.there,λb xs e=>?_,λb ob u e=>?_,λb ps e=>?_},J.fC,J.cell,?_,λx c e=>?_,λp g=>?_,λb ob e=>?_,J.len}
 .have:b≠a:=λz=>by
   obtain q|q:=i
   .show h<|z▸q
   .show absurd (cm e)<|Gn.mpr<|z▸q
  show aI this▸J.base.free b ob e n h
 .have q:=J.base.gL b xs e;rw[aI<|b3 q d];show q
 .have q:=J.base.hw b ob u e;rw[aI<|b3 q d];show q
 .let{m,(q)}:=J.base.ia b ps e
  show{m,by rw[aI<|b3 q d];show q}
 .show aI (eo f1)▸J.free
 .rw[aI<|j x c e];show J.hX x c e
 .let{e,n,(r)}:=J.fM p g
  show{e,aI (k p g)▸n,r}
 .by_cases f:b=a
  .subst f;rw[ar]at e;cases e;show new
  .rw[aI f]at e;show(J.a0 b ob e).hq (λc v _ q=>q) (λc q=>by rw[aI<|b3 q d];show q) λc xs q=>by rw[aI<|b3 q d];show q
def gi.dO(h:gi X pins H a)(e:U a=ag):gi X pins U a:={e,(h.2)}
def ui{B C:Type} g:∀{l:List B} {m:List C},m.Perm (l.map g)->∃c:List B,c.Perm l/\c.map g=m:=by
 intro l m h;have key:∀{m n:List C},m.Perm n->∀l,n=l.map g->∃c:List B,c.Perm l/\c.map g=m:=by
  intro m n h;induction h with
  |nil=>simp
  |cons x _ o=>
   intro l e;cases l with
   |nil=>simp at e
   |cons a r=>
    injection e with f d
    let{c,O,(Y)}:=o r d
    show{a::c,O.cons a,by rw[cx,Y,f]}
  |swap x y t=>
   intro l e;match l,e with
   |a::b::r,e=>
    injection e with f d
    injection d with d i
    show{b::a::r,GK a b r,by rw[cx,cx,f,d,i]}
  |trans _ _ p q=>
   intro l e
   let{d8,O,(Y)}:=q l e
   let{s,j,(k)}:=p d8 Y.symm
   show{s,j.trans O,k}
 show key h l D
end
mutual
theorem OT{K:b9}{H U:aP}(s:a4 H U):∀{v:ab} {d:eX},dS K H v d->dS K U v d
 |_,_,.bT=>.bT
 |_,_,.a1 b=>.a1 b
 |_,_,.int i=>.int i
 |_,_,.str x=>.str x
 |_,_,.ai h t=>.ai (s.seq h)<|DX s t
 |_,_,.aZ h t=>.aZ (h.elim (λz=>.inl<|z.elim (λz=>.inl<|s _ _ z) λ{o,(z)}=>.inr {o,s _ _ z}) .inr)<|DX s t
theorem DX{K:b9}{H U:aP}(s:a4 H U):∀{vs:List ab} {a3:List eX},iv K H vs a3->iv K U vs a3
 |_,_,.nil=>.nil
 |_,_,.cons h t=>.cons (OT s h)<|DX s t
end
structure oU(K:b9)(br:bC)(H:aP)(xs:List ab)(a3:List eX)(cu:Nat->Nat):Prop where
 len:↥a3=↥xs
 call:∀(i:Nat) x d U,xs[i]? =I x->a3[i]? =I d->a4 H U->aO U->br [x] U (λv aw=>∃q,v= .ref q/\U q=ag/\aw q≠ag/\a4 U aw/\aO aw/\dS K aw v d) iu
 key:∀d∈a3,r1 d=aa/\kA d=aa
 lk:∀d∈a3,∀e∈a3,dH d e=aa
 t6:∀(i j:Nat) d e,a3[i]? =I d->a3[j]? =I e->gP d e=decide (cu i<cu j)
def qt cu xs ys:=∃ps:List (Nat×ab),ps.Perm (((dv ↥xs).map cu).zip xs)/\ys=ps.map (·.2)/\ps.Pairwise λp q=>p.1<=q.1
section
variable{X:bO}{pins:List (ao×Obj)}{σ:St}{H:aP}{s:bb}{be:db}{E:az->bb->Prop}
variable{k:Nat}{f:ao}{bk:eS}{ps:List Str}{br:bC}
structure sw(X:bO)(pins:List (ao×Obj))(σ:St)(H:aP)(a Nx:ao)(afU:Nat)(a3:List eX)(i:Nat)(s':bb)(U:aP)(cZ:List ao)(Ny:Array az)(e:Nat):Prop where
 r2:aC X pins σ U s'
 same:a4 H U
 eU:aO U
 cr:gi X pins U a
 qh:gi X pins U Nx
 rQ:s'.heap.get? a=I (hF "list" #[] afU)
 ok:s'.heap.get? Nx=I (hF "list" Ny e)
 mU:Ny.toList=cZ.map cM
 len:↥cZ=i
 aJ:cZ.Nodup
 jI:∀(j:Nat) q d,cZ[j]? =I q->a3[j]? =I d->dS X.K U (.ref q) d
 iD:∀q∈cZ,U q≠ag
def ac1(T:b7≠a)(F:c6 X.prog X.w X.K X.mg X.base (cL X.prog X.w) k f bk ps br)(M:c2 k be)(y:be.frames=X.A.frames)(g:f9 X.K bk ps [])
  (kd:oU X.K br H xs a3 cu) (hz:ac xs<=bg) (c:sw X pins σ H a b7 dY a3 i s' U cZ eq e) (p:xs[i]? =I v) (Q:cb v x)
   (h:∀q aA aw,sw X pins σ H a b7 dY a3 i aA aw cZ eq e->aw q≠ag->q∉cZ->(∀d,a3[i]? =I d->dS X.K aw (.ref q) d)->R (.ok<|.ref q) aA):
  aR (aU X.prog X.w) be (call (.ref f) [x]).attempt R E s':=by
 have au:=(ee.mp p).1
 let{d,(af)}:∃d,a3[i]? =I d:={_,cA<|kd.len▸au}
 have B:∀b∈[a,b7],gi X pins U b:=λb g=>by
  have m:=‹g›
  obtain rfl|rfl:=m
  .show c.cr
  .show c.qh
 have D:∀b∈[a,b7],∃o,s'.heap.get? b=I o/\∀v,o.data≠ .cell v:=λb g=>by
  have m:b=a\/b=b7:=‹g›
  obtain rfl|rfl:=m
  .show{_,c.rQ,λv z=>nomatch z}
  .show{_,c.ok,λv z=>nomatch z}
 have t:=c.r2.Cg B D;show o8<|fA (YT F M y g t (.cons Q .nil)<|kd.call i v d U p af c.same c.eU) (λu aA q=>?_) λ_ _ z=>z.elim;let{V,aw,l,P,n,rfl,J,L,fU,N,(jI)}:=q;obtain rfl:u=cM n:=P;have r:=l.fM _<|j3 _<|j3 _<|uA (fp:=[a,b7]) () c.rQ;have s:=l.fM _<|j3 _<|j3 _<|uA () c.ok;show h n aA aw {l.tI,c.same.trans fU,N,c.cr.dO r.2.1,c.qh.dO s.2.1,r.1,s.1,c.mU,c.len,c.aJ,λj q d O Y=>OT fU<|c.jI j q d O Y,λq G z=>c.iD q G<|fU.free z} L (λC=>c.iD n C J) λfD S=>?_;grind
end
section
variable{X:bO}{pins:List (ao×Obj)}{σ:St}{H:aP}{s:bb}{be:db}{E:az->bb->Prop}
def Ig{st:l8}(p:b7≠a)(c:sw X pins σ H a b7 dY a3 i s U cZ e7 e)(n:e7.size<=bg)(m:FR st=ag)
  (h:bF ys ((gE st).map (·.2)).toList) (hz:↥ys<=bg) (fin:∀s',aC X pins σ (al U a<|.ai ys) s'->eq (.done<|.ret .none) s'):
  aR (aU X.prog X.w) be (ksk_tail a ap dY (.ref b7) st) eq E s:=by
 have r:=hz;rw[cc]at r;have hlen:((gE st).map (·.2)).size=↥ys:=by rw[↥h,n0]
 have aj:=mf s.heap b7<|ga λ_=>(#[]:Array az);have g:(s.heap.update b7<|ga λ_=>(#[]:Array az)).get? a=I (hF "list" #[] dY):=(aj.2 a p.symm).trans c.rQ;have aA:=mf (s.heap.update b7<|ga λ_=>(#[]:Array az)) a (ga λ_=>(gE st).map (·.2))
 let{f,(l)}:∃f,((s.heap.update b7<|ga λ_=>(#[]:Array az)).update a (ga λ_=>(gE st).map (·.2))).get? a=I (hF "list" ((gE st).map (·.2)) f):={_,FQ g _}
 unfold ksk_tail;try dsimp only
 show av<|zx c.ok D ?_ n<|cI _;show av<|Fz ?_;show av<|seqEpoch_at g D ?_;show av (zx g D ?_ (cI _) (by change((gE st).map (·.2)).size<=_;rw[hlen,cc];omega));rw[m];simp only[bne_self_eq_false,pC,ku];show a7<|fin _ ?_;have j:aC X pins σ U {s with heap:=(s.heap.update b7<|ga λ_=>(#[]:Array az)).update a (ga λ_=>(gE st).map (·.2))}:=c.r2.wO (t':=s.toks) (bU:=[a,b7]) (λb o d q=>by
   have O:b≠a:=λz=>d (by simp[z]);have Y:b≠b7:=λz=>d (by simp[z]);show(aA.2 b O).trans<|(aj.2 b Y).trans q) (λb d=>by
   have k:b=a\/b=b7:=‹d›
   obtain rfl|rfl:=k
   .show c.cr
   .show c.qh)
 show j.ai4 c.cr {hz,((gE st).map (·.2)).toList,f,h,by rw[GX];show l}
end
def ka:(List Nat->List ab->List ao->List az->List (Nat×ab×ao×az))
 |r::rs,x::xs,q::dY,u::ay=>(r,x,q,u)::ka rs xs dY ay
 |_,_,_,_=>[]
def BR:∀{rs:List Nat} {xs:List ab} {dY:List ao} {ay:List az} {t:Nat×ab×ao×az},t∈ka rs xs dY ay->∃i:Nat,rs[i]? =I t.1/\xs[i]? =I t.2.1/\dY[i]? =I t.2.2.1/\ay[i]? =I t.2.2.2
 |[],_,_,_,_,h=>(h6 h).elim
 |_::_,[],_,_,_,h=>(h6 h).elim
 |_::_,_::_,[],_,_,h=>(h6 h).elim
 |_::_,_::_,_::_,[],_,h=>(h6 h).elim
 |r::rs,x::xs,q::dY,u::ay,t,h=>by
  obtain rfl|h:=bK.mp h
  .show{0,D,D,D,(rfl)}
  .let{i,O,Y,a,(b)}:=BR h
   show{i+1,O,Y,a,b}
def Kq:∀{rs:List Nat} {xs:List ab} {dY:List ao} {ay:List az},ac rs=ac xs->ac dY=ac xs->ac ay=ac xs->(ka rs xs dY ay).map (λt=>(t.1,t.2.1))=rs.zip xs/\(ka rs xs dY ay).map (λt=>(cM t.2.2.1,t.2.2.2))=(dY.map cM).zip ay
 |[],[],[],[],_,_,_=>{D,(rfl)}
 |[],[],[],_::_,_,_,h=>by simp at h
 |[],[],_::_,_,_,h,_=>by simp at h
 |[],_::_,_,_,h,_,_=>by simp at h
 |_::_,[],_,_,h,_,_=>by simp at h
 |_::_,_::_,[],_,_,h,_=>by simp at h
 |_::_,_::_,_::_,[],_,_,h=>by simp at h
 |r::rs,x::xs,q::dY,u::ay,O,Y,e7=>by let{b7,(eq)}:=Kq ‹O› ‹Y› ‹e7›;show{gC (List.cons _) b7,gC (List.cons _) eq}
def Dz:∀{cZ:List ao} {i:Nat} {q:ao},cZ.Nodup->cZ[i]? =I q->cZ.findIdx? (λz=>z==q)=I i
 |[],_,_,_,h=>by simp at h
 |a::r,0,q,_,h=>by
  have e:=‹h›
  subst e;rw[Tc,nQ];rfl
 |a::r,i+1,q,b,h=>by
  have h':=‹h›
  rw[pq]at b;have bI:(a==q)=ap:=by rw[k9];show λz=>b.1<|z▸d5 h'
  rw[Tc,bI,Dz b.2 h'];rfl
def x6{cZ:List ao}(h:cZ.findIdx? (λz=>z==q)=I i):cZ[i]? =I q:=by rw[Tb]at h;grind
def AL:∀{xs:List ab} {ay:List az},ac xs=ac ay->(∀(i:Nat) x u,xs[i]? =I x->ay[i]? =I u->cb x u)->bF xs ay
 |[],[],_,_=>.nil
 |[],_::_,h,_=>by simp at h
 |_::_,[],h,_=>by simp at h
 |x::xs,u::ay,h,k=>.cons (k 0 x u D D)<|AL (by grind) λi x u O Y=>k (i+1) x u O Y
section
variable{X:bO}{pins:List (ao×Obj)}{σ:St}{H:aP}{s:bb}{be:db}{E:az->bb->Prop}{br:bC}
def Xa(W:e7≠a)(aB:be.units+64<eW)(kd:oU X.K br H xs a3 cu)(hz:↥xs<=bg)(R:bF xs vs)
  (c:sw X pins σ H a e7 eq a3 ↥xs s U cZ b7 e) (fin:∀s' ys,aC X pins σ (al U a<|.ai ys) s'->qt cu xs ys->fD (.done<|.ret .none) s'):
  aR (aU X.prog X.w) be (ksk_end a ap vs.toArray eq (.ref e7) b7) fD E s:=by
 have B:↥vs=↥xs:=R.length.symm;have L:b7=(cZ.map cM).toArray:=by rw[<-c.mU,GX]
 have G:b7.size=↥xs:=by rw[L,ed,bt,c.len]
 have N:(b7.zip vs.toArray).toList=(cZ.map cM).zip vs:=by rw[L];simp
 have ad:↥((dv ↥xs).map cu)=↥xs:=by simp
 let{ak,(L2)}:=Kq (rs:=(dv ↥xs).map cu) (xs:=xs) (dY:=cZ) (ay:=vs) ad c.len B
 have lift:∀(S:List Keyed),S.Perm ((cZ.map cM).zip vs)->∃f:List (Nat×ab×ao×az),f.Perm (ka ((dv ↥xs).map cu) xs cZ vs)/\f.map (λt=>((cM t.2.2.1,t.2.2.2):Keyed))=S:=λS h=>ui _ (by rw[L2];show h);have aK:∀(f:List (Nat×ab×ao×az)),f.Perm (ka ((dv ↥xs).map cu) xs cZ vs)->bF (f.map λt=>t.2.1) (f.map λt=>t.2.2.2):=λf h=>by
  show AL () λi x u O Y=>?_;rw[cO]at O Y;cases e:f[i]? with
  |none=>rw[e]at O;cases O
  |some t=>
   rw[e]at O Y;cases O;cases Y
   let{j,_,g2,_,V}:=BR<|h.mem_iff.mp<|d5 e
   let{aP,ae,(aL)}:=R.get g2
   rw[V]at ae;cases ae;show aL
 unfold ksk_end;dsimp only;rw[aD eY];by_cases Y:vs.toArray.size<2
 .rw[aM Y,aM Y];show av<|a7 ?_;rw[StateT.run_pure];show av<|a7 ?_;dsimp only;rw[aD eY];show Ig (ys:=xs) W c (by rw[G];show hz) D ?_ hz λs' M=>fin s' xs M ?_
  .have:((gE<|s3 general' (b7.zip vs.toArray) #[] 7 ag).map (·.2)).toList=vs:=by
    change((b7.zip vs.toArray).map (·.2)).toList=vs;rw[TQ,N,tq];rw[bt,c.len,B];show bA _
   rw[this];show R
  .show{((dv ↥xs).map cu).zip xs,wu _,(tq<|by rw[ad];show bA _).symm,?_};rw[ed,B]at Y;match xs,Y with
   |[],_=>simp
   |[x],_=>simp
   |_::_::_,Y=>simp only[cz]at Y;omega
 .rw[aD Y,aD Y];rw[ed,B]at Y;have aO:2<=↥xs:=by omega
  rw[aD eY];have bM:∀(i:Nat) q d,cZ[i]? =I q->a3[i]? =I d->∃as,ph s.heap (.ref q) d as:=λi q d O Y=>dS.nr c.r2 d (.ref q) (.ref q) (c.jI i q d O Y) D;have T:∀(i:Nat) q,cZ[i]? =I q->∃d,a3[i]? =I d:=λi q O=>{_,cA<|by rw[kd.len,<-c.len];show(ee.mp O).1};show av ?_;rw[L];show ac2 a3 (by rw[bt,c.len,kd.len]) (by rw[bt,c.len];omega) (λi v d O Y=>?_) ?_
  .rw[cO]at O;cases e:cZ[i]? with
   |none=>rw[e]at O;cases O
   |some q=>rw[e]at O;cases O;show{(kd.key d<|d5 Y).1,bM i q d e Y}
  rw[<-L];have runs:=YR (prog:=X.prog) (w:=X.w) (A:=be) (E:=E) (s:=s) (cu:=λq=>(cZ.findIdx? λz=>z==q).map cu) (n:=s⁻¹) (b:=aa) (a₀:=b7.zip vs.toArray) (λx y r q _ _ C k=>?_) (λp h=>?_) (by rw[GY,G,ed,B];omega)
  .show av<|fA runs ?_ λ_ _ e=>e;rintro⟨⟨⟩,F⟩ s' ⟨rfl,h,ar,aA⟩;dsimp only
   let{f,Q,(cQ)}:=lift (gE F).toList (by rw[<-N];show Array.perm_iff_toList_perm.mp h)
   have Z:↥f=↥xs:=by
    have eq:=gC ac cQ;rw[bt]at eq;have am:(gE F).toList.length=(gE F).size:=n0;have an:(gE F).size=(b7.zip vs.toArray).size:=h.size_eq;have aq:(b7.zip vs.toArray).size=↥xs:=by rw[GY,G,ed,B,wa]
    show eq.trans<|am.trans<|an.trans aq
   show Ig (ys:=f.map λt=>t.2.1) W c (by rw[G];show hz) ar ?_ (by rw[bt,Z];show hz) λaN M=>fin aN _ M ?_
   .rw[TQ,<-cQ,dh];show aK f Q
   .show{f.map λt=>(t.1,t.2.1),by rw[<-ak];show Q.map _,by rw[dh];rfl,?_};rw[wh,SV];intro i j au l aw;have hsz:(b7.zip vs.toArray).size=↥xs:=by rw[GY,G,ed,B,wa]
    have q:=aA i j (po aw) (by rw[hsz,<-Z];show l);have aj:∀(i:Nat) (au:i<↥f),KK (t3 (λq=>(cZ.findIdx? λz=>z==q).map cu) s'⁻¹) (gE F) i=f[i].1:=by
     intro i au;unfold KK;have eq:(gE F)[i]? =I (cM f[i].2.2.1,f[i].2.2.2):=by rw[<-j5,<-cQ,cO,cA au];rfl
     rw[eq]
     let{m,g1,g2,g3,(V)}:=BR<|Q.mem_iff.mp<|wl au
     have ax:f[i].2.2.1<s'⁻¹:=by
      cases z:U f[i].2.2.1 with
      |none=>show absurd z<|c.iD _<|d5 g3
      |some o=>show c.r2.a0.lt z
     change((if f[i].2.2.1<s'⁻¹ then(cZ.findIdx? λz=>z==f[i].2.2.1).map cu else ag).getD 0)=_;rw[aM ax,Dz c.aJ g3];rw[cO]at g1;cases g:(dv ↥xs)[m]? with
     |none=>rw[g]at g1;cases g1
     |some aF=>
      rw[g]at g1;have:aF=m:=by
       let{_,e}:=ee.mp g
       rw[<-e,S7]
      subst this;show d3 g1
    rw[aj i au,aj j l]at q;have aG:decide (f[j].1<f[i].1)=ap:=q;have:=qQ aG;change f[i].1<=f[j].1;omega
  .cases au:cZ.findIdx? (λz=>z==x)with
   |none=>simp only[au]at C;cases C
   |some i=>
    cases l:cZ.findIdx? (λz=>z==y)with
    |none=>simp only[l]at k;cases k
    |some j=>
     simp only[au]at C;simp only[l]at k;have C:cu i=r:=d3 C;have k:cu j=q:=d3 k
     let{d,(af)}:=T i x<|x6 au
     let{J,(hd2)}:=T j y<|x6 l
     let{as,(aH)}:=bM i x d (x6 au) af
     let{b',(aI)}:=bM j y J (x6 l) hd2
     have P:=kd.key d<|d5 af;have ah:=kd.key J<|d5 hd2;show ac8 aH aI P.1 ah.1 (kd.lk d (d5 af) J<|d5 hd2) (zG P.2) (zG ah.2) (Ru P.2 aB) {D,?_};rw[kd.t6 i j d J af hd2,C,k]
  .rw[N]at h
   let{O,_}:=z9 (a:=p.1) (b:=p.2) h
   let{q,k,(e)}:=ct.mp O
   let{i,(au)}:=ng k
   show{q,cu i,e.symm,?_,by rw[Dz c.aJ au];rfl};cases z:U q with
   |none=>show absurd z<|c.iD q k
   |some o=>show c.r2.a0.lt z
end
section
variable{X:bO}{pins:List (ao×Obj)}{σ:St}{H:aP}{s:bb}{be:db}{E:az->bb->Prop}
variable{k:Nat}{f:ao}{bk:eS}{ps:List Str}{br:bC}
def W'(p:b7≠a)(af:be.units+64<eW)(F:c6 X.prog X.w X.K X.mg X.base (cL X.prog X.w) k f bk ps br)(ad:c2 k be)(S:be.frames=X.A.frames)(Q:f9 X.K bk ps [])
  (kd:oU X.K br H xs a3 cu) (hz:↥xs<=bg) (t:bF xs vs) (M:sw X pins σ H a b7 dY a3 0 s H [] #[] 0)
  (fin:∀s' U ys,aC X pins σ (al U a<|.ai ys) s'->a4 H U->aO U->U a=ag->qt cu xs ys->eq (.done<|.ret .none) s'):
  aR (aU X.prog X.w) be (ksk_rest a (.ref f) ap vs.toArray dY<|.ref b7) eq E s:=by
 have ah:=hz;rw[cc]at ah;have C:↥vs=↥xs:=t.length.symm;unfold ksk_rest;show av (vJ ?_);first
  |rw[List.forIn_toArray]at⊢
  |(rw[<-Array.forIn_toList]at⊢;simp only[SO])
  |rw[<-Array.forIn_toList]at⊢
 show av (ksk_fold (λi s'=>∃U cZ l e,sw X pins σ H a b7 dY a3 i s' U cZ l e) vs 0 s {H,[],#[],0,M} ?step ?done)
 case step=>
  rintro j x s' G ⟨U,cZ,l,e,c⟩;simp only[l']at c⊢;have V:j<↥xs:=by rw[<-C];show(ee.mp G).1
  let{v,(B)}:∃v,xs[j]? =I v:={_,cA V}
  let{u,y,(ak)}:=t.get B
  rw[G]at y;cases y;show av (ac1 p F ad S Q kd hz c B ak λq aA aw g Z W jI=>?_);try dsimp only
  have hsz:l.size=j:=by have:=gC ac g.mU;rw[n0,bt,g.len]at this;show this
  show av (zx g.ok D ?_ (by rw[hsz,cc];omega)<|b5 (q4<|Array.size_push ..)<|by rw[hsz,cc];omega);have aj:=mf aA.heap b7 (ga (·.push (.ref q)))
  let{n,(R)}:∃n,(aA.heap.update b7 (ga (·.push (.ref q)))).get? b7=I (hF "list" (l.push<|.ref q) n):={_,FQ g.ok (·.push (.ref q))}
  have L:=g.r2.wO (t':=aA.toks) (bU:=[b7]) (λb o m z=>(aj.2 b λw=>m<|by simp[w]).trans z) (λb m=>by
   have N:b=b7:=‹m›
   subst N;show g.qh)
  show a7 {D,aw,cZ++[q],l.push<|.ref q,n,L,g.same,g.eU,g.cr,g.qh,(aj.2 a p.symm).trans g.rQ,R,?_,?_,?_,?_,?_}
  .rw[AA,g.mU,dX];rfl
  .rw[b0,g.len];rfl
  .rw[nf];show{g.aJ,(),λa P b m=>by rw[cy.mp m];show λz=>W<|z▸P}
  .intro i r d O Y;obtain au|au:=fs i ↥cZ
   .rw[gH au]at O;show g.jI i r d O Y
   .have T:i<↥(cZ++[q]):=(ee.mp O).1;have:i=↥cZ:=by rw[b0,lb]at T;omega
    subst this;rw[tv]at O;cases O;rw[g.len]at Y;show jI d Y
  .intro r ab;obtain h|h:=cN.mp ab
   .show g.iD r h
   .rw[cy.mp h];show Z
 case done=>
  rintro s' ⟨U,cZ,l,e,c⟩;rw[l',C]at c;try dsimp only
  show av<|listItems_at c.ok D ?_;show Xa p af kd hz t c λaA ys J ae=>fin aA U ys J c.same c.eU c.cr.1 ae
def W9(B:be.units+64<eW)(F:c6 X.prog X.w X.K X.mg X.base (cL X.prog X.w) k f bk ps br)(y:c2 k be)(x:be.frames=X.A.frames)(v:f9 X.K bk ps [])
  (kd:oU X.K br H xs a3 cu) (hz:↥xs<=bg) (m:bF xs vs) (J:aC X pins σ H s) (ak:aO H) (cr:gi X pins H a) (c:s.heap.get? a=I (hF "list" vs.toArray n))
  (fin:∀s' U ys,aC X pins σ (al U a<|.ai ys) s'->a4 H U->aO U->U a=ag->qt cu xs ys->b7 (.done<|.ret .none) s'):
  aR (aU X.prog X.w) be (ksk_tree a (.ref f) ap) b7 E s:=by
 have C:=hz;rw[cc]at C;have G:=m.length.symm;have u:a<s⁻¹:=cm c;have aj:=mf s.heap a<|ga λ_=>(#[]:Array az)
 let{g,(l)}:∃g,(s.heap.update a<|ga λ_=>(#[]:Array az)).get? a=I (hF "list" #[] g):={_,FQ c λ_=>#[]}
 have p:=J.wO (t':=s.toks) (bU:=[a]) (λb o e z=>(aj.2 b λw=>e<|by simp[w]).trans z) (λb e=>by
   have t:b=a:=‹e›
   subst t;show cr)
 have r:aC X pins σ H {s with heap:=((s.heap.update a<|ga λ_=>(#[]:Array az)).push<|hF "tuple" vs.toArray 0).push<|hF "list" #[] 0}:=
  p.fc (t':=s.toks) λb o z=>cB _<|cB _ z
 have i:((s.heap.update a<|ga λ_=>(#[]:Array az)).push<|hF "tuple" vs.toArray 0).objs.size=s⁻¹+1:=by rw[size_push',Heap.size_update]
 have qh:=J.mL (jZ _)<|J.a0.fresh<|jZ _;have a0:(((s.heap.update a<|ga λ_=>(#[]:Array az)).push<|hF "tuple" vs.toArray 0).push<|hF "list" #[] 0).get? (s⁻¹+1)=I (hF "list" #[] 0):=by rw[<-i];show dC _ D
 unfold ksk_tree;show av<|listItems_at c D ?_;show av<|zx c D ?_ (by rw[ed,cc];omega)<|cI _;show av<|seqEpoch_at l D ?_;show av (Rf ?_<|by change ↥vs<=_;rw[cc];omega);show av<|Fw ?_<|cI _;show hj ?_;rw[i];show W' (ma<|nc u) B F y x v kd hz m {r,a4.refl H,ak,cr,qh,cB _<|cB _ l,a0,D,D,ne,λj q d h=>by simp at h,λq h=>by simp at h} fin
def W5(y:X.A.units+200<eW)(F:c6 X.prog X.w X.K X.mg X.base (cL X.prog X.w) k f bk ps br)(c:c2 (k+1) X.A)(q:f9 X.K bk ps [])
  (hz:↥xs<=bg) (J:aC X pins σ H s) (ak:aO H) (kd:oU X.K br H xs a3 cu)
  (col:∀R,(∀h' tk vs,(∀b o,s.heap.get? b=I o->h'.get? b=I o)->bF xs vs->R vs {s with heap:=h',toks:=tk})->aR (aU X.prog X.w) X.A.in1 (collect v) R E s)
  (fin:∀s' U p ys,aC X pins σ (al U p<|.ai ys) s'->a4 H U->aO U->U p=ag->qt cu xs ys->Q (.ref p) s'):
  aR (aU X.prog X.w) X.A (call (.builtin "sorted") [v] [(kz "key",.ref f)]) Q E s:=by
 have x:=hz;rw[cc]at x;show call_function_entry_kw kind_sorted plain_sorted entry_sorted (ksk_s1 _ _) ?_;unfold Builtin.«sorted»;show av (m:=checkCount "sorted" 1 1 _)<|a7 ?_;show av<|col _ λh' tk vs r e=>?_;have u:↥vs=↥xs:=e.length.symm;show av (Fw ?_<|by rw[u,cc];omega);have a:aC X pins σ H {s with heap:=h',toks:=tk}:=J.fc r;have h:aC X pins σ H {s with heap:=h'.push<|hF "list" vs.toArray 0,toks:=tk}:=a.fc (t':=tk) λb o z=>cB _ z;have cr:gi X pins H h'.objs.size:=a.mL (bA _)<|a.a0.fresh<|bA _;have d:(h'.push<|hF "list" vs.toArray 0).get? h'.objs.size=I (hF "list" vs.toArray 0):=dC _ D;change aR _ X.A.in1 _ _ _ {s with heap:=h'.push<|hF "list" vs.toArray 0,toks:=tk};show av (hj<|wpAny_call_entry_kw Rr {_,d,D} RE ?body<|ksk_l1 _ _)
 case body=>
  change aR (aU X.prog X.w) X.A.in1.in1 (Builtin.«list.sort» {[.ref h'.objs.size],[(kz "key",.ref f)]}) _ _ _;rw[ksk_t1];have t:X.A.in1.in1.units+64<eW:=by change X.A.units+1+1+64<eW;omega
  show W9 t F {c.af,by have:=c.jI;change X.A.depth+3*k+5<_;omega,by have:=c.cF;change X.A.units+1+1+16*k+200<_;omega} D q kd hz e h ak cr d λs' U ys g i j l n=>{_,D,?_};show a7 {_,D,fin s' U _ ys g i j l n}
def Fc K H a xs:=aB K H a xs\/∃kvs:List (d'×ab),gX H a (.bJ kvs)/\xs=kvs.map λz=>da z.1
def Fc.collect(J:aC X pins σ H s)(y:X.hf=aa)(hz:↥xs<=bg)(g:Fc X.K H a xs) R(h:∀h' tk vs,(∀b o,s.heap.get? b=I o->h'.get? b=I o)->bF xs vs->R vs {s with heap:=h',toks:=tk}):
  aR (aU X.prog X.w) X.A.in1 (PySem.collect<|.ref a) R E s:=by
 obtain g|⟨kvs,g,rfl⟩:=g
 .let{aW,n,p,(f)}:=J.list g
  show collect_list p.isList (h _ s.toks aW (λb o q=>?_) n) (by rw[<-↥n];show f);have m:=cm q;rw[Heap.get?_update_ne _ _ _ _<|du m,Heap.get?_push_ne _ _ _<|du m]at⊢;show q
 .let{d,vs,ep,c,(j)}:(a==jn)=ap/\∃vs ep,hE kvs vs/\s.heap.DictAt (il X.prog X.w) a vs ep:=by
   obtain g|⟨o,g⟩:=g
   .let{z,d,vs,c,bX,es,ep,(r)}:=J.a0 a _ g
    show{d,vs,ep,c,bX,es,(r)}
   .let{d,_,_,es,ep,vs,_,_,c,j}:=J.qg g
    show{d,vs,ep,c,(j)}
  have f:=pn c;rw[bt]at hz;show kdu_collect (kdl_dict (ep:=ep) d) (J.ok.af y) j (by rw[<-f];show hz) λh' tk acc B l=>h h' tk acc.toList B ?_;have v:↥acc.toList=acc.size:=n0;show AL (by rw[bt,v,l.1,f]) λi x u O Y=>?_;rw[cO]at O;cases e:kvs[i]? with
  |none=>rw[e]at O;cases O
  |some z=>
   rw[e]at O;cases O
   let{D,G,k,(t)}:=l.2 i u (by rw[<-j5];show Y)
   let{F,C,_}:=Dl c e
   rw[C]at k;cases k;show B2 t
inductive qyVe(K:b9)(br:bC)(Q:dR)(x:ab)(an:aP):Prop|mk(a xs a3 cu)(_:x= .ref a)(_:Fc K an a xs)(_:aO an)(_:ac xs<=bg)(_:oU K br an xs a3 cu)(_:∀U p ys,a4 an U->aO U->U p=ag->qt cu xs ys->Q (.ref p) (al U p<|.ai ys))
def Ve(K:b9)(br:bC)(bW:bD):(bD):=λσ H Q=>bW σ H λx an=>qyVe K br Q x an
def aix:h3 "sorted"=I (.builtin "sorted"):=⋯
def Lm{st:hG}{p pos b6 fp:Pos}(u:X.hf=aa)(E:X.mg "sorted"=ag)(n:b2 X.K X.mg x st ps f bk)(F:c6 X.prog X.w X.K X.mg X.base (cL X.prog X.w) k f bk ps br)(G:c2 j X.A)(y:aX X e bW)(C:k+1<=j<|>zzd)(z:ea X "sorted"<|>zzr)(B:ea X x<|>zzr)
  (af:(x=="__debug__")=ap<|>zzd) (g:dM pos (bj [e] X.am)=[(ap,eval e X.am)]<|>zzr):
  aX X (.Call (.Name "sorted" p) [e] [{I "key",.Name x fp,b6}] pos) (Ve X.K br bW):=by
 intro pins s σ H Q J h;show l2<|mF J z E aix<|callWith_builtin_kwB (by rw[g];rfl) D ?_;rw[g];show evalArgs_kwB D<|pz<|bp (y pins s σ H _ J h) λv aj {N,an,c,M,(L)}=>rd<|kws_cons<|mE c B n.e6 (kws_nil ?_) af;let{a,xs,a3,cu,rfl,go,ak,hz,kd,(q)}:=L;obtain rfl:v=cM a:=M;have d:=G.mono C;show W5 (by have:=d.cF;omega) F d n.b hz c ak kd (λR t=>go.collect c u hz R t) λs' U p ys i l m o r=>{.ref p,_,i,D,q U p ys l m o r}
end
end L2
namespace L2
open PySem PySem.Spec PyProof.Rows PySem.Calls PySem.W
def Xc:Slot "list_reverseiterator" "__length_hint__" "list_reverseiterator.__length_hint__":=
 Slot.of (owner:="list_reverseiterator") (n:="__length_hint__") (by rw[FE,FW];kernel_rfl) ⋯ ⋯ ⋯ (by first|show .inl ⋯|show .inr ⋯) (by rw[zz];kernel_rfl)
def ab4:sL (.type "list_reverseiterator") "__len__"=pure ag:=by rw[FE,FW];kernel_rfl
section
variable{prog:bS}{w:bL}{A:db}{E:az->bb->Prop}{s:bb}{r l:ao}
def adA(c:s.TypeIs (.ref r) "list_reverseiterator")(h:Q ap s):aR (aU prog w) A (GU<|.ref r) Q E s:=by
 show av<|ze c ab4 ?_;dsimp only;show vM (λa=>absurd a ⋯) λ_=>?_;show av<|ze c Xc.lookup ?_;generalize d:("list_reverseiterator.__length_hint__":String)=e
 wp_delta
 subst d;show av<|zj (b:=aa) c (by rw[zz];kernel_rfl) ?_;show vM (λa=>absurd a ⋯) λ_=>?_;show vM (λ_=>?_) λa=>absurd ⋯ a;show vM (λa=>absurd a ⋯) λ_=>?_;show a7 h
def acG{St:Nat->bb->Prop}(x:s.TypeIs (.ref r) T)(ah:(ix T==ix "list")=ap)(ai:(ix T==ix "tuple")=ap)
  (hint:∀A E aj Q,aj.TypeIs (.ref r) T->Q ap aj->aR (aU prog w) A (GU<|.ref r) Q E aj)
  (W:∀B,B.handled=ag->qW prog w B r fp jw (λa b=>b=a) n P St) (st:St 0 s) (k:A.handled=ag) (Z:∀b∈fp,b<s⁻¹) (ab:n<=bg)
  (h:∀h' tk acc c,(∀b o,b∉jw->s.heap.get? b=I o->h'.get? b=I o)->h'.get? s⁻¹=I {cls:=.type "list",dict:=ag,data:=.seq acc c,slots:=#[]}->wv P acc n->Q (.ref s⁻¹) {s with heap:=h',toks:=tk}):
  aR (aU prog w) A (call (.type "list") [.ref r]) Q E s:=by
 show callType_codes (Q₁:=λobj H=>obj= .ref s⁻¹/\H={s with heap:=s.heap.push {cls:=.type "list",data:=.seq #[]}}) F.called_list (F.typeCall_list_1 _) F.entry_list_init (code_list_new _ {D,(rfl)}) λobj H ae=>?_;let{rfl,(rfl)}:=ae;have g:(s.heap.push {cls:=.type "list",data:=.seq #[]}).get? s⁻¹=I {cls:=.type "list",data:=.seq #[]}:=dC _ D;show{{_,g,D},F.args_list_init_2 _ _,?_};have C:∀b o,s.heap.get? b=I o->(s.heap.push {cls:=.type "list",data:=.seq #[]}).get? b=I o:=λb o e=>cB _ e;have V:s⁻¹∉fp:=λq=>absurd (Z _ q)<|kB _;generalize s.heap.push {cls:=.type "list",data:=.seq #[]}=O at g C;generalize v:s⁻¹=S at*;have ad:S≠r:=λe=>by
  let{o,u,_}:=x
  show absurd (cm u) (by rw[<-e,v];show kB _)
 change aR _ A.in1.in1 (tC (.ref S)>>=λold=>alf (.ref S) (λ_=>#[])>>=λ_=>letGo old.toList.reverse>>=λ_=>Ax (.ref S) (.ref r) .none) _ _ _;show av ?_;unfold tC;show av<|Fu g D<|a7 ?_;show av<|vH g D ?_;have i:=me (ga λ_=>(#[]:Array az)) g D;have G:∀b o,b≠S->O.get? b=I o->(O.update S<|ga λ_=>(#[]:Array az)).get? b=I o:=λb o d e=>(jv _ _<|eo d).trans e;generalize O.update S (ga λ_=>(#[]:Array az))=Y at i G;show av<|Fz ?_;have m:∀b o,s.heap.get? b=I o->b≠S:=λb o e=>by have:=cm e;rw[v]at this;show du this
 have p:∀b o,s.heap.get? b=I o->Y.get? b=I o:=λb o e=>G b o (m b o e)<|C b o e;have y:∀tk,F5 {s with heap:=Y,toks:=tk} (.ref r) T:=λtk=>by
  let{o,u,(X)}:=x
  show{o,p _ _ u,X}
 unfold Ax;show av<|Fs (T:=T) (y _) ?_;have af:Aw (.ref S) (.ref r)=ap:=by simp[Aw,ad]
 simp only[af,ah,ai,pB,pC,ku];have al:∀tk,s.toks<=tk->St 0 {s with heap:=Y,toks:=tk}:=λtk le=>(W A k).frame 0 s Y tk st le λb d o e=>p b o e;show av<|(W A.in1.in1<|by simp[k]).self 0 _ _ _ (al _<|bA _) ?_;show av<|hj<|hint _ _ _ _ (y _) ?_;have key:∀(f:bG) (t:Nat),(∀b o,b≠S->Y.get? b=I o->f.get? b=I o)->f.get? S=I {cls:=.type "list",data:=.seq #[] t}->
   h2 (aU prog w) A.in1 (.builtin "list.extend.loop" {[.ref S,.ref r,.none],[]}) (sJ (λr am=>r= .none/\Q (.ref S) am) E) {s with heap:=f}:=by
  intro f t z j;show RG (W A.in1.in1<|by simp[k]) ab S V _ n 0 _ #[] t D (cI _) ((W A k).frame 0 s f _ st (bA _) λb d o e=>z b o (m b o e)<|p b o e) j (ItemsOf.nil _) λs' J K l R au=>?_
  let{N,M,L,an,(ak)}:=s'
  obtain rfl:M=s.gens:=l.gens;obtain rfl:L=s.drawn:=l.drawn;obtain rfl:ak=s.os:=l.os;show{D,h N an J K (λb o d e=>l.heap b o (λq=>?_)<|z b o (m b o e)<|p b o e) R au};obtain q|q:=bK.mp q
  .show m b o e q
  .show d q
 show vM (λ_=>?_) λ_=>a7 {nN TF _,key Y _ (λ_ _ _ e=>e) i};show av<|vJ<|av ?_;change aR _ _ (zm S (·.push .none)>>=λ_=>zm S (·.pop)) _ _ _;show av<|vH i D ?_;have j:=me (ga (·.push iW)) i D;show vH (hz:=by seq_fits) j D ?_;have U:=me (ga (·.pop)) j D;show a7 {nN TF _,key _ _ (λb o d e=>?_) U};show(jv _ _<|eo d).trans<|(jv _ _<|eo d).trans e
end
section
variable{X:bO}{e:Expr}{bW:bD}{p cQ pos Ce:Pos}
inductive qyVs(Q:dR)(v:ab)(an:aP):Prop|mk(l:ao)(ys:List ab)(_:v= .ref l)(_:an l=I (.ai ys))(_:∀q,an q=ag->Q (.ref q) (al an q<|.ai ys.reverse))
def Vs(bW:bD):(bD):=λσ H Q=>bW σ H λv an=>qyVs Q v an
def Y5(h:bF xs ay):bF xs.reverse ay.reverse:=by
 induction h with
 |nil=>show .nil
 |cons r _ a=>rw[Gv,Gv];show a.append<|.cons r .nil
def ZS(y:X.hf=aa)(K:X.mg "list"=ag)(L:X.mg "reversed"=ag)(w:aX X e bW)(z:ea X "list"<|>zzr)(C:ea X "reversed"<|>zzr)
  (O:bj [.Call (.Name "reversed" cQ) [e] [] Ce] X.am=[(ap,eval (.Call (.Name "reversed" cQ) [e] [] Ce) X.am)]<|>zzr) (Y:bj [e] X.am=[(ap,eval e X.am)]<|>zzr):
  aX X (.Call (.Name "list" p) [.Call (.Name "reversed" cQ) [e] [] Ce] [] pos) (Vs bW):=by
 intro pins s σ H Q J h;show l2<|mF J z K Pw ?_ ⋯ ⋯;show q1 ?_ O D;rw[O];show pz<|Call_<|mF J C L Pu<|q1 ?_ Y D;rw[Y];show pz<|bp (w pins s σ H _ J h) λu aj {x,an,a,P,l,ys,bE,G,(q)}=>rd ?_;subst bE;obtain rfl:u=cM l:=P
 let{hz,aW,n,t,(i)}:=a.a0 l _ G
 have hlen:aW.toArray.size=↥ys:=by rw[ed];show t.length.symm
 show RI (items:=aW.toArray) {_,i,D,n,D}<|rd ?_;have r:l<aj⁻¹:=cm i;have m:aC X pins σ an {aj with heap:=aj.heap.push<|sP l<|(aW.toArray.size:Int)-1,toks:=aj.toks}:=a.fc λb u e=>cB _ e;have hit:(aj.heap.push<|sP l<|(aW.toArray.size:Int)-1).IsRevIter aj⁻¹ l ((aW.toArray.size:Int)-1):={_,dC _ D,D,D};have M:(aj.heap.push<|sP l<|(aW.toArray.size:Int)-1).get? l=I {cls:=.type "list",data:=.seq aW.toArray n}:=cB _ i;have fp:=a.mL (U:=an) (bA _)<|a.a0.fresh<|bA _;have hsz:(aj.heap.push<|sP l<|(aW.toArray.size:Int)-1).objs.size=aj⁻¹+1:=hn ..;show acG (s:={aj with heap:=aj.heap.push<|sP l<|(aW.toArray.size:Int)-1}) (n:=aW.toArray.size) hit.typeIs ⋯ ⋯ (λA E aj Q O Y=>adA O Y)
  (λB v=>(Walks.listRev v aj⁻¹ l (du r) aW.toArray).toS) {cI _,‹hit›,{_,M,D,n,D}} (J.ok.af y) (λb d=>?_) (by rw[hlen];show hz) λh' tk acc c k N f=>?_
 .change b<(aj.heap.push _).objs.size;rw[hsz];simp at d;obtain rfl|rfl:=d
  .show z2 _
  .show nc r
 show{.ref _,_,m.wN (t':=tk) (bU:=[aj⁻¹]) (T:=(aj.heap.push<|sP l<|(aW.toArray.size:Int)-1).objs.size) (ob:=.ai ys.reverse) k (λb d=>by rw[cy.mp d];show fp) (bA _) {by rw[S0];show hz,acc.toList,c,?_,?_},D,q _<|m.a0.fresh<|bA _}
 .have e:acc.toList=aW.reverse:=by
   show Tj λj=>?_;obtain g|g:=fs j acc.size
   .have o:=f.2 j _<|gK g;have F:j<↥aW:=by have:=f.1;simp at this;omega
    rw[j5,gK g,S9 F];rw[ed,GC]at o;show o.symm
   .rw[nh<|‹g›,nh (by have:=f.1;simp at this⊢;omega)]
  rw[e];show Y5 t
 .rw[GX];show N
end
end L2
namespace L2
open PySem PySem.Spec PyProof.Rows
section
variable{X:bO}{o i e:Expr}{es:List Expr}{mr dO:bD}{bc:fF}{pos:Pos}{ca:ao}
def Fp(K:b9) ca(f:Int->Option ao):=∀P w h,K.In h->(∃o,h.get? ca=I o/\o.cls= .type "dict")/\h.MapOf (R3 P w) ca λk=>(f k).map cM
inductive qyVB(f:Int->Option ao)(Q:dR)(v:ab)(an:aP):Prop|mk(k t)(_:v= .int k)(_:f k=I t)(_:Q (.ref t) an)
def VB(f:Int->Option ao)(mr:bD):(bD):=λσ H Q=>mr σ H λv an=>qyVB f Q v an
def ZX(af:Fp X.K ca f)(g:aX X o (oa<|.ref ca))(au:aX X i mr)(j:E3 i):aX X (.Subscript o i pos) (VB f mr):=by
 intro pins s σ H Q J h;show HX PySem.F.slot_dict_getitem.lookup j<|bp (g pins s σ H (λv an=>v= .ref ca/\an=H) J {D,(rfl)}) λu aj {x,an,b,m,bE,(c)}=>?_;subst bE;subst c;obtain rfl:u=cM ca:=m;show bp (au pins aj σ _ _ b h) λp aA {y,aw,a,n,k,t,d,e,(l)}=>?_;subst d;let{tk,(rfl)}:=n
 let{{od,O,(Y)},mp}:=af X.prog X.w aA.heap a.e5
 show{{od,O,(Y)},Rl (x4 k tk) mp (by rw[e];rfl) {.ref t,aw,a.eL _,D,l}}
inductive qyHP(P:bS)(w:bL)(K:b9)(mg:Str->Option az)(base:bG)(c7:m2)(j:Nat)(E:gh)(bc:fF)(σ:St)(Q:dR)(v:ab)(an:aP):Prop|mk(f:ao)(_:v= .ref f)(_:jY K (.ref f)=aa)(_:bc σ an λvs aw=> ∃(bk:eS) (ps:List Str) (br:bC) (k:Nat),c6 P w K mg base c7 k f bk ps br/\k<=j/\f9 K bk ps []/\br vs aw Q E)
def HP(P:bS)(w:bL)(K:b9)(mg:Str->Option az)(base:bG)(c7:m2)(j:Nat)(E:gh)(dO:bD)(bc:fF):(bD):=λσ H Q=>dO σ H λv an=>qyHP P w K mg base c7 j E bc σ Q v an
def Z0(t:c2 j X.A)(v:gY c7 X E)(n:aX X (.Subscript o b b7) dO)(d:d2 X (e::es) bc)(i:bj (e::es) X.am=(ap,eval e X.am)::bj es X.am<|>zzr)(p:((dM pos<|bj es X.am).any (·.1)=ap)<|>zzr):
  aX X (.Call (.Subscript o b b7) (e::es) [] pos) (HP X.prog X.w X.K X.mg X.base c7 j E dO bc):=by
 intro pins s σ H Q J h;show av<|bp (n pins s σ H _ J h) λu aj {x,an,c,z,f,bE,l,(q)}=>?_;subst bE;obtain rfl:u=cM f:=z;show tc J.ok.f5.oy l (bp (d pos pins aj σ an _ c q) λay aA {vs,aw,a,r,bk,ps,br,k,F,m,g,(y)}=>{a.e5,rx F (t.mono m) g .nil v a r<|by rw[gI];show y}) i p
def ZZ{K:b9}(O:X.prog=P)(Y:X.w=w)(a:X.K=K)(c:X.mg=mg)(d:X.base=base)(k:c2 j X.A)(l:gY c7 X E)(h:aX X (.Subscript o b q) dO)(f:d2 X (e::es) bc)(g:bj (e::es) X.am=(ap,eval e X.am)::bj es X.am<|>zzr)(i:((dM pos<|bj es X.am).any (·.1)=ap)<|>zzr):
  aX X (.Call (.Subscript o b q) (e::es) [] pos) (HP P w K mg base c7 j E dO bc):=by subst O;subst Y;subst a;subst c;subst d;show Z0 k l h f g i
end
end L2
namespace RC
open PySem PySem.Spec PyProof.Rows L2 TL Vapola
def S(t:aE):(Str):=⟨(t.map eI).toArray⟩
def nn t:bV (S t)=t.map eI:=D
def toNat_inj:Function.Injective eI:=λa b h=>UInt8.toNat_inj.mp h
def C7{a:aE}(h:a.map eI=b.map eI):a=b:=(List.map_inj_right λ_ _ h=>toNat_inj h).mp h
def k1(h:S a=S b):a=b:=C7 (by rw[<-nn,<-nn,h])
def vp:S a=S b↔a=b:={k1,λh=>by rw[h]}
def cJ t:↥(S t)=↥t:=by rw[ow,nn,bt]
def qu a b:S a++S b=S (a++b):=qi (by rw[tN,nn,nn,nn,dX])
def hd a b:decide (ab.str (S a)=ab.str (S b))=decide (a=b):=by
 by_cases h:a=b
 .subst h;simp
 .rw[ck h,ck];intro e;show h<|k1<|ab.str.inj e
def Lb(a t:aE):pre (a.map eI) (t.map eI)=a.isPrefixOf t:=by
 unfold pre;rw[ey,ei,pu,bt,<-wj,Gw];constructor
 .intro h;show(C7 h).symm
 .intro h;rw[<-h]
def A9 c:∀t acc,fT [c.toNat] 0 (acc.map eI) (t.map eI)=(match cutAt c t with
  |w::ws=>(acc++w)::ws
  |[]=>[acc]).map (hm eI)
 |[],acc=>by change fT _ _ _ []=_;rw[H5,ah9];simp
 |b::r,acc=>by
  rw[cx];by_cases h:b=c
  .subst h;rw[H7<|by change pre ([b].map eI) ((b::r).map eI)=aa;rw[Lb];simp,lK];have:=A9 b r [];simp only[z']at this;change _::fT [b.toNat] 0 [] _=_;rw[this];cases e:cutAt b r with
   |nil=>show absurd e<|kX b r
   |cons w ws=>simp
  .rw[H6 (by change pre ([c].map eI) ((b::r).map eI)=ap;rw[Lb];change(c==b&&_)=ap;rw[sY<|eo h,wy])]
   let{w,ws,a,(d)}:=mO h r
   have:=A9 c r<|acc++[b];grind
def Qq t n(h:256<=n<|>zzd):(S t).cps.all (·<n)=aa:=by
 rw[Array.all_eq_true_iff_forall_mem];intro x a;have:x∈t.map eI:=by simpa[S]using a
 let{b,_,rfl}:=ct.mp this;have:=b.toNat_lt;simp;omega
def VR c t:pg (S t) (S [c])=(cutAt c t).map S:=by
 apply M3;rw[VQ _ _ (by simp[S])<|acX<|Qq _ 256];have:=A9 c t [];simp only[z']at this;change fT [c.toNat] 0 [] (t.map eI)=_;rw[this,dh];cases e:cutAt c t with
 |nil=>show absurd e<|kX c t
 |cons w ws=>rfl
def HY t p i:TK (S t) (S p) i=((t.drop i).take ↥p==p):=by
 unfold TK;rw[ey,ei,ei,cJ];constructor
 .intro h;have Y:=gC TS h;rw[TR,Ti,SM]at Y;have a:((t.map eI).drop i).take ↥p=p.map eI:=Y;rw[<-Ab,<-wj]at a;show C7 a
 .intro h;apply Array.ext';rw[TR,Ti,SM];change((t.map eI).drop i).take ↥p=p.map eI;rw[<-Ab,<-wj,h]
def oc t p:zL (S t) (S p)=p.isPrefixOf t:=by unfold zL;rw[ey,cf,cJ,cJ,HY,pu,Gw];grind
def OK t p:zM (S t) (S p)=p.isSuffixOf t:=by
 unfold zM;rw[ey,cf,cJ,cJ,HY,ei,S4];constructor
 .intro{O,(Y)};rw[wd (by rw[gn];omega)]at Y;show Y▸List.drop_suffix _ _
 .intro h;let{u,(rfl)}:=h;simp
def Nz c:∀ws,uI (c.map eI) (ws.map λw=>w.map eI)=(glued c ws).map eI
 |[]=>rfl
 |[w]=>rfl
 |w::v::r=>by rw[i7 c w (v::r) ()];have:=Nz c<|v::r;change _++(_++uI _ ((v::r).map λw=>w.map eI))=_;rw[this,dX,dX]
def Do c ws:s2 (S c) (ws.map S)=S (glued c ws):=by rw[adb];apply qi;rw[HF,nn,nn,<-Nz,dh];rfl
def DD:∀ws,glued [] ws=ws.flatten
 |[]=>rfl
 |[w]=>by simp[glued]
 |w::v::r=>by rw[i7 [] w (v::r) (),DD<|v::r];simp
def O7 t lo au:oJ (S t) lo au=S ((t.drop<|HT.cY ↥t 0 lo).take<|HT.cY ↥t ↥t au-HT.cY ↥t 0 lo):=by unfold oJ;rw[cJ];change(⟨(((t.map eI).drop _).take _).toArray⟩:Str)=_;rw[<-Ab,<-wj];rfl
def u4 t(n:Nat):oJ (S t) (I n) ag=S (t.drop n):=by
 rw[O7,HT.rv];by_cases h:n<=ac t
 .rw[tl h,wd];show gn▸bA _
 .rw[SH ∅,mc<|bA _,mc ∅];simp
def ah4 t(n:Nat)(a:0<n):oJ (S t) ag (I<|-n)=S (t.take<|ac t-n):=by
 rw[O7,HT.Ke];have e:HT.cY ↥t ↥t (I<|-(n:Int))=ac t-n:=by change(if(-(n:Int))<0 then(-(n:Int)+ac t).toNat else _)=_;rw[aM ∅];omega
 rw[e];simp
def af5 t:Gk (t.map eI)=val t:=by unfold Gk val;rw[List.foldl_map];grind
def Dt{t:aE}(h:∀b∈t,eQ b=aa)(O:t≠[])(Y:↥t<=4300):R2 (S t)=I (val t:Int):=by
 have:=intText_digits (x:=S t) (by
  intro c d;have:=d;let{b,a,(rfl)}:=ct.mp this;show(sc b).mp<|h b a) (by
  intro e;have:t.map eI=[]:=e;simp_all) (by rw[cJ];show Y)
 rw[this];change I (Gk (t.map eI):Int)=_;rw[af5]
def abX:∀n,rR n=(dt n).map eI:=by
 intro n;induction n using SE with
 |_ n a=>
  by_cases h:n<10
  .rw[abW h,sd h];simp;omega
  .rw[abV ∅,yk ∅,a (n/10) ∅];simp;omega
def wY(n:Nat):kz (toString (n:Int))=S (dt n):=qi (by rw[U2,nn,abX])
def C5 b t:decide (b.toNat∈(S t).cps.toList)=t.contains b:=by
 rw[ey,dg,ex];constructor
 .intro h
  let{c,a,(e)}:=ct.mp h
  show toNat_inj e▸a
 .intro h;show ct.mpr {b,h,(rfl)}
def M8:∀a b,ac a=ac b->decide ((S a).cps.toList<(S b).cps.toList)=bytesBefore a b
 |[],[],_=>by simp[bytesBefore]
 |[],_::_,h=>by simp at h
 |_::_,[],h=>by simp at h
 |x::a,y::b,h=>by
  have q:=M8 a b (by grind);have c:(S<|x::a).cps.toList=x.toNat::(S a).cps.toList:=D;have d:(S<|y::b).cps.toList=y.toNat::(S b).cps.toList:=D;rw[c,d];unfold bytesBefore;rw[<-q,ey];simp only[dg,lf,cf,ei,List.cons_lt_cons_iff];constructor
  .rintro(h|⟨O,Y⟩)
   .show .inl h
   .show .inr {toNat_inj O,Y}
  .rintro(h|⟨O,Y⟩)
   .show .inl h
   .show .inr {by rw[O],Y}
def c4 t(h:x=S t<|>zze):aX X (.Constant (.str x) j pos) (oa<|.str<|S t):=by
 subst h;show ZL
open PySem.W (Frag)
def cC:=100000
def hu(h:n<=cC):n<=bg:=by rw[cc];unfold cC at h;omega
def aG(l:List aE):=l.map λt=>ab.str<|S t
def dj l:↥(aG l)=ac l:=by simp[aG]
def fj C n H(E:gh):=∀ae,H ae=ag->E (.ref C) (I ae) (al H ae<|fQ ae [("number",.int n)])
variable{P:bS}{w:bL}{K:bR}{mg:Str->Option az}{base:bG}{A:bf}(T:cS K mg A)
def WF:bC:=λvs H Q _=>∃t g:aE,vs=[.str<|S t,.str<|S g]/\ac t<=cC/\aO H/\Q (.a1<|t.all g.contains) H
def L3:bs P w base T 1 9 ["text","signs"] WF:=by
 show T.DC.a8.bx Bn λj be aN s H vs Q E m h=>?_;let{t,g,rfl,d,ak,(k)}:=h;show{_,(aV<|bm<|ir T.ir (oK D)<|aK<|f0 D Bn.aJ (Ch<|ah 0) (bo:=[("sign",2)]) (fn (N:=MK) (b7:=a6 BE)<|rfl) (λ_ _ _ _ _=>(c3 (i:=2) Bn.aJ D<|ce D)) (λ_ _ _ _ _=>gu) λ_ _ _ _ _=>(e2 Cy (ah 2) (ah 1)<|by with_unfolding_all rfl)),{_,D,λaq a=>Nk t eI (λb=>I<|.a1<|g.contains b) (hu d) a (λi b acc l e f c _=>?_) ?_}}
 .show{D,_,_,D,D,?_};rw[C5];show c _ D
 .rw[i4];show{aq,t.map g.contains,D,aB.of<|by rw[ar,dh];rfl,H,b8 ak<|a4.refl H|>.new a,?_};rw[nY];show k
variable{P:bS}{w:bL}{K:bR}{mg:Str->Option az}{base:bG}{A:bf}(T:cS K mg A)
def Ib(K:bR):bC:=λvs H Q _=>∃(x C:ao) (n:Int),vs=[.ref x,.int n]/\H x=I (fo x C ag)/\jM K C/\cK K C "number"/\aO H/\
 ∀ae,H ae=ag->ae≠x->Q .bT (al (al H ae<|fQ ae [("number",.int n)]) x<|fo x C<|I ae)
def p7:bs P w base T 1 0 ["self","number"] (Ib K):=by show T.jg.a8.bx Yp λb be aN s H vs Q E d h=>?_;let{x,C,n,rfl,a,c,cw,ak,(k)}:=h;show{_,(aV<|Cc (ah 0) (ah 1) D),{x,C,D,c,cw,.inl {a,λae af bI=>{_,.he (.ext (.ext .refl<|.inl af)<|.inr {_,bd af a}) (a4.refl _) ak,k ae af bI}}}}
def oe(C:ao)(n:Int):bC:=λvs H Q _=>∃x:ao,vs=[.ref x]/\H x=I (fo x C ag)/\aO H/\∀ae,H ae=ag->ae≠x->Q .bT (al (al H ae<|fQ ae [("number",.int n)]) x<|fo x C<|I ae)
def qj{P:bS}{w:bL}(c:jM K C)(cw:cK K C "number")(a:H x=I (fo x C ag))(ak:aO H)(k:∀ae,H ae=ag->ae≠x->Q .bT (al (al H ae<|fQ ae [("number",.int n)]) x<|fo x C<|I ae)):
  Ib K [.ref x,.int n] H (λ_ an=>nH H Q .bT an) E:={x,C,n,D,a,c,cw,ak,λae af bI=>{_,.he (.ext (.ext .refl<|.inl af)<|.inr {_,bd af a}) (a4.refl _) ak,k ae af bI}}
def abD:bs P w base T 2 1 ["self"] (oe (A.c 1)<|-1):=by show T.QA.a8.bx Yu λe be aN s H vs Q E a h=>?_;let{x,rfl,d,ak,(k)}:=h;show{_,(aV<|dm<|p3 (u:=.none) D T.oM.e6 T.qw T.qv T.qx T.jg.a8.b6 (p7 T) a T.jg.b .nil cH<|cW (ah 0)<|lv lj bn),{_,D,qj (P:=P) (w:=w) (E:=iu) T.yy.cl T.QB d ak k}}
def abC:bs P w base T 2 2 ["self"] (oe (A.c 2)<|-2):=by show T.Qy.a8.bx Yt λe be aN s H vs Q E a h=>?_;let{x,rfl,d,ak,(k)}:=h;show{_,(aV<|dm<|p3 (u:=.none) D T.oM.e6 T.qw T.qv T.qx T.jg.a8.b6 (p7 T) a T.jg.b .nil cH<|cW (ah 0)<|lv lj bn),{_,D,qj (P:=P) (w:=w) (E:=iu) T.yx.cl T.Qz d ak k}}
def abB:bs P w base T 2 3 ["self"] (oe (A.c 3)<|-2):=by show T.Qw.a8.bx Ys λe be aN s H vs Q E a h=>?_;let{x,rfl,d,ak,(k)}:=h;show{_,(aV<|dm<|p3 (u:=.none) D T.oM.e6 T.qw T.qv T.qx T.jg.a8.b6 (p7 T) a T.jg.b .nil cH<|cW (ah 0)<|lv lj bn),?_};show{_,D,qj (P:=P) (w:=w) (E:=iu) T.yw.cl T.Qx d ak k}
def Mb:bs P w base T 2 4 ["self"] (oe (A.c 4)<|-3):=by show T.E2.a8.bx Yr λe be aN s H vs Q E a h=>?_;let{x,rfl,d,ak,(k)}:=h;show{_,(aV<|dm<|p3 (u:=.none) D T.oM.e6 T.qw T.qv T.qx T.jg.a8.b6 (p7 T) a T.jg.b .nil cH<|cW (ah 0)<|lv lj bn),{_,D,qj (P:=P) (w:=w) (E:=iu) T.sh.cl T.Qv d ak k}}
def abw:bs P w base T 2 5 ["self"] (oe (A.c 5)<|-5):=by show T.Qi.a8.bx Yk λe be aN s H vs Q E a h=>?_;let{x,rfl,d,ak,(k)}:=h;show{_,(aV<|dm<|p3 (u:=.none) D T.oM.e6 T.qw T.qv T.qx T.jg.a8.b6 (p7 T) a T.jg.b .nil cH<|cW (ah 0)<|lv lj bn),{_,D,qj (P:=P) (w:=w) (E:=iu) T.yt.cl T.Qj d ak k}}
def aby:bs P w base T 2 6 ["self"] (oe (A.c 6)<|-6):=by show T.Qm.a8.bx Ym λe be aN s H vs Q E a h=>?_;let{x,rfl,d,ak,(k)}:=h;show{_,(aV<|dm<|p3 (u:=.none) D T.oM.e6 T.qw T.qv T.qx T.jg.a8.b6 (p7 T) a T.jg.b .nil cH<|cW (ah 0)<|lv lj bn),{_,D,qj (P:=P) (w:=w) (E:=iu) T.yv.cl T.Qn d ak k}}
def abx:bs P w base T 2 7 ["self"] (oe (A.c 7)<|-7):=by show T.Qk.a8.bx Yl λe be aN s H vs Q E a h=>?_;let{x,rfl,d,ak,(k)}:=h;show{_,(aV<|dm<|p3 (u:=.none) D T.oM.e6 T.qw T.qv T.qx T.jg.a8.b6 (p7 T) a T.jg.b .nil cH<|cW (ah 0)<|lv lj bn),?_};show{_,D,qj (P:=P) (w:=w) (E:=iu) T.yu.cl T.Ql d ak k}
def BW:dG (al H a o) a=dG H a:=by
 funext b;by_cases e:b=a
 .subst e;rw[iF,iF]
 .rw[dF e,dF e,aI e]
def a4.Ks(s:a4 H an)(h:H a=ag):a4 H (dG an a):=λb o e=>by
 rw[dF λq=>by grind];show s b o e
abbrev lI:m1:={λ_ _=>True,λ_ _=>True,λ_ _=>True,λ_ _=>True}
def mz(ak:aO H)(c:aO an)(s:a4 H an)(k:fj C n H E):A3 C (oe C n) (k7 H E) kH lI [] an:=by
 show{cI _,λx b=>{x,D,ar,c.ext,λae af bI=>{D,x,ae,D,ar,?_}}}
 let{_,a}:=er af
 show{al H ae<|fQ ae [("number",.int n)],.he (.ext .refl<|.inl<|s.none a) ?_ ak,k ae<|s.none a};rw[BW];show a4.Ks (a4.both<|s.new b)<|aI bI.symm▸s.none b
def ej(ak:aO H)(s:a4 H an)(k:fj C n H E):fj C n an (k7 H E):=λae af=>
 {al H ae<|fQ ae [("number",.int n)],.he (.ext .refl<|.inl<|s.none af) s.both ak,k ae<|s.none af}
def Wg(A:bf):bC:=λvs H Q E=>∃b:Bool,vs=[.a1 b]/\aO H/\(b=aa->Q .bT H)/\(b=ap->fj (A.c 1) (-1) H E)
def iJ:bs P w base T 4 8 ["holds"] (Wg A):=by
 show T.ie.a8.bx XC λd be aN s H vs Q E e h=>?_;let{b,rfl,ak,a,(c)}:=h;show{_,(aV<|dA (lu<|gN<|ah 0) (aV<|oj T.yy.iK (abD T) (by grind) D T.yy.e6 T.QA.b) dJ),{b,D,?_}};cases b with
 |true=>show{H,b8 ak<|a4.refl H,a D}
 |false=>show mz ak ak (a4.refl H)<|c D
def oN:(aE):=[97,98,99,100,101,102,103,104,105,106,107,108,109,110,111,112,113,114,115,116,117,118,119,120,121,122]
def oO:(aE):=[48,49,50,51,52,53,54,55,56,57]
def jL:=oO++oN
def alk:"abcdefghijklmnopqrstuvwxyz"=S oN:=D
def alm:"0123456789"=S oO:=D
def YM:"0123456789abcdefghijklmnopqrstuvwxyz"=S jL:=D
def vc:(aE):=[10,32,42,43,44,45,47]++(oO++([58,64]++oN))
def DF(T:cS K mg A):eP mg "LETTERS" (.str<|S oN):=by have:=T.ajM;show this
def adS(T:cS K mg A):eP mg "DIGITS" (.str<|S oO):=by have:=T.ake;show this
def uU(T:cS K mg A):eP mg "LATER_SIGNS" (.str<|S jL):=by have:=T.ajN;rw[YM]at this;show this
def adQ(T:cS K mg A):eP mg "KNOWN_SIGNS" (.str<|S vc):=by have:=T.ajO;show this
def adP(T:cS K mg A):eP mg "OTHER_SIGN" (.str<|S [63]):=by have:=T.ajk;show this
def N0(T:cS K mg A):eP mg "NO_SIGN" (.str<|S [33]):=by have:=T.ajo;show this
def adR(T:cS K mg A):eP mg "FIRST_DIRECTORY" (.str<|S [117,115,101,114,32,97,10]):=by have:=T.akd;show this
def yG{p:UInt8->Bool}(h:(dv 256).all (λn=>p<|gF n)=aa) b:p b=aa:=by have:=di.mp h b.toNat<|tn.mpr b.toNat_lt;simp_all
def adn b:oN.contains b=g5 b:=by have:=yG (p:=λb=>oN.contains b==g5 b) ⋯ b;show eq_of_beq this
def adp b:oO.contains b=eQ b:=by have:=yG (p:=λb=>oO.contains b==eQ b) ⋯ b;show eq_of_beq this
def ado b:jL.contains b=(g5 b||eQ b):=by have:=yG (p:=λb=>jL.contains b==(g5 b||eQ b)) ⋯ b;show eq_of_beq this
def H8(f:aE->Bool):bC:=λvs H Q _=>∃t:aE,vs=[.str<|S t]/\ac t<=cC/\aO H/\Q (.a1<|f t) H
def xK:bs P w base T 2 10 ["text"] (H8 bz):=by
 show T.uK.a8.bx XW λl be aN s H vs Q E i h=>?_;let{t,rfl,a,ak,(k)}:=h;show{_,(aT (dA (lu<|t8 i5 i5 bn (bB T.bB lL<|aK<|ah 0)<|fd T.ajL) (aV<|bm om) dJ)
 (aV<|bm<|ke (e2 Cy (dc x3 (ah 0) bn λ_ _=>D) (fd<|DF T)<|by with_unfolding_all rfl)<|jB<|bQ T.DC (L3 T) i<|cW (ah 0)<|fd<|uU T)),?_}
 have d:=cJ t;show{S t,D,(by rw[d];show hu a),_,_,D,D,_,D,?_};rw[d];match t,a,k with
 |[],a,k=>show{ap,D,H,b8 ak<|a4.refl H,k}
 |b::r,a,k=>
  rw[show decide ((1:Int)<=(↥(b::r):Nat))=aa from cn (by simp;omega)];show{_,_,D,D,_,D,?_};by_cases f:↥(b::r)<=12
  .rw[show decide (((↥(b::r):Nat):Int)<=12)=aa from cn ∅];show{_,_,_,D,D,(by rw[d];show hu a),dy (j:=0) D,b.toNat,_,D,D,_,D,?_};rw[C5,adn];have e:bz (b::r)=(g5 b&&(b::r).all jL.contains):=by
    unfold bz;rw[show decide (↥(b::r)<=LONG)=aa from cn f,pA];congr 2;funext c;show(ado c).symm
   rw[e]at k;cases g:g5 b with
   |false=>rw[g]at k;show{H,b8 ak<|a4.refl H,k}
   |true=>rw[g]at k;show{b::r,jL,D,a,ak,H,b8 ak<|a4.refl H,k}
  .rw[show decide (((↥(b::r):Nat):Int)<=12)=ap from ck ∅];have e:bz (b::r)=ap:=by
    unfold bz;rw[show decide (↥(b::r)<=LONG)=ap from ck f,wy,tE]
   rw[e]at k;show{H,b8 ak<|a4.refl H,k}
def same:a4 H H:=a4.refl H
structure dL(l:List aE):Prop where
 len:↥l<=cC
 bZ:∀t∈l,↥t<=cC
def Ia(f:List aE->Bool):bC:=λvs H Q _=>∃(a:ao) (l:List aE),vs=[.ref a]/\H a=I (.ai<|aG l)/\dL l/\aO H/\Q (.a1<|f l) H
def p6:bs P w base T 3 11 ["texts"] (Ia λl=>l.all bz):=by
 show T.oP.a8.bx Br λn be aN s H vs Q E f h=>?_;let{a,l,rfl,c,d,ak,(k)}:=h;show{_,(aV<|bm<|ir T.ir (oK D)<|aK<|f0 D Br.aJ (fN<|ah 0) (bo:=[("text",1)]) (fn (N:=MP) (b7:=a6 BJ)<|rfl) (λ_ _ _ _ _=>(c3 (i:=1) Br.aJ D<|ce D)) (λ_ _ _ _ _=>gu) λ_ _ _ _ _=>(bQ T.uK (xK T) f<|aK<|ah 1)),{a,D,{_,aB.of c},λaq b=>hv l (λt=>ab.str<|S t) (λt=>I<|.a1<|bz t) (aB.of c) b (hu d.len) (λi t acc g j m e _=>?_) ?_}}
 .show{D,t,D,d.bZ t<|d5 g,ak.ai,e _ D}
 .rw[i4];show{aq,l.map bz,D,aB.of<|by rw[ar,dh];rfl,H,b8 ak<|same.new b,?_};show nY▸k
def or(t:aE):(List ab):=[.int ↥t,.str<|S t]
def H':bC:=λvs H Q _=>∃t:aE,vs=[.str<|S t]/\ac t<=cC/\aO H/\∀p,H p=ag->Q (.ref p) (al H p<|.aZ<|or t)
def rN:bs P w base T 1 13 ["name"] H':=by show T.p8.a8.bx XM λc be aN s H vs Q E d h=>?_;let{t,rfl,b,ak,(k)}:=h;show{_,(aV<|bm<|rG<|cW (bB T.bB lL<|aK<|ah 0)<|ah 0),{S t,D,(by rw[cJ];show hu b),(by change 2<=bg;decide),λp a=>{_,aec ak (same.new a) a ar,?_}}};rw[cJ];show k p a
def fb(l:List aE):(List (d'×ab)):=l.map λt=>(ec<|S t,ab.a1 aa)
def Nw l:↥(fb l)=ac l:=by simp[fb]
def nk t:∀l,gq (fb l) (ec<|S t)=if l.contains t=aa then I (.a1 aa)else ag
 |[]=>rfl
 |a::r=>by
  by_cases h:a=t
  .subst h;rw[show fb (a::r)=(ec<|S a,ab.a1 aa)::fb r from D,pF D];simp
  .rw[show fb (a::r)=(ec<|S a,ab.a1 aa)::fb r from D,ml λe=>h<|k1<|v3 e,nk t r];have:(a::r).contains t=r.contains t:=by
    rw[ni,sY<|eo h,tD]
   rw[this]
def e3(l:List aE):=l.foldl cE []
def K0 l t:hs (fb l) (ec<|S t) (.a1 aa)=fb (cE l t):=by
 unfold cE;by_cases h:l.contains t=aa
 .rw[aM h];unfold hs;rw[wI,nk,aM h];unfold fb;simp
 .rw[aD h,Cb _ (by rw[nk,aD h])];unfold fb;simp
def aay{l:List aE}(h:l[i]? =I t):e3 (l.take<|i+1)=cE (e3<|l.take i) t:=by unfold e3;rw[j2,h,pw];rfl
def K4(l:List aE) t:↥(cE l t)<=ac l+1:=by
 unfold cE;split<;>simp
def xH:∀l,↥(e3 l)<=ac l:=by
 intro l;have:∀(m acc:List aE),↥(m.foldl cE acc)<=ac acc+ac m:=by
  intro m;induction m with
  |nil=>simp
  |cons a r b=>intro acc;have O:=b<|cE acc a;have Y:=K4 acc a;simp only[h7,cz];omega
 have:=this l [];simpa[e3]using this
def Ws:bC:=λvs H Q _=>∃(a:ao) (l:List aE),vs=[.ref a]/\H a=I (.ai<|aG l)/\dL l/\aO H/\∀p,H p=ag->Q (.ref p) (al H p<|.bJ<|fb<|e3 l)
def L6:bs P w base T 1 16 ["names"] Ws:=by
 show T.DV.a8.bx II λm be aN s H vs Q E g h=>?_;let{a,l,rfl,c,f,ak,(k)}:=h;show{_,(aT (co 1 xu)
 (aT (i3 gG D (fN<|ah 0) (c3 (i:=2) II.aJ D<|ce D)<|aV<|ub (by show f7 g) (ah 1) (ah 2) om D)
 (aV<|bm<|ah 1))),?_}
 show λd af=>{a,D,{_,aB.of<|bd af c},r9 (K:=K) (a:=a) (xs:=aG l) (λi σ U=>∃v,σ=[I<|.ref a,I<|.ref d,v]/\U=al H d (.bJ<|fb<|e3<|l.take i)) {_,D,D}
  (λi σ U _ {_,_,e}=>by rw[e];show aB.of<|bd af c) ?_ ?_}
 .rintro i x σ U b ⟨v,rfl,rfl⟩;obtain⟨t,j,rfl⟩:∃t,l[i]? =I t/\x=ab.str (S t):=by
   unfold aG at b;rw[cO]at b;cases e:l[i]? with
   |none=>rw[e]at b;cases b
   |some t=>rw[e]at b;show{t,D,(d3 b).symm}
  show{d,_,D,l0.k (k:=ec<|S t) ar ?_,_,D,?_}
  .rw[Nw,cc];have O:=xH<|l.take i;have Y:=f.len;rw[g8]at O;unfold cC at Y;omega
  .rw[ho,K0,aay j]
 .rintro σ U ⟨v,rfl,rfl⟩;rw[show(aG l).length=ac l by simp[aG],j1];show{_,DQ ak (same.new af) af ar,k d af}
def acP:∀d,d<36->jL[d]? =I (kW d):=⋯
def acK:∀d,d<26->oN[d]? =I (gF<|97+d):=⋯
def PI{d:Nat}(h:t[d]? =I b):kZ (S t).cps.toList d=I b.toNat:=dy (by change(t.map eI)[d]? =_;rw[cO,h];rfl)
def Mf:∀k,k<=f3 k
 |0=>bA _
 |k+1=>by have:=Mf k;have:=p4 k;rw[f3];omega
def U5 n i:kW (n/36^i%36)::hb i (n%36^i)=hb (i+1) (n%36^(i+1)):=by
 rw[hb];have a:n%36^(i+1)/36^i=n/36^i%36:=by rw[nU,z1]
 have b:=Nat.mod_mod_of_dvd n<|Nat.pow_dvd_pow 36<|jZ i;rw[a,b]
def nu(h:n<=1000):n<=bg:=by rw[cc];omega
def Wy:bC:=λvs H Q _=>∃n:Nat,vs=[.int n]/\n<=cC/\aO H/\Q (.str<|S<|fv n) H
def L1:bs P w base T 1 18 ["number"] Wy:=by
 show T.CV.a8.bx rt λB be aN s H vs Q E G h=>?_;let{n,rfl,C,ak,(k)}:=h;show{_,(aT (co 1 bn)
 (aT (co 2<|bB T.bB lL<|aK<|fd<|DF T)
 (aT (p1 gG (ez ou (ah 0) (ah 2)<|cR _) (aT (kQ (i:=0) rt.aJ D (ce D) (ah 2) uN)
  (aT (kQ (i:=2) rt.aJ D (ce D) (bB T.bB lL<|aK<|fd<|uU T) NK)
  (aV<|kQ (i:=1) rt.aJ D (ce D) bn Ds))))
 (aT (co 3<|c4 [])
 (aT (i3 gG D (ue D T.vh<|aK<|ah 1) (c3 (i:=4) rt.aJ D<|ce D) (aT (co 3<|eA us (dc x3 (fd<|uU T) (eA LP (ah 0)<|bB T.bB lL<|aK<|fd<|uU T) λ_ _=>D)<|ah 3)
  (aV<|kQ (i:=0) rt.aJ D (ce D) (bB T.bB lL<|aK<|fd<|uU T) NL)))
 (aV<|bm<|eA us (dc x3 (fd<|DF T) (ah 0) λ_ _=>D)<|ah 3)))))),?_}
 show{S oN,D,(by rw[cJ];show nu ⋯),?_};show{λm σ U=>∃(a b c:Int) (d j:Nat),σ=[I<|.int a,I<|.int b,I<|.int c,ag,ag]/\H=U/\a=j/\b=d/\c=(26*36^d:Nat)/\n=f3 d+j/\j=m,{n,_,_,_,0,n,D,D,D,D,D,(by simp[f3]),D},?_};rintro m σ U ⟨a,b,c,d,j,rfl,rfl,rfl,rfl,rfl,x,rfl⟩;show{_,_,D,D,_,D,?_};by_cases l:j<26*36^d
 .rw[ck ∅];have g:d<=cC:=by have:=Mf d;omega
  show{_,D,(by have:=cI d;omega),(by unfold cC at g;omega),?_};rw[hJ];show adY (lo:=0) (n:=d) (λi σ aw=>∃(a:Int) (z:Str) (v:Option ab),σ=[I<|.int a,I<|.int d,I<|.int (26*36^d:Nat),I<|.str z,v]/\z=S (hb i<|j%36^i)/\a=(j/36^i:Nat)/\H=aw) {_,_,ag,D,D,(),D} ?_ ?_
  .rintro i σ aw au ⟨a,z,v,rfl,rfl,rfl,rfl⟩;have af:j/36^i%36<36:=mb _ ⋯;show{S jL,D,(by rw[cJ];show nu ⋯),_,_,D,D,(by rw[cJ];change(0:Int)<((ac jL:Nat):Int);decide),_,_,(kW<|j/36^i%36).toNat,D,D,(by rw[cJ];show nu ⋯),?a2,_,_,D,D,?A,?_}
   case a2=>rw[cJ,show((ac jL:Nat):Int)=36 by decide,show((j/36^i:Nat):Int)%36=((j/36^i%36:Nat):Int) by omega];show PI (acP _ af)
   case A=>rw[cJ,no,cc];change 1+i<=_;unfold cC at g;omega
   show{S jL,D,(by rw[cJ];show nu ⋯),_,_,D,D,(by rw[cJ];show{⋯,⋯}),?_};show{_,_,_,D,?_,?_,D}
   .rw[show(⟨#[(kW<|j/36^i%36).toNat]⟩:Str)=S [kW<|j/36^i%36]from D,qu,q6,U5]
   .rw[cJ,show((ac jL:Nat):Int)=36 by decide,nU,<-nd];omega
  .rintro σ aw ⟨a,z,v,rfl,rfl,rfl,rfl⟩;have y:j/36^d<26:=pp (by rw[iz];show l);show{_,_,_,D,D,(by rw[cJ];show nu ⋯),PI<|acK _ y,_,_,D,D,?_,H,b8 ak same,?_}
   .rw[cJ,no,cc];change 1+d<=_;unfold cC at g;omega
   .rw[show(⟨#[(gF<|97+j/36^d).toNat]⟩:Str)=S [gF<|97+j/36^d]from D,qu,q6];rw[x,CX d j l]at k;show k
 .rw[cn ∅];have F:=p4 d;show{λo U=>∃(a b c:Int) (f e:Nat),o=[I<|.int a,I<|.int b,I<|.int c,ag,ag]/\H=U/\a=e/\b=f/\c=(26*36^f:Nat)/\n=f3 f+e/\e<j,λo U {a,b,c,f,e,O,Y,p,q,r,t,(u)}=>{e,u,a,b,c,f,e,O,Y,p,q,r,t,(rfl)},?_};show{_,_,D,D,?_};show{S jL,D,(by rw[cJ];show nu ⋯),_,_,D,D,.inr {by rw[cJ];decide,by rw[cJ];decide},?_};show{_,_,D,D,_,_,_,d+1,j-26*36^d,D,D,?_,?_,?_,?_,?_}
  .omega
  .omega
  .rw[cJ,show((ac jL:Nat):Int)=36 by decide,nU];omega
  .rw[f3];omega
  .omega
def cV:=20000
def jz(h:n<=cV):n+2<=cC:=by unfold cV at h;unfold cC;omega
def D4 c:∀t,↥(cutAt c t)<=ac t+1
 |[]=>by simp[cutAt]
 |b::r=>by
  have q:=D4 c r;by_cases h:b=c
  .subst h;rw[lK];simp;omega
  .let{w,ws,a,(d)}:=mO h r
   rw[a]at q;rw[d];simp at q⊢;omega
def qm c:∀t w,w∈cutAt c t->ac w<=ac t
 |[],w,h=>by simp[cutAt]at h;subst h;simp
 |b::r,w,h=>by
  by_cases q:b=c
  .subst q;rw[lK,bK]at h;obtain rfl|h:=h
   .simp
   .have:=qm b r w h;simp;omega
  .let{v,ws,d,(a)}:=mO q r
   rw[a,bK]at h;obtain rfl|h:=h
   .have:=qm c r v (by grind);simp;omega
   .have:=qm c r w (by grind);simp;omega
def pT(h:ac t<=cV):dL (cutAt c t):={by have:=D4 c t;have:=jz h;omega,λw ax=>by have:=qm c t w ax;have:=jz h;omega}
def dL.sub(h:dL l)(O:ac m<=ac l)(Y:∀t∈m,t∈l):dL m:={b5 O h.len,λt a=>h.bZ t<|Y t a}
def dL.drop(h:dL l) n:dL (l.drop n):=h.sub () (by grind)
def dL.take(h:dL l) n:dL (l.take n):=h.sub (by simp;omega) (by grind)
def pH c t:(pg (S t)<|S [c]).map ab.str=aG (cutAt c t):=by
 rw[VR,dh];rfl
def pS(h:t.length<=cV):(S t).length+2<=bg:=by rw[cJ];show hu<|jz h
def WA:bC:=λvs H Q _=>∃(a:ao) (l:List aE),vs=[.ref a]/\H a=I (.ai<|aG l)/\dL l/\aO H/\Q (.str<|S<|fresh l) H
def aaA l t:t∈e3 l↔t∈l:=by unfold e3;rw[DL];simp
def aaC l t:(e3 l).contains t=l.contains t:=by
 rw[ey,ex,ex,aaA]
def xJ:bs P w base T 2 19 ["names"] WA:=by
 show T.uG.a8.bx IG λt be aN s H vs Q E e h=>?_;let{a,l,rfl,r,n,ak,(k)}:=h;show{_,(aT (co 1<|bQ T.DV (L6 T) e<|aK<|ah 0)
 (aT (co 2 bn)
 (aT (p1 gG (kP<|oo (by show f7 e) (bQ T.CV (L1 T) e<|aK<|ah 2)<|ah 1)<|aV<|kQ (i:=2) IG.aJ D (ce D) bn Ds)
 (aV<|bm<|bQ T.CV (L1 T) e<|aK<|ah 2)))),?_}
 show{a,l,D,r,n,ak,λd af=>?_};show{λm σ U=>∃(c:Int) (i:Nat),σ=[I<|.ref a,I<|.ref d,I<|.int c]/\al H d (.bJ<|fb<|e3 l)=U/\c=i/\(∀j,j<i->fv j∈l)/\m=ac l+1-i,{_,_,0,D,D,D,λj g=>absurd g<|ti j,D},?_};rintro m σ U ⟨c,i,rfl,rfl,rfl,au,rfl⟩;have hle:=DR au;have hlen:=n.len;show{i,D,∅,ak.bJ,d,_,D,fX.k (k:=ec<|S<|fv i) ar,_,D,?_};rw[nk,aaC];by_cases f:fv i∈l
 .rw[aM<|ex.mpr f];show{λo U=>∃(c:Int) (b:Nat),o=[I<|.ref a,I<|.ref d,I<|.int c]/\al H d (.bJ<|fb<|e3 l)=U/\c=b/\(∀j,j<b->fv j∈l)/\b=i+1,λo U {c,b,O,Y,p,q,(u)}=>{ac l+1-b,∅,c,b,O,Y,p,q,D},?_};show{_,_,D,D,_,i+1,D,D,∅,λj g=>?_,D};grind
 .rw[aD λh=>f<|ex.mp h];show{i,D,∅,ak.bJ,H,b8 ak<|same.new af,?_};rw[uV au f]at k;show k
def A'(A:bf)(f:aE->Option (List aE)):bC:=λvs H Q E=>∃t:aE,vs=[.str<|S t]/\ac t<=cV/\aO H/\(∀l,f t=I l->∀p,H p=ag->Q (.ref p) (al H p<|.ai<|aG l))/\(f t=ag->fj (A.c 1) (-1) H E)
def aaS:bs P w base T 5 20 ["text"] (A' A s1):=by
 show T.MA.a8.bx XJ λi be aN s H vs Q E e h=>?_;let{t,rfl,d,ak,f,(g)}:=h;show{_,(aT (dA (ez hU (ah 0) (c4 [])<|cR _) (aV<|bm<|eg gv) dJ)
 (aT (co 1<|p2 (ah 0)<|c4 [32])
 (aT (dm<|d0 T.ie (iJ T) e dB<|aK<|bQ T.oP (p6 T) e<|aK<|ah 1)
 (aV<|bm<|ah 1)))),?_}
 show{D,_,D,?_};rw[hd];by_cases h:t=[]
 .subst h;show{cI _,λp a=>{_,fe ak (same.new a) a ar,f [] D p a}}
 .rw[ck h];show{{_,D},S t,S [32],D,D,D,pS d,λp a=>?_};rw[pH];show{p,cutAt 32 t,D,ar,pT d,ak.ai,_,D,ak.ai,(λb=>?_),(λb=>ej ak (same.new a) ?_)}
  .show{_,fe ak (same.new a) a ar,f _ ?_ p a};unfold s1;rw[aD (by cases t with|nil=>show absurd rfl h|cons _ _=>simp),aM b]
  .show g ?_;unfold s1;rw[aD (by cases t with|nil=>show absurd rfl h|cons _ _=>simp),aD λq=>by have c:(cutAt 32 t).all bz=ap:=b;rw[q]at c;cases c]
def Wq(A:bf):bC:=λvs H Q E=>∃(t:aE) (m:Nat),vs=[.str<|S t,.int m]/\ac t<=cV/\aO H/\(∀l,hS t m=I l->∀p,H p=ag->Q (.ref p) (al H p<|.ai<|aG l))/\(hS t m=ag->fj (A.c 1) (-1) H E)
def yl xs(n:Nat):lJ xs (I n) ag=xs.drop n:=by
 unfold lJ;rw[HT.rv];by_cases h:n<=ac xs
 .rw[tl h,wd];show gn▸bA _
 .rw[SH ∅,mc<|bA _,mc ∅];simp
def tK l n:(aG l).drop n=aG (l.drop n):=by unfold aG;simp
def rE c(t:aE):[c].isPrefixOf t=decide (t.head?=I c):=by
 cases t with
 |nil=>rfl
 |cons b r=>rw[ey];simp[List.isPrefixOf];show eq_comm
def CF:bs P w base T 5 21 ["text","most"] (Wq A):=by
 show T.xA.a8.bx XH λo be aN s H vs Q E c h=>?_;let{t,m,rfl,g,ak,k,(d)}:=h;show{_,(aT (dm<|d0 T.ie (iJ T) c dB<|aK<|p9 (ah 0)<|c4 [47])
 (aT (dA (ez hU (ah 0) (c4 [47])<|cR _) (aV<|bm<|eg gv) dJ)
 (aT (co 2<|hR kL (p2 (ah 0)<|c4 [47]) (hc bn) iH)
 (aT (dm<|d0 T.ie (iJ T) c dB<|aK<|ke (e2 i5 (bB T.bB d9<|aK<|ah 2) (ah 1)<|cR _)<|jB<|bQ T.oP (p6 T) c<|aK<|ah 2)
 (aV<|bm<|ah 2))))),?_}
 show{{_,D},_,_,D,D,?_};rw[oc,rE];show{_,D,ak,(λa=>?_),(λa=>ej ak same ?_)}
 .have l:t.head?=I 47:=qP a;show{D,_,D,?_};rw[hd];by_cases h:t=[47]
  .subst h;show{cI _,λp b=>{_,fe ak (same.new b) b ar,k [] D p b}}
  .rw[ck h];have e:hS t m=if((cutAt 47 t).drop 1).length<=m/\((cutAt 47 t).drop 1).all bz=aa then I ((cutAt 47 t).drop 1)else ag:=by
    unfold hS;rw[aM l,aD h]
   show{{_,D},S t,S [47],D,D,D,pS g,λq n=>?_};rw[pH];show{_,D,q,_,D,aB.of ar,λp b=>?_};have j:=(er b).2;rw[show(1:Int)=((1:Nat):Int)from D,yl,tK];have aA:a4 H (al (al H q<|.ai<|aG<|cutAt 47 t) p<|.ai<|aG<|(cutAt 47 t).drop 1):=(same.new n).new b;show{p,_,D,.inl<|aB.of ar,_,_,D,D,_,D,?_};rw[show(aG<|(cutAt 47 t).drop 1).length=↥((cutAt 47 t).drop 1) by simp[aG]];by_cases i:↥((cutAt 47 t).drop 1)<=m
   .rw[cn ∅];show{p,(cutAt 47 t).drop 1,D,ar,(pT g).drop 1,ak.ai.ai,_,D,ak.ai.ai,(λa=>?_),(λa=>ej ak aA ?_)}
    .rw[aM {i,(a)}]at e;show{_,fe ak aA j ar,k _ e p j}
    .rw[aD λq=>by have f:((cutAt 47 t).drop 1).all bz=ap:=a;rw[q.2]at f;cases f]at e;show d e
   .rw[ck ∅];rw[aD λq=>i q.1]at e;show{_,D,ak.ai.ai,(λa=>by cases a),(λ_=>ej ak aA<|d e)}
 .show d ?_;unfold hS;rw[aD<|qQ a]
def uL t:=(g0 t).isSome
def aa2:bs P w base T 2 22 ["text"] (H8 uL):=by
 show T.NI.a8.bx XV λB be aN s H vs Q E z h=>?_;let{t,rfl,p,ak,(k)}:=h;show{_,(aT (dA (t7 (lu<|t8 i5 i5 bn (bB T.bB lL<|aK<|ah 0)<|bB T.bB lL<|aK<|A0 T.Ev Ed<|aK<|fd T.QE)<|xo<|lu<|gN<|bQ T.DC (L3 T) z<|cW (ah 0)<|fd<|adS T).hP (aV<|bm om) dJ)
 (aV<|bm<|ke (e2 hU (A0 T.Ev Ed<|aK<|A2 T.Ex Ef<|aK<|ah 0) (ah 0)<|cR _)<|jB<|e2 i5 (A2 T.Ex Ef<|aK<|ah 0) (fd T.QE)<|cR _)),?_}
 have i:=cJ t;have o:↥(S<|dt 1000000)=7:=by decide+kernel
 have key:uL t=(decide (1<=↥t/\↥t<=7)&&(t.all eQ&&(decide (dt (val t)=t)&&decide (val t<=1000000)))):=by
  unfold uL;rw[tO];by_cases d:t≠[]/\↥t<=7/\(∀b∈t,eQ b=aa)/\dt (val t)=t/\val t<=h5
  .rw[aM d];let{O,Y,f,a,(x)}:=d;have g:1<=↥t:=by cases t with|nil=>show absurd rfl O|cons _ _=>simp
   rw[cn ({g,(Y)}:1<=↥t/\↥t<=7),di.mpr f,cn a,cn<|show val t<=1000000 from x];rfl
  .rw[aD d];symm;apply Bool.eq_false_iff.mpr;intro q;simp only[cf,dg,di]at q;show d {by intro e;subst e;simp at q,q.1.2,q.2.1,q.2.2.1,q.2.2.2}
 rw[key]at k;have v:kz (toString<|(1000000:Int))=S (dt 1000000):=wY 1000000;show{S t,D,(by rw[i];show hu p),_,_,D,D,_,D,?_};rw[i];have l:∀b:Bool,b=ap->Q (.a1 b) H->nH H Q (.a1 ap) H:=λb j q=>{H,b8 ak same,by subst j;show q};by_cases O:1<=↥t
 .rw[cn<|show(1:Int)<=(↥t:Nat) by omega];show{_,D,⋯,_,D,(by rw[v,o];show nu ⋯),_,_,D,D,_,D,?_};rw[v,o];by_cases m:↥t<=7
  .rw[cn<|show((↥t:Nat):Int)<=((7:Nat):Int) by omega];show{t,oO,D,p,ak,_,D,?_};have af:t.all oO.contains=t.all eQ:=by
    congr 1;funext b;show adp b
   rw[af];cases n:t.all eQ with
   |false=>show l _ (by rw[n];simp) k
   |true=>
    have f:=di.mp n;have g:t≠[]:=by intro e;subst e;simp at O
    have y:(val t:Int).natAbs.log2<1920:=by
     have j:val t<10^7:=by
      have:=(mN<|val t).2.1;have bound:∀(u:aE),(∀b∈u,eQ b=aa)->val u<10^↥u:=by
       intro u;induction u using BZ with
       |kc=>intro _;decide
       |KW u b A=>intro r;have:=A (λc d=>r c<|by simp[d]);have j:=(sc b).mp<|r b ();rw[wH,b0,lb,nU];omega
      show dW (bound t f)<|v' ⋯ m
     have:(val t:Int).natAbs=val t:=Tt _;rw[this];obtain e|e:=z5<|val t
     .rw[e];decide
     .show(SJ ∅).mpr<|wb j<|dW (show 10^7<2^24 by decide)<|v' ⋯ ⋯
    show{S t,_,D,Dt f g ∅,(by rw[i];omega),_,D,y,D,_,D,?_};rw[show(kz<|toString ((val t:Nat):Int))=S (dt<|val t)from wY _,hd];by_cases a:dt (val t)=t
    .rw[cn a];show{S t,_,D,Dt f g ∅,(by rw[i];omega),_,_,D,D,H,b8 ak same,?_};rw[cn ({O,(m)}:1<=↥t/\↥t<=7),n,cn a,pA,pA,pA]at k;have e:decide (((val t:Nat):Int)<=1000000)=decide (val t<=1000000):=by
      rw[ey,dg,dg];omega
     change Q (.a1<|decide (((val t:Nat):Int)<=1000000)) H;rw[e];show k
    .rw[ck a];show l _ (by rw[ck a];simp) k
  .rw[ck<|show ¬((↥t:Nat):Int)<=((7:Nat):Int) by omega];show l _ (by rw[ck λq=>m q.2];rfl) k
 .rw[ck<|show ¬(1:Int)<=(↥t:Nat) by omega];show{_,D,l _ (by rw[ck λq=>O q.1];rfl) k}
def V8(A:bf):bC:=λvs H Q E=>∃t:aE,vs=[.str<|S t]/\ac t<=cC/\aO H/\(∀n,g0 t=I n->Q (.int n) H)/\(g0 t=ag->fj (A.c 1) (-1) H E)
def LU:bs P w base T 5 23 ["text"] (V8 A):=by
 show T.AW.a8.bx Xz λk be aN s H vs Q E c h=>?_;let{t,rfl,f,ak,i,(j)}:=h;show{_,(aT (dm<|d0 T.ie (iJ T) c dB<|aK<|bQ T.NI (aa2 T) c<|aK<|ah 0)
 (aV<|bm<|A2 T.Ex Ef<|aK<|ah 0)),?_}
 show{t,D,f,ak,_,D,ak,(λb=>?_),(λb=>ej ak same ?_)}
 .unfold uL at b
  let{n,(a)}:=zV.mp b
  let{O,Y,d,(e)}:=wQ a
  have l:↥t<=7:=by
   rw[tO]at a;split at a
   .rename_i h;show h.2.1
   .cases a
  have g:val t=n:=by rw[<-O];show(mN n).2.2.2
  show{S t,_,D,Dt d e ∅,(by rw[cJ];omega),H,b8 ak same,?_};rw[g];show i n a
 .show j ?_;unfold uL at b;simp_all
def adX{g:iN}{cj:fq}{aq:m1} t(a:Nat->L2.St->aP->Prop)(k:a 0 σ H)
  (n:∀i b σ H,t[i]? =I b->a i σ H->g (.str<|S [b]) σ H λf aw=>cj {aq with b1:=a<|i+1,e9:=a<|i+1,hg:=aq.b1} f aw) (af:∀σ H,a ↥t σ H->aq.b1 σ H):
  ∃W:Nat->Nat->L2.St->aP->Prop,(∃m,W 0 m σ H)/\∀i m σ H,W i m σ H->
   ((sy<|S t).ib i H/\aq.b1 σ H)\/((sy<|S t).go i H/\∃N:L2.St->aP->Prop,(∀j U,N j U->∃h,h<m/\W (i+1) h j U)/\∀x U,(sy<|S t).j6 i H x U->g x σ U λf aw=>cj {aq with b1:=N,e9:=N,hg:=aq.b1} f aw):=by
 have hz:(S t).cps.size=ac t:=cJ t;show oC a k (λi σ H au _=>by change i<_;omega) (λσ H _=>by change(S t).cps.size<=_;omega) (λi x σ H U au p y=>?_) af;let{rfl,c,l,(rfl)}:=y;have d:(t.map eI)[i]? =I c:=by
  have:(S t).cps[i]? =(t.map eI)[i]? :=by unfold S;simp
  show this▸l
 rw[cO]at d;cases e:t[i]? with
 |none=>rw[e]at d;cases d
 |some b=>rw[e]at d;cases d;show n i b σ U e p
def ox:(List (d'×ab)):=vc.map λb=>(iy b.toNat,ab.str<|S [b])
def acW:∀i,i<45->∀b,vc[i]? =I b->hs (ox.take i) (iy b.toNat) (ab.str<|S [b])=ox.take (i+1):=by
 have h:(dv 45).all (λi=>(vc[i]?).all λb=>decide (hs (ox.take i) (iy b.toNat) (ab.str<|S [b])=ox.take (i+1)))=aa:=by decide+kernel
 intro i au b a;have:=di.mp h i<|tn.mpr au;grind
def acV b:gq ox (iy b.toNat)=if fk b=aa then I (ab.str<|S [b])else ag:=by have:=yG (p:=λb=>decide (gq ox (iy (b.toNat:Int))=if fk b=aa then I (ab.str<|S [b])else ag)) ⋯ b;show qP this
def WB:(bC):=λvs H Q _=>vs=[]/\aO H/\∀p,H p=ag->Q (.ref p) (al H p<|.bJ ox)
def aaW:bs P w base T 1 24 [] WB:=by
 show T.Nq.a8.bx IH λe be aN s H vs Q E c h=>?_;let{rfl,ak,(k)}:=h;show{_,(aT (co 0 xu)
 (aT (i3 gG D (Ch<|fd<|adQ T) (c3 (i:=1) IH.aJ D<|ce D)<|aV<|ub (by show f7 c) (ah 0) (vi T.vi Pj<|aK<|ah 1) (ah 1) D)
 (aV<|bm<|ah 0))),?_}
 show λd af=>{_,D,adX vc (λi σ U=>∃v,σ=[I<|.ref d,v]/\U=al H d (.bJ<|ox.take i)) {_,D,D} ?_ ?_}
 .rintro i b σ U a ⟨v,rfl,rfl⟩;have au:i<45:=(ee.mp a).1;show{_,D,D,d,_,D,l0.k (k:=iy (b.toNat:Int)) ar ?_,_,D,?_}
  .rw[cc,g8];omega
  .rw[ho,acW i au b a]
 .rintro σ U ⟨v,rfl,rfl⟩;show{_,DQ ak (same.new af) af<|by rw[ar];rfl,k d af}
def V2:bC:=λvs H Q _=>∃b:UInt8,vs=[.int b.toNat]/\aO H/\Q (.str<|S [if m6 b=aa then 63 else 33]) H
def aaJ:bs P w base T 1 25 ["byte"] V2:=by
 show T.It.a8.bx XB λc be aN s H vs Q E d h=>?_;let{b,rfl,ak,(k)}:=h;show{_,(aV<|bm<|rH (t8 i5 i5 bn (ah 0) bn) (fd<|adP T)<|fd<|N0 T),?_};show{_,_,D,D,_,D,?_};have a:=Ir b;by_cases O:32<=b.toNat
 .rw[cn<|show(32:Int)<=(b.toNat:Nat) by omega];show{_,_,D,D,_,D,?_};by_cases Y:b.toNat<=126
  .rw[cn<|show((b.toNat:Nat):Int)<=126 by omega];rw[aM<|a.mpr {O,(Y)}]at k;show{H,b8 ak same,k}
  .rw[ck<|show ¬((b.toNat:Nat):Int)<=126 by omega];rw[aD λq=>Y (a.mp q).2]at k;show{H,b8 ak same,k}
 .rw[ck<|show ¬(32:Int)<=(b.toNat:Nat) by omega];rw[aD λq=>O (a.mp q).1]at k;show{_,D,H,b8 ak same,k}
def HS{B:Type}:∀l:List B,(l.map λ_=>1).sum=ac l
 |[]=>rfl
 |a::r=>by rw[cx,z7,HS r,cz,Gr]
def N9{B C:Type}(f:B->C):∀l:List B,(l.map λb=>[f b]).flatten=l.map f
 |[]=>rfl
 |a::r=>by rw[cx,List.flatten_cons,N9 f r];rfl
def Er(t:aE):(List ab):=t.map λb=>.int b.toNat
def WJ:bC:=λvs H Q _=>∃(a:ao) (t:aE),vs=[.ref a]/\H a=I (.ai<|Er t)/\ac t<=cV/\aO H/\Q (.str<|S<|t.map b4) H
def aaI:bs P w base T 2 26 ["row"] WJ:=by
 show T.HI.a8.bx w' λo be aN s H vs Q E f h=>?_;let{a,t,rfl,g,j,ak,(k)}:=h;show{_,(aT (xp (i:=1) w'.aJ D (nb D)<|ail T.Nq (aaW T) f)
 (aV<|bm<|Cm (c4 [])<|f0 D w'.aJ (fN<|ah 0) (bo:=[("byte",2)]) (fn (N:=MI) (b7:=a6 BC) ⋯) (λ_ _ _ _ _=>(c3 (i:=2) w'.aJ D<|ce D)) (λ_ _ _ _ _=>gu) λ_ _ _ _ _=>(Ln (by show f7 f) (ah 1) (ah 2) (bQ T.It (aaJ T) f<|aK<|ah 2) {D,D,D,(rfl)}))),?_}
 show{D,ak,λd af=>{{_,D},a,D,{_,aB.of<|bd af g},λaq c=>hv t (λb=>.int (b.toNat:Int)) (λb=>I<|.str<|S [b4 b]) (aB.of<|bd af g) c (hu<|by have:=jz j;omega) (λi b acc p m n l _=>?_) ?_}}
 .show{D,d,D,.inl {_,.inl<|bd c ar},b,D,ak.bJ.ai,_,fX.k (k:=iy (b.toNat:Int))<|bd c ar,?_};rw[acV];have e:(if fk b=aa then I (ab.str<|S [b])else ag).getD (ab.str<|S [if m6 b=aa then 63 else 33])=ab.str (S [b4 b]):=by
   unfold b4;by_cases h:fk b=aa
   .rw[aM h,aM h];rfl
   .rw[aD h,aD h];rfl
  rw[e];show l _ D
 .rw[i4];show{S [],aq,t.map λb=>S [b4 b],D,D,.inl<|aB.of<|by rw[ar,dh];rfl,?_,H,b8 ak<|(same.new af).new c,?_}
  .rw[dh];have O:((t.map λb=>↥(S [b4 b]))).sum=↥t:=by
    have:(λb=>↥(S [b4 b]))=λ_:UInt8=>1:=by funext b;show cJ _
    rw[this];show HS t
   change((t.map λb=>↥(S [b4 b]))).sum+_<=_;rw[O,cJ];have:=jz j;unfold cC at this;simp;omega
  .have e:s2 (S []) (t.map λb=>S [b4 b])=S (t.map b4):=by
    have:=Do []<|t.map λb=>[b4 b];rw[dh]at this;rw[show(t.map λb=>S [b4 b])=t.map (S∘λb=>[b4 b])from D,this,DD];congr 1;show N9 b4 t
   rw[e];show k
def lx(l:List Nat):=l.map λ(n:Nat)=>ab.int n
def V6:bC:=λvs H Q _=>∃t:aE,vs=[.str<|S t]/\ac t<=cV/\aO H/\∀p,H p=ag->Q (.ref p) (al H p<|.ai<|lx<|toldText t)
def rO:bs P w base T 1 27 ["text"] V6:=by
 show T.qr.a8.bx Bt λn be aN s H vs Q E r h=>?_;let{t,rfl,f,ak,(k)}:=h;show{_,(aV<|bm<|eA lw (eg<|aK<|bB T.bB lL<|aK<|ah 0)<|f0 D Bt.aJ (Ch<|ah 0) (bo:=[("sign",1)]) (fn (N:=MR) (b7:=a6 BL) ⋯) (λ_ _ _ _ _=>(c3 (i:=1) Bt.aJ D<|ce D)) (λ_ _ _ _ _=>gu) λ_ _ _ _ _=>(vi T.vi Pj<|aK<|ah 1)),?_};have g:=jz f;show{S t,D,(by rw[cJ];show hu ∅),(by change 1<=bg;decide),λp j=>?_};show{_,D,λaq a=>Nk t eI (λb=>I<|.int (b.toNat:Int)) (hu ∅) a (λi b acc o l m d _=>?_) ?_}
 .show{D,_,D,D,d _ D}
 .rw[i4];show{p,aq,_,_,D,D,bd a ar,ar,?_,λq c=>{_,fe ak (((same.new j).new a).new c) ?_<|by rw[ar],?_}}
  .change 1+↥(hm _ t)<=_;rw[bt,cc];unfold cC at g;omega
  .show(er (er c).2).2
  .have e:[ab.int (↥(S t):Nat)]++t.map (λb=>ab.int (b.toNat:Int))=lx (toldText t):=by
    rw[cJ];unfold lx toldText;rw[cx,dh];rfl
   rw[e];show k q (er (er c).2).2
def V4:bC:=λvs H Q _=>∃(a:ao) (l:List aE),vs=[.ref a]/\H a=I (.ai<|aG l)/\ac l<=100/\(∀t∈l,ac t<=100)/\aO H/\∀p,H p=ag->Q (.ref p) (al H p<|.ai<|lx<|FF l)
def U1{l:List aE}(h:l[i]? =I t):(l.take<|i+1).flatMap toldText=(l.take i).flatMap toldText++toldText t:=by rw[j2,h];simp
def HB:∀(l:List aE),(∀t∈l,ac t<=100)->↥(l.flatMap toldText)<=101*ac l
 |[],_=>by simp
 |t::r,h=>by
  have q:=HB r (by grind);have:=h t ();rw[h8,b0,cz];have e:↥(toldText t)=ac t+1:=by simp[toldText]
  omega
def L':bs P w base T 2 28 ["texts"] V4:=by
 show T.EB.a8.bx IJ λC be aN s H vs Q E A h=>?_;let{a,l,rfl,g,F,n,ak,(k)}:=h;show{_,(aT (co 1<|eg<|aK<|bB T.bB d9<|aK<|ah 0)
 (aT (i3 gG D (fN<|ah 0) (c3 (i:=2) IJ.aJ D<|ce D)<|aV<|dm<|rW (ah 1)<|aK<|bQ T.qr (rO T) A<|aK<|ah 2)
 (aV<|bm<|ah 1))),?_}
 show{a,_,D,.inl<|aB.of g,(by change 1<=bg;decide),λp f=>?_};rw[show(aG l).length=ac l by simp[aG]];show{a,D,{_,aB.of<|bd f g},r9 (K:=K) (a:=a) (xs:=aG l) (λi σ U=>∃v,σ=[I<|.ref a,I<|.ref p,v]/\a4 H U/\aO U/\U p=I (.ai<|lx<|↥l::(l.take i).flatMap toldText)) {_,D,same.new f,ak.ai,(by rw[ar];rfl)}
  (λi σ U _ {_,_,aj,_}=>aB.of<|aj _ _ g) ?_ ?_}
 .rintro i x σ U c ⟨v,rfl,aj,j,d⟩;obtain⟨t,y,rfl⟩:∃t,l[i]? =I t/\x=ab.str (S t):=by
   unfold aG at c;rw[cO]at c;cases e:l[i]? with
   |none=>rw[e]at c;cases c
   |some t=>rw[e]at c;show{t,D,(d3 c).symm}
  have G:ac t<=100:=n t<|d5 y;show{.inl {D,_,aB.of d},t,D,(by unfold cV;omega),j,λq r=>{p,q,_,_,D,D,bd r d,ar,?_,_,D,?_,j.ai.ai,?_}}
  .have O:=HB (l.take i) λu B=>n u<|wi B;have Y:↥(toldText t)=ac t+1:=by simp[toldText]
   rw[g8]at O;unfold lx;rw[bt,bt,cz,cc];omega
  .intro b o m;have z:b≠p:=b3 m f;rw[aI z];show bd r<|aj b o m
  .rw[ar,U1 y];unfold lx;rw[<-dX];rfl
 .rintro σ U ⟨v,rfl,aj,j,d⟩;rw[show(aG l).length=ac l by simp[aG],j1]at d;show{_,fe ak aj f d,k p f}
variable{P:bS}{w:bL}{K:bR}{mg:Str->Option az}{base:bG}{A:bf}
def IB P w a l(h:bG):=h.SetOf (F9 P w) a (λq=>decide (q∈ek l)) ↥(ek l)
def yO(P:bS)(w:bL)(a:ao)(l:List Str):(fR):=.ext<|IB P w a l
def Xs(e:IB P w a l h):em P w H h a (yO P w a l):=by
 let{o,es,ep,t,b,(more)}:=e
 show{{o,es,ep,t,b,(more)},{o,(b)},λO Y q k=>by
  let{o,es,ep,t,b,(more)}:=q
  show{o,es,ep,t,k _ b,more}}
inductive qsaip(K:b9)(P:bS)(w:bL)(xs:List ab)(H:aP)(Q:dR):Prop|mk(a:ao)(l:List Str)(_:xs=[.ref a])(_:aB K H a (l.map ab.str))(_:↥l+1<4096)(_:∀p,H p=ag->Q (.ref p) (al H p<|yO P w p l))
def aip(m:X.hf=aa):fz X (.type "set") (qsaip X.K X.prog X.w):=by
 intro pins s σ H vs ay Q J r h;let{a,l,rfl,y,hlen,(q)}:=h
 let{aW,j,x,_}:=J.list y
 rw[bF.rA r];have c:=by have:=↥j;rw[bt]at this;show this.symm
 have n:∀(i:Nat) v,aW.toArray[i]? =I v->(F9 X.prog X.w).is ((l[i]?).getD nR) v=aa/\v.scannable=aa:=by
  intro i v z;have g:=‹z›
  have au:i<↥l:=c▸(ee.mp g).1;let{u,f,(A)}:=j.get (by rw[cO,cA au];rfl);rw[g]at f;cases f;let{t,(rfl)}:=A;show cA au▸{MX X.prog X.w l[i] t,D}
 show Xu (F9 X.prog X.w) (λi=>(l[i]?).getD nR) n (J.ok.af m) x.isList (by rw[ed,c];show hlen) λh' tk d o=>?_;have k:(dv aW.toArray.size).map (λi=>(l[i]?).getD nR)=l:=by
  rw[ed,c];apply wn
  .simp
  .intro i O Y;simp at O⊢;grind
 rw[k]at d;show{.ref _,al H s⁻¹<|yO X.prog X.w s⁻¹ l,J.gx (λb u e=>o b u e) (bA _)<|Xs d,D,q _<|J.a0.fresh<|bA _}
inductive qsais(P:bS)(w:bL)(xs:List ab)(H:aP)(Q:dR):Prop|mk(a:ao)(l:List Str)(_:xs=[.ref a])(_:H a=I (yO P w a l))(_:ac l+1<4096)(_:Q (.int ↥(ek l)) H)
def ais:fz X (.builtin "len") (qsais X.prog X.w):=by
 intro pins s σ H vs ay Q J r h;let{a,l,rfl,f,hlen,(q)}:=h;rw[bF.rA r]
 let{b,_}:=J.a0 a _ f
 let{o,e,(g)}:=b.objOf
 let{hex,es,ep,t,af,_,_,d,c}:=g
 have hle:=xG l;show call_len_set e hex af c ∅ {.int _,H,J.eL _,{_,by rw[d]},q}
def aaw l:↥(ek<|l.map S)=↥(e3 l):=by
 have:∀(m acc:List aE),((m.map S).foldl (λacc k=>if k∈acc then acc else acc++[k])<|acc.map S)=(m.foldl cE acc).map S:=by
  intro m;induction m with
  |nil=>intro acc;rfl
  |cons a r d=>
   intro acc;rw[cx,h7,h7,<-d];unfold cE;by_cases h:a∈acc
   .rw[aM<|ct.mpr {a,h,(rfl)},aM<|ex.mpr h]
   .rw[aD λq=>by let{b,c,(e)}:=ct.mp q;show h<|k1 e▸c,aD λq=>h<|by grind,dX];rfl
 have h:=this l [];have Y:ek (l.map S)=(e3 l).map S:=h;grind
def LS:∀(l acc:List aE),↥(l.foldl cE acc)=ac acc+ac l↔(distinct l=aa/\∀t∈l,t∉acc)
 |[],acc=>by simp[distinct]
 |a::r,acc=>by
  have hle:∀(m acc:List aE),↥(m.foldl cE acc)<=ac acc+ac m:=by
   intro m;induction m with
   |nil=>intro acc;simp
   |cons a r b=>intro acc;have O:=b<|cE acc a;have Y:=K4 acc a;simp only[h7,cz];omega
  rw[h7,distinct,cf,GV];by_cases h:acc.contains a=aa
  .have e:cE acc a=acc:=by unfold cE;rw[aM h]
   rw[e];constructor
   .intro q;have:=hle r acc;simp at q;omega
   .intro q;show absurd (ex.mp h)<|q.2 a ()
  .have e:cE acc a=acc++[a]:=by unfold cE;rw[aD h]
   rw[e];have b:=LS r<|acc++[a];rw[b0,lb]at b;have d:↥(r.foldl cE<|acc++[a])=ac acc+↥(a::r)↔↥(r.foldl cE<|acc++[a])=ac acc+1+ac r:=by rw[cz];omega
   rw[d,b];constructor
   .rintro⟨O,Y⟩;show{{?_,O},λt c=>?_}
    .rw[<-kC];intro q;show Y a (ex.mp q) ()
    .obtain rfl|c:=bK.mp c
     .intro q;show h<|ex.mpr q
     .intro q;show Y t c (by simp[q])
   .grind
def aaB l:decide (↥(e3 l)=ac l)=distinct l:=by have:=LS l [];rw[ey,dg];simp at this;show this
def WT:bC:=λvs H Q _=>∃(a:ao) (l:List aE),vs=[.ref a]/\H a=I (.ai<|aG l)/\ac l<=4000/\aO H/\Q (.a1<|distinct l) H
def Ma(T:cS K mg A):c6 P w K mg base (cL P w) 1 (A.f 12) (A.d 12) ["texts"] WT:=by
 show T.ER.a8.Me Ye (λvs H Q E h=>?_) λg be aN s H vs Q E j h=>?_
 .let{a,l,rfl,_}:=h;rfl
 .let{a,l,rfl,b,i,ak,(k)}:=h;show{_,(aV<|bm<|e2 hU (bB T.bB ais<|hT (HK T.PF (aip D)<|hT (ah 0) gv) gv) (bB T.bB d9<|hT (ah 0) gv)<|cR _),{a,l.map S,D,aB.of<|by rw[b,dh];rfl,(by rw[bt];omega),λp c=>{p,l.map S,D,ar,(by rw[bt];omega),a,_,D,.inl<|aB.of<|bd c b,D,H,b8 ak<|same.new c,?_}}};rw[aaw,dj,se];have e:((↥(e3 l):Int)==(↥l:Int))=distinct l:=by
   rw[<-aaB,ey,ei,dg];omega
  show e▸k
variable{P:bS}{w:bL}{K:bR}{mg:Str->Option az}{base:bG}{A:bf}(T:cS K mg A)
def d6(t:aE):(eX):=.tuple [.int ↥t,.str<|S t]
def Pq:∀a,bytesBefore a a=ap
 |[]=>rfl
 |b::r=>by have q:=Pq r;simp[bytesBefore,q]
def uD a b:gP (d6 a) (d6 b)=fi a b:=by
 unfold d6 fi;rw[gPt,f6];by_cases h:ac a=ac b
 .rw[aM<|by simp[fJ,h],f6];by_cases e:a=b
  .subst e;rw[aM<|by simp[fJ],f6,Pq];simp
  .have bI:¬fJ (.str<|S a) (.str<|S b)=aa:=by
    simp[fJ];show λq=>e<|k1 q
   rw[aD bI,gPs,M8 a b h];simp[h]
 .rw[aD<|by simp[fJ];omega,gPi];have:(↥a==↥b)=ap:=‹h›
  rw[this];simp
def acJ a b:dH (d6 a) (d6 b)=aa:=by rfl
def wZ t:PyData.strOk (S t)=aa:=Qq t 0x110000
def Bd t:kA (d6 t)=aa:=by unfold kA d6;rw[cf];show{by simp[pm,fY,wZ],by rfl}
def sb(h:H p=I (.aZ<|or t)):dS K H (.ref p) (d6 t):=.aZ (d1.of h)<|.cons (.int _)<|.cons (.str _) .nil
def lr(l:List aE):=(l.zip<|l.drop 1).map λp=>fi p.1 p.2
def Kw:∀l,(lr l).all id=rising l
 |[]=>rfl
 |[_]=>rfl
 |a::b::r=>by have q:=Kw<|b::r;have e:lr (a::b::r)=fi a b::lr (b::r):=D;rw[e,ra,q];rfl
def BY l:↥(lr l)=ac l-1:=by unfold lr;simp
def Y4{l:List aE}{i:Nat}(O:l[i]? =I a)(Y:(l.drop 1)[i]? =I b):(lr l)[i]? =I (fi a b):=by unfold lr;rw[cO,(q' (z:=(a,b))).mpr {O,(Y)}];rfl
def rj{i:Nat}(h:(aG l)[i]? =I x):∃t,l[i]? =I t/\x=ab.str (S t):=by
 unfold aG at h;rw[cO]at h;cases e:l[i]? with
 |none=>rw[e]at h;cases h
 |some t=>rw[e]at h;show{t,D,(d3 h).symm}
def kG{i:Nat}(h:l[i]? =I t):(aG l)[i]? =I (ab.str<|S t):=by
 unfold aG;rw[cO,h];rfl
def L9:bs P w base T 2 15 ["names"] (Ia rising):=by
 show T.EA.a8.bx xb λR be aN s H vs Q E d h=>?_;let{a,l,rfl,e,m,ak,(k)}:=h;show{_,(aV<|bm<|ir T.ir (oK D)<|aK<|f0 D xb.aJ (ZG D T.aiL<|cW (ah 0)<|hR kL (ah 0) (hc bn) iH) (bo:=[("one",1),("other",2)]) (fn (N:=MO) (b7:=a6 BI) ⋯) (λ_ _ _ _ _=>(Ll (K:=K) 2 D D<|kT (c3 (i:=1) xb.aJ D (ce D)<|nb D)<|kT (c3 (i:=2) xb.aJ D (ce D)<|nb D) rF)) (λ_ _ _ _ _=>gu) λ_ _ _ _ _=>(e2 (aau (K:=K) D<|by show uQ d) (bQ T.p8 (rN T) d<|aK<|ah 1) (bQ T.p8 (rN T) d<|aK<|ah 2)<|cR _)),?_};show{_,D,a,_,D,aB.of e,λb f=>?_};rw[show(1:Int)=((1:Nat):Int)from D,yl,tK];have O:aO (al H b<|.ai<|aG<|l.drop 1):=ak.ai;show{a,b,_,_,D,aB.of<|bd f e,aB.of ar,λaq p=>nv (n:=↥(lr l)) (λi U=>a4 (al H b<|.ai<|aG<|l.drop 1) U/\aO U/\U aq=I (.ai<|((lr l).take i).map ab.a1))
  {same.new p,O.ai,ar} ?_ ?_ ?_ ?_}
 .rintro i U au ⟨aj,_,_⟩;rw[BY]at au;show{_,_,_,_,aB.of<|aj _ _<|bd f e,aB.of<|aj _ _ ar,kG<|cA ∅,kG<|cA<|by rw[gn];omega}
 .rintro U ⟨aj,_,_⟩;show{_,_,aB.of<|aj _ _<|bd f e,aB.of<|aj _ _ ar,.inr ?_};rw[BY,dj,gn];show bA _
 .rintro i x U aw au ⟨aj,j,g⟩ ⟨T,ba,bN,rfl,v,rfl,L,M⟩;let{t,A,(rfl)}:=rj<|L _<|aB.of<|aj _ _<|bd f e;let{u,B,(rfl)}:=rj<|M _<|aB.of<|aj _ _ ar;have G:ac t<=cC:=m.bZ t<|d5 A;have J:ac u<=cC:=m.bZ u<|List.mem_of_mem_drop<|d5 B;show{T,_,D,d1.of ar,D,_,_,D,_,_,D,D,D,t,D,G,j.aZ,λq z=>?_};show{u,D,J,j.aZ.aZ,λr d=>?_};show{d6 t,d6 u,sb<|bd d ar,sb ar,acJ _ _,Bd _,Bd _,?_};rw[uD];have C:(al (al (al U T<|.aZ [ab.str<|S t,ab.str<|S u]) q<|.aZ<|or t) r<|.aZ<|or u) aq=I (.ai<|((lr l).take i).map ab.a1):=bd d<|bd z<|bd v g;show{_,C,?_,?_,j.aZ.aZ.aZ.ai,?_}
  .rw[bt,g8,cc,BY];have:=m.len;unfold cC at this;omega
  .intro c o y;have F:c≠aq:=b3 y p;rw[aI F];show bd d<|bd z<|bd v<|aj c o y
  .rw[ar,j2,Y4 A B,dX];rfl
 .rintro U ⟨aj,j,g⟩;rw[j1]at g;show{aq,lr l,D,aB.of g,H,b8 ak<|(same.new f).trans aj,?_};rw[Kw];show k
def Wb(A:bf):bC:=λvs H Q _=>∃(x ae:ao) (u a p f t:ab),vs=[.ref x,u,a,p,f,t]/\H x=I (.aS A.vb ae [])/\Q .bT (al H x<|.aS A.vb ae<|nK u a p f t)
def CG:bs P w base T 1 74 ["self","user","action","path","flags","time"] (Wb A):=by
 show T.yP.a8.bx Yo λc be aN s H vs Q E d h=>?_;let{x,ae,u,a,p,f,t,rfl,b,(k)}:=h;show{_,(aT (eT T.e' T.sp (ah 0)<|ah 1)
 (aT (eT T.e' T.vr (ah 0)<|ah 2)
 (aT (eT T.e' T.sr (ah 0)<|ah 3)
 (aT (eT T.e' T.vq (ah 0)<|ah 4)
 (aV<|eT T.e' T.sq (ah 0)<|ah 5))))),?_}
 show{x,ae,[],D,b,(by change 0<1000;decide),?_};show{x,ae,_,D,ar,(by rw[E'];change 1<1000;decide),?_};show{x,ae,_,D,ar,(by rw[E',QO];change 2<1000;decide),?_};show{x,ae,_,D,ar,(by change 3<1000;decide),?_};show{x,ae,_,D,ar,(by change 4<1000;decide),?_};show{_,.all,?_};rw[ho,ho,ho,ho,E',QO,ajX,ajW,ajV];show k
def kn(A:bf)(H:aP) x(r:iY):=∃ae a cr:ao,H x=I (.aS A.vb ae<|nK (.str<|S r.user) (.str<|S r.action) (.ref a) (.ref cr)<|.int r.time)/\H a=I (.ai<|aG r.path)/\H cr=I (.ai<|aG r.flags)
def kn.same(h:kn A H x r)(s:a4 H U):kn A U x r:=by
 let{ae,b,cr,O,Y,(a)}:=h
 show{ae,b,cr,s _ _ O,s _ _ Y,s _ _ a}
def WK(A:bf):bC:=λvs H Q E=>∃(a:ao) (ws:List aE),vs=[.ref a]/\H a=I (.ai<|aG ws)/\dL ws/\aO H/\(∀l,oF ws=I l->∀p,H p=ag->Q (.ref p) (al H p<|.ai<|aG l))/\(oF ws=ag->fj (A.c 1) (-1) H E)
def adD(w:aE) c:decide (w.head?=I c)=(w.head?==I c):=by
 grind
def aa4:bs P w base T 5 75 ["words"] (WK A):=by
 show T.Oc.a8.bx tV λG be aN s H vs Q E j h=>?_;let{a,ws,rfl,e,f,ak,F,(l)}:=h;show{_,(aT (t9 (i:=1) D tV.aJ D D (tQ D D D D) (fN<|ah 0) (bo:=[("word",2)]) (fn (N:=C0) (b7:=a6 xf) ⋯) (λ_ _ _ _ _=>(c3 (i:=2) tV.aJ D<|ce D)) (λ_ _ _ _ _=>gu) λ_ _ _ _ _=>(hR rr (ah 2) (hc bn) iH))
 (aT (dm<|d0 T.ie (iJ T) j dB<|aK<|ir T.ir (oK D)<|aK<|f0 D tV.aJ (fN<|ah 0) (bo:=[("word",2)]) (fn (N:=C0) (b7:=a6 xf) ⋯) (λ_ _ _ _ _=>(c3 (i:=2) tV.aJ D<|ce D)) (λ_ _ _ _ _=>gu) λ_ _ _ _ _=>(p9 (ah 2)<|c4 [43]))
 (aT (dm<|d0 T.ie (iJ T) j dB<|aK<|ke (e2 i5 (bB T.bB d9<|aK<|ah 1) (fd T.ajF)<|cR _)<|ke (bQ T.oP (p6 T) j<|aK<|ah 1)<|jB<|bQ T.EA (L9 T) j<|aK<|ah 1)
 (aV<|bm<|ah 1)))),?_}
 have x:=hu f.len;show{a,D,{_,aB.of e},λaq c=>hv ws (λt=>ab.str<|S t) (λt=>I<|.str<|S<|t.drop 1) (aB.of e) c x (λi t acc k z B n _=>?_) ?_}
 .show{D,_,D,S t,D,(by rw[cJ];show hu<|f.bZ t<|d5 k),?_};rw[show(1:Int)=((1:Nat):Int)from D,u4];show n _ D
 .rw[i4];have io:ws.map (λt=>ab.str<|S<|t.drop 1)=aG (ws.map λw=>w.drop 1):=by unfold aG;rw[dh];rfl
  rw[io];have u:=c;have y:dL (ws.map λw=>w.drop 1):={by rw[bt];show f.len,λt k=>by let{w,ax,(rfl)}:=ct.mp k;have:=f.bZ w ax;rw[gn];omega};show{a,D,{_,aB.of<|bd c e},λp m=>hv ws (λt=>ab.str<|S t) (λt=>I<|.a1<|t.head?==I 43) (aB.of<|bd c e) m x (λi t acc k z B n _=>?_) ?_}
  .show{D,{_,D},_,_,D,D,?_};rw[oc,rE,adD];show n _ D
  .rw[i4];have aA:=(same.new c).new m (o:=.ai<|hm (λt:aE=>ab.a1<|t.head?==I 43) ws);have fm:oF ws=if ws.all (λw=>w.head?==I 43)=aa then(if(ws.map λw=>w.drop 1).length<=16/\(ws.map λw=>w.drop 1).all bz=aa/\rising (ws.map λw=>w.drop 1)=aa then I (ws.map λw=>w.drop 1)else ag)else ag:=D
   show{p,ws.map λt=>t.head?==I 43,D,aB.of<|by rw[ar,dh];rfl,_,D,ak.ai.ai,(λb=>?_),(λb=>ej ak aA<|l ?_)}
   .rw[nY]at b;have C:ws.all (λw=>w.head?==I 43)=aa:=b;rw[aM C]at fm;have d:(al (al H aq<|.ai<|aG<|ws.map λw=>w.drop 1) p<|.ai<|hm (λt:aE=>ab.a1<|t.head?==I 43) ws) aq=I (.ai<|aG<|ws.map λw=>w.drop 1):=bd m ar;show{aq,_,D,.inl<|aB.of d,_,_,D,D,_,D,?_};rw[dj];by_cases r:↥(ws.map λw=>w.drop 1)<=16
    .rw[cn ∅];show{aq,_,D,d,y,ak.ai.ai,_,D,?_};by_cases g:(ws.map λw=>w.drop 1).all bz=aa
     .rw[aM g];show{aq,_,D,d,y,ak.ai.ai,_,D,ak.ai.ai,(λb=>?_),(λb=>ej ak aA<|l ?_)}
      .rw[aM {r,g,(b)}]at fm;show{_,fe ak aA u d,F _ fm aq u}
      .rw[aD λq=>by rw[q.2.2]at b;cases b]at fm;show fm
     .rw[aD g];rw[aD λq=>g q.2.1]at fm;show{_,D,ak.ai.ai,(λb=>by cases b),(λ_=>ej ak aA<|l fm)}
    .rw[ck ∅];rw[aD λq=>r q.1]at fm;show{_,D,ak.ai.ai,(λb=>by cases b),(λ_=>ej ak aA<|l fm)}
   .rw[nY]at b;rw[aD λq=>by have v:ws.all (λw=>w.head?==I 43)=ap:=b;rw[q]at v;cases v]at fm;show fm
def sf xs(n:Nat):lJ xs ag (I n)=xs.take n:=by unfold lJ;rw[HT.Ke,HT.rv];simp
def ah5(xs:List ab) n(h:n<ac xs):lJ xs (I n) (I<|-1)=(xs.drop n).dropLast:=by
 unfold lJ;rw[HT.rv,tl ∅];have e:HT.cY ↥xs ↥xs (I<|-1)=ac xs-1:=by change(if(-1:Int)<0 then(-1+(↥xs:Int)).toNat else min (-1:Int).toNat ↥xs)=_;rw[aM ⋯];omega
 rw[List.dropLast_eq_take,gn];congr 1;rw[e,Nat.sub_right_comm]
def ri l n:(aG l).take n=aG (l.take n):=by unfold aG;simp
def UD l:(aG l).dropLast=aG l.dropLast:=by unfold aG;simp
def aiN l(h:l≠[]):kZ (aG l) (-1)=I (ab.str<|S<|l.getLastD []):=by
 obtain⟨m,x,rfl⟩:∃m x,l=m++[x]:={l.dropLast,l.getLast h,(To h).symm};have:aG (m++[x])=aG m++[ab.str<|S x]:=by unfold aG;simp
 rw[this,aiO];simp
def Wf(A:bf):bC:=λvs H Q E=>∃t:aE,vs=[.str<|S t]/\ac t<=cV/\aO H/\(∀r,kb t=I r->∀U x,a4 H U->aO U->kn A U x r->Q (.ref x) U)/\(kb t=ag->fj (A.c 1) (-1) H E)
def Y9(h:↥(cutAt 32 t)<4):kb t=ag:=by
 unfold kb;match a:cutAt 32 t,h with
 |[],_=>rfl
 |[_],_=>rfl
 |[_,_],_=>rfl
 |[_,_,_],_=>rfl
 |_::_::_::_::_,h=>simp at h;omega
def acQ(u a p x:aE) r:(u::a::p::x::r).getLastD []=(x::r).getLastD []:=()
def uu:bs P w base T 6 76 ["text"] (Wf A):=by
 show T.ry.a8.bx XE λaQ be aN s H vs Q E g h=>?_;let{t,rfl,F,ak,aH,(i)}:=h;show{_,(aT (co 1<|p2 (ah 0)<|c4 [32])
 (aT (dm<|d0 T.ie (iJ T) g dB<|aK<|ke (e2 ou (bB T.bB d9<|aK<|ah 1) bn<|cR _)<|jB<|bQ T.oP (p6 T) g<|aK<|hR kL (ah 1) iH<|hc bn)
 (aT (co 2<|d0 T.xA (CF T) g dB<|cW (dc eB (ah 1) bn λ_ _=>D)<|fd T.ajK)
 (aT (co 3<|d0 T.Oc (aa4 T) g dB<|aK<|hR kL (ah 1) (hc bn)<|hc<|lv lj bn)
 (aT (dm<|d0 T.ie (iJ T) g dB<|aK<|p9 (dc eB (ah 1) (lv lj bn) λ_ _=>D)<|c4 [64])
 (aT (co 4<|d0 T.AW (LU T) g dB<|aK<|hR rr (dc eB (ah 1) (lv lj bn) λ_ _=>D) (hc bn) iH)
 (aV<|bm<|mQ T.e' T.yP (CG T) g cH<|hT (dc eB (ah 1) bn λ_ _=>D)<|hT (dc eB (ah 1) bn λ_ _=>D)<|ih (ah 2) (ah 3)<|ah 4))))))),?_}
 show{{_,D},S t,S [32],D,D,D,pS F,λp as=>?_};rw[pH];have fU:=pT (c:=32) F;have aj:a4 H (al H p<|.ai<|aG<|cutAt 32 t):=same.new as;show{p,_,D,.inl<|aB.of ar,_,_,D,D,_,D,?_};rw[dj];by_cases af:4<=↥(cutAt 32 t)
 .rw[cn ∅]
  let{u,a,f,x,r,(d)}:∃u a f x r,cutAt 32 t=u::a::f::x::r:=by
   match d:cutAt 32 t,af with
   |u::a::f::x::r,_=>show{u,a,f,x,r,(rfl)}
   |[],h=>simp at h
   |[_],h=>simp at h
   |[_,_],h=>simp at h
   |[_,_,_],h=>simp at h
  have b:kb t=if bz u=aa/\bz a=aa then(hS f 6).bind λq=>(oF (x::r).dropLast).bind λaF=>
    if((x::r).getLastD []).head?=I 64 then(g0<|((x::r).getLastD []).drop 1).map λn=>{user:=u,action:=a,path:=q,flags:=aF,time:=n}else ag
    else ag:=by
   unfold kb;rw[d]
  have Y:∀w,w∈cutAt 32 t->↥w<=cV:=λw ax=>b5 (qm 32 t w ax) F;show{_,D,p,_,D,aB.of ar,λq W=>?_};rw[show(2:Int)=((2:Nat):Int)from D,sf,ri];have aA:=aj.new W (o:=.ai<|aG<|(cutAt 32 t).take 2);have R:(al (al H p<|.ai<|aG<|cutAt 32 t) q<|.ai<|aG<|(cutAt 32 t).take 2) p=I (.ai<|aG<|cutAt 32 t):=bd W ar;have z:aO (al (al H p<|.ai<|aG<|cutAt 32 t) q<|.ai<|aG<|(cutAt 32 t).take 2):=ak.ai.ai;show{q,_,D,ar,fU.take 2,z,_,D,z,(λe=>?_),(λe=>ej ak aA<|i ?_)}
  .have aC:bz u=aa/\bz a=aa:=by
    have l:((cutAt 32 t).take 2).all bz=aa:=e;rw[d]at l;simpa using l
   rw[aM aC]at b;show{p,_,_,_,D,D,aB.of R,dy (j:=2)<|kG (t:=f)<|by rw[d];rfl,f,6,D,Y f<|by rw[d];simp,z,(λk aw v V=>?_),(λm=>ej ak aA<|i ?_)}
   .rw[aw,d4]at b;have aL:=aA.new V (o:=.ai<|aG k);have U:=bd V R (x:=.ai<|aG k);show{_,D,_,D,_,D,p,_,D,aB.of U,λB G=>?_};rw[show(3:Int)=((3:Nat):Int)from D,show(-1:Int)= -1 from D,ah5 _ 3<|by rw[dj];omega,tK,UD];have N:(cutAt 32 t).drop 3=x::r:=by rw[d];rfl
    rw[N];have ad:=aL.new G (o:=.ai<|aG (x::r).dropLast);have au:=bd G U (x:=.ai<|aG (x::r).dropLast);have av:(al (al (al (al H p<|.ai<|aG<|cutAt 32 t) q<|.ai<|aG<|(cutAt 32 t).take 2) v<|.ai<|aG k) B<|.ai<|aG (x::r).dropLast) v=I (.ai<|aG k):=bd G ar;have Z:=z.ai (p:=v) (ys:=aG k)|>.ai (p:=B) (ys:=aG (x::r).dropLast);have aP:dL (x::r).dropLast:=by show(N▸fU.drop 3:dL (x::r)).sub () λt ay=>(List.dropLast_sublist _).subset ay
    have O:kZ (aG<|cutAt 32 t) (-1)=I (ab.str<|S<|(x::r).getLastD []):=by rw[aiN _<|by rw[d];simp,d,acQ]
    have X:↥((x::r).getLastD [])<=cV:=Y _ (by
     have an:(x::r).getLastD []∈x::r:=by rw[List.getLastD_cons];show List.getLastD_mem_cons ..
     rw[d];show eJ _<|eJ _<|eJ _ an)
    show{B,_,D,ar,aP,Z,(λaF am cr C=>?_),(λm=>ej ak ad<|i ?_)}
    .rw[am,d4]at b;have L:=ad.new C (o:=.ai<|aG aF);have y:=bd C au (x:=.ai<|aG aF);have J:=Z.ai (p:=cr) (ys:=aG aF);show{_,D,p,_,_,_,D,D,aB.of y,O,{_,D},_,_,D,D,?_};rw[oc,rE];show{_,D,J,(λe=>?_),(λe=>ej ak L<|i ?_)}
     .rw[aM<|qP e]at b;show{_,D,p,_,_,_,D,D,aB.of y,O,_,D,S<|(x::r).getLastD [],D,(by rw[cJ];have:=jz X;show hu ∅),?_};rw[show(1:Int)=((1:Nat):Int)from D,u4];show{_,D,(by rw[gn];have:=jz X;omega),J,(λn aq=>?_),(λm=>ej ak L<|i ?_)}
      .rw[aq,Su]at b;show{p,_,_,_,D,D,aB.of y,dy (j:=0)<|kG (t:=u)<|by rw[d];rfl,p,_,_,_,D,D,aB.of y,dy (j:=1)<|kG (t:=a)<|by rw[d];rfl,λM ae b1 aJ bI=>?_};show{M,ae,_,_,_,_,_,D,ar,D,_,.all,?_};rw[ho];have K:(al (al (al (al (al (al H p<|.ai<|aG<|cutAt 32 t) q<|.ai<|aG<|(cutAt 32 t).take 2) v<|.ai<|aG k) B<|.ai<|aG (x::r).dropLast) cr<|.ai<|aG aF) ae<|.bo M) M=ag:=by rw[aI bI.symm];show b1
       show aH _ b _ _ ((L.new aJ).new K) (J.bo.aS) {ae,v,cr,ar,?_,?_}
       .show bd K<|bd aJ<|bd C av
       .show bd K<|bd aJ ar
      .rw[m]at b;show b
     .rw[aD<|qQ e]at b;show b
    .rw[m]at b;show b
   .rw[m]at b;show b
  .rw[aD (λq=>by
    have l:((cutAt 32 t).take 2).all bz=ap:=e;rw[d]at l;simp[q.1,q.2]at l)]at b
   show b
 .rw[ck ∅];show{_,D,ak.ai,(λe=>by cases e),(λ_=>ej ak aj<|i<|Y9 ∅)}
structure vx(l:List aE):Prop where
 len:↥l<=300
 bZ:∀t∈l,↥t<=12
def vx.fU(h:vx l):dL l:={by have:=h.len;unfold cC;omega,λt a=>by have:=h.bZ t a;unfold cC;omega}
def xS(h:l.all bz=aa)(a:ac l<=300):vx l:={a,λt b=>((nx t).mp<|by grind).2.1}
def Wn:bC:=λvs H Q _=>∃(a:ao) (l:List aE),vs=[.ref a]/\H a=I (.ai<|aG l)/\vx l/\aO H/\Q (.str<|S<|en l) H
def HV:∀(l:List aE),(∀t∈l,↥t<=12)->((l.map λt=>↥(S<|47::t))).sum<=13*↥l
 |[],_=>by simp
 |t::r,h=>by have q:=HV r (by grind);have:=h t ();rw[cx,z7,cJ,cz,cz];omega
def ad4(l:List aE):(l.map λt=>47::t).flatten=l.flatMap λn=>47::n:=by rw[List.flatMap_def]
def aaH:bs P w base T 1 77 ["path"] Wn:=by
 show T.HH.a8.bx Bj λo be aN s H vs Q E q h=>?_;let{a,l,rfl,c,b,ak,(k)}:=h;show{_,(aV<|bm<|rH (ez hU (bB T.bB d9<|aK<|ah 0) bn<|cR _) (c4 [47])<|Cm (c4 [])<|f0 D Bj.aJ (fN<|ah 0) (bo:=[("name",1)]) (fn (N:=MH) (b7:=a6 BB) ⋯) (λ_ _ _ _ _=>(c3 (i:=1) Bj.aJ D<|ce D)) (λ_ _ _ _ _=>gu) λ_ _ _ _ _=>(eA us (c4 [47])<|ah 1)),?_};show{a,_,D,.inl<|aB.of c,D,_,D,?_};rw[se,dj];cases l with
 |nil=>show{H,b8 ak same,k}
 |cons n r=>
  have e:((↥(n::r):Int)==0)=ap:=by simp;omega
  rw[e];show{{_,D},a,D,{_,aB.of c},λaq d=>hv (n::r) (λt=>ab.str<|S t) (λt=>I<|.str<|S<|47::t) (aB.of c) d (hu b.fU.len) (λi t acc g j m f _=>?_) ?_}
  .have p:=b.bZ t<|d5 g;show{D,_,_,D,D,(by rw[cJ,cJ,cc];simp;omega),?_};rw[qu,q6];show f _ D
  .rw[i4];show{S [],aq,(n::r).map λt=>S<|47::t,D,D,.inl<|aB.of<|by rw[ar,dh];rfl,?_,H,b8 ak<|same.new d,?_}
   .rw[dh];have O:=HV (n::r) b.bZ;have Y:=b.len;change((n::r).map λt=>↥(S<|47::t)).sum+_<=_;rw[cJ,bt,nW,Nat.mul_zero];omega
   .have e:s2 (S []) ((n::r).map λt=>S<|47::t)=S (en<|n::r):=by
     have:=Do []<|(n::r).map λt=>(47:UInt8)::t;rw[dh,DD,ad4]at this;show this
    rw[e];show k
def We(A:bf):bC:=λvs H Q _=>∃(x:ao) (r:iY),vs=[.ref x]/\kn A H x r/\iU r=aa/\aO H/\Q (.str<|S<|l4 r) H
def VI(a b:List Nat):(a++b).sum=a.sum+b.sum:=List.sum_append
def HU:∀(l:List aE),(∀t∈l,↥t<=12)->((l.map λt=>↥(S<|43::t))).sum<=13*↥l
 |[],_=>by simp
 |t::r,h=>by have q:=HU r (by grind);have:=h t ();rw[cx,z7,cJ,cz,cz];omega
def Z7(h:vx l):↥(en l)<=4000:=by
 unfold en;split
 .simp
 .have:∀l:List aE,(∀t∈l,ac t<=12)->↥(l.flatMap λn=>47::n)<=13*ac l:=by
   intro l;induction l with
   |nil=>simp
   |cons a r b=>intro h;have:=b (by grind);have:=h a ();rw[h8,b0,cz,cz];omega
  have:=this l h.bZ;have:=h.len;omega
def aga(h:n<=h5):↥(dt n)<=7:=by
 have:=rl h;rw[tO]at this;split at this
 .rename_i q;show q.2.1
 .cases this
def LW:bs P w base T 2 78 ["request"] (We A):=by
 show T.AY.a8.bx Bi λU be aN s H vs Q E u h=>?_;let{x,r,rfl,z,q,ak,(k)}:=h;show{_,(aT (co 1<|eg<|ih (a2 T.e' T.sp<|ah 0) (a2 T.e' T.vr<|ah 0)<|bQ T.HH (aaH T) u<|aK<|a2 T.e' T.sr<|ah 0)
 (aT (dm<|rW (ah 1)<|aK<|f0 D Bi.aJ (fN<|a2 T.e' T.vq<|ah 0) (bo:=[("flag",2)]) (fn (N:=MG) (b7:=a6 BA) ⋯) (λ_ _ _ _ _=>(c3 (i:=2) Bi.aJ D<|ce D)) (λ_ _ _ _ _=>gu) λ_ _ _ _ _=>(eA us (c4 [43])<|ah 2))
 (aT (dm<|ov (ah 1)<|aK<|eA us (c4 [64])<|A0 T.Ev Ed<|aK<|a2 T.e' T.sq<|ah 0)
 (aV<|bm<|Cm (c4 [32])<|ah 1)))),?_}
 let{ae,F,cr,O,Y,(j)}:=z;let{G,J,K,af,L,am,an,(m)}:=(kV r).mp q;have l:=xS K ∅;have g:=xS L ∅;have cX:=((nx _).mp G).2.1;have d8:=((nx _).mp J).2.1;have Z:=Z7 l;have ad:=aga m;show{x,ae,_,_,D,O,vD,x,ae,_,_,D,O,y4,x,ae,_,_,D,O,vE,F,r.path,D,Y,l,ak,(by change 3<=bg;decide),λp d=>?_};have aj:=same.new d (o:=.ai [ab.str<|S r.user,.str<|S r.action,.str<|S<|en r.path]) (H:=H);show{.inl {D,_,aB.of ar},x,ae,_,_,D,aj _ _ O,y3,cr,D,{_,aB.of<|aj _ _ j},λaq a=>hv r.flags (λt=>ab.str<|S t) (λt=>I<|.str<|S<|43::t) (aB.of<|aj _ _ j) a (hu g.fU.len) (λi t acc y M R n _=>?_) ?_}
 .have V:=g.bZ t<|d5 y;show{D,_,_,D,D,(by rw[cJ,cJ,cc];simp;omega),?_};rw[qu,q6];show n _ D
 .rw[i4];show{p,aq,_,_,D,D,bd a ar,ar,(by rw[bt,cc];simp;omega),?_};have X:aq≠p:=(er a).1;have W:H aq=ag:=(er a).2;have aA:a4 H (al (al (al H p<|.ai [ab.str<|S r.user,.str<|S r.action,.str<|S<|en r.path]) aq<|.ai<|hm (λt=>ab.str<|S<|43::t) r.flags) p<|.ai<|[ab.str<|S r.user,.str<|S r.action,.str<|S<|en r.path]++hm (λt=>ab.str<|S<|43::t) r.flags):=λb o c=>by
   rw[aI<|b3 c d];show(aj.new a) b o c
  show{.inl {D,_,aB.of ar},x,ae,_,_,D,aA _ _ O,sB,_,D,?B,_,_,D,D,?C,p,_,_,D,D,ar,(by rw[b0,bt,cc];simp;omega),{_,D},S [32],p,((r.user::r.action::en r.path::(r.flags.map (λf=>43::f)++[64::dt r.time])).map S),D,D,.inl<|aB.of ?eq,?sum,H,b8 ak ?fU,?_}
  case B=>
   rw[Tt];obtain e|e:=z5 r.time
   .rw[e];decide
   .show(SJ ∅).mpr (z3 m<|dW (show h5<2^24 by decide)<|v' ⋯ ⋯)
  case C=>rw[show(kz<|toString ((r.time:Nat):Int))=S (dt r.time)from wY _,cJ,cJ,cc];simp;omega
  case eq=>rw[ar,show(kz<|toString ((r.time:Nat):Int))=S (dt r.time)from wY _,qu,q6];congr 2;rw[cx,cx,cx,cx,cx,cx,dX,dX,dh,dh];rfl
  case sum=>rw[dh];simp only[cx,dX,z7,dh,VI,bt,cz,b0];have v:=HU r.flags g.bZ;change(S r.user).length+(↥(S r.action)+(↥(S<|en r.path)+((hm (λt=>↥(S<|43::t)) r.flags).sum+_)))+_<=_;simp only[Function.comp,z',List.sum_nil,cJ,cz,nW,l',Nat.mul_one]at v⊢;omega
  case fU=>intro b o c;rw[aI<|b3 c d];show aA b o c
  rw[Do,<-t4];show k
def YL(e:a4 H U)(h:d1 K H a xs):d1 K U a xs:=by
 obtain(h|⟨o,h⟩)|h:=h
 .show .inl<|.inl<|e _ _ h
 .show .inl<|.inr {o,e _ _ h}
 .show .inr h
def OS:∀{ps:List ao} {l:List aE},ac ps=ac l->(∀(j:Nat) q t,ps[j]? =I q->l[j]? =I t->H q=I (.aZ<|or t))->iv K H (ps.map ab.ref) (l.map d6)
 |[],[],_,_=>.nil
 |[],_::_,h,_=>by simp at h
 |_::_,[],h,_=>by simp at h
 |q::ps,t::l,h,k=>.cons (sb<|k 0 q t D D)<|OS (by grind) λj q t O Y=>k (j+1) q t O Y
mutual
theorem dS.same{H U:aP}(s:a4 H U):∀{v:ab} {d:eX},dS K H v d->dS K U v d
 |_,_,.bT=>.bT
 |_,_,.a1 b=>.a1 b
 |_,_,.int i=>.int i
 |_,_,.str x=>.str x
 |_,_,.ai h a=>.ai (s.seq h)<|iv.same s a
 |_,_,.aZ h a=>.aZ (YL s h)<|iv.same s a
theorem iv.same{H U:aP}(s:a4 H U):∀{v:List ab} {d:List eX},iv K H v d->iv K U v d
 |_,_,.nil=>.nil
 |_,_,.cons h a=>.cons (dS.same s h)<|iv.same s a
end
def hN(l:List aE):(eX):=.tuple [.int ↥l,.list<|l.map d6]
def H9(K:bR):bC:=λvs H Q _=>∃(a:ao) (l:List aE),vs=[.ref a]/\H a=I (.ai<|aG l)/\dL l/\aO H/\∀U p,a4 H U->aO U->dS K U (.ref p) (hN l)->H p=ag->U p≠ag->Q (.ref p) U
def CE:bs P w base T 2 14 ["names"] (H9 K):=by
 show T.xj.a8.bx Bk λS be aN s H vs Q E M h=>?_;let{a,l,rfl,d,C,ak,(k)}:=h;show{_,(aV<|bm<|rG<|cW (bB T.bB d9<|aK<|ah 0)<|f0 D Bk.aJ (fN<|ah 0) (bo:=[("name",1)]) (fn (N:=MJ) (b7:=a6 BD) ⋯) (λ_ _ _ _ _=>(c3 (i:=1) Bk.aJ D<|ce D)) (λ_ _ _ _ _=>gu) λ_ _ _ _ _=>(bQ T.p8 (rN T) M<|aK<|ah 1)),?_};show{a,_,D,.inl<|aB.of d,a,D,{_,aB.of d},λaq A=>nv (n:=↥l) (λi U=>∃ps:List ao,a4 H U/\aO U/\U aq=I (.ai<|ps.map ab.ref)/\ac ps=i/\∀(j:Nat) q t,ps[j]? =I q->l[j]? =I t->U q=I (.aZ<|or t))
  {[],same.new A,ak.ai,ar,D,λj q t h=>by simp at h} ?_ ?_ ?_ ?_}
 .rintro i U au ⟨ps,aj,_⟩;show{_,_,aB.of<|aj _ _ d,kG<|cA au}
 .rintro U ⟨ps,aj,_⟩;show{_,aB.of<|aj _ _ d,by rw[dj];show bA _}
 .rintro i x U aw au ⟨ps,aj,r,c,g,af⟩ ⟨rfl,R⟩;let{t,F,(rfl)}:=rj<|R _<|aB.of<|aj _ _ d;show{D,t,D,C.bZ t<|d5 F,r,λq f=>{_,bd f c,?_,ps++[q],?_,r.aZ.ai,?_,?_,?_}}
  .rw[bt,g,cc];have:=C.len;unfold cC at this;omega
  .intro b o B;rw[aI<|b3 B A];show bd f<|aj b o B
  .rw[ar,dX];rfl
  .rw[b0,g];rfl
  .intro j v t' O Y;have L:q≠aq:=λe=>by subst e;rw[c]at f;cases f
   obtain u|u:=fs j ↥ps
   .rw[gH u]at O;have y:=af j v t' O Y;have J:v≠aq:=cq y c (by intro z;cases z);rw[aI J];show bd f y
   .rw[jt u]at O;have G:j-ac ps=0:=by
     obtain h|h:=z5<|j-ac ps
     .show h
     .rw[nh (by simp;omega)]at O;cases O
    rw[G]at O;have e:q=v:=d3 O;subst e;have:j=i:=by omega
    subst this;rw[F]at Y;cases Y;rw[aI L];show ar
 .rintro U ⟨ps,aj,r,c,g,af⟩;rw[dj];show{(by change 2<=bg;decide),λp m=>{_,.all,k _ p (aj.new m) r.aZ (.aZ (d1.of ar)<|.cons (.int _)<|.cons (.ai (aB.of<|bd m c)<|iv.same (same.new m)<|OS g af) .nil) (aj.none m)<|by rw[ar];show Sr _}}
def kN(r:iY):(eX):=.tuple [hN r.path,d6 r.user,d6 r.action,hN r.flags,.int r.time]
def Wa(K:bR)(A:bf):bC:=λvs H Q _=>∃(x:ao) (r:iY),vs=[.ref x]/\kn A H x r/\iU r=aa/\aO H/\∀U p,a4 H U->aO U->dS K U (.ref p) (kN r)->H p=ag->Q (.ref p) U
def LX:bs P w base T 3 79 ["request"] (Wa K A):=by
 show T.B0.a8.bx XD λR be aN s H vs Q E a h=>?_;let{x,r,rfl,u,t,ak,(k)}:=h;show{_,(aV<|bm<|rG<|hT (bQ T.xj (CE T) a<|aK<|a2 T.e' T.sr<|ah 0)<|hT (bQ T.p8 (rN T) a<|aK<|a2 T.e' T.sp<|ah 0)<|ih (bQ T.p8 (rN T) a<|aK<|a2 T.e' T.vr<|ah 0) (bQ T.xj (CE T) a<|aK<|a2 T.e' T.vq<|ah 0)<|a2 T.e' T.sq<|ah 0),?_}
 let{ae,G,cr,O,Y,(q)}:=u
 let{J,L,M,S,N,U,V,(W)}:=(kV r).mp t
 have z:=xS M ∅;have y:=xS N ∅;have cX:=((nx _).mp J).2.1;have d8:=((nx _).mp L).2.1;show{x,ae,_,_,D,O,vE,G,r.path,D,Y,z.fU,ak,λan B aj f m _ _=>?_};show{x,ae,_,_,D,aj _ _ O,vD,_,D,(by unfold cC;omega),f,λcQ j=>?_};have aA:=aj.new j (o:=.aZ<|or r.user);show{x,ae,_,_,D,aA _ _ O,y4,_,D,(by unfold cC;omega),f.aZ,λC e=>?_};have g:=aA.new e (o:=.aZ<|or r.action);show{x,ae,_,_,D,g _ _ O,y3,cr,r.flags,D,g _ _ q,y.fU,f.aZ.aZ,λl F b v n _ _=>?_};have i:=g.trans b;show{x,ae,_,_,D,i _ _ O,sB,(by change 5<=bg;decide),λp d=>{_,.all,k _ p (i.new d) v.aZ ?_<|i.none d}};have c:a4 l _:=same.new d (o:=.aZ [ab.ref B,ab.ref cQ,ab.ref C,ab.ref F,ab.int (r.time:Nat)]);show .aZ (d1.of ar)<|.cons (dS.same c<|dS.same b<|dS.same (same.new e)<|dS.same (same.new j) m)<|.cons (sb<|c _ _<|b _ _<|bd e ar)<|.cons (sb<|c _ _<|b _ _ ar)<|.cons (dS.same c n)<|.cons (.int _) .nil
variable{P:bS}{w:bL}{K:bR}{mg:Str->Option az}{base:bG}{A:bf}(T:cS K mg A)
def c5 x(H U:aP):=∀b o,b≠x->H b=I o->U b=I o
def jb(s:a4 H U) x:c5 x H U:=λb o _ h=>s b o h
def c5.new(s:c5 x H U)(h:U p=ag):c5 x H (al U p o):=λb bX a e=>bd h<|s b bX a e
def c5.a2(s:c5 x H U):c5 x H (al U x o):=λb bX a e=>aI a▸s b bX a e
def c5.trans(a:c5 x H an)(b:c5 x an aw):c5 x H aw:=λc o d h=>b c o d<|a c o d h
def c5.put(s:c5 x H U)(h:U x=I o):a4 (al H x o) U:=λb bX e=>by
 obtain⟨rfl,rfl⟩|⟨n,e⟩:=fZ e
 .show h
 .show s _ _ n e
def c5.none(s:c5 x H U)(a:∃o,U x=I o)(h:U p=ag):H p=ag:=by
 cases e:H p with
 |none=>rfl
 |some o=>
  by_cases q:p=x
  .subst q;let{bX,(h')}:=a;rw[h]at h';cases h'
  .rw[s p o q e]at h;cases h
def Hs(h:H a=I o):al H a o=H:=by
 funext b;by_cases e:b=a
 .subst e;rw[ar,h]
 .rw[aI e]
def rz(ak:aO H)(c:H x=I (.aS q ae b7))(s:c5 x H an)(O:an x=I (.aS q ae aF))(k:∀aF,fj C n (al H x<|.aS q ae aF) E):fj C n an (k7 H E):=λd af=>by
 have f:d≠x:=λe=>by grind
 have b:=s.none {_,O} af;have a:al H x (.aS q ae aF) d=ag:=aI f▸b;show{_,.he (.ext (.jH .refl c)<|.inl a) ((s.put O).both) ak,k aF d a}
def gf bw(k:Nat):=oW (.ref bw)<|.int k
def VZ(A:bf):bC:=λvs H Q _=>∃(x ae:ao) (t:aE),vs=[.ref x,.str<|S t]/\H x=I (.aS A.fg ae [])/\ac t<=cV/\∀bw,H bw=ag->Q .bT (al (al H bw<|.ai<|aG<|cutAt 32 t) x<|.aS A.fg ae<|gf bw 0)
def abu:bs P w base T 1 64 ["self","text"] (VZ A):=by
 show T.P4.a8.bx Yh λd be aN s H vs Q E e h=>?_;let{x,ae,t,rfl,c,b,(k)}:=h;show{_,(aT (eT T.fE T.yI (ah 0)<|p2 (ah 1)<|c4 [32])
 (aV<|eT T.fE T.vm (ah 0) bn)),{{_,D},S t,S [32],D,D,D,pS b,λp a=>?_}}
 rw[pH];show{x,ae,_,D,bd a c,⋯,{x,ae,_,D,ar,(by rw[QN];change 1<1000;decide),_,.all,?_}};rw[ho,QN,ajP];show k p a
structure gz(A:bf)(H:aP)(a ae bw:ao)(ws:List aE)(k:Nat):Prop where
 ob:H a=I (.aS A.fg ae<|gf bw k)
 a':H bw=I (.ai<|aG ws)
def gz.same(h:gz A H a ae bw ws k)(s:a4 H U):gz A U a ae bw ws k:={s _ _ h.ob,s _ _ h.a'}
def gz.bI(h:gz A H a ae bw ws k):bw≠a:=cq h.a' h.ob<|nofun
def gz.put(h:gz A H a ae bw ws k) q:gz A (al H a<|.aS A.fg ae<|gf bw q) a ae bw ws q:={ar,aI h.bI▸h.a'}
def W0(A:bf):bC:=λvs H Q _=>∃(a ae bw:ao) (ws:List aE) (k:Nat),vs=[.ref a]/\gz A H a ae bw ws k/\aO H/\Q (.str<|S<|af<|ws.drop k) H
def NQ{ws:List aE}(h:k<ac ws):ws[k]? =I (af<|ws.drop k):=by
 rw[nX h,cA h];rfl
def DA{ws:List aE}(h:ac ws<=k):af (ws.drop k)=[]:=by
 rw[mc h];rfl
def rP:bs P w base T 1 65 ["self"] (W0 A):=by
 show T.qs.a8.bx Yj λc be aN s H vs Q E d h=>?_;let{a,ae,bw,ws,b,rfl,ax,ak,(k)}:=h;show{_,(aV<|bm<|rH (ez p5 (a2 T.fE T.vm<|ah 0) (bB T.bB d9<|aK<|a2 T.fE T.yI<|ah 0)<|cR _) (dc eB (a2 T.fE T.yI<|ah 0) (a2 T.fE T.vm<|ah 0) λ_ _=>D)<|c4 []),?_};show{a,ae,_,_,D,ax.ob,y2,a,ae,_,_,D,ax.ob,Fd,bw,_,D,.inl<|aB.of ax.a',_,_,D,D,_,D,?_};rw[dj];by_cases h:b<ac ws
 .rw[cn ∅];show{a,ae,_,_,D,ax.ob,Fd,a,ae,_,_,D,ax.ob,y2,bw,_,_,_,D,D,aB.of ax.a',dy<|kG<|NQ h,H,b8 ak same,k}
 .rw[ck ∅];rw[DA ∅]at k;show{H,b8 ak same,k}
def V'(A:bf):bC:=λvs H Q _=>∃(a ae bw:ao) (ws:List aE) (k:Nat),vs=[.ref a]/\gz A H a ae bw ws k/\aO H/\Q (.str<|S<|af<|ws.drop k) (al H a<|.aS A.fg ae<|gf bw<|k+1)
def mC:bs P w base T 2 66 ["self"] (V' A):=by
 show T.lP.a8.bx Yg λd be aN s H vs Q E c h=>?_;let{a,ae,bw,ws,b,rfl,ax,ak,(k)}:=h;show{_,(aT (co 1<|fV T.fE T.qs (rP T) c cH<|ah 0)
 (aT (ES T.fE T.vm (ah 0) bn Dw)
 (aV<|bm<|ah 1))),{a,ae,_,D,ax.ob,qA,a,ae,bw,ws,b,D,ax,ak,{a,ae,_,_,D,ax.ob,y2,_,_,D,D,ae,_,ax.ob,(by change 2<1000;decide),_,.all,?_}}}
 have e:cs "place" (ab.int<|(b:Int)+1) (gf bw b)=gf bw (b+1):=aji;show e▸k
def WZ(A:bf):bC:=λvs H Q _=>∃(a ae bw:ao) (ws:List aE) (k:Nat),vs=[.ref a]/\gz A H a ae bw ws k/\aO H/\Q (.a1<|decide (ac ws<=k)) H
def abv:bs P w base T 1 67 ["self"] (WZ A):=by
 show T.P5.a8.bx Yi λc be aN s H vs Q E d h=>?_;let{a,ae,bw,ws,b,rfl,ax,ak,(k)}:=h;show{_,(aV<|bm<|e2 ou (a2 T.fE T.vm<|ah 0) (bB T.bB d9<|aK<|a2 T.fE T.yI<|ah 0)<|cR _),{a,ae,_,_,D,ax.ob,y2,a,ae,_,_,D,ax.ob,Fd,bw,_,D,.inl<|aB.of ax.a',_,_,D,D,H,b8 ak same,?_}};have e:decide (↥(aG ws)<=(b:Int))=decide (ac ws<=b):=by rw[dj,ey,dg,dg];omega
 change Q (.a1<|decide ((↥(aG ws):Int)<=(b:Int))) H;rw[e];show k
def VX(A:bf):bC:=λvs H Q E=>∃(kd:aE) (a ae bw:ao) (ws:List aE) (k:Nat),vs=[.str<|S kd,.ref a]/\gz A H a ae bw ws k/\↥(af<|ws.drop k)<=cV/\aO H/\
 (kd=et->Q (.str<|S []) H)/\(kd≠et->(kd=gb\/kd=hL)/\bz (af<|ws.drop k)=aa->Q (.str<|S<|af<|ws.drop k) (al H a<|.aS A.fg ae<|gf bw<|k+1))/\
 (kd≠et->¬((kd=gb\/kd=hL)/\bz (af<|ws.drop k)=aa)->∀aF,fj (A.c 1) (-1) (al H a<|.aS A.fg ae aF) E)
def aaU:bs P w base T 5 68 ["kind","words"] (VX A):=by
 show T.MC.a8.bx XO λv be aN s H vs Q E f h=>?_;let{kd,a,ae,bw,ws,c,rfl,ax,n,ak,r,t,(l)}:=h;show{_,(aT (dA (ez hU (ah 0) (c4 [97,110,121])<|cR _) (aV<|bm<|c4 []) dJ)
 (aT (co 2<|fV T.fE T.lP (mC T) f cH<|ah 1)
 (aT (dm<|d0 T.ie (iJ T) f dB<|aK<|ke (e2 rL (ah 0) (rG<|cW (c4 [117,115,101,114])<|c4 [103,114,111,117,112])<|by with_unfolding_all rfl)<|jB<|bQ T.uK (xK T) f<|aK<|ah 2)
 (aV<|bm<|ah 2)))),?_}
 show{D,_,D,?_};rw[hd];by_cases h:kd=et
 .rw[cn<|show kd=[97,110,121]from h];show{H,b8 ak same,r h}
 .rw[ck<|show ¬kd=[97,110,121]from h];show{a,ae,_,D,ax.ob,mZ,a,ae,bw,ws,c,D,ax,ak,?_};have p:=ax.put<|c+1;have i:aO (al H a<|.aS A.fg ae<|gf bw<|c+1):=ak.aS;have u:c5 a H (al H a<|.aS A.fg ae<|gf bw<|c+1):=(jb same a).a2;show{(by change 2<=bg;decide),λq k=>?_};have j:=u.new k (o:=.aZ [ab.str<|S [117,115,101,114],.str<|S [103,114,111,117,112]]);have g:gz A _ a ae bw ws (c+1):=p.same<|same.new k (o:=.aZ [ab.str<|S [117,115,101,114],.str<|S [103,114,111,117,112]]);have m:im (ab.str<|S kd) [ab.str<|S [117,115,101,114],.str<|S [103,114,111,117,112]]=decide (kd=gb\/kd=hL):=by
   change((S [117,115,101,114]==S kd)||((S [103,114,111,117,112]==S kd)||ap))=_;rw[ey,lf,pB,ei,ei,dg,vp,vp];constructor
   .rintro(e|e)
    .show .inl e.symm
    .show .inr e.symm
   .rintro(e|e)
    .show .inl e.symm
    .show .inr e.symm
  show{q,_,D,.inr<|d1.of ar,D,D,_,D,?_};rw[m];by_cases d:kd=gb\/kd=hL
  .rw[cn d];show{_,D,(by have:=jz n;omega),i.aZ,_,D,i.aZ,(λb=>?_),(λb=>rz ak ax.ob j g.ob<|l h λz=>by rw[z.2]at b;cases b)};show{_,.he (.jH .refl ax.ob) (c5.put j g.ob) ak,t h {d,(b)}}
  .rw[ck d];show{_,D,i.aZ,(λb=>by cases b),(λ_=>rz ak ax.ob j g.ob<|l h λz=>d z.1)}
def abt:bs P w base T 5 69 ["word"] (A' A lO):=by
 show T.P0.a8.bx Yf λB be aN s H vs Q E g h=>?_;let{t,rfl,l,ak,n,(i)}:=h;show{_,(aT (dA (ez hU (ah 0) (c4 [97,110,121])<|cR _) (aV<|bm<|eg gv) dJ)
 (aT (co 1<|p2 (ah 0)<|c4 [44])
 (aT (dm<|d0 T.ie (iJ T) g dB<|aK<|ke (e2 i5 (bB T.bB d9<|aK<|ah 1) (fd T.ajH)<|cR _)<|jB<|bQ T.oP (p6 T) g<|aK<|ah 1)
 (aT (dm<|d0 T.ie (iJ T) g dB<|aK<|ke (bQ T.ER (Ma T) g<|aK<|ah 1)<|jB<|e2 LN (c4 [97,110,121]) (ah 1)<|by with_unfolding_all rfl)
 (aV<|bm<|ah 1))))),?_}
 show{D,_,D,?_};rw[hd];have a:lO t=if t=et then I []else(if(cutAt 44 t).length<=6/\(cutAt 44 t).all bz=aa/\distinct (cutAt 44 t)=aa/\(cutAt 44 t).contains et=ap then I (cutAt 44 t)else ag):=D
 by_cases h:t=et
 .rw[cn<|show t=[97,110,121]from h];rw[aM h]at a;show{cI _,λp d=>{_,fe ak (same.new d) d ar,n [] a p d}}
 .rw[ck<|show ¬t=[97,110,121]from h];rw[aD h]at a;show{{_,D},S t,S [44],D,D,D,pS l,λp d=>?_};rw[pH];have aj:=same.new d (H:=H) (o:=.ai<|aG<|cutAt 44 t);have fU:=pT (c:=44) l;show{p,_,D,.inl<|aB.of ar,_,_,D,D,_,D,?_};rw[dj];by_cases j:↥(cutAt 44 t)<=6
  .rw[cn ∅];show{p,_,D,ar,fU,ak.ai,_,D,ak.ai,(λb=>?_),(λb=>ej ak aj<|i ?_)}
   .show{p,_,D,ar,∅,ak.ai,_,D,?_};by_cases af:distinct (cutAt 44 t)=aa
    .rw[aM af];show{p,_,D,.inl<|aB.of ar,D,(by rw[di];intro x y;let{u,_,rfl}:=ct.mp y;rfl),?_};have q:im (ab.str<|S [97,110,121]) (aG<|cutAt 44 t)=(cutAt 44 t).contains et:=by
      unfold im aG;rw[GJ,ey,Aj,ex];constructor
      .rintro⟨u,m,e⟩;have:(S u==S [97,110,121])=aa:=e;rw[ei,vp]at this;rw[this]at m;show m
      .intro v;show{et,v,by change(S et==S [97,110,121])=aa;show nQ _}
     have r:(if aa=aa then !im (ab.str<|S [97,110,121]) (aG<|cutAt 44 t)else im (ab.str<|S [97,110,121]) (aG<|cutAt 44 t))= !(cutAt 44 t).contains et:=by rw[q];rfl
     rw[r];show{_,D,ak.ai,(λf=>?_),(λf=>ej ak aj<|i ?_)}
     .rw[aM {j,b,af,‹f›}]at a;show{_,fe ak aj d ar,n _ a p d}
     .rw[aD λz=>by rw[z.2.2.2]at f;cases f]at a;show a
    .rw[aD af];rw[aD λz=>af z.2.2.1]at a;show{_,D,ak.ai,(λb=>by cases b),(λ_=>ej ak aj<|i a)}
   .rw[aD λz=>by have k:(cutAt 44 t).all bz=ap:=b;rw[z.2.1]at k;cases k]at a;show a
  .rw[ck ∅];rw[aD λz=>j z.1]at a;show{_,D,ak.ai,(λb=>by cases b),(λ_=>ej ak aj<|i a)}
def aaQ:bs P w base T 6 70 ["word"] (A' A mT):=by
 show T.Lw.a8.bx XG λq be aN s H vs Q E i h=>?_;let{t,rfl,m,ak,j,(k)}:=h;show{_,(aT (dA (ez hU (ah 0) (c4 [47,42])<|cR _) (aV<|bm<|eg gv) dJ)
 (aT (dA (gN<|M6 (ah 0)<|c4 [47,42]) (aT (dm<|d0 T.ie (iJ T) i dB<|aK<|e2 rK (ah 0) (c4 [47,47,42])<|cR _)
  (aV<|bm<|d0 T.xA (CF T) i dB<|cW (hR rr (ah 0) iH<|hc<|lv lj bn)<|fd T.QD)) dJ)
 (aV<|bm<|d0 T.xA (CF T) i dB<|cW (ah 0)<|fd T.QD))),?_}
 show{D,_,D,?_};rw[hd];have a:mT t=if t=[47,42]then I []else if i9 t=aa then(if t=[47,47,42]then ag else hS (t.take<|↥t-2) 5)else hS t 5:=D
 by_cases h:t=[47,42]
 .rw[cn h];rw[aM h]at a;show{cI _,λp b=>{_,fe ak (same.new b) b ar,j [] a p b}}
 .rw[ck h];rw[aD h]at a;show{{_,D},_,_,D,D,_,D,?_};rw[OK,show[47,42].isSuffixOf t=i9 t from D];by_cases c:i9 t=aa
  .rw[c];rw[aM c]at a;show{D,?_};rw[hd];show{_,D,ak,(λe=>?_),(λe=>ej ak same<|k ?_)}
   .have d:t≠[47,47,42]:=‹e›
    rw[aD d]at a;show{_,D,_,D,S t,D,(by rw[cJ];have:=jz m;show hu ∅),?_};have n:oJ (S t) ag (I<|-2)=S (t.take<|↥t-2):=ah4 t 2 ⋯;rw[show(-(2:Int))= -2 from D,n];show{_,5,D,(by rw[g8];omega),ak,(λl f p b=>{_,fe ak (same.new b) b ar,j l (a.trans f) p b}),(λg=>ej ak same<|k<|a.trans g)}
   .have d:t=[47,47,42]:=‹e›
    rw[aM d]at a;show a
  .have o:i9 t=ap:=‹c›
   rw[o];rw[aD c]at a;show{_,5,D,m,ak,(λl f p b=>{_,fe ak (same.new b) b ar,j l (a.trans f) p b}),(λg=>ej ak same<|k<|a.trans g)}
def r3{ws:List aE}(h:∀w∈ws,ac w<=cV) k:↥(af<|ws.drop k)<=cV:=by
 obtain q|q:=fs k ↥ws
 .show h _<|d5<|NQ q
 .show DA q▸cI _
def WX(A:bf):bC:=λvs H Q E=>∃(dI:aE) (a ae bw:ao) (ws:List aE) (k:Nat),vs=[.str<|S dI,.ref a]/\gz A H a ae bw ws k/\(∀w∈ws,ac w<=cV)/\aO H/\
 (af (ws.drop k)≠dI->Q .bT H)/\(∀n,af (ws.drop k)=dI->g0 (af<|ws.drop<|k+1)=I n->Q (.int n) (al H a<|.aS A.fg ae<|gf bw<|k+2))/\
 (af (ws.drop k)=dI->g0 (af<|ws.drop<|k+1)=ag->∀aF,fj (A.c 1) (-1) (al H a<|.aS A.fg ae aF) E)
def aaG:bs P w base T 6 72 ["word","words"] (WX A):=by
 show T.AX.a8.bx XA λl be aN s H vs Q E c h=>?_;let{dI,a,ae,bw,ws,b,rfl,ax,f,ak,g,i,(j)}:=h;show{_,(aT (dA (ez rK (fV T.fE T.qs (rP T) c cH<|ah 1) (ah 0)<|cR _) (aV<|bm xt) dJ)
 (aT (dm<|fV T.fE T.lP (mC T) c cH<|ah 1)
 (aV<|bm<|d0 T.AW (LU T) c dB<|aK<|fV T.fE T.lP (mC T) c cH<|ah 1))),?_}
 show{a,ae,_,D,ax.ob,qA,a,ae,bw,ws,b,D,ax,ak,D,_,D,?_};rw[hd];by_cases h:af (ws.drop b)=dI
 .rw[cn h];show{a,ae,_,D,ax.ob,mZ,a,ae,bw,ws,b,D,ax,ak,?_};have e:=ax.put<|b+1;show{a,ae,_,D,e.ob,mZ,a,ae,bw,ws,b+1,D,e,ak.aS,?_};rw[ho];have k:c5 a H (al H a<|.aS A.fg ae<|gf bw<|b+2):=(jb same a).a2;show{_,D,(by have:=r3 f<|b+1;have:=jz this;omega),ak.aS,(λn d=>{_,.all,i n h d}),(λd=>rz ak ax.ob k ar<|j h d)}
 .rw[ck h];show{H,b8 ak same,g h}
structure lQ(H:aP)(Ue:ao)(ps:List ao)(W:List Wish):Prop where
 a':H Ue=I (.ai<|ps.map ab.ref)
 len:↥ps=↥W
 bZ:∀(j:Nat) q w,ps[j]? =I q->W[j]? =I w->H q=I (.aZ [.str<|S w.flag,.a1 w.on])
def lQ.same(h:lQ H b7 ps W)(s:a4 H U):lQ U b7 ps W:={s _ _ h.a',h.len,λj q w O Y=>s _ _<|h.bZ j q w O Y}
def NJ{w:aE}(h:ge w=aa):∃c r,w=c::r:=by
 cases w with
 |nil=>cases h
 |cons c r=>show{c,r,(rfl)}
def Ui{l:List aE}(h:ge (af<|l.drop k)=aa):k<ac l/\ha (l.drop k)=({flag:=(af<|l.drop k).drop 1,on:=(af<|l.drop k).head?==I 43}::(ha<|l.drop<|k+1).1,(ha<|l.drop<|k+1).2):=by
 have a:k<ac l:=by
  obtain q|q:=fs k ↥l
  .show q
  .rw[DA q]at h;cases h
 show{a,?_};have e:=lC (by let{c,r,(q)}:=NJ h;rw[q];simp);rw[e];change(if ge (af<|l.drop k)=aa then _ else _)=_;rw[aM h];rfl
def Uh{l:List aE}(h:ge (af<|l.drop k)=ap):ha (l.drop k)=([],l.drop k):=by
 cases e:l.drop k with
 |nil=>rfl
 |cons w r=>rw[e]at h;change(if ge w=aa then _ else _)=_;rw[aD (by rw[show ge w=ap from h];decide)]
def VV(A:bf):bC:=λvs H Q E=>∃(a ae bw:ao) (ws:List aE) (k:Nat),vs=[.ref a]/\gz A H a ae bw ws k/\(∀w∈ws,ac w<=cV)/\ac ws<=cC/\aO H/\
 (∀W rest,i2 (ws.drop k)=I (W,rest)->∀U b ps d,c5 a H U->aO U->gz A U a ae bw ws d->ws.drop d=rest->lQ U b ps W->H b=ag->Q (.ref b) U)/\
 (i2 (ws.drop k)=ag->∀aF,fj (A.c 1) (-1) (al H a<|.aS A.fg ae aF) E)
def TZ{ps:List ao}{W:List Wish}{i:Nat}(h:(ps.zip W)[i]? =I z):ps[i]? =I z.1/\W[i]? =I z.2:=q'.mp h
def TY{ps:List ao}{W:List Wish}(h:ac ps=↥W):(ps.zip W).map (λz=>ab.ref z.1)=ps.map ab.ref:=by
 rw[show(λz=>ab.ref z.1)=ab.ref∘Prod.fst from D,<-dh,Aa ∅]
def TX{ps:List ao}{W:List Wish}(h:ac ps=↥W):(ps.zip W).map (λz=>ab.str<|S z.2.flag)=aG (W.map λw=>w.flag):=by rw[show(λz=>ab.str<|S z.2.flag)=(λw:Wish=>ab.str<|S w.flag)∘Prod.snd from D,<-dh,tq ∅];unfold aG;simp
def aaD:bs P w base T 5 71 ["words"] (VV A):=by
 show T.Ha.a8.bx Bg λbV be aN s H vs Q E B h=>?_;let{a,ae,bw,ws,f,rfl,ax,a0,hlen,ak,bc,(bM)}:=h;show{_,(aT (dA (ez rK (fV T.fE T.qs (rP T) B cH<|ah 0) (c4 [105,102])<|cR _) (aV<|bm<|eg gv) dJ)
 (aT (dm<|fV T.fE T.lP (mC T) B cH<|ah 0)
 (aT (co 1<|eg gv)
 (aT (p1 gG (t7 (gN<|p9 (fV T.fE T.qs (rP T) B cH<|ah 0)<|c4 [43])<|xo<|gN<|p9 (fV T.fE T.qs (rP T) B cH<|ah 0)<|c4 [45]).hP (aT (co 2<|fV T.fE T.lP (mC T) B cH<|ah 0)
  (aV<|dm<|ov (ah 1)<|aK<|rG<|cW (hR rr (ah 2) (hc bn) iH)<|e2 hU (dc x3 (ah 2) bn λ_ _=>D) (c4 [43])<|cR _)))
 (aT (t9 (i:=3) D Bg.aJ D D (tQ D D D D) (fN<|ah 1) (bo:=[("wish",4)]) (fn (N:=ME) (b7:=a6 By) ⋯) (λ_ _ _ _ _=>(c3 (i:=4) Bg.aJ D<|ce D)) (λ_ _ _ _ _=>gu) λ_ _ _ _ _=>(dc (uJ (K:=K) D) (ah 4) bn λ_ _=>D))
 (aT (dm<|d0 T.ie (iJ T) B dB<|aK<|ke (ZY i5 i5 bn (bB T.bB d9<|aK<|ah 3)<|fd T.ajz)<|ke (bQ T.oP (p6 T) B<|aK<|ah 3)<|jB<|bQ T.EA (L9 T) B<|aK<|ah 3)
 (aV<|bm<|ah 1))))))),?_}
 show{a,ae,_,D,ax.ob,qA,a,ae,bw,ws,f,D,ax,ak,D,_,D,?_};rw[hd];by_cases h:af (ws.drop f)=mu
 .rw[cn<|show af (ws.drop f)=[105,102]from h];show{a,ae,_,D,ax.ob,mZ,a,ae,bw,ws,f,D,ax,ak,?_};have bK:=ax.put<|f+1;show{cI _,λg ay=>?_};let{aw,(aA)}:=er ay;have bN:c5 a H (al (al H a<|.aS A.fg ae<|gf bw<|f+1) g<|.ai []):=((jb same a).a2).new ay;show{λm σ U=>∃(v:Option ab) (ps:List ao) (W:List Wish) (j:Nat),σ=[I<|.ref a,I<|.ref g,v,ag,ag]/\c5 a H U/\aO U/\gz A U a ae bw ws j/\f+1<=j/\lQ U g ps W/\↥W<=j/\ha (ws.drop<|f+1)=(W++(ha<|ws.drop j).1,(ha<|ws.drop j).2)/\(∀w∈W,↥w.flag<=cV)/\m=↥ws+1-j,{_,ag,[],[],f+1,D,bN,ak.aS.ai,bK.same<|same.new ay,bA _,{ar,D,λj q w h=>by simp at h},cI _,(),(λw ax=>by simp at ax),D},?_};rintro m σ U ⟨v,ps,W,j,rfl,bi,J,n,bX,d,aW,io,aX,rfl⟩;have bC:(af<|ws.drop j).head?=I 43\/(af<|ws.drop j).head?=I 45\/ge (af<|ws.drop j)=ap:=by
   unfold ge;by_cases V:(af<|ws.drop j).head?=I 43
   .show .inl V
   .by_cases L:(af<|ws.drop j).head?=I 45
    .show .inr<|.inl L
    .show .inr<|.inr ?_;rw[sY V,sY L];rfl
  have step:ge (af<|ws.drop j)=aa->∃N:L2.St->aP->Prop,(∀aH U,N aH U->∃bf,bf<↥ws+1-j/\∃(v:Option ab) (ps:List ao) (W:List Wish) (j:Nat),aH=[I<|.ref a,I<|.ref g,v,ag,ag]/\c5 a H U/\aO U/\gz A U a ae bw ws j/\f+1<=j/\lQ U g ps W/\↥W<=j/\ha (ws.drop<|f+1)=(W++(ha<|ws.drop j).1,(ha<|ws.drop j).2)/\(∀w∈W,↥w.flag<=cV)/\bf=↥ws+1-j)/\
    ∀(u:aE),af (ws.drop j)=u->∃c r,u=c::r/\∀q,(al U a<|.aS A.fg ae<|gf bw<|j+1) q=ag->(↥ps<bg/\∀v,N [I<|.ref a,I<|.ref g,v,ag,ag]<|al (al (al U a<|.aS A.fg ae<|gf bw<|j+1) q<|.aZ [ab.str<|S<|u.drop 1,.a1<|decide ([c]=[43])]) g<|.ai<|ps.map ab.ref++[ab.ref q]):=by
   intro R
   let{bW,(bq)}:=Ui R
   show{_,λaH U am=>{↥ws+1-(j+1),∅,am},λu av=>?_}
   let{c,r,(M)}:=NJ R
   rw[av]at M;show{c,r,M,λq y=>{?_,λv=>?_}}
   .rw[d.len,cc];unfold cC at hlen;omega
   .let{bY,(a5)}:=er y
    have bH:q≠g:=λe=>by subst e;rw[d.a']at a5;cases a5
    have X:=(n.put<|j+1).same<|same.new y (o:=.aZ [ab.str<|S<|u.drop 1,.a1<|decide ([c]=[43])]);have bD:bw≠g:=λe=>by subst e;show absurd (ax.a') (by rw[aA];show λz=>nomatch z)
    have bu:a≠g:=λe=>aw e.symm;have b1:(al (al U a<|.aS A.fg ae<|gf bw<|j+1) q<|.aZ [ab.str<|S<|u.drop 1,.a1<|decide ([c]=[43])]) g=I (.ai<|ps.map ab.ref):=bd y (by rw[aI aw];show d.a');show{v,ps++[q],W++[{flag:=u.drop 1,on:=u.head?==I 43}],j+1,D,?_,J.aS.aZ.ai,{?_,?_},∅,{?_,?_,?_},?_,?_,?_,D}
    .intro b o k e;have bv:b≠g:=b3 e aA;rw[aI bv];show bd y (by rw[aI k];show bi b o k e)
    .rw[aI bu];show X.ob
    .rw[aI bD];show X.a'
    .rw[ar,dX];rfl
    .rw[b0,b0,d.len];rfl
    .intro i aC aF O Y;obtain au|au:=fs i ↥ps
     .rw[gH au]at O;rw[gH (by rw[<-d.len];show au)]at Y;have C:=d.bZ i aC aF O Y;have bE:aC≠g:=cq C d.a' (by intro z;cases z);have bF:aC≠a:=cq C n.ob (by intro z;cases z);rw[aI bE];show bd y (by rw[aI bF];show C)
     .rw[jt au]at O;rw[jt (by rw[<-d.len];show au)]at Y;have aY:i-↥ps=0:=by
       obtain z|z:=z5<|i-↥ps
       .show z
       .rw[nh (by simp;omega)]at O;cases O
      rw[aY]at O;rw[<-d.len,aY]at Y;cases O;cases Y;rw[aI bH,ar,M];have aj:decide (([c]:aE)=[43])=((c::r).head?==I 43):=by rw[ey,dg,ei];simp
      rw[aj]
    .rw[b0];show SD aW
    .rw[io,bq,av];simp
    .intro aF bJ;obtain z|z:=cN.mp bJ
     .show aX aF z
     .rw[cy]at z;subst z;have:=r3 a0 j;rw[av]at this;change(u.drop 1).length<=cV;rw[gn];omega
  show{a,ae,_,D,n.ob,qA,a,ae,bw,ws,j,D,n,J,{_,D},_,_,D,D,_,D,?_};rw[oc,rE];obtain V|L|G:=bC
  case' inl=>
   have R:ge (af<|ws.drop j)=aa:=by unfold ge;rw[V];rfl
   rw[cn V]
  case' inr.inl=>
   have R:ge (af<|ws.drop j)=aa:=by unfold ge;rw[L];rfl
   rw[ck (by rw[L];decide)];show{a,ae,_,D,n.ob,qA,a,ae,bw,ws,j,D,n,J,{_,D},_,_,D,D,_,D,?_};rw[oc,rE,cn L]
  case inr.inr=>
   have aj:(af<|ws.drop j).head?≠I 43:=λz=>by unfold ge at G;rw[z]at G;cases G
   have bp:(af<|ws.drop j).head?≠I 45:=λz=>by unfold ge at G;rw[z]at G;cases G
   rw[ck aj];show{a,ae,_,D,n.ob,qA,a,ae,bw,ws,j,D,n,J,{_,D},_,_,D,D,_,D,?_};rw[oc,rE,ck bp];rw[Uh G,gI]at io;have fm:i2 (ws.drop f)=if 1<=↥W/\↥W<=6/\W.all (λw=>bz w.flag)=aa/\rising (W.map λw=>w.flag)=aa then I (W,ws.drop j)else ag:=by unfold i2;rw[aM h,Ai,io]
   have ba:↥(ps.zip W)<=bg:=by
    rw[tt,d.len,cc];have O:=aW;have Y:↥W<=↥ws:=by have:=wF (l:=ws.drop<|f+1) (ws:=W) (r:=ws.drop j) io;have C:=gC ac this.1;rw[b0,bt,gn]at C;omega
    unfold cC at hlen;omega
   show{g,D,{_,aB.of d.a'},λaq Z=>hv (ps.zip W) (λz=>ab.ref z.1) (λz=>I<|.str<|S z.2.flag) (by rw[TY d.len];show aB.of d.a') Z ba (λi z acc hz bT bU br _=>?_) ?_}
   .let{bO,(bP)}:=TZ hz
    show{D,z.1,_,_,_,D,D,d1.of<|bd Z<|d.bZ i _ _ bO bP,dy (j:=0) D,br _ D}
   .rw[i4,TX d.len];have bk:=bi.new Z (o:=.ai<|aG<|W.map λw=>w.flag);have bl:a4 U (al U aq<|.ai<|aG<|W.map λw=>w.flag):=same.new Z;have F:aO (al U aq<|.ai<|aG<|W.map λw=>w.flag):=J.ai;have X:=n.same bl;have a7:dL (W.map λw=>w.flag):={by rw[bt];rw[tt,d.len,wa]at ba;have:=wF (l:=ws.drop<|f+1) (ws:=W) (r:=ws.drop j) io;have C:=gC ac this.1;rw[b0,bt,gn]at C;omega,λt bI=>by
     let{w,ax,(rfl)}:=ct.mp bI;have:=aX w ax;have:=jz this;omega}
    have ad:¬(1<=↥W/\↥W<=6/\W.all (λw=>bz w.flag)=aa/\rising (W.map λw=>w.flag)=aa)->fj (A.c 1) (-1) (al U aq<|.ai<|aG<|W.map λw=>w.flag) (k7 H E):=λx=>by rw[aD x]at fm;show rz ak ax.ob bk X.ob<|bM fm
    show{aq,_,D,.inl<|aB.of ar,_,_,D,D,_,D,?_};rw[dj,bt];by_cases O:1<=↥W
    .rw[cn<|show(1:Int)<=(↥W:Nat) by omega];show{_,_,D,D,_,D,?_};by_cases aQ:↥W<=6
     .rw[cn<|show((↥W:Nat):Int)<=6 by omega];show{aq,_,D,ar,a7,F,_,D,?_};have aL:(W.map λw=>w.flag).all bz=W.all (λw=>bz w.flag):=by rw[nY];rfl
      by_cases x:W.all (λw=>bz w.flag)=aa
      .rw[aM<|aL.trans x];show{aq,_,D,ar,a7,F,_,D,F,(λk=>?_),(λk=>ad λz=>by rw[z.2.2.2]at k;cases k)};rw[aM {O,aQ,x,(k)}]at fm;show{_,.all,bc W (ws.drop j) fm _ g ps j bk F X D (d.same bl) aA}
      .rw[aD λz=>x<|aL.symm.trans z];show{_,D,F,(λk=>by cases k),(λ_=>ad λz=>x z.2.2.1)}
     .rw[ck<|show ¬((↥W:Nat):Int)<=6 by omega];show{_,D,F,(λk=>by cases k),(λ_=>ad λz=>aQ z.2.1)}
    .rw[ck<|show ¬(1:Int)<=(↥W:Nat) by omega];show{_,D,_,D,F,(λk=>by cases k),(λ_=>ad λz=>O z.1)}
  all_goals
   let{N,am,(as)}:=step R
   let{c,r,M,(as)}:=as _ D
   have a3:↥(S<|af<|ws.drop j)<=bg:=by have:=r3 a0 j;have:=jz this;rw[cJ];show hu ∅
   have b2:=n.put<|j+1;have a9:(al U a<|.aS A.fg ae<|gf bw<|j+1) g=I (.ai<|ps.map ab.ref):=by rw[aI aw];show d.a'
   show{N,am,a,ae,_,D,n.ob,mZ,a,ae,bw,ws,j,D,n,J,?_};show{.inl {D,_,aB.of a9},_,D,S<|af<|ws.drop j,D,a3,?_};rw[show(1:Int)=((1:Nat):Int)from D,u4];show{_,_,c.toNat,D,D,a3,(by rw[M];show dy (j:=0) D),D,?_};rw[show(⟨#[c.toNat]⟩:Str)=S [c]from D,hd];show{(by change 2<=bg;decide),λq y=>?_}
   let{hz,(x)}:=as q y
   show{g,_,_,D,D,bd y a9,(by rw[bt];show hz),x _}
 .rw[ck<|show ¬af (ws.drop f)=[105,102]from h];show{cI _,λp an=>{_,.all,bc [] (ws.drop f) ?_ _ p [] f (jb (same.new an) a) ak.ai (ax.same<|same.new an) D {ar,D,λj q w h=>by simp at h} an}};unfold i2;rw[aD h]
def nw:(Who->aE)
 |.any=>et
 |.user _=>gb
 |.group _=>hL
def gd:(Who->aE)
 |.any=>[]
 |.user n=>n
 |.group n=>n
def fu:(Option Nat->ab)
 |none=>.bT
 |some n=>.int n
def hB(A:bf) H x(p:dN) t:=∃(ae a b c:ao) (ps:List ao),H x=I (.aS A.jK ae<|jl (.str<|S t) (.str<|S<|nw p.who) (.str<|S<|gd p.who) (.ref a) (.a1 p.below) (.ref b) (.ref c) (fu p.since)<|fu p.until_)/\
 H a=I (.ai<|aG p.acts)/\H b=I (.ai<|aG p.path)/\lQ H c ps p.wishes
def hB.same(h:hB A H x p t)(s:a4 H U):hB A U x p t:=by
 let{ae,a,d,e,ps,O,Y,b,(c)}:=h
 show{ae,a,d,e,ps,s _ _ O,s _ _ Y,s _ _ b,c.same s}
structure fW(A:bf)(H:aP)(x ae cP de bw:ao)(ws:List aE)(G:aP)(aF:List (Str×ab))(k:Nat):Prop where
 c9:c5 x H G
 eU:aO G
 gw:G x=I (.aS A.jK ae aF)
 dI:gz A G cP de bw ws k
 ax:H cP=ag
 n1:x≠cP
section
variable{H G:aP}{x ae cP de bw:ao}{ws:List aE}{aF:List (Str×ab)}{k:Nat}
def fW.take(m:fW A H x ae cP de bw ws G aF k) j:fW A H x ae cP de bw ws (al G cP<|.aS A.fg de<|gf bw j) aF j:=
 {λb o a e=>aI (b3 e m.ax)▸m.c9 b o a e,m.eU.aS,aI m.n1▸m.gw,m.dI.put j,m.ax,m.n1}
def fW.jH(m:fW A H x ae cP de bw ws G aF k) bY:fW A H x ae cP de bw ws (al G x<|.aS A.jK ae bY) bY k:=
 {m.c9.a2,m.eU.aS,ar,{aI m.n1.symm▸m.dI.ob,aI (cq m.dI.a' m.gw<|nofun)▸m.dI.a'},m.ax,m.n1}
def fW.ai(m:fW A H x ae cP de bw ws G aF k)(a:G p=ag):fW A H x ae cP de bw ws (al G p<|.ai ys) aF k:=
 {m.c9.new a,m.eU.ai,bd a m.gw,m.dI.same<|same.new a,m.ax,m.n1}
def fW.Es(m:fW A H x ae cP de bw ws G aF k)(s:c5 cP G nJ)(n:aO nJ)(w:gz A nJ cP de bw ws q):fW A H x ae cP de bw ws nJ aF q:=
 {λb o a e=>s b o (b3 e m.ax)<|m.c9 b o a e,n,s _ _ m.n1 m.gw,w,m.ax,m.n1}
def fW.ly(m:fW A H x ae cP de bw ws G aF k)(ak:aO H)(a:H x=I (.aS A.jK ae q))(h:∀aF,fj (A.c 1) (-1) (al H x<|.aS A.jK ae aF) E):fj (A.c 1) (-1) G (k7 H E):=rz ak a m.c9 m.gw h
def fW.xQ(m:fW A H x ae cP de bw ws G aF k)(ak:aO H)(d:H x=I (.aS A.jK ae q))(h:∀aF,fj (A.c 1) (-1) (al H x<|.aS A.jK ae aF) E) bY:fj (A.c 1) (-1) (al G cP<|.aS A.fg de bY) (k7 H E):=
 rz ak d (λb o a e=>aI (b3 e m.ax)▸m.c9 b o a e) (by rw[aI m.n1];show m.gw) h
def fW.qc(m:fW A H x ae cP de bw ws G aF k)(h:G p=I (.ai ys)) j:(al G cP<|.aS A.fg de<|gf bw j) p=I (.ai ys):=aI (cq h m.dI.ob<|nofun)▸h
def fW.lA(m:fW A H x ae cP de bw ws G aF k)(h:G p=I (.ai ys)) bY:(al G x<|.aS A.jK ae bY) p=I (.ai ys):=aI (cq h m.gw<|nofun)▸h
def fW.AH(m:fW A H x ae cP de bw ws G aF k)(h:lQ G p ps W) bY:lQ (al G x<|.aS A.jK ae bY) p ps W:=
 {m.lA h.a' bY,h.len,λj q w O Y=>by have:=h.bZ j q w O Y;show aI (cq this m.gw<|nofun)▸this}
def fW.Hd(m:fW A H x ae cP de bw ws G aF k)(h:lQ G p ps W) i:lQ (al G cP<|.aS A.fg de<|gf bw i) p ps W:=
 {m.qc h.a' i,h.len,λj q w O Y=>by have:=h.bZ j q w O Y;show aI (cq this m.dI.ob<|nofun)▸this}
end
def Wk(A:bf):bC:=λvs H Q E=>∃(x ae:ao) (t:aE),vs=[.ref x,.str<|S t]/\H x=I (.aS A.jK ae [])/\ac t<=cV/\aO H/\
 (∀p,mA t=I p->∀U,c5 x H U->aO U->hB A U x p t->Q .bT U)/\(mA t=ag->∀aF,fj (A.c 1) (-1) (al H x<|.aS A.jK ae aF) E)
def P6 kd l(who:Who) k q:=(kd=et/\who= .any/\q=k)\/(kd≠et/\((kd=gb/\who= .user (af l))\/(kd≠gb/\kd=hL/\who= .group (af l)))/\bz (af l)=aa/\q=k+1)
def VW(A:bf):bC:=λvs H Q E=>∃(kd:aE) (a ae bw:ao) (ws:List aE) (k:Nat),vs=[.str<|S kd,.ref a]/\gz A H a ae bw ws k/\↥(af<|ws.drop k)<=cV/\aO H/\
 (∀who b,P6 kd (ws.drop k) who k b->Q (.str<|S<|gd who) (al H a<|.aS A.fg ae<|gf bw b))/\
 (kd≠et->¬((kd=gb\/kd=hL)/\bz (af<|ws.drop k)=aa)->∀aF,fj (A.c 1) (-1) (al H a<|.aS A.fg ae aF) E)
def aaT:bs P w base T 5 68 ["kind","words"] (VW A):=(aaU T).imp λvs H Q E h=>by
 let{kd,a,ae,bw,ws,k,rfl,ax,d,ak,c,(f)}:=h;show{kd,a,ae,bw,ws,k,D,ax,d,ak,λe=>?_,λe h=>?_,f}
 .have:=c .any k<|.inl {e,D,(rfl)};rwa[Hs ax.ob]at this
 .by_cases b:kd=gb
  .show c (.user<|af<|ws.drop k) (k+1)<|.inr {e,.inl {b,(rfl)},h.2,D}
  .show c (.group<|af<|ws.drop k) (k+1)<|.inr {e,.inr {b,h.1.resolve_left b,D},h.2,D}
def WW(A:bf):bC:=λvs H Q E=>∃(dI:aE) (a ae bw:ao) (ws:List aE) (k:Nat),vs=[.str<|S dI,.ref a]/\gz A H a ae bw ws k/\(∀w∈ws,ac w<=cV)/\aO H/\
 (∀o b,kl dI (ws.drop k)=I (o,ws.drop b)->Q (fu o) (al H a<|.aS A.fg ae<|gf bw b))/\(kl dI (ws.drop k)=ag->∀aF,fj (A.c 1) (-1) (al H a<|.aS A.fg ae aF) E)
def LV:bs P w base T 6 72 ["word","words"] (WW A):=(aaG T).imp λvs H Q E h=>by
 let{dI,a,ae,bw,ws,k,rfl,ax,c,ak,b,(d)}:=h;have e:kl dI (ws.drop k)=if af (ws.drop k)=dI then(g0<|af<|ws.drop<|k+1).map λn=>(I n,ws.drop<|k+2)else I (ag,ws.drop k):=by unfold kl;simp
 show{dI,a,ae,bw,ws,k,D,ax,c,ak,λh=>?_,λn O Y=>?_,λO Y=>d ?_}
 .have:=b ag k (by grind);rwa[Hs ax.ob]at this
 .show b (I n) (k+2) (by grind)
 grind
def Uo(h:P6 (af l) (l.drop 1) who 1 q):jx l=I (who,l.drop q)/\nw who=af l:=by
 unfold jx;obtain⟨O,rfl,rfl⟩|⟨O,Y,a,rfl⟩:=h
 .show aM O▸{D,(O.symm)}
 .rw[aD O];obtain⟨Y,rfl⟩|⟨Y,b,rfl⟩:=Y
  .rw[aM {.inl Y,a},aM Y]at⊢;show{D,(Y.symm)}
  .rw[aM {.inr b,a},aD Y]at⊢;show{D,(b.symm)}
def Un(O:af l≠et)(Y:¬((af l=gb\/af l=hL)/\bz (af<|l.drop 1)=aa)):jx l=ag:=by
 unfold jx;rw[aD O,aD Y]
def abA:bs P w base T 7 73 ["self","text"] (Wk A):=by
 show T.Qr.a8.bx Yq λbH be aN s H vs Q E g h=>?_;let{x,ae,t,rfl,m,aj,ak,bp,(q)}:=h;show{_,(aT (co 2<|mQ T.fE T.P4 (abu T) g cH<|aK<|ah 1)
 (aT (eT T.eC T.Qs (ah 0)<|ah 1)
 (aT (eT T.eC T.vu (ah 0)<|fV T.fE T.lP (mC T) g cH<|ah 2)
 (aT (eT T.eC T.yS (ah 0)<|d0 T.MC (aaT T) g dB<|cW (a2 T.eC T.vu<|ah 0)<|ah 2)
 (aT (dm<|d0 T.ie (iJ T) g dB<|aK<|e2 hU (fV T.fE T.lP (mC T) g cH<|ah 2) (c4 [100,111])<|cR _)
 (aT (eT T.eC T.yT (ah 0)<|d0 T.P0 (abt T) g dB<|aK<|fV T.fE T.lP (mC T) g cH<|ah 2)
 (aT (dm<|d0 T.ie (iJ T) g dB<|aK<|e2 hU (fV T.fE T.lP (mC T) g cH<|ah 2) (c4 [97,116])<|cR _)
 (aT (eT T.eC T.Qt (ah 0)<|M6 (fV T.fE T.qs (rP T) g cH<|ah 2)<|c4 [47,42])
 (aT (eT T.eC T.vt (ah 0)<|d0 T.Lw (aaQ T) g dB<|aK<|fV T.fE T.lP (mC T) g cH<|ah 2)
 (aT (eT T.eC T.E1 (ah 0)<|d0 T.Ha (aaD T) g dB<|aK<|ah 2)
 (aT (eT T.eC T.yR (ah 0)<|d0 T.AX (LV T) g dB<|cW (c4 [102,114,111,109])<|ah 2)
 (aT (eT T.eC T.yQ (ah 0)<|d0 T.AX (LV T) g dB<|cW (c4 [116,111])<|ah 2)
 (aV<|dm<|d0 T.ie (iJ T) g dB<|aK<|fV T.fE T.P5 (abv T) g cH<|ah 2))))))))))))),?_}
 have G:∀w,w∈cutAt 32 t->ac w<=cV:=λw ax=>b5 (qm 32 t w ax) aj;show λcP de an aJ bI=>{cP,de,t,D,ar,aj,λbw bc=>{D,?_}}
 let{bk,(bf)}:=er bc
 let{bJ,(bi)}:=er bf
 have ay:x≠cP:=b3 m an;generalize au:al (al (al (al H de<|.bo cP) cP<|.aS A.fg de []) bw<|.ai<|aG<|cutAt 32 t) cP (.aS A.fg de<|gf bw 0)=aL;have aA:fW A H x ae cP de bw (cutAt 32 t) aL [] 0:=by
  subst au;have av:∀b o,b≠cP->H b=I o->(al (al (al (al H de<|.bo cP) cP<|.aS A.fg de []) bw<|.ai<|aG<|cutAt 32 t) cP<|.aS A.fg de<|gf bw 0) b=I o:=λb o j e=>by rw[aI j,aI<|b3 e bi,aI j];show bd aJ e
  show{λb o _ e=>av b o (b3 e an) e,ak.bo.aS.ai.aS,av x _ ay m,{ar,?_},an,ay};rw[aI bk,ar]
 clear au;have d:mA t=(jx<|cutAt 32 t).bind λx=>if af x.2=n' then(lO<|af<|x.2.drop 1).bind λacts=>
  if af (x.2.drop 2)=np then(mT<|af<|x.2.drop 3).bind λp=>(i2<|x.2.drop 4).bind λz=>
   (kl gc z.2).bind λb=>(kl eZ b.2).bind λc=>
    if c.2=[]then I {who:=x.1,acts:=acts,path:=p,below:=i9<|af<|x.2.drop 3,wishes:=z.1,since:=b.1,until_:=c.1}else ag
  else ag else ag:=D
 show{x,ae,_,D,aA.gw,(by change 0<1000;decide),?_};rw[aj6];have K:=aA.jH [("text",ab.str<|S t)];show{cP,de,_,D,K.dI.ob,mZ,cP,de,bw,_,_,D,K.dI,K.eU,x,ae,_,D,(K.take 1).gw,(by change 1<1000;decide),?_};rw[aj5,g9];have L:=(K.take 1).jH [("text",ab.str<|S t),("kind",ab.str<|S<|af<|cutAt 32 t)];have bq:iA ("kind":Str) [(("text":Str),ab.str<|S t),("kind",ab.str<|S<|af<|cutAt 32 t)]=I (ab.str<|S<|af<|cutAt 32 t):=qa ⋯ eu;show{x,ae,_,_,D,L.gw,bq,af<|cutAt 32 t,cP,de,bw,_,1,D,L.dI,r3 G 1,L.eU,(λwho k a'=>?_),(λO Y aF=>L.xQ ak m (q<|by rw[d,Un O Y];rfl) aF)}
 let{bn,(ba)}:=Uo a'
 rw[bn,d4]at d;simp only[Ai]at d;have aB:=L.take k;show{x,ae,_,D,aB.gw,(by change 2<1000;decide),?_};rw[aj4];have Z:=aB.jH [("text",ab.str<|S t),("kind",ab.str<|S<|af<|cutAt 32 t),("name",ab.str<|S<|gd who)];show{cP,de,_,D,Z.dI.ob,mZ,cP,de,bw,_,_,D,Z.dI,Z.eU,D,?_};rw[hd];have r:=Z.take<|k+1;show{_,D,r.eU,(λj=>?_),(λj=>r.ly ak m<|q<|by rw[d,aD<|show ¬af ((cutAt 32 t).drop k)=n' from qQ j])};rw[aM<|show af ((cutAt 32 t).drop k)=n' from qP j]at d;show{cP,de,_,D,r.dI.ob,mZ,cP,de,bw,_,_,D,r.dI,r.eU,_,D,r3 G _,(r.take<|k+1+1).eU,(λacts a5 a a4=>?_),(λn=>(r.take<|k+1+1).ly ak m<|q<|by rw[d,n];rfl)};rw[a5,d4]at d;have am:=(r.take<|k+1+1).ai a4 (ys:=aG acts);show{x,ae,_,D,am.gw,(by change 3<1000;decide),?_};rw[aj3];have M:=am.jH [("text",ab.str<|S t),("kind",ab.str<|S<|af<|cutAt 32 t),("name",ab.str<|S<|gd who),("actions",ab.ref a)];have aO:=am.lA (p:=a) ar [("text",ab.str<|S t),("kind",ab.str<|S<|af<|cutAt 32 t),("name",ab.str<|S<|gd who),("actions",ab.ref a)];show{cP,de,_,D,M.dI.ob,mZ,cP,de,bw,_,_,D,M.dI,M.eU,D,?_};rw[hd];have u:=M.take<|k+1+1+1;have aP:=M.qc aO<|k+1+1+1;show{_,D,u.eU,(λj=>?_),(λj=>u.ly ak m<|q<|by rw[d,aD<|show ¬af ((cutAt 32 t).drop<|k+2)=np from qQ j])};rw[aM<|show af ((cutAt 32 t).drop<|k+2)=np from qP j]at d;show{cP,de,_,D,u.dI.ob,qA,cP,de,bw,_,_,D,u.dI,u.eU,{_,D},_,_,D,D,x,ae,_,D,u.gw,(by change 4<1000;decide),?_};rw[OK,aj2,show([47,42]:aE).isSuffixOf (af<|(cutAt 32 t).drop<|k+1+1+1)=i9 (af<|(cutAt 32 t).drop<|k+1+1+1)from D];generalize a9:i9 (af<|(cutAt 32 t).drop<|k+1+1+1)=f;have B:=u.jH [("text",ab.str<|S t),("kind",ab.str<|S<|af<|cutAt 32 t),("name",ab.str<|S<|gd who),("actions",ab.ref a),("below",ab.a1 f)];have aQ:=u.lA aP [("text",ab.str<|S t),("kind",ab.str<|S<|af<|cutAt 32 t),("name",ab.str<|S<|gd who),("actions",ab.ref a),("below",ab.a1 f)];show{cP,de,_,D,B.dI.ob,mZ,cP,de,bw,_,_,D,B.dI,B.eU,_,D,r3 G _,(B.take<|k+1+1+1+1).eU,(λaH bl i aw=>?_),(λn=>(B.take<|k+1+1+1+1).ly ak m<|q<|by rw[d,n];rfl)};rw[bl,d4]at d;have cG:=(B.take<|k+1+1+1+1).ai aw (ys:=aG aH);have aW:=bd aw (B.qc aQ<|k+1+1+1+1) (x:=.ai<|aG aH);show{x,ae,_,D,cG.gw,(by change 5<1000;decide),?_};rw[aj1];have J:=cG.jH [("text",ab.str<|S t),("kind",ab.str<|S<|af<|cutAt 32 t),("name",ab.str<|S<|gd who),("actions",ab.ref a),("below",ab.a1 f),("path",ab.ref i)];have as:=cG.lA aW [("text",ab.str<|S t),("kind",ab.str<|S<|af<|cutAt 32 t),("name",ab.str<|S<|gd who),("actions",ab.ref a),("below",ab.a1 f),("path",ab.ref i)];have aC:=cG.lA (p:=i) ar [("text",ab.str<|S t),("kind",ab.str<|S<|af<|cutAt 32 t),("name",ab.str<|S<|gd who),("actions",ab.ref a),("below",ab.a1 f),("path",ab.ref i)];show{cP,de,bw,_,_,D,J.dI,G,(by have:=D4 32 t;have:=jz aj;omega),J.eU,(λW rest a3 nJ l ps bM aq br bB bm bF bK=>?_),(λn aF=>J.xQ ak m (q<|by rw[d,show k+4=k+1+1+1+1 from D,n];rfl) aF)};rw[show k+4=k+1+1+1+1 from D,a3,d4]at d;subst bm;have N:=J.Es aq br bB;have aX:=aq _ _ (cq as J.dI.ob<|by intro z;cases z) as;have bt:=aq _ _ (cq aC J.dI.ob<|by intro z;cases z) aC;show{x,ae,_,D,N.gw,(by change 6<1000;decide),?_};rw[aj0];have C:=N.jH [("text",ab.str<|S t),("kind",ab.str<|S<|af<|cutAt 32 t),("name",ab.str<|S<|gd who),("actions",ab.ref a),("below",ab.a1 f),("path",ab.ref i),("wishes",ab.ref l)];have aY:=N.lA aX [("text",ab.str<|S t),("kind",ab.str<|S<|af<|cutAt 32 t),("name",ab.str<|S<|gd who),("actions",ab.ref a),("below",ab.a1 f),("path",ab.ref i),("wishes",ab.ref l)];have bu:=N.lA bt [("text",ab.str<|S t),("kind",ab.str<|S<|af<|cutAt 32 t),("name",ab.str<|S<|gd who),("actions",ab.ref a),("below",ab.a1 f),("path",ab.ref i),("wishes",ab.ref l)];have bC:=N.AH bF [("text",ab.str<|S t),("kind",ab.str<|S<|af<|cutAt 32 t),("name",ab.str<|S<|gd who),("actions",ab.ref a),("below",ab.a1 f),("path",ab.ref i),("wishes",ab.ref l)];show{gc,cP,de,bw,_,_,D,C.dI,G,C.eU,(λy V a6=>?_),(λn aF=>C.xQ ak m (q<|by rw[d,n];rfl) aF)};rw[a6,d4]at d;have R:=C.take V;show{x,ae,_,D,R.gw,(by change 7<1000;decide),?_};rw[ajZ];have F:=R.jH [("text",ab.str<|S t),("kind",ab.str<|S<|af<|cutAt 32 t),("name",ab.str<|S<|gd who),("actions",ab.ref a),("below",ab.a1 f),("path",ab.ref i),("wishes",ab.ref l),("since",fu y)];have aZ:=R.lA (C.qc aY V) [("text",ab.str<|S t),("kind",ab.str<|S<|af<|cutAt 32 t),("name",ab.str<|S<|gd who),("actions",ab.ref a),("below",ab.a1 f),("path",ab.ref i),("wishes",ab.ref l),("since",fu y)];have bv:=R.lA (C.qc bu V) [("text",ab.str<|S t),("kind",ab.str<|S<|af<|cutAt 32 t),("name",ab.str<|S<|gd who),("actions",ab.ref a),("below",ab.a1 f),("path",ab.ref i),("wishes",ab.ref l),("since",fu y)];have bD:=R.AH (C.Hd bC V) [("text",ab.str<|S t),("kind",ab.str<|S<|af<|cutAt 32 t),("name",ab.str<|S<|gd who),("actions",ab.ref a),("below",ab.a1 f),("path",ab.ref i),("wishes",ab.ref l),("since",fu y)];show{eZ,cP,de,bw,_,_,D,F.dI,G,F.eU,(λad X a7=>?_),(λn aF=>F.xQ ak m (q<|by rw[d,n];rfl) aF)};rw[a7,d4]at d;have U:=F.take X;show{x,ae,_,D,U.gw,(by change 8<1000;decide),?_};rw[ajY];have v:=U.jH<|jl (ab.str<|S t) (ab.str<|S<|af<|cutAt 32 t) (ab.str<|S<|gd who) (ab.ref a) (ab.a1 f) (ab.ref i) (ab.ref l) (fu y)<|fu ad;have a0:=U.lA (F.qc aZ X)<|jl (ab.str<|S t) (ab.str<|S<|af<|cutAt 32 t) (ab.str<|S<|gd who) (ab.ref a) (ab.a1 f) (ab.ref i) (ab.ref l) (fu y)<|fu ad;have bA:=U.lA (F.qc bv X)<|jl (ab.str<|S t) (ab.str<|S<|af<|cutAt 32 t) (ab.str<|S<|gd who) (ab.ref a) (ab.a1 f) (ab.ref i) (ab.ref l) (fu y)<|fu ad;have bE:=U.AH (F.Hd bD X)<|jl (ab.str<|S t) (ab.str<|S<|af<|cutAt 32 t) (ab.str<|S<|gd who) (ab.ref a) (ab.a1 f) (ab.ref i) (ab.ref l) (fu y)<|fu ad;show{cP,de,_,D,v.dI.ob,ajq,cP,de,bw,_,_,D,v.dI,v.eU,_,D,v.eU,(λj=>?_),(λj=>v.ly ak m<|q<|by rw[d,aD λz=>qQ j<|Tl.mp z])};rw[aM<|Tl.mpr<|qP j]at d;show{_,.all,bp _ d _ v.c9 v.eU {ae,a,i,l,ps,?_,a0,bA,bE}};show Eq.trans v.gw ?_;rw[<-ba,<-a9]
def dd:(List iB->List ao->List (d'×ab))
 |g::bY,a::as=>(ec<|S g.name,ab.ref a)::dd bY as
 |_,_=>[]
def lD:∀{bY:List iB} {as:List ao},ac as=ac bY->↥(dd bY as)=ac bY
 |[],[],_=>rfl
 |[],_::_,h=>by simp at h
 |_::_,[],h=>by simp at h
 |g::bY,a::as,h=>by rw[dd,cz,cz,lD (by grind)]
structure fh(A:bf)(H:aP)(x ae aY aL:ao)(as:List ao)(d:dD)(t:aE):Prop where
 ob:H x=I (.aS A.Eh ae<|kr (.str<|S t) (.ref aY)<|.ref aL)
 ay:H aY=I (.ai<|aG d.users)
 r5:gX H aL (.bJ<|dd d.groups as)
 len:↥as=↥d.groups
 cd:∀(j:Nat) a g,as[j]? =I a->d.groups[j]? =I g->H a=I (.ai<|aG g.members)
def t5(s:a4 H U)(h:gX H a u):gX U a u:=by
 obtain h|⟨o,h⟩:=h
 .show .inl<|s _ _ h
 .show .inr {o,s _ _ h}
section
variable{H U:aP}{x ae aY aL:ao}{as:List ao}{d:dD}{t:aE}
def fh.same(h:fh A H x ae aY aL as d t)(s:a4 H U):fh A U x ae aY aL as d t:={s _ _ h.ob,s _ _ h.ay,t5 s h.r5,h.len,λj a g O Y=>s _ _<|h.cd j a g O Y}
end
def x8{H:aP}(n:aE):∀{bY:List iB} {as:List ao},ac as=ac bY->(∀(j:Nat) a g,as[j]? =I a->bY[j]? =I g->H a=I (.ai<|aG g.members))->
  (∃(a:ao) (g:iB),g∈bY/\g.name=n/\bY.find? (λg=>g.name==n)=I g/\gq (dd bY as) (ec<|S n)=I (.ref a)/\H a=I (.ai<|aG g.members))\/(gq (dd bY as) (ec<|S n)=ag/\bY.find? (λg=>g.name==n)=ag)
 |[],[],_,_=>.inr {D,(rfl)}
 |[],_::_,h,_=>by simp at h
 |_::_,[],h,_=>by simp at h
 |g::bY,a::as,h,k=>by
  by_cases e:g.name=n
  .subst e;show .inl {a,g,(),D,(),by rw[dd,pF D],k 0 a g D D}
  .have bI:¬((ec<|S g.name,ab.ref a):d'×ab).1=ec (S n):=λq=>e<|k1<|v3 q;obtain⟨b,e7,m,O,Y,c,d⟩|⟨O,Y⟩:=x8 n (by grind) λj a g O Y=>k (j+1) a g O Y
   .show .inl {b,e7,by simp[m],O,by rw[wm,sY e];show Y,by rw[dd,ml bI];show c,d}
   .show .inr {by rw[dd,ml bI];show O,by rw[wm,sY e];show Y}
def ad9{bY:List iB}{n:aE}:(bY.find? λg=>g.name==n).isSome=(bY.map λg=>g.name).contains n:=by rw[ey];simp
def fh.get(h:fh A H x ae aY aL as d t) n:
  ∃o:Option ab,fX H aL (.str<|S n) o/\o.isSome=(d.groups.map λg=>g.name).contains n/\(∀v,o=I v->∃a,v= .ref a/\H a=I (.ai<|aG<|eF d n))/\(o=ag->eF d n=[]):=by
 show{gq (dd d.groups as)<|ec<|S n,.inl {_,ec<|S n,h.r5,D,D},?_,?_,?_}
 .rw[<-ad9];obtain⟨a,g,_,_,Y,b,_⟩|⟨O,Y⟩:=x8 n h.len h.cd
  .rw[b,Y];rfl
  grind
 .intro v c;obtain⟨a,g,_,_,Y,b,e⟩|⟨O,Y⟩:=x8 n h.len h.cd
  .rw[b]at c;show{a,(d3 c).symm,?_};unfold eF;grind
  grind
 .intro c;obtain⟨a,g,_,_,Y,b,e⟩|⟨O,Y⟩:=x8 n h.len h.cd
  .rw[b]at c;cases c
  .unfold eF;rw[Y];rfl
def WS(A:bf):bC:=λvs H Q _=>∃(x ae:ao) (t:aE),vs=[.ref x,.str<|S t]/\H x=I (.aS A.Eh ae [])/\aO H/\∀U aY aL,c5 x H U->aO U->U x=I (.aS A.Eh ae<|kr (.str<|S t) (.ref aY)<|.ref aL)->U aY=I (.ai [])->U aL=I (.bJ [])->H aY=ag->H aL=ag->Q .bT U
def abJ:bs P w base T 1 31 ["self","text"] (WS A):=by
 show T.QY.a8.bx YD λj be aN s H vs Q E m h=>?_;let{x,ae,t,rfl,i,ak,(k)}:=h;show{_,(aT (eT T.dQ T.Q1 (ah 0)<|ah 1)
 (aT (eT T.dQ T.ks (ah 0)<|eg gv)
 (aV<|eT T.dQ T.jm (ah 0) xu))),?_}
 show{x,ae,[],D,i,(by change 0<1000;decide),?_};show{cI _,λaY b=>{x,ae,_,D,bd b ar,(by rw[Fb];change 1<1000;decide),?_}};show λaL a=>{x,ae,_,D,bd a ar,(by rw[Fb,QQ];change 2<1000;decide),_,.all,?_}
 let{O,(Y)}:=er b
 let{c,(d)}:=er a
 let{e,(f)}:=er d
 let{l,(g)}:=er f
 show k _ aY aL ?_ ak.aS.ai.aS.bJ.aS ?_ ?_ ?_ Y g
 .show((((jb same x).a2).new b).a2.new a).a2
 .rw[ar,Fb,QQ,aj9];rfl
 .rw[aI O,aI<|eo e,aI O,ar]
 .rw[aI c,ar]
def WO(A:bf):bC:=λvs H Q _=>∃(x ae:ao) (u n m:ab),vs=[.ref x,u,n,m]/\H x=I (.aS A.yz ae [])/\Q .bT (al H x<|.aS A.yz ae<|sD u n m)
def Mc:bs P w base T 1 30 ["self","is_user","name","members"] (WO A):=by
 show T.Fm.a8.bx YA λb be aN s H vs Q E c h=>?_;let{x,ae,u,n,m,rfl,a,(k)}:=h;show{_,(aT (eT T.kh T.y' (ah 0)<|ah 1)
 (aT (eT T.kh T.y9 (ah 0)<|ah 2)
 (aV<|eT T.kh T.Fn (ah 0)<|ah 3))),{x,ae,[],D,a,⋯,{x,ae,_,D,ar,(by rw[Fa];change 1<1000;decide),?_}}}
 show{x,ae,_,D,ar,(by rw[Fa,QP];change 2<1000;decide),?_};show{_,.all,?_};rw[ho,ho,Fa,QP];show k
def qd n l:im (ab.str<|S n) (aG l)=l.contains n:=by
 unfold im aG;rw[GJ,ey,Aj,ex];constructor
 .rintro⟨u,b,e⟩;have:(S u==S n)=aa:=e;rw[ei,vp]at this;grind
 .show λa=>{n,a,nQ _}
def pI l:(aG l).all nB=aa:=by rw[di];intro x a;let{u,_,rfl}:=ct.mp a;rfl
def WG(A:bf):bC:=λvs H Q _=>∃(x ae aY aL:ao) (as:List ao) (d:dD) (t n:aE),vs=[.ref x,.str<|S n]/\fh A H x ae aY aL as d t/\aO H/\Q (.a1<|(gk d).contains n) H
def aia(a b:List aE) n:(a++b).contains n=(a.contains n||b.contains n):=by
 simp
def Md:bs P w base T 1 32 ["self","name"] (WG A):=by
 show T.Fo.a8.bx YE λb be aN s H vs Q E a h=>?_;let{x,ae,aY,aL,as,d,t,n,rfl,af,ak,(k)}:=h;show{_,(aV<|bm<|xr (e2 rL (ah 1) (a2 T.dQ T.ks<|ah 0)<|by with_unfolding_all rfl)<|jB<|xw<|oo (by show f7 a) (ah 1)<|a2 T.dQ T.jm<|ah 0),?_};show{x,ae,_,_,D,af.ob,k6,aY,_,D,.inl<|aB.of af.ay,D,pI _,_,D,?_};rw[qd n d.users];have e:(gk d).contains n=(d.users.contains n||(d.groups.map λg=>g.name).contains n):=aia _ _ _;rw[e]at k;cases h:d.users.contains n with
 |true=>rw[h]at k;show{H,b8 ak same,k}
 |false=>
  rw[h,tD]at k
  let{o,O,Y,_}:=af.get n
  show{x,ae,_,_,D,af.ob,jR,aL,o,D,O,H,b8 ak same,?_};rw[Y];show k
structure oV(d:dD):Prop where
 bY:↥d.groups<=4000
 cd:∀n,↥(eF d n)<=12
 all:↥(mV d)<=1000
def VU(A:bf):bC:=λvs H Q _=>∃(x ae aY aL:ao) (as:List ao) (d:dD) (t g:aE),vs=[.ref x,.str<|S g]/\fh A H x ae aY aL as d t/\oV d/\(d.groups.map λg=>g.name).contains g=aa/\aO H/\
 ∀(l:List aE) p,(∀y,y∈l↔jh d (eF d g) y)->H p=ag->Q (.ref p) (al H p<|.bJ<|fb l)
def Uc{w:List dT}:ac w<=jy d f w:=by unfold jy;omega
def M0 g:∀x∈eF d g,x∈mV d:=λ_ h=>M1 h
def Zz{l:List aE}(h:n∉l):cE l n=l++[n]:=by unfold cE;rw[aD λq=>h<|by grind]
def mm l n:aG (l++[n])=aG l++[ab.str<|S n]:=by unfold aG;simp
def rk l m:aG (l++m)=aG l++aG m:=by unfold aG;simp
def xM:bs P w base T 1 34 ["self","group"] (VU A):=by
 show T.vF.a8.bx YB λaQ be aN s H vs Q E G h=>?_;let{x,ae,aY,aL,as,d,t,g,rfl,af,c1,av,ak,(k)}:=h;show{_,(aT (co 2 xu)
 (aT (co 3<|A1 T.yB Ee<|aK<|xv (by show f7 G) (a2 T.dQ T.jm<|ah 0) (ah 1) λ_ _=>D)
 (aT (p1 gG (ez rM (bB T.bB d9<|aK<|ah 3) bn<|cR _) (aT (co 4<|M5<|ah 3)
  (aV<|dA (kP<|xx (by show f7 G) (ah 4)<|ah 2) (aT (ub (by show f7 G) (ah 2) (ah 4) om D)
   (aV<|dm<|rW (ah 3)<|aK<|Ln (by show f7 G) (a2 T.dQ T.jm<|ah 0) (ah 4) (eg gv) {D,D,D,(rfl)})) dJ)))
 (aV<|bm<|ah 2)))),?_}
 show λe C=>?_;have V:=af.same<|same.new C (o:=.bJ [])
 let{o,g1,g2,g3,_}:=V.get g
 rw[av]at g2;let{v,(rfl)}:=zV.mp g2;let{aH,rfl,(aC)}:=g3 v D;show{x,ae,_,_,D,V.ob,jR,aL,_,D,g1,aH,_,D,.inl<|aB.of aC,λw ax=>?_};have aP:=(same.new C (o:=.bJ []) (H:=H)).new ax (o:=.ai<|aG<|eF d g);show{λm σ U=>∃(v:Option ab) (a j:List aE),σ=[I<|.ref x,I<|.str<|S g,I<|.ref e,I<|.ref w,v]/\a4 H U/\aO U/\U e=I (.bJ<|fb a)/\U w=I (.ai<|aG j)/\je d (eF d g) a j/\jy d a j=m/\m<=14000,{_,ag,[],eF d g,D,aP,ak.bJ.ai,bd ax ar,ar,je.first d _,D,?_},?_}
 .have:=c1.all;have:=c1.cd g;unfold jy;simp;omega
 rintro m σ U ⟨v,a,j,rfl,aj,X,J,B,r,rfl,M⟩;show{w,_,D,.inl<|aB.of B,_,_,D,D,_,D,?_};rw[dj];obtain rfl|⟨i,n,rfl⟩:=GG j
 .show{_,DQ ak aj C J,k a e (r.done) C}
 .rw[cn<|show(0:Int)<(↥(i.concat n):Nat) by simp];rw[GI]at B r M⊢;have N:w≠e:=cq B J (by intro z;cases z);have hlen:=Uc (d:=d) (f:=a) (w:=i++[n]);rw[b0,lb]at hlen;show{λZ aw=>∃p,p<jy d a (i++[n])/\∃(v:Option ab) (a j:List aE),Z=[I<|.ref x,I<|.str<|S g,I<|.ref e,I<|.ref w,v]/\a4 H aw/\aO aw/\aw e=I (.bJ<|fb a)/\aw w=I (.ai<|aG j)/\je d (eF d g) a j/\jy d a j=p/\p<=14000,λZ aw h=>h,?_};show{.inl {D,_,aB.of B},w,_,_,D,D,B,(by rw[mm];simp:(aG<|i++[n])[↥(aG<|i++[n])-1]? =I (ab.str<|S n)),?_};rw[mm,wr];have aA:a4 H (al U w<|.ai<|aG i):=λb o l=>by
   have am:b≠w:=b3 l<|(er ax).2;rw[aI am];show aj b o l
  have K:(al U w<|.ai<|aG i) e=I (.bJ<|fb a):=by rw[aI N.symm];show J
  show{e,_,D,fX.k (k:=ec<|S n) K,_,D,?_};rw[nk];by_cases u:n∈a
  .rw[aM<|ex.mpr u];show{_,Hi,_,a,i,D,aA,X.ai,K,ar,r.Xy u,D,b5 (po Hi) M}
  .rw[aD λq=>u<|ex.mp q];have aS:ac a<=1000:=b5 (rS r.aJ λy aF=>KH (M0 g)<|r.uP y aF) c1.all;show{e,_,D,l0.k (k:=ec<|S n) K<|by rw[Nw,cc];omega,?_};rw[K0,Zz u];have Y:a4 H (al (al U w<|.ai<|aG i) e<|.bJ<|fb<|a++[n]):=λb o l=>by
    rw[aI<|b3 l C];show aA b o l
   have O:(al (al U w<|.ai<|aG i) e<|.bJ<|fb<|a++[n]) w=I (.ai<|aG i):=by rw[aI N];show ar
   have L:=af.same Y;show{.inl {D,_,aB.of O},x,ae,_,_,D,L.ob,jR,aL,D,.inl {_,L.r5},cI _,λq F=>?_};have au:=L.same<|same.new F (o:=.ai [])
   let{o,g1,g2,g3,(ad)}:=au.get n
   have W:=Us r (M0 g) u<|c1.cd n;have aW:↥(eF d n)<=12:=c1.cd n;have fin:∀b,(al (al (al U w<|.ai<|aG i) e<|.bJ<|fb<|a++[n]) q<|.ai []) b=I (.ai<|aG<|eF d n)->B8 (ab.ref w) [ab.ref b] (al (al (al U w<|.ai<|aG i) e<|.bJ<|fb<|a++[n]) q<|.ai []) λ_ an=>∃p,p<jy d a (i++[n])/\∃(v:Option ab) (a j:List aE),[I<|ab.ref x,I<|ab.str<|S g,I<|ab.ref e,I<|ab.ref w,I<|ab.str<|S n]=[I<|ab.ref x,I<|ab.str<|S g,I<|ab.ref e,I<|ab.ref w,v]/\a4 H an/\aO an/\an e=I (.bJ<|fb a)/\an w=I (.ai<|aG j)/\je d (eF d g) a j/\jy d a j=p/\p<=14000:=λb l=>by
    show{w,b,_,_,D,D,bd F O,l,(by rw[dj,dj,cc];omega),_,W,_,a++[n],i++eF d n,D,λc o R=>?_,X.ai.bJ.ai.ai,?_,?_,r.new u,D,b5 (po W) M}
    .have aq:c≠w:=b3 R<|(er ax).2;rw[aI aq];show bd F<|Y c o R
    .rw[aI N.symm];show bd F ar
    .rw[ar,rk]
   show{o,g1,?_};cases o with
   |none=>have ay:=ad D;show fin q (by rw[ay];show ar)
   |some v=>let{b,rfl,(l)}:=g3 v D;show fin b l
def ad'{B:Type}(l:List B) p(f:B->ab):(l.map λx=>if p x=aa then I (f x)else ag).filterMap id=(l.filter p).map f:=by
 induction l with
 |nil=>rfl
 |cons a r b=>
  rw[cx,px];cases h:p a with
  |true=>simp[b]
  |false=>simp[b]
def V1(A:bf):bC:=λvs H Q _=>∃(x ae aY aL:ao) (as:List ao) (d:dD) (t g:aE),vs=[.ref x,.str<|S g]/\fh A H x ae aY aL as d t/\oV d/\ac d.users<=cC/\(d.groups.map λg=>g.name).contains g=aa/\aO H/\
 ∀p,H p=ag->Q (.ref p) (al H p<|.ai<|aG<|d.users.filter<|hk d g)
def Dy{g u:aE}{l:List aE}(a:∀y,y∈l↔jh d (eF d g) y)(b:u∈d.users):hk d g u=l.contains u:=by rw[ey,NN,ex,a];show{λh=>h.2,λh=>{b,(h)}}
def abH:bs P w base T 2 35 ["self","group"] (V1 A):=by
 show T.QW.a8.bx xc λB be aN s H vs Q E m h=>?_;let{x,ae,aY,aL,as,d,t,g,rfl,af,c1,v,q,ak,(k)}:=h;show{_,(aT (xp (i:=2) xc.aJ D (nb D)<|gS T.dQ T.vF (xM T) m cH (ah 0)<|aK<|ah 1)
 (aV<|bm<|f0 D xc.aJ (fN<|a2 T.dQ T.ks<|ah 0) (bo:=[("user",3)]) (fn (N:=MU) (b7:=a6 BO) ⋯) (λ_ _ _ _ _=>(c3 (i:=3) xc.aJ D<|ce D)) (λ_ _ _ _ _=>(p0<|kP<|oo (by show f7 m) (ah 3)<|ah 2)) λ_ _ _ _ _=>(ah 3))),?_}
 show{x,ae,_,D,af.ob,yZ,x,ae,aY,aL,as,d,t,g,D,af,c1,q,ak,λl p r j=>?_};have b:=af.same<|same.new j (o:=.bJ<|fb l);show{x,ae,_,_,D,b.ob,k6,aY,D,{_,aB.of b.ay},λaq a=>hv d.users (λt=>ab.str<|S t) (λu=>if l.contains u=aa then I (.str<|S u)else ag) (aB.of b.ay) a (hu v) (λi u acc n y z c f=>?_) ?_}
 .show{D,p,_,D,fX.k (k:=ec<|S u)<|bd a ar,_,D,?_};rw[nk];by_cases h:l.contains u=aa
  .rw[aM h]at c⊢;show c _ D
  .rw[aD h]at f⊢;show f D
 .rw[ad'];have e:(d.users.filter λx=>l.contains x)=d.users.filter (hk d g):=List.filter_congr λu n=>(Dy r n).symm;rw[e];show{_,fe ak ((same.new j).new a) (er a).2 ar,k aq (er a).2}
def WH(A:bf):bC:=λvs H Q _=>∃(x ae aY aL:ao) (as:List ao) (d:dD) (t u:aE),vs=[.ref x,.str<|S u]/\fh A H x ae aY aL as d t/\H aL=I (.bJ<|dd d.groups as)/\oV d/\u∈d.users/\aO H/\
 ∀p,H p=ag->Q (.ref p) (al H p<|.ai<|aG<|(d.groups.map λg=>g.name).filter λg=>hk d g u)
def adG(h:ac as=ac bY) p:((dd bY as).map λz=>match z.1 with|ec s=>(if(bY.any λg=>decide (S g.name=s)&&p g.name)=aa then I (ab.str s)else ag)|iy _=>ag).filterMap id=((bY.map λg=>g.name).filter p).map λn=>ab.str (S n):=by
 have key:∀(all bY:List iB) as,ac as=ac bY->(∀g∈bY,g∈all)->((dd bY as).map λz=>match z.1 with|ec s=>(if(all.any λg=>decide (S g.name=s)&&p g.name)=aa then I (ab.str s)else ag)|iy _=>ag).filterMap id=((bY.map λg=>g.name).filter p).map λn=>ab.str (S n):=by
  intro all bY;induction bY with
  |nil=>intro as h _;rfl
  |cons g r b=>
   intro as h c;cases as with
   |nil=>simp at h
   |cons a as=>
    have b:=b as ‹h› (by grind);have e:(all.any λe7=>decide (S e7.name=S g.name)&&p e7.name)=p g.name:=by
     rw[ey,Aj];constructor
     .rintro⟨e7,_,O⟩;rw[cf,dg]at O;rw[<-k1 O.1];show O.2
     .show λO=>{g,c g (),by rw[cn D,O];rfl}
    rw[dd,cx,cx,px];change Th id ((if(all.any λe7=>decide (S e7.name=S g.name)&&p e7.name)=aa then I (ab.str<|S g.name)else ag)::_)=_;rw[e];cases d:p g.name with
    |true=>change ab.str (S g.name)::Th id _=_;rw[b];rfl
    |false=>show b
 show key bY bY as h λ_ h=>h
def x9:∀{bY:List iB} {as:List ao} {j:Nat} {z:d'×ab},(dd bY as)[j]? =I z->∃g,∃a,bY[j]? =I g/\as[j]? =I a/\z=(ec<|S g.name,ab.ref a)
 |[],_,_,_,h=>by simp[dd]at h
 |_::_,[],_,_,h=>by simp[dd]at h
 |g::bY,a::as,0,_,h=>by cases h;simp
 |g::bY,a::as,j+1,z,h=>by
  rw[dd]at h
  let{e7,q,O,Y,(b7)}:=x9 h
  show{e7,q,O,Y,(b7)}
def abK:bs P w base T 2 36 ["self","user"] (WH A):=by
 show T.QZ.a8.bx Bv λai be aN s H vs Q E J h=>?_;let{x,ae,aY,aL,as,d,t,u,rfl,af,c,c1,V,ak,(k)}:=h;show{_,(aV<|bm<|ZR<|f0 D Bv.aJ (Ci<|a2 T.dQ T.jm<|ah 0) (bo:=[("group",2)]) (fn (N:=MV) (b7:=a6 BP) ⋯) (λ_ _ _ _ _=>(c3 (i:=2) Bv.aJ D<|ce D)) (λ_ _ _ _ _=>(p0<|kP<|oo (by show f7 J) (ah 1)<|gS T.dQ T.vF (xM T) J cH (ah 0)<|aK<|ah 2)) λ_ _ _ _ _=>(ah 2)),?_};show{aL,_,c,trivial,λod=>?_};have W:x≠aL:=cq af.ob c (by intro z;cases z);have q:c5 aL H (al H aL<|.cg od<|.bJ<|dd d.groups as):=(jb same aL).a2;have C:fh A (al H aL<|.cg od<|.bJ<|dd d.groups as) x ae aY aL as d t:={q _ _ W af.ob,q _ _ (cq af.ay c<|by intro z;cases z) af.ay,.inr {od,(ar)},af.len,λj a g O Y=>q _ _ (cq (af.cd j a g O Y) c<|by intro z;cases z)<|af.cd j a g O Y};have X:aO (al H aL<|.cg od<|.bJ<|dd d.groups as):=ak.cg;show{x,ae,_,_,D,C.ob,jR,aL,od,D,.inl {_,ar,λaq r=>acN (λz=>match z.1 with|ec s=>(if(d.groups.any λg=>decide (S g.name=s)&&hk d g.name u)=aa then I (ab.str s)else ag)|iy _=>ag) ar r X (by rw[lD af.len,cc];have:=c1.bY;omega) (λi z U hz aj n Z ad f m=>?_) λU aj n y=>?_}}
 .let{g,a,F,am,(rfl)}:=x9 hz;have M:(d.groups.map λg=>g.name).contains g.name=aa:=ex.mpr<|ct.mpr {g,d5 F,D};have hd2:=C.same aj;have K:(d.groups.any λe7=>decide (S e7.name=S g.name)&&hk d e7.name u)=hk d g.name u:=by
   rw[ey,Aj];constructor
   .rintro⟨e7,_,O⟩;rw[cf,dg]at O;rw[<-k1 O.1];show O.2
   .intro O;show{g,d5 F,by rw[cn D,O];rfl}
  show{D,x,ae,_,D,hd2.ob,yZ,x,ae,aY,aL,as,d,t,g.name,D,hd2,c1,M,n,λl p R G=>?_};show{p,_,D,fX.k (k:=ec<|S u) ar,_,D,?_};rw[nk];simp only[K]at f m;rw[Dy R V]at f m;by_cases h:l.contains u=aa
  .rw[aM h]at f⊢;show f _ _ D (same.new G) n.bJ
  .rw[aD h]at m⊢;show m _ D (same.new G) n.bJ
 .rw[adG af.len λg=>hk d g u]at y;have L:aq≠aL:=(er r).1;have B:H aq=ag:=(er r).2;show{aj _ _ ar,_,fe ak (λb o v=>?_) B ?_,k aq B}
  .by_cases e:b=aL
   .subst e;rw[c]at v;cases v;show ar
   .rw[aI e];show aj _ _<|q _ _ e v
  .rw[aI L];show y
def WC(A:bf):bC:=λvs H Q _=>∃(x ae aY aL:ao) (as:List ao) (d:dD) (t u g:aE),vs=[.ref x,.str<|S u,.str<|S g]/\fh A H x ae aY aL as d t/\oV d/\aO H/\Q (.a1<|hk d g u) H
def abI:bs P w base T 2 37 ["self","user","group"] (WC A):=by
 show T.QX.a8.bx YC λq be aN s H vs Q E a h=>?_;let{x,ae,aY,aL,as,d,t,u,g,rfl,af,c1,ak,(k)}:=h;show{_,(aV<|bm<|ke (e2 rL (ah 1) (a2 T.dQ T.ks<|ah 0)<|by with_unfolding_all rfl)<|ke (xw<|oo (by show f7 a) (ah 2)<|a2 T.dQ T.jm<|ah 0)<|jB<|xw<|oo (by show f7 a) (ah 1)<|gS T.dQ T.vF (xM T) a cH (ah 0)<|aK<|ah 2),?_};show{x,ae,_,_,D,af.ob,k6,aY,_,D,.inl<|aB.of af.ay,D,pI _,_,D,?_};rw[show(if ap=aa then !im (ab.str<|S u) (aG d.users)else im (ab.str<|S u) (aG d.users))=d.users.contains u from qd u d.users];cases h:d.users.contains u with
 |false=>
  have e:hk d g u=ap:=by unfold hk;rw[h];rfl
  rw[e]at k;show{H,b8 ak same,k}
 |true=>
  let{o,O,Y,_,f}:=af.get g
  show{x,ae,_,_,D,af.ob,jR,aL,o,D,O,_,D,?_};rw[Y];cases c:(d.groups.map λg=>g.name).contains g with
  |false=>
   rw[c]at Y;have j:=f (by cases o with|none=>rfl|some _=>cases Y);have e:hk d g u=ap:=by
    rw[<-kC,NN,j];rintro⟨_,r⟩;have:∀y,¬jh d [] y:=by
     intro y r;induction r with
     |base h=>simp at h
     |step _ _ n=>show n
    show this _ r
   rw[e]at k;show{H,b8 ak same,k}
  |true=>
   show{x,ae,_,D,af.ob,yZ,x,ae,aY,aL,as,d,t,g,D,af,c1,c,ak,λl p i m=>?_};show{p,_,D,fX.k (k:=ec<|S u) ar,H,b8 ak<|same.new m,?_};rw[nk];rw[Dy i<|ex.mp h]at k;cases b:l.contains u with
   |true=>rw[b]at k;show k
   |false=>rw[b]at k;show k
def za(A:bf)(H:aP)(x:ao):(RC.m0->Prop)
 |.user n=>∃ae a,H x=I (.aS A.yz ae<|sD (.a1 aa) (.str<|S n)<|.ref a)/\H a=I (.ai<|aG [])
 |.group g=>∃ae a,H x=I (.aS A.yz ae<|sD (.a1 ap) (.str<|S g.name)<|.ref a)/\H a=I (.ai<|aG g.members)
def aaf(h:l.contains 58=aa):ky (S l) (S [58])=(S (l.takeWhile (·!=58)),S [58],S ((l.dropWhile (·!=58)).drop 1)):=by
 let{e,(f)}:=H3 h
 have a:S l=S (l.takeWhile (·!=58))++S [58]++S ((l.dropWhile (·!=58)).drop 1):=by rw[qu,qu,hI,q6,<-e]
 have g:(58:UInt8).toNat∉bV (S (l.takeWhile (·!=58))):=by
  intro q
  let{b,d,(c)}:=ct.mp q
  show f<|toNat_inj c▸d
 show a▸aae D g
def aag(h:l.contains 58=ap):ky (S l) (S [58])=(S l,S [],S []):=by
 have c:(58:UInt8).toNat∉bV (S l):=by
  intro q
  let{b,d,(a)}:=ct.mp q
  have:=toNat_inj a;grind
 show aad D c
def N':∀(cd:List aE),(∀m∈cd,m≠[])->2*ac cd<=↥(cd.flatMap λm=>32::m)
 |[],_=>by simp
 |m::r,h=>by
  have q:=N' r (λu a=>h u<|by simp[a]);have:1<=ac m:=by
   cases m with
   |nil=>show absurd rfl<|h [] ()
   |cons _ _=>simp
  rw[h8,b0,cz,cz];omega
def WI(A:bf):bC:=λvs H Q _=>∃l:aE,vs=[.str<|S l]/\ac l<=8000/\aO H/\(∀g,lE l=I g->∀U x,a4 H U->aO U->za A U x (.group g)->H x=ag->Q (.ref x) U)/\(lE l=ag->Q .bT H)
def aa3:bs P w base T 4 38 ["line"] (WI A):=by
 show T.NU.a8.bx XY λad be aN s H vs Q E i h=>?_;let{l,rfl,G,ak,Y,(u)}:=h;show{_,(aT (co 1<|ZM (ah 0)<|c4 [58])
 (aT (co 2<|hR rr (dc r0 (ah 1) bn λ_ _=>D) (hc<|bB T.bB lL<|aK<|c4 [103,114,111,117,112,32]) iH)
 (aT (co 3<|p2 (dc r0 (ah 1) bn λ_ _=>D)<|c4 [32])
 (aT (dA (t7 (ez rK (dc r0 (ah 1) bn λ_ _=>D) (c4 [58])<|cR _)<|t7 (ez rK (dc eB (ah 3) bn λ_ _=>D) (c4 [])<|cR _)<|xo<|lu<|gN<|bQ T.uK (xK T) i<|aK<|ah 2).hP (aV<|bm xt) dJ)
 (aT (co 3<|hR kL (ah 3) (hc bn) iH)
 (aT (dA (t7 (lu<|gN<|bQ T.oP (p6 T) i<|aK<|ah 3)<|xo<|lu<|gN<|bQ T.ER (Ma T) i<|aK<|ah 3).hP (aV<|bm xt) dJ)
 (aV<|bm<|mQ T.kh T.Fm (Mc T) i cH<|ih om (ah 2)<|ah 3))))))),?_}
 have hlen:↥(S l)<=bg:=by rw[cJ,cc];omega
 let{a,c,b,X,am,an,(O)}:∃a c b:aE,ky (S l) (S [58])=(S a,S c,S b)/\↥a<=8000/\↥b<=8000/\((c=[58]/\l.contains 58=aa/\a=l.takeWhile (·!=58)/\b=(l.dropWhile (·!=58)).drop 1)\/(c=[]/\l.contains 58=ap)):=by
  cases h:l.contains 58 with
  |true=>
   show{_,_,_,aaf h,?_,?_,.inl {D,D,D,(rfl)}}
   .show b5 (List.takeWhile_sublist _).length_le G
   .rw[gn];have:=(List.dropWhile_sublist (λb:UInt8=>b !=58) (l:=l)).length_le;omega
  |false=>show{_,_,_,aag h,G,(),.inr {D,(rfl)}}
 have M:↥(S a)<=bg:=by rw[cJ,cc];omega
 have F:↥b<=cV:=by unfold cV;omega
 show{{_,D},S l,S [58],D,D,D,hlen,λp W=>?_};rw[X];show{p,_,_,_,D,D,d1.of ar,dy (j:=0) D,S [103,114,111,117,112,32],D,(by rw[cJ];show nu ⋯),_,D,S a,D,M,?_};rw[cJ,show((↥([103,114,111,117,112,32]:aE):Nat):Int)=((6:Nat):Int)from D,u4];show{p,_,_,_,D,D,d1.of ar,dy (j:=2) D,{_,D},S b,S [32],D,D,D,pS F,λq J=>?_};rw[pH];have fU:=pT (c:=32) F;have aj:=(same.new W (H:=H) (o:=.aZ [ab.str<|S a,.str<|S c,.str<|S b])).new J (o:=.ai<|aG<|cutAt 32 b);have K:aO (al (al H p<|.aZ [ab.str<|S a,.str<|S c,.str<|S b]) q<|.ai<|aG<|cutAt 32 b):=ak.aZ.ai;have tp:(al (al H p<|.aZ [ab.str<|S a,.str<|S c,.str<|S b]) q<|.ai<|aG<|cutAt 32 b) p=I (.aZ [ab.str<|S a,.str<|S c,.str<|S b]):=bd J ar;show{p,_,_,_,D,D,d1.of tp,dy (j:=1) D,D,_,D,?_};rw[hd];obtain⟨rfl,B,rfl,rfl⟩|⟨rfl,B⟩:=O
 .rw[cn D]
  let{f,cd,(g)}:∃f cd,cutAt 32 ((l.dropWhile (·!=58)).drop 1)=f::cd:=by
   cases e:cutAt 32 ((l.dropWhile (·!=58)).drop 1)with
   |nil=>show absurd e<|kX _ _
   |cons f cd=>show{f,cd,(rfl)}
  have d:lE l=if f=[]/\bz ((l.takeWhile (·!=58)).drop 6)=aa then(if cd.all bz=aa/\distinct cd=aa then I {name:=(l.takeWhile (·!=58)).drop 6,members:=cd}else ag)else ag:=by unfold lE;rw[aM B];change(if(cutAt 32 ((l.dropWhile (·!=58)).drop 1)).headD []=[]/\_ then(if((cutAt 32 ((l.dropWhile (·!=58)).drop 1)).drop 1).all bz=aa/\distinct ((cutAt 32 ((l.dropWhile (·!=58)).drop 1)).drop 1)=aa then _ else _)else _)=_;rw[g];rfl
  show{q,_,_,_,D,D,aB.of ar,dy (j:=0)<|kG (t:=f)<|by rw[g];rfl,D,_,D,?_};rw[hd];by_cases k:f=[]
  .rw[cn k];show{_,D,(by rw[gn];unfold cC;omega),K,_,D,?_};by_cases x:bz ((l.takeWhile (·!=58)).drop 6)=aa
   .rw[x];rw[aM {k,(x)}]at d;show{_,D,q,_,D,aB.of ar,λr i=>?_};rw[show(1:Int)=((1:Nat):Int)from D,yl,tK,g,show List.drop 1 (f::cd)=cd from D];have aA:=aj.new i (o:=.ai<|aG cd);have v:=K.ai (p:=r) (ys:=aG cd);have Z:dL cd:=(fU.drop 1|>λh=>by rw[g]at h;show h);show{r,cd,D,?_,Z,?_,_,D,?_}
    .show ar
    .rw[g]at v;show v
    rw[g]at aA v;by_cases n:cd.all bz=aa
    .rw[show cd.all bz=aa from n];have U:↥cd<=4000:=by
      have N:=D1 (b:=(l.dropWhile (·!=58)).drop 1) (cd:=cd) (by rw[g,k]);have:=N' cd λm C=>CS<|di.mp n m C;rw[<-N]at this;omega
     show{r,cd,D,ar,U,v,_,D,?_};by_cases af:distinct cd=aa
     .rw[af];rw[aM {n,(af)}]at d;show λy ae b1 aJ bI=>{y,ae,_,_,_,D,ar,D,_,.all,?_};rw[ho];have L:(al (al (al (al H p (.aZ [ab.str (S (l.takeWhile (·!=58))),.str<|S [58],.str (S ((l.dropWhile (·!=58)).drop 1))])) q<|.ai<|aG<|f::cd) r<|.ai<|aG cd) ae<|.bo y) y=ag:=by rw[aI bI.symm];show b1
      show Y _ d _ y ((aA.new aJ).new L) v.bo.aS {ae,r,ar,bd L<|bd aJ ar}<|aA.none b1
     .have R:distinct cd=ap:=‹af›
      rw[R];rw[aD λz=>af z.2]at d;show{H,b8 ak aA,u d}
    .have C:cd.all bz=ap:=‹n›
     rw[show cd.all bz=ap from C];rw[aD λz=>n z.1]at d;show{H,b8 ak aA,u d}
   .have V:bz ((l.takeWhile (·!=58)).drop 6)=ap:=‹x›
    rw[V];rw[aD λz=>x z.2]at d;show{H,b8 ak aj,u d}
  .rw[ck k];rw[aD λz=>k z.1]at d;show{H,b8 ak aj,u d}
 .rw[ck ⋯];show{H,b8 ak aj,u ?_};unfold lE;rw[aD (by rw[B];decide)]
def LM(A:bf)(H:aP):(Option RC.m0->ab->Prop)
 |none,v=>v= .bT
 |some e,v=>∃x,v= .ref x/\za A H x e
def WN(A:bf):bC:=λvs H Q _=>∃l:aE,vs=[.str<|S l]/\ac l<=8000/\aO H/\∀U v,a4 H U->aO U->LM A U (fP l) v->Q v U
def aa5:bs P w base T 5 39 ["line"] (WN A):=by
 show T.OJ.a8.bx X0 λo be aN s H vs Q E b h=>?_;let{l,rfl,m,ak,(k)}:=h;show{_,(aT (dA (gN<|p9 (ah 0)<|c4 [103,114,111,117,112,32]) (aV<|bm<|bQ T.NU (aa3 T) b<|aK<|ah 0) dJ)
 (aT (co 1<|hR rr (ah 0) (hc<|bB T.bB lL<|aK<|c4 [117,115,101,114,32]) iH)
 (aT (dA (B' (gN<|p9 (ah 0)<|c4 [117,115,101,114,32])<|B9<|gN<|bQ T.uK (xK T) b<|aK<|ah 1).hP (aV<|bm<|mQ T.kh T.Fm (Mc T) b cH<|ih om (ah 1)<|eg gv) dJ)
 (aV<|bm xt)))),?_}
 show{{_,D},_,_,D,D,_,D,?_};rw[oc,show([103,114,111,117,112,32]:aE)=mh from rh.symm];cases i:GROUP.isPrefixOf l with
 |true=>
  have a:fP l=(lE l).map .group:=by unfold fP;rw[aM i]
  show{l,D,m,ak,(λg h U x s n e _=>{_,.all,k U _ s n ?_}),(λh=>{H,b8 ak same,k H _ same ak ?_})}
  .rw[a,h];show{x,D,(e)}
  .rw[a,h];rfl
 |false=>
  have hlen:↥(S l)<=bg:=by rw[cJ,cc];omega
  show{S [117,115,101,114,32],D,(by rw[cJ];show nu ⋯),_,D,S l,D,hlen,?_};rw[cJ,show((↥([117,115,101,114,32]:aE):Nat):Int)=((5:Nat):Int)from D,u4];have a:fP l=if USER.isPrefixOf l=aa/\bz (l.drop 5)=aa then I (.user<|l.drop 5)else ag:=by unfold fP;rw[aD (by rw[i];decide)]
  show{{_,D},_,_,D,D,_,D,?_};rw[oc,show([117,115,101,114,32]:aE)=USER from Hu.symm];cases f:USER.isPrefixOf l with
  |true=>
   show{_,D,(by rw[gn];unfold cC;omega),ak,_,D,?_};cases d:bz (l.drop 5)with
   |true=>
    rw[aM {f,(d)}]at a;show{cI _,λr b=>λc ae b1 aJ bI=>{c,ae,_,_,_,D,ar,D,_,.all,?_}};rw[ho];have j:(al (al H r<|.ai []) ae<|.bo c) c=ag:=by rw[aI bI.symm];show b1
    show k _ _ (((same.new b).new aJ).new j) ak.ai.bo.aS ?_;rw[a];show{c,D,ae,r,ar,bd j<|bd aJ ar}
   |false=>rw[aD λz=>by rw[z.2]at d;cases d]at a;show{H,b8 ak same,k H _ same ak<|by rw[a];rfl}
  |false=>rw[aD λz=>by rw[z.1]at f;cases f]at a;show{H,b8 ak same,k H _ same ak<|by rw[a];rfl}
def tM(d:dD):(RC.m0->Bool)
 |.user _=>decide (12<=ac d.users)
 |.group g=>decide (8<=ac d.groups)||decide (12<ac g.members)
def V3(A:bf):bC:=λvs H Q _=>∃(x ae aY aL y:ao) (as:List ao) (d:dD) (t:aE) (e:RC.m0),vs=[.ref x,.ref y]/\fh A H x ae aY aL as d t/\H aL=I (.bJ<|dd d.groups as)/\za A H y e/\aO H/\Q (.a1<|tM d e) H
def O3(a b:Nat):decide ((a:Int)<=b)=decide (a<=b):=()
def u3(a b:Nat):decide ((a:Int)<b)=decide (a<b):=()
def aa1:bs P w base T 1 40 ["directory","entry"] (V3 A):=by
 show T.NH.a8.bx XU λj be aN s H vs Q E l h=>?_;let{x,ae,aY,aL,y,as,d,t,e,rfl,af,i,c,ak,(k)}:=h;show{_,(aT (dA (gN<|a2 T.kh T.y'<|ah 1) (aV<|bm<|e2 ou (bB T.bB d9<|aK<|a2 T.dQ T.ks<|ah 0) (fd T.ajA)<|cR _) dJ)
 (aV<|bm<|xr (e2 ou (bB T.bB yr<|aK<|a2 T.dQ T.jm<|ah 0) (fd T.ajE)<|cR _)<|jB<|e2 rM (bB T.bB d9<|aK<|a2 T.kh T.Fn<|ah 1) (fd T.ajD)<|cR _)),?_}
 cases e with
 |user n=>
  let{a,f,O,(Y)}:=c
  show{y,a,_,_,D,O,sC,aa,D,?_};show{x,ae,_,_,D,af.ob,k6,aY,_,D,.inl<|aB.of af.ay,_,_,D,D,H,b8 ak same,?_};rw[dj];change Q (.a1<|decide (((12:Nat):Int)<=_)) H;rw[O3];show k
 |group g=>
  let{a,f,O,(Y)}:=c
  show{y,a,_,_,D,O,sC,ap,D,?_};show{x,ae,_,_,D,af.ob,jR,aL,_,D,i,_,_,D,D,_,D,?_};rw[lD af.len,show(8:Int)=((8:Nat):Int)from D,O3];unfold tM at k;cases b:decide (8<=ac d.groups)with
  |true=>rw[b]at k;show{H,b8 ak same,k}
  |false=>rw[b]at k;simp only[tD]at k;show{y,a,_,_,D,O,QV,f,_,D,.inl<|aB.of Y,_,_,D,D,H,b8 ak same,?_};rw[dj];change Q (.a1<|decide (((12:Nat):Int)<_)) H;rw[u3];show k
def Wz(A:bf):bC:=λvs H Q _=>∃(x ae aY aL:ao) (as:List ao) (d:dD) (t l:aE) (e:Option RC.m0) (v:ab),vs=[.ref x,.str<|S l,v]/\fh A H x ae aY aL as d t/\H aL=I (.bJ<|dd d.groups as)/\LM A H e v/\aO H/\Q (.int<|dU d l e) H
def aaV:bs P w base T 2 41 ["directory","line","entry"] (Wz A):=by
 show T.Nc.a8.bx XP λz be aN s H vs Q E q h=>?_;let{x,ae,aY,aL,as,d,t,l,e,v,rfl,af,o,p,ak,(k)}:=h;show{_,(aT (dA (ez Cy (fd<|N0 T) (ah 1)<|by with_unfolding_all rfl) (aV<|bm bn) dJ)
 (aT (dA (kP<|Lq<|ah 2) (aV<|bm bn) dJ)
 (aT (dA (B' (gN<|a2 T.kh T.y'<|ah 2)<|B9<|ez rM (bB T.bB yr<|aK<|a2 T.dQ T.jm<|ah 0) bn<|cR _).hP (aV<|bm bn) dJ)
 (aT (dA (gN<|gS T.dQ T.Fo (Md T) q cH (ah 0)<|aK<|a2 T.kh T.y9<|ah 2) (aV<|bm bn) dJ)
 (aT (dA (gN<|bQ T.NH (aa1 T) q<|cW (ah 0)<|ah 2) (aV<|bm bn) dJ)
 (aV<|bm bn)))))),?_}
 show{(33:UInt8).toNat,S l,D,D,_,D,?_};rw[C5];cases j:l.contains 33 with
 |true=>
  have a:dU d l e=1:=by unfold dU;rw[aM j]
  rw[a]at k;show{H,b8 ak same,k}
 |false=>
  show{_,D,?_};cases e with
  |none=>
   have a:dU d l ag=2:=by unfold dU;rw[aD (by rw[j];decide)]
   cases p;rw[a]at k;show{H,b8 ak same,k}
  |some e=>
   let{y,rfl,(m)}:=p;cases e with
   |user n=>
    let{c,u,O,(Y)}:=id m
    have a:dU d l (I<|.user n)=if 0<ac d.groups then 3 else if(gk d).contains n=aa then 4 else if 12<=ac d.users then 5 else 0:=by unfold dU;rw[aD (by rw[j];decide)]
    show{y,c,_,_,D,O,sC,aa,D,?_};show{x,ae,_,_,D,af.ob,jR,aL,_,D,o,_,_,D,D,_,D,?_};rw[lD af.len,show(0:Int)=((0:Nat):Int)from D,u3];by_cases i:0<ac d.groups
    .rw[aM i]at a;rw[cn i];rw[a]at k;show{H,b8 ak same,k}
    .rw[aD i]at a;rw[ck i];show{x,ae,_,D,af.ob,E6,y,c,_,_,D,O,y8,x,ae,aY,aL,as,d,t,n,D,af,ak,_,D,?_};cases f:(gk d).contains n with
     |true=>rw[aM f]at a;rw[a]at k;show{H,b8 ak same,k}
     |false=>
      rw[aD (by rw[f];decide)]at a;show{x,ae,aY,aL,y,as,d,t,.user n,D,af,o,m,ak,_,D,?_};cases b:tM d (.user n)with
      |true=>rw[aM<|qP b]at a;rw[a]at k;show{H,b8 ak same,k}
      |false=>rw[aD<|qQ b]at a;rw[a]at k;show{H,b8 ak same,k}
   |group g=>
    let{c,u,O,(Y)}:=id m
    have a:dU d l (I<|.group g)=if(gk d).contains g.name=aa then 4 else if 8<=ac d.groups\/12<ac g.members then 5 else 0:=by unfold dU;rw[aD (by rw[j];decide)]
    have r:tM d (.group g)=decide (8<=ac d.groups\/12<ac g.members):=by unfold tM;rw[Bool.decide_or]
    show{y,c,_,_,D,O,sC,ap,D,?_};show{x,ae,_,D,af.ob,E6,y,c,_,_,D,O,y8,x,ae,aY,aL,as,d,t,g.name,D,af,ak,_,D,?_};cases f:(gk d).contains g.name with
    |true=>rw[aM f]at a;rw[a]at k;show{H,b8 ak same,k}
    |false=>
     rw[aD (by rw[f];decide)]at a;show{x,ae,aY,aL,y,as,d,t,.group g,D,af,o,m,ak,_,D,?_};rw[r];by_cases b:8<=ac d.groups\/12<ac g.members
     .rw[cn b];rw[aM b]at a;rw[a]at k;show{H,b8 ak same,k}
     .rw[ck b];rw[aD b]at a;rw[a]at k;show{H,b8 ak same,k}
def W3(A:bf):bC:=λvs H Q _=>∃(x ae aY aL y:ao) (as:List ao) (d:dD) (t:aE) (e:RC.m0),vs=[.ref x,.ref y]/\fh A H x ae aY aL as d t/\H aL=I (.bJ<|dd d.groups as)/\za A H y e/\aO H/\ac d.users<=12/\ac d.groups<=8/\(∀g,e= .group g->g.name∉d.groups.map λg=>g.name)/\(∀n,e= .user n->d.groups=[])/\
 ∀U a,(∀b o,b≠aY->b≠aL->H b=I o->U b=I o)->aO U->fh A U x ae aY aL a (jd d e) t->U aL=I (.bJ<|dd (jd d e).groups a)->Q .bT U
def Zy:∀{bY:List iB} {as:List ao},n∉bY.map (λg=>g.name)->hs (dd bY as) (ec<|S n) v=dd bY as++[(ec<|S n,v)]:=by
 intro bY as h;show Cb v ?_;induction bY generalizing as with
 |nil=>rfl
 |cons g bY b=>
  cases as with
  |nil=>rfl
  |cons a as=>rw[cx,bK,l5]at h;rw[dd,ml λq=>h.1 (k1<|v3 q).symm];show b h.2
def NT:∀{bY:List iB} {as:List ao} {g:iB} {a:ao},ac as=ac bY->dd (bY++[g]) (as++[a])=dd bY as++[(ec<|S g.name,ab.ref a)]
 |[],[],_,_,_=>rfl
 |[],_::_,_,_,h=>by simp at h
 |_::_,[],_,_,h=>by simp at h
 |g::bY,a::as,_,_,h=>by rw[ju,ju,dd,dd,NT<|by grind,ju]
def abL:bs P w base T 1 33 ["self","entry"] (W3 A):=by
 show T.Q0.a8.bx YF λF be aN s H vs Q E C h=>?_;let{x,ae,aY,aL,y,as,d,t,e,rfl,af,f,q,ak,K,G,B,u,(k)}:=h;show{_,(aV<|dA (gN<|a2 T.kh T.y'<|ah 1) (aV<|dm<|ov (a2 T.dQ T.ks<|ah 0)<|aK<|a2 T.kh T.y9<|ah 1)<|aV<|ub (by show f7 C) (a2 T.dQ T.jm<|ah 0) (a2 T.kh T.y9<|ah 1) (a2 T.kh T.Fn<|ah 1) D),?_};cases e with
 |user n=>
  let{i,m,O,(Y)}:=q
  show{y,i,_,_,D,O,sC,aa,D,?_};show{x,ae,_,_,D,af.ob,k6,.inl {D,_,aB.of af.ay},y,i,_,_,D,O,y8,aY,_,_,D,D,af.ay,(by rw[dj,cc];omega),_,.all,?_};have r:aL≠aY:=cq f af.ay (by intro z;cases z);have b6:∀b o,b≠aY->H b=I o->(al H aY<|.ai<|aG d.users++[ab.str<|S n]) b=I o:=λb o O Y=>by rw[aI O];show Y
  show k _ as (λb o O _ Y=>b6 b o O Y) ak.ai {b6 _ _ (cq af.ob af.ay<|by intro z;cases z) af.ob,?_,?_,af.len,λj a g l c=>?_} ?_
  .rw[ar];change _=I (fR.ai<|aG<|d.users++[n]);rw[mm]
  .show .inl<|b6 _ _ r f
  .have c:d.groups[j]? =I g:=c;rw[u n D]at c;simp at c
  .show b6 _ _ r f
 |group g=>
  let{i,m,O,(Y)}:=q
  show{y,i,_,_,D,O,sC,ap,D,?_};show{y,i,_,_,D,O,QV,x,ae,_,_,D,af.ob,jR,y,i,_,_,D,O,y8,aL,_,D,l0.k (k:=ec<|S g.name) f<|by rw[lD af.len,cc];omega,_,.all,?_};rw[Zy<|B g D,<-NT af.len];have b6:∀b o,b≠aL->H b=I o->(al H aL<|.bJ<|dd (d.groups++[g])<|as++[m]) b=I o:=λb o O Y=>by rw[aI O];show Y
  show k _ (as++[m]) (λb o _ O Y=>b6 b o O Y) ak.bJ {b6 _ _ (cq af.ob f<|by intro z;cases z) af.ob,b6 _ _ (cq af.ay f<|by intro z;cases z) af.ay,.inl ar,?_,λj a e7 l c=>?_} ar
  .change(as++[m]).length=↥(d.groups++[g]);rw[b0,b0,af.len];rfl
  .have J:j<=ac as:=by
    have:=(ee.mp l).1;rw[b0]at this;simp at this;omega
   have c:(d.groups++[g])[j]? =I e7:=c;obtain p|p:=fs j ↥as
   .rw[gH p]at l;rw[gH (by rw[<-af.len];show p)]at c;have:=af.cd j a e7 l c;show b6 _ _ (cq this f<|by intro z;cases z) this
   .have v:j=ac as:=by omega
    subst v;rw[tv]at l;rw[af.len,tv]at c;cases l;cases c;show b6 _ _ (cq Y f<|by intro z;cases z) Y
def cv(l r:Nat):(List (Str×ab)):=[("line",.int l),("reason",.int r)]
def Ba(A:bf):bC:=λvs H Q _=>∃(x:ao) (l r:Nat),vs=[.ref x,.int l,.int r]/\H x=I (fo x A.kk ag)/\aO H/\∀ae,H ae=ag->ae≠x->Q .bT (al (al H ae<|fQ ae<|cv l r) x<|fo x A.kk<|I ae)
def uv:bs P w base T 1 29 ["self","line","reason"] (Ba A):=by
 show T.sF.a8.bx YG λg be aN s H vs Q E i h=>?_;let{x,l,r,rfl,f,ak,(k)}:=h;show{_,(aT (Cc (ah 0) (ah 1) D)
 (aV<|Cc (ah 0) (ah 2) D)),{x,_,D,T.ja.cl,T.Q3,.inl {f,λae af bI=>?_}}}
 have d:(al (al H ae<|fQ ae [("line",.int (l:Nat))]) x<|fo x A.kk<|I ae) ae=I (fQ ae [("line",.int (l:Nat))]):=by rw[aI bI,ar]
 show{x,_,D,T.ja.cl,T.Q2,.inr {ae,_,ar,d,bI,(by change 1<1000;decide),_,.all,?_}};have e:al (al (al H ae<|fQ ae [("line",.int (l:Nat))]) x<|fo x A.kk<|I ae) ae (fQ ae<|cs "reason" (.int (r:Nat)) [("line",.int (l:Nat))])=al (al H ae<|fQ ae<|cv l r) x (fo x A.kk<|I ae):=by
  funext b;by_cases a:b=ae
  .subst a;rw[ar,aI bI,ar];rfl
  .rw[aI a];by_cases c:b=x
   .subst c;rw[ar,ar]
   .rw[aI c,aI c,aI a,aI a]
 rw[e];show k ae af bI
def B3(A:bf) aL l r H(E:gh):=∀U ae,c5 aL H U->aO U->H ae=ag->U ae=I (fQ ae<|cv l r)->E (.ref A.kk) (I ae) U
def ve(d:dD)(g:iB):= !g.members.all λm=>(gk d).contains m
def Ic(A:bf)(bad:dD->iB->Bool)(r:Nat):bC:=λvs H Q E=>∃(x ae aY aL:ao) (as:List ao) (d:dD) (t:aE),vs=[.ref x]/\fh A H x ae aY aL as d t/\H aL=I (.bJ<|dd d.groups as)/\aO H/\gZ d/\
 (d.groups.findIdx? (bad d)=ag->Q .bT H)/\∀j,d.groups.findIdx? (bad d)=I j->B3 A aL (ac d.users+j+1) r H E
def KN{σ:L2.St}(h:aO an)(s:c5 aL H an)(i:an aL≠ag)(k:B3 A aL l r H E):∀x,an x=ag->Ba A [.ref x,.int l,.int r] (al an x<|fo x A.kk ag) (λv aw=>v= .bT/\∃a ae,ab.ref x=ab.ref a/\aw a=I (fo a A.kk<|I ae)/\k7 H E (.ref A.kk) (I ae) (dG aw a)) iu:=by
 intro x j;show{x,l,r,D,ar,h.ext,λae af bI=>{D,x,ae,D,ar,_,.all,?_}}
 let{_,f}:=er af
 have aJ:ae≠aL:=λz=>i<|z▸f;have old:∀b,b≠aL->an b=ag->H b=ag:=λb O Y=>by
  cases e:H b with
  |none=>rfl
  |some o=>rw[s b o O e]at Y;cases Y
 rw[BW];show k _ ae (λb o c e=>?_) (λa kvs e=>?_) (old ae aJ f) ?_
 .have d:=s b o c e;have g:=b3 d j;rw[dF g,aI<|b3 d f,aI g];show d
 .by_cases c:a=x
  .rw[c,iF]at e;cases e
  .rw[dF c]at e;show h.ext.ext _ _ e
 .rw[dF bI,ar]
def NO{bY:List iB}(h:bY[i]? =I g)(d:p g=aa)(a:∀j g,j<i->bY[j]? =I g->p g=ap):bY.findIdx? p=I i:=by
 rw[Tb]
 let{c,(e)}:=ee.mp h
 show{c,e▸d,λj b=>a j _ b (cA ∅)▸eY}
def aa7:bs P w base T 3 42 ["directory"] (Ic A ve 6):=by
 show T.Pe.a8.bx tW λaQ be aN s H vs Q E L h=>?_;let{x,ae,aY,aL,as,d,t,rfl,af,f,ak,ok,aA,(aC)}:=h;show{_,(aV<|K7<|i3 gG D (Cj D T.vj (a2 T.dQ T.jm<|ah 0)<|eA mB (bB T.bB d9<|aK<|a2 T.dQ T.ks<|ah 0) bn) (ug D<|kT (c3 (i:=1) tW.aJ D (ce D)<|ce D)<|kT (c3 (i:=2) tW.aJ D (ce D)<|ce D) rF)<|aV<|dA (lu<|gN<|ir T.ir (oK D)<|aK<|f0 D tW.aJ (fN<|xv (by show f7 L) (a2 T.dQ T.jm<|ah 0) (ah 2) λ_ _=>D) (bo:=[("member",3)]) (fn (N:=MN) (b7:=a6 BH) ⋯) (λ_ _ _ _ _=>(c3 (i:=3) tW.aJ D<|ce D)) (λ_ _ _ _ _=>gu) λ_ _ _ _ _=>(gS T.dQ T.Fo (Md T) L cH (ah 0)<|aK<|ah 3)) (aV<|ua T.ja.iK (uv T) (L.mono ⋯) D T.ja.e6 T.sF.b<|cW (ah 1) bn) dJ),?_};show{aL,_,f,trivial,λod=>?_};have ax:x≠aL:=cq af.ob f (by intro z;cases z);have l:c5 aL H (al H aL<|.cg od<|.bJ<|dd d.groups as):=(jb same aL).a2;have y:fh A (al H aL<|.cg od<|.bJ<|dd d.groups as) x ae aY aL as d t:={l _ _ ax af.ob,l _ _ (cq af.ay f<|by intro z;cases z) af.ay,.inr {od,(ar)},af.len,λj a g O Y=>l _ _ (cq (af.cd j a g O Y) f<|by intro z;cases z)<|af.cd j a g O Y};have aF:aO (al H aL<|.cg od<|.bJ<|dd d.groups as):=ak.cg;show{x,ae,_,_,D,y.ob,jR,x,ae,_,_,D,y.ob,k6,aY,_,D,.inl<|aB.of y.ay,_,_,D,D,ac d.users+1,?_,?_,.inr {aL,od,_,D,ar,oC (n:=↥d.groups) (λi σ U=>∃p r u,σ=[I<|.ref x,p,r,u]/\a4 (al H aL<|.cg od<|.bJ<|dd d.groups as) U/\aO U/\∀(j:Nat) g,j<i->d.groups[j]? =I g->ve d g=ap)
  {ag,ag,ag,D,a4.refl _,aF,λj g h=>absurd h<|ti _} ?_ ?_ ?_ ?_}}
 .rw[dj];rfl
 .have:=ok.kF;omega
 .rintro i σ U au ⟨p,r,u,_,aj,_⟩;show{aj _ _ ar,by rw[lD af.len];show au}
 .rintro σ U ⟨p,r,u,_,aj,_⟩;show{aj _ _ ar,lD af.len}
 .rintro i a0 σ U aw au ⟨p,r,u,rfl,aj,Z,good⟩ ⟨T,aX,v,av,rfl,V,rfl⟩
  let{g,a,G,aS,(am)}:=x9 av
  injection am with an aT
  subst an;have k:g∈d.groups:=d5 G;have C:=y.same<|aj.new V (o:=.aZ [ab.int ((ac d.users+1+i:Nat):Int),.str<|S g.name]);have M:aO (al U T<|.aZ [ab.int ((ac d.users+1+i:Nat):Int),.str<|S g.name]):=Z.aZ
  let{o,g1,g2,g3,_}:=C.get g.name
  rw[ex.mpr<|ct.mpr {g,k,(rfl)}]at g2;let{v,(rfl)}:=zV.mp g2;let{aD,rfl,(K)}:=g3 v D;rw[C3 ok.r7 k]at K;show{T,_,D,d1.of ar,D,_,_,D,_,_,D,D,x,ae,_,_,D,C.ob,jR,aL,_,D,g1,aD,D,{_,aB.of K},λaq B=>hv g.members (λt=>ab.str<|S t) (λm=>I<|.a1<|(gk d).contains m) (aB.of K) B (by rw[cc];have:=ok.rV g k;omega) (λj m acc aW aM aP ad _=>?_) ?_}
  .have W:=C.same<|same.new B (o:=.ai acc);show{D,x,ae,_,D,W.ob,E6,x,ae,aY,aL,as,d,t,m,D,W,M.ai,ad _ D}
  .rw[i4];show{aq,g.members.map (gk d).contains,D,aB.of<|by rw[ar,dh];rfl,_,D,?_};rw[nY];have R:=(aj.new V (o:=.aZ [ab.int ((ac d.users+1+i:Nat):Int),.str<|S g.name])).new B (o:=.ai<|(g.members.map λm=>ab.a1<|(gk d).contains m));change(if ve d g=aa then _ else _);have aG:c5 aL H (al (al U T<|.aZ [ab.int ((ac d.users+1+i:Nat):Int),.str<|S g.name]) aq<|.ai<|(g.members.map λm=>ab.a1<|(gk d).contains m)):=λb o c e=>R _ _<|l _ _ c e;split
   .rename_i c;show{(by change 2<=bg;decide),?_};have X:=aC i<|NO G c good;rw[show ac d.users+i+1=ac d.users+1+i by omega]at X;show KN (σ:=[]) M.ai aG ?_ X;show λz=>by have aH:=R _ _ ar;show absurd (aH.symm.trans z) λq=>nomatch q
   .rename_i c;show{_,_,_,D,R,M.ai,λj e7 J F=>?_};obtain h|h:=fs j i
    .show good j e7 h F
    .have:j=i:=by omega
     subst this;rw[G]at F;cases F;simpa using c
 .rintro σ U ⟨p,r,u,rfl,aj,Z,good⟩;show{aj _ _ ar,_,b8 ak λb o e=>?_,aA ?_}
  .by_cases c:b=aL
   .subst c;rw[f]at e;cases e;show ar
   .rw[aI c];show aj _ _<|l _ _ c e
  .rw[Ag];intro g k
   let{j,(J)}:=ng k
   show good j g (ee.mp J).1 J
def gZ.c1(ok:gZ d):oV d:=by
 show{by have:=ok.r8;omega,λn=>?_,?_}
 .by_cases h:n∈d.groups.map λg=>g.name
  .let{g,b,(rfl)}:=ct.mp h;rw[C3 ok.r7 b];show ok.rV g b
  .rw[act h];simp
 .have:∀bY:List iB,(∀g∈bY,ac g.members<=12)->↥(bY.flatMap λg=>g.members)<=ac bY*12:=by
   intro bY;induction bY with
   |nil=>intro _;simp
   |cons a r c=>intro h;rw[h8,b0,cz];have O:=h a ();have Y:=c λg b=>h g (by simp[b]);omega
  have O:=this d.groups ok.rV;have Y:=ok.r8;unfold mV;omega
def aa8:bs P w base T 3 43 ["directory"] (Ic A m7 7):=by
 show T.Pf.a8.bx Bq λaF be aN s H vs Q E J h=>?_;let{x,ae,aY,aL,as,d,t,rfl,af,f,ak,ok,av,(ax)}:=h;show{_,(aV<|K7<|i3 gG D (Cj D T.vj (a2 T.dQ T.jm<|ah 0)<|eA mB (bB T.bB d9<|aK<|a2 T.dQ T.ks<|ah 0) bn) (ug D<|kT (c3 (i:=1) Bq.aJ D (ce D)<|ce D)<|kT (c3 (i:=2) Bq.aJ D (ce D)<|ce D) rF)<|aV<|dA (kP<|oo (by show f7 J) (ah 2)<|gS T.dQ T.vF (xM T) J cH (ah 0)<|aK<|ah 2) (aV<|ua T.ja.iK (uv T) (J.mono ⋯) D T.ja.e6 T.sF.b<|cW (ah 1) bn) dJ),?_};show{aL,_,f,trivial,λod=>?_};have aq:x≠aL:=cq af.ob f (by intro z;cases z);have m:c5 aL H (al H aL<|.cg od<|.bJ<|dd d.groups as):=(jb same aL).a2;have y:fh A (al H aL<|.cg od<|.bJ<|dd d.groups as) x ae aY aL as d t:={m _ _ aq af.ob,m _ _ (cq af.ay f<|by intro z;cases z) af.ay,.inr {od,(ar)},af.len,λj a g O Y=>m _ _ (cq (af.cd j a g O Y) f<|by intro z;cases z)<|af.cd j a g O Y};have aA:aO (al H aL<|.cg od<|.bJ<|dd d.groups as):=ak.cg;show{x,ae,_,_,D,y.ob,jR,x,ae,_,_,D,y.ob,k6,aY,_,D,.inl<|aB.of y.ay,_,_,D,D,ac d.users+1,?_,?_,.inr {aL,od,_,D,ar,oC (n:=↥d.groups) (λi σ U=>∃r u,σ=[I<|.ref x,r,u]/\a4 (al H aL<|.cg od<|.bJ<|dd d.groups as) U/\aO U/\∀(j:Nat) g,j<i->d.groups[j]? =I g->m7 d g=ap)
  {ag,ag,D,a4.refl _,aA,λj g h=>absurd h<|ti _} ?_ ?_ ?_ ?_}}
 .rw[dj];rfl
 .have:=ok.kF;omega
 .rintro i σ U au ⟨r,u,_,aj,_⟩;show{aj _ _ ar,by rw[lD af.len];show au}
 .rintro σ U ⟨r,u,_,aj,_⟩;show{aj _ _ ar,lD af.len}
 .rintro i aP σ U aw au ⟨r,u,rfl,aj,V,good⟩ ⟨T,aM,v,ai,rfl,M,rfl⟩
  let{g,a,F,aG,(Z)}:=x9 ai
  injection Z with ad aH
  subst ad;have B:g∈d.groups:=d5 F;have N:=y.same<|aj.new M (o:=.aZ [ab.int ((ac d.users+1+i:Nat):Int),.str<|S g.name]);have K:aO (al U T<|.aZ [ab.int ((ac d.users+1+i:Nat):Int),.str<|S g.name]):=V.aZ;show{T,_,D,d1.of ar,D,_,_,D,_,_,D,D,x,ae,_,D,N.ob,yZ,x,ae,aY,aL,as,d,t,g.name,D,N,ok.c1,ex.mpr<|ct.mpr {g,B,(rfl)},K,λl p am an=>?_};show{p,_,D,fX.k (k:=ec<|S g.name) ar,_,D,?_};rw[nk];have X:m7 d g=l.contains g.name:=by rw[ey,ex,am,adk,C3 ok.r7 B]
  have W:(if l.contains g.name=aa then I (ab.a1 aa)else ag).isSome=m7 d g:=by rw[X];cases l.contains g.name<;>rfl
  rw[W];have L:=(aj.new M (o:=.aZ [ab.int ((ac d.users+1+i:Nat):Int),.str<|S g.name])).new an (o:=.bJ<|fb l);have aC:c5 aL H (al (al U T<|.aZ [ab.int ((ac d.users+1+i:Nat):Int),.str<|S g.name]) p<|.bJ<|fb l):=λb o c e=>L _ _<|m _ _ c e;change(if m7 d g=aa then _ else _);split
  .rename_i c;show{(by change 2<=bg;decide),?_};have R:=ax i<|NO F c good;rw[show ac d.users+i+1=ac d.users+1+i by omega]at R;show KN (σ:=[]) K.bJ aC ?_ R;show λz=>by have aD:=L _ _ ar;show absurd (aD.symm.trans z) λq=>nomatch q
  .rename_i c;show{_,_,D,L,K.bJ,λj e7 G C=>?_};obtain h|h:=fs j i
   .show good j e7 h C
   .have:j=i:=by omega
    subst this;rw[F]at C;cases C;simpa using c
 .rintro σ U ⟨r,u,rfl,aj,V,good⟩;show{aj _ _ ar,_,b8 ak λb o e=>?_,av ?_}
  .by_cases c:b=aL
   .subst c;rw[f]at e;cases e;show ar
   .rw[aI c];show aj _ _<|m _ _ c e
  .rw[Ag];intro g B
   let{j,(G)}:=ng B
   show good j g (ee.mp G).1 G
def B4(A:bf) l r H(E:gh):=∀ae,H ae=ag->E (.ref A.kk) (I ae) (al H ae<|fQ ae<|cv l r)
def B5(ak:aO H)(d:aO an)(s:a4 H an)(k:B4 A l r H E):∀x,an x=ag->Ba A [.ref x,.int l,.int r] (al an x<|fo x A.kk ag) (λv aw=>v= .bT/\∃a ae,ab.ref x=ab.ref a/\aw a=I (fo a A.kk<|I ae)/\k7 H E (.ref A.kk) (I ae) (dG aw a)) iu:=by
 intro x c;show{x,l,r,D,ar,d.ext,λae af bI=>{D,x,ae,D,ar,?_}}
 let{_,b}:=er af
 show{al H ae<|fQ ae<|cv l r,.he (.ext .refl<|.inl<|s.none b) ?_ ak,k ae<|s.none b};rw[BW];show a4.Ks (a4.both<|s.new c)<|aI bI.symm▸s.none c
def KA(ak:aO H)(s:a4 H an)(f:H aL=ag)(k:B4 A l r H E):B3 A aL l r an (k7 H E):=λU ae d n a e=>
 {al H ae<|fQ ae<|cv l r,.he (.ext .refl<|.inl<|s.none a) (a4.put (λb o c=>d b o (λz=>by grind)<|s b o c) e) ak,k ae<|s.none a}
def WR(A:bf):bC:=λvs H Q E=>∃x:aE,vs=[.str<|S x]/\ac x<=8000/\aO H/\
 (∀d,jJ x= .ok d->∀U a ae aY aL as,a4 H U->aO U->fh A U a ae aY aL as d x->U aL=I (.bJ<|dd d.groups as)->Q (.ref a) U)/\(∀f,jJ x= .error f->B4 A f.line f.reason H E)
def L7:bs P w base T 6 44 ["text"] (WR A):=by
 show T.DY.a8.bx Bo λbE be aN s H vs Q E F h=>?_;let{x,rfl,bl,ak,bu,(O)}:=h;show{_,(aT (co 1<|p2 (ah 0)<|c4 [10])
 (aT (co 2<|M5<|ah 1)
 (aT (co 3<|mQ T.dQ T.QY (abJ T) F cH<|aK<|ah 0)
 (aT (i3 gG D (Cj D T.vj (ah 1) bn) (ug D<|kT (c3 (i:=4) Bo.aJ D (ce D)<|ce D)<|kT (c3 (i:=5) Bo.aJ D (ce D)<|ce D) rF) (aT (co 6<|bQ T.OJ (aa5 T) F<|aK<|ah 5)
  (aT (co 7<|bQ T.Nc (aaV T) F<|ih (ah 3) (ah 5)<|ah 6)
  (aT (dA (ez rM (ah 7) bn<|cR _) (aV<|ua T.ja.iK (uv T) (F.mono ⋯) D T.ja.e6 T.sF.b<|cW (ah 4)<|ah 7) dJ)
  (aV<|dm<|gS T.dQ T.Q0 (abL T) F cH (ah 3)<|aK<|ah 6)))))
 (aT (dA (ez rK (ah 2) (c4 [])<|cR _) (aV<|ua T.ja.iK (uv T) (F.mono ⋯) D T.ja.e6 T.sF.b<|cW (eA mB (bB T.bB d9<|aK<|ah 1) bn) bn) dJ)
 (aT (dm<|d0 T.Pe (aa7 T) F dB<|aK<|ah 3)
 (aT (dm<|d0 T.Pf (aa8 T) F dB<|aK<|ah 3)
 (aT (dA (ez hU (bB T.bB d9<|aK<|a2 T.dQ T.ks<|ah 3) bn<|cR _) (aV<|ua T.ja.iK (uv T) (F.mono ⋯) D T.ja.e6 T.sF.b<|cW (eA mB (bB T.bB d9<|aK<|ah 1) bn) bn) dJ)
 (aV<|bm<|ah 3))))))))),?_}
 show{{_,D},S x,S [10],D,D,D,pS<|by unfold cV;omega,λp bq=>?_};rw[pH];obtain⟨a',ai,al⟩:∃a' ai,cutAt 10 x=a'++[ai]:=by
  obtain e|⟨a,b,e⟩:=GG<|cutAt 10 x
  .show absurd e<|kX _ _
  .show{a,b,by rw[e,GI]}
 have m:jJ x=match hO 1 {users:=[],groups:=[]} a' with
  |.error f=>.error f
  |.ok d=>if ai≠[]then .error {↥a'+1,1}else
   match d.groups.findIdx? (ve d)with
   |some k=>.error {↥d.users+k+1,6}
   |none=>match d.groups.findIdx? (m7 d)with
    |some k=>.error {↥d.users+k+1,7}
    |none=>if ↥d.users=0 then .error {↥a'+1,8}else .ok d:=by
  unfold jJ;rw[al,wr,S5];rfl
 have fU:=pT (c:=10) (t:=x) (by unfold cV;omega);have hlen:∀l∈a',↥l<=8000:=λl av=>b5 (qm 10 x l<|by rw[al];simp[av]) bl;rw[al]at fU⊢;show{.inl {D,_,aB.of ar},p,_,_,D,D,ar,(by rw[mm];simp:(aG<|a'++[ai])[↥(aG<|a'++[ai])-1]? =I (ab.str<|S ai)),?_};rw[mm,wr,ho];show λr ae b1 aJ bI=>?_;have Z:=er b1;have a0:=er aJ;show{r,ae,x,D,ar,ak.ai.bo.aS,λan aY aL a3 bv a7 a9 aP K C=>{D,?_}};let{bK,(K)}:=er K
 let{bM,(K)}:=er K
 let{br,(K)}:=er K
 let{bF,(C)}:=er C
 let{bH,(C)}:=er C
 let{bk,(C)}:=er C
 have aj:a4 H an:=λb o B=>a3 b o (b3 B Z.2) (by rw[aI<|b3 B Z.2,aI<|b3 B a0.2,aI<|b3 B bq];show B);have ep:an p=I (.ai<|aG a'):=a3 p _ (eo Z.1) (by rw[aI<|eo Z.1,aI<|eo a0.1];show ar);show{1,D,⋯,.inl {p,_,D,aB.of ep,oC (n:=↥a') (λi σ U=>∃d as V W X Y,σ=[I<|.str<|S x,I<|.ref p,I<|.str<|S ai,I<|.ref r,V,W,X,Y]/\a4 H U/\aO U/\U p=I (.ai<|aG a')/\fh A U r ae aY aL as d x/\U aL=I (.bJ<|dd d.groups as)/\gZ d/\hO 1 {users:=[],groups:=[]} a'=hO (1+i) d (a'.drop i))
  {{users:=[],groups:=[]},[],ag,ag,ag,ag,D,aj,bv,ep,{a7,a9,.inl aP,D,λj a g h=>by simp at h},aP,gZ.empty,D} ?_ ?_ ?_ ?_}}
 .rintro i σ U au ⟨d,as,V,W,X,Y,rfl,aA,G,u,_⟩;show{_,_,aB.of u,kG<|cA au}
 .rintro σ U ⟨d,as,V,W,X,Y,rfl,aA,G,u,_⟩;show{_,aB.of u,dj _}
 .rintro i v σ U aw au ⟨d,as,V,W,X,Y,rfl,aA,G,u,af,N,ok,J⟩ ⟨T,bN,rfl,bd,rfl,ax⟩;let{l,aW,(rfl)}:=rj<|ax _<|aB.of u;have bp:l∈a':=d5 aW;show{T,_,D,d1.of ar,D,_,_,D,_,_,D,D,l,D,hlen l bp,G.aZ,λa5 bC bA aF aH=>?_};have R:a4 U a5:=(same.new bd).trans bA;have am:=af.same R;have aQ:=R _ _ N;show{r,ae,aY,aL,as,d,x,l,fP l,bC,D,am,aQ,aH,aF,?_};have L:hO (1+i) d (a'.drop i)=if 0<dU d l (fP l)then .error {1+i,dU d l<|fP l}else match fP l with
    |some e=>hO (1+i+1) (jd d e)<|a'.drop<|i+1
    |none=>.error {1+i,0}:=by
   rw[nX au,(ee.mp aW).2];rfl
  show{_,_,D,D,_,D,?_};change(if decide ((0:Int)<((dU d l (fP l):Nat):Int))=aa then _ else _);by_cases q:0<dU d l (fP l)
  .rw[aM<|cn ∅];rw[aM q]at L;rw[J,L]at m;show{(by change 2<=bg;decide),?_};show B5 ak aF (aA.trans R)<|O _ m
  .rw[aD (by rw[dg];omega)];rw[aD q]at L;cases ad:fP l with
   |none=>
    exfalso;rw[ad]at q;apply q;unfold dU;split
    .decide
    .change 0<2;decide
   |some e=>
    rw[ad]at aH L q;let{y,rfl,(bt)}:=aH;have a1:=gZ.add ok ad q;show{r,ae,_,D,am.ob,ajw,r,ae,aY,aL,y,as,d,x,e,D,am,aQ,bt,aF,ok.kF,ok.r8,?_,?_,λbD a6 b6 bw bf bi=>?_}
    .rintro g rfl av;have:=a1.r7;rw[show(jd d<|.group g).groups=d.groups++[g]from D,dX,nf]at this;show this.2.2 _ av _ () D
    .rintro n rfl;unfold dU at q;split at q
     .show absurd ⋯ q
     .have aX:¬0<(if 0<↥d.groups then 3 else if(gk d).contains n=aa then 4 else if 12<=↥d.users then 5 else 0):=q;split at aX
      .show absurd ⋯ aX
      .rename_i M;show tu.mp ∅
    .show{jd d e,a6,_,_,_,_,D,λb o B=>b6 b o (b3 B K) (b3 B C)<|R _ _<|aA _ _ B,bw,b6 _ _ (eo br) (eo bk)<|R _ _ u,bf,bi,a1,J.trans<|L.trans ?_};rw[show 1+i+1=1+(i+1) by omega]
 .rintro σ U ⟨d,as,V,W,X,Y,rfl,aA,G,u,af,N,ok,J⟩;rw[wo]at J;have J:hO 1 {users:=[],groups:=[]} a'= .ok d:=J;rw[J]at m;show{D,_,D,?_};rw[hd];by_cases M:ai=[]
  .rw[cn M];have m:jJ x=match d.groups.findIdx? (ve d)with
     |some k=>.error {↥d.users+k+1,6}
     |none=>match d.groups.findIdx? (m7 d)with
      |some k=>.error {↥d.users+k+1,7}
      |none=>if ↥d.users=0 then .error {↥a'+1,8}else .ok d:=m.trans<|aD λz=>z M
   show{r,ae,aY,aL,as,d,x,D,af,N,G,ok,(λba=>?_),(λj aq=>KA ak aA C<|O {_,_}<|by rw[m,aq])};rw[ba]at m;show{r,ae,aY,aL,as,d,x,D,af,N,G,ok,(λbc=>?_),(λj aq=>KA ak aA C<|O {_,_}<|by rw[m,aq])};rw[bc]at m;show{r,ae,_,_,D,af.ob,k6,aY,_,D,.inl<|aB.of af.ay,D,_,D,?_};rw[dj,se];by_cases aC:↥d.users=0
   .rw[aM aC]at m;rw[show((((↥d.users:Nat):Int)==(0:Int))=aa)from by rw[aC];rfl];show{p,_,D,.inl<|aB.of u,_,_,D,D,(by change 2<=bg;decide),?_};rw[dj];show B5 ak G aA<|O _ m
   .rw[aD aC]at m;rw[show((((↥d.users:Nat):Int)==(0:Int))=ap)from by rw[k9];omega];show{_,.all,bu d m _ r ae aY aL as aA G af N}
  .rw[ck M];have m:jJ x= .error {↥a'+1,1}:=m.trans<|aM M;show{p,_,D,.inl<|aB.of u,_,_,D,D,(by change 2<=bg;decide),?_};rw[dj];show B5 ak G aA<|O _ m
def VY(A:bf):bC:=λvs H Q _=>∃(x y z bq aY aL:ao) (as:List ao) (p:dN) (r:iY) (d:dD) (t dk:aE),vs=[.ref x,.ref y,.ref z]/\hB A H x p t/\kn A H y r/\fh A H z bq aY aL as d dk/\oV d/\aO H/\Q (.a1<|vP d r.user p.who) H
def U9:[97,110,121]=et:=D
def AZ:[117,115,101,114]=gb:=D
def aaX:bs P w base T 3 45 ["pattern","request","directory"] (VY A):=by
 show T.ND.a8.bx XQ λj be aN s H vs Q E f h=>?_;let{x,y,z,bq,aY,aL,as,p,r,d,t,dk,rfl,c,g,af,c1,ak,(k)}:=h;show{_,(aT (dA (ez hU (a2 T.eC T.vu<|ah 0) (c4 [97,110,121])<|cR _) (aV<|bm om) dJ)
 (aT (dA (ez hU (a2 T.eC T.vu<|ah 0) (c4 [117,115,101,114])<|cR _) (aV<|bm<|e2 hU (a2 T.eC T.yS<|ah 0) (a2 T.e' T.sp<|ah 1)<|cR _) dJ)
 (aV<|bm<|gS T.dQ T.QX (abI T) f cH (ah 2)<|cW (a2 T.e' T.sp<|ah 1)<|a2 T.eC T.yS<|ah 0))),?_}
 let{ae,i,o,B,ps,O,Y,l,(m)}:=c
 let{a,q,cr,b,u,(v)}:=g
 show{x,ae,_,_,D,O,y7,D,_,D,?_};rw[hd,U9];cases ax:p.who with
 |any=>rw[ax]at k;show{H,b8 ak same,k}
 |user n=>
  rw[ax]at k O;rw[show nw (.user n)=gb from D,ck<|show ¬gb=et by decide+kernel];show{x,ae,_,_,D,O,y7,D,_,D,?_};rw[hd,AZ,cn<|show nw (.user n)=gb from D];show{x,ae,_,_,D,O,Fj,y,a,_,_,D,b,vD,D,H,b8 ak same,?_};rw[hd];have e:vP d r.user (.user n)=decide (gd (.user n)=r.user):=by change(r.user==n)=decide (n=r.user);rw[ey,ei,dg];show{ty,(ty)}
  rw[e]at k;show k
 |group n=>rw[ax]at k O;rw[show nw (.group n)=hL from D,ck<|show ¬hL=et by decide+kernel];show{x,ae,_,_,D,O,y7,D,_,D,?_};rw[hd,AZ,show nw (.group n)=hL from D,ck<|show ¬hL=gb by decide+kernel];show{z,bq,_,D,af.ob,aju,y,a,_,_,D,b,vD,x,ae,_,_,D,O,Fj,z,bq,aY,aL,as,d,dk,r.user,n,D,af,c1,ak,H,b8 ak same,k}
def w4(A:bf)(f:dN->iY->Bool):bC:=λvs H Q _=>∃(x y:ao) (p:dN) (r:iY) (t:aE),vs=[.ref x,.ref y]/\hB A H x p t/\kn A H y r/\ac p.path<=100/\ac r.path<=100/\ac p.wishes<=1000/\aO H/\Q (.a1<|f p r) H
def aa0:bs P w base T 1 46 ["pattern","request"] (w4 A λp r=>s0 p r.action):=by
 show T.NG.a8.bx XT λm be aN s H vs Q E z h=>?_;let{x,y,p,r,t,rfl,i,j,q,u,v,ak,(k)}:=h;show{_,(aV<|bm<|xr (e2 hU (bB T.bB d9<|aK<|a2 T.eC T.yT<|ah 0) bn<|cR _)<|jB<|e2 rL (a2 T.e' T.vr<|ah 1) (a2 T.eC T.yT<|ah 0)<|by with_unfolding_all rfl),?_}
 let{ae,b,B,J,ps,O,Y,n,(o)}:=i
 let{f,C,cr,l,F,(G)}:=j
 show{x,ae,_,_,D,O,Fk,b,_,D,.inl<|aB.of Y,D,_,D,?_};rw[dj,se];have k:Q (ab.a1<|s0 p r.action) H:=k;have e:s0 p r.action=(p.acts.isEmpty||p.acts.contains r.action):=D;cases a:p.acts with
 |nil=>rw[e,a]at k;show{H,b8 ak same,k}
 |cons c d=>
  have g:(((↥(c::d):Nat):Int)==0)=ap:=by rw[k9,cz];omega
  rw[g];show{y,f,_,_,D,l,y4,x,ae,_,_,D,O,Fk,b,_,D,.inl<|aB.of Y,D,pI _,H,b8 ak same,?_};rw[qd _ _];rw[e,a]at k;rw[a];show k
def n4(l:List aE):(eX):=.list<|l.map λt=>.str<|S t
def u2:∀l,iv K H (aG l)<|l.map λt=>.str<|S t
 |[]=>.nil
 |t::l=>.cons (.str _)<|u2 l
def w8 l:kA (n4 l)=aa:=by
 have h:∀l:List aE,fY (l.map λt=>zS<|S t)=aa/\f' (l.map λt=>zS<|S t)=0:=by
  intro l;induction l with
  |nil=>show{D,(rfl)}
  |cons t r a=>show{by rw[cx,fY,a.1];simp[pm,wZ],by rw[cx,f',a.2];rfl}
 unfold kA n4;rw[cf];show{(h l).1,by rw[pl,(h l).2];decide}
def OE:∀a b,fJ (n4 a) (n4 b)=(a==b):=by
 have h:∀a b:List aE,i0 (a.map λt=>zS<|S t) (b.map λt=>zS<|S t)=(a==b):=by
  intro a;induction a with
  |nil=>intro b;cases b<;>rfl
  |cons t r c=>
   intro b;cases b with
   |nil=>rfl
   |cons u s=>rw[cx,cx,i0,c s,fJ];congr 1;rw[ey,ei,ei,vp]
 intro a b;show h a b
def aaY:bs P w base T 1 47 ["pattern","request"] (w4 A λp r=>sS p r.path):=by
 show T.NE.a8.bx XR λv be aN s H vs Q E f h=>?_;let{x,y,p,r,t,rfl,l,m,B,C,F,ak,(k)}:=h;show{_,(aT (dA (gN<|a2 T.eC T.Qt<|ah 0) (aV<|bm<|e2 (Cz<|by show uQ f) (hR kL (a2 T.e' T.sr<|ah 1) iH<|hc<|bB T.bB d9<|aK<|a2 T.eC T.vt<|ah 0) (a2 T.eC T.vt<|ah 0)<|cR _) dJ)
 (aV<|bm<|e2 (Cz<|by show uQ f) (a2 T.e' T.sr<|ah 1) (a2 T.eC T.vt<|ah 0)<|cR _)),?_}
 let{ae,u,n,J,ps,O,Y,a,(z)}:=l
 let{c,o,cr,g,i,(G)}:=m
 show{x,ae,_,_,D,O,akb,_,D,?_};have k:Q (ab.a1<|sS p r.path) H:=k;have e:sS p r.path=if p.below=aa then p.path.isPrefixOf r.path else r.path==p.path:=D
 cases d:p.below with
 |true=>
  rw[e,aM d]at k;show{y,c,_,_,D,g,vE,x,ae,_,_,D,O,y6,n,_,D,.inl<|aB.of a,_,D,o,_,D,aB.of i,λq b=>?_};rw[dj,sf,ri];show{x,ae,_,_,D,bd b O,y6,n4<|r.path.take ↥p.path,n4 p.path,.ai (aB.of ar)<|u2 _,.ai (aB.of<|bd b a)<|u2 _,w8 _,w8 _,H,b8 ak<|same.new b,?_};rw[OE];have j:(r.path.take ↥p.path==p.path)=p.path.isPrefixOf r.path:=by rw[ey,ei,pu,Gw];show{ty,(ty)}
  rw[j];show k
 |false=>rw[e,aD (by rw[d];decide)]at k;show{y,c,_,_,D,g,vE,x,ae,_,_,D,O,y6,n4 r.path,n4 p.path,.ai (aB.of i)<|u2 _,.ai (aB.of a)<|u2 _,w8 _,w8 _,H,b8 ak same,?_};rw[OE];show k
def aa9:bs P w base T 1 48 ["pattern","request"] (w4 A λp r=>qI p r.flags):=by
 show T.PJ.a8.bx Bs λJ be aN s H vs Q E V h=>?_;let{x,y,p,r,t,rfl,n,o,M,R,U,ak,(k)}:=h;show{_,(aV<|bm<|ir T.ir (oK D)<|aK<|f0 D Bs.aJ (fN<|a2 T.eC T.E1<|ah 0) (bo:=[("wish",2)]) (fn (N:=MQ) (b7:=a6 BK) ⋯) (λ_ _ _ _ _=>(c3 (i:=2) Bs.aJ D<|ce D)) (λ_ _ _ _ _=>gu) λ_ _ _ _ _=>(e2 hU (e2 (LR (K:=K) D) (dc (uJ (K:=K) D) (ah 2) bn λ_ _=>D) (a2 T.e' T.vq<|ah 1)<|by with_unfolding_all rfl) (dc (uJ (K:=K) D) (ah 2) bn λ_ _=>D)<|cR _)),?_}
 let{ae,G,W,B,ps,O,Y,L,(a)}:=n
 let{d,X,cr,u,Z,(v)}:=o
 have k:Q (ab.a1<|qI p r.flags) H:=k;have hz:↥(ps.zip p.wishes)=ac p.wishes:=by rw[tt,a.len,wa]
 have e:ps.map ab.ref=(ps.zip p.wishes).map λz=>ab.ref z.1:=by
  have:ps=(ps.zip p.wishes).map (λz=>z.1):=(Aa<|by rw[a.len];show bA _).symm;conv=>lhs;rw[this]
  rw[dh];rfl
 have f:p.wishes=(ps.zip p.wishes).map (λz=>z.2):=(tq<|by rw[a.len];show bA _).symm;show{x,ae,_,_,D,O,QU,B,D,{_,aB.of a.a'},λaq b=>hv (ps.zip p.wishes) (λz=>ab.ref z.1) (λz=>I<|.a1<|r.flags.contains z.2.flag==z.2.on) (aB.of<|by rw[a.a',e]) b (by rw[hz,cc];omega) (λi z acc au C F m _=>?_) ?_}
 .let{dP,(q)}:=q'.mp au
  have c:(al H aq<|.ai acc) z.1=I (.aZ [.str<|S z.2.flag,.a1 z.2.on]):=bd b<|a.bZ i _ _ dP q;show{D,z.1,_,_,_,D,D,d1.of c,dy (j:=0) D,y,d,_,_,D,bd b u,y3,cr,_,D,.inl<|aB.of<|bd b v,D,pI _,?_};rw[show(if ap=aa then !im (ab.str<|S z.2.flag) (aG r.flags)else im (ab.str<|S z.2.flag) (aG r.flags))=r.flags.contains z.2.flag from qd _ _];show{z.1,_,_,_,D,D,d1.of c,dy (j:=1) D,D,?_};have g:decide (ab.a1 (r.flags.contains z.2.flag)=ab.a1 z.2.on)=(r.flags.contains z.2.flag==z.2.on):=by cases r.flags.contains z.2.flag<;>cases z.2.on<;>rfl
  rw[g];show m _ D
 .rw[i4];show{aq,(ps.zip p.wishes).map λz=>r.flags.contains z.2.flag==z.2.on,D,aB.of<|by rw[ar,dh];rfl,H,b8 ak<|same.new b,?_};rw[nY];have l:qI p r.flags=(ps.zip p.wishes).all (λz=>r.flags.contains z.2.flag==z.2.on):=by
   unfold qI;conv=>lhs;rw[f]
   rw[nY];rfl
  rw[l]at k;show k
def aaZ:bs P w base T 1 49 ["pattern","request"] (w4 A λp r=>sN p r.time):=by
 show T.NF.a8.bx XS λo be aN s H vs Q E C h=>?_;let{x,y,p,r,t,rfl,j,l,v,z,B,ak,(k)}:=h;show{_,(aT (dA (B' (kP<|Lp<|a2 T.eC T.yR<|ah 0)<|B9<|ez p5 (a2 T.e' T.sq<|ah 1) (a2 T.eC T.yR<|ah 0)<|cR _).hP (aV<|bm om) dJ)
 (aV<|bm<|xr (xw<|Lq<|a2 T.eC T.yQ<|ah 0)<|jB<|e2 p5 (a2 T.e' T.sq<|ah 1) (a2 T.eC T.yQ<|ah 0)<|cR _)),?_}
 let{ae,m,F,L,ps,O,Y,q,(u)}:=j
 let{d,G,cr,f,J,(K)}:=l
 have k:Q (ab.a1<|sN p r.time) H:=k;have e:sN p r.time=(p.since.all (λa=>decide (a<=r.time))&&p.until_.all λb=>decide (r.time<b)):=D;rw[e]at k;cases i:p.since with
 |none=>
  rw[i]at k O;have k:Q (ab.a1<|p.until_.all λb=>decide (r.time<b)) H:=k;show{x,ae,_,_,D,O,y5,_,D,?_};cases c:p.until_ with
  |none=>rw[c]at k O;show{x,ae,_,_,D,O,qE,_,D,H,b8 ak same,k}
  |some b=>rw[c]at k O;show{x,ae,_,_,D,O,qE,_,D,y,d,_,_,D,f,sB,x,ae,_,_,D,O,qE,_,_,D,D,H,b8 ak same,?_};change Q (ab.a1<|decide (((r.time:Nat):Int)<((b:Nat):Int))) H;rw[u3];show k
 |some n=>
  rw[i]at k O;have k:Q (ab.a1<|decide (n<=r.time)&&p.until_.all λb=>decide (r.time<b)) H:=k;show{x,ae,_,_,D,O,y5,_,D,?_};show{y,d,_,_,D,f,sB,x,ae,_,_,D,O,y5,_,_,D,D,_,D,?_};change(if decide (((r.time:Nat):Int)<((n:Nat):Int))=aa then _ else _);rw[u3];by_cases g:r.time<n
  .rw[aM<|cn g];rw[ck<|show ¬n<=r.time by omega]at k;show{H,b8 ak same,k}
  .rw[aD (by rw[dg];show g)];rw[cn<|show n<=r.time by omega,pA]at k;cases c:p.until_ with
   |none=>rw[c]at k O;show{x,ae,_,_,D,O,qE,_,D,H,b8 ak same,k}
   |some b=>rw[c]at k O;show{x,ae,_,_,D,O,qE,_,D,y,d,_,_,D,f,sB,x,ae,_,_,D,O,qE,_,_,D,D,H,b8 ak same,?_};change Q (ab.a1<|decide (((r.time:Nat):Int)<((b:Nat):Int))) H;rw[u3];show k
def nC d p(r:iY):=[vP d r.user p.who,s0 p r.action,sS p r.path,qI p r.flags,sN p r.time]
def Od d p r:(nC d p r).all id=fits d p r:=by unfold nC fits;simp
def WL(A:bf):bC:=λvs H Q _=>∃(x y z bq aY aL:ao) (as:List ao) (p:dN) (r:iY) (d:dD) (t dk:aE),vs=[.ref x,.ref y,.ref z]/\hB A H x p t/\kn A H y r/\fh A H z bq aY aL as d dk/\oV d/\ac p.path<=100/\ac r.path<=100/\ac p.wishes<=1000/\aO H/\
 ∀q,H q=ag->Q (.ref q) (al H q<|.ai<|(nC d p r).map ab.a1)
def L5:bs P w base T 4 50 ["pattern","request","directory"] (WL A):=by show T.DO.a8.bx XZ λg be aN s H vs Q E b h=>?_;let{x,y,z,bq,aY,aL,as,p,r,d,t,dk,rfl,a,c,af,c1,cX,d8,e,ak,(k)}:=h;show{_,(aV<|bm<|eg<|hT (bQ T.ND (aaX T) b<|ih (ah 0) (ah 1)<|ah 2)<|hT (bQ T.NG (aa0 T) b<|cW (ah 0)<|ah 1)<|ih (bQ T.NE (aaY T) b<|cW (ah 0)<|ah 1) (bQ T.PJ (aa9 T) b<|cW (ah 0)<|ah 1)<|bQ T.NF (aaZ T) b<|cW (ah 0)<|ah 1),?_};show{x,y,z,bq,aY,aL,as,p,r,d,t,dk,D,a,c,af,c1,ak,?_};show{x,y,p,r,t,D,a,c,cX,d8,e,ak,?_};show{x,y,p,r,t,D,a,c,cX,d8,e,ak,?_};show{x,y,p,r,t,D,a,c,cX,d8,e,ak,?_};show{x,y,p,r,t,D,a,c,cX,d8,e,ak,(by change 5<=bg;decide),λq f=>{_,fe ak (same.new f) f ar,k q f}}
def WM(A:bf):bC:=λvs H Q _=>∃(x y z bq aY aL:ao) (as:List ao) (p:dN) (r:iY) (d:dD) (t dk:aE),vs=[.ref x,.ref y,.ref z]/\hB A H x p t/\kn A H y r/\fh A H z bq aY aL as d dk/\oV d/\ac p.path<=100/\ac r.path<=100/\ac p.wishes<=1000/\aO H/\Q (.a1<|fits d p r) H
def aa6:bs P w base T 5 51 ["pattern","request","directory"] (WM A):=by show T.OU.a8.bx X1 λj be aN s H vs Q E f h=>?_;let{x,y,z,bq,aY,aL,as,p,r,d,t,dk,rfl,a,g,af,c1,cX,d8,i,ak,(k)}:=h;show{_,(aV<|bm<|ir T.ir (oK D)<|aK<|bQ T.DO (L5 T) f<|ih (ah 0) (ah 1)<|ah 2),?_};show{x,y,z,bq,aY,aL,as,p,r,d,t,dk,D,a,g,af,c1,cX,d8,i,ak,λq c=>?_};show{q,nC d p r,D,aB.of ar,H,b8 ak<|same.new c,?_};have e:(nC d p r).all (λb=>b)=fits d p r:=Od d p r;show e▸k
def W7(o:Lt B lt) l b7(h:qt (iG lt l) (l.map b7) ys):ys=(ic lt l).map b7:=by
 let{ps,c,rfl,(d)}:=h;rw[bt,Y1]at c;let{i,e,(rfl)}:=ui _ c;rw[dh,<-rp o e ?_]at⊢
 .rfl
 .rw[wh]at d;show d.imp_of_mem λ{a b} g f q=>?_;rw[xn o<|e.mem_iff.mp f,sV];omega
def bP(l:List aE):(List aE):=ic fi<|e3 l
def aas t:r1 (d6 t)=aa:=D
def aaq(l:List aE) i j d e(O:(l.map d6)[i]? =I d)(Y:(l.map d6)[j]? =I e):gP d e=decide (iG fi l i<iG fi l j):=by
 rw[cO]at O Y;unfold iG;cases c:l[i]? with
 |none=>rw[c]at O;cases O
 |some a=>
  cases f:l[j]? with
  |none=>rw[f]at Y;cases Y
  |some b=>rw[c]at O;rw[f]at Y;cases O;cases Y;rw[uD];show xn f4 (by grind)
def aar(c:dL l):oU K H' H (aG l) (l.map d6) (iG fi l):=by
 show{by rw[bt,dj],λi x d U O Y s n=>?_,λd af=>?_,λd af e b=>?_,aaq l}
 .let{t,f,(rfl)}:=rj O;rw[cO,f]at Y;cases Y;show{t,D,c.bZ t<|by grind,n,λp a=>{p,D,a,(ar▸Sr _),same.new a,n.aZ,sb ar}}
 .let{t,_,rfl}:=ct.mp af;show{aas t,Bd t}
 .let{t,_,rfl}:=ct.mp af;let{u,_,rfl}:=ct.mp b;rfl
def aaz l:∀t∈e3 l,t∈l:=by
 have key:∀(l acc:List aE),∀t∈l.foldl cE acc,t∈l\/t∈acc:=by
  intro l;induction l with
  |nil=>simp
  |cons a r b=>
   intro acc t h;obtain h|h:=b _ t h
   .show .inl (by simp[h])
   .unfold cE at h;split at h
    .show .inr h
    .obtain h|h:=cN.mp h
     .show .inr h
     .show cy.mp h▸ .inl ()
 intro t h;obtain h|h:=key l [] t h
 .show h
 .simp at h
def dL.e3(h:dL l):dL (RC.e3 l):={b5 (xH l) h.len,λt a=>h.bZ t<|aaz l t a}
def ac3 l:(fb l).map (λz=>da z.1)=aG l:=by unfold fb aG;rw[dh];rfl
def WD:bC:=λvs H Q _=>∃(a:ao) (l:List aE),vs=[.ref a]/\H a=I (.ai<|aG l)/\dL l/\aO H/\∀p,H p=ag->Q (.ref p) (al H p<|.ai<|aG<|bP l)
def xL:bs P w base T 3 17 ["names"] WD:=by show T.uO.a8.bx XX λj be aN s H vs Q E g h=>?_;let{a,l,rfl,i,b,ak,(k)}:=h;show{_,(aV<|bm<|Lm D T.vg T.p8 (rN T) g<|bQ T.DV (L6 T) g<|aK<|ah 0),{a,l,D,i,b,ak,λd af=>{d,aG<|e3 l,(e3 l).map d6,iG fi<|e3 l,D,.inr {fb<|e3 l,.inl ar,(ac3 _).symm},ak.bJ,(by rw[dj];show hu b.e3.len),aar b.e3,λU p ys s n c c9=>?_}}};have e:=W7 f4 (e3 l) (λt=>ab.str<|S t) c9;subst e;have f:=(same.new af).trans s;show{_,fe ak (f.new c) (f.none c) ar,k p<|f.none c}
structure mY(A:bf)(H:aP)(aH:ao)(a5:List ao)(ps:List dN):Prop where
 a':H aH=I (.ai<|a5.map ab.ref)
 len:↥a5=↥ps
 bZ:∀(j:Nat) x p,a5[j]? =I x->ps[j]? =I p->hB A H x p (iT p)
def mY.same(h:mY A H aH a5 ps)(s:a4 H U):mY A U aH a5 ps:={s _ _ h.a',h.len,λj x p O Y=>(h.bZ j x p O Y).same s}
structure jP(ps:List dN):Prop where
 c1:↥ps<=100
 bZ:∀p∈ps,jp p=aa
def jD(h:bz t=aa):ac t<=12:=by unfold bz at h;rw[cf,cf,dg]at h;show h.2.1
def AC{a5:List ao}{ps:List dN}(h:ac a5=ac ps):a5.map ab.ref=(a5.zip ps).map λz=>ab.ref z.1:=by
 have:a5=(a5.zip ps).map (λz=>z.1):=(Aa ∅).symm;conv=>lhs;rw[this]
 simp
def G2{a5:List ao}{ps:List dN}(h:ac a5=ac ps):(a5.zip ps).map (λz=>z.2)=ps:=tq ∅
def U0{a5:List ao}(h:ac a5=ac ps):((a5.zip ps).map λz=>match z.2.who with|.user n=>I (ab.str<|S n)|_=>ag).filterMap id=aG (eb ps):=by
 have e:((a5.zip ps).map λz=>match z.2.who with|.user n=>I (ab.str<|S n)|_=>ag)=((a5.zip ps).map λz=>z.2).map λp=>match p.who with|.user n=>I (ab.str<|S n)|_=>ag:=by rw[dh];rfl
 rw[e,G2 h];clear h e;induction ps with
 |nil=>rfl
 |cons p r a=>
  rw[cx];unfold eb at a⊢;cases ax:p.who with
  |user n=>rw[j4,j4,ax,a];rfl
  |any=>rw[j4,j4,ax,a];rfl
  |group n=>rw[j4,j4,ax,a];rfl
def Hz(dr:jP ps):↥(eb ps)<=100/\∀t∈eb ps,ac t<=12:=by
 show{b5 (pt _ _) dr.c1,λt b=>?_}
 let{p,a,(e)}:=q7.mp b
 have h:=(fl p).mp<|dr.bZ p a;cases ax:p.who with
 |user n=>rw[ax]at e;cases e;have:=h.1;rw[ax]at this;show jD this
 |any=>rw[ax]at e;cases e
 |group n=>rw[ax]at e;cases e
def V0(A:bf):bC:=λvs H Q _=>∃(z bq aY aL aH:ao) (as a5:List ao) (d:dD) (dk:aE) (ps:List dN),vs=[.ref z,.ref aH]/\fh A H z bq aY aL as d dk/\mY A H aH a5 ps/\gZ d/\jP ps/\aO H/\∀p,H p=ag->Q (.ref p) (al H p<|.ai<|aG<|bP<|d.users++eb ps)
def aaE:bs P w base T 4 52 ["directory","patterns"] (V0 A):=by
 show T.Hn.a8.bx Bh λB be aN s H vs Q E l h=>?_;let{z,bq,aY,aL,aH,as,a5,d,dk,ps,rfl,af,a,ok,dr,ak,(k)}:=h;show{_,(aV<|bm<|bQ T.uO (xL T) l<|aK<|eA lw (a2 T.dQ T.ks<|ah 0)<|f0 D Bh.aJ (fN<|ah 1) (bo:=[("pattern",2)]) (fn (N:=MF) (b7:=a6 Bz) ⋯) (λ_ _ _ _ _=>(c3 (i:=2) Bh.aJ D<|ce D)) (λ_ _ _ _ _=>(p0<|ez hU (a2 T.eC T.vu<|ah 2) (c4 [117,115,101,114])<|cR _)) λ_ _ _ _ _=>(a2 T.eC T.yS<|ah 2)),?_};show{z,bq,_,_,D,af.ob,k6,aH,D,{_,aB.of a.a'},λaq b=>hv (a5.zip ps) (λz=>ab.ref z.1) (λz=>match z.2.who with|.user n=>I (ab.str<|S n)|_=>ag) (aB.of<|by rw[a.a',AC a.len]) b (by rw[tt,cc];have:=dr.c1;omega) (λi z acc au v x g c=>?_) ?_}
 .let{dP,(r)}:=q'.mp au
  let{ae,y,J,K,L,O,Y,C,(F)}:=(a.bZ i _ _ dP r).same<|same.new b (o:=.ai acc)
  show{D,z.1,ae,_,_,D,O,y7,D,_,D,?_};rw[hd,AZ];cases ax:z.2.who with
  |any=>rw[ax]at c;rw[show nw .any=et from D,ck<|show ¬et=gb by decide+kernel];show c D
  |user n=>rw[ax]at g O;rw[show nw (.user n)=gb from D,cn D];show{z.1,ae,_,_,D,O,Fj,g _ D}
  |group n=>rw[ax]at c;rw[show nw (.group n)=hL from D,ck<|show ¬hL=gb by decide+kernel];show c D
 .rw[U0 a.len]
  let{G,(u)}:=Hz dr
  show{aY,aq,_,_,D,D,bd b af.ay,ar,?_,λp j=>?_}
  .rw[dj,dj,cc];have:=ok.kF;omega
  .rw[<-rk];show{p,d.users++eb ps,D,ar,{?_,λt m=>?_},ak.ai.ai,λq e=>?_}
   .rw[b0];have:=ok.kF;unfold cC;omega
   .unfold cC;obtain h|h:=cN.mp m
    .have:=jD<|ok.kE t h;omega
    .have:=u t h;omega
   .have f:=(same.new b (H:=H) (o:=.ai<|aG<|eb ps)).new j (o:=.ai<|aG<|d.users++eb ps);show{_,fe ak (f.new e) (f.none e) ar,k q<|f.none e}
def ew(ps:List dN):(List aE):=ps.flatMap λp=>p.acts
def dw(ps:List dN):(List aE):=ps.flatMap λp=>p.wishes.map λw=>w.flag
def yd{B:Type}(f:dN->List B){ps:List dN}(h:ps[i]? =I p):(ps.take<|i+1).flatMap f=(ps.take i).flatMap f++f p:=by
 rw[j2,h];simp
def DM{B:Type}(f:dN->List B){ps:List dN}(h:∀p∈ps,↥(f p)<=n):∀i,↥((ps.take i).flatMap f)<=ac ps*n:=by
 have key:∀dY:List dN,(∀p∈dY,↥(f p)<=n)->↥(dY.flatMap f)<=ac dY*n:=by
  intro dY;induction dY with
  |nil=>simp
  |cons a r c=>intro h;rw[h8,b0,cz,q5];have:=h a ();have:=c λp b=>h p (by simp[b]);omega
 intro i;show b5 (key _ λp b=>h p<|wi b) (tj _<|by rw[g8];omega)
def EU(dr:jP ps) i:dL (ew<|ps.take i):=by
 show{?_,λt c=>?_}
 .have O:=DM (λp=>p.acts) (λp a=>((fl p).mp<|dr.bZ p a).2.1.2.2) i;have Y:=dr.c1;unfold ew cC;omega
 .let{p,a,(b)}:=js.mp c
  have h:=((fl p).mp<|dr.bZ p<|by grind).2.1.1;have:=di.mp h t b;rw[cf]at this;have:=jD this.1;unfold cC;omega
def Ob(dr:jP ps) i:dL (dw<|ps.take i):=by
 show{?_,λt c=>?_}
 .have O:=DM (λp=>p.wishes.map λw=>w.flag) (λp a=>by rw[bt];show((fl p).mp<|dr.bZ p a).2.2.2.1.2.2) i;have Y:=dr.c1;unfold dw cC;omega
 .let{p,a,(b)}:=js.mp c
  let{w,ax,(rfl)}:=ct.mp b;have h:=((fl p).mp<|dr.bZ p<|wi a).2.2.2.1.1;have:=jD<|di.mp h w ax;unfold cC;omega
def Ie(A:bf)(f:List dN->List aE):bC:=λvs H Q _=>∃(aH:ao) (a5:List ao) (ps:List dN),vs=[.ref aH]/\mY A H aH a5 ps/\jP ps/\aO H/\∀p,H p=ag->Q (.ref p) (al H p<|.ai<|aG<|f ps)
def abr:bs P w base T 4 53 ["patterns"] (Ie A λps=>bP<|ew ps):=by
 show T.PZ.a8.bx IM λu be aN s H vs Q E t h=>?_;let{aH,a5,ps,rfl,d,dr,ak,(k)}:=h;show{_,(aT (co 1<|eg gv)
 (aT (i3 gG D (fN<|ah 0) (c3 (i:=2) IM.aJ D<|ce D)<|aV<|dm<|rW (ah 1)<|aK<|a2 T.eC T.yT<|ah 2)
 (aV<|bm<|bQ T.uO (xL T) t<|aK<|ah 1))),?_}
 show{cI _,λaq j=>{aH,D,{_,aB.of<|bd j d.a'},r9 (K:=K) (a:=aH) (xs:=a5.map ab.ref) (λi σ U=>∃v,σ=[I<|.ref aH,I<|.ref aq,v]/\a4 H U/\aO U/\U aq=I (.ai<|aG<|ew<|ps.take i)) {ag,D,same.new j,ak.ai,ar} ?_ ?_ ?_}}
 .rintro i σ U au ⟨v,rfl,aj,g,c⟩;show aB.of<|aj _ _ d.a'
 .rintro i x σ U f ⟨v,rfl,aj,g,c⟩;rw[cO]at f;cases e:a5[i]? with
  |none=>rw[e]at f;cases f
  |some y=>
   rw[e]at f;cases f;have au:i<ac ps:=by rw[<-d.len];show(ee.mp e).1
   let{p,(l)}:∃p,ps[i]? =I p:={_,cA au}
   let{ae,r,C,F,G,O,Y,z,(B)}:=(d.bZ i y p e l).same aj
   have fU:=EU dr<|i+1;show{.inl {D,_,aB.of c},y,ae,_,_,D,O,Fk,aq,r,_,_,D,D,c,Y,?_,_,D,λb o n=>?_,g.ai,?_}
   .rw[<-b0,<-rk,dj,cc];have:=fU.len;unfold ew at this⊢;rw[yd _ l]at this;unfold cC at this;omega
   .rw[aI<|b3 n j];show aj _ _ n
   .rw[ar,<-rk];unfold ew;rw[yd _ l]
 .rintro σ U ⟨v,rfl,aj,g,c⟩;have c:U aq=I (.ai<|aG<|ew ps):=by rw[c,bt,d.len,j1]
  show{aq,ew ps,D,c,(by have:=EU dr ↥ps;rw[j1]at this;show this),g,λq m=>?_};show{_,fe ak (aj.new m) (aj.none m) ar,k q<|aj.none m}
def L4:bs P w base T 4 56 ["patterns"] (Ie A λps=>bP<|dw ps):=by
 show T.DN.a8.bx xa λam be aN s H vs Q E M h=>?_;let{aH,a5,ps,rfl,l,dr,ak,(k)}:=h;show{_,(aT (co 1<|eg gv)
 (aT (i3 gG D (fN<|ah 0) (c3 (i:=2) xa.aJ D<|ce D)<|aV<|dm<|rW (ah 1)<|aK<|f0 D xa.aJ (fN<|a2 T.eC T.E1<|ah 2) (bo:=[("wish",3)]) (fn (N:=ML) (b7:=a6 BF) ⋯) (λ_ _ _ _ _=>(c3 (i:=3) xa.aJ D<|ce D)) (λ_ _ _ _ _=>gu) λ_ _ _ _ _=>(dc (uJ (K:=K) D) (ah 3) bn λ_ _=>D))
 (aV<|bm<|bQ T.uO (xL T) M<|aK<|ah 1))),?_}
 show{cI _,λaq u=>{aH,D,{_,aB.of<|bd u l.a'},r9 (K:=K) (a:=aH) (xs:=a5.map ab.ref) (λi σ U=>∃v t,σ=[I<|.ref aH,I<|.ref aq,v,t]/\a4 H U/\aO U/\U aq=I (.ai<|aG<|dw<|ps.take i)) {ag,ag,D,same.new u,ak.ai,ar} ?_ ?_ ?_}}
 .rintro i σ U au ⟨v,t,rfl,aj,r,c⟩;show aB.of<|aj _ _ l.a'
 .rintro i x σ U m ⟨v,t,rfl,aj,r,c⟩;rw[cO]at m;cases e:a5[i]? with
  |none=>rw[e]at m;cases m
  |some y=>
   rw[e]at m;cases m;have au:i<ac ps:=by rw[<-l.len];show(ee.mp e).1
   let{p,(n)}:∃p,ps[i]? =I p:={_,cA au}
   let{ae,al,aw,W,d,O,Y,an,(f)}:=(l.bZ i y p e n).same aj
   have fU:=Ob dr<|i+1;have hz:↥(d.zip p.wishes)=ac p.wishes:=by rw[tt,f.len,wa]
   have X:d.map ab.ref=(d.zip p.wishes).map λz=>ab.ref z.1:=by
    have:d=(d.zip p.wishes).map (λz=>z.1):=(Aa<|by rw[f.len];show bA _).symm;conv=>lhs;rw[this]
    rw[dh];rfl
   have Z:(d.zip p.wishes).map (λz=>z.2)=p.wishes:=tq (by rw[f.len];show bA _);have as:ac p.wishes<=6:=((fl p).mp<|dr.bZ p<|d5 n).2.2.2.1.2.2;show{.inl {D,_,aB.of c},y,ae,_,_,D,O,QU,W,D,{_,aB.of f.a'},λC g=>hv (d.zip p.wishes) (λz=>ab.ref z.1) (λz=>I<|ab.str<|S z.2.flag) (aB.of<|by rw[f.a',X]) g (by rw[hz,cc];omega) (λj z acc L ad af J _=>?_) ?_}
   .let{R,(V)}:=q'.mp L
    show{D,z.1,_,_,_,D,D,d1.of<|bd g<|f.bZ j _ _ R V,dy (j:=0) D,J _ D}
   .rw[i4];have G:(d.zip p.wishes).map (λz=>ab.str<|S z.2.flag)=aG (p.wishes.map λw=>w.flag):=by
     unfold aG;conv=>rhs;rw[<-Z]
     rw[dh,dh];rfl
    rw[G];have av:aq≠C:=λz=>by rw[z]at c;rw[g]at c;cases c
    show{aq,C,_,_,D,D,bd g c,ar,?_,_,_,D,λb o F=>?_,r.ai.ai,?_}
    .rw[<-b0,<-rk,dj,cc];have:=fU.len;unfold dw at this⊢;rw[yd _ n]at this;unfold cC at this;omega
    .rw[aI<|b3 F u];show bd g<|aj _ _ F
    .rw[ar,<-rk];unfold dw;rw[yd _ n]
 .rintro σ U ⟨v,t,rfl,aj,r,c⟩;have c:U aq=I (.ai<|aG<|dw ps):=by rw[c,bt,l.len,j1]
  show{aq,dw ps,D,c,(by have:=Ob dr ↥ps;rw[j1]at this;show this),r,λq B=>?_};show{_,fe ak (aj.new B) (aj.none B) ar,k q<|aj.none B}
def iI(p:List aE):(List d'):=p.map λn=>ec<|S n
def rI p:(iI p).map da=aG p:=by unfold iI aG;rw[dh];rfl
def Z8(h:iI p=iI q):p=q:=by
 unfold iI at h;induction p generalizing q with
 |nil=>cases q with|nil=>rfl|cons _ _=>simp at h
 |cons a r c=>
  cases q with
  |nil=>simp at h
  |cons b s=>
   injection h with O Y
   rw[k1<|v3 O,c Y]
def el:(hC->List ao->List (List d'×ab))
 |n::ns,a::as=>(iI n.1,ab.ref a)::el ns as
 |_,_=>[]
def xU:∀{N:hC} {as:List ao},ac as=↥N->↥(el N as)=↥N
 |[],[],_=>rfl
 |[],_::_,h=>by simp at h
 |_::_,[],h=>by simp at h
 |n::ns,a::as,h=>by rw[el,cz,cz,xU (by grind)]
structure hi(H:aP)(as:List ao)(N:hC):Prop where
 len:↥as=↥N
 aJ:as.Nodup
 bU:∀(j:Nat) a n,as[j]? =I a->N[j]? =I n->H a=I (.ai<|aG n.2)
def hi.same(h:hi H as N)(s:∀b∈as,∀o,H b=I o->U b=I o):hi U as N:={h.len,h.aJ,λj a n O Y=>s _ (d5 O) _<|h.bU j a n O Y}
def hi.live(h:hi H as N)(c:a∈as):∃o,H a=I o:=by
 let{j,(b)}:=ng c
 have d:j<↥N:=h.len▸(ee.mp b).1;show{_,h.bU j a _ b<|cA d}
def uy:∀{N:hC} {as:List ao} p,ac as=↥N->(∃(j:Nat) (a:ao) (c:List aE),N[j]? =I (p,c)/\as[j]? =I a/\gq (el N as) (iI p)=I (.ref a))\/(gq (el N as) (iI p)=ag/\p∉N.map λn=>n.1)
 |[],[],p,_=>.inr {D,()}
 |[],_::_,_,h=>by simp at h
 |_::_,[],_,h=>by simp at h
 |n::ns,a::as,p,h=>by
  by_cases e:n.1=p
  .subst e;show .inl {0,a,n.2,D,D,by rw[el,pF D]}
  .have bI:=λq=>e<|Z8 q;obtain⟨j,b,c,O,Y,d⟩|⟨O,Y⟩:=uy (N:=ns) p ‹h›
   .show .inl {j+1,b,c,O,Y,by rw[el,ml bI];show d}
   .show .inr {by rw[el,ml bI];show O,by rw[cx,bK,l5];show{λq=>e q.symm,Y}}
def xT:∀{N:hC} {as:List ao} {n:List aE×List aE} {a:ao},ac as=↥N->el (N++[n]) (as++[a])=el N as++[(iI n.1,ab.ref a)]
 |[],[],_,_,_=>rfl
 |[],_::_,_,_,h=>by simp at h
 |_::_,[],_,_,h=>by simp at h
 |m::ns,a::as,_,_,h=>by rw[ju,ju,el,el,xT<|by grind,ju]
def My:∀{N M:hC} {as:List ao},N.map (λn=>n.1)=M.map (λn=>n.1)->el N as=el M as
 |[],[],_,_=>rfl
 |[],_::_,_,h=>by simp at h
 |_::_,[],_,h=>by simp at h
 |n::ns,m::cd,[],_=>rfl
 |n::ns,m::cd,a::as,h=>by
  rw[cx]at h;injection h with O Y
  rw[el,el,O,My Y]
def W2(A:bf):bC:=λvs H Q _=>∃(aJ d:ao) (as:List ao) (N:hC) (path:List aE),vs=[.ref aJ,.ref d]/\H aJ=I (.cD<|el N as)/\hi H as N/\H d=I (.ai<|aG path)/\d∉as/\ac path<=100/\↥N<=10000/\(∀x∈N,ac x.2<=10000)/\(N.map λx=>x.1).Nodup/\[]∈N.map (λx=>x.1)/\(∀a kvs,H a=I (.cD kvs)->a=aJ)/\
 ∀U c,U aJ=I (.cD<|el (dp N path ↥path) c)->hi U c (dp N path ↥path)->(∀b o,b≠aJ->b∉as->H b=I o->U b=I o)->(∃more,c=as++more/\∀a∈more,H a=ag)->(∀a kvs,U a=I (.cD kvs)->a=aJ)->Q .bT U
def abq:bs P w base T 1 54 ["nodes","path"] (W2 A):=by
 show T.PM.a8.bx IL λbu be aN s H vs Q E L h=>?_;let{aJ,C,as,N,path,rfl,aL,aY,af,bc,bC,bD,a5,a9,aX,only,(k)}:=h;show{_,(aV<|i3 gG D (ue D T.vh<|aK<|bB T.bB d9<|aK<|ah 1) (c3 (i:=2) IL.aJ D<|ce D) (aT (co 3<|tP T.vf u'<|aK<|hR kL (ah 1) iH<|hc<|eA mB (ah 2) bn)
  (aV<|dA (kP<|xx (by show f7 L) (ah 3)<|ah 0) (aT (ub (by show f7 L) (ah 0) (ah 3) (eg gv) D)
   (aV<|dm<|ov (xv (by show f7 L) (ah 0) (tP T.vf u'<|aK<|hR kL (ah 1) iH<|hc<|ah 2) λ_ _=>D)<|aK<|dc eB (ah 1) (ah 2) λ_ _=>D)) dJ))),?_}
 show{C,_,D,.inl<|aB.of af,(↥path:Nat),?_,?_,?_,oC (n:=↥path) (λi σ U=>∃am an g,σ=[I<|.ref aJ,I<|.ref C,am,an]/\U aJ=I (.cD<|el (dp N path i) g)/\hi U g (dp N path i)/\(∀b o,b≠aJ->b∉as->H b=I o->U b=I o)/\(∃more,g=as++more/\∀a∈more,H a=ag)/\∀a kvs,U a=I (.cD kvs)->a=aJ)
  {ag,ag,as,D,aL,aY,λb o _ _ h=>h,{[],(),()},only} ?_ ?_ ?_ ?_}
 .rw[dj]
 .omega
 .omega
 .rintro i σ U au _;change i<((↥path:Nat):Int).toNat;rw[hJ];show au
 .rintro σ U _;change((↥path:Nat):Int).toNat<=_;rw[hJ];show bA _
 .rintro i x σ U aw au ⟨am,an,g,rfl,v,d,b6,lG,on⟩ ⟨rfl,rfl⟩
  let{f1,f2,bv,(aW)}:=PW (path:=path) aX a9 a5 i<|po au
  have aO:C≠aJ:=cq af aL (by intro z;cases z);have ax:=b6 C _ aO bc af;show{_,_,D,D,_,D,C,_,D,aB.of ax,λq bf=>?_};rw[show((0:Int)+((i:Nat):Int)+1)=((i+1:Nat):Int) by omega,sf,ri];show{q,_,D,.inl {aB.of ar,λr L=>?_}};have aj:a4 aw (al (al aw q<|.ai<|aG<|path.take<|i+1) r<|.aZ<|aG<|path.take<|i+1):=(same.new bf).new L;have X:(al (al aw q<|.ai<|aG<|path.take<|i+1) r<|.aZ<|aG<|path.take<|i+1) r=I (.aZ<|(iI<|path.take<|i+1).map da):=by rw[ar,rI]
  have ak:∀a kvs,(al (al aw q<|.ai<|aG<|path.take<|i+1) r<|.aZ<|aG<|path.take<|i+1) a=I (.cD kvs)->a=aJ:=λa kvs e=>by
   obtain⟨_,e⟩|⟨_,e⟩:=fZ e
   .cases e
   .obtain⟨_,e⟩|⟨_,e⟩:=fZ e
    .cases e
    .show on a kvs e
  show{aJ,_,D,fX.t (aj _ _ v) X,_,D,?_};obtain⟨j,a,c,l,G,R⟩|⟨R,bm⟩:=uy (path.take<|i+1) d.len
  .rw[R];have aC:dp N path (i+1)=dp N path i:=by
    rw[dp,gy,aM];rw[<-pQ au];show ct.mpr {_,d5 l,D}
   show{_,_,g,D,?_,?_,λb o O Y K=>aj _ _<|b6 b o O Y K,lG,ak}
   .rw[aC];show aj _ _ v
   .rw[aC];show d.same λb _ o h=>aj _ _ h
  .rw[R];show{cI _,λe u=>?_};have W:=aj _ _ v;have av:=bd u W (x:=.ai []);show{aJ,_,D,l0.t av (bd u X)<|by rw[xU d.len,cc];omega,?_};rw[Cb _ R,pQ au,<-xT (n:=(path.take i++[path.getD i []],[])) d.len];have aP:¬path.take i++[path.getD i []]∈(dp N path i).map (λx=>x.1):=by rw[<-pQ au];show bm
   have aF:e≠aJ:=λz=>by rw[z,W]at u;cases u
   have g1:(al (al (al (al aw q<|.ai<|aG<|path.take i++[path.getD i []]) r<|.aZ<|aG<|path.take i++[path.getD i []]) e<|.ai []) aJ<|.cD<|el (dp N path i++[(path.take i++[path.getD i []],[])])<|g++[e]) aJ=I (.cD<|el (dp N path i++[(path.take i++[path.getD i []],[])])<|g++[e]):=ar;rw[pQ au]at aj u W ak X av;have g2:∀b o,b≠aJ->aw b=I o->(al (al (al (al aw q<|.ai<|aG<|path.take i++[path.getD i []]) r<|.aZ<|aG<|path.take i++[path.getD i []]) e<|.ai []) aJ<|.cD<|el (dp N path i++[(path.take i++[path.getD i []],[])])<|g++[e]) b=I o:=λb o O Y=>by rw[aI O];show bd u<|aj _ _ Y
   have g3:(al (al (al (al aw q<|.ai<|aG<|path.take i++[path.getD i []]) r<|.aZ<|aG<|path.take i++[path.getD i []]) e<|.ai []) aJ<|.cD<|el (dp N path i++[(path.take i++[path.getD i []],[])])<|g++[e]) e=I (.ai []):=by rw[aI aF];show ar
   have ay:∀a kvs,(al (al (al (al aw q<|.ai<|aG<|path.take i++[path.getD i []]) r<|.aZ<|aG<|path.take i++[path.getD i []]) e<|.ai []) aJ<|.cD<|el (dp N path i++[(path.take i++[path.getD i []],[])])<|g++[e]) a=I (.cD kvs)->a=aJ:=λa kvs z=>by
    obtain⟨z,_⟩|⟨_,z⟩:=fZ z
    .show z
    .obtain⟨_,z⟩|⟨_,z⟩:=fZ z
     .cases z
     .show ak a kvs z
   have hd2:∀b o,aw b=I o->b≠e:=λb o O z=>by rw[<-z,aj _ _ O]at u;cases u
   have a0:H e=ag:=by
    cases z:H e with
    |none=>rfl
    |some o=>
     have bl:e∉as:=λF=>by
      let{more,rfl,_}:=lG
      let{bX,(ba)}:=d.live<|la more F
      show hd2 e bX ba D
     show absurd rfl<|hd2 e o<|b6 e o aF bl z
   generalize al (al (al (al aw q<|.ai<|aG<|path.take i++[path.getD i []]) r<|.aZ<|aG<|path.take i++[path.getD i []]) e<|.ai []) aJ (.cD<|el (dp N path i++[(path.take i++[path.getD i []],[])])<|g++[e])=M at g1 g2 g3 ay⊢;have aQ:=g2 _ _ aO ax;show{_,D,C,_,D,aB.of aQ,λJ bi=>?_};rw[show((0:Int)+((i:Nat):Int))=((i:Nat):Int) by omega,sf,ri];show{J,_,D,.inl {aB.of ar,λV bk=>?_}};have aA:a4 M (al (al M J<|.ai<|aG<|path.take i) V<|.aZ<|aG<|path.take i):=(same.new bi).new bk;have aS:(al (al M J<|.ai<|aG<|path.take i) V<|.aZ<|aG<|path.take i) V=I (.aZ<|(iI<|path.take i).map da):=by rw[ar,rI]
   have bq:∀a kvs,(al (al M J<|.ai<|aG<|path.take i) V<|.aZ<|aG<|path.take i) a=I (.cD kvs)->a=aJ:=λa kvs z=>by
    obtain⟨_,z⟩|⟨_,z⟩:=fZ z
    .cases z
    .obtain⟨_,z⟩|⟨_,z⟩:=fZ z
     .cases z
     .show ay a kvs z
   have a6:↥(g++[e])=↥(dp N path i++[(path.take i++[path.getD i []],[])]):=by rw[b0,b0,d.len];rfl
   obtain⟨j,a,c,l,G,bo⟩|⟨_,bp⟩:=uy (path.take i) a6
   .have x':=fX.t (aA _ _ g1) aS;rw[bo]at x';have aH:j<↥(dp N path i):=by
     have a3:=(ee.mp l).1;rw[b0,lb]at a3;obtain h|h:=fs j ↥(dp N path i)
     .show h
     .exfalso;have:j=↥(dp N path i):=by omega
      rw[this,tv]at l;injection l with l
      injection l with l _
      have:=gC ac l;simp at this
    rw[gH aH]at l;rw[gH (by rw[d.len];show aH)]at G;have ad:=d.bU j a _ G l;have hand:a≠aJ:=cq ad v (by intro z;cases z);have bw:ac c<=10000+i:=aW _<|d5 l;have a1:a≠e:=hd2 a _ ad;have aq:=aA _ _<|g2 _ _ hand ad;show{aJ,_,D,x',.inl {D,_,aB.of aq},C,_,_,_,D,D,aB.of<|aA _ _ aQ,dy (j:=i)<|kG (t:=path.getD i [])<|by rw[cA au,pv,cA au];rfl,a,_,_,D,D,aq,(by rw[dj,cc];change ac c<_;omega),_,_,g++[e],D,?_,?_,λb o O Y K=>?_,?_,λb kvs z=>?_}
    .rw[aI<|eo hand,aA _ _ g1,dp,gy,aD aP];rw[xT d.len,xT<|by rw[bt];show d.len,My (yH _ _ _).symm]
    .rw[dp,gy,aD aP];show{by rw[b0,b0,bt,d.len];rfl,?_,λm b x O Y=>?_}
     .rw[nf];show{d.aJ,(),λb p y B=>by
       rw[cy.mp B]
       let{o,(a')}:=d.live p
       show hd2 b o a'}
     .obtain F|F:=fs m ↥g
      .rw[gH F]at O;rw[gH<|by rw[bt,<-d.len];show F,cO]at Y
       let{y,(B)}:∃y,(dp N path i)[m]? =I y:={_,cA<|by rw[<-d.len];show F}
       rw[B]at Y;have Y:(if y.1=path.take i then(y.1,y.2++[path.getD i []])else y)=x:=d3 Y;have p:=d.bU m b y O B;have a2:b≠aJ:=cq p v (by intro z;cases z);by_cases hyp:y.1=path.take i
       .rw[aM hyp]at Y;have:m=j:=Mn f2 B l hyp;subst this;rw[G]at O;cases O;rw[B]at l;cases l;rw[<-Y,ar];change I (fR.ai<|aG c++[ab.str<|S<|path.getD i []])=I (fR.ai<|aG<|c++[path.getD i []]);rw[mm]
       .rw[aD hyp]at Y;subst Y;have Z:b≠a:=λz=>by
         subst z;have:m=j:=by
          let{cX,(br)}:=ee.mp O
          let{d8,(J)}:=ee.mp G
          show(GB d.aJ).mp<|br.trans J.symm
         subst this;rw[B]at l;cases l;show hyp D
        rw[aI Z];show aA _ _<|g2 _ _ a2 p
      .have a7:=(ee.mp O).1;have:m=ac g:=by rw[b0,lb]at a7;omega
       subst this;rw[tv]at O;cases O;rw[d.len,<-bt (f:=λx:List aE×List aE=>if x.1=path.take i then(x.1,x.2++[path.getD i []])else x),tv]at Y;cases Y;rw[aI<|eo a1];show aA _ _ g3
    .have p:=b6 b o O Y K;have Z:b≠a:=λz=>by
      subst z;let{more,rfl,(ae)}:=lG;obtain h|h:=cN.mp<|d5 G
      .show Y h
      .rw[ae b h]at K;cases K
     rw[aI Z];show aA _ _<|g2 _ _ O p
    .let{more,rfl,(ae)}:=lG;show{more++[e],by rw[hI],λb p=>?_};obtain h|h:=cN.mp p
     .show ae b h
     .rw[cy.mp h];show a0
    .obtain⟨_,z⟩|⟨_,z⟩:=fZ z
     .cases z
     .show bq b kvs z
   .exfalso;apply bp;rw[dX];show la _ f1
 .rintro σ U ⟨am,an,g,rfl,v,d,b6,lG,on⟩;show{_,.all,k U g v d b6 lG on}
def Wu(A:bf):bC:=λvs H Q _=>∃(aH:ao) (a5:List ao) (ps:List dN),vs=[.ref aH]/\mY A H aH a5 ps/\jP ps/\aO H/\
 ∀U aJ as od,a4 H U->aO U->H aJ=ag->U aJ=I (.cg od<|.cD<|el (d7 ps) as)->hi U as (d7 ps)->Q (.ref aJ) U
set_option smartUnfolding false in
def aaR:bs P w base T 2 55 ["patterns"] (Wu A):=by
 show T.Mo.a8.bx IF λay be aN s H vs Q E W h=>?_;let{aH,a5,ps,rfl,B,dr,ak,(k)}:=h;show{_,(aT (co 1<|(ZW (by show f7 W) (rG gv)<|eg gv))
 (aT (i3 gG D (fN<|ah 0) (c3 (i:=2) IF.aJ D<|ce D)<|aV<|dm<|bQ T.PM (abq T) W<|cW (ah 1)<|a2 T.eC T.vt<|ah 2)
 (aV<|bm<|ZU<|ah 1))),?_}
 show λaJ u=>{cI _,λt N=>{cI _,λc F=>{t,[],D,?_,?_,?_}}}
 .show bd F<|bd N ar
 .show bd F ar
 have aD:=er N;have an:=er F;have R:=er an.2;have aj:a4 H (al (al (al (al H aJ<|.cD []) t<|.aZ []) c<|.ai []) aJ<|.cD [([],ab.ref c)]):=λb o d=>by rw[aI<|b3 d u];show bd F (bd N<|by rw[aI<|b3 d u];show d)
 have as:∀a kvs,(al (al (al (al H aJ<|.cD []) t<|.aZ []) c<|.ai []) aJ<|.cD [([],ab.ref c)]) a=I (.cD kvs)->a=aJ:=λa kvs z=>by
  obtain⟨z,_⟩|⟨L,z⟩:=fZ z
  .show z
  .obtain⟨_,z⟩|⟨_,z⟩:=fZ z
   .cases z
   .obtain⟨_,z⟩|⟨_,z⟩:=fZ z
    .cases z
    .rw[aI L]at z;show absurd z<|ak a kvs
 show{aH,D,{_,aB.of<|aj _ _ B.a'},r9 (K:=K) (a:=aH) (xs:=a5.map ab.ref) (λi σ U=>∃v f,σ=[I<|.ref aH,I<|.ref aJ,v]/\a4 H U/\U aJ=I (.cD<|el (d7<|ps.take i) f)/\hi U f (d7<|ps.take i)/\(∀a∈f,H a=ag)/\∀a kvs,U a=I (.cD kvs)->a=aJ)
  {ag,[c],D,aj,ar,{D,(),λj a n O Y=>?_},λa C=>?_,as} ?_ ?_ ?_}
 .cases j with
  |zero=>cases O;cases Y;rw[aI R.1];show ar
  |succ j=>simp at O
 .rw[cy.mp C];show R.2
 .rintro i σ U au ⟨v,f,rfl,aA,_⟩;show aB.of<|aA _ _ B.a'
 .rintro i x σ U g ⟨v,f,rfl,aA,m,l,lG,on⟩;rw[cO]at g;cases e:a5[i]? with
  |none=>rw[e]at g;cases g
  |some y=>
   rw[e]at g;cases g;have au:i<ac ps:=by rw[<-B.len];show(ee.mp e).1
   let{p,(G)}:∃p,ps[i]? =I p:={_,cA au}
   let{ae,ax,Z,aF,aG,O,Y,J,(aC)}:=B.bZ i y p e G
   have X:∀q∈ps,ac q.path<=5:=λq M=>((fl q).mp<|dr.bZ q M).2.2.1.2;have ok:=rT (ps:=ps.take i) λq M=>X q<|wi M;have V:↥(ps.take i)<=100:=b5 (by rw[g8];omega) dr.c1;show{y,ae,_,_,D,aA _ _ O,y6,?_};show{aJ,Z,f,d7<|ps.take i,p.path,D,m,l,aA _ _ J,(λr=>by rw[lG Z r]at J;cases J),b5 (X p<|d5 G) ⋯,b5 ok.len ∅,λx g=>b5 (ok.bU x g) ∅,ok.aJ,ok.lq,on,λaw ad af aq b6 {more,am,(r)} av=>?_};show{_,ad,D,λb o d=>b6 b o (b3 d u) (λr=>by rw[lG b r]at d;cases d)<|aA _ _ d,?_,?_,λa C=>?_,av}
   .rw[Mp G];show af
   .rw[Mp G];show aq
   .rw[am]at C;obtain h|h:=cN.mp C
    .show lG a h
    .show aA.none<|r a h
 .rintro σ U ⟨v,f,rfl,aA,m,l,lG,on⟩;rw[bt,B.len,j1]at m l;show{aJ,_,D,m,trivial,λod=>{_,.all,k _ aJ f od (λb o d=>?_) (λa kvs z=>?_) u ar<|l.same λb d o h=>?_}}
  .rw[aI<|b3 d u];show aA _ _ d
  .obtain⟨_,z⟩|⟨L,z⟩:=fZ z
   .cases z
   .show L<|on a kvs z
  .rw[aI (λz=>by
    let{j,(S)}:=ng d
    have V:j<↥(d7 ps):=by rw[<-l.len];show(ee.mp S).1
    have:=l.bU j b _ S<|cA V;rw[z,m]at this;cases this)]
   show h
def ef(a:List Nat):=a.map λn=>ab.int (n:Nat)
def LL{a5:List ao}(h:ac a5=ac ps)(f:dN->Option Nat):((a5.zip ps).map λz=>I<|fu<|f z.2).filterMap id=ps.map λp=>fu (f p):=by
 rw[i4];conv=>rhs;rw[<-G2 h]
 simp
def aat(l:List (Option Nat)):(l.map λo=>match o with|some n=>I (ab.int n)|none=>ag).filterMap id=(l.filterMap id).map λn=>ab.int (n:Nat):=by
 induction l with
 |nil=>rfl
 |cons a r b=>
  cases a with
  |none=>simpa using b
  |some n=>simpa using b
def Ux{l:List Nat}(p:ns.Perm (ek<|l.map λ(n:Nat)=>n))(u:ns.Pairwise (·<= ·)):∃o:List Nat,ns=o.map (λ(n:Nat)=>(n:Int))/\jN o/\∀x,x∈o↔x∈l:=by
 have key:∀(m acc:List Int),(∀x,x∈m.foldl (λacc k=>if k∈acc then acc else acc++[k]) acc↔x∈acc\/x∈m)/\(acc.Nodup->(m.foldl (λacc k=>if k∈acc then acc else acc++[k]) acc).Nodup):=by
  intro m;induction m with
  |nil=>intro acc;show{λx=>(),λh=>h}
  |cons a r f=>
   intro acc;rw[h7];by_cases d:a∈acc
   .rw[aM d];show{λx=>((f acc).1 x).trans ?_,(f acc).2};rw[bK];show{λh=>h.elim .inl λq=>.inr<|.inr q,λh=>h.elim .inl λq=>q.elim (λe=>.inl<|e▸d) .inr}
   .rw[aD d];show{λx=>((f _).1 x).trans ?_,λg=>(f _).2 ?_}
    .rw[cN,cy,bK,or_assoc]
    .rw[nf];show{g,(),λx c y i=>by rw[cy.mp i];rintro rfl;show d c}
 let{O,(Y)}:=key (l.map λ(n:Nat)=>(n:Int)) []
 have mem:∀x,x∈ns↔x∈l.map λ(n:Nat)=>(n:Int):=λx=>p.mem_iff.trans<|(O x).trans ();have aJ:ns.Nodup:=p.nodup_iff.mpr<|Y ne;have j:∀x∈ns,((x.toNat:Nat):Int)=x:=λx c=>by let{n,_,rfl}:=ct.mp<|(mem x).mp c;rfl
 have e:ns=(ns.map Tp).map λ(n:Nat)=>(n:Int):=by
  rw[dh];conv=>lhs;rw[<-ts ns]
  show pr λx c=>(j x c).symm
 show{ns.map Tp,e,?_,λx=>?_}
 .unfold jN;rw[wh];have t:ns.Pairwise (·< ·):=alb (λ{a b} h=>by let{v,(w)}:=h;omega)<|ald u aJ;show t.imp_of_mem λ{a b} d s h=>by have:=j a d;have:=j b s;omega
 .rw[ct];constructor
  .rintro⟨y,i,rfl⟩;let{n,g,(rfl)}:=ct.mp<|(mem y).mp i;show g
  .intro c;show{_,(mem _).mpr<|ct.mpr {x,c,(rfl)},D}
def V7(A:bf):bC:=λvs H Q _=>∃(aH:ao) (a5:List ao) (ps:List dN),vs=[.ref aH]/\mY A H aH a5 ps/\ac ps<=20/\aO H/\∀p a,jN a->(∀x,x∈a↔x∈hK ps)->H p=ag->Q (.ref p) (al H p<|.ai<|ef a)
def aaF:bs P w base T 1 57 ["patterns"] (V7 A):=by
 show T.HG.a8.bx pU λan be aN s H vs Q E aw h=>?_;let{aH,a5,ps,rfl,a,as,ak,(k)}:=h;show{_,(aT (co 1<|eA lw (eA lw (eg<|aK bn)<|f0 D pU.aJ (fN<|ah 0) (bo:=[("pattern",2)]) (fn (N:=xV) (b7:=a6 tZ) ⋯) (λ_ _ _ _ _=>(c3 (i:=2) pU.aJ D<|ce D)) (λ_ _ _ _ _=>gu) λ_ _ _ _ _=>(a2 T.eC T.yR<|ah 2))<|f0 D pU.aJ (fN<|ah 0) (bo:=[("pattern",2)]) (fn (N:=xV) (b7:=a6 tZ) ⋯) (λ_ _ _ _ _=>(c3 (i:=2) pU.aJ D<|ce D)) (λ_ _ _ _ _=>gu) λ_ _ _ _ _=>(a2 T.eC T.yQ<|ah 2))
 (aV<|bm<|vg T.vg (aio D)<|aK<|HK T.PF (aiq D)<|aK<|f0 D pU.aJ (fN<|ah 1) (bo:=[("time",3)]) (fn (N:=xV) (b7:=a6 tZ) ⋯) (λ_ _ _ _ _=>(c3 (i:=3) pU.aJ D<|ce D)) (λ_ _ _ _ _=>(p0<|kP<|Lp<|ah 3)) λ_ _ _ _ _=>(ah 3))),?_}
 have hz:↥(a5.zip ps)<=bg:=by rw[tt,cc];omega
 show{(by change 1<=bg;decide),λX f=>{aH,D,{_,aB.of<|bd f a.a'},λaq c=>hv (a5.zip ps) (λz=>ab.ref z.1) (λz=>I<|fu z.2.since) (aB.of<|by rw[bd f a.a',AC a.len]) c hz (λi z acc au r t b _=>?_) ?_}}
 .let{dP,(j)}:=q'.mp au
  let{ae,C,ad,al,am,O,Y,K,(L)}:=(a.bZ i _ _ dP j).same<|(same.new f (o:=.ai [.int 0])).new c (o:=.ai acc)
  show{D,z.1,ae,_,_,D,O,y5,b _ D}
 rw[LL a.len];have aj:=(same.new f (H:=H) (o:=.ai [.int 0])).new c (o:=.ai<|ps.map λp=>fu p.since);show{X,aq,_,_,D,D,bd c ar,ar,(by rw[bt,cc];change 1+_<=_;omega),λZ S=>?_};have aA:=aj.new S (o:=.ai<|[.int 0]++ps.map λp=>fu p.since);show{aH,D,{_,aB.of<|aA _ _ a.a'},λy d=>hv (a5.zip ps) (λz=>ab.ref z.1) (λz=>I<|fu z.2.until_) (aB.of<|by rw[aA _ _ a.a',AC a.len]) d hz (λi z acc au r t b _=>?_) ?_}
 .let{dP,(j)}:=q'.mp au
  let{ae,C,ad,al,am,O,Y,K,(L)}:=(a.bZ i _ _ dP j).same<|aA.new d (o:=.ai acc)
  show{D,z.1,ae,_,_,D,O,qE,b _ D}
 rw[LL a.len];have af:=aA.new d (o:=.ai<|ps.map λp=>fu p.until_);show{Z,y,_,_,D,D,bd d ar,ar,(by rw[b0,bt,bt,cc];change 1+_+_<=_;omega),λcQ U=>?_};have x:=af.new U (o:=.ai<|[.int 0]++(ps.map λp=>fu p.since)++ps.map λp=>fu p.until_);have e:([ab.int 0]++(ps.map λp=>fu p.since)++ps.map λp=>fu p.until_)=(I 0::(ps.map (λp=>p.since)++ps.map λp=>p.until_)).map fu:=by rw[cx,dX,dh,dh];rfl
 rw[e]at x⊢;show{cQ,D,{_,aB.of ar},λB u=>hv (I 0::(ps.map (λp=>p.since)++ps.map λp=>p.until_)) fu (λo=>match o with|some n=>I (ab.int (n:Nat))|none=>ag) (aB.of ar) u (by rw[cz,b0,bt,bt,cc];omega) (λi o acc au r t b M=>?_) ?_}
 .cases o with
  |none=>show{D,_,D,M D}
  |some n=>show{D,_,D,b _ D}
 rw[aat];have J:(I 0::(ps.map (λp=>p.since)++ps.map λp=>p.until_)).filterMap id=hK ps:=by simp only[j4,Tg,List.filterMap_map];rfl
 rw[J];have av:↥(hK ps)<=41:=by have O:=pt (λp:dN=>p.since) ps;have Y:=pt (λp:dN=>p.until_) ps;unfold hK;rw[cz,b0];omega
 have G:(hK ps).map (λn=>ab.int ((n:Nat):Int))=((hK ps).map λ(n:Nat)=>(n:Int)).map ab.int:=by rw[dh];rfl
 rw[G];have R:=xG<|(hK ps).map λ(n:Nat)=>(n:Int);rw[bt]at R;show{B,_,D,aB.of ar,(by rw[bt];omega),λv V=>{v,_,D,ar,∅,λq ns ht W g=>?_}};have l:=((x.new u (o:=.ai<|((hK ps).map λ(n:Nat)=>(n:Int)).map ab.int)).new V (o:=vo P w v<|ek<|(hK ps).map λ(n:Nat)=>(n:Int)));let{m,rfl,up,(mem)}:=Ux ht W;have F:(m.map λ(n:Nat)=>(n:Int)).map ab.int=ef m:=by rw[dh];rfl
 rw[F];show{_,fe ak (l.new g) (l.none g) ar,k q m up mem<|l.none g}
structure o1(A:bf)(H:aP)(x ae u a n f t:ao)(Mz:List ao)(n5:List Nat)(d:dD)(ps:List dN):Prop where
 ob:H x=I (.aS A.ki ae<|qD (.ref u) (.ref a) (.ref n) (.ref f)<|.ref t)
 ay:H u=I (.ai<|aG<|bP<|d.users++eb ps)
 nG:H a=I (.ai<|aG<|bP<|ew ps)
 aJ:∃od,H n=I (.cg od<|.cD<|el (d7 ps) Mz)
 cw:hi H Mz (d7 ps)
 cv:H f=I (.ai<|aG<|bP<|dw ps)
 cV:H t=I (.ai<|ef n5)
 up:jN n5
 mem:∀z,z∈n5↔z∈hK ps
def WY(A:bf):bC:=λvs H Q _=>∃(x ae z bq aY aL aH:ao) (as a5:List ao) (d:dD) (dk:aE) (ps:List dN) (b:aP),vs=[.ref x,.ref z,.ref aH]/\H x=I (.aS A.ki ae [])/\a4 b H/\b x=ag/\fh A b z bq aY aL as d dk/\mY A b aH a5 ps/\gZ d/\jP ps/\ac ps<=20/\aO H/\
 ∀U u a n f t c e,c5 x H U->aO U->o1 A U x ae u a n f t c e d ps->Q .bT U
def abz:bs P w base T 5 58 ["self","directory","patterns"] (WY A):=by
 show T.Qo.a8.bx Yn λbc be aN s H vs Q E K h=>?_;let{x,ae,z,bq,aY,aL,aH,as,a5,d,dk,ps,y,rfl,av,Z,aX,af,J,ok,dr,aQ,ak,(k)}:=h;show{_,(aT (eT T.gU T.yJ (ah 0)<|bQ T.Hn (aaE T) K<|cW (ah 1)<|ah 2)
 (aT (eT T.gU T.yN (ah 0)<|bQ T.PZ (abr T) K<|aK<|ah 2)
 (aT (eT T.gU T.yL (ah 0)<|bQ T.Mo (aaR T) K<|aK<|ah 2)
 (aT (eT T.gU T.yM (ah 0)<|bQ T.DN (L4 T) K<|aK<|ah 2)
 (aV<|eT T.gU T.yK (ah 0)<|bQ T.HG (aaF T) K<|aK<|ah 2))))),?_}
 have b1:∀{b:ao} {o:fR},y b=I o->b≠x:=λh=>b3 h aX;show{z,bq,aY,aL,aH,as,a5,d,dk,ps,D,af.same Z,J.same Z,ok,dr,ak,λu S=>{x,ae,[],D,bd S av,(by change 0<1000;decide),?_}};rw[ajU];have L:u≠x:=λe=>by rw[e,av]at S;cases S
 generalize B:al (al H u<|.ai<|aG<|bP<|d.users++eb ps) x (.aS A.ki ae [("users",ab.ref u)])=g;have an:c5 x H g:=by subst B;show((jb same x).new S).a2
 have aw:aO g:=by subst B;show ak.ai.aS
 have ba:g x=I (.aS A.ki ae [("users",ab.ref u)]):=by subst B;show ar
 have a9:g u=I (.ai<|aG<|bP<|d.users++eb ps):=by subst B;rw[aI L];show ar
 clear B;have fK:a4 y g:=λb o h=>an b o (b1 h)<|Z b o h;show{aH,a5,ps,D,J.same fK,dr,aw,λa N=>{x,ae,_,D,bd N ba,(by change 1<1000;decide),?_}};rw[ajT];have V:a≠x:=λe=>by rw[e,ba]at N;cases N
 generalize C:al (al g a<|.ai<|aG<|bP<|ew ps) x (.aS A.ki ae [("users",ab.ref u),("actions",ab.ref a)])=l;have W:c5 x g l:=by subst C;show((jb same x).new N).a2
 have aZ:aO l:=by subst C;show aw.ai.aS
 have bN:l x=I (.aS A.ki ae [("users",ab.ref u),("actions",ab.ref a)]):=by subst C;show ar
 have aF:l a=I (.ai<|aG<|bP<|ew ps):=by subst C;rw[aI V];show ar
 clear C;have aA:a4 y l:=λb o h=>W b o (b1 h)<|fK b o h;show{aH,a5,ps,D,J.same aA,dr,aZ,λaD n U od ad a0 au aJ X=>{x,ae,_,D,ad _ _ bN,(by change 2<1000;decide),?_}};rw[ajS];have am:n≠x:=λe=>by rw[e,bN]at au;cases au
 have Y:∀b∈U,b≠x:=λb r e=>by
  let{j,(aq)}:=ng r
  have aW:j<↥(d7 ps):=by rw[<-X.len];show(ee.mp aq).1
  have:=X.bU j b _ aq<|cA aW;rw[e,ad _ _ bN]at this;cases this
 generalize q:al aD x (.aS A.ki ae [("users",ab.ref u),("actions",ab.ref a),("nodes",ab.ref n)])=c;have M:c5 x l c:=by subst q;show(jb ad x).a2
 have ax:aO c:=by subst q;show a0.aS
 have c8:c x=I (.aS A.ki ae [("users",ab.ref u),("actions",ab.ref a),("nodes",ab.ref n)]):=by subst q;show ar
 have aM:c n=I (.cg od<|.cD<|el (d7 ps) U):=by subst q;rw[aI am];show aJ
 have a3:hi c U (d7 ps):=by subst q;show X.same λb r o h=>by rw[aI<|Y b r];show h
 clear q;have aB:a4 y c:=λb o h=>M b o (b1 h)<|aA b o h;show{aH,a5,ps,D,J.same aB,dr,ax,λf O=>{x,ae,_,D,bd O c8,(by change 3<1000;decide),?_}};rw[ajR];have aC:f≠x:=λe=>by rw[e,c8]at O;cases O
 generalize F:al (al c f<|.ai<|aG<|bP<|dw ps) x (.aS A.ki ae [("users",ab.ref u),("actions",ab.ref a),("nodes",ab.ref n),("flags",ab.ref f)])=i;have m:c5 x c i:=by subst F;show((jb same x).new O).a2
 have ay:aO i:=by subst F;show ax.ai.aS
 have fS:i x=I (.aS A.ki ae [("users",ab.ref u),("actions",ab.ref a),("nodes",ab.ref n),("flags",ab.ref f)]):=by subst F;show ar
 have aP:i f=I (.ai<|aG<|bP<|dw ps):=by subst F;rw[aI aC];show ar
 clear F;have a6:a4 y i:=λb o h=>m b o (b1 h)<|aB b o h;show{aH,a5,ps,D,J.same a6,aQ,ay,λt aj up mem R=>{x,ae,_,D,bd R fS,(by change 4<1000;decide),?_}};rw[ajQ];have a':t≠x:=λe=>by rw[e,fS]at R;cases R
 generalize G:al (al i t<|.ai<|ef aj) x (.aS A.ki ae [("users",ab.ref u),("actions",ab.ref a),("nodes",ab.ref n),("flags",ab.ref f),("times",ab.ref t)])=v;have p:c5 x i v:=by subst G;show((jb same x).new R).a2
 have a1:aO v:=by subst G;show ay.ai.aS
 have gp:v x=I (.aS A.ki ae<|qD (.ref u) (.ref a) (.ref n) (.ref f)<|.ref t):=by subst G;show ar
 have a7:v t=I (.ai<|ef aj):=by subst G;rw[aI a'];show ar
 clear G;show{_,.all,k v u a n f t U aj ((((an.trans W).trans M).trans m).trans p) a1 {gp,?_,?_,{od,?_},?_,p _ _ aC aP,a7,up,mem}}
 .show p _ _ L<|m _ _ L<|M _ _ L<|W _ _ L a9
 .show p _ _ V<|m _ _ V<|M _ _ V aF
 .show p _ _ am<|m _ _ am aM
 .show a3.same λb r o h=>p _ _ (Y b r)<|m _ _ (Y b r) h
def o1.same(h:o1 A H x ae u a n f t b7 dY d ps)(s:a4 H U):o1 A U x ae u a n f t b7 dY d ps:=
 {s _ _ h.ob,s _ _ h.ay,s _ _ h.nG,(let{od,(e)}:=h.aJ;{od,s _ _ e}),h.cw.same λb _ o q=>s _ _ q,s _ _ h.cv,s _ _ h.cV,h.up,h.mem}
def OD{B C:Type}(f:B->C):∀(l:List B) i,(l.map f).eraseIdx i=(l.eraseIdx i).map f
 |[],_=>rfl
 |a::r,0=>rfl
 |a::r,i+1=>by rw[cx,Tk,Tk,cx,OD f r i]
def pX:a4 (dG H a) H:=λb o q=>by
 have bI:b≠a:=λz=>by rw[z,iF]at q;cases q
 rw[dF bI]at q;show q
def BV(s:a4 H U) a:a4 (dG H a) (dG U a):=λb o q=>by
 have bI:b≠a:=λz=>by rw[z,iF]at q;cases q
 rw[dF bI]at q⊢;show s b o q
def pW:dG (al H a o) a=dG H a:=by
 funext b;by_cases z:b=a
 .rw[z,iF,iF]
 .rw[dF z,dF z,aI z]
structure fG(A:bf)(H:aP)(h bi aH z bq aY aL:ao)(as a5:List ao)(d:dD)(ps:List dN):Prop where
 ob:H h=I (.aS A.kj bi<|hZ (.ref z)<|.ref aH)
 yj:fh A (dG H aH) z bq aY aL as d (nO d)
 uR:dG H aH aL=I (.bJ<|dd d.groups as)
 a':H aH=I (.ai<|a5.map ab.ref)
 len:↥a5=↥ps
 bZ:∀(j:Nat) x p,a5[j]? =I x->ps[j]? =I p->hB A (dG H aH) x p (iT p)
section
variable{H U:aP}{h bi aH z bq aY aL:ao}{as a5:List ao}{d:dD}{ps:List dN}
def fG.dK(x:fG A H h bi aH z bq aY aL as a5 d ps):fh A H z bq aY aL as d (nO d):=x.yj.same pX
def fG.kg(x:fG A H h bi aH z bq aY aL as a5 d ps):H aL=I (.bJ<|dd d.groups as):=pX _ _ x.uR
def fG.c'(x:fG A H h bi aH z bq aY aL as a5 d ps):mY A H aH a5 ps:={x.a',x.len,λj y p O Y=>(x.bZ j y p O Y).same pX}
def fG.bI(x:fG A H h bi aH z bq aY aL as a5 d ps):h≠aH:=cq x.ob x.a'<|nofun
def fG.same(x:fG A H h bi aH z bq aY aL as a5 d ps)(s:a4 H U):fG A U h bi aH z bq aY aL as a5 d ps:=
 {s _ _ x.ob,x.yj.same<|BV s aH,BV s aH _ _ x.uR,s _ _ x.a',x.len,λj y p O Y=>(x.bZ j y p O Y).same<|BV s aH}
def fG.put(x:fG A H h bi aH z bq aY aL as a5 d ps)(len:ac q=ac b7)(bZ:∀(j:Nat) x p,q[j]? =I x->b7[j]? =I p->hB A (dG H aH) x p (iT p)):
  fG A (al H aH<|.ai<|q.map ab.ref) h bi aH z bq aY aL as q d b7:=
 {aI x.bI▸x.ob,by rw[pW];show x.yj,by rw[pW];show x.uR,ar,len,by rw[pW];show bZ}
end
structure jO(s:qX):Prop where
 dK:gZ s.directory
 c':jP s.patterns
 c1:↥s.patterns<=20
 cv:↥(bP<|dw s.patterns)<=16
def Wr(A:bf):bC:=λvs H Q E=>∃(h bi aH z bq aY aL:ao) (as a5:List ao) (d:dD) (ps:List dN) (k:Int),vs=[.ref h,.int k]/\fG A H h bi aH z bq aY aL as a5 d ps/\ac ps<=100/\aO H/\
 (∀(i:Nat) x,k=i->a5[i]? =I x->Q (.ref x) H)/\(¬(0<=k/\k<ac ps)->fj (A.c 2) (-2) H E)
def CI:bs P w base T 4 60 ["self","k"] (Wr A):=by
 show T.y1.a8.bx Yw λl be aN s H vs Q E g h=>?_;let{h,bi,aH,z,bq,aY,aL,as,a5,d,ps,f,rfl,a,m,ak,j,(e)}:=h;show{_,(aT (dA (lu<|t8 i5 p5 bn (ah 1)<|bB T.bB d9<|aK<|a2 T.eN T.k4<|ah 0) (aV<|oj T.yx.iK (abC T) (g.mono ⋯) D T.yx.e6 T.Qy.b) dJ)
 (aV<|bm<|dc eB (a2 T.eN T.k4<|ah 0) (ah 1) λ_ _=>D)),?_}
 have k:↥(a5.map ab.ref)=ac ps:=by rw[bt];show a.c'.len
 show{_,_,D,D,_,D,?_};by_cases c:0<=f
 .rw[aM<|cn c];show{h,bi,_,_,D,a.ob,lY,aH,_,D,.inl<|aB.of a.c'.a',_,_,D,D,_,D,?_};rw[k];by_cases O:f<(↥ps:Int)
  .rw[cn O];let{i,(rfl)}:=Al c;have au:i<ac a5:=by have:=a.c'.len;omega
   show{h,bi,_,_,D,a.ob,lY,aH,_,_,ab.ref a5[i],D,D,aB.of a.c'.a',dy<|by rw[cO,cA au];rfl,H,b8 ak same,j i _ D<|cA au}
  .rw[ck O];show mz ak ak same<|e λq=>O q.2
 .rw[aD (by rw[ck c];decide)];show{_,D,?_};show mz ak ak same<|e λq=>c q.1
def W1(A:bf):bC:=λvs H Q E=>∃(h bi aH z bq aY aL x:ao) (as a5:List ao) (d:dD) (ps:List dN) (p:dN),vs=[.ref h,.ref x]/\fG A H h bi aH z bq aY aL as a5 d ps/\hB A H x p (iT p)/\jP (ps++[p])/\aO H/\
 (ac ps<20->↥(bP<|dw<|ps++[p])<=16->Q .bT (al H aH<|.ai<|(a5++[x]).map ab.ref))/\(20<=ac ps->fj (A.c 6) (-6) H E)/\(ac ps<20->16<↥(bP<|dw<|ps++[p])->fj (A.c 5) (-5) H E)
def abG:bs P w base T 5 61 ["self","pattern"] (W1 A):=by
 show T.QT.a8.bx Yz λF be aN s H vs Q E f h=>?_;let{h,bi,aH,z,bq,aY,aL,x,as,a5,d,ps,p,rfl,a,t,dr,ak,u,v,(B)}:=h;show{_,(aT (dA (ez ou (bB T.bB d9<|aK<|a2 T.eN T.k4<|ah 0) (fd T.ajB)<|cR _) (aV<|oj T.yv.iK (aby T) (f.mono ⋯) D T.yv.e6 T.Qm.b) dJ)
 (aT (dA (ez rM (bB T.bB d9<|aK<|bQ T.DN (L4 T) f<|aK<|eA lw (a2 T.eN T.k4<|ah 0)<|eg<|aK<|ah 1) (fd T.ajG)<|cR _) (aV<|oj T.yt.iK (abw T) (f.mono ⋯) D T.yt.e6 T.Qi.b) dJ)
 (aV<|dm<|ov (a2 T.eN T.k4<|ah 0)<|aK<|ah 1))),?_}
 have g:↥(a5.map ab.ref)=ac ps:=by rw[bt];show a.c'.len
 have G:ac ps+1<=100:=by have:=dr.c1;rw[b0]at this;show this
 show{h,bi,_,_,D,a.ob,lY,aH,_,D,.inl<|aB.of a.c'.a',_,_,D,D,_,D,?_};rw[g];by_cases l:20<=ac ps
 .rw[cn<|show(20:Int)<=((↥ps:Nat):Int) by omega];show mz ak ak same<|v l
 rw[ck<|show ¬(20:Int)<=((↥ps:Nat):Int) by omega];show{h,bi,_,_,D,a.ob,lY,(by change 1<=bg;decide),λk i=>{aH,k,_,_,D,D,bd i a.c'.a',ar,(by rw[g,cc];change _+1<=_;omega),λcQ n=>?_}};have aj:=(same.new i (H:=H) (o:=.ai [.ref x])).new n (o:=.ai<|a5.map ab.ref++[.ref x]);have C:mY A (al (al H k<|.ai [.ref x]) cQ<|.ai<|a5.map ab.ref++[.ref x]) cQ (a5++[x]) (ps++[p]):=by
  show{by rw[ar,dX];rfl,by rw[b0,b0,a.c'.len];rfl,λj y q O Y=>?_};obtain c|c:=fs j ↥a5
  .rw[gH c]at O;rw[gH (by rw[<-a.c'.len];show c)]at Y;show(a.c'.bZ j y q O Y).same aj
  .rw[jt c]at O;rw[jt<|by rw[<-a.c'.len];show c,<-a.c'.len]at Y;cases hz:j-ac a5 with
   |zero=>rw[hz]at O Y;cases O;cases Y;show t.same aj
   |succ m=>rw[hz]at O;simp at O
 show{cQ,a5++[x],ps++[p],D,C,dr,ak.ai.ai,λq r=>{q,_,D,.inl<|aB.of ar,_,_,D,D,_,D,?_}};have aA:=aj.new r (o:=.ai<|aG<|bP<|dw<|ps++[p]);rw[dj];by_cases O:16<↥(bP<|dw<|ps++[p])
 .rw[cn<|show(16:Int)<((↥(bP<|dw<|ps++[p]):Nat):Int) by omega];show mz ak ak.ai.ai.ai aA<|B ∅ O
 rw[ck<|show ¬(16:Int)<((↥(bP<|dw<|ps++[p]):Nat):Int) by omega];show{h,bi,_,_,D,aA _ _ a.ob,lY,.inl {D,_,aB.of<|aA _ _ a.c'.a'},aH,_,_,D,D,aA _ _ a.c'.a',(by rw[g,cc];omega),?_};have e:a5.map ab.ref++[ab.ref x]=(a5++[x]).map ab.ref:=by rw[dX];rfl
 rw[e]at aA⊢;show{_,.he (.ai .refl<|.inr {_,a.c'.a'}) aA.both ak,u ∅ ∅}
def WP(A:bf):bC:=λvs H Q E=>∃(h bi aH z bq aY aL:ao) (as a5:List ao) (d:dD) (ps:List dN) (k:Int),vs=[.ref h,.int k]/\fG A H h bi aH z bq aY aL as a5 d ps/\ac ps<=100/\aO H/\
 (∀(i:Nat),k=i->i<ac ps->Q .bT (al H aH<|.ai<|(a5.eraseIdx i).map ab.ref))/\(¬(0<=k/\k<ac ps)->fj (A.c 2) (-2) H E)
def abF:bs P w base T 5 62 ["self","k"] (WP A):=by
 show T.QS.a8.bx Yy λn be aN s H vs Q E g h=>?_;let{h,bi,aH,z,bq,aY,aL,as,a5,d,ps,l,rfl,a,c,ak,j,(k)}:=h;show{_,(aT (dm<|gS T.eN T.y1 (CI T) g dB (ah 0)<|aK<|ah 1)
 (aV<|dm<|acz (a2 T.eN T.k4<|ah 0)<|aK<|ah 1)),?_}
 have m:↥(a5.map ab.ref)=ac ps:=by rw[bt];show a.c'.len
 show{h,bi,_,D,a.ob,E5,h,bi,aH,z,bq,aY,aL,as,a5,d,ps,l,D,a,c,ak,(λi x e b=>?_),(λf=>ej ak same<|k f)};subst e;have au:i<ac a5:=(ee.mp b).1;show{h,bi,_,_,D,a.ob,lY,.inl {D,_,aB.of a.c'.a'},aH,_,_,i,ab.ref x,D,D,a.c'.a',∅,(by have:=a.c'.len;omega),?_,(by rw[cO,b];rfl),?_}
 .unfold zp;rw[m];have:=a.c'.len;simp;omega
 .have e:(a5.map ab.ref).eraseIdx i=(a5.eraseIdx i).map ab.ref:=OD ab.ref a5 i;rw[e];show{_,.all,j i D<|by have:=a.c'.len;omega}
def V5(A:bf):bC:=λvs H Q _=>∃(h bi aH z bq aY aL:ao) (as a5:List ao) (d:dD) (ps:List dN),vs=[.ref h]/\fG A H h bi aH z bq aY aL as a5 d ps/\gZ d/\jP ps/\ac ps<=20/\aO H/\
 ∀U x ae u a n f t b c,a4 H U->aO U->o1 A U x ae u a n f t b c d ps->Q (.ref x) U
def CH:bs P w base T 7 63 ["self"] (V5 A):=by
 show T.y0.a8.bx Yv λr be aN s H vs Q E j h=>?_;let{h,bi,aH,z,bq,aY,aL,as,a5,d,ps,rfl,e,ok,dr,i,ak,(k)}:=h;show{_,(aV<|bm<|mQ T.gU T.Qo (abz T) j cH<|cW (a2 T.eN T.k5<|ah 0)<|a2 T.eN T.k4<|ah 0),{h,bi,_,_,D,e.ob,lZ,h,bi,_,_,D,e.ob,lY,λx ae b1 aJ bI=>?_}};have aj:a4 H (al (al H ae<|.bo x) x<|.aS A.ki ae []):=λb o c=>by rw[aI<|b3 c b1];show bd aJ c
 show{x,ae,z,bq,aY,aL,aH,as,a5,d,_,ps,H,D,ar,aj,b1,e.dK,e.c',ok,dr,i,ak.bo.aS,λU u a n f t m q p l g=>{D,U,.all,k U x ae u a n f t m q (λb o c=>p b o (b3 c b1)<|aj b o c) l g}}
def WE(A:bf):bC:=λvs H Q _=>∃h bi:ao,vs=[.ref h]/\H h=I (.aS A.kj bi [])/\aO H/\
 ∀U aH z bq aY aL as,c5 h H U->aO U->H aH=ag->fG A U h bi aH z bq aY aL as [] firstDirectory []->Q .bT U
def abE:bs P w base T 7 59 ["self"] (WE A):=by
 show T.QR.a8.bx Yx λF be aN s H vs Q E x h=>?_;let{h,bi,rfl,u,ak,(k)}:=h;show{_,(aT (eT T.eN T.k5 (ah 0)<|d0 T.DY (L7 T) x dB<|aK<|fd<|adR T)
 (aV<|eT T.eN T.k4 (ah 0)<|eg gv)),?_}
 have r:jJ [117,115,101,114,32,97,10]= .ok firstDirectory:=by rfl
 show{[117,115,101,114,32,97,10],D,⋯,ak,(λd af an z bq aY aL as aj B c kg=>?_),(λf t=>by rw[r]at t;cases t)};obtain rfl:firstDirectory=d:=by rw[r]at af;injection af
 show{h,bi,_,D,aj _ _ u,(by change 0<1000;decide),?_};rw[aj8];show{cI _,λaH i=>{h,bi,_,D,bd i ar,(by change 1<1000;decide),?_}};rw[aj7];have v:aH≠h:=λe=>by rw[e,ar]at i;cases i
 have n:an aH=ag:=by rw[aI v]at i;show i
 have l:∀{b:ao} {o:fR},an b=I o->o≠ .aS A.kj bi []->b≠h:=λa bI e=>by rw[e,aj _ _ u]at a;show bI (d3 a).symm
 have up:∀b o,b≠h->an b=I o->al (al (al an h<|.aS A.kj bi [("directory",ab.ref z)]) aH<|.ai []) h (.aS A.kj bi<|hZ (.ref z)<|.ref aH) b=I o:=λb o a e=>by rw[aI a,aI<|b3 e n,aI a];show e
 have m:∀b o,b≠h->an b=I o->dG (al (al (al an h<|.aS A.kj bi [("directory",ab.ref z)]) aH<|.ai []) h<|.aS A.kj bi<|hZ (.ref z)<|.ref aH) aH b=I o:=λb o a e=>by rw[dF<|b3 e n];show up b o a e
 show{_,.all,k _ aH z bq aY aL as (λb o a e=>up b o a<|aj b o e) B.aS.ai.aS (aj.none n) {ar,?_,m _ _ (l kg<|by intro q;cases q) kg,?_,D,λj y p h=>by simp at h}}
 .show{m _ _ (l c.ob ?_) c.ob,m _ _ (l c.ay ?_) c.ay,.inl<|m _ _ (l kg ?_) kg,c.len,λj b g O Y=>by simp[firstDirectory]at Y}
  .intro q;injection q with G J C;simp[kr]at C
  .intro q;cases q
  .intro q;cases q
 .rw[aI v];show ar
def aca(f:gX H aJ (.cD<|el N q))(cw:hi H q N)(l:(N.map λx=>x.1).Nodup)(d:(p,c)∈N)(g:H tp=I (.aZ<|aG p)):
  ∃ca,fX H aJ (.ref tp) (I<|.ref ca)/\H ca=I (.ai<|aG c):=by
 let{i,(au)}:=ng d
 obtain⟨j,a,m,b,h,k⟩|⟨_,n⟩:=uy p cw.len
 .have e:=Mn l au b D;subst e;rw[au]at b;show{a,.inr {_,iI p,tp,f,D,(by rw[rI];show g),k.symm},cw.bU i a _ h au}
 grind
def Mx p(c:gX H aJ (.cD<|el N q))(cw:hi H q N)(d:H tp=I (.aZ<|aG p)):
  ∃dn,fX H aJ (.ref tp) dn/\dn.isSome=decide (p∈N.map λx=>x.1):=by
 show{_,.inr {_,iI p,tp,c,D,(by rw[rI];show d),D},?_};obtain⟨j,a,f,e,g,b⟩|⟨b,h⟩:=uy p cw.len
 .rw[b,cn<|ct.mpr {_,d5 e,D}];rfl
 grind
def hi.up(h:hi H b7 N)(s:a4 H U):hi U b7 N:=h.same λb _ o q=>s b o q
def Ww:bC:=λvs H Q _=>∃(n:aE) (a:ao) (l:List aE),vs=[.str<|S n,.ref a]/\H a=I (.ai<|aG l)/\dL l/\ac n<=cC/\aO H/\Q (.str<|S<|if l.contains n=aa then n else fresh l) H
def L0:bs P w base T 3 80 ["name","told"] Ww:=by
 show T.CR.a8.bx XN λf be aN s H vs Q E e h=>?_;let{n,a,l,rfl,b,d,g,ak,(k)}:=h;show{_,(aV<|bm<|rH (ez rL (ah 0) (ah 1)<|by with_unfolding_all rfl) (ah 0)<|bQ T.uG (xJ T) e<|aK<|ah 1),?_};show{a,_,D,.inl<|aB.of b,D,pI l,_,D,?_};rw[qd n l];cases c:l.contains n with
 |true=>rw[c,aM D]at k;show{H,b8 ak same,k}
 |false=>rw[c,aD ⋯]at k;show{a,l,D,b,d,ak,H,b8 ak same,k}
def WV(A:bf):bC:=λvs H Q _=>∃(tp aJ:ao) (a:List ao) (N:hC) (p c:List aE),vs=[.ref tp,.ref aJ]/\H tp=I (.aZ<|aG p)/\gX H aJ (.cD<|el N a)/\hi H a N/\(N.map λx=>x.1).Nodup/\(p,c)∈N/\dL c/\ac p<=100/\aO H/\∀q,H q=ag->Q (.ref q) (al H q<|.ai<|aG<|p++[fresh c])
def LY:bs P w base T 3 81 ["node","nodes"] (WV A):=by
 show T.Co.a8.bx XI λt be aN s H vs Q E d h=>?_;let{tp,aJ,v,N,p,c,rfl,f,l,cw,n,j,m,u,ak,(k)}:=h;show{_,(aV<|bm<|eA lw (A1 T.yB Ee<|aK<|ah 0)<|eg<|aK<|bQ T.uG (xJ T) d<|aK<|xv (by show f7 d) (ah 1) (ah 0) λ_ _=>D),?_};show{tp,_,D,.inr<|d1.of f,λcX O=>?_};have aj:=same.new O (H:=H) (o:=.ai<|aG p)
 let{ca,g,(e)}:=aca (t5 aj l) (cw.up aj) n j<|aj _ _ f
 show{aJ,_,D,g,ca,c,D,e,m,ak.ai,(by change 1<=bg;decide),λr b=>?_};have aA:=aj.new b (o:=.ai [ab.str<|S<|fresh c]);show{cX,r,_,_,D,D,bd b ar,ar,(by rw[dj,cc];change _+1<=_;omega),λq a=>?_};have i:aG p++[ab.str<|S<|fresh c]=aG (p++[fresh c]):=(mm _ _).symm;rw[i];show{_,fe ak (aA.new a) (aA.none a) ar,k q<|aA.none a}
def um(N:hC)(q:List aE):=if q∈N.map (λx=>x.1)then q else i6 (N.map λx=>x.1) q ↥q++[fresh<|mG (N.map λx=>x.1)<|i6 (N.map λx=>x.1) q ↥q]
def Wo(A:bf):bC:=λvs H Q _=>∃(b aJ:ao) (a:List ao) (N:hC) (q:List aE),vs=[.ref b,.ref aJ]/\H b=I (.ai<|aG q)/\gX H aJ (.cD<|el N a)/\hi H a N/\vy N 1000/\lT N/\(∀x∈N,dL x.2)/\ac q<=100/\aO H/\
 ∀U p,a4 H U->aO U->U p=I (.ai<|aG<|um N q)->Q (.ref p) U
def aaP:bs P w base T 4 82 ["path","nodes"] (Wo A):=by
 show T.Lv.a8.bx IE λal be aN s H vs Q E l h=>?_;let{b,aJ,Z,N,q,rfl,f,v,cw,ok,kd,V,M,ak,(k)}:=h;show{_,(aT (dA (kP<|oo (by show f7 l) (tP T.vf u'<|aK<|ah 0)<|ah 1) (aV<|bm<|ah 0) dJ)
 (aT (co 2<|bB T.bB d9<|aK<|ah 0)
 (aT (p1 gG (kP<|xx (by show f7 l) (tP T.vf u'<|aK<|hR kL (ah 0) iH<|hc<|ah 2)<|ah 1)<|aV<|kQ (i:=2) IE.aJ D (ce D) bn uN)
 (aV<|bm<|bQ T.Co (LY T) l<|cW (tP T.vf u'<|aK<|hR kL (ah 0) iH<|hc<|ah 2)<|ah 1)))),?_}
 show{b,_,D,.inl {aB.of f,λr l=>?_}};have aj:=same.new l (H:=H) (o:=.aZ<|aG q)
 let{dn,g,(e)}:=Mx q (t5 aj v) (cw.up aj)<|ar (H:=H) (a:=r)
 show{aJ,_,D,g,_,D,?_};rw[e];by_cases t:q∈N.map λx=>x.1
 .rw[cn t];show{H,b8 ak aj,k H b same ak<|by unfold um;rw[aM t];show f}
 rw[ck t];show{b,_,D,.inl<|aB.of<|aj _ _ f,?_};rw[dj];show{λm σ U=>∃j:Nat,σ=[I<|.ref b,I<|.ref aJ,I<|.int j]/\j=m/\j<=ac q/\a4 H U/\aO U/\i6 (N.map λx=>x.1) q (ac q)=i6 (N.map λx=>x.1) q j,{↥q,↥q,D,D,bA _,aj,ak.aZ,D},?_};rintro m σ U ⟨j,rfl,rfl,am,aA,F,u⟩;show{_,D,b,_,D,aB.of<|aA _ _ f,λad R=>?_};rw[sf,ri];show{ad,_,D,.inl {aB.of ar,λfK W=>?_}};have n:=(aA.new R (o:=.ai<|aG<|q.take j)).new W (o:=.aZ<|aG<|q.take j)
 let{an,g2,(J)}:=Mx (q.take j) (t5 n v) (cw.up n) ar
 show{aJ,_,D,g2,_,D,?_};rw[J];by_cases d:q.take j∈N.map λx=>x.1
 .rw[cn d];show{_,D,b,_,D,aB.of<|n _ _ f,λcQ S=>?_};rw[sf,ri];show{cQ,_,D,.inl {aB.of ar,λaf X=>?_}};have p:=(n.new S (o:=.ai<|aG<|q.take j)).new X (o:=.aZ<|aG<|q.take j)
  let{{aq,(c)},z,B}:=ct.mp d
  dsimp only at B;subst B;have K:i6 (N.map λx=>x.1) q j=q.take j:=by
   cases j with
   |zero=>rfl
   |succ j=>rw[i6,aM ‹d›]
  rw[K]at u;have C:=kd.bU _ z;dsimp only at C;show{af,aJ,Z,N,q.take j,c,D,ar,t5 p v,cw.up p,ok.aJ,z,V _ z,b5 (by rw[g8];omega) M,F.ai.aZ.ai.aZ,λae y=>?_};show{_,fe ak (p.new y) (p.none y) ar,k _ ae (same.new<|p.none y) ak.ai<|by unfold um;rw[aD t,ar,u,<-C]}
 .rw[ck d];cases j with
  |zero=>show absurd ok.lq d
  |succ j=>
   show{λG aw=>G=[I<|.ref b,I<|.ref aJ,I<|.int (j:Nat)]/\a4 H aw/\aO aw,λG aw {O,Y,(L)}=>{j,∅,j,O,D,∅,Y,L,?_},?_}
   .rw[u,i6,aD ‹d›]
   .show{_,_,D,D,(by change[_,_,I<|ab.int<|((j+1:Nat):Int)-1]=_;congr;omega),n,F.ai.aZ}
def Ij(h:dL l):dL (bP l):={by rw[show(bP l).length=↥(e3 l) from(kK _).length_eq];show h.e3.len,λt a=>h.bZ t<|(ot l t).mp a}
def Ii(ok:gZ d)(dr:jP ps):dL (bP<|d.users++eb ps):=by
 let{c,(b)}:=Hz dr
 show Ij {?_,λt a=>?_}
 .rw[b0];have:=ok.kF;unfold cC;omega
 .unfold cC;obtain h|h:=cN.mp a
  .have:=jD<|ok.kE t h;omega
  .have:=b t h;omega
def Il(dr:jP ps):dL (bP<|ew ps):=by have:=EU dr ↥ps;rw[j1]at this;show Ij this
def Ik(dr:jP ps):∀x∈d7 ps,dL x.2:=by
 intro x c;have h:=λq a=>((fl q).mp<|dr.bZ q a).2.2.1.2;have g:=rT h;have i:=dr.c1
 let{j,d,_}:=CM {users:=[],groups:=[]} ps
 let{_,f}:=CN {users:=[],groups:=[]} dr.bZ
 show{b5 (g.bU x c)<|by unfold cC;omega,λt b=>?_};rw[d x c]at b
 let{q,a,(e)}:=q7.mp b
 split at e
 .have:=(f q a).2;have:=di.mp this t<|List.mem_of_getLast? e;have:=jD this;unfold cC;omega
 .cases e
def AU(up:jN q)(mem:∀z,z∈q↔z∈hK ps)(d:ac ps<=20):ac q<=41:=by have O:=pt (λp:dN=>p.since) ps;have Y:=pt (λp=>p.until_) ps;have c:=rS (up.imp λ{a b} h=>du h) λz hz=>(mem z).mp hz;unfold hK at c;rw[cz,b0]at c;omega
def aea p(l:List aE):(l.map λt=>if p t=aa then I (ab.str<|S t)else ag).filterMap id=aG (l.filter p):=by
 induction l with
 |nil=>rfl
 |cons a r b=>
  rw[cx,j4];cases h:p a with
  |true=>rw[Te h,b];rfl
  |false=>rw[Tf (by rw[h];decide)];show b
def aeb(p:Nat->Bool)(l:List Nat):(l.map λn=>if p n=aa then I (ab.int n)else ag).filterMap id=((l.filter p).map λ(n:Nat)=>(n:Int)).map ab.int:=by
 induction l with
 |nil=>rfl
 |cons a r b=>
  rw[cx,j4];cases h:p a with
  |true=>rw[Te h,b];rfl
  |false=>rw[Tf (by rw[h];decide)];show b
def Wi(A:bf):bC:=λvs H Q _=>∃(y x ae u a n f t:ao) (b:List ao) (c:List Nat) (d:dD) (ps:List dN) (r:iY),vs=[.ref y,.ref x]/\kn A H y r/\o1 A H x ae u a n f t b c d ps/\iU r=aa/\jO {d,(ps)}/\aO H/\
 ∀U z,a4 H U->aO U->kn A U z (qM (bh d ps) r)->Q (.ref z) U
def aaL:bs P w base T 5 83 ["request","apart"] (Wi A):=by
 show T.Ky.a8.bx tT λbi be aN s H vs Q E M h=>?_;let{y,x,ae,u,a,n,f,t,a0,j,d,ps,r,rfl,aX,g,af,ok,ak,(k)}:=h;show{_,(aV<|bm<|mQ T.e' T.yP (CG T) M cH<|hT (bQ T.CR (L0 T) M<|cW (a2 T.e' T.sp<|ah 0)<|a2 T.gU T.yJ<|ah 1)<|hT (bQ T.CR (L0 T) M<|cW (a2 T.e' T.vr<|ah 0)<|a2 T.gU T.yN<|ah 1)<|ih (bQ T.Lv (aaP T) M<|cW (a2 T.e' T.sr<|ah 0)<|a2 T.gU T.yL<|ah 1) (f0 D tT.aJ (fN<|a2 T.e' T.vq<|ah 0) (bo:=[("flag",2)]) (fn (N:=CY) (b7:=a6 xd) ⋯) (λ_ _ _ _ _=>(c3 (i:=2) tT.aJ D<|ce D)) (λ_ _ _ _ _=>(p0<|ez (LR (K:=K) D) (ah 2) (a2 T.gU T.yM<|ah 1)<|by with_unfolding_all rfl)) λ_ _ _ _ _=>(ah 2))<|Ew T.Ew (ah' D)<|aK<|f0 D tT.aJ (fN<|a2 T.gU T.yK<|ah 1) (bo:=[("time",3)]) (fn (N:=CY) (b7:=a6 xd) ⋯) (λ_ _ _ _ _=>(c3 (i:=3) tT.aJ D<|ce D)) (λ_ _ _ _ _=>(p0<|ez i5 (ah 3) (a2 T.e' T.sq<|ah 0)<|cR _)) λ_ _ _ _ _=>(ah 3)),?_}
 let{p,a7,cr,J,bf,(av)}:=aX
 let{a9,a',bp,br,bu,bv,bw,(bA)}:=(kV r).mp af
 let{bk,(aO)}:=Ho ok.dK.cF ps
 have xY:∀z,z∈bP (d.users++eb ps)↔z∈(bh d ps).users:=λz=>by rw[<-aO,ls];show(ot _ z).trans ()
 have cG:∀z,z∈bP (ew ps)↔z∈(bh d ps).actions:=λz=>(ot _ z).trans (by rw[show(bh d ps).actions=(ew ps).foldl cE []from D,ls];simp);have fm:bP (dw ps)=(bh d ps).flags:=(uY d ps).2
 let{a3,bl,(kd)}:=CM d ps
 let{aZ,(bc)}:=AV d ps
 have io:j=(bh d ps).times:=AM g.up aZ λz=>(g.mem z).trans (bc z).symm;have a5:∀q∈ps,ac q.path<=5:=λq af=>((fl q).mp<|ok.c'.bZ q af).2.2.1.2;have U:=rT a5;have aP:ac ps<=20:=ok.c1;have bV:=AU g.up g.mem aP
 let{od,(aW)}:=g.aJ
 show{y,p,_,_,D,J,vD,x,ae,_,_,D,g.ob,Fe,r.user,u,_,D,g.ay,Ii ok.dK ok.c',(by have:=jD a9;unfold cC;omega),ak,?_};show{y,p,_,_,D,J,y4,x,ae,_,_,D,g.ob,Fi,r.action,a,_,D,g.nG,Il ok.c',(by have:=jD a';unfold cC;omega),ak,?_};show{y,p,_,_,D,J,vE,x,ae,_,_,D,g.ob,Fg,a7,n,a0,d7 ps,r.path,D,bf,.inr {od,(aW)},g.cw,{U.lq,U.aJ,b5 U.len ∅,λz hz=>b5 (U.bU z hz) ∅},kd,Ik ok.c',∅,ak,λL an F aY W=>?_};have as:∀{aq:ao} {o:fR},L aq=ag->a4 H (al L aq o):=λh=>F.new h;show{y,p,_,_,D,F _ _ J,y3,cr,D,{_,aB.of<|F _ _ av},λaq v=>hv r.flags (λt=>ab.str<|S t) (λt=>if(bP<|dw ps).contains t=aa then I (.str<|S t)else ag) (aB.of<|F _ _ av) v (by rw[cc];omega) (λi z acc au aw ax X Z=>?_) ?_}
 .show{D,x,ae,_,_,D,as v _ _ g.ob,Fh,f,_,D,.inl<|aB.of<|as v _ _ g.cv,D,pI _,_,D,?_};rw[show(if ap=aa then !im (ab.str<|S z) (aG<|bP<|dw ps)else im (ab.str<|S z) (aG<|bP<|dw ps))=(bP<|dw ps).contains z from qd z _];cases C:(bP<|dw ps).contains z with
  |true=>show X _<|by rw[C,aM D]
  |false=>show Z (by rw[C,aD ⋯])
 rw[aea];have G:=F.new v (o:=.ai<|aG<|r.flags.filter λt=>(bP<|dw ps).contains t);show{x,ae,_,_,D,G _ _ g.ob,Ff,t,D,{_,aB.of<|G _ _ g.cV},λV B=>hv j (λn=>ab.int (n:Nat)) (λn=>if decide (n<=r.time)=aa then I (.int (n:Nat))else ag) (aB.of<|G _ _ g.cV) B (by rw[cc];omega) (λi z acc au aw ax X Z=>?_) ?_}
 .show{D,y,p,_,_,D,(G.new B) _ _ J,sB,_,_,D,D,_,D,?_};by_cases C:z<=r.time
  .rw[cn<|show((z:Nat):Int)<=((r.time:Nat):Int) by omega];show X _<|by rw[cn C,aM D]
  .rw[ck<|show ¬((z:Nat):Int)<=((r.time:Nat):Int) by omega];show Z (by rw[ck C,aD ⋯])
 rw[aeb];have ba:=G.new B (o:=.ai<|((j.filter λn=>decide (n<=r.time)).map λ(n:Nat)=>(n:Int)).map ab.int);have hp:0∈j.filter λn=>decide (n<=r.time):=to.mpr {(g.mem 0).mpr<|by simp[hK],()};have bI:j.filter (λn=>decide (n<=r.time))≠[]:=λe=>by rw[e]at hp;cases hp
 show{V,_,D,aB.of ar,(by rw[bt];show wk hp),λm l aT=>?_};let{R,aQ,(rfl)}:=ct.mp l;have aL:R=(j.filter λn=>decide (n<=r.time)).getLastD 0:=by have O:=AN (g.up.sublist Ah) R aQ;have Y:=aT _<|ct.mpr {_,Di bI,D};omega
 show λz bq am a1 bn=>{z,bq,_,_,_,_,_,D,ar,D,?_};have aj:a4 (al (al L aq<|.ai<|aG<|r.flags.filter λt=>(bP<|dw ps).contains t) V<|.ai<|((j.filter λn=>decide (n<=r.time)).map λ(n:Nat)=>(n:Int)).map ab.int) (al (al (al (al (al L aq<|.ai<|aG<|r.flags.filter λt=>(bP<|dw ps).contains t) V<|.ai<|((j.filter λn=>decide (n<=r.time)).map λ(n:Nat)=>(n:Int)).map ab.int) bq<|.bo z) z<|.aS (A.c 15) bq []) z<|.aS A.vb bq<|nK (ab.str<|S<|if(bP<|d.users++eb ps).contains r.user=aa then r.user else fresh (bP<|d.users++eb ps)) (ab.str<|S<|if(bP<|ew ps).contains r.action=aa then r.action else fresh (bP<|ew ps)) (ab.ref an) (ab.ref aq)<|ab.int (R:Nat)):=λb o ad=>by rw[aI<|b3 ad am,aI<|b3 ad am];show bd a1 ad
 show{_,.all,k _ z (ba.trans aj) aY.ai.ai.bo.aS.aS {bq,an,aq,?_,?_,?_}}
 .rw[ar];have aA:(qM (bh d ps) r).user=if(bP<|d.users++eb ps).contains r.user=aa then r.user else fresh (bP<|d.users++eb ps):=by
   change(if _ then _ else _)=_;rw[O9 xY,DJ xY]
  have aC:(qM (bh d ps) r).action=if(bP<|ew ps).contains r.action=aa then r.action else fresh (bP<|ew ps):=by change(if _ then _ else _)=_;rw[O9 cG,DJ cG]
  have W:(qM (bh d ps) r).time=R:=by rw[aL,io];rfl
  rw[aA,aC,W]
 .have aF:(qM (bh d ps) r).path=um (d7 ps) r.path:=by
   change(if _ then _ else _)=_;unfold um;rw[a3,CO];by_cases l:r.path∈(bh d ps).nodes
   .rw[aM<|‹l›,aM l]
   .rw[aD<|‹l›,aD l];rfl
  rw[aF];show aj _ _<|bd B<|bd v W
 .have aH:(qM (bh d ps) r).flags=r.flags.filter λt=>(bP<|dw ps).contains t:=by rw[fm];rfl
  rw[aH];show aj _ _<|bd B ar
def sa a b:fJ (d6 a) (d6 b)=decide (a=b):=by
 unfold d6;rw[fJ,i0,i0,i0,fJ,fJ,GW,ey,cf,ei,ei,dg];constructor
 .rintro⟨_,h⟩;show k1 h
 grind
def DT:∀l m:List aE,i0 (l.map d6) (m.map d6)=decide (l=m)
 |[],[]=>rfl
 |[],_::_=>rfl
 |_::_,[]=>rfl
 |a::r,b::s=>by rw[cx,cx,i0,sa,DT r s,ey,cf,dg,dg,dg,List.cons.injEq]
def M7:∀l m:List aE,ac l=ac m->f6 (l.map d6) (m.map d6)=gs l m
 |[],[],_=>rfl
 |[],_::_,h=>by simp at h
 |_::_,[],h=>by simp at h
 |a::r,b::s,h=>by
  rw[cx,cx,f6,sa,uD,M7 r s<|by grind,gs];by_cases e:a=b
  .subst e;rw[cn D,aM D,f4.jF,tD,pA]
  .rw[ck e,aD ⋯,wy,pB]
def yf l m:fJ (hN l) (hN m)=decide (l=m):=by
 unfold hN;rw[fJ,i0,i0,i0,fJ,fJ,DT,GW,ey,cf,ei,dg];constructor
 .simp
 grind
def C9 l m:gP (hN l) (hN m)=hr l m:=by
 unfold hN hr;rw[gPt,f6,fJ];by_cases e:ac l=ac m
 .rw[aM<|by rw[ei,e],f6,fJ,DT,f6,gPl,M7 l m e];have:¬ac l<ac m:=by omega
  rw[ck this,cn e,tD,pA];by_cases q:l=m
  .subst q;rw[cn D,aM D,BQ]
  .rw[ck q,aD ⋯]
 .rw[aD<|by rw[ei];omega,gPi,ck e,wy,pB,ey,dg,dg];omega
def Ng:∀l m:List aE,gQ (l.map d6) (m.map d6)=aa
 |[],_=>by rfl
 |_::_,[]=>by rfl
 |a::r,b::s=>by rw[cx,cx,gQ,Ng r s];rfl
def Dg l m:dH (hN l) (hN m)=aa:=by unfold hN;rw[dHt,gQ,gQ,dHi,dHl,Ng];rfl
def x1:∀l:List aE,fY (l.map d6)=aa/\f' (l.map d6)<=2
 |[]=>{D,⋯}
 |a::r=>by
  let{O,(Y)}:=x1 r
  have b:(d6 a).canLay0=aa:=by simp[d6,pm,fY,wZ]
  have c:(d6 a).depth<=2:=by simp[d6,pl,f']
  rw[cx,fY,f',b,O];show{D,∅}
def Xh l:kA (hN l)=aa:=by
 let{O,(Y)}:=x1 l
 unfold kA hN;rw[cf];show{by simp[pm,fY,O],by simp[pl,f'];omega}
def w9 r:kA (kN r)=aa:=by
 let{O,(Y)}:=x1 r.path
 let{a,(f)}:=x1 r.flags
 have c:∀t,(d6 t).canLay0=aa:=λt=>by simp[d6,pm,fY,wZ]
 have d:∀t:aE,(d6 t).depth<=2:=λt=>by simp[d6,pl,f']
 have b:=d r.user;have e:=d r.action;unfold kA kN hN;rw[cf];show{by simp[pm,fY,O,a,c],by simp[pl,f'];omega}
def acI a b:dH (kN a) (kN b)=aa:=by unfold kN;rw[dHt,gQ,gQ,gQ,gQ,gQ,Dg,Dg];rfl
def acf a b:sW a b= .first↔a<b:=by
 unfold sW;split
 .show{λ_=>by assumption,λ_=>D}
 .split<;>show{(λh=>by cases h),λh=>absurd h<|by assumption}
def ace a b:sW a b= .same↔a=b:=by unfold sW;grind
def afS a b:orElse a b= .same↔a= .same/\b= .same:=by unfold orElse;grind
def afT a b:orElse a b= .first↔a= .first\/(a= .same/\b= .first):=by unfold orElse;grind
def afL a b:fJ (kN a) (kN b)=decide (nP a b= .same):=by unfold kN nP;rw[fJ,i0,i0,i0,i0,i0,i0,yf,yf,sa,sa,fJ,GW,ey];simp only[cf,dg,ei,afS,Pb,sg,ace];constructor<;>(rintro⟨O,Y,c,d,e⟩;show{O,Y,c,d,∅})
def acA a b:gP (kN a) (kN b)=decide (nP a b= .first):=by
 unfold kN nP;rw[gPt,f6,f6,f6,f6,f6,f6,yf,yf,sa,sa,C9,C9,uD,uD,fJ,gPi];simp only[afT,yn,Pb,u7,sg,acf];by_cases O:a.path=b.path
 .rw[O,cn D,aM D,oh.jF];by_cases Y:a.user=b.user
  .rw[Y,cn D,f4.jF];by_cases c:a.action=b.action
   .rw[c,cn D,aM D,f4.jF];by_cases d:a.flags=b.flags
    .rw[d,cn D,aM D,oh.jF];by_cases e:a.time=b.time
     .rw[e];simp
     .simp[e];omega
    .simp[d]
   .simp[c]
  .simp[Y]
 .simp[O]
def YV(l:List (List aE)) i j d e(O:(l.map hN)[i]? =I d)(Y:(l.map hN)[j]? =I e):gP d e=decide (iG hr l i<iG hr l j):=by
 rw[cO]at O Y;unfold iG;cases c:l[i]? with
 |none=>rw[c]at O;cases O
 |some a=>
  cases f:l[j]? with
  |none=>rw[f]at Y;cases Y
  |some b=>rw[c]at O;rw[f]at Y;cases O;cases Y;rw[C9];show xn oh (by grind)
structure mX(H:aP)(aq:ao)(a':List ao)(rows:List (List aE)):Prop where
 ob:H aq=I (.ai<|a'.map ab.ref)
 len:↥a'=↥rows
 bZ:∀(j:Nat) a r,a'[j]? =I a->rows[j]? =I r->H a=I (.ai<|aG r)
def YX(h:mX H aq a' rows)(k:∀r∈rows,dL r):oU K (H9 K) H (a'.map ab.ref) (rows.map hN) (iG hr rows):=by
 show{by rw[bt,bt,h.len],λi x d U O Y s n=>?_,λd af=>?_,λd af e f=>?_,YV rows}
 .rw[cO]at O Y;cases b:a'[i]? with
  |none=>rw[b]at O;cases O
  |some a=>
   cases c:rows[i]? with
   |none=>rw[c]at Y;cases Y
   |some r=>rw[b]at O;rw[c]at Y;cases O;cases Y;show{a,r,D,s _ _<|h.bZ i a r b c,k r<|by grind,n,λaw p aA l jI g j=>{p,D,g,j,aA,l,(jI)}}
 .let{t,_,rfl}:=ct.mp af;show{D,Xh t}
 .let{t,_,rfl}:=ct.mp af;let{u,_,rfl}:=ct.mp f;show Dg t u
def mX.same(h:mX H aq a' rows)(s:a4 H U):mX U aq a' rows:={s _ _ h.ob,h.len,λj a r O Y=>s _ _<|h.bZ j a r O Y}
def mX.add(h:mX H aq a' rows)(d:aq∉a')(c:H p=ag) r:mX (al (al H p<|.ai<|aG r) aq<|.ai<|(a'++[p]).map ab.ref) aq (a'++[p]) (rows++[r]):=by
 have g:p≠aq:=λe=>by rw[e,h.ob]at c;cases c
 show{ar,by rw[b0,b0,h.len];rfl,λj a i O Y=>?_};obtain b|b:=fs j ↥a'
 .rw[gH b]at O;rw[gH (by rw[<-h.len];show b)]at Y;have f:a≠aq:=λe=>d<|e▸d5 O;show aI f▸bd c (h.bZ j a i O Y)
 .rw[jt b]at O;rw[jt<|h.len▸b,<-h.len]at Y;cases hz:j-ac a' with
  |zero=>rw[hz]at O Y;cases O;cases Y;show aI g▸ar
  |succ m=>rw[hz]at O;simp at O
def ui{B C:Type}{f:B->C}:∀{ps:List C} {L:List B},ps.Perm (L.map f)->∃c:List B,c.Perm L/\c.map f=ps
 |[],L,h=>by have:=SW.mp h;rw[SY]at this;subst this;simp
 |b::r,L,h=>by
  let{a,i,(rfl)}:=ct.mp<|h.mem_iff.mp<|i1;let{s,t,(rfl)}:=List.append_of_mem i;have d:(s++a::t).Perm (a::(s++t)):=z8;have Y:=ak7<|h.trans<|d.map f
  let{c,e,(g)}:=ui Y
  show{a::c,(e.cons a).trans d.symm,by rw[cx,g]}
def W8(o:Lt B lt) rows(g:ac xs=ac rows)(h:qt (iG lt rows) xs ys){i:Nat}(c:(ic lt rows)[i]? =I p):∃j:Nat,rows[j]? =I p/\ys[i]? =xs[j]? :=by
 let{ps,perm,rfl,(u)}:=h;have w:((dv ↥xs).map<|iG lt rows).zip xs=(dv ↥xs).map λj=>(iG lt rows j,xs.getD j .bT):=by
  apply wn
  .simp
  .intro k O Y;simp at O;simp[pv,cA O]
 rw[w]at perm;let{m,t,(rfl)}:=ui perm;have f:∀j∈m,j<ac rows:=λj q=>by rw[<-g];show tn.mp<|t.mem_iff.mp q
 cases rows with
 |nil=>simp[ic]at c
 |cons d n=>
  have v:(m.map λj=>(d::n).getD j d)=ic lt (d::n):=by
   show rp o ?_ ?_
   .show(t.map _).trans ?_;rw[g];show ak6 ?_;apply wn
    .simp
    .intro k O Y;rw[List.getElem_map,S7,pv,cA Y];rfl
   .unfold iO;rw[wh]at u⊢;show u.imp_of_mem λ{a b} x r q=>?_;have aH:=cA<|f a x;have s:=cA<|f b r;dsimp only at q;unfold iG at q;rw[aH,s]at q;rw[pv,pv,aH,s,Sx,Sx,xn o (l:=d::n)<|wl<|f b r,sV];show Gn.mpr q
  rw[<-v,cO]at c;cases e:m[i]? with
  |none=>rw[e]at c;cases c
  |some j=>
   rw[e]at c;have y:=f j<|d5 e;show{j,?_,?_}
   .grind
   .rw[cO,cO,e];change I (xs.getD j .bT)=_;rw[pv,cA (by rw[g];show y)];rfl
def mq ns:↥(ef ns)=ac ns:=bt _
def HD{i:Nat}(h:(ef ns)[i]? =I x):∃n,ns[i]? =I n/\x= .int n:=by
 unfold ef at h;rw[cO]at h;cases e:ns[i]? with
 |none=>rw[e]at h;cases h
 |some n=>rw[e]at h;show{n,D,(d3 h).symm}
def ZD{ns:List Nat}(h:ns[i]? =I n):(ns.take<|i+1).foldl (·* ·) 1=(ns.take i).foldl (·* ·) 1*n:=by
 rw[j2,h,pw];rfl
def ZC{B:Type}(l:List B):(l.map λ_=>2).foldl (·* ·) 1=2^ac l:=by
 have:∀(l:List B) k,(l.map λ_=>2).foldl (·* ·) k=k*2^ac l:=by
  intro l;induction l with
  |nil=>intro k;simp
  |cons a r b=>intro k;rw[cx,h7,b,cz,nU,Nat.mul_assoc,iz 2]
 grind
def Wl(K:bR):bC:=λvs H Q _=>∃(a:ao) (ns:List Nat),vs=[.ref a]/\aB K H a (ef ns)/\ac ns<=1000/\(∀n∈ns,n<=10000000)/\aO H/\Q (.int (ns.foldl (·* ·) 1:Nat)) H
def xI:bs P w base T 1 84 ["counts"] (Wl K):=by
 show T.uc.a8.bx Bl λe be aN s H vs Q E g h=>?_;let{a,ns,rfl,b,f,c,ak,(k)}:=h;show{_,(aT (co 1 bn)
 (aT (i3 gG D (fN<|ah 0) (c3 (i:=2) Bl.aJ D<|ce D)<|aV<|kQ (i:=1) Bl.aJ D (ce D) (ah 2) NK)
 (aV<|bm<|ah 1))),?_}
 show{a,D,{_,b},r9 (K:=K) (a:=a) (xs:=ef ns) (λi σ U=>∃v,σ=[I<|.ref a,I (.int (((ns.take i).foldl (·* ·) 1:Nat):Int)),v]/\U=H) {ag,D,(rfl)} ?_ ?_ ?_}
 .rintro i σ U _ ⟨v,rfl,rfl⟩;show b
 .rintro i x σ U d ⟨v,rfl,rfl⟩;let{n,O,(rfl)}:=HD d;have:=c n<|d5 O;show{_,_,D,D,.inr {∅,∅},I<|.int (n:Nat),?_,D};rw[ZD O,Ak];rfl
 .rintro σ U ⟨v,rfl,rfl⟩;rw[mq,j1];show{_,b8 ak same,k}
def WU(A:bf):bC:=λvs H Q _=>∃(x ae u a n f t:ao) (c:List ao) (b:List Nat) (d:dD) (ps:List dN),vs=[.ref x]/\o1 A H x ae u a n f t c b d ps/\jO {d,(ps)}/\aO H/\
 ∀p,H p=ag->Q (.ref p) (al H p<|.ai<|ef [2*↥(d7 ps),↥(bP<|d.users++eb ps)+1,↥(bP<|ew ps)+1,2^↥(bP<|dw ps),↥b])
def L8:bs P w base T 2 85 ["apart"] (WU A):=by
 show T.D5.a8.bx Bp λG be aN s H vs Q E B h=>?_;let{x,ae,u,a,n,f,t,L,g,d,ps,rfl,b,ok,ak,(k)}:=h;show{_,(aV<|bm<|eg<|hT (eA LO bn<|bB T.bB ait<|aK<|a2 T.gU T.yL<|ah 0)<|hT (eA mB (bB T.bB d9<|aK<|a2 T.gU T.yJ<|ah 0) bn)<|ih (eA mB (bB T.bB d9<|aK<|a2 T.gU T.yN<|ah 0) bn) (bQ T.uc (xI T) B<|aK<|f0 D Bp.aJ (fN<|a2 T.gU T.yM<|ah 0) (bo:=[("flag",1)]) (fn (N:=MM) (b7:=a6 BG) ⋯) (λ_ _ _ _ _=>(c3 (i:=1) Bp.aJ D<|ce D)) (λ_ _ _ _ _=>gu) λ_ _ _ _ _=>bn)<|bB T.bB d9<|aK<|a2 T.gU T.yK<|ah 0),?_}
 let{od,(y)}:=b.aJ
 have J:ac ps<=20:=ok.c1;have ij:↥(d7 ps)<=1+5*ac ps:=(rT λq z=>((fl q).mp<|ok.c'.bZ q z).2.2.1.2).len;have cv:↥(bP<|dw ps)<=16:=ok.cv;show{x,ae,_,_,D,b.ob,Fg,n,_,D,.inr {od,(y)},_,_,D,D,.inl {⋯,⋯},?_};rw[xU b.cw.len];show{x,ae,_,_,D,b.ob,Fe,u,_,D,.inl<|aB.of b.ay,_,_,D,D,?_};show{x,ae,_,_,D,b.ob,Fi,a,_,D,.inl<|aB.of b.nG,_,_,D,D,?_};show{x,ae,_,_,D,b.ob,Fh,f,D,{_,aB.of b.cv},λaq e=>hv (bP<|dw ps) (λt=>ab.str<|S t) (λ_=>I<|.int 2) (aB.of b.cv) e (by rw[cc];omega) (λi t acc K C F r _=>{D,r _ D}) ?_};rw[i4];have j:(bP<|dw ps).map (λ_=>ab.int 2)=ef ((bP<|dw ps).map λ_=>2):=by unfold ef;rw[dh];rfl
 rw[j];show{aq,_,D,aB.of ar,(by rw[bt];omega),(λm v=>by let{_,_,rfl}:=ct.mp v;omega),ak.ai,?_};rw[ZC];have aj:=same.new e (H:=H) (o:=.ai<|ef<|(bP<|dw ps).map λ_=>2);show{x,ae,_,_,D,aj _ _ b.ob,Ff,t,_,D,.inl<|aB.of<|aj _ _ b.cV,(by change 5<=bg;decide),λp c=>?_};rw[dj,dj,mq];show{_,fe ak (aj.new c) (aj.none c) ar,?_};have l:[ab.int<|2*((↥(d7 ps):Nat):Int),ab.int<|((↥(bP<|d.users++eb ps):Nat):Int)+1,ab.int<|((↥(bP<|ew ps):Nat):Int)+1,ab.int ((2^↥(bP<|dw ps):Nat):Int),ab.int ((↥g:Nat):Int)]=
   ef [2*↥(d7 ps),↥(bP<|d.users++eb ps)+1,↥(bP<|ew ps)+1,2^↥(bP<|dw ps),↥g]:=by
  unfold ef;simp only[cx,z',Ak,Int.natCast_add];rfl
 rw[l];show k p<|aj.none c
def Wx:bC:=λvs H Q _=>∃(i:Nat) (a:ao) (l:List aE) (x:aE),vs=[.int i,.ref a]/\H a=I (.ai<|aG l)/\dL l/\ac l<=200/\aO H/\(bP<|l++[fresh l])[i]? =I x/\Q (.str<|S x) H
def LZ:bs P w base T 4 86 ["number","told"] Wx:=by
 show T.CQ.a8.bx XK λr be aN s H vs Q E f h=>?_;let{i,a,l,x,rfl,b,c,Y,ak,e,(k)}:=h;show{_,(aV<|bm<|dc eB (bQ T.uO (xL T) f<|aK<|eA lw (ah 1)<|eg<|aK<|bQ T.uG (xJ T) f<|aK<|ah 1) (ah 0) λ_ _=>D),?_};show{a,l,D,b,c,ak,(by change 1<=bg;decide),λp d=>{a,p,_,_,D,D,bd d b,ar,(by rw[dj,cc];change _+1<=_;omega),λcQ j=>?_}};have g:aG l++[ab.str<|S<|fresh l]=aG (l++[fresh l]):=(mm _ _).symm;rw[g];have aj:=(same.new d (H:=H) (o:=.ai [ab.str<|S<|fresh l])).new j (o:=.ai<|aG<|l++[fresh l]);have fU:dL (l++[fresh l]):={by rw[b0];change _+1<=_;unfold cC;omega,λt n=>by
  obtain h|h:=cN.mp n
  .show c.bZ t h
  .rw[cy.mp h];have:=jD<|oB (used:=l) ∅;unfold cC;omega}
 show{cQ,_,D,ar,fU,ak.ai.ai,λq m=>{q,_,_,_,D,D,aB.of ar,dy<|kG e,H,b8 ak<|aj.new m,k}}
def Wc:bC:=λvs H Q _=>∃(z:Int) (a:ao) (l:List aE),vs=[.int z,.ref a]/\H a=I (.ai<|aG l)/\z<=1000/\ac l<=100/\aO H/\Q (.int<|mI (z+1).toNat ↥l) H
def CD:bs P w base T 1 88 ["size","flags"] Wc:=by
 show T.xh.a8.bx ID λd be aN s H vs Q E g h=>?_;let{z,a,l,rfl,c,hz,f,ak,(k)}:=h;show{_,(aT (dA (ez p5 (ah 0) bn<|cR _) (aV<|bm bn) dJ)
 (aT (co 2 bn)
 (aT (i3 gG D (ue D T.vh<|aK<|ah 0) (c3 (i:=3) ID.aJ D<|ce D)<|aV<|co 2<|eA aav (eA LO (ah 2)<|eA Cx (bB T.bB d9<|aK<|ah 1)<|ah 3)<|eA mB (ah 3) bn)
 (aV<|bm<|ah 2)))),?_}
 show{_,_,D,D,_,D,?_};by_cases b:z<0
 .rw[cn b];have e:(z+1).toNat=0:=by omega
  rw[e]at k;show{H,b8 ak same,k}
 rw[ck b];let{m,(rfl)}:=Al<|Int.not_lt.mp b;show{_,D,∅,∅,oC (n:=m) (λi σ U=>∃v,σ=[I<|.int (m:Nat),I<|.ref a,I<|.int ((bU ↥l i:Nat):Int),v]/\U=H) {ag,by rw[nE];rfl,D} ?_ ?_ ?_ ?_}
 .rintro i σ U au _;change i<((m:Nat):Int).toNat;rw[hJ];show au
 .rintro σ U _;change((m:Nat):Int).toNat<=_;rw[hJ];show bA _
 .rintro i x σ U aw au ⟨v,rfl,rfl⟩ ⟨rfl,rfl⟩;show{a,_,D,.inl<|aB.of c,_,_,D,D,_,_,D,D,.inr ?_,_,_,D,D,_,_,D,D,?_,I<|.int (i:Nat),?_,D}
  .rw[dj];omega
  .show{∅,∅}
  .have:=aik ↥l i;rw[dj,<-this];change[_,_,I<|ab.int<|_*(_-(0+(i:Int)))/(0+(i:Int)+1),I<|ab.int<|0+(i:Int)]=_;rw[Int.zero_add]
 .rintro σ U ⟨v,rfl,rfl⟩;have e:((m:Int)+1).toNat=m+1:=by omega
  rw[e]at k;show{_,b8 ak same,k}
def Wd:bC:=λvs H Q _=>∃(i:Nat) (a:ao) (l:List aE) (aF:List aE),vs=[.int i,.ref a]/\H a=I (.ai<|aG l)/\ac l<=16/\aO H/\i<2^ac l/\(fL l<|ac l+1)[i]? =I aF/\∀p,H p=ag->Q (.ref p) (al H p<|.ai<|aG aF)
def aaK:bs P w base T 2 89 ["number","flags"] Wd:=by
 show T.Kr.a8.bx pV λan be aN s H vs Q E g h=>?_;let{i,a,l,aF,rfl,t,aq,ak,au,e,(k)}:=h;show{_,(aT (co 2 bn)
 (aT (p1 gG (ez ou (ah 0) (bQ T.xh (CD T) g<|cW (ah 2)<|ah 1)<|cR _) (aT (kQ (i:=0) pV.aJ D (ce D) (bQ T.xh (CD T) g<|cW (ah 2)<|ah 1) uN)
  (aV<|kQ (i:=2) pV.aJ D (ce D) bn Ds)))
 (aT (co 3<|eg gv)
 (aT (i3 gG D (Lk D T.vj<|aK<|ah 1) (ug D<|kT (c3 (i:=4) pV.aJ D (ce D)<|ce D)<|kT (c3 (i:=5) pV.aJ D (ce D)<|ce D) rF) (aT (co 6<|bQ T.xh (CD T) g<|cW (eA Cx (ah 2) bn)<|hR kL (ah 1) (hc<|eA mB (ah 4) bn) iH)
  (aV<|dA (ez p5 (ah 0) (ah 6)<|cR _) (aT (dm<|ov (ah 3)<|aK<|ah 5)
   (aV<|kQ (i:=2) pV.aJ D (ce D) bn uN))<|aV<|kQ (i:=0) pV.aJ D (ce D) (ah 6) uN)))
 (aV<|bm<|ah 3))))),?_}
 show{λm σ U=>∃f left:Nat,σ=[I<|.int (f:Nat),I<|.ref a,I<|.int (left:Nat),ag,ag,ag,ag]/\U=H/\fB ↥l left+f=i/\left<=ac l/\m=ac l-left,{↥l,i,0,D,D,(by rw[fB];omega),cI _,D},?_};rintro m σ U ⟨f,left,rfl,rfl,aj,hle,rfl⟩;have K:((left:Int)+1).toNat=left+1:=by omega
 show{(left:Int),a,l,D,t,∅,∅,ak,?_};rw[K];show{_,_,D,D,_,D,?_};by_cases J:bU ↥l left<=f
 .rw[cn<|show((mI (left+1) ↥l:Nat):Int)<=(f:Int)from Ts.mpr J];have af:left+1<=ac l:=by
   obtain q|q:=fs left ↥l
   .show q
   .have:left=ac l:=by omega
    subst this;have O:=Hr ↥l;rw[fB]at O;omega
  show{λX aw=>X=[I<|.int ((f-bU ↥l left:Nat):Int),I<|.ref a,I<|.int ((left+1:Nat):Int),ag,ag,ag,ag]/\aw=U,λX aw {O,(Y)}=>{ac l-(left+1),∅,_,_,O,Y,by rw[fB];omega,af,D},?_};show{(left:Int),a,l,D,t,∅,∅,ak,?_};rw[K];show{_,_,D,D,_,_,D,D,?_,D};change[I<|ab.int<|(f:Int)-((bU ↥l left:Nat):Int),_,I<|ab.int<|(left:Int)+1,_,_,_,_]=_;rw[Tq J];rfl
 rw[ck<|show ¬((mI (left+1) ↥l:Nat):Int)<=(f:Int)from λq=>J<|Ts.mp q];have ad:aF=mw left l f:=by have:=YU l (m:=ac l+1) (left:=left) (k:=f) ∅ ∅;rw[aj,e]at this;show d3 this
 show{cI _,λr g=>{a,_,D,aB.of<|bd g t,oC (n:=↥l) (λj σ aw=>∃(d c:Nat) (row:List aE) (y z A:Option ab),σ=[I<|.int (d:Nat),I<|.ref a,I<|.int (c:Nat),I<|.ref r,y,z,A]/\a4 U aw/\aO aw/\aw r=I (.ai<|aG row)/\row++mw c (l.drop j) d=aF/\c<=left/\ac row<=j)
  {f,left,[],ag,ag,ag,D,same.new g,ak.ai,ar,ad.symm,bA _,cI _} ?_ ?_ ?_ ?_}}
 .rintro j σ aw B ⟨d,c,row,y,z,A,rfl,aA,_⟩;show{_,_,aB.of<|aA _ _ t,kG<|cA B}
 .rintro σ aw ⟨d,c,row,y,z,A,rfl,aA,_⟩;show{_,aB.of<|aA _ _ t,q4<|dj _}
 .rintro j v σ aw am B ⟨d,c,row,y,z,A,rfl,aA,C,F,p,ae,as⟩ ⟨T,x,rfl,L,rfl,ax⟩;let{cv,N,(rfl)}:=rj<|ax _<|aB.of<|aA _ _ t;have V:=aA.new L (o:=.aZ [.int (j:Nat),ab.str<|S cv]);show{T,_,D,d1.of ar,D,_,_,D,_,_,D,D,?_};have Z:l.drop j=cv::l.drop (j+1):=by
   rw[nX B];rw[cA B]at N;rw[d3 N]
  show{_,_,D,D,_,_,D,D,_,D,a,_,D,aB.of<|V _ _ t,λq R=>?_};rw[show((j:Nat):Int)+1=((j+1:Nat):Int)from D,yl,tK];have W:=V.new R (o:=.ai<|aG<|l.drop<|j+1);have G:al (al aw T<|.aZ [.int (j:Nat),ab.str<|S cv]) q (.ai<|aG<|l.drop<|j+1) r=I (.ai<|aG row):=bd R<|bd L F;show{(c:Int)-1,q,l.drop<|j+1,D,ar,∅,by rw[gn];omega,C.aZ.ai,?_};rw[show((c:Int)-1+1).toNat=c by omega];show{_,_,D,D,_,D,?_};rw[Z,mw]at p;by_cases u:d<mI c ↥(l.drop<|j+1)
  .rw[cn<|show(d:Int)<((mI c ↥(l.drop<|j+1):Nat):Int)from Tr.mpr u];rw[aM u]at p;cases c with
   |zero=>show absurd u<|ti _
   |succ m=>show{.inl {D,_,aB.of G},r,_,_,D,D,G,(by rw[dj,cc];omega),_,_,D,D,d,m,row++[cv],_,_,_,(by change[_,_,I<|ab.int<|((m+1:Nat):Int)-1,_,_,_,_]=_;rw[show((m+1:Nat):Int)-1=(m:Int) by omega]),λb o M=>?_,C.aZ.ai.ai,(by rw[ar,mm]),(by rw[hI];show p),∅,by rw[b0];change _+1<=_;omega};rw[aI<|b3 M g];show W b o M
  .rw[ck<|show ¬(d:Int)<((mI c ↥(l.drop<|j+1):Nat):Int)from λq=>u<|Tr.mp q];rw[aD u]at p;show{_,_,D,D,d-mI c ↥(l.drop<|j+1),c,row,_,_,_,(by change[I<|ab.int<|(d:Int)-((mI c ↥(l.drop<|j+1):Nat):Int),_,_,_,_,_,_]=_;rw[<-Tq (Gn.mp u)]),W,C.aZ.ai,G,p,ae,∅}
 .rintro σ aw ⟨d,c,row,y,z,A,rfl,aA,C,F,p,_⟩;rw[wo,mw,gI]at p;subst p;show{_,fe ak aA g F,k r g}
def kR:(List Nat->Nat->List Nat)
 |[],_=>[]
 |c::r,k=>k%c::kR r (k/c)
def Le:∀a k,↥(kR a k)=ac a
 |[],_=>rfl
 |c::r,k=>by rw[kR,cz,cz,Le r]
def Lc:∀b c k,kR (b++[c]) k=kR b k++[b.foldl (·/ ·) k%c]
 |[],_,_=>rfl
 |a::r,c,k=>by rw[ju,kR,Lc r c<|k/a];rfl
def Wm(K:bR):bC:=λvs H Q _=>∃(k:Nat) (a:ao) (b:List Nat),vs=[.int k,.ref a]/\H a=I (.ai<|ef b)/\ac b<=100/\(∀c∈b,0<c/\c<=10000000)/\aO H/\∀p,H p=ag->Q (.ref p) (al H p<|.ai<|ef (kR b.reverse k).reverse)
def aaN:bs P w base T 1 90 ["number","counts"] (Wm K):=by
 show T.Ld.a8.bx Bm λB be aN s H vs Q E F h=>?_;let{d,a,b,rfl,g,C,u,ak,(k)}:=h;show{_,(aT (co 2<|eg gv)
 (aT (i3 gG D (ZH D T.PG<|aK<|ah 1) (c3 (i:=3) Bm.aJ D<|ce D) (aT (dm<|ov (ah 2)<|aK<|eA LP (ah 0)<|ah 3)
  (aV<|kQ (i:=0) Bm.aJ D (ce D) (ah 3) NL)))
 (aV<|bm<|ZS D T.yB T.PG<|ah 2))),?_}
 show{cI _,λp f=>{a,_,D,aB.of<|bd f g,oC (n:=↥b) (λj σ aw=>∃v,σ=[I (.int (((b.reverse.take j).foldl (·/ ·) d:Nat):Int)),I<|.ref a,I<|.ref p,v]/\aw=al H p (.ai<|ef<|kR (b.reverse.take j) d)) {ag,D,(rfl)} ?_ ?_ ?_ ?_}}
 .rintro j σ aw m ⟨v,rfl,rfl⟩;show{by rw[mq];show m,_,.int (b[ac b-1-j]'∅:Nat),aB.of<|bd f g,?_};rw[mq];unfold ef;rw[cO,cA ∅];rfl
 .rintro σ aw _;change(ef b).length<=_;rw[mq];show bA _
 .rintro j x σ aw y m ⟨v,rfl,rfl⟩ ⟨rfl,ax⟩;let{c,l,(rfl)}:=HD<|ax _<|aB.of<|bd f g;rw[mq]at l;have t:b.reverse[j]? =I c:=by rw[S9 m];show l
  let{z,(A)}:=u c<|d5 l
  show{.inl {D,_,aB.of ar},_,_,D,D,∅,p,_,_,D,D,ar,?_,?_}
  .rw[mq,Le,g8,cc];omega
  .show{_,_,D,D,{∅,∅},I<|.int (c:Nat),?_,?_}
   .rw[j2,t,pw];rfl
   .rw[ho,j2,t];have:(I c).toList=[c]:=D;rw[this,Lc];unfold ef;rw[dX];rfl
 .rintro σ aw ⟨v,rfl,rfl⟩;rw[<-S0 (as:=b),j1];show{p,_,D,ar,λq r=>?_};have e:(ef<|kR b.reverse d).reverse=ef (kR b.reverse d).reverse:=(List.map_reverse ..).symm;rw[e];have aj:=same.new f (H:=H) (o:=.ai<|ef<|kR b.reverse d);show{_,fe ak (aj.new r) (aj.none r) ar,k q<|aj.none r}
def CP:∀{N:hC} {as:List ao} {j:Nat} {x:List aE×List aE} {a:ao},N[j]? =I x->as[j]? =I a->(el N as)[j]? =I (iI x.1,ab.ref a)
 |[],_,_,_,_,h,_=>by simp at h
 |_::_,[],_,_,_,_,h=>by simp at h
 |n::ns,b::b',0,x,a,O,Y=>by cases O;cases Y;rfl
 |n::ns,b::b',j+1,x,a,O,Y=>CP (j:=j) O Y
def Wp(A:bf):bC:=λvs H Q _=>∃(i:Nat) (aJ:ao) (od:Obj) (a:List ao) (N:hC) (p:List aE),vs=[.int i,.ref aJ]/\H aJ=I (.cg od<|.cD<|el N a)/\hi H a N/\vy N 1000/\lT N/\(∀x∈N,dL x.2/\ac x.1<=5/\∀t∈x.1,ac t<=12)/\aO H/\
 (ic hr<|N.map (λx=>x.1)++N.map λx=>x.1++[fresh x.2])[i]? =I p/\∀U q,a4 H U->aO U->U q=I (.ai<|aG p)->Q (.ref q) U
def aaO:bs P w base T 4 87 ["number","nodes"] (Wp A):=by
 show T.Lu.a8.bx tU λaS be aN s H vs Q E J h=>?_;let{i,aJ,od,z,N,p,rfl,u,cw,ok,kd,af,ak,e,(k)}:=h;show{_,(aT (co 2<|eA lw ((f0 D tU.aJ (Ci<|ah 1) (bo:=[("node",3)]) (fn (N:=CZ) (b7:=a6 xe) ⋯) (λ_ _ _ _ _=>(c3 (i:=3) tU.aJ D<|ce D)) (λ_ _ _ _ _=>gu) λ_ _ _ _ _=>(A1 T.yB (air (K:=K) D)<|aK<|ah 3)))<|(f0 D tU.aJ (Ci<|ah 1) (bo:=[("node",3)]) (fn (N:=CZ) (b7:=a6 xe) ⋯) (λ_ _ _ _ _=>(c3 (i:=3) tU.aJ D<|ce D)) (λ_ _ _ _ _=>gu) λ_ _ _ _ _=>(bQ T.Co (LY T) J<|cW (ah 3)<|ah 1)))
 (aV<|bm<|dc eB (Lm D T.vg T.xj (CE T) J<|ah 2) (ah 0) λ_ _=>D)),?_}
 have ij:↥(el N z)=↥N:=xU cw.len;have aX:=ok.len;show{aJ,od,D,.inr {_,u,λaq av=>nv (n:=↥N) (λj U=>∃a':List ao,a4 H U/\aO U/\mX U aq a' ((N.take j).map λx=>x.1)/\aq∉a') {[],same.new av,ak.ai,{ar,D,λj a r h=>by simp at h},()} ?_ ?_ ?_ ?_}}
 .rintro j U c ⟨a',aj,_⟩;show{aj _ _ u,by rw[ij];show c}
 .rintro U ⟨a',aj,_⟩;show{aj _ _ u,by rw[ij];show bA _}
 .rintro j x U aw c ⟨a',aj,an,f,W⟩ ⟨rfl,am,v,q,ad,rfl,m⟩;obtain⟨a,x,L,rfl,rfl⟩:∃a x,N[j]? =I x/\am=iI x.1/\v=ab.ref a:=by
   have F:N[j]? =I N[j]:=cA c;have Z:z[j]? =I (z[j]'(by rw[cw.len];show c)):=cA _;have:=CP F Z;rw[ad]at this;cases this;show{_,_,F,D,D}
  rw[rI]at m;show{D,q,_,D,.inr<|d1.of m,λas g=>{_,bd g f.ob,?_,a'++[as],?_,?_,?_,?_}}
  .rw[bt,f.len,bt,g8,cc];omega
  .intro b o C;rw[aI<|b3 C av];show bd g<|aj b o C
  .show an.ai.ai
  .have:=f.add W g x.1;rw[j2,L,dX];rw[dX]at this;show this
  .rw[cN,l5];show{W,λh=>by rw[cy.mp h]at f;rw[f.ob]at g;cases g}
 rintro G ⟨a',aj,an,f,W⟩;rw[j1]at f;show{aJ,od,D,.inr {_,aj _ _ u,λS ax=>nv (n:=↥N) (λj U=>∃d:List ao,a4 G U/\aO U/\mX U S d ((N.take j).map λx=>x.1++[fresh x.2])/\S∉d) {[],same.new ax,an.ai,{ar,D,λj a r h=>by simp at h},()} ?_ ?_ ?_ ?_}}
 .rintro j U c ⟨d,aA,_⟩;show{aA _ _<|aj _ _ u,by rw[ij];show c}
 .rintro U ⟨d,aA,_⟩;show{aA _ _<|aj _ _ u,by rw[ij];show bA _}
 .rintro j x U aw c ⟨d,aA,M,l,X⟩ ⟨rfl,am,v,q,ad,rfl,m⟩;obtain⟨a,x,L,rfl,rfl⟩:∃a x,N[j]? =I x/\am=iI x.1/\v=ab.ref a:=by
   have F:N[j]? =I N[j]:=cA c;have Z:z[j]? =I (z[j]'(by rw[cw.len];show c)):=cA _;have:=CP F Z;rw[ad]at this;cases this;show{_,_,F,D,D}
  rw[rI]at m;have y:=d5 L
  let{aM,aY,_}:=af x y
  have aH:=aj.trans aA;show{D,q,aJ,z,N,x.1,x.2,D,m,.inr {od,aH _ _ u},cw.up aH,ok.aJ,y,aM,∅,M,λas g=>{_,bd g l.ob,?_,d++[as],?_,?_,?_,?_}}
  .rw[bt,l.len,bt,g8,cc];omega
  .intro b o C;rw[aI<|b3 C ax];show bd g<|aA b o C
  .show M.ai.ai
  .have:=l.add X g<|x.1++[fresh x.2];rw[j2,L,dX];rw[dX]at this;show this
  .rw[cN,l5];show{X,λh=>by rw[cy.mp h]at l;rw[l.ob]at g;cases g}
 rintro au ⟨d,aA,M,l,X⟩;rw[j1]at l;have aG:=f.same aA;show{aq,S,_,_,D,D,aG.ob,l.ob,(by rw[bt,bt,f.len,l.len,bt,bt,cc];omega),λR aF=>?_};have B:mX (al au R<|.ai<|a'.map ab.ref++d.map ab.ref) R (a'++d) (N.map (λx=>x.1)++N.map λx=>x.1++[fresh x.2]):=by
  show{by rw[ar,dX],by rw[b0,b0,f.len,l.len],λj a r O Y=>bd aF ?_};obtain c|c:=fs j ↥a'
  .rw[gH c]at O;rw[gH (by rw[<-f.len];show c)]at Y;show aG.bZ j a r O Y
  .rw[jt c]at O;rw[jt<|by rw[<-f.len];show c,<-f.len]at Y;show l.bZ _ a r O Y
 have aQ:∀r∈N.map (λx=>x.1)++N.map λx=>x.1++[fresh x.2],dL r:=λr J=>by
  obtain h|h:=cN.mp J
  .let{x,y,(rfl)}:=ct.mp h
   let{_,Y,V}:=af x y
   show{by unfold cC;omega,λt ae=>by have:=V t ae;unfold cC;omega}
  .let{x,y,(rfl)}:=ct.mp h
   let{O,Y,(V)}:=af x y
   show{by rw[b0];change _+1<=_;unfold cC;omega,λt ae=>?_};obtain q|q:=cN.mp ae
   .have:=V t q;unfold cC;omega
   .rw[cy.mp q];have:=jD (oB (used:=x.2)<|b5 O.len<|by unfold cC;omega);unfold cC;omega
 have aP:a4 H (al au R<|.ai<|a'.map ab.ref++d.map ab.ref):=(aj.trans aA).new aF;have aW:(a'++d).map ab.ref=a'.map ab.ref++d.map ab.ref:=dX;show{R,_,_,_,D,.inl<|aB.of B.ob,M.ai,(by rw[bt,B.len,b0,bt,bt,cc];omega),YX B aQ,λU q ys s n m c9=>?_}
 let{j,ay,(aC)}:=W8 oh _ (by rw[bt];show B.len) c9 e
 have aL:j<↥(a'++d):=by rw[B.len];show(ee.mp ay).1
 have aD:=cA aL;rw[cO,aD]at aC;show{q,_,_,_,D,D,aB.of ar,dy aC,_,.all,k _ _ ((aP.trans s).new m) n.ai<|bd m<|s _ _<|B.bZ j _ _ aD ay}
structure ajf(d:dD)(ps:List dN)(n5:List Nat):Prop where
 xY:∀z,z∈bP (d.users++eb ps)↔z∈(bh d ps).users
 No:↥(bP<|d.users++eb ps)=(bh d ps).users.length
 aci:(bh d ps).users.Nodup
 cG:∀z,z∈bP (ew ps)↔z∈(bh d ps).actions
 Np:↥(bP<|ew ps)=(bh d ps).actions.length
 fm:bP (dw ps)=(bh d ps).flags
 e4:(d7 ps).map (λx=>x.1)=(bh d ps).nodes
 acb:∀x∈d7 ps,x.2=FT (bh d ps) x.1
 kd:lT (d7 ps)
 io:n5=(bh d ps).times
 ok:vB (bh d ps)
def Bw(ok:jO {d,(ps)})(up:jN q)(mem:∀z,z∈q↔z∈hK ps):ajf d ps q:=by
 let{b,(a)}:=Ho ok.dK.cF ps
 let{e,c,(kd)}:=CM d ps
 let{aZ,(f)}:=AV d ps
 have fm:=(uY d ps).2;show{λz=>by rw[<-a,ls];show(ot _ z).trans (),a▸(kK _).length_eq,b,λz=>(ot _ z).trans<|by rw[show(bh d ps).actions=(ew ps).foldl cE []from D,ls];simp,(kK _).length_eq,fm,e,c,kd,AM up aZ λz=>(mem z).trans (f z).symm,adI ok.dK.kE ok.dK.kF ok.c'.bZ ok.c1<|fm▸ok.cv}
def Wh(A:bf):bC:=λvs H Q E=>∃(b:Int) (x ae u a n f t:ao) (e:List ao) (g:List Nat) (d:dD) (ps:List dN),vs=[.int b,.ref x]/\o1 A H x ae u a n f t e g d ps/\jO {d,(ps)}/\aO H/\
 (20000<hl (bh d ps)->fj (A.c 7) (-7) H E)/\(hl (bh d ps)<=20000->¬(0<=b/\b<hl (bh d ps))->fj (A.c 3) (-2) H E)/\
 (hl (bh d ps)<=20000->0<=b->∀r,(qL<|bh d ps)[b.toNat]? =I r->iU r=aa->∀U z,a4 H U->aO U->kn A U z r->Q (.ref z) U)
def aaM:bs P w base T 5 91 ["number","apart"] (Wh A):=by
 show T.Kz.a8.bx XF λbE be aN s H vs Q E e h=>?_;let{aC,x,ae,u,a,n,f,t,aL,aX,d,ps,rfl,r,ok,ak,bi,ax,(bk)}:=h;show{_,(aT (co 2<|bQ T.D5 (L8 T) e<|aK<|ah 1)
 (aT (dA (ez rM (bQ T.uc (xI T) e<|aK<|ah 2) (fd T.ajC)<|cR _) (aV<|oj T.yu.iK (abx T) (e.mono ⋯) D T.yu.e6 T.Qk.b) dJ)
 (aT (dA (lu<|t8 i5 p5 bn (ah 0)<|bQ T.uc (xI T) e<|aK<|ah 2) (aV<|oj T.yw.iK (abB T) (e.mono ⋯) D T.yw.e6 T.Qw.b) dJ)
 (aT (co 3<|bQ T.Ld (aaN T) e<|cW (ah 0)<|ah 2)
 (aV<|bm<|mQ T.e' T.yP (CG T) e cH<|hT (bQ T.CQ (LZ T) e<|cW (dc eB (ah 3) bn λ_ _=>D)<|a2 T.gU T.yJ<|ah 1)<|hT (bQ T.CQ (LZ T) e<|cW (dc eB (ah 3) bn λ_ _=>D)<|a2 T.gU T.yN<|ah 1)<|ih (bQ T.Lu (aaO T) e<|cW (dc eB (ah 3) bn λ_ _=>D)<|a2 T.gU T.yL<|ah 1) (bQ T.Kr (aaK T) e<|cW (dc eB (ah 3) bn λ_ _=>D)<|a2 T.gU T.yM<|ah 1)<|dc eB (a2 T.gU T.yK<|ah 1) (dc eB (ah 3) bn λ_ _=>D) λ_ _=>D))))),?_}
 have G:=Bw ok r.up r.mem;have aq:ac ps<=20:=ok.c1;have bV:=AU r.up r.mem aq;have ij:↥(d7 ps)<=1+5*ac ps:=(rT λq k=>((fl q).mp<|ok.c'.bZ q k).2.2.1.2).len;show{x,ae,u,a,n,f,t,aL,aX,d,ps,D,r,ok,ak,λp ba=>?_};have a1:[2*↥(d7 ps),↥(bP<|d.users++eb ps)+1,↥(bP<|ew ps)+1,2^↥(bP<|dw ps),↥aX]=
   [2*(bh d ps).nodes.length,(bh d ps).users.length+1,(bh d ps).actions.length+1,2^(bh d ps).flags.length,(bh d ps).times.length]:=by
  rw[G.No,G.Np,G.fm,G.io,<-G.e4,bt]
 rw[a1];have bM:2^(bh d ps).flags.length<=2^16:=v' ⋯ G.ok.cv;have bu:0<2^(bh d ps).flags.length:=Gl _;have bN:(bh d ps).times.length<=41:=by rw[<-G.io];show bV
 have hp:0<(bh d ps).times.length:=wk G.ok.hp;have bI:0<(bh d ps).nodes.length:=wk G.ok.lq;have cX:=G.ok.ay;have d8:=G.ok.nG;have bF:=G.ok.ij;have bZ:∀c∈[2*(bh d ps).nodes.length,(bh d ps).users.length+1,(bh d ps).actions.length+1,2^(bh d ps).flags.length,(bh d ps).times.length],0<c/\c<=10000000:=λc l=>by simp only[bK,h6,h0]at l;obtain h|h|h|h|h:=l<;>(rw[h];constructor<;>omega)
 have R:([2*(bh d ps).nodes.length,(bh d ps).users.length+1,(bh d ps).actions.length+1,2^(bh d ps).flags.length,(bh d ps).times.length]).foldl (·* ·) 1=hl (bh d ps):=D6 _;generalize au:[2*(bh d ps).nodes.length,(bh d ps).users.length+1,(bh d ps).actions.length+1,2^(bh d ps).flags.length,(bh d ps).times.length]=g at bZ R;have bH:ac g=5:=by rw[<-au];rfl
 have aj:=same.new ba (H:=H) (o:=.ai<|ef g);show{p,g,D,aB.of ar,∅,λc l=>(bZ c l).2,ak.ai,_,_,D,D,_,D,?_};rw[R];by_cases B:20000<hl (bh d ps)
 .rw[cn<|show(20000:Int)<((hl (bh d ps):Nat):Int) by omega];show mz ak ak.ai aj<|bi B
 rw[ck<|show ¬(20000:Int)<((hl (bh d ps):Nat):Int) by omega];have V:hl (bh d ps)<=20000:=by omega
 show{_,_,D,D,_,D,?_};by_cases F:0<=aC;rotate_left
 .rw[aD (by rw[ck F];decide)];show{_,D,mz ak ak.ai aj<|ax V λq=>F q.1}
 rw[aM<|cn F];show{p,g,D,aB.of ar,∅,λc l=>(bZ c l).2,ak.ai,_,_,D,D,_,D,?_};rw[R];by_cases O:aC<((hl (bh d ps):Nat):Int);rotate_left
 .rw[ck O];show mz ak ak.ai aj<|ax V λq=>O q.2
 rw[cn O];let{m,(rfl)}:=Al F;have a9:m<hl (bh d ps):=by omega
 let{aW,ad,Z,C,kM,g1,g2,g3,am,an,a3,(a5)}:=abY G.ok a9
 show{m,p,g,D,ar,∅,bZ,ak.ai,λq k=>?_};have ep:(kR g.reverse m).reverse=[m/(bh d ps).times.length/2^(bh d ps).flags.length/((bh d ps).actions.length+1)/((bh d ps).users.length+1)%(2*(bh d ps).nodes.length),m/(bh d ps).times.length/2^(bh d ps).flags.length/((bh d ps).actions.length+1)%((bh d ps).users.length+1),
   m/(bh d ps).times.length/2^(bh d ps).flags.length%((bh d ps).actions.length+1),m/(bh d ps).times.length%2^(bh d ps).flags.length,m%(bh d ps).times.length]:=by rw[<-au];rfl
 rw[ep];generalize m/(bh d ps).times.length/2^(bh d ps).flags.length/((bh d ps).actions.length+1)/((bh d ps).users.length+1)%(2*(bh d ps).nodes.length)=qe at g1;generalize m/(bh d ps).times.length/2^(bh d ps).flags.length/((bh d ps).actions.length+1)%((bh d ps).users.length+1)=dP at g2;generalize m/(bh d ps).times.length/2^(bh d ps).flags.length%((bh d ps).actions.length+1)=v at g3;have av:m/(bh d ps).times.length%2^(bh d ps).flags.length<2^(bh d ps).flags.length:=mb _ bu;generalize m/(bh d ps).times.length%2^(bh d ps).flags.length=y at am av;generalize m%(bh d ps).times.length=J at an;have aA:=aj.new k (o:=.ai<|ef [qe,dP,v,y,J]);have eq:(al (al H p<|.ai<|ef g) q<|.ai<|ef [qe,dP,v,y,J]) q=I (.ai<|ef [qe,dP,v,y,J]):=ar;generalize as:al (al H p<|.ai<|ef g) q (.ai<|ef [qe,dP,v,y,J])=aY at aA eq;have X:aO aY:=by rw[<-as];show ak.ai.ai
 clear as;have i:=r.same aA
 let{od,(a')}:=i.aJ
 have bv:(bP<|bP (d.users++eb ps)++[fresh<|bP<|d.users++eb ps])[dP]? =I ad:=by have:bP (bP (d.users++eb ps)++[fresh<|bP<|d.users++eb ps])=(fH<|bh d ps).users:=LB G.aci G.xY;rw[this];show g2
 have bw:(bP<|bP (ew ps)++[fresh<|bP<|ew ps])[v]? =I Z:=by have:bP (bP (ew ps)++[fresh<|bP<|ew ps])=(fH<|bh d ps).actions:=LB (ai7 d ps) G.cG;rw[this];show g3
 have bA:(ic hr<|(d7 ps).map (λx=>x.1)++(d7 ps).map λx=>x.1++[fresh x.2])[qe]? =I aW:=by
  have aZ:((d7 ps).map λx=>x.1++[fresh x.2])=(bh d ps).nodes.map (zu<|bh d ps):=by rw[<-G.e4,dh];show pr λz hz=>by change z.1++[fresh z.2]=z.1++[fresh<|FT _ z.1];rw[<-G.acb z hz]
  have:ic hr ((d7 ps).map (λx=>x.1)++(d7 ps).map λx=>x.1++[fresh x.2])=(fH<|bh d ps).paths:=by rw[G.e4,aZ];show(w6 oh yn _).symm
  rw[this];show g1
 have bB:(fL (bP<|dw ps)<|↥(bP<|dw ps)+1)[y]? =I C:=by rw[G.fm,<-LC G.ok.DH];show am
 have bl:↥(bP<|d.users++eb ps)<=200:=by have O:=xH<|d.users++eb ps;have Y:↥(bP<|d.users++eb ps)=↥(e3<|d.users++eb ps):=(kK _).length_eq;have U:↥(eb ps)<=20:=b5 (pt _ _) aq;have a6:ac d.users<=12:=ok.dK.kF;rw[b0]at O;omega
 have aH:↥(bP<|ew ps)<=200:=by have O:=xH<|ew ps;have Y:↥(bP<|ew ps)=↥(e3<|ew ps):=(kK _).length_eq;have U:=DM (λp:dN=>p.acts) (ps:=ps) (n:=6) (λq k=>((fl q).mp<|ok.c'.bZ q k).2.1.2.2) ↥ps;rw[j1]at U;have a6:↥(ew ps)<=ac ps*6:=U;omega
 show{q,_,_,_,D,D,aB.of eq,dy (j:=1) D,x,ae,_,_,D,i.ob,Fe,dP,u,_,ad,D,i.ay,Ii ok.dK ok.c',bl,X,bv,?_};show{q,_,_,_,D,D,aB.of eq,dy (j:=2) D,x,ae,_,_,D,i.ob,Fi,v,a,_,Z,D,i.nG,Il ok.c',aH,X,bw,?_};have K:=rT λq k=>((fl q).mp<|ok.c'.bZ q k).2.2.1.2
 let{_,br}:=CN d ok.c'.bZ
 show{q,_,_,_,D,D,aB.of eq,dy (j:=0) D,x,ae,_,_,D,i.ob,Fg,qe,n,od,aL,d7 ps,aW,D,a',i.cw,{K.lq,K.aJ,b5 K.len<|by change 1+5*ac ps<=_;omega,λz hz=>b5 (K.bU z hz)<|by change 1+5*ac ps<=_;omega},G.kd,(λz hz=>?_),X,bA,λN aQ L aF a0=>?_}
 .have bf:z.1∈(bh d ps).nodes:=by rw[<-G.e4];show ct.mpr {z,hz,(rfl)}
  let{bC,(bD)}:=br z.1 bf
  show{Ik ok.c' z hz,bC,λt bc=>jD<|di.mp bD t bc}
 have W:=i.same L;show{q,_,_,_,D,D,aB.of<|L _ _ eq,dy (j:=3) D,x,ae,_,_,D,W.ob,Fh,y,f,_,C,D,W.cv,ok.cv,aF,(by rw[G.fm];show av),bB,λcr a7=>?_};have M:=(same.new a7 (H:=N) (o:=.ai<|aG C));have aw:=W.same M;show{x,ae,_,_,D,aw.ob,Ff,q,_,_,_,D,D,aB.of<|M _ _<|L _ _ eq,dy (j:=4) D,t,_,_,.int (kM:Nat),D,D,aB.of aw.cV,dy<|by unfold ef;rw[cO,G.io,an];rfl,?_};show λz bq aP bp bJ=>{z,bq,_,_,_,_,_,D,ar,D,?_};have af:a4 (al N cr<|.ai<|aG C) (al (al (al (al N cr<|.ai<|aG C) bq<|.bo z) z<|.aS (A.c 15) bq []) z<|.aS A.vb bq<|nK (ab.str<|S ad) (ab.str<|S Z) (ab.ref aQ) (ab.ref cr)<|ab.int (kM:Nat)):=λb o B=>by rw[aI<|b3 B aP,aI<|b3 B aP];show bd bp B
 show{_,.all,bk V ∅ _ (by rw[hJ];show a3) a5 _ z (((aA.trans L).trans M).trans af) aF.ai.bo.aS.aS {bq,aQ,cr,ar,af _ _<|M _ _ a0,af _ _ ar}}
structure EX(K:bR)(mg:Str->Option az)(A:bf)(ca:ao)(tp:Nat->ao):Prop where
 UB:pj K (.ref<|A.c 8)=I (.type "type")
 aiK:jX K (A.c 8) (.type "BaseException")=I aa
 Xx:jX K (A.c 8) (.ref<|A.c 8)=I aa
 UA:pj K (.ref<|A.c 0)=I (.type "type")
 aiJ:jX K (A.c 0) (.type "BaseException")=I aa
 calls:eP mg "CALLS" (.ref ca)
 dict:Fp K ca λk=>if 0<=k/\k<15 then I (tp k.toNat)else ag
def lU A H h bi aH(s:qX):=∃(z bq aY aL:ao) (as a5:List ao),fG A H h bi aH z bq aY aL as a5 s.directory s.patterns
def E0 h aH(H U:aP):=∀b o,b≠h->b≠aH->H b=I o->U b=I o
def tY(s:a4 H U) h aH:E0 h aH H U:=λb o _ _ q=>s b o q
def hM(A:bf)(b:List Int->List aE->Prop)(out:qX->List Int->List aE->Out):bC:=λvs H Q E=>∃(h bi aH cw bc:ao) (ns:List Int) (a:List aE) (s:qX),vs=[.ref h,.ref cw,.ref bc]/\lU A H h bi aH s/\jO s/\H cw=I (.ai<|ns.map ab.int)/\H bc=I (.ai<|aG<|a.map λt=>t.map b4)/\b ns a/\aO H/\
 (∀s' l,out s ns a= .ok (s',l)->ac l<=5000->jO s'->∀U p,E0 h aH H U->aO U->lU A U h bi aH s'->U p=I (.ai<|lx l)->H p=ag->Q (.ref p) U)/\(∀n,out s ns a= .error n->∀i,1<=i->i<=7->fj (A.c i) (-n) H E)
abbrev Bf(_:List Int)(_:List aE):=True
abbrev Be(ns:List Int)(_:List aE):=∃k,ns=[k]
abbrev og(_:List Int)(a:List aE):=∃t,a=[t]/\ac t<=8000
abbrev Xk(ns:List Int)(a:List aE):=∃k t,ns=[k]/\a=[t]/\ac t<=8000
abbrev Xj(_:List Int)(a:List aE):=∃t u,a=[t,u]/\ac t<=8000/\ac u<=8000
def fG.is(x:fG A H h bi aH z bq aY aL as a5 s.directory s.patterns):lU A H h bi aH s:={z,bq,aY,aL,as,a5,(x)}
def CB{i:Nat}(h:s.patterns[i]? =I p) f:vU s i f=f p:=by unfold vU iV;rw[aD ∅,hJ,h]
def CC(h:¬(0<=k/\k<s.patterns.length)) f:vU s k f= .error 2:=by
 unfold vU iV;by_cases a:k<0
 .rw[aM a]
 .rw[aD a,nh ∅]
def abd:bs P w base T 2 93 ["held","numbers","texts"] (hM A Bf λs _ _=>eG s .showAll):=by show T.EF.a8.bx X5 λe be aN s H vs Q E c h=>?_;let{h,bi,aH,cw,bc,ns,k,st,rfl,{z,bq,aY,aL,as,a5,(b)},ok,f,i,g,ak,d,j}:=h;show{_,(aV<|bm<|bQ T.qr (rO T) c<|aK<|a2 T.dQ T.Q1<|a2 T.eN T.k5<|ah 0),{h,bi,_,_,D,b.ob,lZ,z,bq,_,_,D,b.dK.ob,akc,_,D,b5 (OW ok.dK)<|by unfold cV;omega,ak,λp a=>{_,fe ak (same.new a) a ar,?_}}};have:=OW ok.dK;show d st _ D (by simp[toldText];omega) ok _ p (tY (same.new a) _ _) ak.ai (b.same<|same.new a).is ar a
def abc:bs P w base T 1 106 ["held","numbers","texts"] (hM A Bf λs _ _=>eG s .size):=by show T.EE.a8.bx X4 λd be aN s H vs Q E f h=>?_;let{h,bi,aH,cw,bc,ns,k,st,rfl,{z,bq,aY,aL,as,a5,(a)},ok,e,i,g,ak,c,j}:=h;show{_,(aV<|bm<|eg<|ih (bB T.bB d9<|aK<|a2 T.dQ T.ks<|a2 T.eN T.k5<|ah 0) (bB T.bB yr<|aK<|a2 T.dQ T.jm<|a2 T.eN T.k5<|ah 0)<|bB T.bB d9<|aK<|a2 T.eN T.k4<|ah 0),{h,bi,_,_,D,a.ob,lZ,z,bq,_,_,D,a.dK.ob,k6,aY,_,D,.inl<|aB.of a.dK.ay,{h,bi,_,_,D,a.ob,lZ,z,bq,_,_,D,a.dK.ob,jR,aL,_,D,a.kg,{h,bi,_,_,D,a.ob,lY,aH,_,D,.inl<|aB.of a.a',(by change 3<=bg;decide),λp b=>{_,fe ak (same.new b) b ar,?_}}}}};rw[dj,lD a.dK.len,bt,a.len];show c st _ D (by change 3<=5000;decide) ok _ p (tY (same.new b) _ _) ak.ai (a.same<|same.new b).is ar b
def abb:bs P w base T 5 96 ["held","numbers","texts"] (hM A Be λs ns _=>eG s<|.showOne<|ns.getD 0 0):=by
 show T.ED.a8.bx X3 λr be aN s H vs Q E d h=>?_;let{h,bi,aH,cw,bc,ns,B,st,rfl,{z,bq,aY,aL,as,a5,(a)},ok,g,v,{n,(rfl)},ak,l,m}:=h;show{_,(aV<|bm<|bQ T.qr (rO T) d<|aK<|a2 T.eC T.Qs<|gS T.eN T.y1 (CI T) d dB (ah 0)<|aK<|dc eB (ah 1) bn λ_ _=>D),?_};show{h,bi,_,D,a.ob,E5,cw,_,_,_,D,D,aB.of g,dy (j:=0) D,h,bi,aH,z,bq,aY,aL,as,a5,_,_,n,D,a,b5 ok.c1 ⋯,ak,(λi x e f=>?_),(λk=>?_)}
 .subst e;have au:i<ac st.patterns:=by rw[<-a.len];show(ee.mp f).1
  have c:=cA au
  let{ae,q,y,C,F,O,Y,t,(u)}:=a.c'.bZ i x _ f c
  have o:=Z9<|ok.c'.bZ _<|d5 c;show{x,ae,_,_,D,O,aka,_,D,b5 o<|by unfold cV;omega,ak,λp b=>{_,fe ak (same.new b) b ar,l st _ (CB c _) (by simp[toldText];omega) ok _ p (tY (same.new b) _ _) ak.ai (a.same<|same.new b).is ar b}}
 .show ej ak same<|m 2 (CC k _) 2 ⋯ ⋯
def abm:bs P w base T 6 95 ["held","numbers","texts"] (hM A Be λs ns _=>eG s<|.drop<|ns.getD 0 0):=by
 show T.EN.a8.bx Yb λM be aN s H vs Q E F h=>?_;let{h,bi,aH,cw,bc,ns,R,st,rfl,{z,bq,aY,aL,as,a5,(a)},ok,t,N,{K,(rfl)},ak,G,J}:=h;show{_,(aT (dm<|gS T.eN T.QS (abF T) F dB (ah 0)<|aK<|dc eB (ah 1) bn λ_ _=>D)
 (aV<|bm<|eg<|aK<|bB T.bB d9<|aK<|a2 T.eN T.k4<|ah 0)),?_}
 show{h,bi,_,D,a.ob,ajr,cw,_,_,_,D,D,aB.of t,dy (j:=0) D,h,bi,aH,z,bq,aY,aL,as,a5,_,_,K,D,a,b5 ok.c1 ⋯,ak,(λi e au=>?_),(λu=>ej ak same<|J 2 (CC u _) 2 ⋯ ⋯)};subst e;have B:=cA au;have n:↥(a5.eraseIdx i)=↥(st.patterns.eraseIdx i):=by rw[GA,GA,a.len]
 have f:=a.put n λj y p O Y=>by
  rw[List.getElem?_eraseIdx]at O Y;split at O
  .rename_i g;rw[aM g]at Y;show a.bZ j y p O Y
  .rename_i g;rw[aD g]at Y;show a.bZ _ y p O Y
 show{h,bi,_,_,D,f.ob,lY,aH,_,D,.inl<|aB.of f.a',(by change 1<=bg;decide),λp c=>?_};rw[bt,n];have L:jO {st with patterns:=st.patterns.eraseIdx i}:=by
  have d:(st.patterns.eraseIdx i).Sublist st.patterns:=List.eraseIdx_sublist ..;show{ok.dK,{b5 d.length_le ok.c'.c1,λq k=>ok.c'.bZ q<|d.subset k},b5 d.length_le ok.c1,b5 ?_ ok.cv};have aJ:∀l:List aE,(bP l).Nodup:=λl=>(kK _).nodup_iff.mpr<|rD _ _ ne;show rS (aJ _) λx m=>?_;rw[show(x∈bP (dw st.patterns))=(x∈rJ (dw st.patterns))from D,ot];have m:=(ot _ x).mp m
  let{q,k,(ax)}:=js.mp m
  show js.mpr {q,d.subset k,ax}
 have C:p≠aH:=λe=>by rw[e,ar]at c;cases c
 have v:H p=ag:=by rw[aI C]at c;show c
 show{_,.all,G {st with patterns:=st.patterns.eraseIdx i} [ac st.patterns-1] (CB B _) (by change 1<=5000;decide) L _ p (λb o _ r e=>?_) ak.ai.ai (f.same<|same.new c).is ?_ v}
 .show bd c (by rw[aI r];show e)
 .rw[ar,GA,aM au];rfl
def hB.Es(q:hB A H x p t)(O:H h=I (.aS A.kj bi<|hZ a b))(up:∀b o,b≠h->H b=I o->U b=I o):hB A U x p t:=by
 let{ae,l,n,r,ps,g,i,k,(c)}:=q
 show{ae,l,n,r,ps,up _ _ (cq g O<|by intro e;injection e with d f m;simp[jl,hZ]at m) g,up _ _ (cq i O<|nofun) i,up _ _ (cq k O ()) k,{up _ _ (cq c.a' O<|by intro e;cases e) c.a',c.len,λj y w d f=>up _ _ (cq (c.bZ j y w d f) O<|by intro e;cases e)<|c.bZ j y w d f}}
def BU(h:H a=ag):dG H a=H:=by
 funext b;by_cases z:b=a
 .rw[z,iF,h]
 .rw[dF z]
def abf:bs P w base T 9 94 ["held","numbers","texts"] (hM A og λs _ S=>eG s<|.pattern<|S.getD 0 []):=by
 show T.EH.a8.bx X7 λaG be aN s H vs Q E M h=>?_;let{h,bi,aH,cw,bc,ns,S,st,rfl,{z,bq,aY,aL,as,a5,(a)},ok,aP,an,{t,rfl,(aQ)},ak,au,C}:=h;show{_,(aT (dm<|gS T.eN T.QT (abG T) M dB (ah 0)<|aK<|mQ T.eC T.Qr (abA T).frame M dB<|aK<|dc eB (ah 2) bn λ_ _=>D)
 (aV<|bm<|eg<|aK<|eA Cx (bB T.bB d9<|aK<|a2 T.eN T.k4<|ah 0) bn)),?_}
 show{h,bi,_,D,a.ob,ajs,bc,_,_,_,D,D,aB.of an,dy (j:=0) D,λx ae b1 aJ bI=>?_};have av:aH≠x:=b3 a.a' b1;have ld:aH≠ae:=b3 a.a' aJ;have aj:a4 H (al (al H ae<|.bo x) x<|.aS A.jK ae []):=λb o f=>by rw[aI<|b3 f b1];show bd aJ f
 have aw:aO (al (al H ae<|.bo x) x<|.aS A.jK ae []):=ak.bo.aS;have ax:aO (dG (al (al H ae<|.bo x) x<|.aS A.jK ae []) aH):=λb kvs q=>aw b kvs<|pX _ _ q;show{aH,a5.map ab.ref,aj _ _ a.a',x,ae,t.map b4,D,(by rw[dF av.symm];show ar),(by rw[bt];unfold cV;omega),ax,(λp n U aC N hP l=>{D,?_}),(λL aF fD k l=>?_)};rotate_left
 .rw[Lr]at L;have K:fD≠aH:=λq=>by rw[q,ar]at l;cases l
  have ad:fD≠x:=λq=>by rw[q,ar]at k;cases k
  rw[aI ad,dF K]at k;have J:H fD=ag:=aj.none k;show{al H fD<|fQ fD [("number",.int<|-1)],.he (.ext .refl<|.inl J) (λb o e=>?_) ak,?_}
  .by_cases F:b=fD
   .subst F;rw[ar]at e;rw[aI K,ar];show e
   .rw[aI F]at e;by_cases d:b=aH
    .subst d;rw[ar];rw[a.a']at e;show e
    .rw[aI d,aI F,aI<|b3 e b1,dF d];show aj _ _ e
  .have:=C 1 (by change zD st t=_;unfold zD iV;rw[L]) 1 ⋯ ⋯;show this fD J
 rw[Lr]at n
 let{W,(X)}:=Z3 n
 have V:∀b o,b≠aH->H b=I o->U b=I o:=λb o f e=>aC b o (b3 e b1) (by rw[dF f];show aj b o e);have i:a4 H (al U aH<|.ai<|a5.map ab.ref):=λb o e=>by
  by_cases d:b=aH
  .subst d;rw[ar];rw[a.a']at e;show e
  .rw[aI d];show V b o d e
 have B:=a.same i;have Z:dG (al U aH<|.ai<|a5.map ab.ref) aH=U:=by rw[pW,BU l]
 have R:hB A (dG (al U aH<|.ai<|a5.map ab.ref) aH) x p (iT p):=by rw[Z,X,<-W];show hP
 have aq:jp p=aa:=(xz n).1;have dr:jP (st.patterns++[p]):={by rw[b0];have:=ok.c1;change _+1<=_;omega,λq c=>by
  obtain h|h:=cN.mp c
  .show ok.c'.bZ q h
  .rw[cy.mp h];show aq}
 have fm:↥(bP<|dw<|st.patterns++[p])=vV (bh st.directory<|st.patterns++[p]):=by rw[show bP (dw<|st.patterns++[p])=(bh st.directory<|st.patterns++[p]).flags from(uY _ _).2];rfl
 have r:eG st (.pattern t)=if zU<=ac st.patterns then .error 6 else if FLAGS<vV (bh st.directory<|st.patterns++[p])then .error 5 else .ok ({st with patterns:=st.patterns++[p]},[↥st.patterns]):=by change zD st t=_;unfold zD iV;rw[n]
 show{h,bi,aH,z,bq,aY,aL,x,as,a5,_,_,p,D,B,R.same pX,dr,N.ai,(λu G=>?_),(λu=>?_),(λu G=>?_)}
 .have af:↥(a5++[x])=↥(st.patterns++[p]):=by rw[b0,b0,a.len];rfl
  have v:=B.put af λj y q O Y=>by
   obtain g|g:=fs j ↥a5
   .rw[gH g]at O;rw[gH (by rw[<-a.len];show g)]at Y;show B.bZ j y q O Y
   .rw[jt g]at O;rw[jt<|by rw[<-a.len];show g,<-a.len]at Y;cases hz:j-ac a5 with
    |zero=>rw[hz]at O Y;cases O;cases Y;show R
    |succ m=>rw[hz]at O;simp at O
  show{h,bi,_,_,D,v.ob,lY,aH,_,D,.inl<|aB.of v.a',_,_,D,D,(by change 1<=bg;decide),λq c=>?_};have aA:q≠aH:=λe=>by rw[e,ar]at c;cases c
  have am:H q=ag:=i.none (by rw[aI aA]at c;show c);have ay:jO {st with patterns:=st.patterns++[p]}:={ok.dK,dr,by rw[b0];change _+1<=_;omega,G};show{_,.all,au {st with patterns:=st.patterns++[p]} [↥st.patterns] ?_ (by change 1<=5000;decide) ay _ q (λb o _ f e=>?_) N.ai.ai.ai (v.same<|same.new c).is ?_ am}
  .change eG st (.pattern t)=_;rw[r,aD<|by unfold zU;omega,aD (by rw[<-fm];unfold FLAGS;omega)]
  .show bd c (by rw[aI f];show i b o e)
  .rw[ar,bt,b0,a.len];change I (fR.ai [ab.int<|((ac st.patterns+1:Nat):Int)-1])=I (fR.ai [ab.int ((↥st.patterns:Nat):Int)]);rw[show((ac st.patterns+1:Nat):Int)-1=((↥st.patterns:Nat):Int) by omega]
 .show ej ak i<|C 6 (by change eG st (.pattern t)=_;rw[r,aM<|show zU<=_ from u]) 6 ⋯ ⋯
 .show ej ak i<|C 5 (by change eG st (.pattern t)=_;rw[r,aD<|by unfold zU;omega,aM (by rw[<-fm];unfold FLAGS;omega)]) 5 ⋯ ⋯
theorem DG(a:X.K=K)(c:aX X e bc)(b:iw e f X.am (eval e X.am)=eval e X.am<|>zzr):aX X (.Attribute e f pos) (HN K bc f):=by subst a;show ZV c b
section
variable{ca:ao}{tp:Nat->ao}(hA:EX K mg A ca tp)
include hA
def abn(T:cS K mg A):bs P w base T 7 92 ["held","numbers","texts"] (hM A og λs _ am=>eG s<|.directory<|am.getD 0 []):=by
 show T.EO.a8.bx IK λaP be aN s H vs Q E aC h=>?_;let{h,bi,aH,cw,bc,ns,am,st,rfl,{z,bq,aY,aL,as,a5,(m)},ok,aW,aF,{t,rfl,(aD)},ak,Z,aZ}:=h;show{_,(aT (K6 (i:=4) (E:=(λc od U=>∃ae f,c= .ref (A.c 8)/\od=I ae/\H ae=ag/\a4 H U/\aO U/\U ae=I (fQ ae<|cv f.line f.reason)/\jJ (t.map b4)= .error f)) D D IK.aJ D D D T.ja.e6 hA.UB hA.aiK (λ_ _ k=>(aV<|co 3<|d0 T.DY (L7 T).frame aC k<|aK<|dc (adc (K:=K) D) (ah 2) bn λ_ _=>D)) λ_=>(aV<|bm<|eg<|cW (DG (K:=K) D<|ah 4)<|DG (K:=K) D<|ah 4))
 (aT (eT T.eN T.k5 (ah 0)<|ah 3)
 (aV<|bm<|eg<|ih bn (bB T.bB d9<|aK<|a2 T.dQ T.ks<|ah 3)<|bB T.bB yr<|aK<|a2 T.dQ T.jm<|ah 3))),?_}
 have ad:aO (dG H aH):=λb kvs q=>ak b kvs<|pX _ _ q;show{{bc,_,_,_,D,D,aB.of aF,dy (j:=0) D,aH,a5.map ab.ref,m.a',t.map b4,D,(by rw[bt];show aD),ad,(λd af U n ae S J an s' aG l kg F=>?_),(λf C ae B F=>?_)},?_}
 .let{au,_}:=af4 af
  have aq:=OX af;rw[OY]at af;have R:a4 H (al U aH<|.ai<|a5.map ab.ref):=λb o e=>by
   by_cases r:b=aH
   .subst r;rw[ar];rw[m.a']at e;show e
   .rw[aI r];show s' b o (by rw[dF r];show e)
  have O:U h=I (.aS A.kj bi<|hZ (.ref z)<|.ref aH):=s' _ _ (by rw[dF m.bI];show m.ob);show{h,bi,_,D,R _ _ m.ob,(by change 2<1000;decide),?_};rw[show cs "directory" (ab.ref n) (hZ (.ref z)<|.ref aH)=hZ (.ref n) (.ref aH)from Ck];have ij:∀{b:ao} {o:fR},U b=I o->b≠aH:=λe q=>by rw[q,F]at e;cases e
  have up:∀b o,b≠h->U b=I o->dG (al (al U aH<|.ai<|a5.map ab.ref) h<|.aS A.kj bi<|hZ (.ref n)<|.ref aH) aH b=I o:=λb o L e=>by rw[dF<|ij e,aI L,aI<|ij e];show e
  have N:n≠h:=cq l.ob O (by intro q;injection q with a1 a3 aM;simp[kr,hZ]at aM);have X:S≠h:=cq l.ay O (by intro q;cases q);have M:J≠h:=cq kg O (by intro q;cases q);have G:∀b o,b≠h->U b=I o->al (al U aH<|.ai<|a5.map ab.ref) h (.aS A.kj bi<|hZ (.ref n)<|.ref aH) b=I o:=λb o L e=>by rw[aI L,aI<|ij e];show e
  show{n,ae,_,_,D,G _ _ N l.ob,k6,S,_,D,.inl<|aB.of<|G _ _ X l.ay,n,ae,_,_,D,G _ _ N l.ob,jR,J,_,D,G _ _ M kg,(by change 3<=bg;decide),λp k=>?_};have aX:p≠aH:=λq=>by rw[q,aI m.bI.symm,ar]at k;cases k
  have ax:p≠h:=λq=>by rw[q,ar]at k;cases k
  have u:H p=ag:=R.none (by rw[aI ax]at k;show k);have aw:fG A (al (al U aH<|.ai<|a5.map ab.ref) h<|.aS A.kj bi<|hZ (.ref n)<|.ref aH) h bi aH n ae S J an a5 d st.patterns:=by
   show{ar,?_,up _ _ M kg,by rw[aI m.bI.symm,ar],m.len,λj y q Y v=>?_}
   .rw[au];show{up _ _ N l.ob,up _ _ X l.ay,.inl<|up _ _ M kg,l.len,λj b g Y v=>up _ _ (cq (l.cd j b g Y v) O<|by intro q;cases q)<|l.cd j b g Y v}
   .show((m.bZ j y q Y v).same s').Es O up
  show{_,.all,Z {st with directory:=d} [0,↥d.users,↥d.groups] ?_ (by change 3<=5000;decide) {aq,ok.c',ok.c1,(ok.cv)} _ p (λb o av aQ e=>?_) aG.ai.aS.ai (aw.same<|same.new k).is ?_ u}
  .change zE st t=_;unfold zE;rw[af]
  .show bd k ?_;rw[aI av];show R b o e
  .rw[ar,dj,lD l.len];rfl
 .have W:ae≠aH:=λq=>by rw[q,ar]at F;cases F
  rw[dF W]at B;show{ae,f,D,D,B,λb o e=>?_,?_,?_,C}
  .by_cases r:b=aH
   .subst r;rw[ar];rw[m.a']at e;show e
   .rw[aI r,aI<|b3 e B,dF r];show e
  .show(ad.ext).ai
  .rw[aI W,ar]
 .rintro c od U ⟨ae,f,rfl,rfl,B,aj,a0,V,C⟩;show{A.c 8,ae,D,D,hA.Xx,λa x=>?_};show{a,A.c 8,ae,_,_,D,ar,bd x V,T.ja.cl,T.Q3,eu,?_};show{a,A.c 8,ae,_,_,D,ar,bd x V,T.ja.cl,T.Q2,qa ⋯ eu,(by change 2<=bg;decide),λp k=>?_};have aA:=(aj.new x (o:=oR a (A.c 8) ae)).new k (o:=.ai [ab.int (f.line:Nat),ab.int (f.reason:Nat)]);have u:H p=ag:=(aj.new x (o:=oR a (A.c 8) ae)).none k;rw[OY]at C;show{_,fe ak aA u ar,Z st [f.line,f.reason] ?_ (by change 2<=5000;decide) ok _ p (tY (same.new u) _ _) ak.ai (m.same<|same.new u).is ar u};change zE st t=_;unfold zE;rw[C];rfl
end
def nF{Q:dR}{h bi aH z bq aY aL:ao}{as a5:List ao}{st:qX}{out:Out}(c:fG A H h bi aH z bq aY aL as a5 st.directory st.patterns)(ok:jO st)(ak:aO H)
  (f:∀s' l,out= .ok (s',l)->ac l<=5000->jO s'->∀U p,E0 h aH H U->aO U->lU A U h bi aH s'->U p=I (.ai<|lx l)->H p=ag->Q (.ref p) U)
  {l:List Nat} {aw:aP} {p:ao} (e:out= .ok (st,l)) (d:ac l<=5000) (s:a4 H aw) (a:H p=ag) (b:aw p=I (.ai<|lx l)):nH H Q (.ref p) aw:=
 {_,fe ak s a b,f st l e d ok _ p (tY (same.new a) _ _) ak.ai (c.same<|same.new a).is ar a}
def adF n(h:ac as=ac bY):(gq (dd bY as)<|ec<|S n).isSome=(bY.map λg=>g.name).contains n:=by
 induction bY generalizing as with
 |nil=>cases as<;>rfl
 |cons g bY b=>
  cases as with
  |nil=>simp at h
  |cons a as=>
   rw[dd,cx,ni];by_cases e:g.name=n
   .rw[pF<|by rw[e],e];simp
   .have bI:¬((ec<|S g.name,ab.ref a):d'×ab).1=ec (S n):=λq=>e<|k1<|v3 q;rw[ml bI,b (by grind)];have:(n==g.name)=ap:=by rw[k9];show λq=>e q.symm
    rw[this,tD]
def Iw{l:List aE}(h:∀n∈l,bz n=aa):l.contains (t.map b4)=l.contains t/\(l.contains t=aa->t.map b4=t):=by
 have key:∀n∈l,(t.map b4=n↔t=n):=λn a=>afM<|h n a;show{?_,λq=>?_}
 .grind
 grind
def HA(h:ac l<=12)(a:∀t∈l,ac t<=12):↥(FF l)<=5000:=by
 have:=oD (f:=toldText) (n:=13) λt b=>by have:=a t b;simp[toldText];omega
 unfold FF;rw[cz];omega
def nt(f:dN->Bool)(l:List dN) j:=((l.take j).zipIdx.filter λz=>f z.1).map λz=>z.2
def Mk f l:nt f l (ac l)=sT f l:=by unfold nt sT;simp
def abU f(h:l[j]? =I p):nt f l (j+1)=if f p=aa then nt f l j++[j]else nt f l j:=by
 have b:=(ee.mp h).1;unfold nt;rw[j2,h,List.zipIdx_append,List.filter_append,g8,tl ∅];cases a:f p with
 |true=>simp[a]
 |false=>simp[a]
def Mj f l j:↥(nt f l j)<=ac l:=by unfold nt;rw[bt];show b5 (Gz _ _) ?_;rw[List.length_zipIdx,g8];omega
def abi:bs P w base T 4 97 ["held","numbers","texts"] (hM A og λs _ p=>eG s<|.members<|p.getD 0 []):=by
 show T.EJ.a8.bx X9 λJ be aN s H vs Q E d h=>?_;let{h,bi,aH,cw,bc,ns,p,st,rfl,{z,bq,aY,aL,as,a5,(a)},ok,K,m,{t,rfl,(L)},ak,B,C}:=h;show{_,(aT (dA (kP<|xx (by show f7 d) (dc eB (ah 2) bn λ_ _=>D)<|a2 T.dQ T.jm<|a2 T.eN T.k5<|ah 0) (aV<|oj T.sh.iK (Mb T) (d.mono ⋯) D T.sh.e6 T.E2.b) dJ)
 (aV<|bm<|bQ T.EB (L' T) d<|aK<|gS T.dQ T.QW (abH T) d cH (a2 T.eN T.k5<|ah 0)<|aK<|dc eB (ah 2) bn λ_ _=>D)),?_}
 have F:= @nF A H Q h bi aH z bq aY aL as a5 st _ a ok ak B
 let{g1,(g2)}:=Iw (t:=t) (l:=st.directory.groups.map λg=>g.name) (λn v=>by let{g,r,(rfl)}:=ct.mp v;show ok.dK.uS g r)
 have f:(st.directory.groups.any λx=>x.name==t)=(st.directory.groups.map λg=>g.name).contains t:=by rw[List.contains_eq_any_beq,GJ];congr 1;funext x;change(x.name==t)=(t==x.name);rw[ey,ei,ei];show{ty,(ty)}
 show{bc,_,_,_,D,D,aB.of m,dy (j:=0) D,h,bi,_,_,D,a.ob,lZ,z,bq,_,_,D,a.dK.ob,jR,aL,_,D,.inl {_,ec<|S<|t.map b4,.inl a.kg,D,D},_,D,?_};rw[adF _ a.dK.len,g1];cases c:(st.directory.groups.map λg=>g.name).contains t with
 |false=>show mz ak ak same<|C 3 (by change(if(st.directory.groups.any λx=>x.name==t)=aa then _ else _)=_;rw[f,c];rfl) 4 ⋯ ⋯
 |true=>have q:=g2 c;show{h,bi,_,_,D,a.ob,lZ,z,bq,_,D,a.dK.ob,ajt,bc,_,_,_,D,D,aB.of m,dy (j:=0) D,z,bq,aY,aL,as,_,_,t.map b4,D,a.dK,ok.dK.c1,(by have:=ok.dK.kF;unfold cC;omega),(by rw[g1];show c),ak,λG y=>?_};rw[q];have k:(st.directory.users.filter<|hk st.directory t).Sublist st.directory.users:=Ah;have cX:=b5 k.length_le ok.dK.kF;have d8:∀u∈st.directory.users.filter (hk st.directory t),ac u<=12:=λu e=>jD<|ok.dK.kE u<|k.subset e;show{G,_,D,ar,∅,λu e=>by have:=d8 u e;omega,ak.ai,λcQ i=>?_};have aj:=same.new y (H:=H) (o:=.ai<|aG<|st.directory.users.filter<|hk st.directory t);show F (by change(if(st.directory.groups.any λx=>x.name==t)=aa then _ else _)=_;rw[f,c];rfl) (HA cX d8) (aj.new i) (aj.none i) ar
def abj:bs P w base T 4 98 ["held","numbers","texts"] (hM A og λs _ n=>eG s<|.groups<|n.getD 0 []):=by
 show T.EK.a8.bx X' λy be aN s H vs Q E d h=>?_;let{h,bi,aH,cw,bc,ns,n,st,rfl,{z,bq,aY,aL,as,a5,(a)},ok,B,m,{t,rfl,(C)},ak,r,v}:=h;show{_,(aT (dA (ez LN (dc eB (ah 2) bn λ_ _=>D) (a2 T.dQ T.ks<|a2 T.eN T.k5<|ah 0)<|by with_unfolding_all rfl) (aV<|oj T.sh.iK (Mb T) (d.mono ⋯) D T.sh.e6 T.E2.b) dJ)
 (aV<|bm<|bQ T.EB (L' T) d<|aK<|gS T.dQ T.QZ (abK T) d cH (a2 T.eN T.k5<|ah 0)<|aK<|dc eB (ah 2) bn λ_ _=>D)),?_}
 have F:= @nF A H Q h bi aH z bq aY aL as a5 st _ a ok ak r
 let{g1,(g2)}:=Iw (t:=t) (l:=st.directory.users) ok.dK.kE
 show{bc,_,_,_,D,D,aB.of m,dy (j:=0) D,h,bi,_,_,D,a.ob,lZ,z,bq,_,_,D,a.dK.ob,k6,aY,_,D,.inl<|aB.of a.dK.ay,D,pI _,_,D,?_};rw[show(if aa=aa then !im (ab.str<|S<|t.map b4) (aG st.directory.users)else im (ab.str<|S<|t.map b4) (aG st.directory.users))= !(st.directory.users.contains<|t.map b4) by rw[aM D,qd],g1];cases c:st.directory.users.contains t with
 |false=>show mz ak ak same<|v 3 (by change(if st.directory.users.contains t=aa then _ else _)=_;rw[c];rfl) 4 ⋯ ⋯
 |true=>
  have f:=g2 c;show{h,bi,_,_,D,a.ob,lZ,z,bq,_,D,a.dK.ob,ajv,bc,_,_,_,D,D,aB.of m,dy (j:=0) D,z,bq,aY,aL,as,_,_,t.map b4,D,a.dK,a.kg,ok.dK.c1,(by rw[f];show ex.mp c),ak,λx q=>?_};rw[f];have k:((st.directory.groups.map λg=>g.name).filter λg=>hk st.directory g t).Sublist (st.directory.groups.map λg=>g.name):=Ah;have cX:=k.length_le;rw[bt]at cX;have hW:=ok.dK.r8;have d8:∀u∈(st.directory.groups.map λg=>g.name).filter λg=>hk st.directory g t,ac u<=12:=λu e=>by let{g,p,(rfl)}:=ct.mp<|k.subset e;show jD<|ok.dK.uS g p
  show{x,_,D,ar,b5 cX ∅,λu e=>by have:=d8 u e;omega,ak.ai,λcQ i=>?_};have aj:=same.new q (H:=H) (o:=.ai<|aG<|(st.directory.groups.map λg=>g.name).filter λg=>hk st.directory g t);show F (by change(if st.directory.users.contains t=aa then _ else _)=_;rw[c];rfl) (HA (b5 cX ∅) d8) (aj.new i) (aj.none i) ar
def abl:bs P w base T 7 99 ["held","numbers","texts"] (hM A Xk λs ns K=>eG s<|.fits (ns.getD 0 0)<|K.getD 0 []):=by
 show T.EM.a8.bx Bu λad be aN s H vs Q E c h=>?_;let{h,bi,aH,cw,bc,ns,K,st,rfl,{z,bq,aY,aL,as,a5,(a)},ok,R,S,{g,t,rfl,rfl,(af)},ak,U,G}:=h;show{_,(aT (co 3<|gS T.eN T.y1 (CI T) c dB (ah 0)<|aK<|dc eB (ah 1) bn λ_ _=>D)
 (aT (co 4<|d0 T.ry (uu T) c dB<|aK<|dc eB (ah 2) bn λ_ _=>D)
 (aT (co 5<|bQ T.DO (L5 T) c<|ih (ah 3) (ah 4)<|a2 T.eN T.k5<|ah 0)
 (aV<|bm<|f0 D Bu.aJ (fN<|eA lw (eg<|aK<|ir T.ir (oK D)<|aK<|ah 5)<|ah 5) (bo:=[("so",6)]) (fn (N:=MT) (b7:=a6 BN) ⋯) (λ_ _ _ _ _=>(c3 (i:=6) Bu.aJ D<|ce D)) (λ_ _ _ _ _=>gu) λ_ _ _ _ _=>(rH (gN<|ah 6) bn bn))))),?_}
 have F:= @nF A H Q h bi aH z bq aY aL as a5 st _ a ok ak U;have d:eG st (.fits g t)=vU st g λp=>iV (iS t) 1 λr=>tell st [one<|m' st.directory p r,one<|vP st.directory r.user p.who,one<|s0 p r.action,one<|sS p r.path,one<|qI p r.flags,one<|sN p r.time]:=D;show{h,bi,_,D,a.ob,E5,cw,_,_,_,D,D,aB.of R,dy (j:=0) D,h,bi,aH,z,bq,aY,aL,as,a5,_,_,g,D,a,b5 ok.c1 ⋯,ak,(λi x e C=>?_),(λf=>ej ak same<|G 2 (by change eG st (.fits g t)=_;rw[d,CC f]) 2 ⋯ ⋯)};subst e;have au:i<ac st.patterns:=by rw[<-a.len];show(ee.mp C).1
 have m:=cA au;have hP:=a.c'.bZ i x _ C m;have n:=(fl _).mp<|ok.c'.bZ _<|d5 m;rw[CB m]at d;generalize st.patterns[i]=p at hP n d;show{bc,_,_,_,D,D,aB.of S,dy (j:=0) D,t.map b4,D,(by rw[bt];unfold cV;omega),ak,(λr c an y aj V W=>?_),(λf=>?_)};rotate_left
 .rw[my]at f;show ej ak same<|G 1 (by change eG st (.fits (i:Int) t)=_;rw[d,f];rfl) 1 ⋯ ⋯
 rw[my]at c
 let{al,am,av,aw,ax,ay,aC,(aD)}:=(kV r).mp (pY c).1
 show{h,bi,_,_,D,aj _ _ a.ob,lZ,x,y,z,bq,aY,aL,as,p,r,_,_,_,D,hP.same aj,W,a.dK.same aj,ok.dK.c1,by have:=n.2.2.1.2;omega,∅,by have:=n.2.2.2.1.2.2;omega,V,λq O=>?_};have aA:=aj.new O (o:=.ai<|(nC st.directory p r).map ab.a1);show{q,_,D,aB.of ar,(by change 1<=bg;decide),λL v=>{L,q,_,_,D,D,ar,bd v ar,(by change 1+5<=bg;decide),λM B=>?_}};rw[Od]at B⊢;have J:=(aA.new v (o:=.ai [ab.a1<|fits st.directory p r])).new B (o:=.ai<|[ab.a1<|fits st.directory p r]++(nC st.directory p r).map ab.a1);show{M,D,{_,aB.of ar},λaq k=>hv (fits st.directory p r::nC st.directory p r) ab.a1 (λb=>I<|.int (one b:Nat)) (aB.of ar) k (by change 6<=bg;decide) (λi b acc ae Y Z u _=>{D,_,D,?_}) ?_}
 .cases b with
  |true=>show u _ D
  |false=>show u _ D
 rw[i4];have X:=J.new k (o:=.ai<|(fits st.directory p r::nC st.directory p r).map λb=>ab.int (one b:Nat));show F (l:=[one<|m' st.directory p r,one<|vP st.directory r.user p.who,one<|s0 p r.action,one<|sS p r.path,one<|qI p r.flags,one<|sN p r.time]) ?_ (by change 6<=5000;decide) X (J.none k) (by rw[ar];rfl);change eG st (.fits (i:Int) t)=_;rw[d,c];rfl
def aba:bs P w base T 7 100 ["held","numbers","texts"] (hM A og λs _ U=>eG s<|.which<|U.getD 0 []):=by
 show T.EC.a8.bx tX λal be aN s H vs Q E d h=>?_;let{h,bi,aH,cw,bc,ns,U,st,rfl,{z,bq,aY,aL,as,a5,(a)},ok,am,W,{t,rfl,(au)},ak,X,Y}:=h;show{_,(aT (xp (i:=3) tX.aJ D (nb D)<|d0 T.ry (uu T) d dB<|aK<|dc eB (ah 2) bn λ_ _=>D)
 (aT (t9 (i:=4) D tX.aJ D D (tQ D D D D) (Lk D T.vj<|aK<|a2 T.eN T.k4<|ah 0) (bo:=[("k",5),("pattern",6)]) (fn (N:=MS) (b7:=a6 BM) ⋯) (λ_ _ _ _ _=>(Ll (K:=K) 2 D D<|kT (c3 (i:=5) tX.aJ D (ce D)<|nb D)<|kT (c3 (i:=6) tX.aJ D (ce D)<|nb D) rF)) (λ_ _ _ _ _=>(p0<|gN<|bQ T.OU (aa6 T) d<|ih (ah 6) (ah 3)<|a2 T.eN T.k5<|ah 0)) λ_ _ _ _ _=>(ah 5))
 (aV<|bm<|eA lw (eg<|aK<|bB T.bB d9<|aK<|ah 4)<|ah 4))),?_}
 have F:= @nF A H Q h bi aH z bq aY aL as a5 st _ a ok ak X;show{bc,_,_,_,D,D,aB.of W,dy (j:=0) D,t.map b4,D,(by rw[bt];unfold cV;omega),ak,(λr d an y aj Z ae=>?_),(λM=>?_)};rotate_left
 .rw[my]at M;show ej ak same<|Y 1 (by change iV (iS t) _ _=_;rw[M];rfl) 1 ⋯ ⋯
 rw[my]at d
 let{av,ay,aC,aF,aG,aP,aQ,(aS)}:=(kV r).mp (pY d).1
 have V:=ok.c1;show{h,bi,_,_,D,aj _ _ a.ob,lY,aH,_,D,aB.of<|aj _ _ a.a',λaq C=>nv (n:=↥st.patterns) (λj aw=>a4 an aw/\aO aw/\aw aq=I (.ai<|ef<|nt (λp=>m' st.directory p r) st.patterns j)) {same.new C,Z.ai,ar} ?_ ?_ ?_ ?_}
 .rintro j aw g ⟨aA,_⟩;show{_,_,aB.of<|aA _ _<|aj _ _ a.a',by rw[cO,cA (by rw[a.len];show g)];rfl}
 .rintro aw ⟨aA,_⟩;show{_,aB.of<|aA _ _<|aj _ _ a.a',by rw[bt,a.len];show bA _}
 .rintro j v aw af g ⟨aA,m,c⟩ ⟨T,x,rfl,f,rfl,ax⟩;have u:=ax _<|aB.of<|aA _ _<|aj _ _ a.a';rw[cO]at u;have L:j<ac a5:=by rw[a.len];show g
  rw[cA L]at u;cases u;have q:=cA g;have hP:=a.c'.bZ j _ _ (cA L) q;have S:=(fl _).mp<|ok.c'.bZ _<|d5 q;have e:=(aj.trans aA).new f (o:=.aZ [.int (j:Nat),ab.ref a5[j]]);have B:=aA.new f (o:=.aZ [.int (j:Nat),ab.ref a5[j]]);show{T,_,D,d1.of ar,D,_,_,D,_,_,D,D,D,h,bi,_,_,D,e _ _ a.ob,lZ,a5[j],y,z,bq,aY,aL,as,_,r,_,_,_,D,hP.same e,ae.same B,a.dK.same e,ok.dK.c1,by have:=S.2.2.1.2;omega,∅,by have:=S.2.2.2.1.2.2;omega,m.aZ,_,D,?_};have hlen:=Mj (λp=>m' st.directory p r) st.patterns j;have k:=abU (λp=>m' st.directory p r) q;cases J:m' st.directory st.patterns[j] r with
  |true=>
   rw[J,aM D]at k;show{_,bd f c,by rw[mq,cc];omega,?_,m.aZ.ai,?_}
   .intro b o G;rw[aI<|b3 G C];show B b o G
   .rw[ar,k];unfold ef;rw[dX];rfl
  |false=>rw[J,aD ⋯]at k;show{B,m.aZ,by rw[k];show bd f c}
 rintro aw ⟨aA,m,c⟩;rw[Mk]at c;have hlen:↥(sT (λp=>m' st.directory p r) st.patterns)<=20:=by rw[<-Mk];show b5 (Mj _ _ _) V
 show{aq,_,D,.inl<|aB.of c,(by change 1<=bg;decide),λad O=>{ad,aq,_,_,D,D,ar,bd O c,(by rw[mq,cc];change 1+_<=_;omega),λcQ R=>?_}};have e:=((aj.trans aA).new O (o:=.ai [ab.int ((↥(ef<|sT (λp=>m' st.directory p r) st.patterns):Nat):Int)]));show F (l:=↥(sT (λp=>m' st.directory p r) st.patterns)::sT (λp=>m' st.directory p r) st.patterns) ?_ (by rw[cz];omega) (e.new R) (e.none R) (by rw[ar,mq];rfl);change iV (iS t) _ _=_;rw[d];rfl
def abe:bs P w base T 8 101 ["held","numbers","texts"] (hM A og λs _ o=>eG s<|.rep<|o.getD 0 []):=by
 show T.EG.a8.bx X6 λV be aN s H vs Q E b h=>?_;let{h,bi,aH,cw,bc,ns,o,st,rfl,{z,bq,aY,aL,as,a5,(d)},ok,W,v,{t,rfl,(X)},ak,B,C}:=h;show{_,(aT (co 3<|d0 T.ry (uu T) b dB<|aK<|dc eB (ah 2) bn λ_ _=>D)
 (aV<|bm<|bQ T.qr (rO T) b<|aK<|bQ T.AY (LW T) b<|aK<|bQ T.Ky (aaL T) b<|cW (ah 3)<|fV T.eN T.y0 (CH T) b cH<|ah 0)),?_}
 have F:= @nF A H Q h bi aH z bq aY aL as a5 st _ d ok ak B;show{bc,_,_,_,D,D,aB.of v,dy (j:=0) D,t.map b4,D,(by rw[bt];unfold cV;omega),ak,(λr b an y aj J M=>?_),(λe=>?_)};rotate_left
 .rw[my]at e;show ej ak same<|C 1 (by change iV (iS t) _ _=_;rw[e];rfl) 1 ⋯ ⋯
 rw[my]at b;have i:=(pY b).1;show{h,bi,_,D,aj _ _ d.ob,E4,h,bi,aH,z,bq,aY,aL,as,a5,_,_,D,d.same aj,ok.dK,ok.c',ok.c1,J,λaw x ae u a n f eK L R aA K c=>?_};have G:=Bw ok c.up c.mem;show{y,x,ae,u,a,n,f,eK,L,R,_,_,r,D,M.same aA,c,i,ok,K,λU S O l N=>?_};have k:=Zc G.ok i;have q:=Kx k;show{S,_,D,N,k,l,_,D,b5 q<|by unfold cV;omega,l,λp g=>?_};have m:=(aj.trans aA).trans O;show F (by change iV (iS t) _ _=_;rw[b];rfl) (by simp[toldText];omega) (m.new g) (m.none g) ar
def abo:bs P w base T 8 102 ["held","numbers","texts"] (hM A Bf λs _ _=>eG s .count):=by
 show T.EP.a8.bx Yc λK be aN s H vs Q E g h=>?_;let{h,bi,aH,cw,bc,ns,V,st,rfl,{z,bq,aY,aL,as,a5,(d)},ok,L,N,M,ak,y,O}:=h;show{_,(aT (co 3<|bQ T.D5 (L8 T) g<|aK<|fV T.eN T.y0 (CH T) g cH<|ah 0)
 (aV<|bm<|eA lw (eg<|aK<|bQ T.uc (xI T) g<|aK<|ah 3)<|ah 3)),?_}
 have F:= @nF A H Q h bi aH z bq aY aL as a5 st _ d ok ak y;show{h,bi,_,D,d.ob,E4,h,bi,aH,z,bq,aY,aL,as,a5,_,_,D,d,ok.dK,ok.c',ok.c1,ak,λaw x ae u a n f eK B q aA k b=>?_};have G:=Bw ok b.up b.mem;have bV:=AU b.up b.mem ok.c1;show{x,ae,u,a,n,f,eK,B,q,_,_,D,b,ok,k,λp v=>?_};have t:[2*↥(d7 st.patterns),↥(bP<|st.directory.users++eb st.patterns)+1,↥(bP<|ew st.patterns)+1,2^↥(bP<|dw st.patterns),↥q]=
   [2*(eR st).nodes.length,(eR st).users.length+1,(eR st).actions.length+1,2^(eR st).flags.length,(eR st).times.length]:=by
  change _=[2*(bh st.directory st.patterns).nodes.length,(bh st.directory st.patterns).users.length+1,(bh st.directory st.patterns).actions.length+1,2^(bh st.directory st.patterns).flags.length,(bh st.directory st.patterns).times.length];rw[G.No,G.Np,G.fm,G.io,<-G.e4,bt]
 rw[t];have S:2^(eR st).flags.length<=2^16:=v' ⋯ G.ok.cv;have U:(eR st).times.length<=41:=by change(bh st.directory st.patterns).times.length<=41;rw[<-G.io];show bV
 have cX:(eR st).users.length<=1000000:=G.ok.ay;have d8:(eR st).actions.length<=1000000:=G.ok.nG;have R:(eR st).nodes.length<=1000000:=G.ok.ij;have bZ:∀c∈[2*(eR st).nodes.length,(eR st).users.length+1,(eR st).actions.length+1,2^(eR st).flags.length,(eR st).times.length],c<=10000000:=λc i=>by simp only[bK,h6,h0]at i;obtain h|h|h|h|h:=i<;>(rw[h];omega)
 have r:([2*(eR st).nodes.length,(eR st).users.length+1,(eR st).actions.length+1,2^(eR st).flags.length,(eR st).times.length]).foldl (·* ·) 1=hl (eR st):=D6 _;have J:=aA.new v (o:=.ai<|ef [2*(eR st).nodes.length,(eR st).users.length+1,(eR st).actions.length+1,2^(eR st).flags.length,(eR st).times.length]);show{p,_,D,aB.of ar,by change 5<=1000;decide,bZ,k.ai,(by change 1<=bg;decide),λC j=>{C,p,_,_,D,D,ar,bd j ar,(by change 1+5<=bg;decide),λcQ e=>?_}};rw[r]at e⊢;have m:=J.new j (o:=.ai [ab.int ((hl (eR st):Nat):Int)]);show F (l:=[hl<|eR st,2*(eR st).nodes.length,(eR st).users.length+1,(eR st).actions.length+1,2^vV (eR st),(eR st).times.length]) D (by change 6<=5000;decide) (m.new e) (m.none e) (by rw[ar];rfl)
def abg:bs P w base T 8 103 ["held","numbers","texts"] (hM A Be λs ns _=>eG s<|.nth<|ns.getD 0 0):=by
 show T.EI.a8.bx X8 λO be aN s H vs Q E c h=>?_;let{h,bi,aH,cw,bc,ns,U,st,rfl,{z,bq,aY,aL,as,a5,(i)},ok,y,S,{b,(rfl)},ak,B,m}:=h;show{_,(aV<|bm<|bQ T.qr (rO T) c<|aK<|bQ T.AY (LW T) c<|aK<|d0 T.Kz (aaM T) c dB<|cW (dc eB (ah 1) bn λ_ _=>D)<|fV T.eN T.y0 (CH T) c cH<|ah 0),?_};have F:= @nF A H Q h bi aH z bq aY aL as a5 st _ i ok ak B;show{cw,_,_,_,D,D,aB.of y,dy (j:=0) D,h,bi,_,D,i.ob,E4,h,bi,aH,z,bq,aY,aL,as,a5,_,_,D,i,ok.dK,ok.c',ok.c1,ak,λaw x ae u a n f eK G L aA C t=>?_};have d:eG st (.nth b)=if tB<hl (bh st.directory st.patterns)then .error 7 else if b<0 then .error 2 else iV (qL<|bh st.directory st.patterns)[b.toNat]? 2 λr=>tell st (toldText<|l4 r):=D
 show{b,x,ae,u,a,n,f,eK,G,L,_,_,D,t,ok,C,(λg=>?_),(λg R=>?_),(λg e r c l N M K o J=>?_)}
 .show ej ak aA<|m 7 (by change eG st (.nth b)=_;rw[d,aM<|show tB<_ from g]) 7 ⋯ ⋯
 .show ej ak aA<|m 2 ?_ 3 ⋯ ⋯;change eG st (.nth b)=_;rw[d,aD<|show ¬tB<_ by unfold tB;omega];by_cases e:b<0
  .rw[aM e]
  .rw[aD e,nh (by rw[Za];omega)];rfl
 .have v:=Kx l;show{M,r,D,J,l,o,_,D,b5 v<|by unfold cV;omega,o,λp k=>?_};have q:=aA.trans K;show F ?_ (by simp[toldText];omega) (q.new k) (q.none k) ar;change eG st (.nth b)=_;rw[d,aD<|show ¬tB<_ by unfold tB;omega,aD ∅,c];rfl
def abp:bs P w base T 7 104 ["held","numbers","texts"] (hM A Xj λs _ k=>eG s<|.before (k.getD 0 [])<|k.getD 1 []):=by
 show T.EQ.a8.bx Yd λZ be aN s H vs Q E a h=>?_;let{h,bi,aH,cw,bc,ns,k,st,rfl,{z,bq,aY,aL,as,a5,(L)},ok,ad,v,{t,t',rfl,ae,(af)},ak,N,B}:=h;show{_,(aT (co 3<|bQ T.B0 (LX T) a<|aK<|d0 T.ry (uu T) a dB<|aK<|dc eB (ah 2) bn λ_ _=>D)
 (aT (co 4<|bQ T.B0 (LX T) a<|aK<|d0 T.ry (uu T) a dB<|aK<|dc eB (ah 2) bn λ_ _=>D)
 (aT (dA (ez (Cz<|by show uQ a) (ah 3) (ah 4)<|cR _) (aV<|bm<|eg<|aK bn) dJ)
 (aV<|bm<|eg<|aK<|rH (ez (LQ<|by show uQ a) (ah 3) (ah 4)<|cR _) bn bn)))),?_}
 have F:= @nF A H Q h bi aH z bq aY aL as a5 st _ L ok ak N;have f:eG st (.before t t')=iV (iS t) 1 λx=>iV (iS t') 1 λy=>tell st [orderNumber<|nP x y]:=D;show{bc,_,_,_,D,D,aB.of v,dy (j:=0) D,t.map b4,D,(by rw[bt];unfold cV;omega),ak,(λr a an y aj R V=>?_),(λd=>?_)};rotate_left
 .rw[my]at d;show ej ak same<|B 1 (by change eG st (.before t t')=_;rw[f,d];rfl) 1 ⋯ ⋯
 rw[my]at a;show{y,r,D,V,(pY a).1,R,λaw aq aA S K _=>?_};have i:=aj.trans aA;show{bc,_,_,_,D,D,aB.of<|i _ _ v,dy (j:=1) D,t'.map b4,D,(by rw[bt];unfold cV;omega),S,(λc g Y X C U W=>?_),(λd=>?_)};rotate_left
 .rw[my]at d;show ej ak i<|B 1 (by change eG st (.before t t')=_;rw[f,a];change iV (iS t') _ _=_;rw[d];rfl) 1 ⋯ ⋯
 rw[my]at g;show{X,c,D,W,(pY g).1,U,λm cQ G am o _=>?_};have J:=(i.trans C).trans G;have q:=dS.same (C.trans G) K;have fin:∀(p:ao),m p=ag->∀n,orderNumber (nP r c)=n->nH H Q (.ref p) (al m p<|.ai [ab.int ((n:Nat):Int)]):=λp b n M=>by show F (l:=[n]) ?_ (by change 1<=5000;decide) (J.new b) (J.none b) ar;change eG st (.before t t')=_;rw[f,a,<-M];change iV (iS t') _ _=_;rw[g];rfl
 show{_,_,q,o,w9 r,w9 c,_,D,?_};rw[afL];by_cases e:nP r c= .same
 .rw[cn e];show{by change 1<=bg;decide,λp b=>fin p b 0<|by rw[e];rfl}
 rw[ck e];show{_,_,q,o,acI r c,w9 r,w9 c,_,D,?_};rw[acA];by_cases O:nP r c= .first
 .rw[cn O];show{by change 1<=bg;decide,λp b=>fin p b 1<|by rw[O];rfl}
 .rw[ck O];show{by change 1<=bg;decide,λp b=>fin p b 2 ?_};cases u:nP r c with
  |same=>show absurd u e
  |first=>show absurd u O
  |second=>rfl
def abk:bs P w base T 6 105 ["held","numbers","texts"] (hM A og λs _ e=>eG s<|.fresh<|e.getD 0 []):=by
 show T.EL.a8.bx Ya λq be aN s H vs Q E b h=>?_;let{h,bi,aH,cw,bc,ns,e,st,rfl,{z,bq,aY,aL,as,a5,(f)},ok,u,i,{t,rfl,(v)},ak,k,m}:=h;show{_,(aV<|bm<|bQ T.qr (rO T) b<|aK<|bQ T.uG (xJ T) b<|aK<|d0 T.MA (aaS T) b dB<|aK<|dc eB (ah 2) bn λ_ _=>D),?_};have F:= @nF A H Q h bi aH z bq aY aL as a5 st _ f ok ak k;show{bc,_,_,_,D,D,aB.of i,dy (j:=0) D,t.map b4,D,(by rw[bt];unfold cV;omega),ak,(λl a n g=>?_),(λc=>?_)};rotate_left
 .rw[MB]at c;show ej ak same<|m 1 (by change iV (s1 t) _ _=_;rw[c];rfl) 1 ⋯ ⋯
 rw[MB]at a;have sl:dL l:=by
  unfold s1 at a;split at a
  .cases a;show{cI _,()}
  .split at a
   .cases a;show pT (by unfold cV;omega)
   .cases a
 have r:=jD (oB (used:=l)<|b5 sl.len<|by unfold cC;omega);have aj:=same.new g (H:=H) (o:=.ai<|aG l);show{n,l,D,ar,sl,ak.ai,_,D,by unfold cV;omega,ak.ai,λp d=>?_};show F (by change iV (s1 t) _ _=_;rw[a];rfl) (by simp[toldText];omega) (aj.new d) (aj.none d) ar
def dZ ca(i:Nat):=oX (.ref ca)<|.int i
def Wj(A:bf):bC:=λvs H Q _=>∃(x ae:ao) (ca:ao),vs=[.ref x,.ref ca]/\H x=I (.aS A.eD ae [])/\Q .bT (al H x<|.aS A.eD ae<|dZ ca 0)
def abO:bs P w base T 1 107 ["self","calls"] (Wj A):=by
 show T.Q8.a8.bx YK λb be aN s H vs Q E c h=>?_;let{x,ae,ca,rfl,a,(k)}:=h;show{_,(aT (eT T.ip T.zc (ah 0)<|ah 1)
 (aV<|eT T.ip T.qF (ah 0) bn)),{x,ae,[],D,a,⋯,{x,ae,_,D,ar,(by change 1<1000;decide),{_,.all,?_}}}}
 rw[ho];show k
def WQ(K:bR)(A:bf):bC:=λvs H Q _=>∃(x ae ca:ao) (i:Nat) (xs:List ab),vs=[.ref x]/\H x=I (.aS A.eD ae<|dZ ca i)/\aB K H ca xs/\aO H/\Q (.a1<|decide (ac xs<=i)) H
def abN:bs P w base T 1 108 ["self"] (WQ K A):=by show T.Q7.a8.bx YJ λc be aN s H vs Q E d h=>?_;let{x,ae,ca,i,xs,rfl,a,b,ak,(k)}:=h;show{_,(aV<|bm<|e2 ou (a2 T.ip T.qF<|ah 0) (bB T.bB d9<|aK<|a2 T.ip T.zc<|ah 0)<|cR _),{x,ae,_,_,D,a,sE,x,ae,_,_,D,a,Fl,ca,_,D,.inl b,_,_,D,D,H,b8 ak same,?_}};change Q (.a1<|decide ((↥xs:Nat)<=((i:Nat):Int))) H;rw[show decide ((↥xs:Int)<=i)=decide (ac xs<=i)from by simp];show k
def Wt(K:bR)(A:bf):bC:=λvs H Q _=>∃(x ae ca:ao) (i:Nat) (xs:List ab) (v:ab),vs=[.ref x]/\H x=I (.aS A.eD ae<|dZ ca i)/\aB K H ca xs/\xs[i]? =I v/\aO H/\Q v (al H x<|.aS A.eD ae<|dZ ca<|i+1)
def CJ:bs P w base T 1 109 ["self"] (Wt K A):=by
 show T.zb.a8.bx YI λd be aN s H vs Q E f h=>?_;let{x,ae,ca,i,xs,v,rfl,a,b,c,ak,(k)}:=h;show{_,(aT (co 1<|dc eB (a2 T.ip T.zc<|ah 0) (a2 T.ip T.qF<|ah 0) λ_ _=>D)
 (aT (ES T.ip T.qF (ah 0) bn Dw)
 (aV<|bm<|ah 1))),{x,ae,_,_,D,a,Fl,x,ae,_,_,D,a,sE,ca,_,_,_,D,D,b,dy c,{x,ae,_,_,D,a,sE,_,_,D,D,ae,_,a,(by change 2<1000;decide),_,.all,?_}}}
 have e:cs "place" (ab.int<|i+1) (dZ ca i)=dZ ca (i+1):=Qu;show e▸k
def ah7(xs:List ab){m:Nat}(h:n<=ac xs):lJ xs (I m) (I n)=(xs.drop m).take (n-m):=by
 unfold lJ;rw[HT.rv,HT.rv,tl h];by_cases q:m<=ac xs
 .rw[tl q]
 .rw[mc ∅,mc ∅];simp
def VN(b:aB K H ca xs)(a:H x=I (.aS C ae aF)):aB K (al H x o) ca xs:=by
 obtain(q|⟨ob,q⟩)|q:=b
 .show .inl<|.inl<|aI (cq q a<|nofun)▸q
 .show .inl<|.inr {ob,aI (cq q a ())▸q}
 .show .inr q
def nl(x:List Int):(aE):=x.map λb=>gF b.toNat
def UC(h:∀z∈x,0<=z/\z<256):Er (nl x)=x.map ab.int:=by
 unfold Er nl;rw[dh];show pr λz hz=>?_
 let{O,(Y)}:=h z hz
 change ab.int (gF z.toNat).toNat=ab.int z;have:(gF z.toNat).toNat=z.toNat:=by simp;omega
 congr 1;omega
def Hw x:↥(nl x)=ac x:=bt _
def V9(K:bR)(A:bf):bC:=λvs H Q _=>∃(x ae ca:ao) (i:Nat) (l r rest:List Int),vs=[.ref x]/\H x=I (.aS A.eD ae<|dZ ca i)/\aB K H ca (l.map ab.int)/\ac l<=100000/\tf (l.drop i)=I (r,rest)/\(∀z∈r,0<=z/\z<256)/\ac r<=8000/\aO H/\Q (.str<|S<|(nl r).map b4) (al H x<|.aS A.eD ae<|dZ ca<|i+1+ac r)
def abM:bs P w base T 3 110 ["self"] (V9 K A):=by
 show T.Q6.a8.bx YH λJ be aN s H vs Q E p h=>?_;let{x,ae,ca,i,l,r,rest,rfl,d,m,N,G,B,M,ak,(k)}:=h;show{_,(aT (co 1<|fV T.ip T.zb (CJ T) p cH<|ah 0)
 (aT (co 2<|hR kL (a2 T.ip T.zc<|ah 0) (hc<|a2 T.ip T.qF<|ah 0)<|hc<|eA mB (a2 T.ip T.qF<|ah 0)<|ah 1)
 (aT (ES T.ip T.qF (ah 0) (ah 1) Dw)
 (aV<|bm<|bQ T.HI (aaI T) p<|aK<|ah 2)))),?_}
 let{n,u,v,y,L,(z)}:=BS G
 show{x,ae,_,D,d,E7,x,ae,ca,i,_,ab.int (n:Nat),D,d,m,by rw[cO,u];rfl,ak,?_};have g:al H x (.aS A.eD ae<|dZ ca<|i+1) x=I (.aS A.eD ae<|dZ ca<|i+1):=ar;have C:=VN m d (o:=.aS A.eD ae<|dZ ca<|i+1);show{x,ae,_,_,D,g,Fl,x,ae,_,_,D,g,sE,_,D,x,ae,_,_,D,g,sE,_,_,D,D,_,D,ca,_,D,C,λq c=>?_};rw[show((i+1:Nat):Int)+((n:Nat):Int)=((i+1+n:Nat):Int) by omega,ah7 _<|by rw[bt];show z,show i+1+n-(i+1)=n by omega,<-Ab,<-wj,<-v];have j:q≠x:=λe=>by rw[e,ar]at c;cases c
 have t:al (al H x<|.aS A.eD ae<|dZ ca<|i+1) q (.ai<|r.map ab.int) x=I (.aS A.eD ae<|dZ ca<|i+1):=by rw[aI j.symm];show ar
 show{x,ae,_,_,D,t,sE,_,_,D,D,ae,_,t,(by change 2<1000;decide),?_};have e:cs "place" (ab.int<|((i+1:Nat):Int)+((n:Nat):Int)) (dZ ca<|i+1)=dZ ca (i+1+n):=Qu;rw[e];show{q,nl r,D,by rw[aI j,ar,UC B],by rw[Hw];unfold cV;omega,ak.aS.ai.aS,?_};rw[y]at k;show{_,.he (.jH .refl d) (λb o a=>?_) ak,k};by_cases f:b=x
 .subst f;rw[ar]at a⊢;show a
 .rw[aI f]at a;have F:b≠q:=λe=>by
   rw[e]at a;rw[aI j,a]at c;cases c
  rw[aI f,aI F,aI f];show a
def Pm(i:Nat)(ns:List Int)(a:List aE):(Vapola.Call):=match i with
 |0=>.directory<|a.getD 0 []
 |1=>.showAll
 |2=>.pattern<|a.getD 0 []
 |3=>.drop<|ns.getD 0 0
 |4=>.showOne<|ns.getD 0 0
 |5=>.members<|a.getD 0 []
 |6=>.groups<|a.getD 0 []
 |7=>.fits (ns.getD 0 0)<|a.getD 0 []
 |8=>.which<|a.getD 0 []
 |9=>.rep<|a.getD 0 []
 |10=>.count
 |11=>.nth<|ns.getD 0 0
 |12=>.before (a.getD 0 [])<|a.getD 1 []
 |13=>.fresh<|a.getD 0 []
 |_=>.size
def Xi(h:pi p=I (n,k)):∃i:Nat,i<15/\p=i/\n=eV i/\k=fw i:=by
 have a:0<=p/\p<15:=by
  apply TH;intro q;have:pi p=ag:=by unfold pi;repeat rw[aD ∅]at⊢
  grind
 let{i,(rfl)}:=Al a.1;have key:∀i,i<15->pi (i:Nat)=I (eV i,fw i):=by decide
 grind
def CK(x:List Int):=(∀z∈x,0<=z/\z<256)/\ac x<=8000
def mv(h:((x.all λz=>RM z 8)&&decide (ac x<=8000))=aa):CK x:=by rw[cf,dg]at h;show{λz hz=>?_,h.2};have:=di.mp h.1 z hz;unfold RM at this;grind
def ms(h:CK x):k' x=I (nl x):=by
 unfold k' NeutralIO.bytes;rw[aM]
 .rfl
 .rw[di];intro z hz;have:=h.1 z hz;rw[cf,dg,dg];omega
def hW{B:Type}{l:List B}(h:ac l=0):l=[]:=tu.mp h
def cX{B:Type}{l:List B}(h:ac l=1):∃a,l=[a]:=List.length_eq_one_iff.mp h
def d8{B:Type}:∀{l:List B},ac l=2->∃a b,l=[a,b]
 |[a,b],_=>{a,b,(rfl)}
def aiR:∀i,i<15->∀{ns:List Int} {xs:List (List Int)},ac ns=eV i->ac xs=fw i->zJ ((i::ns)::xs)=aa->(∀x∈xs,CK x)/\FZ ((i::ns)::xs)=I (Pm i ns<|xs.map nl):=by
 intro i au ns xs c d h;obtain _|_|_|_|_|_|_|_|_|_|_|_|_|_|_|i:=i
 .obtain rfl:=hW c;let{x,(rfl)}:=cX d;have:=mv h;show{λy b=>by rw[cy.mp b];show this,by change(k' x).map _=_;rw[ms this];rfl}
 .obtain rfl:=hW c;obtain rfl:=hW d;show{λy b=>(by cases b),D}
 .obtain rfl:=hW c;let{x,(rfl)}:=cX d;have:=mv h;show{λy b=>by rw[cy.mp b];show this,by change(k' x).map _=_;rw[ms this];rfl}
 .let{n,(rfl)}:=cX c;obtain rfl:=hW d;show{λy b=>(by cases b),D}
 .let{n,(rfl)}:=cX c;obtain rfl:=hW d;show{λy b=>(by cases b),D}
 .obtain rfl:=hW c;let{x,(rfl)}:=cX d;have:=mv h;show{λy b=>by rw[cy.mp b];show this,by change(k' x).map _=_;rw[ms this];rfl}
 .obtain rfl:=hW c;let{x,(rfl)}:=cX d;have:=mv h;show{λy b=>by rw[cy.mp b];show this,by change(k' x).map _=_;rw[ms this];rfl}
 .let{n,(rfl)}:=cX c;let{x,(rfl)}:=cX d;have:=mv (wz.mp h).2;show{λy b=>by rw[cy.mp b];show this,by change(k' x).map _=_;rw[ms this];rfl}
 .obtain rfl:=hW c;let{x,(rfl)}:=cX d;have:=mv h;show{λy b=>by rw[cy.mp b];show this,by change(k' x).map _=_;rw[ms this];rfl}
 .obtain rfl:=hW c;let{x,(rfl)}:=cX d;have:=mv h;show{λy b=>by rw[cy.mp b];show this,by change(k' x).map _=_;rw[ms this];rfl}
 .obtain rfl:=hW c;obtain rfl:=hW d;show{λy b=>(by cases b),D}
 .let{n,(rfl)}:=cX c;obtain rfl:=hW d;show{λy b=>(by cases b),D}
 .obtain rfl:=hW c;let{x,y,(rfl)}:=d8 d;have h:=wz.mp h;have O:=mv h.1;have Y:=mv h.2;show{λv e=>?_,?_}
  .simp at e;obtain rfl|rfl:=e
   .show O
   .show Y
  .change((k' x).bind λa=>(k' y).map _)=_;rw[ms O,ms Y];rfl
 .obtain rfl:=hW c;let{x,(rfl)}:=cX d;have:=mv h;show{λy b=>by rw[cy.mp b];show this,by change(k' x).map _=_;rw[ms this];rfl}
 .obtain rfl:=hW c;obtain rfl:=hW d;show{λy b=>(by cases b),D}
 .omega
structure Qh(K:bR)(mg:Str->Option az)(A:bf)(ca:ao)(tp:Nat->ao):Prop extends EX K mg A ca tp where
 aZ:∀(H:aP) (i:Nat),i<15->d1 K H (tp i) [.int (eV i:Nat),.int (fw i:Nat),.ref<|A.f<|92+i]
abbrev Xl i(ns:List Int)(a:List aE):=ac ns=eV i/\ac a=fw i/\∀t∈a,ac t<=8000
def jc(F:c6 P w K mg base (cL P w) k f bk ps (hM A q out))(h:∀ns a,b7 ns a->q ns a):c6 P w K mg base (cL P w) k f bk ps (hM A b7 out):=
 F.imp λvs H Q E {ba,bN,cU,c8,fS,gp,g',iC,b,c,d,e,g,i,j,k,(l)}=>{ba,bN,cU,c8,fS,gp,g',iC,b,c,d,e,g,h _ _ i,j,k,l}
def pO(h:ac q=1/\∀t∈q,ac t<=8000):og ns q:=by let{t,(rfl)}:=cX h.1;show{t,D,h.2 t ()}
def ai1(T:cS K mg A)(hA:EX K mg A ca tp):∀i,i<15->∃bk k,c6 P w K mg base (cL P w) k (A.f<|92+i) bk ["held","numbers","texts"] (hM A (Xl i) λs ns a=>eG s<|Pm i ns a)/\k<=9/\f9 K bk ["held","numbers","texts"] []/\jY K (.ref<|A.f<|92+i)=aa:=by
 intro i au;obtain _|_|_|_|_|_|_|_|_|_|_|_|_|_|_|i:=i
 .show{_,7,jc (abn hA T) λns a h=>pO h.2,⋯,T.EO.b,T.EO.a8.b6}
 .show{_,2,jc (abd T) λns a h=>trivial,⋯,T.EF.b,T.EF.a8.b6}
 .show{_,9,jc (abf T) λns a h=>pO h.2,⋯,T.EH.b,T.EH.a8.b6}
 .show{_,6,jc (abm T) λns a h=>cX h.1,⋯,T.EN.b,T.EN.a8.b6}
 .show{_,5,jc (abb T) λns a h=>cX h.1,⋯,T.ED.b,T.ED.a8.b6}
 .show{_,4,jc (abi T) λns a h=>pO h.2,⋯,T.EJ.b,T.EJ.a8.b6}
 .show{_,4,jc (abj T) λns a h=>pO h.2,⋯,T.EK.b,T.EK.a8.b6}
 .show{_,7,jc (abl T) λns a h=>by let{k,(rfl)}:=cX h.1;let{t,(rfl)}:=cX h.2.1;show{k,t,D,D,h.2.2 t ()},⋯,T.EM.b,T.EM.a8.b6}
 .show{_,7,jc (aba T) λns a h=>pO h.2,⋯,T.EC.b,T.EC.a8.b6}
 .show{_,8,jc (abe T) λns a h=>pO h.2,⋯,T.EG.b,T.EG.a8.b6}
 .show{_,8,jc (abo T) λns a h=>trivial,⋯,T.EP.b,T.EP.a8.b6}
 .show{_,8,jc (abg T) λns a h=>cX h.1,⋯,T.EI.b,T.EI.a8.b6}
 .show{_,7,jc (abp T) λns a h=>by let{t,u,(rfl)}:=d8 h.2.1;show{t,u,D,h.2.2 t (),h.2.2 u ()},⋯,T.EQ.b,T.EQ.a8.b6}
 .show{_,6,jc (abk T) λns a h=>pO h.2,⋯,T.EL.b,T.EL.a8.b6}
 .show{_,1,jc (abc T) λns a h=>trivial,⋯,T.EE.b,T.EE.a8.b6}
 .omega
section
variable{G nJ:aP}{bM ds C:ao}{aF:List (Str×ab)}
def hB.vd(q:hB A G x p t)(O:G bM=I (.aS C ds aF))(f:aF.lookup ("text":Str)=ag)(up:∀b o,b≠bM->G b=I o->nJ b=I o):hB A nJ x p t:=by
 let{ae,k,m,n,ps,g,h,i,(a)}:=q
 show{ae,k,m,n,ps,up _ _ (cq g O<|by intro e;injection e with c d l;rw[<-l]at f;cases f) g,up _ _ (cq h O<|nofun) h,up _ _ (cq i O ()) i,{up _ _ (cq a.a' O<|by intro e;cases e) a.a',a.len,λj y w c d=>up _ _ (cq (a.bZ j y w c d) O<|by intro e;cases e)<|a.bZ j y w c d}}
def fh.vd(q:fh A G x ae aY aL as d t)(O:G bM=I (.aS C ds aF))(h:aF.lookup ("text":Str)=ag)(up:∀b o,b≠bM->G b=I o->nJ b=I o):fh A nJ x ae aY aL as d t:=by
 show{up _ _ (cq q.ob O<|by intro e;injection e with c f i;rw[<-i]at h;cases h) q.ob,up _ _ (cq q.ay O<|nofun) q.ay,?_,q.len,λj a g c f=>up _ _ (cq (q.cd j a g c f) O<|by intro e;cases e)<|q.cd j a g c f};obtain e|⟨o,e⟩:=q.r5
 .show .inl<|up _ _ (cq e O<|by intro e;cases e) e
 .show .inr {o,up _ _ (cq e O ()) e}
def fG.vd(x:fG A H h bi aH z bq aY aL as a5 d ps)(O:H bM=I (.aS C ds aF))(i:aF.lookup ("text":Str)=ag)(k:aF.lookup ("directory":Str)=ag)(s:c5 bM H U):fG A U h bi aH z bq aY aL as a5 d ps:=by
 have g:=cq x.a' O<|nofun;have a:dG H aH bM=I (.aS C ds aF):=dF g.symm▸O;have up:∀b o,b≠bM->dG H aH b=I o->dG U aH b=I o:=λb o m q=>by
  have bI:b≠aH:=λz=>by rw[z,iF]at q;cases q
  rw[dF bI]at q⊢;show s b o m q
 show{s _ _ (cq x.ob O<|by intro e;injection e with c f l;rw[<-l]at k;cases k) x.ob,x.yj.vd a i up,up _ _ (cq x.uR a ()) x.uR,s _ _ g x.a',x.len,λj y p c f=>(x.bZ j y p c f).vd a i up}
end
def aed cl i:(dZ cl i).lookup ("text":Str)=ag:=qa ⋯<|qa (rfl) hV
def Ok cl i:(dZ cl i).lookup ("directory":Str)=ag:=qa ⋯<|qa (rfl) hV
def lU.bM{bM:ao}(x:lU A H h bi aH s)(O:H bM=I (.aS A.eD ds<|dZ cl i))(c9:c5 bM H U):lU A U h bi aH s:=by
 let{z,bq,aY,aL,as,a5,(a)}:=x
 show{z,bq,aY,aL,as,a5,a.vd O (aed _ _) (Ok _ _) c9}
def H2(b:aB K H cl xs)(a:H bM=I (.aS C ae aF))(s:c5 bM H U):aB K U cl xs:=by
 obtain(q|⟨ob,q⟩)|q:=b
 .show .inl<|.inl<|s _ _ (cq q a<|nofun) q
 .show .inl<|.inr {ob,s _ _ (cq q a ()) q}
 .show .inr q
def Zf(T:cS K mg A):∀m,1<=m->m<=7->jX K (A.c m) (.ref<|A.c 0)=I aa/\jM K (A.c m)/\cK K (A.c m) "number":=by
 intro m O a;obtain _|_|_|_|_|_|_|_|m:=m
 .omega
 .show{T.ajp,T.yy.cl,(T.QB)}
 .show{T.ajn,T.yx.cl,(T.Qz)}
 .show{T.ajm,T.yw.cl,(T.Qx)}
 .show{T.ajl,T.sh.cl,(T.Qv)}
 .show{T.ajc,T.yt.cl,(T.Qj)}
 .show{T.aje,T.yv.cl,(T.Qn)}
 .show{T.ajd,T.yu.cl,(T.Ql)}
 .omega
def Kk:∀{k:Nat} {r:List Int} {xs:List (List Int)} {t:List Int},na k r=I (xs,t)->ac xs=k
 |0,r,xs,t,h=>by let{rfl,_}:=tg<|d3 h;rfl
 |k+1,r,xs,t,h=>by
  rw[na]at h;cases e:tf r with
  |none=>rw[e]at h;cases h
  |some y=>
   let{x,(s)}:=y
   rw[e]at h;dsimp only at h;cases a:na k s with
   |none=>rw[a]at h;cases h
   |some z=>
    rw[a]at h
    let{rfl,(rfl)}:=tg<|d3 h
    rw[cz,Kk a]
def Kj(h:na (k+1) r=I (xs,t)):∃x,∃s,∃ys,xs=x::ys/\tf r=I (x,s)/\na k s=I (ys,t):=by rw[na]at h;grind
def VJ{c:List (List Int)}(h:FZ c=I k)(e:eG s k= .ok (s',l)):gl s c=(s',l.map λ(n:Nat)=>(n:Int)):=by unfold gl RN;rw[h];dsimp only;rw[e];rfl
def VK{c:List (List Int)}(h:FZ c=I k)(e:eG s k= .error n):gl s c=(s,[-(n:Int)]):=by unfold gl RN;rw[h];dsimp only;rw[e];rfl
def Wv(K:bR)(A:bf):bC:=λvs H Q _=>∃(h bi aH bM ds cl:ao) (i j:Nat) (l:List Int) (s:qX) (c:List (List Int)),vs=[.ref h,.ref bM]/\lU A H h bi aH s/\jO s/\H bM=I (.aS A.eD ds<|dZ cl i)/\aB K H cl (l.map ab.int)/\ac l<=100000/\
 v8 pi (l.drop i)=I (c,l.drop j)/\j<=ac l/\zJ c=aa/\aO H/\
 ∀U p,(∀b o,b≠h->b≠aH->b≠bM->H b=I o->U b=I o)->aO U->lU A U h bi aH (gl s c).1->jO (gl s c).1->U bM=I (.aS A.eD ds<|dZ cl j)->U p=I (.ai<|(gl s c).2.map ab.int)->(gl s c).2.length<=5000->H p=ag->Q (.ref p) U
section
variable{ca:ao}{tp:Nat->ao}(hA:Qh K mg A ca tp)
include hA
def abh(T:cS K mg A):bs P w base T 10 111 ["held","reader"] (Wv K A):=by
 show T.PK.a8.bx ru λcp be aN s H vs Q E ad h=>?_;let{h,bi,aH,bM,ds,cl,i,j,l,st,c,rfl,aQ,ok,r,aP,cd,b',cs,b5,ak,(k)}:=h;show{_,(aT (co 2<|ZX hA.dict (fd hA.calls) (fV T.ip T.zb (CJ T) ad cH<|ah 1) λ_ _=>D)
 (aT (t9 (i:=3) D ru.aJ D D (tQ D D D D) (ue D T.vh<|aK<|dc r0 (ah 2) bn λ_ _=>D) (bo:=[("k",4)]) (fn (N:=C1) (b7:=a6 xg) ⋯) (λ_ _ _ _ _=>(c3 (i:=4) ru.aJ D<|ce D)) (λ_ _ _ _ _=>gu) λ_ _ _ _ _=>(fV T.ip T.zb (CJ T) ad cH<|ah 1))
 (aT (t9 (i:=5) D ru.aJ D D (tQ D D D D) (ue D T.vh<|aK<|dc r0 (ah 2) bn λ_ _=>D) (bo:=[("k",4)]) (fn (N:=C1) (b7:=a6 xg) ⋯) (λ_ _ _ _ _=>(c3 (i:=4) ru.aJ D<|ce D)) (λ_ _ _ _ _=>gu) λ_ _ _ _ _=>(fV T.ip T.Q6 (abM T) ad cH<|ah 1))
 (aV<|K6 (i:=6) (E:=(λaX od U=>∃n m ae,1<=m/\m<=7/\aX= .ref (A.c m)/\od=I ae/\gl st c=(st,[-((n:Nat):Int)])/\c5 bM H U/\aO U/\U bM=I (.aS A.eD ds<|dZ cl j)/\U ae=I (fQ ae [("number",.int<|-((n:Nat):Int))]))) D D ru.aJ D D D T.oM.e6 hA.UA hA.aiJ (λ_ _ g=>(aV<|bm<|ZZ (P:=P) (w:=w) (K:=K) (mg:=mg) (base:=base) D D D D D (j:=9) ad g (dc (uJ (K:=K) D) (ah 2) bn λ_ _=>D)<|ih (ah 0) (ah 3)<|ah 5)) λ_=>(aV<|bm<|eg<|aK<|DG (K:=K) D<|ah 6))))),?_}
 let{p,n,cu,xs,bP,bQ,au,bT,(a0)}:=Pl b';let{q,F,rfl,rfl,(rfl)}:=Xi bQ;have a3:∀q,q<15->eV q<=1/\fw q<=2:=by decide
 let{cr,(a3)}:=a3 q F
 have bc:↥((l.drop<|i+1).take<|eV q)=eV q:=by rw[g8,gn];omega
 have bf:=Kk a0;subst bT
 let{bw,(a4)}:=aiR q F bc bf b5
 show{bM,ds,_,D,r,E7,bM,ds,cl,i,_,ab.int ((q:Nat):Int),D,r,aP,by rw[cO,bP];rfl,ak,(q:Int),tp q,D,(by change(if _ then _ else _)=_;rw[aM {∅,∅}];rfl),?_};have am:c5 bM H (al H bM<|.aS A.eD ds<|dZ cl<|i+1):=(jb same bM).a2;have bv:al H bM (.aS A.eD ds<|dZ cl<|i+1) bM=I (.aS A.eD ds<|dZ cl<|i+1):=ar;have br:aO (al H bM<|.aS A.eD ds<|dZ cl<|i+1):=ak.aS;generalize al H bM (.aS A.eD ds<|dZ cl<|i+1)=an at am bv br;show{tp q,_,_,_,D,D,hA.aZ an q F,dy (j:=0) D,((eV q:Nat):Int),D,∅,∅,λaq aB=>nv (n:=eV q) (λm U=>c5 bM H U/\aO U/\U bM=I (.aS A.eD ds<|dZ cl<|i+1+m)/\U aq=I (.ai<|((l.drop<|i+1).take m).map ab.int)) {am.new aB,br.ai,bd aB bv,ar} ?_ ?_ ?_ ?_}
 .rintro m U V _;change m<((eV q:Nat):Int).toNat;rw[hJ];show V
 .rintro U _;change((eV q:Nat):Int).toNat<=_;rw[hJ];show bA _
 .rintro m x U aw V ⟨J,af,B,C⟩ ⟨rfl,rfl⟩;have ba:i+1+m<ac l:=by omega
  show{D,bM,ds,_,D,B,E7,bM,ds,cl,i+1+m,_,ab.int l[i+1+m],D,B,H2 aP r J,by rw[cO,cA ba];rfl,af,_,by rw[aI<|cq C B<|by intro z;cases z];show C,by rw[bt,g8,cc];omega,λb o d e=>?_,af.aS.ai,?_,?_}
  .have aF:b≠aq:=λz=>by
    rw[z]at e;have:=am aq o (by rw[<-z];show d) e;rw[aB]at this;cases this
   rw[aI aF,aI d];show J b o d e
  .rw[aI (cq B C<|by intro z;cases z),ar];rfl
  .rw[ar];have:(l.drop<|i+1).take (m+1)=(l.drop<|i+1).take m++[l[i+1+m]]:=by
    rw[j2,GD,cA ba];rfl
   rw[this,dX];rfl
 rintro aw ⟨J,af,B,C⟩;show{tp q,_,_,_,D,D,hA.aZ aw q F,dy (j:=1) D,((fw q:Nat):Int),D,∅,∅,λaj aC=>nv (n:=fw q) (λm U=>c5 bM aw U/\aO U/\∃done rest u,xs=done++rest/\ac done=m/\na (fw q-m) (l.drop u)=I (rest,l.drop j)/\u<=ac l/\U bM=I (.aS A.eD ds<|dZ cl u)/\U aj=I (.ai<|aG<|done.map λx=>(nl x).map b4))
  {(jb same bM).new aC,af.ai,[],xs,i+1+eV q,D,D,a0,au,bd aC B,ar} ?_ ?_ ?_ ?_}
 .rintro m U V _;change m<((fw q:Nat):Int).toNat;rw[hJ];show V
 .rintro U _;change((fw q:Nat):Int).toNat<=_;rw[hJ];show bA _
 .rintro m x U G V ⟨L,W,done,rest,u,bE,ax,R,bW,v,M⟩ ⟨rfl,rfl⟩;rw[show fw q-m=(fw q-(m+1))+1 by omega]at R;let{y,s,ys,rfl,a1,(bY)}:=Kj R
  let{cm,f1,f2,bZ,b1,(b2)}:=BS a1
  have bl:=bw y (by rw[bE];simp);show{D,bM,ds,_,D,v,ajx,bM,ds,cl,u,l,y,s,D,v,H2 aP r<|J.trans L,cd,a1,bl.1,bl.2,W,_,by rw[aI<|cq M v<|by intro z;cases z];show M,by rw[dj,bt,ax,cc];omega,λb o d e=>?_,W.aS.ai,done++[y],ys,u+1+cm,by rw[bE,hI];rfl,by rw[b0,ax];rfl,?_,b2,?_,?_}
  .have aF:b≠aj:=b3 e aC;rw[aI aF,aI d];show L b o d e
  .rw[<-b1];show bY
  .rw[aI (cq v M<|by intro z;cases z),ar,bZ]
  .rw[ar,dX,tr,mm]
 rintro G ⟨L,W,done,rest,u,bE,ax,R,bW,v,M⟩;rw[Nat.sub_self]at R
 let{bU,(bV)}:=tg<|d3 R
 subst bU;rw[gI]at bE;subst bE;have bX:u=j:=by have:=gC ac bV;rw[gn,gn]at this;omega
 subst bX;have Z:c5 bM H G:=J.trans L;have bO:G aq=I (.ai<|((l.drop<|i+1).take<|eV q).map ab.int):=L _ _ (cq C B<|by intro z;cases z) C;have ca:=aQ.bM r Z;have cg:∀b,G b=ag->H b=ag:=λb d=>by
  cases av:H b with
  |none=>rfl
  |some o=>
   by_cases X:b=bM
   .rw[X,v]at d;cases d
   .rw[Z b o X av]at d;cases d
 let{bk,ck,bD,bF,bH,(bI)}:=ai1 (P:=P) (w:=w) (base:=base) T hA.toEX q F
 show{{tp q,_,_,_,D,D,hA.aZ G q F,dy (j:=2) D,A.f<|92+q,D,bI,bk,_,_,ck,bD,bF,bH,h,bi,aH,aq,aj,(l.drop<|i+1).take<|eV q,xs.map nl,st,D,ca,ok,bO,?_,{bc,by rw[bt];show bf,λt ci=>?_},W,(λs' bp ay cf cn U p bC aW cb ep g=>?_),(λn ay m O aA ae a7=>?_)},?_}
 .rw[dh];show M
 .let{x,cj,(rfl)}:=ct.mp ci;rw[Hw];show(bw x cj).2
 .have es:=VJ a4 ay;rw[es]at k
  let{z,bq,aY,aL,as,a5,(a9)}:=aQ
  have O:bM≠h:=cq r a9.ob (by intro e;injection e with _ _ au;have:=Ok cl i;rw[au,lZ]at this;cases this);have Y:bM≠aH:=cq r a9.a' (by intro e;cases e);show{U,.all,k U p (λb o b6 b8 aD e=>bC b o b6 b8<|Z b o aD e) aW cb cn (bC _ _ O Y v) ?_ (by rw[bt];show cf)<|cg p g};rw[ep];change I (fR.ai<|lx bp)=I (fR.ai<|(bp.map λ(n:Nat)=>(n:Int)).map ab.int);rw[dh];rfl
 .show{n,m,ae,O,aA,D,D,VK a4 ay,Z.new a7,W.ext,bd a7 v,ar}
 .rintro aX od U ⟨n,m,ae,O,aA,rfl,rfl,es,c9,aW,bu,bE⟩
  let{bJ,bK,(bN)}:=Zf T m O aA
  rw[es]at k;show{A.c m,ae,D,D,bJ,λa S=>{a,A.c m,ae,_,_,D,ar,bd S bE,bK,bN,eu,(by change 1<=bg;decide),λp g=>?_}};have bB:c5 bM H (al (al U a<|oR a (A.c m) ae) p<|.ai [ab.int<|-((n:Nat):Int)]):=(c9.new S).new g;have ch:H p=ag:=by
   cases av:H p with
   |none=>rfl
   |some o=>
    by_cases X:p=bM
    .rw[X,bd S bu]at g;cases g
    .rw[bd S<|c9 p o X av]at g;cases g
  show{_,.all,k _ p (λb o _ _ aD e=>bB b o aD e) aW.ext.ai (aQ.bM r bB) ok (bd g<|bd S bu) ar (by change 1<=5000;decide) ch}
end
def Kl{l:List Int}:∀{k i:Nat} {xs:List (List Int)} {t:List Int},i<=ac l->na k (l.drop i)=I (xs,t)->∃j,t=l.drop j/\i<=j/\j<=ac l
 |0,i,xs,t,au,h=>by let{_,rfl}:=tg<|d3 h;show{i,D,bA _,au}
 |k+1,i,xs,t,au,h=>by
  let{x,s,ys,rfl,O,(Y)}:=Kj h
  let{n,f1,f2,c,a,(b)}:=BS O
  rw[a]at Y
  let{j,g1,g2,(g3)}:=Kl b Y
  show{j,g1,∅,g3}
def Bb(K:bR):bC:=λvs H Q _=>∃(cl:ao) (l:List Int),vs=[.ref cl]/\aB K H cl (l.map ab.int)/\ac l<=100000/\F8 l=aa/\aO H/\
 ∀U p,U p=I (.ai<|(s8 l).map ab.int)->↥(s8 l)<=1048576->Q (.ref p) U
section
variable{ca:ao}{tp:Nat->ao}(hA:Qh K mg A ca tp)
include hA
def aa'(T:cS K mg A):bs P w base T 11 112 ["calls"] (Bb K):=by
 show T.answers.a8.bx X2 λb5 be aN s H vs Q E B h=>?_;let{cl,l,rfl,ae,bD,bn,ak,(k)}:=h;show{_,(aT (co 1<|aii T.eN T.QR (abE T) B cH)
 (aT (co 2<|mQ T.ip T.Q8 (abO T) B cH<|aK<|ah 0)
 (aT (co 3<|eg gv)
 (aT (p1 gG (lu<|gN<|fV T.ip T.Q7 (abN T) B cH<|ah 2) (aT (co 4<|bQ T.PK (abh hA T).frame B<|cW (ah 1)<|ah 2)
  (aT (dm<|ov (ah 3)<|aK<|bB T.bB d9<|aK<|ah 4)
  (aV<|dm<|rW (ah 3)<|aK<|ah 4))))
 (aV<|bm<|ah 3))))),?_}
 let{V,bw,bl,bk,(bp)}:=ai0 bn
 show λh bi N aJ bI=>{h,bi,D,ar,ak.bo.aS,λan aH z bq aY aL as bW bH bE bA=>{D,?_}};have aQ:a4 H (al (al H bi<|.bo h) h<|.aS A.kj bi []):=λb o a=>by rw[aI<|b3 a N];show bd aJ a
 have aj:a4 H an:=λb o a=>bW b o (b3 a N)<|aQ b o a;have bF:H aH=ag:=aQ.none bE;show λbM ds aF bN ne2=>{bM,ds,cl,D,ar,D,?_};have a5:al (al (al an ds<|.bo bM) bM<|.aS (A.c 16) ds []) bM (.aS A.eD ds<|dZ cl 0)=al (al an ds<|.bo bM) bM (.aS A.eD ds<|dZ cl 0):=ho;rw[a5];have aA:a4 an (al (al an ds<|.bo bM) bM<|.aS A.eD ds<|dZ cl 0):=λb o a=>by rw[aI<|b3 a aF];show bd bN a
 have aG:al (al an ds<|.bo bM) bM (.aS A.eD ds<|dZ cl 0) bM=I (.aS A.eD ds<|dZ cl 0):=ar;have ay:aO (al (al an ds<|.bo bM) bM<|.aS A.eD ds<|dZ cl 0):=bH.bo.aS;generalize al (al an ds<|.bo bM) bM (.aS A.eD ds<|dZ cl 0)=aw at aA aG ay;have am:=bA.same aA;show{cI _,λdf r=>?_};have bZ:df≠aH:=λe=>by rw[e,am.a']at r;cases r
 have G:H df=ag:=(aj.trans aA).none r;have bV:H bM=ag:=aj.none aF;show{λm σ U=>∃(i f:Nat) (s:qX) (n:List (List<|List Int)) (acc:List Int) (u:Option ab),σ=[I<|.ref cl,I<|.ref h,I<|.ref bM,I<|.ref df,u]/\a4 H U/\aO U/\lU A (dG U df) h bi aH s/\jO s/\U bM=I (.aS A.eD ds<|dZ cl i)/\pk pi f (l.drop i)=I n/\(∀c∈n,zJ c=aa)/\U df=I (.ai<|acc.map ab.int)/\acc++Sn (So gl s n)=s8 l/\i<=ac l/\m=ac n/\ac acc+ac n*5001<=200*5001,
  {↥V,0,↥l,start,V,[],ag,D,(aj.trans aA).new r,ay.ai,(by rw[pW,BU r];show am.is),?_,bd r aG,by rw[g9];show bw,bp,ar,bl.symm,cI _,D,by rw[nW,l'];show tj _ bk},?_}
 .show{?_,{⋯,λp aq=>by cases aq},⋯,⋯};show OX (x:=[117,115,101,114,32,97,10]) D
 rintro m σ U ⟨i,f,s,n,acc,u,rfl,aP,aC,au,ok,C,M,Z,y,X,b7,rfl,hlen⟩;have bu:aB K U cl (l.map ab.int):=a4.seq aP ae;show{bM,ds,_,D,C,ajy,bM,ds,cl,i,_,D,C,bu,aC,_,D,?_};rw[bt];by_cases af:ac l<=i
 .rw[cn af];rw[mc af]at M;obtain rfl:=aim M;have a6:acc=s8 l:=by rw[<-X];show(gI _).symm
  rw[a6]at y hlen;show{_,.all,k _ df y<|by rw[nW]at hlen;omega}
 rw[ck af];let{c,t,a9,S,rfl,ad,(bv)}:=ain ∅ M
 let{cb,ca,b',cd,b1,b2,a1,b4,(a2)}:=Pl ad
 let{j,rfl,b8,(av)}:=Kl a1 a2;show{λaZ g=>∃(u:Option ab),aZ=[I<|.ref cl,I<|.ref h,I<|.ref bM,I<|.ref df,u]/\a4 H g/\aO g/\lU A (dG g df) h bi aH (gl s c).1/\jO (gl s c).1/\g bM=I (.aS A.eD ds<|dZ cl j)/\g df=I (.ai<|(acc++((gl s c).2.length:Int)::(gl s c).2).map ab.int)/\(gl s c).2.length<=5000,
  λaZ g {u,a3,g1,g2,g3,ba,bc,bf,(b6)}=>{↥S,by rw[cz];omega,j,a9,_,S,_,u,a3,g1,g2,g3,ba,bc,bv,λa0 br=>Z a0<|by simp[br],bf,?_,av,D,?_},?_}
 .rw[<-X,hI];rfl
 .rw[b0,cz];rw[cz]at hlen;omega
 have aX:a4 H (dG U df):=λb o e=>by rw[dF<|b3 e G];show aP b o e
 have J:df≠bM:=cq y C (by intro q;cases q);have bT:dG U df bM=I (.aS A.eD ds<|dZ cl i):=by rw[dF J.symm];show C
 have bJ:aO (dG U df):=λb kvs q=>aC b kvs<|pX _ _ q;show{df,acc.map ab.int,y,h,bi,aH,bM,ds,cl,i,j,l,s,c,D,au,ok,bT,a4.seq aX ae,bD,ad,av,Z c (),bJ,λd p bX bK bC bO bU Y a7 aq L=>?_};have R:df≠p:=λe=>by rw[e,Y]at L;cases L
 have F:al d df (.ai<|acc.map ab.int) df=I (.ai<|acc.map ab.int):=ar;have ep:al d df (.ai<|acc.map ab.int) p=I (.ai<|(gl s c).2.map ab.int):=by rw[aI R.symm];show Y
 have aM:al d df (.ai<|acc.map ab.int) bM=I (.aS A.eD ds<|dZ cl j):=by rw[aI J.symm];show bU
 have aD:aO (al d df<|.ai<|acc.map ab.int):=bK.ai;have W:dG (al d df<|.ai<|acc.map ab.int) df=d:=by rw[pW,BU L]
 have ax:∀b o,H b=I o->al d df (.ai<|acc.map ab.int) b=I o:=λb o e=>by rw[aI<|b3 e G];show bX b o (b3 e N) (b3 e bF) (b3 e bV)<|aX b o e
 generalize al d df (.ai<|acc.map ab.int)=v at F ep aM aD W ax;have bY:ac acc<=200*5001:=by omega
 show{.inl {D,_,aB.of F},p,_,D,.inl<|aB.of ep,df,_,_,D,D,F,by rw[bt,cc];omega,?_};rw[bt];have O:al v df (.ai<|acc.map ab.int++[ab.int (((gl s c).2.length:Nat):Int)]) df=I (.ai<|acc.map ab.int++[ab.int (((gl s c).2.length:Nat):Int)]):=ar;have bP:al v df (.ai<|acc.map ab.int++[ab.int (((gl s c).2.length:Nat):Int)]) p=I (.ai<|(gl s c).2.map ab.int):=by rw[aI R.symm];show ep
 show{.inl {D,_,aB.of O},df,p,_,_,D,D,O,bP,by rw[b0,bt,bt,lb,cc];omega,?_};rw[ho];have aW:∀b o,b≠df->v b=I o->al v df (.ai<|acc.map ab.int++[ab.int (((gl s c).2.length:Nat):Int)]++(gl s c).2.map ab.int) b=I o:=λb o a e=>by rw[aI a];show e
 show{_,D,λb o e=>aW b o (b3 e G)<|ax b o e,aD.ai,?_,bO,aW _ _ J.symm aM,?_,a7}
 .rw[pW,W];show bC
 .rw[ar,dX,cx,hI];rfl
end
end RC
namespace RC
open PySem PySem.Spec PyProof.Rows L2
open PySem.W (Frag)
section
variable{P:bS}{w:bL}{K:bR}{mg:Str->Option az}{h:bG}
def adE:∀i:Fin 15,hashInt (i.val:Int)=i.val:=⋯
def af0{es:Array tz}{n:Nat}{tk:Nat->Nat}{tp:Nat->ao}{ca:ao}(l:K.lookup ca=I {.type "dict",ag,.dict es n,#[]})(b:es.toList=(dv 15).map λi=>{(i:Int),.int i<|tk i,.ref<|tp i}):Fp K ca λk=>if 0<=k/\k<15 then I (tp k.toNat)else ag:=by
 intro P w h X;have c:=X _ _ l;show{{_,c,D},_,es,n,c,{D,D,(rfl)},D,?_,?_}
 .intro e O;have Y:=TU.mpr O;rw[b,ct]at Y;let{i,au,(rfl)}:=Y;show{i,by change((i:Int)==i)=aa;show nQ _,(adE {i,tn.mp au}).symm}
 .intro k;change _=Sw cM (if 0<=k/\k<15 then I (tp k.toNat)else ag);unfold findBy;rw[<-TV,b];by_cases a:0<=k/\k<15
  .rw[aM a];obtain⟨i,rfl⟩:∃i:Nat,k=i:={k.toNat,∅};let{_,a}:=a;obtain _|_|_|_|_|_|_|_|_|_|_|_|_|_|_|i:=i;iterate 15 rfl
   omega
  .rw[aD a,Td.mpr]
   .rfl
   .intro e Y;rw[ct]at Y;let{i,au,(rfl)}:=Y;have:=tn.mp au;change ¬((i:Int)==k)=aa;rw[ei];omega
def alC:Q' Bb:=by
 intro P w K mg h cr cK f1 f2 dj dx dJ dX d9 em ez cL cY c1 c2 c3 c4 c5 c6 c7 c8 c9 c' da dc dd de df dg dh di dk dl dm dn dp dq dr ds du dw dy dz dA dB dC dE dF dG dH dI dK dL dO dP dQ dR dS dU dV dW dY dZ d0 d1 d2 d4 d5 d6 d7 d8 d' ea ed ee ef eg ei ej ek el ep eq er es et eu ev ew ex ey eA eB eC eD eE eJ eK eL eM eN cN cO cP cQ cR cT cU cV cW cX cZ c0 b af ah ar as av aw ax aA aB aC ai aj ak al am an aq ca hp fK k l m o p q r t c d f g j lI aD a5 bk bv bK bY b' cm cy aF aQ aW aX aY aZ a0 a1 a3 a4 a6 a7 a9 a' ba bc bd be bf bi bl bm bn bo bp bq br bs bt bu bw bx bA bB bC bD bF bH bI bJ bM bN bO bP bQ bT bU bV bW bX bZ b0 b1 b2 b3 b4 b5 b6 b7 b8 cb cc cd cf cg ch ci cj ck cl cn co cp cq cs ct cu cv cw cx cz cA cB cC cD cF cG cH cI cJ aG aH aI aJ aK aL aM aN aO aP aS aT aV eZ e0 e7 e8 e9 e' fa fb fc fd e1 e2 e3 e4 e5 fu X G eV u v y z A B C E F J a eO g1 g2 g3 eP eT eU fe ff fm fn fo fp fq fs u8 ft fg fh fj fk fl L M S U V Y Z ab ad ae N O Q R;have n {x} (h:g7 K eh x=I ag):=PySem.W.mg_none_of X G h;have T:cS K mg {λi=>[cK,f1,f2,dj,dx,dJ,dX,d9,em,ez,cL,cY,c1,c2,c3,c4,c5,c6,c7,c8,c9,c',da,dc,dd,de,df,dg,dh,di,dk,dl,dm,dn,dp,dq,dr,ds,du,dw,dy,dz,dA,dB,dC,dE,dF,dG,dH,dI,dK,dL,dO,dP,dQ,dR,dS,dU,dV,dW,dY,dZ,d0,d1,d2,d4,d5,d6,d7,d8,d',ea,ed,ee,ef,eg,ei,ej,ek,el,ep,eq,er,es,et,eu,ev,ew,ex,ey,eA,eB,eC,eD,eE,eJ,eK,eL,eM,eN,cN,cO,cP,cQ,cR,cT,cU,cV,cW,cX,cZ,c0,b].getD i 0,λi=>[lI,aD,a5,bk,bv,bK,bY,b',cm,cy,aF,aQ,aW,aX,aY,aZ,a0,a1,a3,a4,a6,a7,a9,a',ba,bc,bd,be,bf,bi,bl,bm,bn,bo,bp,bq,br,bs,bt,bu,bw,bx,bA,bB,bC,bD,bF,bH,bI,bJ,bM,bN,bO,bP,bQ,bT,bU,bV,bW,bX,bZ,b0,b1,b2,b3,b4,b5,b6,b7,b8,cb,cc,cd,cf,cg,ch,ci,cj,ck,cl,cn,co,cp,cq,cs,ct,cu,cv,cw,cx,cz,cA,cB,cC,cD,cF,cG,cH,cI,cJ,aG,aH,aI,aJ,aK,aL,aM,aN,aO,aP,aS,aT,aV].getD i lI,λi=>[af,ah,ar,as,av,aw,ax,aA,aB,aC,ai,aj,ak,al,am,an,aq].getD i 0}:={u,v,y,z,A,B,C,E,F,J,a,n L,n M,n S,n U,n V,n Y,n Z,n ab,n ad,n ae,n N,n O,n Q,n R};have e:=eV.symm.trans a.answers.e6;rw[show cr=b from Value.ref.inj<|d3 e];show{_,λs ay eY=>?_,λbase _ _=>aa' (ca:=ca) (tp:=λi=>[hp,fK,k,l,m,o,p,q,r,t,c,d,f,g,j].getD i 0) {{eO,g1,g2,g3,eP,eT,af0 (tk:=λi=>[eZ,e0,e7,e8,e9,e',fa,fb,fc,fd,e1,e2,e3,e4,e5].getD i 0) (tp:=λi=>[hp,fK,k,l,m,o,p,q,r,t,c,d,f,g,j].getD i 0) eU D},λH i au=>?_} T}
 .let{_,_,_,_,_,_,_,_,_,e,_}:=T.answers.a8.bE;rw[e];show match ay,eY with|[_],_=>.of_eq D
 .obtain _|_|_|_|_|_|_|_|_|_|_|_|_|_|_|i:=i;show fe.a2 H;show ff.a2 H;show fm.a2 H;show fn.a2 H;show fo.a2 H;show fp.a2 H;show fq.a2 H;show fs.a2 H;show u8.a2 H;show ft.a2 H;show fg.a2 H;show fh.a2 H;show fj.a2 H;show fk.a2 H;show fl.a2 H;omega
end
end RC
namespace RC
open PySem PySem.Spec PySem.W PyProof.Rows L2
def als(K:bR)(H:aP)(xs:List ab)(a:Codec.denoteAll Rw0.args)(d:qy H)(l:GQ Rw0.args a=aa)
  (i:tA Rw0.args Rw0.asked a=aa) (m:jS K H xs (rc Rw0.args a)):
  Bb K xs H (λv U=>gj K U v<|Rw0.ret.enc<|tA Rw0.args Rw0.f a) λ_ _ _=>False:=by
 cases m with
 |cons O Y=>
  cases Y;cases O with
  |ai k g=>
   have e:=L2.NM a.1 _ g;subst e;have q:((Codec.inLen 0 17000 a.1&&a.1.all (Codec.inInt (-1000000000000000000) 1000000000000000000))&&aa)=aa:=l;rw[cf,cf]at q;show{_,a.1,D,k,b5 (Codec.inNat_iff.mp q.1.1).2 ⋯,i,λb kvs c=>?_,λU p j _=>.ai (L2.aB.of j)<|L2.ON _};obtain h|⟨o,u,h⟩:=d b
   .rw[h]at c;cases c
   .rw[h]at c;cases c
end RC
end
end
theorem PySem.Challenge.cw_requestclasses_s01_answers_holds : PySem.Challenge.rw_requestclasses_s01_answers.Holds :=
  RC.head1 ⟨_, RC.alC, RC.als⟩
