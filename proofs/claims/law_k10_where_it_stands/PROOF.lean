import PyProof.Rows.All
import Wide.All
import OpenK.AllK
import Wide.FinOn
import Lean
import PyProof.EqAt
import PyProof.EqKinds
import PyProof.TupleCall
import PySem.Challenge.RW_wellkind_k10_where_it_stands
set_option Elab.async false
set_option linter.all false
set_option maxRecDepth 100000
local macro_rules|`(tactic|symm)=>`(tactic|decide +kernel)
open PySem.W renaming Frag->aa,nsIn->cu,mg_none_of->cA,kia_one->cT,fnOf->dA,keepIn->eX,mg_of->gn,kitOne->gA,hideAll->iL,codeIn->ko,callWith_K->mH,exmOne->mL,kitx_list->nC,cellsFrom_some->pI,excIn->sP,kitx_tuple->sY,methodObj->uw,instObj->wG,OpenLaw->wI,lookIn->xG,hideAll_get->Ds,of_hideAll->Fk,codeRec_of->Fm,kitx_dict->Fy
open PySem renaming wpAny_bind->ae,Value->ah,Shared->ai,Addr->aj,starEach->ao,PyData->aq,sizeLine->av,wpAny_pure->ax,wpAny->aH,Program->aR,Expr->bc,FuncData->be,mainGlobals->bC,World->bH,wpAny_mono->bO,Heap->bS,Stmt->b9,Around->cj,backTo->cG,wpAny_setField_rec->cQ,sizeLine_eq->cU,wpAny_field->df,foldedSetIterable->dn,swapsWith->dF,attributeBase->dH,wpAny_newObj_type->dO,wpAny_passesOwn->dU,boot_len->eA,wpAny_callSpecial?_slot->ff,wpAny_call_entry->fg,Keyword->fA,wpAny_ite_split->fN,wpAny_seqItems->gj,keywordEach->gM,wpAny_pyIter_tuple->gY,mem_of_lookup->ik,wpAny_truthy_bool->iz,wpAny_holding->iE,wpAny_typeNameOfWhole_itemiter->iS,wpAny_Call_Name_kw->jb,wpAny_execs_nil->jl,wpAny_updateSeq->jm,wpAny_toks_of->jo,backToKw->kS,wpAny_specialOf->kU,wpAny_pyIter_list->l7,wpAny_execs_cons->mG,wpAny_typeOf->oU,wpAny_rule->pK,wpAny_isInstance->rY,wpAny_Call_method_late->sZ,wpAny_isOneOf_itemiter->tj,wpAny_loadPart'->tP,wpAny_pyIter_revIter->vx,wpAny_letGo->vy,wpAny_attempt->xn,wpAny_pyIter_enum->Aa,wpAny_pyIter_slot->Ab,wpAny_dictEntries->Ad,wpAny_dictEpoch->Di,wpAny_newFunctionEnv_cells->Fn,wpAny_setField->Fp,wpAny_newTuple->Fq
open PySem.Heap renaming get?_push_of_some->af,get?_push_size->aB,lt_size->aC,get?_update_other->cJ,get?_update_self->ez,size_push->eE,SameBut->gx,IsTuple->vB,dictOf_iff->yk,FlyingW->Dt
open List renaming getElem?_eq_getElem->ag,getElem?_eq_some_iff->ak,getElem?_map->aw,length_map->ay,mem_append_right->az,size_toArray->aD,mem_cons_self->aE,mem_of_getElem?->aI,getElem?_append_left->aK,length_append->aL,mem_singleton->aM,getElem?_append_right->aP,mem_cons_of_mem->aU,length_cons->aY,mem_cons->bf,mem_append->bj,map_cons->bz,map_append->bI,append_assoc->bM,mem_append_left->bZ,append_nil->cf,forall_mem_cons->cv,length_reverse->cC,not_mem_nil->cM,cons_append->cV,mem_map->de,reverse_cons->dD,take_of_length_le->dR,drop_eq_getElem_cons->dW,take_add_one->ef,singleton_append->eB,replicate->eC,nil_append->eI,map_map->fh,nodup_cons->fo,length_set->fq,getElem?_eq_none->fB,map_nil->gy,length_take->gB,getD_eq_getElem?_getD->gK,getElem?_reverse->gL,getElem?_set_ne->hU,dropLast_concat->hW,take_length->iC,find?_cons->iV,length_nil->iW,forIn_cons->iX,getElem?_set->jd,take_zero->jn,lookup_cons->jy,mem_reverse->jz,take_succ_cons->jF,filter_append->ki,filter_cons_of_neg->kr,filter_cons_of_pos->ku,getElem?_set_self->kT,nodup_append->kW,drop_of_length_le->kX,mem_iff_getElem?->lN,all_eq_true->lT,filterMap_cons->mF,map_congr_left->mI,forIn_nil->nE,getElem?_take->nK,length->oS,ext_getElem?->oV,flatMap_cons->oW,filter->oX,all_cons->o3,any_cons->o7,length_drop->pM,getElem?_cons_succ->pP,getElem_mem->pQ,drop_length->pR,range->qI,of_mem_zip->qN,length_zip->qO,length_replicate->qQ,length_singleton->qR,nodup_nil->sN,reverse_reverse->sO,drop_succ_cons->tK,reverse_append->tQ,mem_filterMap->uD,mem_replicate->uE,eraseIdxIfInBounds_toArray->wH,take_append_of_le_length->xM,drop_append_of_le_length->xN,getLast?_eq_some_getLast->xP,mem_filter->yg,head?_drop->yi,dropLast_concat_getLast->yl,getElem?_replicate->Dh,length_eq_zero_iff->Dj,take_append_drop->Ft,length_dropLast->Fz,mem_of_mem_take->FC,range'->FD,getElem?_of_mem->FE
open Nat renaming le_refl->au,le_trans->aX,ne_of_lt->aZ,lt_of_lt_of_le->bw,lt_of_le_of_lt->cH,zero_le->dj,ne_of_gt->dG,le_of_lt->fj,le_of_ble_eq_true->fL,not_lt_zero->hV,lt_trans->ib,lt_irrefl->i8,lt_succ_of_lt->je,le_succ->jv,zero_add->jD,sub_self->nB,lt_succ_iff_lt_or_eq->pL,lt_succ_self->qA,strongRecOn->qT,digitChar->uF,le_of_not_lt->xH,toDigitsCore->xQ,not_lt->AK,lt_of_succ_lt_succ->Fs
open Bool renaming false_ne_true->aV,and_eq_true->iB,false_eq_true->iN,eq_iff_iff->iT,or_false->uy,false_or->uz,eq_false_iff->vD,true_and->B1
open Option.some renaming inj->bE
open PySem.PassesOwn renaming never->bF
open PySem.F renaming plainAttrs_list->bJ,slot_list_append->eg,type_list_append->eh,slot_dict_itemiterator_next->eF,slot_list_pop->ft,type_list_pop->fw,plain_extend_loop->iG,slot_tuple_iterator_next->jC,plainAttrs_str->kq,slot_zip_next->nA,args_tuple_add_2->nP,entry_tuple_add->oT,slot_tuple_add->pJ,slot_list_getattribute->qC,args_str_split_2->wL,excBase_ValueError->xI,entry_str_split->xO,slot_dict_getitem->yh,args_dict_itemiterator_next_1->yj,entry_dict_itemiterator_next->Ac,slot_list_extend->Ae,type_list_extend->Af,slot_str_split->Ag,slot_dict_itemiterator_iter->Ap,plainAttrs_dict->Aq,slot_dict_items->Ar,args_tuple_iterator_next_1->AL,entry_tuple_iterator_next->BX
open PySem.Txt renaming replace->bL,split->gF,join->nS
open Or renaming inl->cm,inr->cW
open PyProof.Rows renaming callWith_type1->cw,envOfC->fQ,slot_tuple_getitem->jV,boot_int->oy,intBits_le->wM
open PySem.Builtin.SmallTypes renaming nextOf->cB,ownedTupleIsFree->fM,ownedTupleHandOut->nJ
open PySem.Value renaming ref->cO,none->dZ,type->jk,bool->lL,str->wF,int->BU
open PySem.Builtin.List renaming listExtendWith->dq,listLengthHint->fT,listSameRef->jf,listItems->jG,listTooLong->mr,listUpdate->wJ
open Ne renaming symm->dz
open False renaming elim->dM
open PySem.PyData renaming tuple->eG,int->eJ,canLay0->ky,str->lr,canLayAll0->nQ,depthAll->qB,eqvAll->tf,eqv->tO,depth->BY
open PySem.Str renaming ofString->fk,join->AM
open PySem.Obj renaming mapSeq->fm
open PySem.Calls renaming spliced_cons->fK,Constant_str->nq,spliced_nil->ou,callWith_builtin->qy,evalArgs_plain->rX,Name_function_global->z9
open Int renaming toNat_natCast->gc,emod_nonneg->mJ,toNat_of_nonneg->mQ,emod_lt_of_pos->nU
open PySem.NameKind renaming free->gQ,cell->nD
open Array renaming length_toList->ij,getElem?_toList->ll,getElem?_eq_getElem->Ao
open True renaming intro->iM
open PySem.Builtin.Dict_items renaming ownedTupleIsFree->iO,ownsTuple->jW,ownedTupleFields->nR,pairFromOwner->o8
open PySem.Builtin.Slice renaming slicePlaces->iU,sliceAdjust->l8,sliceApplied->ux
open PySem.Builtin.Tuple renaming tupleExact->jc
open ForInStep renaming yield->jx
open PySem.Paired renaming length->jE
open Function renaming comp_def->kh
open PySem.Shared renaming TypeIs->lM,heap->qS
open PyProof.Rows.Boot renaming dict->mn
open List.cons renaming inj->ny,injEq->FA
open Option renaming map_eq_some_iff->pN,map_some->qz,isSome_iff_exists->Am
open PySem.Heap.SameBut renaming update->pO
open Sum.inr renaming inj->qM
open PySem.Around renaming under_plainId->qU
open Sum renaming inl->tJ,inr->wD
open Prod renaming fst->vC
open PySem.Builtin.Dict renaming updateFrom->wK,showsAll->xJ
open PySem.Builtin.Str renaming tooLong->An,glued->B0
open Char renaming toNat->As
open PySem.Builtin.Int renaming intBits->Au
open PySem.SeqAt.EqAt renaming int_str->BV,str_int->BW
open PySem.Expr renaming Constant->BZ
open PySem.IsL renaming update->Fo
namespace L2
open PySem PySem.Spec PyProof.Rows
noncomputable abbrev Key:=Sum Int Str
noncomputable def AN:Key->ah->Bool
 |.inl k,v=>Value.isInt k v
 |.inr x,v=>Value.isStrOf x v
noncomputable def oz(w:bH):Key->Int
 |.inl k=>hashInt k
 |.inr x=>hashStr w x
theorem gR:∀{k:Key}{v:ah},AN k v=true->(∃i t,k=tJ i/\v=BU i t)\/(∃x t,k=wD x/\v=wF x t)
 |.inl i,v,h=>by
  obtain⟨t,e⟩:=Value.isInt_shape (k:=i) (v:=v) h;exact .inl ⟨i,t,rfl,e⟩
 |.inr x,v,h=>by
  obtain⟨t,e⟩:=Value.isStrOf_shape (x:=x) (v:=v) h;exact .inr ⟨x,t,rfl,e⟩
theorem Jf(i:Int)(t:Tok):AN (.inl i) (.int i t)=true:=by simp[AN,Value.isInt]
theorem dv(x:Str)(t:Tok):AN (.inr x) (.str x t)=true:=by simp[AN,Value.isStrOf]
theorem RI(a b:Int):decide ((tJ a:Key)=tJ b)=(a==b):=by
 by_cases e:a=b
 ·subst e;simp
 ·have h:¬(tJ a:Key)=tJ b:=λq=>e (Sum.inl.inj q);rw[decide_eq_false h];exact(beq_eq_false_iff_ne.mpr e).symm
theorem RJ(a b:Str):decide ((wD a:Key)=wD b)=decide (a=b):=by
 by_cases e:a=b
 ·subst e;simp
 ·have h:¬(wD a:Key)=wD b:=λq=>e (qM q);rw[decide_eq_false h,decide_eq_false e]
theorem RK(a:Int)(b:Str):decide ((tJ a:Key)=wD b)=false:=decide_eq_false (λq=>nomatch q)
theorem RL(a:Str)(b:Int):decide ((wD a:Key)=tJ b)=false:=decide_eq_false (λq=>nomatch q)
noncomputable def dB(prog:aR)(w:bH):PySem.KeyKind prog w Key where
 is:=AN
 hash:=oz w
 inj:=λv a b ha hb=>by
  rcases gR ha with⟨i,t,rfl,rfl⟩|⟨x,t,rfl,rfl⟩
  ·rcases gR hb with⟨j,u,rfl,e⟩|⟨y,u,rfl,e⟩
   ·injection e with e1 _;rw[e1]
   ·exact nomatch e
  ·rcases gR hb with⟨j,u,rfl,e⟩|⟨y,u,rfl,e⟩
   ·exact nomatch e
   ·injection e with e1 _;rw[e1]
 byValue:=λk v h=>by
  rcases gR h with⟨i,t,rfl,rfl⟩|⟨x,t,rfl,rfl⟩<;>rfl
 pyHash:=λhv h=>by
  rcases gR hv with⟨i,t,rfl,rfl⟩|⟨x,t,rfl,rfl⟩
  ·exact wpAny_pyHash_int h
  ·exact wpAny_pyHash_str h
 eqBool:=λhu hv h=>by
  rcases gR hu with⟨i,t,rfl,rfl⟩|⟨x,t,rfl,rfl⟩
  ·rcases gR hv with⟨j,u,rfl,rfl⟩|⟨y,u,rfl,rfl⟩
   ·rw[RI]at h;exact wpAny_eqBool_int h
   ·rw[RK]at h;exact BV i t y u _ _ _ _ h
  ·rcases gR hv with⟨j,u,rfl,rfl⟩|⟨y,u,rfl,rfl⟩
   ·rw[RL]at h;exact BW x t j u _ _ _ _ h
   ·rw[RJ]at h;exact wpAny_eqBool_str h
 «strs»:=λk x t v h=>by
  rcases gR h with⟨i,u,rfl,e⟩|⟨y,u,rfl,e⟩
  ·exact nomatch e
  ·injection e with e1 _
   subst e1
   cases v<;>rfl
theorem Du(prog:aR)(w:bH)(i:Int)(t:Tok):(dB prog w).is (.inl i) (.int i t)=true:=Jf i t
theorem Dv(prog:aR)(w:bH)(x:Str)(t:Tok):(dB prog w).is (.inr x) (.str x t)=true:=dv x t
inductive V where
 |ip|bl (b:Bool)|int (i:Int)|str (x:Str)|Hs (b:Array UInt8)|wN (b:UInt64)|ref (a:aj)|ty (n:String)
 deriving DecidableEq
noncomputable def RelV:V->ah->Prop
 |.ip,u=>u=dZ
 |.bl b,u=>u=lL b
 |.int i,u=>∃t,u=BU i t
 |.str x,u=>∃t,u=wF x t
 |.Hs b,u=>∃t,u=Value.bytes b t
 |.wN b,u=>∃t,u=Value.float b t
 |.ref a,u=>u=cO a
 |.ty n,u=>u=jk n
noncomputable abbrev cX:List V->List ah->Prop:=Paired RelV
theorem cX.length{xs:List V}{us:List ah}(r:cX xs us):xs.length=us.length:=jE r
theorem cX.get:∀{xs:List V}{us:List ah}{i:Nat}{x:V},cX xs us->xs[i]?=some x->∃u,us[i]?=some u/\RelV x u
 |_,_,_,_,.nil,e=>by simp at e
 |_,_,0,_,.cons r _,e=>by simp at e;subst e;exact⟨_,rfl,r⟩
 |_,_,i+1,x,.cons _ t,e=>by
  obtain⟨u,h1,h2⟩:=cX.get (i:=i) (x:=x) t (by simpa using e);exact⟨u,by simpa using h1,h2⟩
theorem cX.set{x:V}{u:ah}(r:RelV x u):∀{xs:List V}{us:List ah}(i:Nat),cX xs us->cX (xs.set i x) (us.set i u)
 |_,_,_,.nil=>.nil
 |_,_,0,.cons _ t=>.cons r t
 |_,_,i+1,.cons q t=>.cons q (cX.set r i t)
theorem cX.append:∀{xs ys:List V}{us ws:List ah},cX xs us->cX ys ws->cX (xs++ys) (us++ws)
 |_,_,_,_,.nil,s=>s
 |_,_,_,_,.cons r t,s=>.cons r (cX.append t s)
theorem cX.take:∀{xs:List V}{us:List ah}(n:Nat),cX xs us->cX (xs.take n) (us.take n)
 |_,_,0,_=>.nil
 |_,_,_+1,.nil=>.nil
 |_,_,n+1,.cons r t=>.cons r (cX.take n t)
theorem cX.drop:∀{xs:List V}{us:List ah}(n:Nat),cX xs us->cX (xs.drop n) (us.drop n)
 |_,_,0,r=>r
 |_,_,_+1,.nil=>.nil
 |_,_,n+1,.cons _ t=>cX.drop n t
noncomputable def ym:Option V->Option ah->Prop
 |some v,some u=>RelV v u
 |none,none=>True
 |_,_=>False
noncomputable def KV{κ:Type}:List (κ×V)->List (κ×ah)->Prop:=Paired λ(p:κ×V)(q:κ×ah)=>p.1=q.1/\RelV p.2 q.2
noncomputable def kV:Key->V
 |.inl i=>.int i
 |.inr x=>.str x
inductive HO where
 |lst (xs:List V)
 |tup (xs:List V)
 |dK (bh:List (Key×V))|dT (bh:List (List Key×V))
 |set (S:Int->Bool) (n:Nat)
 |ins (C dx:aj) (fs:List (Str×V))
 |own (x:aj)
 |xd (fs:List (Str×V))
 |met (f x:aj)
 |YH (lo hi:Int)
 |pS (o:Obj) (u:HO)
 |Qd (ps:Array ah)
 |ext (φ:bS->Prop)
noncomputable abbrev Hp:=aj->Option HO
noncomputable def upd(H:Hp)(a:aj)(o:HO):Hp:=λb=>if b=a then some o else H b
theorem aW{H:Hp}{a:aj}{o:HO}:upd H a o a=some o:=by unfold upd;rw[if_pos rfl]
theorem bP{H:Hp}{a b:aj}{o:HO}(h:b≠a):upd H a o b=H b:=by unfold upd;rw[if_neg h]
theorem qV{H:Hp}{a b:aj}{o u:HO}(h:H a=some o)(h':H b=some u)(d:o≠u):a≠b:=by
 intro e;subst e;rw[h]at h';exact d (bE h')
theorem cn{H:Hp}{a b:aj}{o:HO}(h:H a=some o)(h':H b=none):a≠b:=by
 intro e;subst e;rw[h]at h';cases h'
section
variable (P:aR)(w:bH)
noncomputable def fR(H:Hp)(h:bS)(a:aj):HO->Prop
 |.lst xs=>xs.length<=av/\∃(cq:List ah)(n:Nat),cX xs cq/\h.get? a=some {cls:=.type "list",data:=.seq cq.toArray n}
 |.tup xs=>xs.length<=av/\∃cq:List ah,cX xs cq/\IsTup h a cq.toArray
 |.dK bh=>bh.length<=av/\(a==sysModules)=false/\∃vs,KV bh vs/\h.DictOf (dB P w) a vs
 |.dT bh=>bh.length<=av/\(a==sysModules)=false/\∃xs:List (List Key×aj×ah),
   Paired (λ(p:List Key×V)(q:List Key×aj×ah)=>p.1=q.1/\H q.2.1=some (.tup (p.1.map kV))/\RelV p.2 q.2.2) bh xs/\
   ∃o es ep,h.get? a=some o/\o.ExactDict/\o.data = .dict es ep/\es.toList=xs.map (entryOfKey (tupleKind (dB P w)))/\(xs.map (·.1)).Nodup
 |.set S n=>h.SetOf (intKind P w) a S n
 |.ins C dx fs=>H dx=some (.own a)/\fs.length<=1000/\dx≠a/\h.get? a=some (wG C dx)/\
   ∃mA,h.Ns1 dx mA/\(∀f,ym (fs.lookup f) (mA f))/\PySem.Within mA (fs.map (·.1))
 |.own _=>∃o,h.get? a=some o
 |.xd fs=>∃mA,h.Ns1 a mA/\∀f,ym (fs.lookup f) (mA f)
 |.YH lo hi=>∃t u v,h.get? a=some {cls:=.type "range",data:=.fields #[.int lo t,.int hi u,.int 1 v]}
 |.pS o u=>h.get? a=some o/\fR H h a u
 |.Qd ps=>h.get? a=some {cls:=.none,data:=.fields ps}
 |.met f x=>h.get? a=some (uw (.ref f) (.ref x))
 |.ext φ=>φ h/\(∃o,h.get? a=some o)/\∀h1 h2:bS,φ h1->(∀o,h1.get? a=some o->h2.get? a=some o)->φ h2
noncomputable def qP(H:Hp)(h:bS):Prop:=∀a o,H a=some o->fR P w H h a o
end
section
variable {P:aR}{w:bH}{H H':Hp}{h h':bS}{a:aj}{o:HO}
theorem fR.lt(x:fR P w H h a o):a<h.objs.size:=by
 cases o with
 |lst xs=>obtain⟨_,_,_,_,e⟩:=x;exact aC e
 |tup xs=>obtain⟨_,_,_,p⟩:=x;exact p.lt
 |dK bh=>obtain⟨_,_,_,_,o,_,_,e,_⟩:=x;exact aC e
 |dT bh=>obtain⟨_,_,_,_,o,_,_,e,_⟩:=x;exact aC e
 |set S n=>obtain⟨o,_,_,_,e,_⟩:=x;exact aC e
 |ins C dx fs=>obtain⟨_,_,_,e,_⟩:=x;exact aC e
 |own y=>obtain⟨_,e⟩:=x;exact aC e
 |xd fs=>obtain⟨_,⟨_,_,_,e,_⟩,_⟩:=x;exact aC e
 |YH lo hi=>obtain⟨_,_,_,e⟩:=x;exact aC e
 |pS ob u=>obtain⟨e,_⟩:=x;exact aC e
 |Qd ps=>exact aC (show h.get? a=some _ from x)
 |met f y=>exact aC (show h.get? a=some _ from x)
 |ext φ=>obtain⟨_,⟨_,e⟩,_⟩:=x;exact aC e
theorem Paired.RM{α β:Type}{F G:α->β->Prop}:∀{Wx:List α}{Wy:List β},Paired F Wx Wy->(∀a b,F a b->G a b)->Paired G Wx Wy
 |_,_,.nil,_=>.nil
 |_,_,.cons r t,f=>.cons (f _ _ r) (Paired.RM t f)
theorem fR.vE(x:fR P w H h a o)(k:∀b u,(b=a\/H b=some (.own a))->h.get? b=some u->h'.get? b=some u)(ho:∀b,H b=some (.own a)->H' b=some (.own a))(ht:∀b xs,H b=some (.tup xs)->H' b=some (.tup xs)):fR P w H' h' a o:=by
 induction o with
 |lst xs=>obtain⟨z,cq,n,r,e⟩:=x;exact⟨z,cq,n,r,k _ _ (.inl rfl) e⟩
 |tup xs=>obtain⟨z,cq,r,ob,e,c⟩:=x;exact⟨z,cq,r,ob,k _ _ (.inl rfl) e,c⟩
 |dK bh=>obtain⟨z,y,vs,r,ob,es,ep,e,c⟩:=x;exact⟨z,y,vs,r,ob,es,ep,k _ _ (.inl rfl) e,c⟩
 |dT bh=>
  obtain⟨z,y,xs,r,ob,es,ep,e,c⟩:=x;exact⟨z,y,xs,Paired.RM r λp q z=>⟨z.1,ht _ _ z.2.1,z.2.2⟩,ob,es,ep,k _ _ (.inl rfl) e,c⟩
 |set S n=>obtain⟨ob,es,ep,t,e,c⟩:=x;exact⟨ob,es,ep,t,k _ _ (.inl rfl) e,c⟩
 |ins C dx fs=>
  obtain⟨d,z,ne,e,mA,⟨od,es,ep,e2,c⟩,r⟩:=x;exact⟨ho _ d,z,ne,k _ _ (.inl rfl) e,mA,⟨od,es,ep,k _ _ (.inr d) e2,c⟩,r⟩
 |own y=>obtain⟨ob,e⟩:=x;exact⟨ob,k _ _ (.inl rfl) e⟩
 |xd fs=>obtain⟨mA,⟨od,es,ep,e,c⟩,r⟩:=x;exact⟨mA,⟨od,es,ep,k _ _ (.inl rfl) e,c⟩,r⟩
 |YH lo hi=>obtain⟨t,u,v,e⟩:=x;exact⟨t,u,v,k _ _ (.inl rfl) e⟩
 |pS ob u ih=>obtain⟨e,q⟩:=x;exact⟨k _ _ (.inl rfl) e,ih q⟩
 |Qd ps=>
  have e:h.get? a=some {cls:=.none,data:=.fields ps}:=x;show h'.get? a=some {cls:=.none,data:=.fields ps};exact k a _ (.inl rfl) e
 |met f y=>
  have e:h.get? a=some (uw (.ref f) (.ref y)):=x;show h'.get? a=some (uw (.ref f) (.ref y));exact k a _ (.inl rfl) e
 |ext φ=>obtain⟨p,⟨o,e⟩,st⟩:=x;exact⟨st _ _ p λo q=>k _ _ (.inl rfl) q,⟨o,k _ _ (.inl rfl) e⟩,st⟩
theorem qP.lt(x:qP P w H h)(e:H a=some o):a<h.objs.size:=(x a o e).lt
theorem qP.fresh(x:qP P w H h)(e:h.objs.size<=a):H a=none:=by
 cases q:H a with
 |none=>rfl
 |some u=>exact absurd (bw (x.lt q) e) (i8 _)
theorem qP.kept(x:qP P w H h)(k:∀b u,h.get? b=some u->h'.get? b=some u):qP P w H h':=λa o e=>
 (x a o e).vE (λb u _ q=>k b u q) (λ_ q=>q) λ_ _ q=>q
theorem qP.laid(x:qP P w H h)(k:∀b u,h.get? b=some u->h'.get? b=some u)(hp:h.objs.size<=a)(new:fR P w (upd H a o) h' a o):qP P w (upd H a o) h':=λb u e=>by
 have hn:=x.fresh hp;by_cases hb:b=a
 ·subst hb;rw[aW]at e;cases e;exact new
 ·rw[bP hb]at e;exact(x b u e).vE (λc v _ q=>k c v q) (λc q=>by rw[bP (cn q hn)];exact q) λc xs q=>by rw[bP (cn q hn)];exact q
end
noncomputable def Rd(H:Hp)(a:aj)(u:HO):Prop:=H a=some u\/∃o,H a=some (.pS o u)
theorem Rd.ok{P:aR}{w:bH}{H:Hp}{h:bS}{a:aj}{u:HO}(r:Rd H a u)(x:qP P w H h):fR P w H h a u:=by
 rcases r with r|⟨o,r⟩
 ·exact x a u r
 ·obtain⟨_,q⟩:=x a _ r;exact q
noncomputable def Wz:Option HO->Prop
 |some (.lst _)=>True
 |some (.dK _)=>True
 |some (.dT _)=>True
 |some (.set _ _)=>True
 |some (.ins _ _ _)=>True
 |some (.ext _)=>True
 |_=>False
section
variable {P:aR}{w:bH}{H:Hp}{h h':bS}{x e:aj}{o':HO}
theorem qP.write(ok:qP P w H h)(mu:Wz (H x))(he:e=x\/H e=some (.own x))(k:∀b u,b≠e->h.get? b=some u->h'.get? b=some u)(V3:∃u,h'.get? e=some u)(new:fR P w (upd H x o') h' x o'):qP P w (upd H x o') h':=λb u q=>by
 have WA:∀c y,H c=some (.own y)->c≠x:=λc y r z=>by subst z;rw[r]at mu;exact mu
 have ZN:∀c xs,H c=some (.tup xs)->c≠x:=λc xs r z=>by subst z;rw[r]at mu;exact mu
 by_cases hb:b=x
 ·subst hb;rw[aW]at q;cases q;exact new
 ·rw[bP hb]at q;by_cases RN:b=e
  ·have q':H b=some (.own x):=by
    rcases he with z|z
    ·exact absurd (RN.trans z) hb
    ·rw[RN];exact z
   rw[q]at q';cases q';obtain⟨v,hv⟩:=V3;exact⟨v,by rw[RN];exact hv⟩
  ·refine(ok b u q).vE (λc v hc r=>k c v ?_ r) (λc r=>by rw[bP (WA c b r)];exact r) λc xs r=>by rw[bP (ZN c xs r)];exact r
   rcases hc with rfl|hc
   ·exact RN
   ·rintro rfl;rcases he with z|z
    ·exact WA c b hc z
    ·rw[hc]at z;cases z;exact hb rfl
end
structure Un(fs ex:List aj)(H H':Hp)(h h':bS):Prop where
 keep:∀b o,h.get? b=some o->H b=none->b∉fs->b∉ex->h'.get? b=some o
 slot:∀b o,h.get? b=some o->H b=none->b∈fs->b∉ex->∃sl,h'.get? b=some {o with slots:=sl}
 free:∀b o,h.get? b=some o->H b=none->b∉ex->H' b=none
 there:∀b o,h.get? b=some o->b∉ex->∃o',h'.get? b=some o'
 uG:∀b xs,H b=some (.tup xs)->H' b=some (.tup xs)
 tS:∀b o u,H b=some (.pS o u)->H' b=some (.pS o u)
 uH:∀b ps,H b=some (.Qd ps)->∃more,H' b=some (.Qd (ps++more))
section
variable {fs ZO ex ex':List aj}{H H1 H2:Hp}{h h1 h2 h':bS}{a x e:aj}{o:HO}
theorem Un.any(u:Un fs ex H H1 h h1){b:aj}{ob:Obj}(q:h.get? b=some ob)(n:H b=none)(hx:b∉ex):∃sl,h1.get? b=some {ob with slots:=sl}:=by
 by_cases hb:b∈fs
 ·exact u.slot b ob q n hb hx
 ·exact⟨ob.slots,u.keep b ob q n hb hx⟩
theorem Un.trans(a:Un fs ex H H1 h h1)(b:Un fs ex H1 H2 h1 h2):Un fs ex H H2 h h2 where
 keep:=λc ob q n hc hx=>b.keep c ob (a.keep c ob q n hc hx) (a.free c ob q n hx) hc hx
 slot:=λc ob q n hc hx=>by
  obtain⟨sl,e1⟩:=a.slot c ob q n hc hx;obtain⟨ZP,e2⟩:=b.slot c _ e1 (a.free c ob q n hx) hc hx;exact⟨ZP,e2⟩
 free:=λc ob q n hx=>by
  obtain⟨o',e1⟩:=a.there c ob q hx;exact b.free c o' e1 (a.free c ob q n hx) hx
 there:=λc ob q hx=>by
  obtain⟨o',e1⟩:=a.there c ob q hx;exact b.there c o' e1 hx
 uG:=λc xs q=>b.uG c xs (a.uG c xs q)
 tS:=λc ob xs q=>b.tS c ob xs (a.tS c ob xs q)
 uH:=λc ps q=>by
  obtain⟨m1,e1⟩:=a.uH c ps q;obtain⟨m2,e2⟩:=b.uH c _ e1;exact⟨m1++m2,by rw[e2,Array.append_assoc]⟩
theorem Un.kept(k:∀b u,h.get? b=some u->h'.get? b=some u):Un fs ex H H h h':=
 ⟨λb ob q _ _ _=>k b ob q,λb ob q _ _ _=>⟨ob.slots,k b ob q⟩,λ_ _ _ n _=>n,λb ob q _=>⟨ob,k b ob q⟩,λ_ _ q=>q,λ_ _ _ q=>q,λ_ ps q=>⟨#[],by rw[q];simp⟩⟩
theorem Un.refl:Un fs ex H H h h:=Un.kept λ_ _ q=>q
theorem Un.laid(k:∀b u,h.get? b=some u->h'.get? b=some u)(hp:h.objs.size<=a)(hn:H a=none):Un fs ex H (upd H a o) h h' where
 keep:=λb u q _ _ _=>k b u q
 slot:=λb u q _ _ _=>⟨u.slots,k b u q⟩
 free:=λb u q n _=>by rw[bP (aZ (bw (aC q) hp))];exact n
 there:=λb u q _=>⟨u,k b u q⟩
 uG:=λb xs q=>by rw[bP (cn q hn)];exact q
 tS:=λb u xs q=>by rw[bP (cn q hn)];exact q
 uH:=λb ps q=>⟨#[],by rw[bP (cn q hn),q];simp⟩
theorem Un.write(mu:Wz (H x))(he:e=x\/H e=some (.own x))(k:∀b u,b≠e->h.get? b=some u->h'.get? b=some u)(V3:∃u,h'.get? e=some u):Un fs ex H (upd H x o) h h':=by
 have hx:∀b,H b=none->b≠x:=λb n z=>by subst z;rw[n]at mu;exact mu
 have hb:∀b,H b=none->b≠e:=λb n z=>by
  subst z;rcases he with r|r
  ·exact hx b n r
  ·rw[n]at r;cases r
 have hm:∀b u,H b=some u->¬Wz (some u)->b≠x:=λb u q nm z=>by subst z;rw[q]at mu;exact nm mu
 refine⟨λb u q n _ _=>k b u (hb b n) q,λb u q n _ _=>⟨u.slots,k b u (hb b n) q⟩,λb u q n _=>by rw[bP (hx b n)];exact n,λb u q _=>?_,
  λb xs q=>by rw[bP (hm b _ q λz=>z)];exact q,λb u xs q=>by rw[bP (hm b _ q λz=>z)];exact q,λb ps q=>⟨#[],by rw[bP (hm b _ q λz=>z),q];simp⟩⟩
 by_cases RN:b=e
 ·subst RN;exact V3
 ·exact⟨u,k b u RN q⟩
theorem Un.mono(u:Un fs ex H H1 h h1)(hs:∀b∈fs,b∈ZO)(hx:∀b∈ex,b∈ex'):Un ZO ex' H H1 h h1:=
 ⟨λb ob q n hb he=>u.keep b ob q n (λz=>hb (hs b z)) λz=>he (hx b z),λ_ _ q n _ he=>u.any q n λz=>he (hx _ z),λb ob q n he=>u.free b ob q n λz=>he (hx b z),λb ob q he=>u.there b ob q λz=>he (hx b z),u.uG,u.tS,u.uH⟩
end
noncomputable def FF(h:bS)(H:Hp):List aj:=(qI h.objs.size).filter λa=>(H a).isSome
noncomputable def B3(h:bS)(H:Hp):bS:=iL h (FF h H)
theorem Jg(h:bS)(H:Hp):(B3 h H).objs.size=h.objs.size:=PySem.W.hideAll_size _ _
theorem Kv{h:bS}{H:Hp}{b:aj}{o:Obj}(e:h.get? b=some o)(n:H b=none):(B3 h H).get? b=some o:=
 Ds _ e λhm=>by
  have q:(H b).isSome=true:=(yg.mp hm).2;rw[n]at q;simp at q
theorem NY{h:bS}{H:Hp}{b:aj}{o:Obj}(e:(B3 h H).get? b=some o):h.get? b=some o/\H b=none:=by
 have e':h.get? b=some o:=Fk (FF h H) e;refine⟨e',?_⟩;cases q:H b with
 |none=>rfl
 |some x=>
  have hm:b∈FF h H:=yg.mpr ⟨List.mem_range.mpr (aC e'),by simp[q]⟩;have z:(B3 h H).get? b=none:=PySem.W.hideAll_none (FF h H) hm;rw[z]at e;cases e
structure Mod(K:aa)(mg:Str->Option ah)(base:bS):Prop where
 Qe:K.In base
 glob:base.Ns bC mg
 blt:∃mb,base.Ns builtinsNs mb/\∀x:Str,x≠"__name__"->mb x=bootBuiltins x
 nolimit:base.NoLimit
structure Cx where
 prog:aR
 w:bH
 K:aa
 mg:Str->Option ah
 base:bS
 A:cj
 N:List Str
 jH:ai
 xo:Hp
 env:Env
 outer:List Env
 stack:List Env
 ex:List aj
 fn:Str->Bool
 calm:Bool
 pn:List (aj×Obj)
 xe:ah->ai->Prop
noncomputable def oY(l:List Env):List aj:=l.filterMap (·.frame)
noncomputable abbrev Cx.fs(X:Cx):List aj:=oY X.outer
noncomputable def AO(sc:Scope)(x:Str):Prop:=sc.names.lookup x=some .local\/sc.names.lookup x=some .cell\/sc.names.lookup x=some .free
noncomputable def Loc(sc:Scope)(x:Str):Prop:=sc.names.lookup x=some .local\/sc.names.lookup x=some .cell
noncomputable def Look(env:Env)(h:bS)(m:Str->Option ah)(x:Str)(u:ah):Prop:=
 (env.kindOf x=some .local/\m x=some u)\/((env.kindOf x=some .cell\/env.kindOf x=some .free)/\∃c,env.cells.lookup x=some c/\h.IsCell c (some u))
structure Cx.Ok(X:Cx):Prop where
 mod:Mod X.K X.mg X.base
 kind:X.env.scope.kind = .function
 glob:X.env.globals=bC
 blt:X.env.builtins=builtinsNs
 above:X.jH.heap.objs.size<=X.env.locals
 inj:∀x y c,X.env.cells.lookup x=some c->X.env.cells.lookup y=some c->x=y
 has:∀x,(X.env.kindOf x=some .cell\/X.env.kindOf x=some .free)->∃c,X.env.cells.lookup x=some c
 Qf:∀x c,X.fn x=true->X.env.cells.lookup x=some c->X.jH.heap.objs.size<=c
 hd:X.calm=true->X.A.handled=none
 frames:X.A.frames=some X.stack
 Dk:X.stack=X.outer\/(X.stack=X.env::X.outer/\X.env.frame=some X.env.locals)
 WB:∀b∈X.ex,b≠X.env.locals/\∀x c,X.env.cells.lookup x=some c->c≠b
 bs:∀b o,X.base.get? b=some o->X.jH.heap.get? b=some o/\X.xo b=none
 Kw:X.base.objs.size<=X.jH.heap.objs.size
 Dw:∀b o,X.base.get? b=some o->b∉X.ex
 FG:∀b∈X.ex,b∉X.fs
 uI:X.jH.heap.FunFrames X.base X.outer
 NZ:∀b∈X.fs,X.xo b=none
structure Inv(X:Cx)(pins:List (aj×Obj))(σ:List (Option V))(H:Hp)(s:ai):Prop where
 ok:X.Ok
 os:s.os=X.jH.os
 bare:AllBare s.gens
 base:Un X.fs X.ex X.xo H X.jH.heap s.heap
 loc:∃m,s.heap.Ns X.env.locals m/\∀(i:Nat)(x:Str)(v:V),X.N[i]?=some x->σ[i]?=some (some v)->AO X.env.scope x->∃u,RelV v u/\Look X.env s.heap m x u
 cell:∀x c,X.env.cells.lookup x=some c->∃v,s.heap.IsCell c v
 free:H X.env.locals=none
 o9:∀x c,X.env.cells.lookup x=some c->H c=none
 pin:∀p∈X.pn++pins,s.heap.get? p.1=some p.2/\H p.1=none/\p.1≠X.env.locals/\p.1∉X.fs/\∀v,p.2.data≠.cell v
 dS:qP X.prog X.w H s.heap
 len:σ.length=X.N.length
section
variable {X:Cx}{pins:List (aj×Obj)}{σ:List (Option V)}{H H':Hp}{s:ai}{h':bS}
theorem Cx.Ok.ZQ(ok:X.Ok){b:aj}{o:Obj}(e:X.base.get? b=some o):b∉X.fs:=λhb=>by
 have:=(ok.uI.mem hb).1;rw[e]at this;cases this
theorem Inv.bs(I:Inv X pins σ H s):∀b o,X.base.get? b=some o->s.heap.get? b=some o/\H b=none:=λb o e=>
 ⟨I.base.keep b o (I.ok.bs b o e).1 (I.ok.bs b o e).2 (I.ok.ZQ e) (I.ok.Dw b o e),I.base.free b o (I.ok.bs b o e).1 (I.ok.bs b o e).2 (I.ok.Dw b o e)⟩
theorem Inv.bk(I:Inv X pins σ H s):∀b o,X.base.get? b=some o->s.heap.get? b=some o:=λb o e=>(I.bs b o e).1
theorem Inv.mod(I:Inv X pins σ H s):Mod X.K X.mg X.base:=I.ok.mod
theorem Inv.uA(I:Inv X pins σ H s):X.K.In s.heap:=I.ok.mod.Qe.keeps I.bk
theorem Inv.lt(I:Inv X pins σ H s):X.env.locals<s.heap.objs.size:=let⟨_,hn,_⟩:=I.loc;hn.lt
theorem Inv.sz(I:Inv X pins σ H s):X.jH.heap.objs.size<=s.heap.objs.size:=aX I.ok.above (fj I.lt)
theorem Inv.WC(I:Inv X pins σ H s){a:aj}(h:s.heap.objs.size<=a):a∉X.fs:=λhb=>by
 obtain⟨_,o,ho,_⟩:=I.ok.uI.mem hb;exact absurd (bw (aC ho) (aX I.sz h)) (i8 _)
theorem Inv.RO(I:Inv X pins σ H s):∀x c,X.env.cells.lookup x=some c->c≠X.env.locals:=λx c e z=>by
 obtain⟨v,o,ho,hd⟩:=I.cell x c e;obtain⟨m,⟨o',es,ep,RP,Jh,_⟩,_⟩:=I.loc;rw[z,RP]at ho;cases ho;rw[Jh]at hd;cases hd
theorem Inv.uI(I:Inv X pins σ H s):s.heap.FunFrames X.base X.outer:=by
 have all:∀(l:List Env),(∀b∈oY l,b∈X.fs)->X.jH.heap.FunFrames X.base l->s.heap.FunFrames X.base l:=by
  intro l;induction l with
  |nil=>intro _ _;trivial
  |cons env r ih=>
   intro hs hl;obtain⟨hk,⟨L,o,hf,hn,ho,hd⟩,hr⟩:=hl;have hL:L∈X.fs:=hs L (by unfold oY;rw[mF,hf];exact aE);obtain⟨sl,e⟩:=I.base.slot L o ho (I.ok.NZ L hL) hL λz=>I.ok.FG L z hL;exact⟨hk,⟨L,_,hf,hn,e,hd⟩,ih (λb hb=>hs b (by unfold oY;rw[mF,hf];exact aU _ hb)) hr⟩
 exact all X.outer (λ_ hb=>hb) I.ok.uI
theorem Inv.stack(I:Inv X pins σ H s):s.heap.FunFrames X.base X.stack:=by
 rcases I.ok.Dk with e|⟨e,hf⟩
 ·rw[e];exact I.uI
 ·rw[e];obtain⟨m,hn,_⟩:=I.loc;refine .cons (by rw[I.ok.kind];decide) hf hn ?_ I.uI;exact Heap.get?_none_of_le (aX I.ok.Kw I.ok.above)
theorem Inv.FH(I:Inv X pins σ H s):∀b∈oY X.stack,b∈X.env.locals::X.fs:=λb hb=>by
 rcases I.ok.Dk with e|⟨e,hf⟩
 ·rw[e]at hb;exact aU _ hb
 ·rw[e]at hb;unfold oY at hb;rw[mF,hf]at hb;exact hb
theorem Inv.B4(I:Inv X pins σ H s):∀b∈oY X.stack,H b=none:=λb hb=>by
 rcases bf.mp (I.FH b hb)with e|hb
 ·rw[e];exact I.free
 ·obtain⟨_,o,ho,_⟩:=I.ok.uI.mem hb;exact I.base.free b o ho (I.ok.NZ b hb) λz=>I.ok.FG b z hb
theorem Inv.step{g':Array GenState}{t':Nat}{d':Drawn}{ch:List aj}(I:Inv X pins σ H s)(NS:∀b∈ch,(b∈X.ex\/X.jH.heap.objs.size<=b)/\b≠X.env.locals/\(∀x c,X.env.cells.lookup x=some c->c≠b)/\∀p∈X.pn++pins,p.1≠b)(keep:∀b o,b≠X.env.locals->b∉X.fs->b∉ch->s.heap.get? b=some o->H b=none->h'.get? b=some o)(slot:∀b o,b≠X.env.locals->b∈X.fs->b∉ch->s.heap.get? b=some o->H b=none->∃sl,h'.get? b=some {o with slots:=sl})(free:∀b o,b∉ch->s.heap.get? b=some o->H b=none->H' b=none)(there:∀b o,b∉ch->s.heap.get? b=some o->∃o',h'.get? b=some o')(uG:∀b xs,H b=some (.tup xs)->H' b=some (.tup xs))(tS:∀b o u,H b=some (.pS o u)->H' b=some (.pS o u))(uH:∀b ps,H b=some (.Qd ps)->∃more,H' b=some (.Qd (ps++more)))(ns:∀m,s.heap.Ns X.env.locals m->h'.Ns X.env.locals m)(dS:qP X.prog X.w H' h')(hg:AllBare g'):
  Inv X pins σ H' {s with heap:=h',gens:=g',drawn:=d',toks:=t'}:=by
 have YI:∀b o,X.jH.heap.get? b=some o->b≠X.env.locals:=λb o e=>aZ (bw (aC e) I.ok.above);have YJ:∀b o,X.jH.heap.get? b=some o->b∉X.ex->b∉ch:=λb o e hx hb=>by
  rcases(NS b hb).1 with z|z
  ·exact hx z
  ·exact absurd (bw (aC e) z) (i8 _)
 have cellK:∀x c,X.env.cells.lookup x=some c->∀v,s.heap.IsCell c v->h'.IsCell c v:=by
  rintro x c e v ⟨o,ho,hd⟩;have Qg:c∉ch:=λz=>(NS c z).2.2.1 x c e rfl;by_cases hc:c∈X.fs
  ·obtain⟨sl,q⟩:=slot c o (I.RO x c e) hc Qg ho (I.o9 x c e);exact⟨_,q,hd⟩
  ·exact⟨o,keep c o (I.RO x c e) hc Qg ho (I.o9 x c e),hd⟩
 refine⟨I.ok,I.os,hg,⟨λb o e n hb hx=>?_,λb o e n hb hx=>?_,λb o e n hx=>?_,λb o e hx=>?_,λb xs e=>uG b xs (I.base.uG b xs e),λb o xs e=>tS b o xs (I.base.tS b o xs e),λb ps e=>?_⟩,?_,λx c e=>?_,?_,λx c e=>?_,λp hp=>?_,dS,I.len⟩
 ·exact keep b o (YI b o e) hb (YJ b o e hx) (I.base.keep b o e n hb hx) (I.base.free b o e n hx)
 ·obtain⟨sl,e1⟩:=I.base.slot b o e n hb hx;obtain⟨ZP,e2⟩:=slot b _ (YI b o e) hb (YJ b o e hx) e1 (I.base.free b o e n hx);exact⟨ZP,e2⟩
 ·obtain⟨o',e1⟩:=I.base.there b o e hx;exact free b o' (YJ b o e hx) e1 (I.base.free b o e n hx)
 ·obtain⟨o',e1⟩:=I.base.there b o e hx;exact there b o' (YJ b o e hx) e1
 ·obtain⟨m1,e1⟩:=I.base.uH b ps e;obtain⟨m2,e2⟩:=uH b _ e1;exact⟨m1++m2,by rw[e2,Array.append_assoc]⟩
 ·obtain⟨m,hn,hl⟩:=I.loc;refine⟨m,ns m hn,λi x v e1 e2 e3=>?_⟩;obtain⟨u,r,l⟩:=hl i x v e1 e2 e3;refine⟨u,r,?_⟩;rcases l with l|⟨k,c,e,z⟩
  ·exact .inl l
  ·exact .inr ⟨k,c,e,cellK x c e _ z⟩
 ·obtain⟨v,z⟩:=I.cell x c e;exact⟨v,cellK x c e v z⟩
 ·obtain⟨m,⟨o,_,_,ho,_⟩,_⟩:=I.loc;exact free _ o (λz=>(NS _ z).2.1 rfl) ho I.free
 ·obtain⟨v,o,ho,hd⟩:=I.cell x c e;exact free c o (λz=>(NS c z).2.2.1 x c e rfl) ho (I.o9 x c e)
 ·obtain⟨e,n,ne,nf,d⟩:=I.pin p hp;have Qg:p.1∉ch:=λz=>(NS p.1 z).2.2.2 p hp rfl;exact⟨keep p.1 p.2 ne nf Qg e n,free p.1 p.2 Qg e n,ne,nf,d⟩
theorem Inv.un{t':Nat}(I:Inv X pins σ H s)(u:Un X.fs [] H H' s.heap h')(dS:qP X.prog X.w H' h'):Inv X pins σ H' {s with heap:=h',toks:=t'}:=by
 obtain⟨m,⟨o,es,ep,ho,r⟩,_⟩:=id I.loc;obtain⟨sl,hL⟩:=u.any ho I.free (by simp)
 exact I.step (g':=s.gens) (d':=s.drawn) (ch:=[]) (λ_ z=>nomatch z) (λb o _ hb _ e n=>u.keep b o e n hb (by simp)) (λb o _ hb _ e n=>u.slot b o e n hb (by simp)) (λb o _ e n=>u.free b o e n (by simp)) (λb o _ e=>u.there b o e (by simp)) u.uG u.tS u.uH (λm' hm=>by
  obtain⟨o',YK,YL,RP,r'⟩:=hm;rw[ho]at RP;cases RP
  exact⟨_,YK,YL,hL,r'⟩) dS I.bare
theorem Inv.call{g':Array GenState}{t':Nat}{d':Drawn}{ch:List aj}(I:Inv X pins σ H s)(u:Un (oY X.stack) ch H H' s.heap h')(dS:qP X.prog X.w H' h')(hg:AllBare g')(NS:∀b∈ch,(b∈X.ex\/X.jH.heap.objs.size<=b)/\b≠X.env.locals/\(∀x c,X.env.cells.lookup x=some c->c≠b)/\∀p∈X.pn++pins,p.1≠b):
  Inv X pins σ H' {s with heap:=h',gens:=g',drawn:=d',toks:=t'}:=by
 obtain⟨m,⟨o,es,ep,ho,r⟩,_⟩:=id I.loc;obtain⟨sl,hL⟩:=u.any ho I.free λz=>(NS _ z).2.1 rfl
 exact I.step (ch:=ch) NS (λb o hL hb hc e n=>u.keep b o e n (λz=>(bf.mp (I.FH b z)).elim hL hb) hc) (λb o _ _ hc e n=>u.any e n hc) (λb o hc e n=>u.free b o e n hc) (λb o hc e=>u.there b o e hc) u.uG u.tS u.uH (λm' hm=>by
  obtain⟨o',YK,YL,RP,r'⟩:=hm;rw[ho]at RP;cases RP
  exact⟨_,YK,YL,hL,r'⟩) dS hg
theorem Inv.turned{t':Nat}{it:aj}(I:Inv X pins σ H s)(k:∀b o,b≠it->s.heap.get? b=some o->h'.get? b=some o)(hn:H it=none)(hL:it≠X.env.locals)(h1:it∈X.ex\/X.jH.heap.objs.size<=it)(h2:∀x c,X.env.cells.lookup x=some c->c≠it)(h3:∀p∈X.pn++pins,p.1≠it):Inv X pins σ H {s with heap:=h',toks:=t'}:=by
 have nit:∀b u,H b=some u->b≠it:=λb u e z=>by rw[z,hn]at e;cases e
 refine I.step (g':=s.gens) (d':=s.drawn) (ch:=[it]) (λb hb=>?_) (λb o _ _ hc e _=>k b o (λz=>hc (by simp[z])) e) (λb o _ _ hc e _=>⟨o.slots,k b o (λz=>hc (by simp[z])) e⟩) (λ_ _ _ _ n=>n)
  (λb o hc e=>⟨o,k b o (λz=>hc (by simp[z])) e⟩) (λ_ _ e=>e) (λ_ _ _ e=>e) (λb ps e=>⟨#[],by rw[e];simp⟩) (λm hm=>?_) (λb u e=>?_) I.bare
 ·have e:b=it:=by simpa using hb
  subst e;exact⟨h1,hL,h2,h3⟩
 ·obtain⟨o,es,ep,ho,r⟩:=hm;exact⟨o,es,ep,k _ o (dz hL) ho,r⟩
 ·refine(I.dS b u e).vE (λc v hc q=>k c v ?_ q) (λ_ q=>q) λ_ _ q=>q;rcases hc with z|z
  ·rw[z];exact nit b u e
  ·exact nit c _ z
theorem Inv.tok(I:Inv X pins σ H s)(t:Nat):Inv X pins σ H {s with toks:=t}:=I.un (h':=s.heap) (t':=t) Un.refl I.dS
theorem Inv.kept{t':Nat}(I:Inv X pins σ H s)(k:∀b u,s.heap.get? b=some u->h'.get? b=some u):Inv X pins σ H {s with heap:=h',toks:=t'}:=I.un (Un.kept k) (I.dS.kept k)
theorem Inv.laid{a:aj}{o:HO}{t':Nat}(I:Inv X pins σ H s)(k:∀b u,s.heap.get? b=some u->h'.get? b=some u)(hp:s.heap.objs.size<=a)(new:fR X.prog X.w (upd H a o) h' a o):
  Inv X pins σ (upd H a o) {s with heap:=h',toks:=t'}:=I.un (Un.laid k hp (I.dS.fresh hp)) (I.dS.laid k hp new)
theorem Inv.write{x e:aj}{o:HO}{t':Nat}(I:Inv X pins σ H s)(mu:Wz (H x))(he:e=x\/H e=some (.own x))(k:∀b u,b≠e->s.heap.get? b=some u->h'.get? b=some u)(V3:∃u,h'.get? e=some u)(new:fR X.prog X.w (upd H x o) h' x o):Inv X pins σ (upd H x o) {s with heap:=h',toks:=t'}:=I.un (Un.write mu he k V3) (I.dS.write mu he k V3 new)
theorem Inv.rZ{j6:List (aj×Obj)}(I:Inv X pins σ H s)(h:∀p∈j6,s.heap.get? p.1=some p.2/\H p.1=none/\p.1≠X.env.locals/\p.1∉X.fs/\∀v,p.2.data≠.cell v):Inv X j6 σ H s:=
 ⟨I.ok,I.os,I.bare,I.base,I.loc,I.cell,I.free,I.o9,λp hp=>(bj.mp hp).elim (λz=>I.pin p (bZ _ z)) (h p),I.dS,I.len⟩
theorem qW{N:List Str}(hN:N.Nodup){i j:Nat}{x:Str}(a:N[i]?=some x)(b:N[j]?=some x):i=j:=by
 obtain⟨h1,e1⟩:=ak.mp a;obtain⟨h2,e2⟩:=ak.mp b;exact(List.getElem_inj hN).mp (e1.trans e2.symm)
theorem AQ{M:Model}{A:cj}{E:ah->ai->Prop}{i:Nat}{x:Str}{v:V}{u:ah}{Q:Unit->ai->Prop}(I:Inv X pins σ H s)(hN:X.N.Nodup)(hi:X.N[i]?=some x)(hx:Loc X.env.scope x)(r:RelV v u)(h:∀s',Inv X pins (σ.set i (some v)) H s'->(∃a,gx a s.heap s'.heap/\(a=X.env.locals\/X.env.cells.lookup x=some a))->Q () s')(hf:X.fn x=true\/X.env.scope.names.lookup x=some .local:=by first|exact .inl rfl|exact .inr rfl|assumption):aH M A (storeName X.env x u) Q E s:=by
 obtain⟨m,hn,hl⟩:=id I.loc;have ZR:(X.env.scope.kind == .class||(X.env.scope.kind == .module&&X.env.locals != X.env.globals))=false:=by rw[I.ok.kind];rfl
 have WD:i<σ.length:=by rw[I.len];exact(ak.mp hi).1
 have RO:=I.RO;have tracked:∀{a:aj}{h':bS},(∃o,s.heap.get? a=some o/\H a=none)->gx a s.heap h'->qP X.prog X.w H h':=λ{a h'} ha hs b ob e=>by
  obtain⟨_,_,Qh⟩:=ha;refine(I.dS b ob e).vE (λc w' hc q=>(hs.2 c ?_).trans q) (λ_ q=>q) λ_ _ q=>q;rintro rfl;rcases hc with rfl|hc
  ·rw[Qh]at e;cases e
  ·rw[Qh]at hc;cases hc
 rcases hx with hk|hk
 ·refine wpAny_storeName_local hk hn (λh' hn' hs=>?_) ZR;obtain⟨oL,_,_,hoL,_⟩:=id hn;refine h _ ⟨I.ok,I.os,I.bare,⟨λb o e n hb hx=>?_,λb o e n hb hx=>?_,I.base.free,λb o e hx=>?_,I.base.uG,I.base.tS,I.base.uH⟩,⟨_,hn',λj y v' e1 e2 e3=>?_⟩,λy c e=>?_,I.free,I.o9,λp hp=>?_,tracked ⟨oL,hoL,I.free⟩ hs,by simpa using I.len⟩ ⟨_,hs,.inl rfl⟩
  ·exact(hs.2 b (aZ (bw (aC e) I.ok.above))).trans (I.base.keep b o e n hb hx)
  ·obtain⟨sl,e1⟩:=I.base.slot b o e n hb hx;exact⟨sl,(hs.2 b (aZ (bw (aC e) I.ok.above))).trans e1⟩
  ·obtain⟨o',e1⟩:=I.base.there b o e hx;exact⟨o',(hs.2 b (aZ (bw (aC e) I.ok.above))).trans e1⟩
  ·by_cases hj:j=i
   ·subst hj;rw[hi]at e1;cases e1;rw[kT WD]at e2;cases e2;exact⟨u,r,.inl ⟨hk,by simp⟩⟩
   ·rw[hU (dz hj)]at e2;obtain⟨u',r',q⟩:=hl j y v' e1 e2 e3;refine⟨u',r',?_⟩;rcases q with⟨k,e⟩|⟨k,c,e,z⟩
    ·refine .inl ⟨k,?_⟩;have:y≠x:=λe=>hj (qW hN e1 (e ▸ hi));simp[this,e]
    ·exact .inr ⟨k,c,e,z.sameBut hs (RO y c e)⟩
  ·obtain⟨w',z⟩:=I.cell y c e;exact⟨w',z.sameBut hs (RO y c e)⟩
  ·obtain⟨e,n,ne,nf,d⟩:=I.pin p hp;exact⟨(hs.2 p.1 ne).trans e,n,ne,nf,d⟩
 ·have ZS:X.fn x=true:=by
   rcases hf with z|z
   ·exact z
   ·rw[z]at hk;cases hk
  obtain⟨c,hc⟩:=I.ok.has x (.inl hk);obtain⟨w',z⟩:=I.cell x c hc;refine wpAny_storeName_cell I.ok.kind hk hc z (λh' Fu hs=>?_);obtain⟨oc,WE,ZT⟩:=id z;refine h {s with heap:=h'} ⟨I.ok,I.os,I.bare,⟨λb o e n hb hx=>?_,λb o e n hb hx=>?_,I.base.free,λb o e hx=>?_,I.base.uG,I.base.tS,I.base.uH⟩,⟨m,hn.sameBut hs (dz (RO x c hc)),λj y v' e1 e2 e3=>?_⟩,λy c' e=>?_,I.free,I.o9,λp hp=>?_,tracked ⟨oc,WE,I.o9 x c hc⟩ hs,by simpa using I.len⟩ ⟨c,hs,.inr hc⟩
  ·exact(hs.2 b (aZ (bw (aC e) (I.ok.Qf x c ZS hc)))).trans (I.base.keep b o e n hb hx)
  ·obtain⟨sl,e1⟩:=I.base.slot b o e n hb hx;exact⟨sl,(hs.2 b (aZ (bw (aC e) (I.ok.Qf x c ZS hc)))).trans e1⟩
  ·obtain⟨o',e1⟩:=I.base.there b o e hx;exact⟨o',(hs.2 b (aZ (bw (aC e) (I.ok.Qf x c ZS hc)))).trans e1⟩
  ·by_cases hj:j=i
   ·subst hj;rw[hi]at e1;cases e1;rw[kT WD]at e2;cases e2;exact⟨u,r,.inr ⟨.inl hk,c,hc,Fu⟩⟩
   ·rw[hU (dz hj)]at e2;obtain⟨u',r',q⟩:=hl j y v' e1 e2 e3;refine⟨u',r',?_⟩;rcases q with q|⟨k,c',e,z'⟩
    ·exact .inl q
    ·refine .inr ⟨k,c',e,z'.sameBut hs ?_⟩;rintro rfl;exact hj (qW hN e1 (I.ok.inj _ _ _ e hc ▸ hi))
  ·by_cases YM:c'=c
   ·subst YM;exact⟨_,Fu⟩
   ·obtain⟨w2,z2⟩:=I.cell y c' e;exact⟨w2,z2.sameBut hs YM⟩
  ·obtain⟨e,n,ne,nf,d⟩:=I.pin p hp;refine⟨(hs.2 p.1 ?_).trans e,n,ne,nf,d⟩;intro q;rw[q,WE]at e;have q':oc=p.2:=bE e;exact d w' (by rw[<-q'];exact ZT)
theorem uJ{M:Model}{A:cj}{E:ah->ai->Prop}{i:Nat}{x:Str}{v:V}{u:ah}{Q:Unit->ai->Prop}(I:Inv X pins σ H s)(hN:X.N.Nodup)(hi:X.N[i]?=some x)(hx:Loc X.env.scope x)(r:RelV v u)(h:∀s',Inv X pins (σ.set i (some v)) H s'->Q () s')(hf:X.fn x=true\/X.env.scope.names.lookup x=some .local:=by first|exact .inl rfl|exact .inr rfl|assumption):aH M A (storeName X.env x u) Q E s:=
 AQ I hN hi hx r (λs' I' _=>h s' I') hf
theorem Inv.Qi{s':ai}{ch:List aj}(I:Inv X pins σ H s)(ho:s'.os=s.os)(u:Un (oY X.stack) ch H H' s.heap s'.heap)(dS:qP X.prog X.w H' s'.heap)(hg:AllBare s'.gens)(NS:∀b∈ch,(b∈X.ex\/X.jH.heap.objs.size<=b)/\b≠X.env.locals/\(∀x c,X.env.cells.lookup x=some c->c≠b)/\∀p∈X.pn++pins,p.1≠b):Inv X pins σ H' s':=by
 obtain⟨h',g',d',t',o'⟩:=s';have e:o'=s.os:=ho;subst e;exact I.call (g':=g') (t':=t') (d':=d') u dS hg NS
end
noncomputable abbrev XK:=ah->Option aj->Hp->Prop
noncomputable abbrev St:=List (Option V)
noncomputable abbrev VK:=V->Hp->Prop
noncomputable abbrev TE:=St->Hp->VK->Prop
noncomputable abbrev TT:=St->Hp->(Bool->Hp->Prop)->Prop
noncomputable abbrev TA:=St->Hp->(List V->Hp->Prop)->Prop
structure Ends where
 nx:St->Hp->Prop
 rt:VK
 bk:St->Hp->Prop:=λ_ _=>False
 ct:St->Hp->Prop:=λ_ _=>False
noncomputable abbrev TS:=Ends->St->Hp->Prop
noncomputable def EP(X:Cx)(pins:List (aj×Obj))(σ:St)(Q:VK)(u:ah)(s':ai):Prop:=∃v H',Inv X pins σ H' s'/\RelV v u/\Q v H'
noncomputable def TP(X:Cx)(pins:List (aj×Obj))(σ:St)(Q:Bool->Hp->Prop)(b:Bool)(s':ai):Prop:=∃H',Inv X pins σ H' s'/\Q b H'
noncomputable def AP(X:Cx)(pins:List (aj×Obj))(σ:St)(Q:List V->Hp->Prop)(us:List ah)(s':ai):Prop:=∃vs H',Inv X pins σ H' s'/\cX vs us/\Q vs H'
noncomputable def SP(X:Cx)(pins:List (aj×Obj))(D:Ends)(f:Flow)(s':ai):Prop:=
 match f with
 |.next=>∃dI H',Inv X pins dI H' s'/\D.nx dI H'
 |.brk=>∃dI H',Inv X pins dI H' s'/\D.bk dI H'
 |.cont=>∃dI H',Inv X pins dI H' s'/\D.ct dI H'
 |.ret u=>∃v dI H',Inv X pins dI H' s'/\RelV v u/\D.rt v H'
noncomputable def PE(X:Cx)(e:bc)(t:TE):Prop:=
 ∀(pins:List (aj×Obj)) (s:ai) (σ:St) (H:Hp) (Q:VK),Inv X pins σ H s->t σ H Q->aH (model X.prog X.w) X.A (eval e X.env) (EP X pins σ Q) X.xe s
noncomputable def PT(X:Cx)(e:bc)(t:TT):Prop:=
 ∀(pins:List (aj×Obj)) (s:ai) (σ:St) (H:Hp) (Q:Bool->Hp->Prop),Inv X pins σ H s->t σ H Q->aH (model X.prog X.w) X.A (isTrue e X.env (eval e X.env)) (TP X pins σ Q) X.xe s
noncomputable def PW(X:Cx)(e:bc)(t:TT):Prop:=
 ∀(whole:Sem ah) (pins:List (aj×Obj)) (s:ai) (σ:St) (H:Hp) (Q:Bool->Hp->Prop),Inv X pins σ H s->t σ H Q->aH (model X.prog X.w) X.A (isTrue e X.env whole) (TP X pins σ Q) X.xe s
theorem PW.pt{X:Cx}{e:bc}{t:TT}(h:PW X e t):PT X e t:=h _
noncomputable def PA(X:Cx)(es:List bc)(t:TA):Prop:=
 ∀(pos:Pos) (pins:List (aj×Obj)) (s:ai) (σ:St) (H:Hp) (Q:List V->Hp->Prop),Inv X pins σ H s->t σ H Q->aH (model X.prog X.w) X.A (spliced (cG pos (ao es X.env))) (AP X pins σ Q) X.xe s
noncomputable def PS(X:Cx)(st:b9)(t:TS):Prop:=
 ∀(pins:List (aj×Obj)) (s:ai) (σ:St) (H:Hp) (D:Ends),Inv X pins σ H s->t D σ H->aH (model X.prog X.w) X.A (exec st X.env) (SP X pins D) X.xe s
noncomputable def qD(X:Cx)(st:List b9)(t:TS):Prop:=
 ∀(pins:List (aj×Obj)) (s:ai) (σ:St) (H:Hp) (D:Ends),Inv X pins σ H s->t D σ H->aH (model X.prog X.w) X.A (execs st X.env) (SP X pins D) X.xe s
theorem gb{α:Type}{t:Sem α}{Q Q':α->ai->Prop}{M:Model}{A:cj}{E:ah->ai->Prop}{s:ai}(h:aH M A t Q E s)(hQ:∀a s,Q a s->Q' a s):aH M A t Q' E s:=bO h hQ λ_ _ x=>x
section
variable {X:Cx}
theorem bin{a b:bc}{ta tb:TE}(ha:PE X a ta)(hb:PE X b tb){pins:List (aj×Obj)}{s:ai}{σ:St}{H:Hp}{R:V->V->Hp->Prop}(I:Inv X pins σ H s)(h:ta σ H λx H1=>tb σ H1 λy H2=>R x y H2){α:Type}{Q:α->ai->Prop}{f:ah->ah->Sem α}(hf:∀v u s2 x y H2,Inv X pins σ H2 s2->RelV x v->RelV y u->R x y H2->aH (model X.prog X.w) X.A (f v u) Q X.xe s2):
  aH (model X.prog X.w) X.A (eval a X.env) (λv fZ=>aH (model X.prog X.w) X.A (eval b X.env) (λu uK=>aH (model X.prog X.w) X.A (f v u) Q X.xe uK) X.xe fZ) X.xe s:=by
 refine gb (ha pins s σ H _ I h) λ v s1  zq0=>?_;obtain ⟨x,H1,I1,r1,q1⟩:=zq0;refine gb (hb pins s1 σ H1 _ I1 q1) λ u s2  zq0=>?_;obtain ⟨y,H2,I2,r2,q2⟩:=zq0;exact hf v u s2 x y H2 I2 r1 r2 q2
noncomputable def FI(i:Nat):TE:=λσ H Q=>∃v,σ[i]?=some (some v)/\Q v H
noncomputable def tC(v:V):TE:=λ_ H Q=>Q v H
theorem gN{i:Nat}{x:Str}{pos:Pos}(hN:X.N[i]?=some x)(hv:AO X.env.scope x)(hd:(x==("__debug__":Str))=false:=by decide)(l9:(x==("__classdict__":Str))=false:=by decide):PE X (.Name x pos) (FI i):=by
 intro pins s σ H Q I h;obtain⟨v,e,h⟩:=h;obtain⟨m,hn,hl⟩:=I.loc;obtain⟨u,r,l⟩:=hl i x v hN e hv;have fin:EP X pins σ Q u s:=⟨v,H,I,r,h⟩;rcases l with⟨hk,hm⟩|⟨hk,c,hc,wO⟩
 ·exact wpAny_Name (wpAny_loadName_local I.ok.kind hk hn hm fin) hd
 ·rcases hk with hk|hk
  ·exact wpAny_Name (wpAny_loadName_cell I.ok.kind hk hc wO fin) hd
  ·exact wpAny_Name (wpAny_loadName_free I.ok.kind hk hc wO fin l9) hd
theorem cS{i j pos}:PE X (.Constant (.int i) j pos) (tC (.int i)):=λ_ _ _ H _ I h=>wpAny_Constant_int ⟨.int i,H,I.tok _,⟨_,rfl⟩,h⟩
theorem Kx{b j pos}:PE X (.Constant (.bool b) j pos) (tC (.bl b)):=λ_ _ _ H _ I h=>Constant_bool ⟨.bl b,H,I,rfl,h⟩
theorem Ky{j pos}:PE X (.Constant .none j pos) (tC .ip):=λ_ _ _ H _ I h=>Constant_none ⟨.ip,H,I,rfl,h⟩
theorem tU{x j pos}:PE X (.Constant (.str x) j pos) (tC (.str x)):=λ_ _ _ H _ I h=>nq ⟨.str x,H,I.tok _,⟨_,rfl⟩,h⟩
noncomputable def Gl(X:Cx)(x:Str):Prop:=X.env.kindOf x=some .globalImplicit
theorem pU{E:ah->ai->Prop}{pins:List (aj×Obj)}{s:ai}{σ:St}{H:Hp}{x:Str}{u:ah}{pos:Pos}{Q:ah->ai->Prop}(I:Inv X pins σ H s)(hg:Gl X x)(hm:X.mg x=some u)(h:Q u s)(hd:(x==("__debug__":Str))=false:=by decide):aH (model X.prog X.w) X.A (eval (.Name x pos) X.env) Q E s:=
 z9 I.ok.kind hg (Calls.loadGlobal_global (by rw[I.ok.glob];exact I.mod.glob.keeps I.bk) hm h) hd
theorem md{E:ah->ai->Prop}{pins:List (aj×Obj)}{s:ai}{σ:St}{H:Hp}{x:Str}{u:ah}{pos:Pos}{Q:ah->ai->Prop}(I:Inv X pins σ H s)(hg:Gl X x)(hm:X.mg x=none)(hv:bootBuiltins x=some u)(h:Q u s)(hn:x≠"__name__":=by decide)(hd:(x==("__debug__":Str))=false:=by decide):aH (model X.prog X.w) X.A (eval (.Name x pos) X.env) Q E s:=by
 obtain⟨mb,h1,h2⟩:=I.mod.blt;exact z9 I.ok.kind hg (Calls.loadGlobal_builtin (by rw[I.ok.glob];exact I.mod.glob.keeps I.bk) hm (by rw[I.ok.blt];exact h1.keeps I.bk) ((h2 x hn).trans hv) h) hd
theorem xR{x:Str}{v:V}{u:ah}{pos:Pos}(hg:Gl X x)(hm:X.mg x=some u)(r:RelV v u)(hd:(x==("__debug__":Str))=false:=by decide):PE X (.Name x pos) (tC v):=
 λ_ _ _ H _ I h=>pU I hg hm ⟨v,H,I,r,h⟩ hd
theorem N0{x:Str}{v:V}{u:ah}{pos:Pos}(hg:Gl X x)(hm:X.mg x=none)(hv:bootBuiltins x=some u)(r:RelV v u)(hn:x≠"__name__":=by decide)(hd:(x==("__debug__":Str))=false:=by decide):PE X (.Name x pos) (tC v):=
 λ_ _ _ H _ I h=>md I hg hm hv ⟨v,H,I,r,h⟩ hn hd
variable {a b:bc}{ta tb:TE}{pos:Pos}
noncomputable def PC(X:Cx)(op:CmpOp)(a b:bc)(t:TE):Prop:=
 ∀(pins:List (aj×Obj)) (s:ai) (σ:St) (H:Hp) (Q:VK),Inv X pins σ H s->t σ H Q->
  aH (model X.prog X.w) X.A (eval a X.env) (λv fZ=>aH (model X.prog X.w) X.A (eval b X.env) (λu uK=>aH (model X.prog X.w) X.A (compareOp op v u) (EP X pins σ Q) X.xe uK) X.xe fZ) X.xe s
theorem Kz(b:bc){op:CmpOp}(h:op≠.In)(h2:op≠.NotIn):behindInMarks op b=false:=by
 have e1:(op==CmpOp.In)=false:=by cases op<;>first|rfl|exact absurd rfl h
 have e2:(op==CmpOp.NotIn)=false:=by cases op<;>first|rfl|exact absurd rfl h2
 cases b<;>simp[behindInMarks,e1,e2]
noncomputable def WG(ta:TE):TE:=λσ H Q=>ta σ H λx H1=>Q (.bl (!decide (x = .ip))) H1
theorem RelV.KA{x:V}{v:ah}(r:RelV x v):(v==dZ)=decide (x = .ip):=by
 cases x with
 |ip=>cases r;rfl
 |bl _=>cases r;rfl
 |int _=>obtain⟨t,rfl⟩:=r;rfl
 |str _=>obtain⟨t,rfl⟩:=r;rfl
 |Hs _=>obtain⟨t,rfl⟩:=r;rfl
 |wN _=>obtain⟨t,rfl⟩:=r;rfl
 |ref _=>cases r;rfl
 |ty _=>cases r;rfl
theorem N1{j pos'}(ha:PE X a ta):PC X .IsNot a (.Constant .none j pos') (WG ta):=by
 intro pins s σ H Q I h;refine gb (ha pins s σ H _ I h) λ v s1  zq0=>?_;obtain ⟨x,H1,I1,r1,q1⟩:=zq0;exact Constant_none (isnot_none_gen ⟨.bl _,H1,I1,by rw[r1.KA];rfl,q1⟩)
noncomputable def tB(t:TE):TT:=λσ H Q=>t σ H λx H1=>∃c,x = .bl c/\Q c H1
theorem KC{op:CmpOp}{t:TE}(h:PC X op a b t)(h1:behindInMarks op b=false:=by first|exact Kz _ (by decide) (by decide)|rfl):PT X (.Compare a [op] [b] pos) (tB t):=by
 intro pins s σ H Q I hw;refine wpAny_isTrue_Compare1 (gb (h pins s σ H _ I hw) λv s1 h1=>gb h1 λu s2 h2=>gb h2 λ c s3  zq0=>?_) h1;obtain ⟨x,H1,I1,r1,q1⟩:=zq0;obtain⟨d,rfl,q⟩:=q1;cases r1;exact iz ⟨H1,I1,q⟩
theorem RQ{e:bc}{t:TE}(h:PE X e t)(he:∀whole,isTrue e X.env whole=(do let v <-whole;standAt e.pos;holding [v] (truthy v)):=by intro _;rfl):PT X e (tB t):=by
 intro pins s σ H Q I hw;refine isTrue_plain (gb (h pins s σ H _ I hw) λ v s1  zq0=>?_) (he _);obtain ⟨x,H1,I1,r1,q1⟩:=zq0;obtain⟨d,rfl,q⟩:=q1;cases r1;exact iz ⟨H1,I1,q⟩
variable {tA V4:TT}{rest:List bc}
noncomputable def ZU(t u:TT):TT:=λσ H Q=>t σ H λc H1=>if c=true then u σ H1 Q else Q false H1
noncomputable def tOr(t u:TT):TT:=λσ H Q=>t σ H λc H1=>if c=true then Q true H1 else u σ H1 Q
noncomputable def ZV(t:TT):TT:=λσ H Q=>t σ H λc H1=>Q (!c) H1
theorem Ht(ha:PT X a tA):PW X (.BoolOp .And [a] pos) tA:=by
 intro wh pins s σ H Q I h;refine isTrue_and (gb (ha pins s σ H Q I h) λc s1 e=>?_);cases c with
 |true=>exact isTrue_and_nil e
 |false=>exact e
theorem FJ(ha:PT X a tA):PW X (.BoolOp .Or [a] pos) tA:=by
 intro wh pins s σ H Q I h;refine isTrue_or (gb (ha pins s σ H Q I h) λc s1 e=>?_);cases c with
 |false=>exact isTrue_or_nil e
 |true=>exact e
theorem FK(ha:PT X a tA)(hb:PW X (.BoolOp .And (b::rest) pos) V4):PW X (.BoolOp .And (a::b::rest) pos) (ZU tA V4):=by
 intro wh pins s σ H Q I h;refine isTrue_and (gb (ha pins s σ H _ I h) λ c s1  zq0=>?_);obtain ⟨H1,I1,q1⟩:=zq0;cases c with
 |true=>exact hb wh pins s1 σ H1 Q I1 q1
 |false=>exact⟨H1,I1,q1⟩
theorem Hu(ha:PT X a tA)(hb:PW X (.BoolOp .Or (b::rest) pos) V4):PW X (.BoolOp .Or (a::b::rest) pos) (tOr tA V4):=by
 intro wh pins s σ H Q I h;refine isTrue_or (gb (ha pins s σ H _ I h) λ c s1  zq0=>?_);obtain ⟨H1,I1,q1⟩:=zq0;cases c with
 |true=>exact⟨H1,I1,q1⟩
 |false=>exact hb wh pins s1 σ H1 Q I1 q1
theorem KD(ha:PT X a tA):PT X (.UnaryOp .Not a pos) (ZV tA):=by
 intro pins s σ H Q I h;exact isTrue_not (ha pins s σ H (λc H1=>Q (!c) H1) I h)
noncomputable def WH(ta tb:TE):TE:=λσ H Q=>ta σ H λx H1=>∃c,x = .bl c/\if c=true then tb σ H1 Q else Q (.bl false) H1
noncomputable def WI(ta:TE):TE:=λσ H Q=>ta σ H λx H1=>∃c,x = .bl c/\Q (.bl (!c)) H1
theorem RR{op}{t:TE}(h:PE X a t):PE X (.BoolOp op [a] pos) t:=λpins s σ H Q I hw=>BoolOp_one (h pins s σ H Q I hw)
theorem KE(ha:PE X a ta)(hb:PE X (.BoolOp .And (b::rest) pos) tb):PE X (.BoolOp .And (a::b::rest) pos) (WH ta tb):=by
 intro pins s σ H Q I h;refine BoolOp_and (gb (ha pins s σ H _ I h) λ v s1  zq0=>?_);obtain ⟨x,H1,I1,r1,q1⟩:=zq0;obtain⟨c,rfl,q1⟩:=q1;cases r1;refine iz ?_;cases c with
 |true=>exact hb pins s1 σ H1 Q I1 q1
 |false=>exact⟨.bl false,H1,I1,rfl,q1⟩
theorem RS(ha:PE X a ta):PE X (.UnaryOp .Not a pos) (WI ta):=by
 intro pins s σ H Q I h;refine UnaryOp_ (gb (ha pins s σ H _ I h) λ v s1  zq0=>?_);obtain ⟨x,H1,I1,r1,q1⟩:=zq0;obtain⟨c,rfl,q1⟩:=q1;cases r1;exact not_of (iz ⟨.bl (!c),H1,I1,rfl,q1⟩)
noncomputable def tIf(t:TT)(ta tb:TE):TE:=λσ H Q=>t σ H λc H1=>if c=true then ta σ H1 Q else tb σ H1 Q
theorem Dx{c:bc}(hc:PT X c tA)(ha:PE X a ta)(hb:PE X b tb):PE X (.IfExp c a b pos) (tIf tA ta tb):=by
 intro pins s σ H Q I h;refine wpAny_IfExp (gb (hc pins s σ H _ I h) λ d s1  zq0=>?_);obtain ⟨H1,I1,q1⟩:=zq0;cases d with
 |true=>exact ha pins s1 σ H1 Q I1 q1
 |false=>exact hb pins s1 σ H1 Q I1 q1
end
noncomputable def fU(K:aa)(H:Hp)(a:aj)(xs:List V):Prop:=
 Rd H a (.lst xs)\/
  ∃(o:Obj)(cq:Array ah)(n:Nat),K.lookup a=some o/\o.cls = .type "list"/\o.dict=none/\o.data = .seq cq n/\cq.size<=av/\cX xs cq.toList
noncomputable def fF(K:aa)(H:Hp)(a:aj)(xs:List V):Prop:=
 Rd H a (.tup xs)\/
  ∃(o:Obj)(cq:Array ah)(n:Nat),K.lookup a=some o/\o.cls = .type "tuple"/\o.data = .seq cq n/\cq.size<=av/\cX xs cq.toList
noncomputable def ZW:ah->Option V
 |.none=>some .ip
 |.bool b=>some (.bl b)
 |.int i _=>some (.int i)
 |.str x _=>some (.str x)
 |.bytes b _=>some (.Hs b)
 |.float b _=>some (.wN b)
 |.ref a=>some (.ref a)
 |.type n=>some (.ty n)
 |_=>none
theorem RelV.abs{x:V}{u:ah}(r:RelV x u):ZW u=some x:=by
 cases x with
 |ip=>cases r;rfl
 |bl _=>cases r;rfl
 |int _=>obtain⟨t,rfl⟩:=r;rfl
 |str _=>obtain⟨t,rfl⟩:=r;rfl
 |Hs _=>obtain⟨t,rfl⟩:=r;rfl
 |wN _=>obtain⟨t,rfl⟩:=r;rfl
 |ref _=>cases r;rfl
 |ty _=>cases r;rfl
theorem RelV.inj{x y:V}{u:ah}(r:RelV x u)(q:RelV y u):x=y:=bE (r.abs.symm.trans q.abs)
theorem cX.inj:∀{xs ys:List V}{us:List ah},cX xs us->cX ys us->xs=ys
 |_,_,_,.nil,.nil=>rfl
 |_,_,_,.cons r t,.cons r' t'=>by rw[r.inj r',cX.inj t t']
section
variable {X:Cx}{pins:List (aj×Obj)}{σ:St}{H:Hp}{s:ai}{a:aj}{xs ys:List V}
theorem fU.of{K:aa}(h:H a=some (.lst xs)):fU K H a xs:=.inl (.inl h)
theorem fF.of{K:aa}(h:H a=some (.tup xs)):fF K H a xs:=.inl (.inl h)
theorem Inv.list(I:Inv X pins σ H s)(h:fU X.K H a xs):∃cq:List ah,cX xs cq/\PlainL s.heap a cq.toArray/\xs.length<=av:=by
 rcases h with h|⟨o,cq,n,hk,hc,hd,hs,hz,r⟩
 ·obtain⟨z,cq,n,r,e⟩:=h.ok I.dS;exact⟨cq,r,⟨_,n,e,rfl,rfl,rfl⟩,z⟩
 ·refine⟨cq.toList,r,⟨o,n,I.uA a o hk,hc,hd,by simpa using hs⟩,?_⟩;have e:=r.length;simp only[ij]at e;omega
theorem Inv.tuple(I:Inv X pins σ H s)(h:fF X.K H a xs):∃cq:List ah,cX xs cq/\IsTup s.heap a cq.toArray/\xs.length<=av:=by
 rcases h with h|⟨o,cq,n,hk,hc,hs,hz,r⟩
 ·obtain⟨z,cq,r,p⟩:=h.ok I.dS;exact⟨cq,r,p,z⟩
 ·refine⟨cq.toList,r,⟨o,I.uA a o hk,hc,n,by simpa using hs⟩,?_⟩;have e:=r.length;simp only[ij]at e;omega
theorem Inv.uL(I:Inv X pins σ H s)(h:fU X.K H a xs)(h':fU X.K H a ys):xs=ys:=by
 obtain⟨cq,r,⟨o,n,e,_,_,d⟩,_⟩:=I.list h;obtain⟨pV,r',⟨o',n',e',_,_,d'⟩,_⟩:=I.list h';rw[e]at e';cases e';rw[d]at d';injection d' with d1 _;have:cq=pV:=by simpa using congrArg Array.toList d1
 subst this;exact r.inj r'
theorem Inv.vF(I:Inv X pins σ H s)(h:fF X.K H a xs)(h':fF X.K H a ys):xs=ys:=by
 obtain⟨cq,r,⟨o,e,_,n,d⟩,_⟩:=I.tuple h;obtain⟨pV,r',⟨o',e',_,n',d'⟩,_⟩:=I.tuple h';rw[e]at e';cases e';rw[d]at d';injection d' with d1 _;have:cq=pV:=by simpa using congrArg Array.toList d1
 subst this;exact r.inj r'
end
noncomputable abbrev Cx.xp(X:Cx)(E:ah->ai->Prop):Cx:={X with xe:=E}
noncomputable abbrev Cx.Dy(X:Cx):Cx:=X.xp λ_ _=>False
theorem Cx.Ok.xp{X:Cx}(ok:X.Ok)(E:ah->ai->Prop):(X.xp E).Ok:=
 ⟨ok.mod,ok.kind,ok.glob,ok.blt,ok.above,ok.inj,ok.has,ok.Qf,ok.hd,ok.frames,ok.Dk,ok.WB,ok.bs,ok.Kw,ok.Dw,ok.FG,ok.uI,ok.NZ⟩
theorem Cx.Ok.oA{X:Cx}{E:ah->ai->Prop}(ok:(X.xp E).Ok):X.Ok:=
 ⟨ok.mod,ok.kind,ok.glob,ok.blt,ok.above,ok.inj,ok.has,ok.Qf,ok.hd,ok.frames,ok.Dk,ok.WB,ok.bs,ok.Kw,ok.Dw,ok.FG,ok.uI,ok.NZ⟩
section
variable {X:Cx}{pins:List (aj×Obj)}{σ:St}{H:Hp}{s:ai}{E:ah->ai->Prop}
theorem Inv.xp(I:Inv X pins σ H s)(E:ah->ai->Prop):Inv (X.xp E) pins σ H s:=⟨I.ok.xp E,I.os,I.bare,I.base,I.loc,I.cell,I.free,I.o9,I.pin,I.dS,I.len⟩
theorem Inv.oA(I:Inv (X.xp E) pins σ H s):Inv X pins σ H s:=⟨I.ok.oA,I.os,I.bare,I.base,I.loc,I.cell,I.free,I.o9,I.pin,I.dS,I.len⟩
theorem SP.oA{D:Ends}{f:Flow}{s':ai}(h:SP (X.xp E) pins D f s'):SP X pins D f s':=by
 cases f with
 |next=>obtain⟨dI,H',I,q⟩:=h;exact⟨dI,H',I.oA,q⟩
 |brk=>obtain⟨dI,H',I,q⟩:=h;exact⟨dI,H',I.oA,q⟩
 |cont=>obtain⟨dI,H',I,q⟩:=h;exact⟨dI,H',I.oA,q⟩
 |ret u=>obtain⟨v,dI,H',I,r,q⟩:=h;exact⟨v,dI,H',I.oA,r,q⟩
theorem qD.Dy{st:List b9}{t:TS}(h:qD X.Dy st t):qD X st t:=λpins s σ H D I hw=>
 bO (h pins s σ H D (I.xp _) hw) (λ_ _ q=>q.oA) λ_ _ z=>dM z
end
section
variable {X:Cx}{st:b9}{rest:List b9}{t u:TS}{e:bc}{te:TE}{pos:Pos}
noncomputable def WJ:TS:=λD σ H=>D.nx σ H
noncomputable def RT(t u:TS):TS:=λD σ H=>t {D with nx:=u D} σ H
theorem jN:qD X [] WJ:=λ_ _ σ H _ I h=>jl ⟨σ,H,I,h⟩
theorem cE(h1:PS X st t)(h2:qD X rest u):qD X (st::rest) (RT t u):=by
 intro pins s σ H D I h;refine mG (gb (h1 pins s σ H {D with nx:=u D} I h) λf s1 q=>?_);cases f with
 |next=>
  obtain⟨dI,H',I',q⟩:=q;exact h2 pins s1 dI H' D I' q
 |ret v=>exact q
 |brk=>exact q
 |cont=>exact q
theorem di(h1:PS X st t):qD X [st] t:=by
 intro pins s σ H D I h;refine mG (gb (h1 pins s σ H D I h) λf s1 q=>?_);cases f with
 |next=>exact jl q
 |ret v=>exact q
 |brk=>exact q
 |cont=>exact q
theorem Inv.quiet{pins:List (aj×Obj)}{σ:St}{H:Hp}{s:ai}(I:Inv X pins σ H s):interactive X.env=false:=by simp[interactive,I.ok.kind]
noncomputable def WK(te:TE):TS:=λD σ H=>te σ H λ_ H1=>D.nx σ H1
theorem mv(he:PE X e te)(hs:dF e none pos.line X.env=pure false:=by rfl):PS X (.Expr e pos) (WK te):=by
 intro pins s σ H D I h;exact wpAny_Expr_any (gb (he pins s σ H _ I h) (by rintro v s1 ⟨x,H1,I1,r1,q1⟩;exact ⟨σ,H1,I1,q1⟩)) I.quiet hs
noncomputable def RU(te:TE):TS:=λD σ H=>te σ H D.rt
theorem iq(he:PE X e te):PS X (.Return (some e) pos) (RU te):=by
 intro pins s σ H D I h;exact wpAny_Return_some (gb (he pins s σ H _ I h) (by rintro v s1 ⟨x,H1,I1,r1,q1⟩;exact ⟨x,σ,H1,I1,r1,q1⟩))
noncomputable def ZX(c:TT)(t u:TS):TS:=λD σ H=>c σ H λb H1=>if b=true then t D σ H1 else u D σ H1
theorem j7{c:bc}{a b:List b9}{tc:TT}(hc:PT X c tc)(ha:qD X a t)(hb:qD X b u):PS X (.If c a b pos) (ZX tc t u):=by
 intro pins s σ H D I h;refine wpAny_If (gb (hc pins s σ H _ I h) λ d s1  zq0=>?_);obtain ⟨H1,I1,q1⟩:=zq0;cases d with
 |true=>exact ha pins s1 σ H1 D I1 q1
 |false=>exact hb pins s1 σ H1 D I1 q1
noncomputable def tV:TS:=λ_ _ _=>False
theorem gz{sts:List b9}:qD X sts tV:=λ_ _ _ _ _ _ h=>h.elim
end
noncomputable abbrev TG:=V->St->Hp->(St->Hp->Prop)->Prop
noncomputable abbrev RV:=List V->St->Hp->(St->Hp->Prop)->Prop
noncomputable def PG(X:Cx)(target:bc)(t:TG):Prop:=
 ∀(pins:List (aj×Obj)) (s:ai) (σ:St) (H:Hp) (v:V) (u:ah) (Q:St->Hp->Prop),Inv X pins σ H s->RelV v u->t v σ H Q->
  aH (model X.prog X.w) X.A (assign target X.env u) (λ_ s'=>∃dI H',Inv X pins dI H' s'/\Q dI H') X.xe s
noncomputable def YN(X:Cx)(ts:List bc)(t:RV):Prop:=
 ∀(pins:List (aj×Obj)) (s:ai) (σ:St) (H:Hp) (vs:List V) (us:List ah) (Q:St->Hp->Prop),Inv X pins σ H s->cX vs us->t vs σ H Q->
  aH (model X.prog X.w) X.A (assignInOrder ((assignEach ts X.env).map (·.2)) us) (λ_ s'=>∃dI H',Inv X pins dI H' s'/\Q dI H') X.xe s
noncomputable abbrev YO:=V->V->Hp->VK->Prop
noncomputable def PIp(X:Cx)(op:Operator)(t:YO):Prop:=
 ∀(pins:List (aj×Obj)) (s:ai) (σ:St) (H:Hp) (x y:V) (v u:ah) (Q:VK),Inv X pins σ H s->RelV x v->RelV y u->t x y H Q->
  aH (model X.prog X.w) X.A (inplaceOp op v u) (EP X pins σ Q) X.xe s
section
variable {X:Cx}{pos:Pos}
noncomputable def nV(i:Nat):TG:=λv σ H Q=>Q (σ.set i (some v)) H
theorem i5{i:Nat}{x:Str}(hN:X.N.Nodup)(hi:X.N[i]?=some x)(hx:Loc X.env.scope x)(hf:X.fn x=true\/X.env.scope.names.lookup x=some .local:=by first|exact .inl rfl|exact .inr rfl|assumption):PG X (.Name x pos) (nV i):=by
 intro pins s σ H v u Q I r h;exact wpAny_assign_Name (uJ I hN hi hx r (λs' I'=>⟨_,H,I',h⟩) hf)
noncomputable def RX:RV:=λvs σ H Q=>vs=[]/\Q σ H
noncomputable def Dz(t:TG)(u:RV):RV:=λvs σ H Q=>∃v r,vs=v::r/\t v σ H λdI H'=>u r dI H' Q
theorem uM:YN X [] RX:=by
 intro pins s σ H vs us Q I r h;obtain⟨e,h⟩:=h;subst e;cases r;exact assignInOrder_nil ⟨σ,H,I,h⟩
theorem jI{e:bc}{es:List bc}{t:TG}{u:RV}(h1:PG X e t)(h2:YN X es u)(hs:(assignEach (e::es) X.env).map (·.2)=assign e X.env::(assignEach es X.env).map (·.2):=by rfl):YN X (e::es) (Dz t u):=by
 intro pins s σ H vs us Q I r h;obtain⟨v,vr,e1,h⟩:=h;subst e1;cases r with
 |cons r rr=>
  rw[hs];refine assignInOrder_cons (gb (h1 pins s σ H _ _ _ I r h) λ _ s1  zq0=>?_);obtain ⟨V5,H1,I1,q1⟩:=zq0;exact h2 pins s1 V5 H1 _ _ Q I1 rr q1
noncomputable def RY(K:aa)(n:Nat)(t:RV):TG:=λv σ H Q=>∃a xs,v = .ref a/\fF K H a xs/\xs.length=n/\t xs σ H Q
theorem yo{es:List bc}{k:Nat}{t:RV}{n:Nat}(hc:X.calm=true)(h:YN X es t)(hn:(assignEach es X.env).length=n:=by rfl)(KG:(assignEach es X.env).findIdx? (·.1)=none:=by rfl):PG X (.Tuple es k pos) (RY X.K n t):=by
 intro pins s σ H v u Q I r hw;obtain⟨a,xs,e1,hq,hl,hw⟩:=hw;subst e1;cases r;obtain⟨cq,rv,ht,hz⟩:=I.tuple hq;refine assign_Tuple_tuple (I.ok.hd hc) ht (by simp[hn,<-hl,rv.length]) KG λh' hx=>?_;have I1:Inv X pins σ H {s with heap:=h'}:=I.kept (t':=s.toks) λb o e=>hx b o (aZ (aC e)) e;exact h pins _ σ H xs _ Q I1 (by simpa using rv) hw
noncomputable def N2(te:TE)(g:TG):TS:=λD σ H=>te σ H λx H1=>g x σ H1 D.nx
theorem gO{i:Nat}{x:Str}{e:bc}{te:TE}{pos':Pos}(hN:X.N.Nodup)(hi:X.N[i]?=some x)(hx:Loc X.env.scope x)(he:PE X e te)(hs:dF e (some (.Name x pos')) pos.line X.env=pure false:=by rfl)(hf:X.fn x=true\/X.env.scope.names.lookup x=some .local:=by first|exact .inl rfl|exact .inr rfl|assumption):
  PS X (.Assign [.Name x pos'] e pos) (N2 te (nV i)):=by
 intro pins s σ H D I h;refine wpAny_Assign_Name (gb (he pins s σ H _ I h) λ v s1  zq0=>?_) hs;obtain ⟨y,H1,I1,r1,q1⟩:=zq0;exact uJ I1 hN hi hx r1 (λs2 I2=>⟨_,H1,I2,q1⟩) hf
noncomputable def ZY(i:Nat)(te:TE)(ti:YO):TS:=λD σ H=>∃x,σ[i]?=some (some x)/\te σ H λy H1=>ti x y H1 λz H2=>D.nx (σ.set i (some z)) H2
theorem RZ{i:Nat}{x:Str}{e:bc}{te:TE}{op:Operator}{ti:YO}{pos':Pos}(hN:X.N.Nodup)(hi:X.N[i]?=some x)(hx:Loc X.env.scope x)(he:PE X e te)(ho:PIp X op ti)(hf:X.fn x=true\/X.env.scope.names.lookup x=some .local:=by first|exact .inl rfl|exact .inr rfl|assumption):
  PS X (.AugAssign (.Name x pos') op e pos) (ZY i te ti):=by
 intro pins s σ H D I h;obtain⟨v,e1,h⟩:=h;obtain⟨m,hn,hl⟩:=I.loc;have ZZ:AO X.env.scope x:=by rcases hx with k|k;exact .inl k;exact .inr (.inl k)
 obtain⟨u,r,l⟩:=hl i x v hi e1 ZZ;refine wpAny_AugAssign_Name ?_;have go:aH (model X.prog X.w) X.A (eval e X.env) (λw uK=>aH (model X.prog X.w) X.A (inplaceOp op u w) (λr N3=>aH (model X.prog X.w) X.A (storeName X.env x r) (λ_=>SP X pins D .next) X.xe N3) X.xe uK) X.xe s:=by
  refine gb (he pins s σ H _ I h) λ w s1  zq0=>?_;obtain ⟨y,H1,I1,r1,q1⟩:=zq0;refine gb (ho pins s1 σ H1 v y u w _ I1 r r1 q1) λ z s2  zq0=>?_;obtain ⟨zv,H2,I2,r2,q2⟩:=zq0;exact uJ I2 hN hi hx r2 (λs3 I3=>⟨_,H2,I3,q2⟩) hf
 rcases l with⟨hk,hm⟩|⟨hk,c,hc,wO⟩
 ·exact wpAny_loadName_local I.ok.kind hk hn hm go
 ·rcases hk with hk|hk
  ·exact wpAny_loadName_cell I.ok.kind hk hc wO go
  ·rcases hx with k|k
   ·have:X.env.scope.names.lookup x=some .free:=hk;rw[k]at this;cases this
   ·have:X.env.scope.names.lookup x=some .free:=hk;rw[k]at this;cases this
noncomputable def ipI(f:Int->Int->Int):YO:=λx y H Q=>∃i j,x = .int i/\y = .int j/\Q (.int (f i j)) H
theorem R0:PIp X .Add (ipI λi j=>i + j):=by
 intro pins s σ H x y v u Q I r1 r2 h;obtain⟨i,j,e1,e2,q⟩:=h;subst e1;subst e2;obtain⟨t,rfl⟩:=r1;obtain⟨t',rfl⟩:=r2;exact iadd_int ⟨.int _,H,I.tok _,⟨_,rfl⟩,q⟩
end
section
variable {X:Cx}{pos:Pos}
noncomputable def R1(c:TT)(tb:TS):TS:=λD σ H=>∃W:Nat->St->Hp->Prop,(∃m,W m σ H)/\∀m σ H,W m σ H->
 c σ H λb H1=>if b=true then ∃N:St->Hp->Prop,(∀dI H',N dI H'->∃m',m'<m/\W m' dI H')/\tb {D with nx:=N,ct:=N,bk:=D.nx} σ H1 else D.nx σ H1
theorem yp{c:bc}{body:List b9}{tc:TT}{tb:TS}(hp:PassesOwn (model X.prog X.w) X.A X.env X.xe)(hc:PT X c tc)(hb:qD X body tb):PS X (.While c body [] pos) (R1 tc tb):=by
 intro pins s σ H D I h;obtain⟨W,⟨m0,w0⟩,turn⟩:=h;refine wpAny_While (codeAny_whileLoop (λn s'=>∃dI H',Inv X pins dI H' s'/\W n dI H') ?_ m0 ⟨σ,H,I,w0⟩);rintro n s1 ⟨V5,H1,I1,w1⟩;refine dU hp (gb (hc pins s1 V5 H1 _ I1 (turn n V5 H1 w1)) λ b s2  zq0=>?_);obtain ⟨H2,I2,q2⟩:=zq0;cases b with
 |true=>
  obtain⟨N,hN,q2⟩:=q2;rw[if_pos rfl];refine dU hp (gb (hb pins s2 V5 H2 _ I2 q2) λf s3 q3=>?_);cases f with
  |next=>
   obtain⟨DI,H3,I3,n3⟩:=q3;obtain⟨m',hm,w3⟩:=hN DI H3 n3;exact⟨m',hm,DI,H3,I3,w3⟩
  |cont=>
   obtain⟨DI,H3,I3,n3⟩:=q3;obtain⟨m',hm,w3⟩:=hN DI H3 n3;exact⟨m',hm,DI,H3,I3,w3⟩
  |brk=>exact q3
  |ret v=>exact q3
 |false=>
  rw[if_neg aV];exact jl ⟨V5,H2,I2,q2⟩
end
structure It where
 go:Nat->Hp->Prop
 xq:Nat->Hp->V->Hp->Prop
 stop:Nat->Hp->Prop
noncomputable def oB(X:Cx)(pins:List (aj×Obj))(H:Hp)(b:aj):Prop:=
 H b=none/\b≠X.env.locals/\b∉X.fs/\(b∈X.ex\/X.jH.heap.objs.size<=b)/\(∀x c,X.env.cells.lookup x=some c->c≠b)/\∀p∈X.pn++pins,p.1≠b
theorem Inv.oC{X:Cx}{pins:List (aj×Obj)}{σ:St}{H H':Hp}{s:ai}{b:aj}(I:Inv X pins σ H s)(hb:s.heap.objs.size<=b)(hn:H' b=none):oB X pins H' b:=by
 refine⟨hn,dG (bw I.lt hb),I.WC hb,.inr (aX I.sz hb),λx c e z=>?_,λp hp z=>?_⟩
 ·obtain⟨v,q⟩:=I.cell x c e;exact absurd (bw q.lt (by rw[z];exact hb)) (i8 _)
 ·exact absurd (bw (aC (I.pin p hp).1) (by rw[z];exact hb)) (i8 _)
structure Turn(P:aR)(w:bH)(K:aa)(tg:bc)(J:It)(fp:List aj)(it:aj)(tn:Nat->bS->Prop):Prop where
 mem:it∈fp
 obj:∀i h,tn i h->∀b∈fp,∃o,h.get? b=some o/\∀v,o.data≠.cell v
 keep:∀i h h',tn i h->(∀b∈fp,∀o,h.get? b=some o->h'.get? b=some o)->tn i h'
 item:∀(X:Cx),X.prog=P->X.w=w->X.K=K->X.calm=true->∀(i:Nat) (pins:List (aj×Obj)) (s:ai) (σ:St) (H:Hp) (E:ah->ai->Prop),Inv X pins σ H s->(∀b∈fp,oB X pins H b)->tn i s.heap->J.go i H->
  aH (model P w) X.A (pyNext (.ref it)) (λr s1=>∃u,r=some u/\
   aH (model P w) X.A (letOwnedTupleGo tg (.ref it) u) (λ_ s2=>∃x H',Inv X pins σ H' s2/\RelV x u/\J.xq i H x H'/\tn (i+1) s2.heap/\∀b∈fp,H' b=none) E s1) E s
 done:∀(X:Cx),X.prog=P->X.w=w->X.K=K->X.calm=true->∀(i:Nat) (pins:List (aj×Obj)) (s:ai) (σ:St) (H:Hp) (E:ah->ai->Prop),Inv X pins σ H s->(∀b∈fp,oB X pins H b)->tn i s.heap->J.stop i H->
  aH (model P w) X.A (pyNext (.ref it)) (λr s1=>r=none/\Inv X pins σ H s1) E s
 self:∀(A:cj)(i:Nat)(s:ai)(Q:ah->ai->Prop)(E:ah->ai->Prop),tn i s.heap->Q (.ref it) s->aH (model P w) A (pyIter (.ref it)) Q E s
noncomputable abbrev TI:=St->Hp->(It->Hp->Prop)->Prop
noncomputable def WL(X:Cx)(pins:List (aj×Obj))(σ:St)(tg:bc)(R:It->Hp->Prop)(R3:ah)(s2:ai):Prop:=
 ∃(it:aj)(fp:List aj)(tn:Nat->bS->Prop)(J:It)(H':Hp),R3 = .ref it/\Inv X pins σ H' s2/\Turn X.prog X.w X.K tg J fp it tn/\tn 0 s2.heap/\(∀b∈fp,oB X pins H' b)/\R J H'
noncomputable def PI(X:Cx)(tg iter:bc)(wi:TI):Prop:=
 ∀(pins:List (aj×Obj)) (s:ai) (σ:St) (H:Hp) (R:It->Hp->Prop),Inv X pins σ H s->wi σ H R->
  aH (model X.prog X.w) X.A (eval iter X.env) (λv s1=>aH (model X.prog X.w) X.A (pyIter v) (WL X pins σ tg R) X.xe s1) X.xe s
theorem DJ {M:Model} {A:cj} {E:ah→ai→Prop} {s:ai} {tg:bc} {it:aj} {u:ah} {o:Obj} {n:String} {vs:Array ah} {Q:Unit→ai→Prop} (ho:s.heap.get? it=some o) (hc:o.cls = .type n) (hd:o.data = .fields vs)
    (hn:["enumerate","zip","dict_itemiterator","dict_reverseitemiterator","odict_iterator","itertools.zip_longest","itertools.pairwise"].contains n=false) (hQ:Q () s):aH M A (letOwnedTupleGo tg (.ref it) u) Q E s:=by
  unfold letOwnedTupleGo
  cases tg<;>first
    | exact ax hQ
    | (cases u<;>first
        | exact ax hQ
        | (refine ae (wpAny_load ho ?_)
           rw [hc,hd]
           show aH M A (if (["enumerate","zip","dict_itemiterator","dict_reverseitemiterator","odict_iterator","itertools.zip_longest","itertools.pairwise"].contains n&&vs[0]?==some (rawInt _))=true then _ else _) Q E s
           rw [if_neg (by intro h;rw [hn,Bool.false_and] at h;cases h)]
           exact ax hQ))
noncomputable def R4(K:aa)(a:aj):It:=
 ⟨λi H=>∃xs x,fU K H a xs/\xs[i]?=some x,λi H x H'=>H'=H/\∀xs,fU K H a xs->xs[i]?=some x,λi H=>∃xs,fU K H a xs/\xs.length<=i⟩
noncomputable def Z0(K:aa)(a:aj):It:=
 ⟨λi H=>∃xs x,fF K H a xs/\xs[i]?=some x,λi H x H'=>H'=H/\∀xs,fF K H a xs->xs[i]?=some x,λi H=>∃xs,fF K H a xs/\xs.length<=i⟩
noncomputable def Qj(lo:Int)(n:Nat):It:=⟨λi _=>i<n,λi H x H'=>H'=H/\x = .int (lo + i),λi _=>n<=i⟩
theorem AR{P:aR}{w:bH}{K:aa}{tg:bc}(a it:aj):Turn P w K tg (R4 K a) [it] it (λi h=>h.IsListIter it a i) where
 mem:=by simp
 obj:=λi h st b hb=>by
  have e:b=it:=by simpa using hb
  subst e;obtain⟨o,e,c,d⟩:=st;exact⟨o,e,λv z=>by rw[d]at z;cases z⟩
 keep:=λi h h' st k=>st.at λo e=>k it (by simp) o e
 item:=by
  intro X hP hw hK hc i pins s σ H E I hf st hg;subst hP hw hK;obtain⟨xs,x,hq,hx⟩:=hg;obtain⟨cq,rv,p,hz⟩:=I.list hq;obtain⟨u,hu,ru⟩:=rv.get hx;obtain⟨f0,f1,f2,f3,f4,f5⟩:=hf it (by simp);refine wpAny_pyNext_list_item st p.isList (x:=u) (by simpa using hu) λh' wQ sb=>?_;have I1:Inv X pins σ H {s with heap:=h'}:=I.turned (t':=s.toks) (λb o hb e=>(sb.2 b hb).trans e) f0 f1 f3 f4 f5;obtain⟨o,e,c,d⟩:=id wQ;exact⟨u,rfl,DJ (s:={s with heap:=h'}) e c d (by decide) ⟨x,H,I1,ru,⟨rfl,λys hy=>by rw[I.uL hy hq];exact hx⟩,wQ,λb hb=>(hf b hb).1⟩⟩
 done:=by
  intro X hP hw hK hc i pins s σ H E I hf st hg;subst hP hw hK;obtain⟨xs,hq,hx⟩:=hg;obtain⟨cq,rv,p,hz⟩:=I.list hq;obtain⟨f0,f1,f2,f3,f4,f5⟩:=hf it (by simp);have hl:=rv.length;exact wpAny_pyNext_list_end (I.ok.hd hc) st p.isList (by simp;omega) λh' eb=>⟨rfl,I.turned (t':=s.toks) (λb o hb e=>eb b o hb e) f0 f1 f3 f4 f5⟩
 self:=λ_ _ _ _ _ st h=>wpAny_pyIter_listiter st h
theorem FL{P:aR}{w:bH}{K:aa}{tg:bc}(a it:aj):Turn P w K tg (Z0 K a) [it] it (λi h=>h.IsTupleIter it a i) where
 mem:=by simp
 obj:=λi h st b hb=>by
  have e:b=it:=by simpa using hb
  subst e;obtain⟨o,e,c,d⟩:=st;exact⟨o,e,λv z=>by rw[d]at z;cases z⟩
 keep:=λi h h' st k=>st.at λo e=>k it (by simp) o e
 item:=by
  intro X hP hw hK hc i pins s σ H E I hf st hg;subst hP hw hK;obtain⟨xs,x,hq,hx⟩:=hg;obtain⟨cq,rv,p,hz⟩:=I.tuple hq;obtain⟨u,hu,ru⟩:=rv.get hx;obtain⟨f0,f1,f2,f3,f4,f5⟩:=hf it (by simp);refine wpAny_pyNext_tuple_item st (show s.heap.IsTuple a cq.toArray from p) (x:=u) (by simpa using hu) λh' wQ sb=>?_;have I1:Inv X pins σ H {s with heap:=h'}:=I.turned (t':=s.toks) (λb o hb e=>(sb.2 b hb).trans e) f0 f1 f3 f4 f5;obtain⟨o,e,c,d⟩:=id wQ;exact⟨u,rfl,DJ (s:={s with heap:=h'}) e c d (by decide) ⟨x,H,I1,ru,⟨rfl,λys hy=>by rw[I.vF hy hq];exact hx⟩,wQ,λb hb=>(hf b hb).1⟩⟩
 done:=by
  intro X hP hw hK hc i pins s σ H E I hf st hg;subst hP hw hK;obtain⟨xs,hq,hx⟩:=hg;obtain⟨cq,rv,p,hz⟩:=I.tuple hq;obtain⟨f0,f1,f2,f3,f4,f5⟩:=hf it (by simp);have hl:=rv.length;exact wpAny_pyNext_tuple_end (I.ok.hd hc) st (show s.heap.IsTuple a cq.toArray from p) (by simp;omega) λh' eb=>⟨rfl,I.turned (t':=s.toks) (λb o hb e=>eb b o hb e) f0 f1 f3 f4 f5⟩
 self:=λ_ _ _ _ _ st h=>wpAny_pyIter_tupleiter st h
theorem FN{P:aR}{w:bH}{K:aa}{tg:bc}(it:aj)(lo:Int)(n:Nat):Turn P w K tg (Qj lo n) [it] it (λi h=>IsRangeIter h it (lo + (i:Nat) * 1) ((n:Int) - (i:Nat)) 1) where
 mem:=by simp
 obj:=λi h st b hb=>by
  have e:b=it:=by simpa using hb
  subst e
  exact⟨_,st,λv z=>by
   have z':Data.fields _=Data.cell v:=z
   cases z'⟩
 keep:=λi h h' st k=>k it (by simp) _ st
 item:=by
  intro X hP hw hK hc i pins s σ H E I hf st hg;subst hP hw hK;obtain⟨f0,f1,f2,f3,f4,f5⟩:=hf it (by simp);have W:=Walks.range (prog:=X.prog) (w:=X.w) (I.ok.hd hc) it lo 1 n;refine W.item i s _ _ hg st λv h' tk hv wQ kk=>?_;obtain⟨t,rfl⟩:=hv;have I1:Inv X pins σ H {s with heap:=h',toks:=tk}:=I.turned (λb o hb e=>kk b o (by simpa using hb) e) f0 f1 f3 f4 f5;refine⟨_,rfl,DJ (s:={s with heap:=h',toks:=tk}) (n:="range_iterator") wQ rfl rfl (by decide) ⟨.int (lo + i),H,I1,⟨t,?_⟩,⟨rfl,rfl⟩,wQ,λb hb=>(hf b hb).1⟩⟩;rw[Int.mul_one]
 done:=by
  intro X hP hw hK hc i pins s σ H E I hf st hg;subst hP hw hK;obtain⟨f0,f1,f2,f3,f4,f5⟩:=hf it (by simp);exact wpAny_pyNext_range_end (I.ok.hd hc) st (by have:n<=i:=hg;omega) λh' eb=>⟨rfl,I.turned (t':=s.toks) (λb o hb e=>eb b o hb e) f0 f1 f3 f4 f5⟩
 self:=λ_ _ _ _ _ st h=>wpAny_pyIter_rangeiter st h
section
variable {X:Cx}{tg:bc}
noncomputable def Qk(K:aa)(tl:TE):TI:=λσ H R=>tl σ H λx H1=>∃a,x = .ref a/\(∃xs,fU K H1 a xs)/\R (R4 K a) H1
noncomputable def Z1(K:aa)(tl:TE):TI:=λσ H R=>tl σ H λx H1=>∃a,x = .ref a/\(∃xs,fF K H1 a xs)/\R (Z0 K a) H1
theorem xS{l:bc}{tl:TE}(hl:PE X l tl):PI X tg l (Qk X.K tl):=by
 intro pins s σ H R I h;refine gb (hl pins s σ H _ I h) λ v s1  zq0=>?_;obtain ⟨x,H1,I1,r1,q1⟩:=zq0;obtain⟨a,e,⟨xs,hq⟩,q⟩:=q1;subst e;cases r1;obtain⟨cq,rv,p,hz⟩:=I1.list hq;refine l7 p.isList ?_;refine⟨s1.heap.objs.size,[s1.heap.objs.size],_,_,H1,rfl,I1.kept (t':=s1.toks) λb o e=>af _ e,AR a _,⟨_,aB _ rfl,rfl,rfl⟩,λb hb=>?_,q⟩;have e:b=s1.heap.objs.size:=by simpa using hb
 subst e;exact I1.oC (au _) (I1.dS.fresh (au _))
theorem R5{l:bc}{tl:TE}(hl:PE X l tl):PI X tg l (Z1 X.K tl):=by
 intro pins s σ H R I h;refine gb (hl pins s σ H _ I h) λ v s1  zq0=>?_;obtain ⟨x,H1,I1,r1,q1⟩:=zq0;obtain⟨a,e,⟨xs,hq⟩,q⟩:=q1;subst e;cases r1;obtain⟨cq,rv,p,hz⟩:=I1.tuple hq;refine gY (show s1.heap.IsTuple a cq.toArray from p) ?_;refine⟨s1.heap.objs.size,[s1.heap.objs.size],_,_,H1,rfl,I1.kept (t':=s1.toks) λb o e=>af _ e,FL a _,⟨_,aB _ rfl,rfl,rfl⟩,λb hb=>?_,q⟩;have e:b=s1.heap.objs.size:=by simpa using hb
 subst e;exact I1.oC (au _) (I1.dS.fresh (au _))
theorem KH{pins:List (aj×Obj)}{σ:St}{H:Hp}{s:ai}{R:It->Hp->Prop}{E:ah->ai->Prop}{lo hi:Int}{t u v:Tok}{tk:Nat}(I:Inv X pins σ H s)(h1:-(2 ^ 62)<=lo)(h2:lo<2 ^ 62)(h3:-(2 ^ 62)<=hi)(h4:hi<2 ^ 62)(q:R (Qj lo (hi - lo).toNat) H):aH (model X.prog X.w) X.A (pyIter (.ref s.heap.objs.size)) (WL X pins σ tg R) E {s with heap:=s.heap.push {cls:=.type "range",data:=.fields #[.int lo t,.int hi u,.int 1 v]},toks:=tk}:=by
 refine wpAny_pyIter_range (IsRange.new ..) (small_one h1 h2 h3 h4) ?_;have I1:Inv X pins σ H {s with heap:=s.heap.push {cls:=.type "range",data:=.fields #[.int lo t,.int hi u,.int 1 v]},toks:=tk}:=I.kept λb o e=>af _ e
 refine⟨(s.heap.push {cls:=.type "range",data:=.fields #[.int lo t,.int hi u,.int 1 v]}).objs.size,[(s.heap.push {cls:=.type "range",data:=.fields #[.int lo t,.int hi u,.int 1 v]}).objs.size],_,_,H,rfl,
  I1.kept (t':=tk) λb o e=>af _ e,FN _ lo (hi - lo).toNat,?_,λb hb=>?_,q⟩
 ·have e1:lo + ((0:Nat):Int) * 1=lo:=by simp
  have e2:(((hi - lo).toNat:Nat):Int) - ((0:Nat):Int)=Builtin.Range.rangeSize lo hi 1:=by rw[rangeSize_one];split<;>omega
  show IsRangeIter _ _ (lo + ((0:Nat):Int) * 1) ((((hi - lo).toNat:Nat):Int) - ((0:Nat):Int)) 1;rw[e1,e2];exact aB _ rfl
 ·have e:b=(s.heap.push {cls:=.type "range",data:=.fields #[.int lo t,.int hi u,.int 1 v]}).objs.size:=by simpa using hb
  subst e;exact I1.oC (au _) (I1.dS.fresh (au _))
noncomputable def WM(ta:TA):TI:=λσ H R=>ta σ H λvs H1=>∃j:Int,vs=[.int j]/\-(2 ^ 62)<=j/\j<2 ^ 62/\R (Qj 0 j.toNat) H1
theorem vG{a:bc}{ta:TA}{p pos:Pos}(hg:Gl X "range")(hm:X.mg "range"=none)(ha:PA X [a] ta)(hs:ao [a] X.env=[(false,eval a X.env)]:=by rfl):PI X tg (.Call (.Name "range" p) [a] [] pos) (WM ta):=by
 intro pins s σ H R I h;refine Call_ (md I hg hm boot_range (cw (gb (ha pos pins s σ H _ I h) λ us s1  zq0=>?_) hs rfl));obtain ⟨vs,H1,I1,r1,q1⟩:=zq0;obtain⟨j,e,q1,q2,q⟩:=q1;subst e;cases r1 with
 |cons r rr=>
  cases rr;obtain⟨t,rfl⟩:=r;exact call_range_1 (KH I1 (by omega) (by omega) q1 q2 (by simpa using q))
noncomputable def WN(wi:TI)(g:TG)(tb:TS):TS:=λD σ H=>wi σ H λJ H1=>∃W:Nat->Nat->St->Hp->Prop,(∃m,W 0 m σ H1)/\∀i m σ H,W i m σ H->
 (J.stop i H/\D.nx σ H)\/(J.go i H/\∃N:St->Hp->Prop,(∀dI H',N dI H'->∃m',m'<m/\W (i+1) m' dI H')/\∀x H',J.xq i H x H'->g x σ H' λAh H2=>tb {D with nx:=N,ct:=N,bk:=D.nx} Ah H2)
noncomputable def vH(fp:List aj)(h:bS):List (aj×Obj):=fp.filterMap λb=>(h.get? b).map λo=>(b,o)
theorem lu{fp:List aj}{h:bS}{b:aj}{o:Obj}(hb:b∈fp)(e:h.get? b=some o):(b,o)∈vH fp h:=uD.mpr ⟨b,hb,by rw[e];rfl⟩
theorem Ji{fp:List aj}{h:bS}{p:aj×Obj}(hp:p∈vH fp h):p.1∈fp/\h.get? p.1=some p.2:=by
 obtain⟨b,hb,e⟩:=uD.mp hp;cases q:h.get? b with
 |none=>rw[q]at e;cases e
 |some o=>
  rw[q]at e;have e':(b,o)=p:=bE e;subst e';exact⟨hb,q⟩
theorem Inv.pinned{pins:List (aj×Obj)}{σ:St}{H:Hp}{s:ai}{fp:List aj}(I:Inv X pins σ H s)(hf:∀b∈fp,oB X pins H b)(ho:∀b∈fp,∃o,s.heap.get? b=some o/\∀v,o.data≠.cell v):Inv X (pins++vH fp s.heap) σ H s:=
 I.rZ λp hp=>(bj.mp hp).elim (λz=>I.pin p (az _ z)) λz=>by
  obtain⟨hb,e⟩:=Ji z;obtain⟨f0,f1,f2,_⟩:=hf p.1 hb;obtain⟨o,e',d⟩:=ho p.1 hb;rw[e]at e';cases e';exact⟨e,f0,f1,f2,d⟩
theorem Inv.mR{pins pl:List (aj×Obj)}{σ:St}{H:Hp}{s:ai}(I:Inv X (pins++pl) σ H s):Inv X pins σ H s:=I.rZ λp hp=>I.pin p (az _ (bZ _ hp))
theorem vI{iter:bc}{body:List b9}{wi:TI}{g:TG}{tb:TS}{pos:Pos}(hp:PassesOwn (model X.prog X.w) X.A X.env X.xe)(hc:X.calm=true)(hi:PI X tg iter wi)(hg:PG X tg g)(hb:qD X body tb)(hs:∀x,dn iter X.env x=pure x:=by intro _;rfl):PS X (.For tg iter body [] pos) (WN wi g tb):=by
 intro pins s σ H D I h;refine wpAny_For (gb (hi pins s σ H _ I h) λv s1 h1=>gb h1 λR3 s2 h2=>?_) hs;obtain⟨it,fp,tn,J,H2,e,I2,T,yq,f2,W,⟨m0,w0⟩,turn⟩:=h2;subst e;have vJ:∀{H':Hp},(∀b∈fp,H' b=none)->∀b∈fp,oB X pins H' b:=λhn b hb=>⟨hn b hb,(f2 b hb).2⟩;refine codeAny_forLoop_any (λn s'=>∃i dI H',Inv X pins dI H' s'/\tn i s'.heap/\(∀b∈fp,H' b=none)/\W i n dI H') ?_ m0 ⟨0,σ,H2,I2,yq,λb hb=>(f2 b hb).1,w0⟩;rintro n s3 ⟨i,DI,H3,I3,Ql,WO,w3⟩;rcases turn i n DI H3 w3 with⟨stop,qn⟩|⟨go,N,hN,step⟩
 ·refine dU hp (gb (T.done X rfl rfl rfl hc i pins s3 DI H3 X.xe I3 (vJ WO) Ql stop) λ r s4  zq0=>?_);obtain ⟨hr,I4⟩:=zq0;subst hr;exact jl ⟨DI,H3,I4,qn⟩
 ·refine dU hp (gb (T.item X rfl rfl rfl hc i pins s3 DI H3 X.xe I3 (vJ WO) Ql go) λ r s4  zq0=>?_);obtain ⟨u,hr,h4⟩:=zq0;subst hr;refine dU hp (gb h4 λ _ s5  zq0=>?_);obtain ⟨x,H5,I5,r5,y5,Jj,Qm⟩:=zq0;have N4:=I5.pinned (vJ Qm) (T.obj _ _ Jj);refine dU hp (gb (hg _ s5 DI H5 x u _ N4 r5 (step x H5 y5)) λ _ s6  zq0=>?_);obtain ⟨Z2,H6,I6,q6⟩:=zq0;refine dU hp (gb (hb _ s6 Z2 H6 _ I6 q6) λf s7 q7=>?_);have again:∀{yr:St}{H7:Hp},Inv X (pins++vH fp s5.heap) yr H7 s7->N yr H7->∃m,m<n/\∃i dI H',Inv X pins dI H' s7/\tn i s7.heap/\(∀b∈fp,H' b=none)/\W i m dI H':=λ{yr H7} I7 n7=>by
   obtain⟨m',hm,w7⟩:=hN yr H7 n7;refine⟨m',hm,i+1,yr,H7,I7.mR,T.keep _ _ _ Jj λb hb o e=>(I7.pin (b,o) (az _ (az _ (lu hb e)))).1,λb hb=>?_,w7⟩;obtain⟨o,e,d⟩:=T.obj _ _ Jj b hb;exact(I7.pin (b,o) (az _ (az _ (lu hb e)))).2.1
  cases f with
  |next=>obtain⟨yr,H7,I7,n7⟩:=q7;exact again I7 n7
  |cont=>obtain⟨yr,H7,I7,n7⟩:=q7;exact again I7 n7
  |brk=>obtain⟨yr,H7,I7,q7⟩:=q7;exact⟨yr,H7,I7.mR,q7⟩
  |ret v=>obtain⟨x7,yr,H7,I7,r7,q7⟩:=q7;exact⟨x7,yr,H7,I7.mR,r7,q7⟩
end
theorem DM{K:aa}{a:aj}{xs:List V}{g:TG}{tb:TS}{D:Ends}{σ:St}{H:Hp}(Pv:Nat->St->Hp->Prop)(h0:Pv 0 σ H)(hl:∀i σ H,i<=xs.length->Pv i σ H->fU K H a xs)(hs:∀i x σ H,xs[i]?=some x->Pv i σ H->g x σ H λAh H2=>tb {D with nx:=Pv (i+1),ct:=Pv (i+1),bk:=D.nx} Ah H2)(hd:∀σ H,Pv xs.length σ H->D.nx σ H):
  ∃W:Nat->Nat->St->Hp->Prop,(∃m,W 0 m σ H)/\∀i m σ H,W i m σ H->
   ((R4 K a).stop i H/\D.nx σ H)\/((R4 K a).go i H/\∃N:St->Hp->Prop,(∀dI H',N dI H'->∃m',m'<m/\W (i+1) m' dI H')/\∀x H',(R4 K a).xq i H x H'->g x σ H' λAh H2=>tb {D with nx:=N,ct:=N,bk:=D.nx} Ah H2):=by
 refine⟨λi m σ H=>m=xs.length - i/\i<=xs.length/\Pv i σ H,⟨xs.length,by simp,dj _,h0⟩,?_⟩;rintro i m σ H ⟨rfl,hi,p⟩;have q:=hl i σ H hi p;by_cases i9:i<xs.length
 ·refine .inr ⟨⟨xs,xs[i],q,by simp[i9]⟩,Pv (i+1),λdI H' p'=>⟨xs.length - (i+1),by omega,rfl,i9,p'⟩,λx H' y=>?_⟩;obtain⟨e,y⟩:=y;subst e;exact hs i x σ _ (y xs q) p
 ·have e:i=xs.length:=by omega
  subst e;exact .inl ⟨⟨xs,q,au _⟩,hd σ H p⟩
theorem Jk{lo:Int}{n:Nat}{g:TG}{tb:TS}{D:Ends}{σ:St}{H:Hp}(Pv:Nat->St->Hp->Prop)(h0:Pv 0 σ H)(hs:∀i σ H,i<n->Pv i σ H->g (.int (lo + i)) σ H λAh H2=>tb {D with nx:=Pv (i+1),ct:=Pv (i+1),bk:=D.nx} Ah H2)(hd:∀σ H,Pv n σ H->D.nx σ H):
  ∃W:Nat->Nat->St->Hp->Prop,(∃m,W 0 m σ H)/\∀i m σ H,W i m σ H->
   ((Qj lo n).stop i H/\D.nx σ H)\/((Qj lo n).go i H/\∃N:St->Hp->Prop,(∀dI H',N dI H'->∃m',m'<m/\W (i+1) m' dI H')/\∀x H',(Qj lo n).xq i H x H'->g x σ H' λAh H2=>tb {D with nx:=N,ct:=N,bk:=D.nx} Ah H2):=by
 refine⟨λi m σ H=>m=n - i/\i<=n/\Pv i σ H,⟨n,by simp,dj _,h0⟩,?_⟩;rintro i m σ H ⟨rfl,hi,p⟩;by_cases i9:i<n
 ·refine .inr ⟨i9,Pv (i+1),λdI H' p'=>⟨n - (i+1),by omega,rfl,i9,p'⟩,λx H' y=>?_⟩;obtain⟨e,y⟩:=y;subst e y;exact hs i σ _ i9 p
 ·have e:i=n:=by omega
  subst e;exact .inl ⟨au _,hd σ H p⟩
noncomputable abbrev R2:=V->V->Hp->VK->Prop
noncomputable def uB(X:Cx)(f:ah->ah->Sem ah)(r:R2):Prop:=
 ∀(pins:List (aj×Obj)) (s:ai) (σ:St) (H:Hp) (x y:V) (v u:ah) (Q:VK),Inv X pins σ H s->RelV x v->RelV y u->r x y H Q->
  aH (model X.prog X.w) X.A (f v u) (EP X pins σ Q) X.xe s
noncomputable def Z3(X:Cx)(f:ah->Sem ah)(r:V->Hp->VK->Prop):Prop:=
 ∀(pins:List (aj×Obj)) (s:ai) (σ:St) (H:Hp) (x:V) (v:ah) (Q:VK),Inv X pins σ H s->RelV x v->r x H Q->
  aH (model X.prog X.w) X.A (f v) (EP X pins σ Q) X.xe s
noncomputable def mS(X:Cx)(f:ah)(r:List V->Hp->VK->Prop):Prop:=
 ∀(pins:List (aj×Obj)) (s:ai) (σ:St) (H:Hp) (xs:List V) (us:List ah) (Q:VK),Inv X pins σ H s->cX xs us->r xs H Q->
  aH (model X.prog X.w) X.A (call f us) (EP X pins σ Q) X.xe s
noncomputable def Z4(X:Cx)(r:V->Hp->(Bool->Hp->Prop)->Prop):Prop:=
 ∀(pins:List (aj×Obj)) (s:ai) (σ:St) (H:Hp) (x:V) (v:ah) (Q:Bool->Hp->Prop),Inv X pins σ H s->RelV x v->r x H Q->
  aH (model X.prog X.w) X.A (truthy v) (TP X pins σ Q) X.xe s
noncomputable def V6(r:R2)(ta tb:TE):TE:=λσ H Q=>ta σ H λx H1=>tb σ H1 λy H2=>r x y H2 Q
noncomputable def tUn(r:V->Hp->VK->Prop)(ta:TE):TE:=λσ H Q=>ta σ H λx H1=>r x H1 Q
noncomputable def rI(C:Int->Int->Prop)(g:Int->Int->V):R2:=λx y H Q=>∃i j,x = .int i/\y = .int j/\C i j/\Q (g i j) H
noncomputable def R6(g:Int->Int->V):R2:=λx y H Q=>∃i j,x = .int i/\y = .int j/\Q (g i j) H
noncomputable def rU(g:Int->V):V->Hp->VK->Prop:=λx H Q=>∃i,x = .int i/\Q (g i) H
section
variable {X:Cx}{a b c:bc}{ta tb tc:TE}{pos:Pos}
theorem R7(ha:PE X a ta)(hb:PE X b tb){pins:List (aj×Obj)}{s:ai}{σ:St}{H:Hp}{R:V->V->Hp->Prop}(I:Inv X pins σ H s)(h:ta σ H λx H1=>tb σ H1 λy H2=>R x y H2){Q:ah->ai->Prop}{f:ah->ah->Sem ah}(hf:∀v u s2 x y H2,Inv X pins σ H2 s2->RelV x v->RelV y u->R x y H2->aH (model X.prog X.w) X.A (f v u) Q X.xe s2):
  aH (model X.prog X.w) X.A (eval a X.env) (λv fZ=>aH (model X.prog X.w) X.A (eval b X.env) (λu uK=>aH (model X.prog X.w) X.A (f v u) Q X.xe uK) X.xe fZ) X.xe s:=by
 refine gb (ha pins s σ H _ I h) λ v s1  zq0=>?_;obtain ⟨x,H1,I1,r1,q1⟩:=zq0;refine gb (hb pins s1 σ H1 _ I1 q1) λ u s2  zq0=>?_;obtain ⟨y,H2,I2,r2,q2⟩:=zq0;exact hf v u s2 x y H2 I2 r1 r2 q2
theorem DV{op:Operator}{r:R2}(ho:uB X (binaryOp op) r)(ha:PE X a ta)(hb:PE X b tb):PE X (.BinOp a op b pos) (V6 r ta tb):=by
 intro pins s σ H Q I h;exact wpAny_BinOp (R7 ha hb I h λv u s2 x y H2 I2 rx ry q=>ho pins s2 σ H2 x y v u Q I2 rx ry q)
theorem KI{op:UnaryOp}{r:V->Hp->VK->Prop}(ho:Z3 X (unaryOp op) r)(ha:PE X a ta):PE X (.UnaryOp op a pos) (tUn r ta):=by
 intro pins s σ H Q I h;exact UnaryOp_ (gb (ha pins s σ H _ I h) (by rintro v s1 ⟨x,H1,I1,r1,q1⟩;exact ho pins s1 σ H1 x v Q I1 r1 q1))
theorem YQ{f:ah->ah->Sem ah}{C:Int->Int->Prop}{g:Int->Int->Int}(rule:∀(i j:Int)(t u:Tok)(s:ai)(Q:ah->ai->Prop)(E:ah->ai->Prop),C i j->Q (.int (g i j) s.toks) {s with toks:=s.toks+1}->aH (model X.prog X.w) X.A (f (.int i t) (.int j u)) Q E s):
  uB X f (rI C λi j=>.int (g i j)):=by
 intro pins s σ H x y v u Q I rx ry h;obtain⟨i,j,rfl,rfl,hc,q⟩:=h;obtain⟨t,rfl⟩:=rx;obtain⟨t',rfl⟩:=ry;exact rule i j t t' s _ _ hc ⟨.int (g i j),H,I.tok _,⟨_,rfl⟩,q⟩
theorem WQ{f:ah->ah->Sem ah}{g:Int->Int->Int}(rule:∀(i j:Int)(t u:Tok)(s:ai)(Q:ah->ai->Prop)(E:ah->ai->Prop),Q (.int (g i j) s.toks) {s with toks:=s.toks+1}->aH (model X.prog X.w) X.A (f (.int i t) (.int j u)) Q E s):
  uB X f (R6 λi j=>.int (g i j)):=by
 intro pins s σ H x y v u Q I rx ry h;obtain⟨i,j,rfl,rfl,q⟩:=h;obtain⟨t,rfl⟩:=rx;obtain⟨t',rfl⟩:=ry;exact rule i j t t' s _ _ ⟨.int (g i j),H,I.tok _,⟨_,rfl⟩,q⟩
theorem R8{f:ah->ah->Sem ah}{g:Int->Int->Bool}(rule:∀(i j:Int)(t u:Tok)(s:ai)(Q:ah->ai->Prop)(E:ah->ai->Prop),Q (.bool (g i j)) s->aH (model X.prog X.w) X.A (f (.int i t) (.int j u)) Q E s):
  uB X f (R6 λi j=>.bl (g i j)):=by
 intro pins s σ H x y v u Q I rx ry h;obtain⟨i,j,rfl,rfl,q⟩:=h;obtain⟨t,rfl⟩:=rx;obtain⟨t',rfl⟩:=ry;exact rule i j t t' s _ _ ⟨.bl (g i j),H,I,rfl,q⟩
noncomputable def R9(i j:Int):Prop:=0<j/\j<1073741824
noncomputable def N5(i j:Int):Prop:=(-(2 ^ 64)<i/\i<2 ^ 64)\/(-(2 ^ 64)<j/\j<2 ^ 64)
theorem N5.ok{i j:Int}(h:N5 i j):IntMulOk i j:=by
 rcases h with⟨h1,h2⟩|⟨h1,h2⟩
 ·exact .of_left (intBits_le_64 h1 h2)
 ·exact .of_right (intBits_le_64 h1 h2)
theorem Sa:uB X (binaryOp .Add) (R6 λi j=>.int (i + j)):=WQ λ_ _ _ _ _ _ _ q=>add_int q
theorem Sb:uB X (binaryOp .Sub) (R6 λi j=>.int (i - j)):=WQ λ_ _ _ _ _ _ _ q=>sub_int q
theorem Sd:uB X (binaryOp .Mult) (rI N5 λi j=>.int (i * j)):=YQ λ_ _ _ _ _ _ _ hc q=>mul_int q hc.ok
theorem N6:uB X (binaryOp .FloorDiv) (rI R9 λi j=>.int (i / j)):=YQ λi j _ _ _ _ _ hc q=>by
 have h1:(0:Int)<j:=hc.1;have h2:j<1073741824:=hc.2;exact floordiv_int (by omega) (by rw[Int.fdiv_eq_ediv_of_nonneg i (by omega)];exact q) (.inl (PyProof.noPylong_small (by omega)))
theorem Se:uB X (binaryOp .Mod) (rI (λ_ j=>0<j) λi j=>.int (i % j)):=YQ λi j _ _ _ _ _ hc q=>by
 have h1:(0:Int)<j:=hc;exact mod_int' (by omega) (by rw[Int.fmod_eq_emod_of_nonneg i (by omega)];exact q)
theorem unI{f:ah->Sem ah}{g:Int->Int}(rule:∀(i:Int)(t:Tok)(s:ai)(Q:ah->ai->Prop)(E:ah->ai->Prop),Q (.int (g i) s.toks) {s with toks:=s.toks+1}->aH (model X.prog X.w) X.A (f (.int i t)) Q E s):
  Z3 X f (rU λi=>.int (g i)):=by
 intro pins s σ H x v Q I rx h;obtain⟨i,rfl,q⟩:=h;obtain⟨t,rfl⟩:=rx;exact rule i t s _ _ ⟨.int (g i),H,I.tok _,⟨_,rfl⟩,q⟩
theorem FO:Z3 X (unaryOp .USub) (rU λi=>.int (-i)):=unI λ_ _ _ _ _ q=>neg_int q
end
noncomputable def WR:V->V->Bool
 |.ip,.ip=>true | .ip,.int _=>true | .int _,.ip=>true | .ip,.bl _=>true | .bl _,.ip=>true | .ip,.str _=>true | .str _,.ip=>true
 |.int _,.int _=>true | .bl _,.bl _=>true | .str _,.str _=>true | .Hs _,.Hs _=>true
 |.int _,.str _=>true | .str _,.int _=>true | .bl _,.str _=>true | .str _,.bl _=>true
 |_,_=>false
noncomputable def rEq:R2:=λx y H Q=>WR x y=true/\Q (.bl (decide (x=y))) H
noncomputable def rNe:R2:=λx y H Q=>WR x y=true/\Q (.bl (!decide (x=y))) H
theorem Hv{i j:Int}:decide (V.int i=V.int j)=(i==j):=by
 rw[iT];simp
theorem KJ{i j:Bool}:decide (V.bl i=V.bl j)=(i==j):=by
 rw[iT];simp
theorem Hw{i j:Str}:decide (V.str i=V.str j)=(i==j):=by
 rw[iT];simp
theorem Hx{i j:Array UInt8}:decide (V.Hs i=V.Hs j)=(i.toList==j.toList):=by
 rw[iT];cases i;cases j;simp
section
variable {X:Cx}{a b c:bc}{ta tb tc:TE}{pos:Pos}
theorem eo{pins:List (aj×Obj)}{σ:St}{H:Hp}{s:ai}{Q:VK}{k k':Bool}(I:Inv X pins σ H s)(q:Q (.bl k) H)(e:k=k'):EP X pins σ Q (.bool k') s:=by
 subst e;exact⟨.bl k,H,I,rfl,q⟩
theorem yt:uB X (compareOp .Eq) rEq:=by
 intro pins s σ H x y v u Q I rx ry h;obtain⟨hs,q⟩:=h;cases x with
 |ip=>
  cases rx;cases y with
  |ip=>cases ry;exact PySem.EqNone.eq_none_none (eo I q (by simp))
  |bl j=>cases ry;exact PySem.EqNone.eq_none_bool (eo I q (by simp))
  |int j=>obtain⟨t',rfl⟩:=ry;exact PySem.EqNone.eq_none_int (eo I q (by simp))
  |str j=>obtain⟨t',rfl⟩:=ry;exact PySem.EqNone.eq_none_str (eo I q (by simp))
  |_=>exact absurd (show false=true from hs) aV
 |bl i=>
  cases rx;cases y with
  |ip=>cases ry;exact PySem.EqNone.eq_bool_none (eo I q (by simp))
  |bl j=>cases ry;exact eq_bool (eo I q KJ)
  |str j=>obtain⟨t',rfl⟩:=ry;exact PySem.EqMixed.eq_bool_str (eo I q (by simp))
  |_=>exact absurd (show false=true from hs) aV
 |int i=>
  obtain⟨t,rfl⟩:=rx;cases y with
  |ip=>cases ry;exact PySem.EqNone.eq_int_none (eo I q (by simp))
  |int j=>obtain⟨t',rfl⟩:=ry;exact eq_int (eo I q Hv)
  |str j=>obtain⟨t',rfl⟩:=ry;exact PySem.EqMixed.eq_int_str (eo I q (by simp))
  |_=>exact absurd (show false=true from hs) aV
 |str i=>
  obtain⟨t,rfl⟩:=rx;cases y with
  |ip=>cases ry;exact PySem.EqNone.eq_str_none (eo I q (by simp))
  |bl j=>cases ry;exact PySem.EqMixed.eq_str_bool (eo I q (by simp))
  |int j=>obtain⟨t',rfl⟩:=ry;exact PySem.EqMixed.eq_str_int (eo I q (by simp))
  |str j=>obtain⟨t',rfl⟩:=ry;exact eq_str (eo I q Hw)
  |_=>exact absurd (show false=true from hs) aV
 |Hs i=>
  obtain⟨t,rfl⟩:=rx;cases y with
  |Hs j=>obtain⟨t',rfl⟩:=ry;exact PySem.W.eq_bytes (eo I q Hx)
  |_=>exact absurd (show false=true from hs) aV
 |_=>cases y<;>exact absurd (show false=true from hs) aV
theorem AS:uB X (compareOp .NotEq) rNe:=by
 intro pins s σ H x y v u Q I rx ry h;obtain⟨hs,q⟩:=h;cases x with
 |ip=>
  cases rx;cases y with
  |ip=>cases ry;exact PySem.EqNone.ne_none_none (eo I q (by simp))
  |bl j=>cases ry;exact PySem.EqNone.ne_none_bool (eo I q (by simp))
  |int j=>obtain⟨t',rfl⟩:=ry;exact PySem.EqNone.ne_none_int (eo I q (by simp))
  |str j=>obtain⟨t',rfl⟩:=ry;exact PySem.EqNone.ne_none_str (eo I q (by simp))
  |_=>exact absurd (show false=true from hs) aV
 |bl i=>
  cases rx;cases y with
  |ip=>cases ry;exact PySem.EqNone.ne_bool_none (eo I q (by simp))
  |bl j=>cases ry;exact ne_bool (eo I q (congrArg not KJ))
  |str j=>obtain⟨t',rfl⟩:=ry;exact PySem.EqMixed.ne_bool_str (eo I q (by simp))
  |_=>exact absurd (show false=true from hs) aV
 |int i=>
  obtain⟨t,rfl⟩:=rx;cases y with
  |ip=>cases ry;exact PySem.EqNone.ne_int_none (eo I q (by simp))
  |int j=>obtain⟨t',rfl⟩:=ry;exact ne_int (eo I q (congrArg not Hv))
  |str j=>obtain⟨t',rfl⟩:=ry;exact PySem.EqMixed.ne_int_str (eo I q (by simp))
  |_=>exact absurd (show false=true from hs) aV
 |str i=>
  obtain⟨t,rfl⟩:=rx;cases y with
  |ip=>cases ry;exact PySem.EqNone.ne_str_none (eo I q (by simp))
  |bl j=>cases ry;exact PySem.EqMixed.ne_str_bool (eo I q (by simp))
  |int j=>obtain⟨t',rfl⟩:=ry;exact PySem.EqMixed.ne_str_int (eo I q (by simp))
  |str j=>obtain⟨t',rfl⟩:=ry;exact ne_str (eo I q (congrArg not Hw))
  |_=>exact absurd (show false=true from hs) aV
 |Hs i=>
  obtain⟨t,rfl⟩:=rx;cases y with
  |Hs j=>obtain⟨t',rfl⟩:=ry;exact PySem.W.ne_bytes (eo I q (congrArg not Hx))
  |_=>exact absurd (show false=true from hs) aV
 |_=>cases y<;>exact absurd (show false=true from hs) aV
theorem KL:uB X (compareOp .Lt) (R6 λi j=>.bl (decide (i<j))):=R8 λ_ _ _ _ _ _ _ q=>lt_int q
theorem Qn:uB X (compareOp .Gt) (R6 λi j=>.bl (decide (j<i))):=R8 λ_ _ _ _ _ _ _ q=>gt_int q
theorem WS:uB X (compareOp .GtE) (R6 λi j=>.bl (decide (j<=i))):=R8 λ_ _ _ _ _ _ _ q=>ge_int q
theorem KN:uB X (compareOp .Is) (λx y H Q=>y = .ip/\Q (.bl (decide (x = .ip))) H):=by
 intro pins s σ H x y v u Q I rx ry h;obtain⟨rfl,q⟩:=h;cases ry;refine is_none_gen (eo I q ?_);cases x<;>first
  |(cases rx;rfl)
  |(obtain⟨t,rfl⟩:=rx;rfl)
theorem N7:uB X (compareOp .IsNot) (λx y H Q=>y = .ip/\Q (.bl (!decide (x = .ip))) H):=by
 intro pins s σ H x y v u Q I rx ry h;obtain⟨rfl,q⟩:=h;cases ry;refine isnot_none_gen (eo I q ?_);cases x<;>first
  |(cases rx;rfl)
  |(obtain⟨t,rfl⟩:=rx;rfl)
theorem gP(b:bc){op:CmpOp}(h:op≠.In:=by decide)(h2:op≠.NotIn:=by decide):behindInMarks op b=false:=by
 have e1:(op==CmpOp.In)=false:=by cases op<;>first|rfl|exact absurd rfl h
 have e2:(op==CmpOp.NotIn)=false:=by cases op<;>first|rfl|exact absurd rfl h2
 cases b<;>simp[behindInMarks,e1,e2]
theorem N8{op:CmpOp}{r:R2}(ho:uB X (compareOp op) r)(ha:PE X a ta)(hb:PE X b tb)(hm:behindInMarks op b=false):PE X (.Compare a [op] [b] pos) (V6 r ta tb):=by
 intro pins s σ H Q I h;exact wpAny_Compare1 (R7 ha hb I h λv u s2 x y H2 I2 rx ry q=>ho pins s2 σ H2 x y v u Q I2 rx ry q) hm
noncomputable def WU(t:TE):TT:=λσ H Q=>t σ H λx H'=>∃k,x = .bl k/\Q k H'
theorem kz{op:CmpOp}{r:R2}(ho:uB X (compareOp op) r)(ha:PE X a ta)(hb:PE X b tb)(hm:behindInMarks op b=false):PT X (.Compare a [op] [b] pos) (WU (V6 r ta tb)):=by
 intro pins s σ H Q I h
 refine wpAny_isTrue_Compare1 (gb (ha pins s σ H _ I h) λv s1 ⟨x,H1,I1,r1,q1⟩=>gb (hb pins s1 σ H1 _ I1 q1) λu s2 ⟨y,H2,I2,r2,q2⟩=>
  gb (ho pins s2 σ H2 x y v u _ I2 r1 r2 q2) λ c s3  zq0=>?_) hm;obtain ⟨z,H3,I3,r3,k,e,q3⟩:=zq0
 subst e;cases r3;exact iz ⟨H3,I3,q3⟩
noncomputable def WV(K:aa)(x:V)(H:Hp)(k:Bool):Prop:=
 match x with
 |.ip=>k=false
 |.bl b=>k=b
 |.int i=>k=(i != 0)
 |.str y=>y.length<=av/\k=((y.length:Int) != 0)
 |.Hs y=>y.size<=av/\k=((y.size:Int) != 0)
 |.ref p=>(∃xs,fU K H p xs/\k=!xs.isEmpty)\/(∃xs,fF K H p xs/\k=!xs.isEmpty)\/∃bh,H p=some (.dK bh)/\k=!bh.isEmpty
 |_=>False
theorem FP{κ:Type}{bh:List (κ×V)}{vs:List (κ×ah)}(r:KV bh vs):(!vs.isEmpty)=!bh.isEmpty:=by
 cases r<;>rfl
theorem yv{xs:List V}{cq:List ah}(r:cX xs cq):(!cq.toArray.isEmpty)=!xs.isEmpty:=by
 cases r<;>simp
theorem vK:(av:Nat)<2 ^ 63:=by rw[cU];decide
theorem Sf:Z4 X (λx H Q=>∃k,WV X.K x H k/\Q k H):=by
 intro pins s σ H x v Q I rx h;obtain⟨k,e,q⟩:=h;have hl:=vK;have hs:av=16777216:=cU;cases x with
 |ip=>
  cases rx;have e':k=false:=e;subst e';exact truthy_none ⟨H,I,q⟩
 |bl b=>
  cases rx;have e':k=b:=e;subst e';exact iz ⟨H,I,q⟩
 |int i=>
  obtain⟨t,rfl⟩:=rx;have e':k=(i != 0):=e;subst e';exact PySem.P.truthy_int ⟨H,I,q⟩
 |str y=>
  obtain⟨t,rfl⟩:=rx;obtain⟨hy,e'⟩:y.length<=av/\k=((y.length:Int) != 0):=e;subst e';exact PySem.P.truthy_str (by omega) ⟨H,I.tok _,q⟩
 |Hs y=>
  obtain⟨t,rfl⟩:=rx;obtain⟨hy,e'⟩:y.size<=av/\k=((y.size:Int) != 0):=e;subst e';exact PySem.W.truthy_bytes (by omega) ⟨H,I.tok _,q⟩
 |ref p=>
  cases rx;have e':(∃xs,fU X.K H p xs/\k=!xs.isEmpty)\/(∃xs,fF X.K H p xs/\k=!xs.isEmpty)\/∃bh,H p=some (.dK bh)/\k=!bh.isEmpty:=e;rcases e' with⟨xs,hx,e'⟩|⟨xs,hx,e'⟩|⟨bh,hx,e'⟩
  ·subst e';obtain⟨cq,r,pl,hz⟩:=I.list hx;have hlen:=r.length;exact wpAny_truthy_list pl.isList (by simp only[aD];omega) ⟨H,I.tok _,by rw[yv r];exact q⟩
  ·subst e';obtain⟨cq,r,pl,hz⟩:=I.tuple hx;have hlen:=r.length;exact truthy_tuple pl (by simp only[aD];omega) ⟨H,I.tok _,by rw[yv r];exact q⟩
  ·subst e';obtain⟨hz,hS,vs,r,m⟩:bh.length<=av/\(p==sysModules)=false/\∃vs,KV bh vs/\s.heap.DictOf (dB X.prog X.w) p vs:=I.dS p _ hx;have hlen:bh.length=vs.length:=jE r;exact wpAny_truthy_dict hS m (by omega) ⟨H,I.tok _,by rw[FP r];exact q⟩
 |_=>exact(show False from e).elim
theorem uN(ha:PE X a ta)(he:∀whole,isTrue a X.env whole=(do let v <-whole;standAt a.pos;holding [v] (truthy v))):
  PT X a (λσ H Q=>ta σ H λx H'=>∃k,WV X.K x H' k/\Q k H'):=by
 intro pins s σ H Q I h;exact isTrue_plain (gb (ha pins s σ H _ I h) (by rintro v s1 ⟨x,H1,I1,r1,q1⟩;exact Sf pins s1 σ H1 x v Q I1 r1 q1)) (he _)
theorem yw:uB X (binaryOp .Add) (λx y H Q=>∃i j,x = .str i/\y = .str j/\i.length + j.length<=av/\Q (.str (i++j)) H):=by
 intro pins s σ H x y v u Q I rx ry h;obtain⟨i,j,rfl,rfl,hz,q⟩:=h;obtain⟨t,rfl⟩:=rx;obtain⟨t',rfl⟩:=ry;exact add_str (λt' tk=>⟨.str (i++j),H,I.tok _,⟨_,rfl⟩,q⟩) hz
theorem vals1{x:V}{us:List ah}(r:cX [x] us):∃u,us=[u]/\RelV x u:=by
 cases r with
 |cons r1 r2=>cases r2;exact⟨_,rfl,r1⟩
theorem vals2{x y:V}{us:List ah}(r:cX [x,y] us):∃u w',us=[u,w']/\RelV x u/\RelV y w':=by
 cases r with
 |cons r1 r2=>
  cases r2 with
  |cons r3 r4=>cases r4;exact⟨_,_,rfl,r1,r3⟩
theorem KO:mS X (.builtin "abs") (λxs H Q=>∃i,xs=[.int i]/\Q (.int (if i<0 then -i else i)) H):=by
 intro pins s σ H xs us Q I r h;obtain⟨i,rfl,q⟩:=h;obtain⟨u,rfl,t,rfl⟩:=vals1 r;exact call_abs_int λu tk=>⟨.int (if i<0 then -i else i),H,I.tok _,⟨_,rfl⟩,q⟩
theorem B5:mS X (.type "str") (λxs H Q=>∃i,xs=[.int i]/\i.natAbs.log2<1920/\Q (.str (toString i)) H):=by
 intro pins s σ H xs us Q I r h;obtain⟨i,rfl,hz,q⟩:=h;obtain⟨u,rfl,t,rfl⟩:=vals1 r;exact PySem.P.str_of_int hz ⟨.str _,H,I.tok _,⟨_,rfl⟩,q⟩
end
structure Sg(h:bS)(x dx C:aj)(mA:Str->Option ah):Prop where
 obj:h.get? x=some (wG C dx)
 ns:h.Ns1 dx mA
 ne:dx≠x
theorem Jl{h:bS}{dx:aj}{mA:Str->Option ah}(n:h.Ns1 dx mA):∃od,h.get? dx=some od/\∀name,xG name od=some (mA name):=by
 obtain⟨o,es,ep,ho,hd,hk,_,hm⟩:=n;refine⟨o,ho,λname=>?_⟩;have e:=hm name;unfold nsFind findBy at e;rw[<-Array.find?_toList]at e;unfold xG;rw[hd];dsimp only;split
 ·rename_i y q;rw[q]at e;exact congrArg some e
 ·rename_i q;rw[q]at e;have a:es.toList.any (·.refKey)=false:=by
   rw[List.any_eq_false];intro y hy;obtain⟨z,t,Z5⟩:=hk y (Array.mem_toList_iff.mp hy);simp[DictEntry.refKey,Z5]
  have a':¬es.toList.any (·.refKey)=true:=by rw[a];exact aV
  rw[if_neg a'];exact congrArg some e
theorem Sg.look{h:bS}{x dx C:aj}{mA:Str->Option ah}(I:Sg h x dx C mA):∃od,PySem.W.InstAt h x (wG C dx) C (some od)/\∀name,xG name od=some (mA name):=
 let⟨od,ho,hl⟩:=Jl I.ns
 ⟨od,⟨I.obj,rfl,rfl,ho⟩,hl⟩
theorem ym.some_of{v:V}{o:Option ah}(r:ym (some v) o):∃u,o=some u/\RelV v u:=by
 cases o with
 |none=>exact(show False from r).elim
 |some u=>exact⟨u,rfl,r⟩
section
variable {P:aR}{w:bH}{H H':Hp}{h h':bS}{a C dx:aj}{fs ZO:List (Str×V)}
theorem N9(dS:qP P w H h)(e:H a=some (.ins C dx fs)):∃mA,Sg h a dx C mA/\(∀f,ym (fs.lookup f) (mA f))/\PySem.Within mA (fs.map (·.1))/\fs.length<=1000/\H dx=some (.own a):=by
 obtain⟨d,z,ne,ob,mA,n,r,q⟩:=(show fR P w H h a (.ins C dx fs)from dS a _ e);exact⟨mA,⟨ob,n,ne⟩,r,q,z,d⟩
end
structure Z6(K:aa)(C:aj):Prop where
 pg:PySem.W.plainGet K C Str.empty=true
 hd:PySem.W.hasDictIn K C=true
 po:PySem.W.plainOver K C=true
 sa:PySem.W.findIn K (.ref C) "__setattr__"=some (some (.builtin "object.__setattr__"))
theorem Z6.get{K:aa}{C:aj}(c:Z6 K C)(f:Str):PySem.W.plainGet K C f=true:=c.pg
section
variable {X:Cx}{pins:List (aj×Obj)}{σ:St}{H:Hp}{s:ai}{A:cj}{E:ah->ai->Prop}{Q:ah->ai->Prop}{c:ah}{b:Bool}
inductive vL(K:aa)(H:Hp):V->ah->Prop where
 |ip:vL K H .ip (.type "NoneType")
 |bl (x:Bool):vL K H (.bl x) (.type "bool")
 |int (i:Int):vL K H (.int i) (.type "int")
 |str (x:Str):vL K H (.str x) (.type "str")
 |wN (x:UInt64):vL K H (.wN x) (.type "float")
 |lst {a:aj} {xs:List V} (e:H a=some (.lst xs)):vL K H (.ref a) (.type "list")
 |pS {a:aj} {o:Obj} {xs:List V} (e:H a=some (.pS o (.lst xs))):vL K H (.ref a) (.type "list")
 |tup {a:aj} {xs:List V} (e:H a=some (.tup xs)):vL K H (.ref a) (.type "tuple")
 |dK {a:aj} {bh:List (Key×V)} (e:H a=some (.dK bh)):vL K H (.ref a) (.type "dict")
 |dT {a:aj} {bh:List (List Key×V)} (e:H a=some (.dT bh)):vL K H (.ref a) (.type "dict")
 |ins {a C dx:aj} {fs:List (Str×V)} (e:H a=some (.ins C dx fs)) (cl:Z6 K C) (ha:PySem.W.findIn K (.ref C) "__class__"=some (some (.builtin "object.__class__")))
   (hn:PySem.W.specialIn K (.builtin "object.__class__") "__get__"=some (some (.builtin "getset_descriptor.__get__"))) (FQ:PySem.W.takesIn K (.builtin "object.__class__")=some true)
   (hm:PySem.W.mroIn K C (.type "object")=some true):vL K H (.ref a) (.ref C)
theorem AU{x:V}{u t:ah}(I:Inv X pins σ H s)(rx:RelV x u)(ty:vL X.K H x t)(e:gA X.K t c=some b)(h:∀tk,Q (.bool b) {s with toks:=tk}):
  aH (model X.prog X.w) A (call (.builtin "isinstance") [u,c]) Q E s:=by
 cases ty with
 |ip=>cases(show u=dZ from rx);exact cT PySem.W.kitx_none I.uA iM e (λz=>nomatch z) h
 |bl y=>cases(show u=lL y from rx);exact cT PySem.W.kitx_bool I.uA iM e (λz=>nomatch z) h
 |int i=>obtain⟨t,q⟩:=(show ∃t,u=BU i t from rx);cases q;exact cT PySem.W.kitx_int I.uA iM e (λz=>nomatch z) h
 |str y=>obtain⟨t,q⟩:=(show ∃t,u=wF y t from rx);cases q;exact cT PySem.W.kitx_str I.uA iM e (λz=>nomatch z) h
 |wN y=>obtain⟨t,q⟩:=(show ∃t,u=Value.float y t from rx);cases q;exact cT PySem.W.kitx_float I.uA iM e (λz=>nomatch z) h
 |@lst a xs ea=>
  cases(show u=cO a from rx);obtain⟨_,_,n,_,h1⟩:=(show fR X.prog X.w H s.heap a (.lst xs)from I.dS a _ ea);exact cT nC I.uA ⟨_,h1,rfl⟩ e (λz=>nomatch z) h
 |@pS a ob xs ea=>
  cases(show u=cO a from rx);obtain⟨_,_,_,n,_,h1⟩:=(show fR X.prog X.w H s.heap a (.pS ob (.lst xs))from I.dS a _ ea);exact cT nC I.uA ⟨_,h1,rfl⟩ e (λz=>nomatch z) h
 |@tup a xs ea=>
  cases(show u=cO a from rx);obtain⟨_,_,_,p⟩:=(show fR X.prog X.w H s.heap a (.tup xs)from I.dS a _ ea);obtain⟨o,h1,h2,_⟩:=p;exact cT sY I.uA ⟨o,h1,h2⟩ e (λz=>nomatch z) h
 |@dK a bh ea=>
  cases(show u=cO a from rx);obtain⟨_,_,vs,_,p⟩:=(show fR X.prog X.w H s.heap a (.dK bh)from I.dS a _ ea);obtain⟨o,es,ep,h1,h2,_⟩:=p;exact cT Fy I.uA ⟨o,h1,h2.1⟩ e (λz=>nomatch z) h
 |@dT a bh ea=>
  cases(show u=cO a from rx);obtain⟨_,_,xs,_,o,es,ep,h1,h2,_⟩:=(show fR X.prog X.w H s.heap a (.dT bh)from I.dS a _ ea);exact cT Fy I.uA ⟨o,h1,h2.1⟩ e (λz=>nomatch z) h
 |@ins a C dx fs ea cl ha hn FQ hm=>
  cases(show u=cO a from rx);obtain⟨mA,O,_⟩:=N9 I.dS ea;obtain⟨od,J,_⟩:=O.look;exact cT (PySem.W.kitx_own (cl.get _) cl.hd ha hn FQ hm) I.uA J e (λz=>nomatch z) h
end
structure iD(k:Nat)(A:cj):Prop where
 hd:A.handled=none
 dp:A.depth+3 * k+5<recursionLimit
 un:A.units+16 * k+200<cLine
theorem iD.mono{j k:Nat}{A:cj}(r:iD k A)(h:j<=k):iD j A:=⟨r.hd,by have:=r.dp;omega,by have:=r.un;omega⟩
theorem iD.deeper{k:Nat}{A:cj}(r:iD (k+1) A)(env:Env):iD k (A.deeper env):=
 ⟨r.hd,by have:=r.dp;show A.depth+1+3 * k+5<_;omega,by have:=r.un;show A.units+3+16 * k+200<_;omega⟩
theorem iD.depth{k:Nat}{A:cj}(r:iD k A):A.depth<recursionLimit:=by have:=r.dp;omega
theorem iD.units{k:Nat}{A:cj}(r:iD k A):A.units+64<cLine:=by have:=r.un;omega
noncomputable def Sh:TA:=λ_ H Q=>Q [] H
noncomputable def DY(ta:TE)(tr:TA):TA:=λσ H Q=>ta σ H λx H1=>tr σ H1 λxs H2=>Q (x::xs) H2
section
variable {X:Cx}{e:bc}{es:List bc}{te:TE}{t:TA}{pos:Pos}
theorem bD:PA X [] Sh:=λ_ _ _ _ H Q I h=>ou ⟨[],H,I,.nil,h⟩
theorem aO(ha:PE X e te)(hr:PA X es t)(hs:ao (e::es) X.env=(false,eval e X.env)::ao es X.env:=by rfl):PA X (e::es) (DY te t):=by
 intro pos pins s σ H Q I h;rw[hs];show aH _ _ (spliced ((false,eval e X.env)::cG pos (ao es X.env))) _ _ s;refine fK (gb (ha pins s σ H _ I h) λ u s1  zq0=>?_);obtain ⟨x,H1,I1,r1,q1⟩:=zq0;exact gb (hr pos pins s1 σ H1 _ I1 q1) (by rintro us s2 ⟨xs,H2,I2,r2,q2⟩;exact ⟨x::xs,H2,I2,.cons r1 r2,q2⟩)
noncomputable def KQ(t:TA):TE:=λσ H Q=>t σ H λxs H1=>xs.length<=av/\∀p,H1 p=none->Q (.ref p) (upd H1 p (.tup xs))
noncomputable def Z7(t:TA):TE:=λσ H Q=>t σ H λxs H1=>xs.length<=av/\∀p,H1 p=none->Q (.ref p) (upd H1 p (.lst xs))
theorem me{x1}(h:PA X es t):PE X (.Tuple es x1 pos) (KQ t):=by
 intro pins s σ H Q I hq;refine wpAny_Tuple_spliced (gb (h pos pins s σ H _ I hq) λus s1 ⟨xs,H1,I1,r,z,q⟩=>⟨by rw[<-r.length];exact z,?_⟩);have hf:H1 s1.heap.objs.size=none:=I1.dS.fresh (au _);refine⟨.ref s1.heap.objs.size,upd H1 s1.heap.objs.size (.tup xs),I1.laid (t':=s1.toks) (λb u e=>af _ e) (au _) ?_,rfl,q _ hf⟩;exact⟨z,us,r,⟨_,aB _ rfl,rfl,_,rfl⟩⟩
theorem tW(h:PA X es t):PE X (.List es pos) (Z7 t):=by
 intro pins s σ H Q I hq;refine wpAny_List_spliced (gb (h pos pins s σ H _ I hq) λus s1 ⟨xs,H1,I1,r,z,q⟩=>⟨by rw[<-r.length];exact z,?_⟩);have hf:H1 s1.heap.objs.size=none:=I1.dS.fresh (au _);refine⟨.ref s1.heap.objs.size,upd H1 s1.heap.objs.size (.lst xs),I1.laid (t':=s1.toks) (λb u e=>af _ e) (au _) ?_,rfl,q _ hf⟩;exact⟨z,us,0,r,aB _ rfl⟩
end
noncomputable abbrev Sp:=List V->Hp->VK->XK->Prop
noncomputable abbrev Fv:=List Env->Hp->ai->XK->ah->ai->Prop
structure KR(P:aR)(w:bH)(K:aa)(mg:Str->Option ah)(base:bS)(A:cj)(outer:List Env)(s:ai)(H:Hp):Prop where
 frames:A.frames=some outer
 mod:Mod K mg base
 bs:∀b o,base.get? b=some o->s.heap.get? b=some o/\H b=none
 Kw:base.objs.size<=s.heap.objs.size
 uI:s.heap.FunFrames base outer
 NZ:∀b∈oY outer,H b=none
 dS:qP P w H s.heap
 bare:AllBare s.gens
noncomputable def CE(outer:List Env)(P:aR)(w:bH)(H:Hp)(s:ai)(Q:VK)(u:ah)(s':ai):Prop:=
 ∃v H',s'.os=s.os/\AllBare s'.gens/\Un (oY outer) [] H H' s.heap s'.heap/\qP P w H' s'.heap/\RelV v u/\Q v H'
noncomputable def CR(CX:Fv)(outer:List Env)(P:aR)(w:bH)(H:Hp)(s:ai)(Q:VK)(E:XK)(r:Result)(s':ai):Prop:=
 match r with
 |.ok (.ret u)=>CE outer P w H s Q u s'
 |.ok _=>False
 |.error e=>CX outer H s E e s'
structure fi(P:aR)(w:bH)(K:aa)(mg:Str->Option ah)(base:bS)(CX:Fv)(k:Nat)(f:aj)(fd:be)(ps:List Str)(sp:Sp):Prop where
 len:∀vs H Q E,sp vs H Q E->vs.length=ps.length
 run:∀(A:cj)(outer:List Env)(s:ai)(H:Hp)(args:Args)(us:List ah)(vs:List V) (Q:VK) (E:XK),iD k A->KR P w K mg base A outer s H->BindsTo s fd args (ps.zip us)->cX vs us->sp vs H Q E->
  codeAny (model P w) A (.call (.ref f) args) (CR CX outer P w H s Q E) s
theorem fi.imp{P:aR}{w:bH}{K:aa}{mg:Str->Option ah}{base:bS}{CX:Fv}{k:Nat}{f:aj}{fd:be}{ps:List Str}{sp Hy:Sp}(F:fi P w K mg base CX k f fd ps sp)(h:∀vs H Q E,Hy vs H Q E->sp vs H Q E):fi P w K mg base CX k f fd ps Hy:=
 ⟨λvs H Q E q=>F.len vs H Q E (h _ _ _ _ q),λA outer s H args us vs Q E hr he hb hv hs=>F.run A outer s H args us vs Q E hr he hb hv (h _ _ _ _ hs)⟩
section
variable {X:Cx}{pins:List (aj×Obj)}{σ:St}{H:Hp}{s s':ai}
theorem Inv.Si(I:Inv X pins σ H s):KR X.prog X.w X.K X.mg X.base X.A X.stack s H:=
 ⟨I.ok.frames,I.ok.mod,I.bs,aX I.ok.Kw I.sz,I.stack,I.B4,I.dS,I.bare⟩
theorem Inv.after{Q:VK}{u:ah}(I:Inv X pins σ H s)(h:CE X.stack X.prog X.w H s Q u s'):EP X pins σ Q u s':=by
 obtain⟨v,H',os,bare,un,dS,r,q⟩:=h;obtain⟨hh,g,d,t,os'⟩:=s';obtain rfl:os'=s.os:=os;exact⟨v,H',I.call (h':=hh) (g':=g) (d':=d) (t':=t) (ch:=[]) un dS bare (λb z=>absurd z (by simp)),r,q⟩
end
noncomputable def KU(sp:Sp)(FR:List V)(E:XK)(t:TA):TE:=λσ H Q=>t σ H λvs H1=>sp (vs++FR) H1 Q E
noncomputable def Binds(K:aa)(fd:be)(ps:List Str)(ds:List ah):Prop:=
 ∀(s:ai)(us:List ah),K.In s.heap->(us++ds).length=ps.length->BindsTo s fd ⟨us,[]⟩ (ps.zip (us++ds))
theorem Binds.all{K:aa}{fd:be}{ps:List Str}(h:∀us:List ah,us.length=ps.length->bindArgs fd ⟨us,[]⟩=pure (ps.zip us)):Binds K fd ps []:=λs us _ hl=>by
 rw[cf]at hl ⊢;exact .of_eq (h us hl)
noncomputable def vM(CX:Fv)(X:Cx)(E:XK):Prop:=∀(pins:List (aj×Obj)) (σ:St) (H:Hp) (s:ai) (e:ah) (s':ai),Inv X pins σ H s->CX X.stack H s E e s'->X.xe e s'
section
variable {X:Cx}{CX:Fv}{k:Nat}{f C:aj}{fd:be}{ps:List Str}{sp:Sp}{FR:List V}{ds:List ah}{E:XK}{x m:Str}{p pos apos:Pos}{e o:bc}{es:List bc}{ta:TE}{t:TA}
theorem Sj{pins:List (aj×Obj)}{σ:St}{H:Hp}{s:ai}{Q:VK}{us:List ah}{vs:List V}(F:fi X.prog X.w X.K X.mg X.base CX k f fd ps sp)(hr:iD k X.A)(hb:Binds X.K fd ps ds)(hd:cX FR ds)(hx:vM CX X E)(I:Inv X pins σ H s)(r:cX vs us)(h:sp (vs++FR) H Q E):aH (model X.prog X.w) X.A (call (.ref f) us) (EP X pins σ Q) X.xe s:=by
 have r2:cX (vs++FR) (us++ds):=r.append hd;have hl:(us++ds).length=ps.length:=by rw[<-r2.length];exact F.len _ _ _ _ h
 refine wpAny_call (codeAny_mono (F.run X.A X.stack s H ⟨us,[]⟩ (us++ds) (vs++FR) Q E hr I.Si (hb s us I.uA hl) r2 h) λr s' hq=>?_);cases r with
 |error e=>exact hx pins σ H s e s' I hq
 |ok fl=>
  cases fl with
  |ret u=>exact I.after hq
  |next=>exact dM hq
  |brk=>exact dM hq
  |cont=>exact dM hq
theorem Oa(F:fi X.prog X.w X.K X.mg X.base CX k f fd ps sp)(hr:iD k X.A)(hg:Gl X x)(hm:X.mg x=some (.ref f))(hk:eX X.K (.ref f)=true)(hb:Binds X.K fd ps ds)(hd:cX FR ds)(hx:vM CX X E)(ha:PA X (e::es) t)(qX:(x==("__debug__":Str))=false:=by decide)(he:ao (e::es) X.env=(false,eval e X.env)::ao es X.env:=by rfl)(kY:(cG pos (ao es X.env)).any (·.1)=false:=by rfl):
  PE X (.Call (.Name x p) (e::es) [] pos) (KU sp FR E t):=by
 intro pins s σ H Q I h;refine jb (pU I hg hm ?_ qX);refine mH (h₀:=X.base) I.ok.mod.Qe hk (gb (ha pos pins s σ H _ I h) λus s1 ⟨vs,H1,I1,r,q⟩=>⟨I1.uA,?_⟩) he kY;exact Sj F hr hb hd hx I1 r q
end
section
variable {X:Cx}{CX:Fv}{k:Nat}{f C:aj}{fd:be}{ps ks:List Str}{sp:Sp}{E:XK}{x m:Str}{p pos apos ae8:Pos}{e o:bc}{es:List bc}{kws:List fA}{te ta:TE}{t tk:TA}{nm:Option Str}
variable {g:List ah->List ah->List ah}{gV:List V->List V->List V}
end
structure b5(N P:List Str)(sc:Scope):Prop where
 kind:sc.kind = .function
 co:sc.isCoroutine=false
 gen:sc.isGenerator=false
 nd:N.Nodup
 pre:N.take P.length=P
 par:∀x∈P,sc.names.lookup x=some .local\/sc.names.lookup x=some .cell
 Sk:∀y∈sc.names,y.2≠.free
theorem AV{kindOf:Str->Option NameKind}{x:Str}:∀{binds:List (Str×ah)} {m:Str->Option ah},(∀v,(x,v)∉binds)->bindL kindOf binds m x=m x
 |[],_,_=>rfl
 |(n,v)::r,m,h=>by
  unfold bindL;rw[AV λw hw=>h w (aU _ hw)];split
  ·have:x≠n:=by rintro rfl;exact h v aE
   simp[this]
  ·rfl
theorem AW{kindOf:Str->Option NameKind}{x:Str}:∀{binds:List (Str×ah)} {m:Str->Option ah},(∀v,(x,v)∉binds)->bindC kindOf binds m x=m x
 |[],_,_=>rfl
 |(n,v)::r,m,h=>by
  unfold bindC;rw[AW λw hw=>h w (aU _ hw)];split
  ·rfl
  ·have:x≠n:=by rintro rfl;exact h v aE
   simp[this]
theorem AX{kindOf:Str->Option NameKind}{x:Str}{v:ah}:∀{P:List Str}{vs:List ah}{i:Nat}{m:Str->Option ah},P.Nodup->P[i]?=some x->vs[i]?=some v->kindOf x=some .local->
  bindL kindOf (P.zip vs) m x=some v
 |[],_,_,_,_,h,_,_=>by simp at h
 |_::_,[],_,_,_,_,h,_=>by simp at h
 |p::P,w::vs,0,m,nd,h1,h2,hk=>by
  simp at h1 h2;subst h1;subst h2;show bindL kindOf ((p,w)::P.zip vs) m p=_;unfold bindL;rw[AV λv hv=>(fo.mp nd).1 (qN hv).1,if_pos hk];simp
 |p::P,w::vs,i+1,m,nd,h1,h2,hk=>by
  show bindL kindOf ((p,w)::P.zip vs) m x=_;unfold bindL;exact AX (i:=i) (fo.mp nd).2 (by simpa using h1) (by simpa using h2) hk
theorem AY{kindOf:Str->Option NameKind}{x:Str}{v:ah}:∀{P:List Str}{vs:List ah}{i:Nat}{m:Str->Option ah},P.Nodup->P[i]?=some x->vs[i]?=some v->kindOf x≠some .local->
  bindC kindOf (P.zip vs) m x=some v
 |[],_,_,_,_,h,_,_=>by simp at h
 |_::_,[],_,_,_,_,h,_=>by simp at h
 |p::P,w::vs,0,m,nd,h1,h2,hk=>by
  simp at h1 h2;subst h1;subst h2;show bindC kindOf ((p,w)::P.zip vs) m p=_;unfold bindC;rw[AW λv hv=>(fo.mp nd).1 (qN hv).1,if_neg hk];simp
 |p::P,w::vs,i+1,m,nd,h1,h2,hk=>by
  show bindC kindOf ((p,w)::P.zip vs) m x=_;unfold bindC;exact AY (i:=i) (fo.mp nd).2 (by simpa using h1) (by simpa using h2) hk
noncomputable def start(N:List Str)(vs:List V):St:=vs.map some++eC (N.length - vs.length) none
noncomputable def pW(CX:Fv)(P:aR)(w:bH)(K:aa)(mg:Str->Option ah)(base:bS)(N:List Str)(qual:Str)(scope:Scope)(f:aj)(cd:ah)(A:cj)(outer:List Env)(s:ai)(H:Hp)(E:XK):Cx where
 prog:=P
 w:=w
 K:=K
 mg:=mg
 base:=base
 A:=A.deeper (envOfC qual scope s.heap.objs.size f cd)
 N:=N
 jH:=s
 xo:=H
 env:=envOfC qual scope s.heap.objs.size f cd
 outer:=outer
 stack:=envOfC qual scope s.heap.objs.size f cd::outer
 ex:=[]
 calm:=true
 fn:=λ_=>true
 pn:=[]
 xe:=λe s'=>aH (model P w) (A.deeper (envOfC qual scope s.heap.objs.size f cd)) (leaving (envOfC qual scope s.heap.objs.size f cd) e) (λ_ FT=>CX outer H s E e FT) (λe' FT=>CX outer H s E e' FT) s'
theorem DZ{sc:Scope}{n:Nat}{x:Str}(h:sc.names.lookup x=some .cell):∃c,(cellsFrom n sc.names []).lookup x=some c:=by
 have q:=pI sc.names n [] (.inl h);exact Am.mp q
theorem AZ{CX:Fv}{P:aR}{w:bH}{K:aa}{mg:Str->Option ah}{base:bS}{N ps:List Str}{qual:Str}{scope:Scope}{f:aj}{cd:ah}{A:cj}{outer:List Env}{s s1:ai}{H:Hp}{E:XK}{us:List ah}{vs:List V}(S:b5 N ps scope)(hd:A.handled=none)(e0:KR P w K mg base A outer s H)(hl:vs.length=ps.length)(r:cX vs us)(x:InCallC s s.heap.objs.size (bindL (envOfC qual scope s.heap.objs.size f cd).kindOf (ps.zip us) λ_=>none) (cellsFrom (s.heap.objs.size+1) scope.names []) (bindC (envOfC qual scope s.heap.objs.size f cd).kindOf (ps.zip us) λ_=>none) s1):
  Inv (pW CX P w K mg base N qual scope f cd A outer s H E) [] (start N vs) H s1:=by
 have kY:ps.length<=N.length:=by have:=congrArg oS S.pre;rw[gB]at this;omega
 obtain⟨h1,tk,rfl,hk⟩:=x.done;have WW:∀b:aj,b∉(pW CX P w K mg base N qual scope f cd A outer s H E).ex:=λb z=>absurd (show b∈([]:List aj)from z) (by simp)
 refine⟨⟨e0.mod,S.kind,rfl,rfl,au _,λy z c h1 h2=>?_,λy hy=>?_,λy c _ h=>?_,λ_=>hd,Around.frames_deeper e0.frames,.inr ⟨rfl,rfl⟩,λb z=>absurd z (WW b),e0.bs,e0.Kw,λb _ _=>WW b,λb z=>absurd z (WW b),e0.uI,e0.NZ⟩,
  rfl,e0.bare,Un.kept hk,⟨_,x.toInCall.ns,λi y v h1 h2 h3=>?_⟩,λy c h=>⟨_,x.cell y c h⟩,e0.dS.fresh (au _),λy c h=>?_,λp hp=>absurd (show p∈([]:List (aj×Obj))from hp) (by simp),e0.dS.kept hk,?_⟩
 ·exact name_of_addr x.apart (ik h1) (ik h2)
 ·have hy:scope.names.lookup y=some .cell\/scope.names.lookup y=some .free:=hy;rcases hy with hy|hy
  ·exact DZ hy
  ·exact absurd rfl (S.Sk _ (ik hy))
 ·exact fj (x.above y c (ik h))
 ·have hi:i<vs.length:=by
   unfold start at h2;by_cases hi:i<vs.length
   ·exact hi
   ·rw[aP (by simpa using hi)]at h2;rw[Dh]at h2;split at h2<;>cases h2
  have ha:vs[i]?=some v:=by
   unfold start at h2;rw[aK (by simpa using hi),aw]at h2;cases e:vs[i]? with
   |none=>rw[e]at h2;cases h2
   |some a=>rw[e]at h2;cases h2;rfl
  obtain⟨u,hu,rv⟩:=r.get ha;have hp:ps[i]?=some y:=by
   rw[<-S.pre,List.getElem?_take_of_lt (by omega)];exact h1
  have ndP:ps.Nodup:=by rw[<-S.pre];exact S.nd.sublist (List.take_sublist _ _)
  refine⟨u,rv,?_⟩;rcases S.par y (aI hp)with k|k
  ·exact .inl ⟨k,AX ndP hp hu k⟩
  ·obtain⟨c,e⟩:=DZ (n:=s.heap.objs.size+1) k;refine .inr ⟨.inl k,c,e,?_⟩;have q:=x.cell y c e;rw[AY ndP hp hu (by show scope.names.lookup y≠_;rw[k];decide)]at q;exact q
 ·exact e0.dS.fresh (fj (x.above y c (ik h)))
 ·unfold start;show _=N.length;rw[aL,ay,qQ];omega
theorem Qo{CX:Fv}{P:aR}{w:bH}{K:aa}{mg:Str->Option ah}{base:bS}{k:Nat}{f:aj}{name qual:Str}{params:Arguments}{body:List b9}{scope:Scope}{dV kV doc pm eR ct oc:ah}{an od:Option aj}{Jm:Array (Option ah)}{N ps:List Str}{sp:Sp}(lk:K.lookup f=some ⟨oc,od,.func (dA name qual params body scope dV kV doc pm an eR ct),Jm⟩)(l9:ko K eR qual=true)(S:b5 N ps scope)(len:∀vs H Q E,sp vs H Q E->vs.length=ps.length)(lU:∀(A:cj)(outer:List Env)(s:ai)(H:Hp)(vs:List V)(Q:VK)(E:XK),iD k (A.deeper (envOfC qual scope s.heap.objs.size f eR))->sp vs H Q E->
   ∃t,qD (pW CX P w K mg base N qual scope f eR A outer s H E) body t/\t {nx:=λ_ H'=>Q .ip H',rt:=Q} (start N vs) H):
  fi P w K mg base CX (k+1) f (dA name qual params body scope dV kV doc pm an eR ct) ps sp:=by
 refine⟨len,λA outer s H args us vs Q E hr e0 hb r Av=>?_⟩;have hl:=len _ _ _ _ Av;have KX:K.In s.heap:=e0.mod.Qe.keeps λb o e=>(e0.bs b o e).1;have lim:s.heap.NoLimit:=e0.mod.nolimit.keeps λb o e=>(e0.bs b o e).1;have A0:∀y∈ps.zip us,scope.names.lookup y.1=some .local\/(scope.names.lookup y.1=some .cell/\((cellsFrom (s.heap.objs.size+1) scope.names []).lookup y.1).isSome=true):=λ⟨n,v⟩ hy=>by
  rcases S.par n (qN hy).1 with q|q
  ·exact .inl q
  ·exact .inr ⟨q,pI _ _ _ (.inl q)⟩
 refine codeAny_call_function hr.depth (KX _ _ lk) rfl S.co S.gen rfl (Fm KX l9) (hb _ _ _ _ ?_);refine Fn S.kind A0 λenv he s1 x=>?_;subst he;refine⟨lim.keeps x.toInCall.keep,codeAny_func ?_⟩;obtain⟨t,ht,hq⟩:=lU A outer s H vs Q E (hr.deeper _) Av;have I:Inv (pW CX P w K mg base N qual scope f eR A outer s H E) [] (start N vs) H s1:=AZ S hr.hd e0 hl r x;refine bO (ht [] s1 (start N vs) H _ I hq) (λfl s' hs=>?_) λe s' hs=>hs;have fin:∀{dI:St}{H':Hp}{v:V}{u:ah},Inv (pW CX P w K mg base N qual scope f eR A outer s H E) [] dI H' s'->RelV v u->Q v H'->CE outer P w H s Q u s':=
  λ{dI H' v u} J rv q=>⟨v,H',J.os,J.bare,J.base,J.dS,rv,q⟩
 cases fl with
 |ret u=>
  obtain⟨v,dI,H',J,rv,q⟩:=hs;exact fin J rv q
 |next=>
  obtain⟨dI,H',J,q⟩:=hs;exact fin (v:=V.ip) (u:=dZ) J rfl q
 |brk=>
  obtain⟨_,_,_,q⟩:=hs;exact dM q
 |cont=>
  obtain⟨_,_,_,q⟩:=hs;exact dM q
section
variable {X:Cx}{x:Str}{p pos:Pos}{e:bc}{es:List bc}{t:TA}{id T:String}{r:List V->Hp->VK->Prop}
noncomputable def Z8(r:List V->Hp->VK->Prop)(t:TA):TE:=λσ H Q=>t σ H λvs H1=>r vs H1 Q
theorem gf(hc:mS X (.builtin id) r)(hg:Gl X x)(hm:X.mg x=none)(hv:bootBuiltins x=some (.builtin id))(ha:PA X (e::es) t)(hn:x≠"__name__":=by decide)(qX:(x==("__debug__":Str))=false:=by decide)(he:ao (e::es) X.env=(false,eval e X.env)::ao es X.env:=by rfl)(kY:(cG pos (ao es X.env)).any (·.1)=false:=by rfl):PE X (.Call (.Name x p) (e::es) [] pos) (Z8 r t):=by
 intro pins s σ H Q I h;refine jb (md I hg hm hv ?_ hn qX);exact PyProof.Rows.callWith_builtin1 (gb (ha pos pins s σ H _ I h) (by rintro us s1 ⟨vs,H1,I1,r1,q1⟩;exact hc pins s1 σ H1 vs us Q I1 r1 q1)) he kY
theorem jq(hc:mS X (.type T) r)(hg:Gl X x)(hm:X.mg x=none)(hv:bootBuiltins x=some (.type T))(ha:PA X (e::es) t)(hn:x≠"__name__":=by decide)(qX:(x==("__debug__":Str))=false:=by decide)(he:ao (e::es) X.env=(false,eval e X.env)::ao es X.env:=by rfl)(kY:(cG pos (ao es X.env)).any (·.1)=false:=by rfl):PE X (.Call (.Name x p) (e::es) [] pos) (Z8 r t):=by
 intro pins s σ H Q I h;refine jb (md I hg hm hv ?_ hn qX);exact cw (gb (ha pos pins s σ H _ I h) (by rintro us s1 ⟨vs,H1,I1,r1,q1⟩;exact hc pins s1 σ H1 vs us Q I1 r1 q1)) he kY
end
end L2
namespace HT
open PySem PyProof.Rows
section
open PySem.SeqAt
open PySem.AutoSeq1 (wpAny_loadPart')
open PySem.MeetsSeq PySem.MeetsSeq2 PySem.MeetsSeq3
end
section
variable {prog:aR}{w:bH}{A:cj}{E:ah->ai->Prop}{s:ai}
theorem Ob{t b:aj}{vs ws:List ah}{Q:ah->ai->Prop}(ht:IsTup s.heap t vs.toArray)(hb:IsTup s.heap b ws.toArray)(hv:vs≠[])(h1:ws=[]->Q (.ref t) s)(h2:ws≠[]->Q (.ref s.heap.objs.size) {s with heap:=s.heap.push {cls:=.type "tuple",data:=.seq (vs++ws).toArray}})(hsz:vs.length + ws.length<=av):aH (model prog w) A (binaryOp .Add (.ref t) (.ref b)) Q E s:=by
 obtain⟨⟨cls,dd,data,sl⟩,ho,hc,n,hd⟩:=id ht;obtain⟨⟨Z9,V7,data2,YS⟩,Sn,Dl,n2,hd2⟩:=id hb;simp only at hc hd Dl hd2;subst hc hd Dl hd2;have e:vs.toArray++ws.toArray=(vs++ws).toArray:=by simp
 by_cases hw:ws=[]
 ·exact concat_meets ⟨_,ho,rfl⟩ ⟨_,Sn,rfl⟩ noFill_tuple_add seq_tuple_add pJ oT (nP _ _)
   (tuple_addW1 t b vs.toArray ws.toArray n n2 dd V7 sl YS (by simpa using hv) (by simp[hw])) ⟨ho,Sn,h1 hw⟩
 ·refine concat_meets ⟨_,ho,rfl⟩ ⟨_,Sn,rfl⟩ noFill_tuple_add seq_tuple_add pJ oT (nP _ _)
   (tuple_addW2 t b vs.toArray ws.toArray n n2 dd V7 sl YS (by simpa using hv) (by simpa using hw) (by rw[aD,aD];exact hsz)) ⟨ho,Sn,?_⟩
  rw[e];exact h2 hw
noncomputable def jw(n d:Nat):Option Int->Nat
 |none=>d
 |some v=>if v<0 then(v + (n:Int)).toNat else min v.toNat n
theorem KW(n d:Nat):jw n d none=d:=rfl
theorem B6(n d k:Nat):jw n d (some (k:Int))=min k n:=by
 show(if(k:Int)<0 then((k:Int) + (n:Int)).toNat else min (k:Int).toNat n)=min k n;rw[if_neg (by omega),gc]
theorem So(n d:Nat)(hd:d<=n)(o:Option Int):jw n d o<=n:=by
 cases o with
 |none=>exact hd
 |some v=>
  show(if v<0 then(v + (n:Int)).toNat else min v.toNat n)<=n;by_cases hv:v<0
  ·rw[if_pos hv];omega
  ·rw[if_neg hv];exact Nat.min_le_right _ _
theorem Hz(v:Int)(n d:Nat):(if v<0 then max (v + (n:Int)) 0 else min v (n:Int))=((jw n d (some v):Nat):Int):=by
 show(if v<0 then max (v + (n:Int)) 0 else min v (n:Int))=(((if v<0 then(v + (n:Int)).toNat else min v.toNat n):Nat):Int);by_cases hv:v<0
 ·simp only[if_pos hv];omega
 ·simp only[if_neg hv];omega
theorem FU(lo hi:Option Int)(n:Nat):l8 lo hi 1 (n:Int)=(((jw n 0 lo:Nat):Int),((jw n n hi:Nat):Int)):=by
 have h1:¬((1:Int)<0):=by omega
 unfold l8;simp only[h1,if_false];refine Prod.ext ?_ ?_
 ·cases lo with
  |none=>rfl
  |some v=>exact Hz v n 0
 ·cases hi with
  |none=>rfl
  |some v=>exact Hz v n n
theorem FV(i j:Nat):iU (i:Int) (j:Int) 1=j - i:=by
 unfold iU;have h1:(1:Int) > 0:=by omega
 simp only[h1,if_true,Int.ediv_one];split<;>omega
theorem yx{v:ah}{o:Option Int}{Q:Option Int->ai->Prop}(p:IsPart v o)(h:Q o s):aH (model prog w) A (Builtin.Slice.slicePartIndex v) Q E s:=by
 cases p with
 |none=>exact slicePart_none h
 |int i t=>exact slicePart_int h
theorem vN{sl:aj}{vl vu:ah}{lo hi:Option Int}{n:Nat}{Q:Int×Int×Nat->ai->Prop}(hs:s.heap.IsSliceOf sl vl vu .none)(pl:IsPart vl lo)(pu:IsPart vu hi)(h:Q (((jw n 0 lo:Nat):Int),1,jw n n hi - jw n 0 lo) s):aH (model prog w) A (ux (.ref sl) (pure (n:Int))) Q E s:=by
 obtain⟨os,WX,Sq,WY⟩:=id hs;unfold ux Builtin.Slice.sliceFields;refine ae (ae (df WX WY (x:=vl) rfl (ae (df WX WY (x:=vu) rfl (ae (df WX WY (x:=.none) rfl (ax ?_)))))));refine ae (slicePart_none ?_);show aH _ _ (if((1:Int)==0)=true then _ else _) _ _ s;rw[if_neg (by decide)];refine ae (yx pl (ae (yx pu (ae (ax ?_)))));show aH _ _ (match l8 lo hi 1 (n:Int)with|(lo,hi)=>pure (lo,(1:Int),iU lo hi 1)) _ _ s;rw[FU lo hi n];show aH _ _ (pure (((jw n 0 lo:Nat):Int),(1:Int),iU ((jw n 0 lo:Nat):Int) ((jw n n hi:Nat):Int) 1)) _ _ s;rw[FV];exact ax h
theorem KY(xs:Array ah)(i k:Nat):((qI k).filterMap λ(m:Nat)=>xs[((i:Int) + (m:Int) * 1).toNat]?).toArray=((xs.toList.drop i).take k).toArray:=by
 have e:(λ(m:Nat)=>xs[((i:Int) + (m:Int) * 1).toNat]?)=λm=>xs[i + m]?:=by
  funext m;have:((i:Int) + (m:Int) * 1).toNat=i + m:=by omega
  rw[this]
 rw[e];have:=pick_run xs i k;rw[List.filterMap_map]at this;have e2:((λx=>xs[x]?) ∘ λx=>i + x)=λm=>xs[i + m]?:=rfl;rw[e2]at this;rw[this]
theorem uO{t sl:aj}{items:Array ah}{vl vu:ah}{lo hi:Option Int}{Q:ah->ai->Prop}(ht:IsTup s.heap t items)(hs:s.heap.IsSliceOf sl vl vu .none)(pl:IsPart vl lo)(pu:IsPart vu hi)(hw:¬(jw items.size 0 lo=0/\jw items.size items.size hi=items.size))(h:Q (.ref s.heap.objs.size) {s with heap:=s.heap.push {cls:=.type "tuple",data:=.seq ((items.toList.drop (jw items.size 0 lo)).take (jw items.size items.size hi - jw items.size 0 lo)).toArray}})(hsz:items.size<=av):aH (model prog w) A (getItem (.ref t) (.ref sl)) Q E s:=by
 have HC:sizeOk (.seq ((items.toList.drop (jw items.size 0 lo)).take (jw items.size items.size hi - jw items.size 0 lo)).toArray):=by
  show((items.toList.drop (jw items.size 0 lo)).take (jw items.size items.size hi - jw items.size 0 lo)).toArray.size<=av;rw[aD,gB,pM,ij];omega
 have hj:jw items.size items.size hi<=items.size:=So _ _ (au _) hi;obtain⟨os,WX,Sq,WY⟩:=id hs;have hTs:s.TypeIs (.ref sl) "slice":=⟨os,WX,Sq⟩;unfold getItem
 try with_reducible refine iE ?_
 first|refine ae (ax ?_)|skip
 refine ae (wpAny_sequenceKey ht.typeIs (by decide) ?_)
 refine ae (ff (name:=fk "__getitem__") ht.typeIs jV
  (fg jV ht.typeIs entry_tuple_getitem ?_ (args_tuple_getitem _ _)))
 show aH _ _ (Builtin.Tuple.tupleItemsOf (.ref t) >>= _) _ _ s;refine ae (tupleItemsOf_ ht ?_);refine ae (oU hTs ?_);rw[if_pos (by decide)];refine ae (vN hs pl pu ?_);have KZ:¬((((jw items.size 0 lo:Nat):Int)==0&&(1:Int)==1&&(jw items.size items.size hi - jw items.size 0 lo)==items.size)=true):=by
  intro q;rw[iB,iB]at q;have q1:((jw items.size 0 lo:Nat):Int)=0:=eq_of_beq q.1.1;have q2:jw items.size items.size hi - jw items.size 0 lo=items.size:=eq_of_beq q.2;exact hw ⟨by omega,by omega⟩
 show aH _ _ (if(((jw items.size 0 lo:Nat):Int)==0&&(1:Int)==1&&(jw items.size items.size hi - jw items.size 0 lo)==items.size)=true then _ else _) _ _ s;rw[if_neg KZ,KY]
 first
  |exact ae (m:=jc _) (dO (ax ⟨_,rfl,ax h⟩) HC)
  |exact ae (m:=jc _) (dO (ae (ax (ax ⟨_,rfl,ax h⟩))) HC)
  |exact ae (ae (m:=jc _) (dO (ax (ax ⟨_,rfl,ax h⟩)) HC))
  |exact ae (ae (m:=jc _) (dO (ax ⟨_,rfl,ax h⟩) HC))
end
end HT
namespace L2
open PySem PySem.Spec PyProof.Rows
noncomputable abbrev TO:=St->Hp->(Option Int->Hp->Prop)->Prop
noncomputable def PO(X:Cx)(e:Option bc)(t:TO):Prop:=
 ∀(pins:List (aj×Obj)) (s:ai) (σ:St) (H:Hp) (Q:Option Int->Hp->Prop),Inv X pins σ H s->t σ H Q->
  aH (model X.prog X.w) X.A (evalPart e X.env) (λu s'=>∃o H',Inv X pins σ H' s'/\IsPart u o/\Q o H') X.xe s
noncomputable def Oc:TO:=λ_ H Q=>Q none H
noncomputable def WZ(t:TE):TO:=λσ H Q=>t σ H λx H1=>∃i,x = .int i/\Q (some i) H1
section
variable {X:Cx}{e:bc}{te:TE}{lo hi:Option bc}{tl th:TO}{pos p2:Pos}
theorem xT:PO X none Oc:=by
 intro pins s σ H Q I h;rw[evalPart_none];exact ax ⟨none,H,I,.none,h⟩
theorem xU(h:PE X e te):PO X (some e) (WZ te):=by
 intro pins s σ H Q I hw;rw[evalPart_some];refine gb (h pins s σ H _ I hw) λ u s1  zq0=>?_;obtain ⟨x,H1,I1,r1,q1⟩:=zq0;obtain⟨i,rfl,q⟩:=q1;obtain⟨t,rfl⟩:=r1;exact⟨some i,H1,I1,.int i t,q⟩
noncomputable def YT(X:Cx)(r:V->Option Int->Option Int->Hp->VK->Prop):Prop:=
 ∀(pins:List (aj×Obj)) (s:ai) (σ:St) (H:Hp) (x:V) (v vl vu:ah) (lo hi:Option Int) (sl:aj) (Q:VK),Inv X pins σ H s->RelV x v->s.heap.IsSliceOf sl vl vu .none->IsPart vl lo->IsPart vu hi->r x lo hi H Q->
  ∃T id,typeLookup (.type T) "__getitem__"=pure (some (.builtin id))/\s.TypeIs v T/\aH (model X.prog X.w) X.A (getItem v (.ref sl)) (EP X pins σ Q) X.xe s
noncomputable def tSl(r:V->Option Int->Option Int->Hp->VK->Prop)(te:TE)(tl th:TO):TE:=λσ H Q=>te σ H λx H1=>tl σ H1 λl H2=>th σ H2 λu H3=>r x l u H3 Q
theorem pf{r:V->Option Int->Option Int->Hp->VK->Prop}(hr:YT X r)(he:PE X e te)(hl:PO X lo tl)(hu:PO X hi th):PE X (.Subscript e (.Slice lo hi none p2) pos) (tSl r te tl th):=by
 intro pins s σ H Q I h;refine Subscript_ (gb (he pins s σ H _ I h) λ v s1  zq0=>?_);obtain ⟨x,H1,I1,r1,q1⟩:=zq0;refine wpAny_Slice (gb (hl pins s1 σ H1 _ I1 q1) λvl s2 ⟨l,H2,I2,pl,q2⟩=>gb (hu pins s2 σ H2 _ I2 q2) λ vu s3  zq0=>?_);obtain ⟨u,H3,I3,pu,q3⟩:=zq0;rw[evalPart_none];refine ax ?_;have I4:Inv X pins σ H3 {s3 with heap:=s3.heap.push {cls:=.type "slice",data:=.fields #[vl,vu,.none]}}:=I3.kept (t':=s3.toks) λb ob q=>af _ q;obtain⟨T,id,hT,ht,hg⟩:=hr pins {s3 with heap:=s3.heap.push {cls:=.type "slice",data:=.fields #[vl,vu,.none]}} σ H3 x v vl vu l u s3.heap.objs.size Q I4 r1 (Heap.IsSliceOf.new ..) pl pu q3;show aH (model X.prog X.w) X.A (subscriptTail e (.Slice lo hi none p2) v (.ref s3.heap.objs.size)) (EP X pins σ Q) X.xe {s3 with heap:=s3.heap.push {cls:=.type "slice",data:=.fields #[vl,vu,.none]}};exact tail_any (ops:=[.ref s3.heap.objs.size,v]) ht hT hg (by with_unfolding_all rfl)
noncomputable def sQ(xs:List V)(lo hi:Option Int):List V:=(xs.drop (HT.jw xs.length 0 lo)).take (HT.jw xs.length xs.length hi - HT.jw xs.length 0 lo)
theorem wR(xs:List V)(lo hi:Option Int):(sQ xs lo hi).length<=xs.length:=by
 unfold sQ;rw[gB,pM];omega
noncomputable def aa0(K:aa):V->Option Int->Option Int->Hp->VK->Prop:=λx lo hi H Q=>∃a xs,x = .ref a/\fF K H a xs/\
 ¬(HT.jw xs.length 0 lo=0/\HT.jw xs.length xs.length hi=xs.length)/\∀p,H p=none->Q (.ref p) (upd H p (.tup (sQ xs lo hi)))
theorem FW:YT X (aa0 X.K):=by
 intro pins s σ H x v vl vu lo hi sl Q I rx hs pl pu h;obtain⟨a,xs,rfl,hx,hw,q⟩:=h;cases rx;obtain⟨cq,r,ht,hz⟩:=I.tuple hx;have hlen:cq.toArray.size=xs.length:=by rw[aD];exact r.length.symm
 refine⟨"tuple",_,jV.lookup,ht.typeIs,?_⟩;refine HT.uO ht hs pl pu (by rw[hlen];exact hw) ?_ (by rw[hlen];exact hz);rw[hlen];refine⟨.ref s.heap.objs.size,_,I.laid (t':=s.toks) (o:=.tup (sQ xs lo hi)) (λb ob q=>af _ q) (au _) ?_,rfl,q _ (I.dS.fresh (au _))⟩;exact⟨aX (wR xs lo hi) hz,_,(r.drop (HT.jw xs.length 0 lo)).take (HT.jw xs.length xs.length hi - HT.jw xs.length 0 lo),IsTup.new _ _⟩
noncomputable def W0(K:aa):R2:=λx y H Q=>∃a b xs ys,x = .ref a/\y = .ref b/\fF K H a xs/\fF K H b ys/\xs≠[]/\xs.length + ys.length<=av/\
 (ys=[]->Q (.ref a) H)/\(ys≠[]->∀p,H p=none->Q (.ref p) (upd H p (.tup (xs++ys))))
theorem cX.xV{xs:List V}{us:List ah}(r:cX xs us):us=[]↔xs=[]:=by
 cases r with
 |nil=>simp
 |cons _ _=>simp
theorem Od:uB X (binaryOp .Add) (W0 X.K):=by
 intro pins s σ H x y v u Q I rx ry h;obtain⟨a,b,xs,ys,rfl,rfl,ha,hb,hx,hz,q1,q2⟩:=h;cases rx;cases ry;obtain⟨cq,r1,p1,_⟩:=I.tuple ha;obtain⟨sR,r2,p2,_⟩:=I.tuple hb;refine HT.Ob p1 p2 (λz=>hx (r1.xV.mp z)) (λz=>⟨.ref a,H,I,rfl,q1 (r2.xV.mp z)⟩) (λz=>?_) (by rw[<-r1.length,<-r2.length];exact hz);refine⟨.ref s.heap.objs.size,_,I.laid (t':=s.toks) (o:=.tup (xs++ys)) (λb ob q=>af _ q) (au _) ?_,rfl,q2 (λw=>z (r2.xV.mpr w)) _ (I.dS.fresh (au _))⟩;exact⟨by rw[aL];exact hz,_,r1.append r2,IsTup.new _ _⟩
end
noncomputable def Jn(n:Nat)(i:Int):Option Nat:=if 0<=i then(if i<n then some i.toNat else none)else if -(n:Int)<=i then some (i + n).toNat else none
noncomputable def oZ{α:Type}(xs:List α)(i:Int):Option α:=(Jn xs.length i).bind λj=>xs[j]?
theorem r8{n:Nat}{i:Int}{j:Nat}(h:Jn n i=some j):seqIndex? i n=some j/\j<n/\-(n:Int)<=i/\i<n:=by
 unfold Jn at h;by_cases h0:0<=i
 ·rw[if_pos h0]at h;by_cases h1:i<n
  ·rw[if_pos h1]at h;have e:i.toNat=j:=bE h;exact⟨by rw[seqIndex_of h0 h1,e],by omega,by omega,h1⟩
  ·rw[if_neg h1]at h;cases h
 ·rw[if_neg h0]at h;by_cases h1:-(n:Int)<=i
  ·rw[if_pos h1]at h;have e:(i + n).toNat=j:=bE h;exact⟨by rw[seqIndex_neg (by omega) h1,e],by omega,h1,by omega⟩
  ·rw[if_neg h1]at h;cases h
theorem nW{α:Type}{xs:List α}{i:Int}{v:α}(h:oZ xs i=some v):∃j,seqIndex? i xs.length=some j/\xs[j]?=some v/\j<xs.length/\-(xs.length:Int)<=i/\i<xs.length:=by
 unfold oZ at h;cases e:Jn xs.length i with
 |none=>rw[e]at h;cases h
 |some j=>
  rw[e]at h;obtain⟨h1,h2,h3,h4⟩:=r8 e;exact⟨j,h1,h,h2,h3,h4⟩
theorem gp{α:Type}{xs:List α}{j:Nat}{v:α}(h:xs[j]?=some v):oZ xs (j:Int)=some v:=by
 have hj:j<xs.length:=(ak.mp h).1;have e:Jn xs.length (j:Int)=some j:=by
  unfold Jn;rw[if_pos (by omega),if_pos (by omega)];simp
 unfold oZ;rw[e];exact h
theorem D0{α:Type}(xs:List α)(v:α):oZ (xs++[v]) (-1)=some v:=by
 have hl:(xs++[v]).length=xs.length+1:=by simp
 have e:Jn (xs++[v]).length (-1)=some xs.length:=by
  unfold Jn;rw[hl,if_neg (by decide),if_pos (by omega)];congr 1;omega
 unfold oZ;rw[e];show(xs++[v])[xs.length]?=some v;simp
noncomputable def nX(b:bc):Prop:=∀o i,subscripted b false o i=operate [o,i] (getItem o i)
noncomputable def YU(X:Cx)(r:R2):Prop:=
 ∀(value slice:bc) (pins:List (aj×Obj)) (s:ai) (σ:St) (H:Hp) (x y:V) (v u:ah) (Q:VK),Inv X pins σ H s->RelV x v->RelV y u->r x y H Q->
  subscripted slice false v u=operate [v,u] (getItem v u)->aH (model X.prog X.w) X.A (subscriptTail value slice v u) (EP X pins σ Q) X.xe s
noncomputable def MtR(X:Cx)(id:String)(r:V->List V->Hp->VK->Prop):Prop:=
 ∀(pins:List (aj×Obj)) (s:ai) (σ:St) (H:Hp) (x:V) (xs:List V) (v:ah) (us:List ah) (Q:VK),Inv X pins σ H s->RelV x v->cX xs us->r x xs H Q->
  aH (model X.prog X.w) X.A (call (.builtin id) (v::us)) (EP X pins σ Q) X.xe s
section
variable {X:Cx}{a b:bc}{ta tb:TE}{pos:Pos}
theorem eO{r:R2}(hr:YU X r)(ha:PE X a ta)(hb:PE X b tb)(hs:nX b):PE X (.Subscript a b pos) (V6 r ta tb):=by
 intro pins s σ H Q I h;exact Subscript_ (R7 ha hb I h λv u s2 x y H2 I2 rx ry q=>hr a b pins s2 σ H2 x y v u Q I2 rx ry q (hs _ _))
noncomputable def aa1(K:aa):R2:=λx y H Q=>∃p xs i v,x = .ref p/\y = .int i/\fU K H p xs/\oZ xs i=some v/\Q v H
noncomputable def aa2(K:aa):R2:=λx y H Q=>∃p xs i v,x = .ref p/\y = .int i/\fF K H p xs/\oZ xs i=some v/\Q v H
noncomputable def aa3:R2:=λx y H Q=>∃z i c,x = .str z/\y = .int i/\z.length<=av/\oZ z.cps.toList i=some c/\Q (.str ⟨#[c]⟩) H
theorem mw:YU X (aa1 X.K):=by
 intro value slice pins s σ H x y v u Q I rx ry h hs;obtain⟨p,xs,i,z,rfl,rfl,hq,he,q⟩:=h;cases rx;obtain⟨t,rfl⟩:=ry;obtain⟨cq,r,pl,hz⟩:=I.list hq;obtain⟨j,h1,h2,h3,h4,h5⟩:=nW he;obtain⟨w,ew,A1⟩:=r.get h2;have hl:=r.length;have hn:=vK;have fin:EP X pins σ Q w s:=⟨z,H,I,A1,q⟩;by_cases h0:0<=i
 ·have hj:i.toNat=j:=by
   rw[seqIndex_of h0 h5]at h1;exact bE h1
  exact item_listR pl.isList h0 (by omega) (by rw[hj];simpa using ew) fin hs
 ·have hj:(i + (cq.toArray.size:Int)).toNat=j:=by
   rw[seqIndex_neg (by omega) h4]at h1;rw[aD,<-hl];exact bE h1
  exact subscriptTail_builtinR (x:=w) pl.isList.typeIs slot_list_getitem.lookup
   (wpAny_getItem_list_neg (Q:=λr s'=>r=w/\EP X pins σ Q r s') pl.isList (by omega) (by rw[aD]<;>omega) (by omega) (by rw[hj];simpa using ew) ⟨rfl,fin⟩) hs
theorem dX:YU X (aa2 X.K):=by
 intro value slice pins s σ H x y v u Q I rx ry h hs;obtain⟨p,xs,i,z,rfl,rfl,hq,he,q⟩:=h;cases rx;obtain⟨t,rfl⟩:=ry;obtain⟨cq,r,pl,hz⟩:=I.tuple hq;obtain⟨j,h1,h2,h3,h4,h5⟩:=nW he;obtain⟨w,ew,A1⟩:=r.get h2;have hl:=r.length;have hn:=vK;have fin:EP X pins σ Q w s:=⟨z,H,I,A1,q⟩;exact subscriptTail_builtinR (x:=w) pl.typeIs slot_tuple_getitem.lookup
  (getItem_tuple (j:=j) (Q:=λr s'=>r=w/\EP X pins σ Q r s') pl (by omega) (by omega) (by rw[aD,<-hl];exact h1) (by simpa using ew) ⟨rfl,fin⟩) hs
theorem Sr:YU X aa3:=by
 intro value slice pins s σ H x y v u Q I rx ry h hs;obtain⟨z,i,c,rfl,rfl,hz,he,q⟩:=h;obtain⟨t,rfl⟩:=rx;obtain⟨t',rfl⟩:=ry;obtain⟨j,h1,h2,h3,h4,h5⟩:=nW he;have hl:z.cps.toList.length=z.length:=by simp[Str.length]
 rw[hl]at h1 h4 h5;have hn:=vK
 exact tail_any (typeIs_str s z t) slot_str_getitem.lookup (getItem_str (c:=c) (by
  have e1:decide (i < -(2 ^ 63:Int))=false:=decide_eq_false (by omega);have e2:decide (i>=2 ^ 63)=false:=decide_eq_false (by omega)
  rw[e1,e2,uy]) (by rw[h1];simpa using h2) ⟨.str ⟨#[c]⟩,H,I.tok _,⟨_,rfl⟩,q⟩) hs
theorem B7(lo hi:Option Int)(n:Nat):(sliceBounds lo hi none n).1=((HT.jw n 0 lo:Nat):Int)/\(sliceBounds lo hi none n).2.1=((HT.jw n n hi:Nat):Int)/\(sliceBounds lo hi none n).2.2=1:=by
 refine⟨?_,?_,rfl⟩
 ·cases lo with
  |none=>simp[sliceBounds,HT.jw]
  |some i=>
   simp only[sliceBounds,HT.jw,Option.getD_none,show(1:Int) > 0 by decide,if_true];by_cases h:i<0
   ·simp only[h,if_true]<;>omega
   ·simp only[h,if_false]<;>omega
 ·cases hi with
  |none=>simp[sliceBounds,HT.jw]
  |some i=>
   simp only[sliceBounds,HT.jw,Option.getD_none,show(1:Int) > 0 by decide,if_true];by_cases h:i<0
   ·simp only[h,if_true]<;>omega
   ·simp only[h,if_false]<;>omega
theorem Aw(cq:List ah)(lo hi:Option Int):slicePick cq.toArray lo hi none=((cq.drop (HT.jw cq.length 0 lo)).take (HT.jw cq.length cq.length hi - HT.jw cq.length 0 lo)).toArray:=by
 obtain⟨h1,h2,h3⟩:=B7 lo hi cq.toArray.size;unfold slicePick;rw[h1,h2,h3];simp only[sliceRange_one,pick_run,aD]<;>rfl
noncomputable def aa4(K:aa):V->Option Int->Option Int->Hp->VK->Prop:=λx lo hi H Q=>∃a xs,x = .ref a/\fU K H a xs/\∀p,H p=none->Q (.ref p) (upd H p (.lst (sQ xs lo hi)))
theorem HD:YT X (aa4 X.K):=by
 intro pins s σ H x v vl vu lo hi sl Q I rx hs pl pu h;obtain⟨a,xs,rfl,hx,q⟩:=h;cases rx;obtain⟨cq,r,ht,hz⟩:=I.list hx;have hlen:=r.length;refine⟨"list",_,slot_list_getitem.lookup,ht.isList.typeIs,?_⟩;refine wpAny_getItem_list_slice ht.isList hs pl pu .none (by simp) ?_ (by rw[aD]<;>omega);rw[Aw,<-hlen];refine⟨.ref s.heap.objs.size,_,I.laid (t':=s.toks) (o:=.lst (sQ xs lo hi)) (λb ob q=>af _ q) (au _) ?_,rfl,q _ (I.dS.fresh (au _))⟩;exact⟨aX (wR xs lo hi) hz,_,0,(r.drop (HT.jw xs.length 0 lo)).take (HT.jw xs.length xs.length hi - HT.jw xs.length 0 lo),aB _ rfl⟩
noncomputable def uP:V->Bool
 |.ip=>true
 |.bl _=>true
 |.int _=>true
 |.str _=>true
 |_=>false
noncomputable def Qp:V->V->Bool
 |.ip,.ip=>true
 |.bl a,.bl b=>a==b
 |.bl a,.int b=>(if a then 1 else 0)==b
 |.int a,.bl b=>a==(if b then 1 else 0)
 |.int a,.int b=>a==b
 |.str a,.str b=>a==b
 |_,_=>false
theorem Ss{A:cj}{s:ai}{y x:V}{u v:ah}(ry:RelV y u)(rx:RelV x v)(fy:uP y=true)(fx:uP x=true):SeqAt.EqAt A s u v (Qp y x):=by
 cases y with
 |ip=>
  cases ry;cases x with
  |ip=>cases rx;exact SeqAt.EqAt.same _
  |bl b=>cases rx;exact SeqAt.EqAt.none_bool b
  |int b=>obtain⟨t,rfl⟩:=rx;exact SeqAt.EqAt.none_int b t
  |str b=>obtain⟨t,rfl⟩:=rx;exact SeqAt.EqAt.none_str b t
  |_=>exact absurd (show false=true from fx) aV
 |bl a=>
  cases ry;cases x with
  |ip=>cases rx;exact SeqAt.EqAt.bool_none a
  |bl b=>cases rx;exact SeqAt.EqAt.bool_bool a b
  |int b=>obtain⟨t,rfl⟩:=rx;exact SeqAt.EqAt.bool_int a b t
  |str b=>obtain⟨t,rfl⟩:=rx;exact SeqAt.EqAt.bool_str a b t
  |_=>exact absurd (show false=true from fx) aV
 |int a=>
  obtain⟨t',rfl⟩:=ry;cases x with
  |ip=>cases rx;exact SeqAt.EqAt.int_none a t'
  |bl b=>cases rx;exact SeqAt.EqAt.int_bool a t' b
  |int b=>obtain⟨t,rfl⟩:=rx;exact SeqAt.EqAt.int_int a t' b t
  |str b=>obtain⟨t,rfl⟩:=rx;exact BV a t' b t
  |_=>exact absurd (show false=true from fx) aV
 |str a=>
  obtain⟨t',rfl⟩:=ry;cases x with
  |ip=>cases rx;exact SeqAt.EqAt.str_none a t'
  |bl b=>cases rx;exact SeqAt.EqAt.str_bool a t' b
  |int b=>obtain⟨t,rfl⟩:=rx;exact BW a t' b t
  |str b=>obtain⟨t,rfl⟩:=rx;exact SeqAt.EqAt.str_str a t' b t
  |_=>exact absurd (show false=true from fx) aV
 |_=>exact absurd (show false=true from fy) aV
noncomputable def Oe(x:V)(u:ah):Bool:=match u with
 |.none=>Qp .ip x
 |.bool b=>Qp (.bl b) x
 |.int i _=>Qp (.int i) x
 |.str z _=>Qp (.str z) x
 |_=>false
theorem K0{x y:V}{u:ah}(r:RelV y u)(f:uP y=true):Oe x u=Qp y x:=by
 cases y with
 |ip=>cases r;rfl
 |bl b=>cases r;rfl
 |int i=>obtain⟨t,rfl⟩:=r;rfl
 |str z=>obtain⟨t,rfl⟩:=r;rfl
 |_=>exact absurd (show false=true from f) aV
theorem B8{x:V}:∀{xs:List V}{us:List ah},cX xs us->xs.all uP=true->us.any (Oe x)=xs.any λy=>Qp y x
 |_,_,.nil,_=>rfl
 |y::xs,u::us,.cons r t,f=>by
  rw[o3,iB]at f;rw[o7,o7,K0 r f.1,B8 t f.2]
theorem yy{A:cj}{s:ai}{x:V}{v:ah}(rx:RelV x v)(fx:uP x=true):∀{xs:List V}{us:List ah},cX xs us->xs.all uP=true->∀u∈us,SeqAt.EqAt A s u v (Oe x u)
 |_,_,.nil,_=>λu hu=>by cases hu
 |y::xs,u::us,.cons r t,f=>λu' hu=>by
  rw[o3,iB]at f;rcases bf.mp hu with rfl|hu
  ·rw[K0 r f.1];exact Ss r rx f.1 fx
  ·exact yy rx fx t f.2 u' hu
noncomputable def W1(x:V)(xs:List V):Bool:=xs.any λy=>Qp y x
noncomputable def rIn(K:aa)(neg:Bool):R2:=λx y H Q=>∃p xs,y = .ref p/\(fU K H p xs\/fF K H p xs)/\uP x=true/\xs.all uP=true/\Q (.bl (if neg then !W1 x xs else W1 x xs)) H
theorem Jo:uB X (compareOp .In) (rIn X.K false):=by
 intro pins s σ H x y v u Q I rx ry h;obtain⟨p,xs,rfl,hq,fx,fs,q⟩:=h;cases ry;rcases hq with hq|hq
 ·obtain⟨cq,r,pl,hz⟩:=I.list hq;refine SeqAt.in_listAt (Oe x) pl.isList (λw hw=>yy rx fx r fs w (by simpa using hw)) ⟨.bl _,H,I,rfl,?_⟩;rw[show cq.toArray.any (Oe x)=cq.any (Oe x) by simp,B8 r fs];exact q
 ·obtain⟨cq,r,pl,hz⟩:=I.tuple hq;refine SeqAt.in_tupleAt (Oe x) pl (λw hw=>yy rx fx r fs w (by simpa using hw)) ⟨.bl _,H,I,rfl,?_⟩;rw[show cq.toArray.any (Oe x)=cq.any (Oe x) by simp,B8 r fs];exact q
theorem eY:mS X (.builtin "len") (λxs H Q=>∃p ys,xs=[.ref p]/\(fU X.K H p ys\/fF X.K H p ys)/\Q (.int ys.length) H):=by
 intro pins s σ H xs us Q I r h;obtain⟨p,ys,rfl,hq,q⟩:=h;obtain⟨u,rfl,rx⟩:=vals1 r;cases rx;have hn:=vK;rcases hq with hq|hq
 ·obtain⟨cq,r',pl,hz⟩:=I.list hq;have hlen:=r'.length;exact Calls.call_len_list pl.isList (by simp only[aD]<;>omega) ⟨.int ys.length,H,I.tok _,⟨s.toks+1,by rw[aD,hlen]⟩,q⟩
 ·obtain⟨cq,r',pl,hz⟩:=I.tuple hq;have hlen:=r'.length;exact len_tuple pl (by simp only[aD]<;>omega) ⟨.int ys.length,H,I.tok _,⟨s.toks+1,by rw[aD,hlen]⟩,q⟩
theorem B9:mS X (.builtin "len") (λxs H Q=>∃z,xs=[.str z]/\z.length<=av/\Q (.int z.length) H):=by
 intro pins s σ H xs us Q I r h;obtain⟨z,rfl,hz,q⟩:=h;obtain⟨u,rfl,t,rfl⟩:=vals1 r;have hn:=vK;exact len_str (by omega) ⟨.int z.length,H,I.tok _,⟨_,rfl⟩,q⟩
theorem uQ:mS X (.type "list") (λxs H Q=>∃p ys,xs=[.ref p]/\(fU X.K H p ys\/fF X.K H p ys)/\∀l,H l=none->Q (.ref l) (upd H l (.lst ys))):=by
 intro pins s σ H xs us Q I r h;obtain⟨p,ys,rfl,hq,q⟩:=h;obtain⟨u,rfl,rx⟩:=vals1 r;cases rx;have fin:∀(cq:List ah),cX ys cq->ys.length<=av->∀(h':bS)(c':Nat),(∀b o',s.heap.get? b=some o'->h'.get? b=some o')->
   h'.get? s.heap.objs.size=some {cls:=.type "list",dict:=none,data:=.seq cq.toArray c',slots:=#[]}->EP X pins σ Q (.ref s.heap.objs.size) {s with heap:=h'}:=λcq r' hz h' c' kp e=>
  ⟨.ref s.heap.objs.size,_,I.laid (t':=s.toks) kp (au _) (show fR X.prog X.w _ h' _ (.lst ys)from⟨hz,cq,c',r',e⟩),rfl,q _ (I.dS.fresh (au _))⟩
 rcases hq with hq|hq
 ·obtain⟨cq,r',pl,hz⟩:=I.list hq;have hlen:=r'.length;obtain⟨o,ho,hc,n,hd⟩:=pl.isList;exact call_list_seq p (.inl rfl) ho hc hd (λh' c' kp e=>fin cq r' hz h' c' kp e) (by simp only[aD]<;>omega)
 ·obtain⟨cq,r',pl,hz⟩:=I.tuple hq;have hlen:=r'.length;obtain⟨o,ho,hc,n,hd⟩:=pl;exact call_list_seq p (.inr rfl) ho hc hd (λh' c' kp e=>fin cq r' hz h' c' kp e) (by simp only[aD]<;>omega)
theorem Ax:mS X (.type "tuple") (λxs H Q=>∃p ys,xs=[.ref p]/\((fU X.K H p ys/\∀l,H l=none->Q (.ref l) (upd H l (.tup ys)))\/(fF X.K H p ys/\Q (.ref p) H))):=by
 intro pins s σ H xs us Q I r h;obtain⟨p,ys,rfl,h⟩:=h;obtain⟨u,rfl,rx⟩:=vals1 r;cases rx;rcases h with⟨hq,q⟩|⟨hq,q⟩
 ·obtain⟨cq,r',pl,hz⟩:=I.list hq;have hlen:=r'.length;refine call_tuple_list pl.isList (λh' kp=>?_) (by simp only[aD]<;>omega);have I1:Inv X pins σ H {s with heap:=h'}:=I.kept (t':=s.toks) kp;have I2:Inv X pins σ (upd H h'.objs.size (.tup ys)) {s with heap:=h'.push {cls:=.type "tuple",data:=.seq cq.toArray}}:=
   I1.laid (t':=s.toks) (λb o e=>af _ e) (au _) (show fR X.prog X.w _ _ _ (.tup ys)from⟨hz,cq,r',IsTup.new _ _⟩)
  exact⟨.ref h'.objs.size,_,I2,rfl,q _ (I1.dS.fresh (au _))⟩
 ·obtain⟨cq,r',pl,hz⟩:=I.tuple hq;exact call_tuple_same pl ⟨.ref p,H,I,rfl,q⟩
noncomputable def tyV(K:aa)(T:String)(x:V)(H:Hp):Prop:=match x with
 |.str _=>T = "str"
 |.int _=>T = "int"
 |.ref p=>(T = "list"/\∃xs,fU K H p xs)\/(T = "tuple"/\∃o,K.lookup p=some o/\o.cls = .type "tuple"/\o.dict=none)\/
   (T = "dict"/\((∃bh,H p=some (.dK bh))\/∃bh,H p=some (.dT bh)))\/(T = "set"/\∃S n,H p=some (.set S n))
 |_=>False
theorem FX{pins:List (aj×Obj)}{σ:St}{H:Hp}{s:ai}{T:String}{x:V}{v:ah}(I:Inv X pins σ H s)(r:RelV x v)(ty:tyV X.K T x H):
  s.TypeIs v T/\∀a,v = .ref a->∃ob,s.heap.get? a=some ob/\ob.dict=none:=by
 cases x with
 |str z=>
  obtain⟨t,rfl⟩:=r;cases(show T = "str" from ty);exact⟨typeIs_str s z t,λ_ e=>nomatch e⟩
 |int i=>
  obtain⟨t,rfl⟩:=r;cases(show T = "int" from ty);exact⟨typeIs_int s i t,λ_ e=>nomatch e⟩
 |ref p=>
  cases r;rcases ty with⟨rfl,xs,hq⟩|⟨rfl,o,hk,hc,hd⟩|⟨rfl,hk⟩|⟨rfl,S,n,hk⟩
  ·obtain⟨cq,_,pl,_⟩:=I.list hq;refine⟨pl.isList.typeIs,λa e=>?_⟩;cases e;obtain⟨o,n,e,c,hd,_⟩:=pl;exact⟨o,e,hd⟩
  ·refine⟨⟨o,I.uA p o hk,hc⟩,λa e=>?_⟩;cases e;exact⟨o,I.uA _ o hk,hd⟩
  ·have z:∃o,s.heap.get? p=some o/\o.ExactDict:=by
    rcases hk with⟨bh,hk⟩|⟨bh,hk⟩
    ·obtain⟨_,_,_,_,o,_,_,e,ex,_⟩:=I.dS p _ hk;exact⟨o,e,ex⟩
    ·obtain⟨_,_,_,_,o,_,_,e,ex,_⟩:=I.dS p _ hk;exact⟨o,e,ex⟩
   obtain⟨o,e,ex⟩:=z;refine⟨⟨o,e,ex.1⟩,λa e2=>?_⟩;cases e2;exact⟨o,e,ex.2.1⟩
  ·obtain⟨o,_,_,_,e,ex,_⟩:=I.dS p _ hk;refine⟨⟨o,e,ex.1⟩,λa e2=>?_⟩;cases e2;exact⟨o,e,ex.2.1⟩
 |_=>exact dM ty
noncomputable def aa5(K:aa)(T:String)(r:V->List V->Hp->VK->Prop)(to:TE):TE:=λσ H Q=>to σ H λx H1=>tyV K T x H1/\r x [] H1 Q
noncomputable def tBM(K:aa)(T:String)(r:V->List V->Hp->VK->Prop)(to:TE)(t:TA):TE:=λσ H Q=>to σ H λx H1=>tyV K T x H1/\t σ H1 λxs H2=>r x xs H2 Q
variable {o e:bc}{es:List bc}{to:TE}{t:TA}{name:Str}{apos cI:Pos}{T id:String}{r:V->List V->Hp->VK->Prop}
theorem vO(pa:PlainAttrs T)(slot:Slot T name id)(hty:typeOf (.builtin id)=pure (.type "method_descriptor"))(hm:MtR X id r)(ho:PE X o to)(ir:dH o name X.env (eval o X.env)=eval o X.env:=by rfl)(iu:(apos.endLine==cI.line)=true:=by rfl):PE X (.Call (.Attribute o name apos) [] [] cI) (aa5 X.K T r to):=by
 intro pins s σ H Q I h;refine wpAny_Call_method0_late ir iu (gb (ho pins s σ H _ I h) λ v s1  zq0=>?_);obtain ⟨x,H1,I1,r1,ty,q1⟩:=zq0;obtain⟨h1,h2⟩:=FX I1 r1 ty;exact⟨T,id,pa,slot,hty,h1,h2,qy rfl (PySem.evalArgs_none (hm pins s1 σ H1 x [] v [] Q I1 r1 .nil q1))⟩
theorem ph(pa:PlainAttrs T)(slot:Slot T name id)(hty:typeOf (.builtin id)=pure (.type "method_descriptor"))(hm:MtR X id r)(ho:PE X o to)(ha:PA X (e::es) t)(ir:dH o name X.env (eval o X.env)=eval o X.env:=by rfl)(oE:((cG cI (ao (e::es) X.env)).all (λx=>!x.1)&&(kS cI (gM [] X.env)).all (λx=>x.1.isSome)
   && decide ((e::es).length + ([]:List fA).length + (if([]:List fA).isEmpty then 0 else 1)<30))=true:=by rfl)(iu:(apos.endLine==cI.line)=true:=by rfl)(hs:ao (e::es) X.env=(false,eval e X.env)::ao es X.env:=by rfl)(jX:(cG cI (ao es X.env)).any (·.1)=false:=by rfl):
  PE X (.Call (.Attribute o name apos) (e::es) [] cI) (tBM X.K T r to t):=by
 intro pins s σ H Q I h;refine sZ ir oE iu rfl (gb (ho pins s σ H _ I h) λ v s1  zq0=>?_);obtain ⟨x,H1,I1,r1,ty,q1⟩:=zq0;obtain⟨h1,h2⟩:=FX I1 r1 ty;refine⟨T,id,pa,slot,hty,h1,h2,?_⟩;have hA:=ha cI pins s1 σ H1 _ I1 q1;rw[hs]at hA ⊢;refine qy (by show(false||(cG cI (ao es X.env)).any (·.1))=false;rw[jX]<;>rfl) (rX ?_);exact gb hA (by rintro us s2 ⟨vs,H2,I2,r2,q2⟩;exact hm pins s2 σ H2 x vs v us Q I2 r1 r2 q2)
end
noncomputable def Su(X:Cx)(id:String)(r:V->List V->Hp->VK->Prop):Prop:=
 ∀(pins:List (aj×Obj)) (s:ai) (σ:St) (H:Hp) (x:V) (xs:List V) (v:ah) (us:List ah) (Q:VK),Inv X pins σ H s->RelV x v->cX xs us->r x xs H Q->
  aH (model X.prog X.w) X.A (call (.builtin id) (v::us)) (EP X pins σ Q) X.xe s
theorem cX.one:∀{x:V}{us:List ah},cX [x] us->∃u,us=[u]/\RelV x u
 |_,_,.cons r .nil=>⟨_,rfl,r⟩
theorem cX.zero:∀{us:List ah},cX [] us->us=[]
 |_,.nil=>rfl
theorem cX.dropLast{xs:List V}{us:List ah}(h:cX xs us):cX xs.dropLast us.dropLast:=by
 induction h with
 |nil=>exact .nil
 |cons r t ih=>
  cases t with
  |nil=>exact .nil
  |cons q t'=>exact .cons r ih
theorem cX.eraseIdx:∀{xs:List V}{us:List ah}(i:Nat),cX xs us->cX (xs.eraseIdx i) (us.eraseIdx i)
 |_,_,_,.nil=>.nil
 |_,_,0,.cons _ t=>t
 |_,_,i+1,.cons r t=>.cons r (cX.eraseIdx i t)
theorem cX.reverse{xs:List V}{us:List ah}(h:cX xs us):cX xs.reverse us.reverse:=by
 induction h with
 |nil=>exact .nil
 |cons r t ih=>rw[dD,dD];exact cX.append ih (.cons r .nil)
theorem FY{α:Type}(l:List α):l.eraseIdx (l.length - 1)=l.dropLast:=by
 induction l with
 |nil=>rfl
 |cons a r ih=>
  cases r with
  |nil=>rfl
  |cons b r=>
   have e:(a::b::r).length - 1=((b::r).length - 1)+1:=by
    have h1:(a::b::r).length=r.length+2:=rfl;have h2:(b::r).length=r.length+1:=rfl;omega
   rw[e,List.eraseIdx_cons_succ,ih]
   all_goals rfl
theorem A3{α:Type}:∀(l:List α)(i:Nat),(l.eraseIdx i).length<=l.length
 |[],_=>au _
 |_::_,0=>jv _
 |_::r,i+1=>Nat.succ_le_succ (A3 r i)
section
variable {X:Cx}{pins:List (aj×Obj)}{σ:St}{H:Hp}{s:ai}{l b:aj}{xs ys zs:List V}
theorem Inv.Of{cq pV:List ah}{n:Nat}{f:Array ah->Array ah}{t':Nat}(I:Inv X pins σ H s)(hH:H l=some (.lst xs))(e:s.heap.get? l=some {cls:=.type "list",data:=.seq cq.toArray n})(hf:f cq.toArray=pV.toArray)(hv:cX ys pV)(hz:ys.length<=av):
  Inv X pins σ (upd H l (.lst ys)) {s with heap:=s.heap.update l (fm f),toks:=t'}:=by
 have q:=Fo e f;rw[hf]at q;refine I.write (x:=l) (e:=l) (by rw[hH];exact trivial) (.inl rfl) (λb' u hb hu=>(cJ s.heap (fm f) (dz hb)).trans hu) ⟨_,q⟩ ?_;exact⟨hz,pV,_,hv,q⟩
theorem Inv.K1(I:Inv X pins σ H s)(hH:H l=some (.lst xs)):xs.length<=av/\∃(cq:List ah)(n:Nat),cX xs cq/\xs.length=cq.length/\s.heap.get? l=some {cls:=.type "list",data:=.seq cq.toArray n}:=by
 obtain⟨z,cq,n,r,e⟩:=I.dS l _ hH;exact⟨z,cq,n,r,r.length,e⟩
theorem K2{n:Nat}(h:n<=av):mr n=false:=by
 unfold mr;exact decide_eq_false (by omega)
end
section
variable {X:Cx}
noncomputable def Og:V->List V->Hp->VK->Prop:=λx vs H Q=>∃l xs y,x = .ref l/\vs=[y]/\H l=some (.lst xs)/\xs.length<av/\Q .ip (upd H l (.lst (xs++[y])))
theorem lz:Su X "list.append" Og:=by
 intro pins s σ H x vs v us Q I rx rv h;obtain⟨l,xs,y,rfl,rfl,hH,hz,q⟩:=h;cases rx;obtain⟨u,rfl,ru⟩:=rv.one;obtain⟨z,cq,n,r,hl,e⟩:=I.K1 hH;refine call_meets F.slot_list_append ⟨_,e,rfl⟩ F.entry_list_append (F.args_list_append_2 _ _) (PySem.list_append l cq.toArray n u (by rw[aD];omega)) ⟨e,?_⟩;refine⟨.ip,_,I.Of (pV:=cq++[u]) hH e (by simp) (r.append (.cons ru .nil)) ?_,rfl,q⟩;rw[aL,qR];omega
noncomputable def Oh:V->List V->Hp->VK->Prop:=λx vs H Q=>∃l b xs zs,x = .ref l/\vs=[.ref b]/\H l=some (.lst xs)/\H b=some (.lst zs)/\xs.length + zs.length<=av/\Q .ip (upd H l (.lst (xs++zs)))
theorem A4:Su X "list.extend" Oh:=by
 intro pins s σ H x vs v us Q I rx rv h;obtain⟨l,b,xs,zs,rfl,rfl,hH,hB,hz,q⟩:=h;cases rx;obtain⟨u,rfl,ru⟩:=rv.one;cases ru;obtain⟨z,cq,n,r,hl,e⟩:=I.K1 hH;obtain⟨z2,sR,n2,r2,V8,e2⟩:=I.K1 hB;have hsz:cq.toArray.size + sR.toArray.size<=av:=by rw[aD,aD];omega
 have W2:¬(!cq.toArray.isEmpty&&mr (cq.toArray.size + sR.toArray.size))=true:=by
  rw[K2 hsz,Bool.and_false];exact aV
 refine call_meets F.slot_list_extend ⟨_,e,rfl⟩ F.entry_list_extend (F.args_list_extend_2 _ _)
  (AutoSeq1.list_extend_list_list_0 l cq.toArray n b sR.toArray n2 W2 (by rw[aD];omega) (by omega)) ⟨e,e2,?_⟩
 refine⟨.ip,_,I.Of (pV:=cq++sR) hH e (by simp) (r.append r2) ?_,rfl,q⟩;rw[aL];omega
noncomputable def aa6:V->List V->Hp->VK->Prop:=λx vs H Q=>∃l xs y,x = .ref l/\vs=[]/\H l=some (.lst xs)/\xs[xs.length - 1]?=some y/\Q y (upd H l (.lst xs.dropLast))
theorem vP:Su X "list.pop" aa6:=by
 intro pins s σ H x vs v us Q I rx rv h;obtain⟨l,xs,y,rfl,rfl,hH,hy,q⟩:=h;cases rx;have hus:=rv.zero;subst hus;obtain⟨z,cq,n,r,hl,e⟩:=I.K1 hH;obtain⟨u,hu,ru⟩:=r.get hy;have hy':cq.toArray[cq.toArray.size - 1]?=some u:=by
  show cq.toArray[cq.length - 1]?=some u;rw[<-ll,<-hl];exact hu
 refine call_meets F.slot_list_pop ⟨_,e,rfl⟩ F.entry_list_pop (F.args_list_pop_1 _) (MeetsSeq.list_pop_last l cq.toArray n u hy' (by rw[aD];omega)) ⟨e,?_⟩;refine⟨y,_,I.Of (pV:=cq.dropLast) hH e ?_ r.dropLast ?_,ru,q⟩
 ·show cq.toArray.eraseIdxIfInBounds (cq.toArray.size - 1)=cq.dropLast.toArray;rw[aD,wH,FY]
 ·rw[Fz];omega
noncomputable def Sv:V->List V->Hp->VK->Prop:=λx vs H Q=>∃l xs i k y,x = .ref l/\vs=[.int i]/\H l=some (.lst xs)/\-(2 ^ 63)<=i/\i<2 ^ 63/\seqIndex? i xs.length=some k/\xs[k]?=some y/\Q y (upd H l (.lst (xs.eraseIdx k)))
theorem K3:Su X "list.pop" Sv:=by
 intro pins s σ H x vs v us Q I rx rv h;obtain⟨l,xs,i,k,y,rfl,rfl,hH,h1,h2,hk,hy,q⟩:=h;cases rx;obtain⟨u,rfl,ru⟩:=rv.one;obtain⟨t,rfl⟩:=ru;obtain⟨z,cq,n,r,hl,e⟩:=I.K1 hH;obtain⟨w,hw,A1⟩:=r.get hy;refine call_meets F.slot_list_pop ⟨_,e,rfl⟩ F.entry_list_pop (F.args_list_pop_2 _ _)
  (MeetsSeq.list_pop_at l cq.toArray n i t k w (fitsIndex_both h1 h2) (by rw[aD,<-hl];exact hk) (by rw[<-ll];exact hw) (by rw[aD];omega)) ⟨e,?_⟩
 refine⟨y,_,I.Of (pV:=cq.eraseIdx k) hH e ?_ (r.eraseIdx k) ?_,A1,q⟩
 ·show cq.toArray.eraseIdxIfInBounds k=(cq.eraseIdx k).toArray;rw[wH]
 ·have:=A3 xs k;omega
end
section
variable {κ:Type}[DecidableEq κ]
noncomputable def iP(bh:List (κ×V))(k:κ):Option V:=(bh.find? λkv=>decide (kv.1=k)).map (·.2)
noncomputable def putK(bh:List (κ×V))(k:κ)(v:V):List (κ×V):=
 if(bh.any λkv=>decide (kv.1=k))=true then bh.map (λkv=>if kv.1=k then(kv.1,v)else kv)else bh++[(k,v)]
theorem jg{p:κ×V}{r:List (κ×V)}{k:κ}(e:p.1=k):iP (p::r) k=some p.2:=by simp[iP,iV,e]
theorem jh{p:κ×V}{r:List (κ×V)}{k:κ}(e:¬p.1=k):iP (p::r) k=iP r k:=by simp[iP,iV,e]
theorem qY(k:κ):∀bh:List (κ×V),(bh.any λkv=>decide (kv.1=k))=(iP bh k).isSome
 |[]=>rfl
 |p::r=>by
  rw[o7];by_cases e:p.1=k
  ·simp only[jg e,decide_eq_true e,Bool.true_or,Option.isSome_some]
  ·rw[jh e,decide_eq_false e,uz];exact qY k r
theorem D3(k j:κ)(y:V):∀bh:List (κ×V),iP (bh.map λkv=>if kv.1=k then(kv.1,y)else kv) j=(iP bh j).map λx=>if j=k then y else x
 |[]=>rfl
 |p::r=>by
  have ih:=D3 k j y r;rw[bz];by_cases h:p.1=k
  ·rw[if_pos h];by_cases e:p.1=j
   ·rw[jg (p:=(p.1,y)) e,jg e,qz,if_pos (e.symm.trans h)]
   ·rw[jh (p:=(p.1,y)) e,jh e,ih]
  ·rw[if_neg h];by_cases e:p.1=j
   ·rw[jg (p:=p) e,jg e,qz,if_neg (λz=>h (e.trans z))]
   ·rw[jh (p:=p) e,jh e,ih]
theorem A5(k j:κ)(y:V):∀bh:List (κ×V),iP bh k=none->iP (bh++[(k,y)]) j=if j=k then some y else iP bh j
 |[],_=>by
  by_cases e:k=j
  ·rw[if_pos e.symm];exact jg (p:=(k,y)) e
  ·rw[if_neg (λz=>e z.symm)];exact jh (p:=(k,y)) e
 |p::r,hn=>by
  rw[cV];have hk:¬p.1=k:=λz=>by rw[jg z]at hn;cases hn
  rw[jh hk]at hn;have ih:=A5 k j y r hn;by_cases e:p.1=j
  ·rw[jg e,jg e,if_neg (λz=>hk (e.trans z))]
  ·rw[jh e,jh e,ih]
theorem jJ(bh:List (κ×V))(k j:κ)(y:V):iP (putK bh k y) j=if j=k then some y else iP bh j:=by
 unfold putK;by_cases a:(bh.any λkv=>decide (kv.1=k))=true
 ·rw[if_pos a,D3];rw[qY]at a;by_cases e:j=k
  ·obtain⟨x,hx⟩:=Am.mp a;rw[if_pos e,e,hx,qz,if_pos rfl]
  ·rw[if_neg e];cases iP bh j with
   |none=>rfl
   |some x=>rw[qz,if_neg e]
 ·rw[if_neg a];refine A5 k j y bh ?_;rw[qY]at a;cases q:iP bh k with
  |none=>rfl
  |some x=>rw[q]at a;exact(a rfl).elim
theorem iF(bh:List (κ×V))(k:κ)(v:V):(putK bh k v).length<=bh.length+1:=by
 unfold putK;split
 ·rw[ay];omega
 ·rw[aL,aY,iW];omega
theorem K4{bh:List (κ×V)}{k:κ}(v:V)(h:iP bh k=none):putK bh k v=bh++[(k,v)]:=by
 unfold putK;rw[qY,h];exact if_neg (by decide)
theorem ym.vQ{o:Option V}{u:Option ah}(r:ym o u):o.isSome=u.isSome:=by
 cases o with
 |none=>cases u with
  |none=>rfl
  |some _=>exact(show False from r).elim
 |some _=>cases u with
  |none=>exact(show False from r).elim
  |some _=>rfl
theorem KV.val{bh:List (κ×V)}{vs:List (κ×ah)}(r:KV bh vs)(k:κ):ym (iP bh k) (valueAt vs k):=by
 unfold KV at r;induction r with
 |nil=>exact iM
 |@cons p q ps qs h t ih=>
  obtain⟨h1,h2⟩:=h;by_cases e:p.1=k
  ·have e':q.1=k:=h1.symm.trans e;have b:valueAt (q::qs) k=some q.2:=by simp[valueAt,iV,e']
   rw[jg e,b];exact h2
  ·have e':¬q.1=k:=λz=>e (h1.trans z);have b:valueAt (q::qs) k=valueAt qs k:=by simp[valueAt,iV,e']
   rw[jh e,b];exact ih
theorem KV.any{bh:List (κ×V)}{vs:List (κ×ah)}(r:KV bh vs)(k:κ):(bh.any λkv=>decide (kv.1=k))=vs.any λkv=>decide (kv.1=k):=by
 unfold KV at r;induction r with
 |nil=>rfl
 |cons h t ih=>rw[o7,o7,ih,h.1]
theorem KV.oF{bh:List (κ×V)}{vs:List (κ×ah)}(r:KV bh vs)(k:κ){y:V}{u:ah}(ry:RelV y u):
  KV (bh.map λkv=>if kv.1=k then(kv.1,y)else kv) (vs.map λkv=>if kv.1=k then(kv.1,u)else kv):=by
 unfold KV at r ⊢;induction r with
 |nil=>exact .nil
 |@cons p q ps qs h t ih=>
  rw[bz,bz];refine .cons ?_ ih;obtain⟨h1,h2⟩:=h;by_cases e:p.1=k
  ·rw[if_pos e,if_pos (h1.symm.trans e)];exact⟨h1,ry⟩
  ·rw[if_neg e,if_neg (λz=>e (h1.trans z))];exact⟨h1,h2⟩
theorem KV.put{bh:List (κ×V)}{vs:List (κ×ah)}(r:KV bh vs)(k:κ){y:V}{u:ah}(ry:RelV y u):KV (putK bh k y) (stored vs k u):=by
 unfold putK stored;rw[r.any k];by_cases e:(vs.any λkv=>decide (kv.1=k))=true
 ·rw[if_pos e,if_pos e];exact r.oF k ry
 ·rw[if_neg e,if_neg e];exact Paired.snoc r ⟨rfl,ry⟩
theorem KV.length{bh:List (κ×V)}{vs:List (κ×ah)}(r:KV bh vs):bh.length=vs.length:=jE r
end
theorem yz{P:aR}{w:bH}{k:Key}{u:ah}(r:RelV (kV k) u):(dB P w).is k u=true:=by
 cases k with
 |inl i=>obtain⟨t,e⟩:=(show ∃t,u=BU i t from r);subst e;exact Du P w i t
 |inr x=>obtain⟨t,e⟩:=(show ∃t,u=wF x t from r);subst e;exact Dv P w x t
theorem A6{P:aR}{w:bH}:∀{ks:List Key}{us:List ah},cX (ks.map kV) us->ItemsAre (dB P w) ks us
 |[],_,r=>by rw[gy]at r;cases r;exact .nil
 |k::ks,_,r=>by
  rw[bz]at r;cases r with
  |cons h t=>exact .cons (yz h) (A6 t)
noncomputable abbrev KT(H:Hp):List (List Key×V)->List (List Key×aj×ah)->Prop:=Paired λp q=>p.1=q.1/\H q.2.1=some (.tup (p.1.map kV))/\RelV p.2 q.2.2
theorem KT.val{H:Hp}{bh:List (List Key×V)}{xs:List (List Key×aj×ah)}(r:KT H bh xs)(k:List Key):ym (iP bh k) ((atKey xs k).map (·.2)):=by
 induction r with
 |nil=>exact iM
 |@cons p q ps qs h t ih=>
  obtain⟨h1,_,h2⟩:=h;by_cases e:p.1=k
  ·have e':q.1=k:=h1.symm.trans e;have b:atKey (q::qs) k=some q.2:=by simp[atKey,iV,e']
   rw[jg e,b];exact h2
  ·have e':¬q.1=k:=λz=>e (h1.trans z);have b:atKey (q::qs) k=atKey qs k:=by simp[atKey,iV,e']
   rw[jh e,b];exact ih
theorem KT.oF{H:Hp}{bh:List (List Key×V)}{xs:List (List Key×aj×ah)}(r:KT H bh xs)(k:List Key){y:V}{u:ah}(ry:RelV y u):
  KT H (bh.map λkv=>if kv.1=k then(kv.1,y)else kv) (xs.map (putAt k u)):=by
 induction r with
 |nil=>exact .nil
 |@cons p q ps qs h t ih=>
  rw[bz,bz];refine .cons ?_ ih;obtain⟨h1,h2,h3⟩:=h;unfold putAt;by_cases e:p.1=k
  ·rw[if_pos e,if_pos (h1.symm.trans e)];exact⟨h1,h2,ry⟩
  ·rw[if_neg e,if_neg (λz=>e (h1.trans z))];exact⟨h1,h2,h3⟩
theorem KT.put{H:Hp}{bh:List (List Key×V)}{xs:List (List Key×aj×ah)}(r:KT H bh xs)(k:List Key){b:aj}{y:V}{u:ah}(hb:H b=some (.tup (k.map kV)))(ry:RelV y u):
  KT H (putK bh k y) (storedH xs k b u):=by
 have e:(bh.any λkv=>decide (kv.1=k))=(atKey xs k).isSome:=by
  rw[qY,(r.val k).vQ,Option.isSome_map]
 unfold putK storedH;rw[e];by_cases q:(atKey xs k).isSome=true
 ·rw[if_pos q,if_pos q];exact r.oF k ry
 ·rw[if_neg q,if_neg q];exact Paired.snoc r ⟨rfl,hb,ry⟩
theorem KT.keeps{H H':Hp}{bh:List (List Key×V)}{xs:List (List Key×aj×ah)}(r:KT H bh xs)(ht:∀b ys,H b=some (.tup ys)->H' b=some (.tup ys)):KT H' bh xs:=
 Paired.RM r λ_ _ z=>⟨z.1,ht _ _ z.2.1,z.2.2⟩
section
variable {P:aR}{w:bH}{H:Hp}{h:bS}{a:aj}
theorem Qq{u:HO}(ok:qP P w H h)(e:Rd H a u):fR P w H h a u:=e.ok ok
theorem D4{bh:List (Key×V)}(ok:qP P w H h)(e:Rd H a (.dK bh)):bh.length<=av/\(a==sysModules)=false/\∃vs,KV bh vs/\h.DictOf (dB P w) a vs:=
 show fR P w H h a (.dK bh)from Qq ok e
theorem Qr{bh:List (Key×V)}(ok:qP P w H h)(e:H a=some (.dK bh)):bh.length<=av/\(a==sysModules)=false/\∃vs,KV bh vs/\h.DictOf (dB P w) a vs:=D4 ok (.inl e)
theorem yA{ks:List Key}(ok:qP P w H h)(e:H a=some (.tup (ks.map kV))):(tupleKind (dB P w)).is h ks a:=by
 obtain⟨_,cq,r,o,h1,h2,n,h3⟩:=(show fR P w H h a (.tup (ks.map kV))from ok a _ e);exact⟨o,cq.toArray,n,h1,h2,h3,by simpa using A6 r⟩
theorem D5{bh:List (List Key×V)}(ok:qP P w H h)(e:Rd H a (.dT bh)):bh.length<=av/\(a==sysModules)=false/\
  ∃xs,KT H bh xs/\h.DictOfH (tupleKind (dB P w)) a xs:=by
 obtain⟨z,y,xs,r,o,es,ep,h1,h2,h3,h4,h5⟩:=(show fR P w H h a (.dT bh)from Qq ok e);refine⟨z,y,xs,r,o,es,ep,h1,h2,h3,h4,λx hx=>?_,h5⟩;have all:∀{l:List (List Key×V)} {m:List (List Key×aj×ah)},KT H l m->∀x∈m,(tupleKind (dB P w)).is h x.1 x.2.1:=by
  intro l m q;induction q with
  |nil=>intro x hx;exact nomatch hx
  |@cons p q ps qs hq t ih=>
   intro x hx;rcases bf.mp hx with e|hx
   ·subst e;exact yA ok (by rw[<-hq.1];exact hq.2.1)
   ·exact ih x hx
 exact all r x hx
theorem Qs{bh:List (List Key×V)}(ok:qP P w H h)(e:H a=some (.dT bh)):bh.length<=av/\(a==sysModules)=false/\
  ∃xs,KT H bh xs/\h.DictOfH (tupleKind (dB P w)) a xs:=D5 ok (.inl e)
end
noncomputable def tX(H:Hp)(a:aj)(y:V)(r:Option V):Prop:=
 (∃bh k,Rd H a (.dK bh)/\y=kV k/\r=iP bh k)\/∃bh k b,Rd H a (.dT bh)/\y = .ref b/\H b=some (.tup (k.map kV))/\r=iP bh k
noncomputable def yB(H:Hp)(a:aj)(y v:V)(H':Hp):Prop:=
 (∃bh k,H a=some (.dK bh)/\y=kV k/\bh.length<av/\H'=upd H a (.dK (putK bh k v)))\/
 ∃bh k b,H a=some (.dT bh)/\y = .ref b/\H b=some (.tup (k.map kV))/\bh.length<av/\H'=upd H a (.dT (putK bh k v))
theorem tX.k{H:Hp}{a:aj}{bh:List (Key×V)}{k:Key}(e:H a=some (.dK bh)):tX H a (kV k) (iP bh k):=.inl ⟨bh,k,.inl e,rfl,rfl⟩
theorem tX.t{H:Hp}{a b:aj}{bh:List (List Key×V)}{k:List Key}(e:H a=some (.dT bh))(eb:H b=some (.tup (k.map kV))):tX H a (.ref b) (iP bh k):=.inr ⟨bh,k,b,.inl e,rfl,eb,rfl⟩
theorem yB.k{H:Hp}{a:aj}{bh:List (Key×V)}{k:Key}{v:V}(e:H a=some (.dK bh))(hl:bh.length<av):yB H a (kV k) v (upd H a (.dK (putK bh k v))):=.inl ⟨bh,k,e,rfl,hl,rfl⟩
theorem yB.t{H:Hp}{a b:aj}{bh:List (List Key×V)}{k:List Key}{v:V}(e:H a=some (.dT bh))(eb:H b=some (.tup (k.map kV)))(hl:bh.length<av):
  yB H a (.ref b) v (upd H a (.dT (putK bh k v))):=.inr ⟨bh,k,b,e,rfl,eb,hl,rfl⟩
section
variable {X:Cx}{pins:List (aj×Obj)}{σ:St}{H:Hp}{s:ai}{a:aj}{y v:V}{u r:ah}{o:Option V}{A:cj}{E:ah->ai->Prop}
theorem Inv.xr(I:Inv X pins σ H s):sysModules<s.heap.objs.size:=by
 have h:bC<s.heap.objs.size:=(I.mod.glob.keeps I.bk).lt;exact ib (by decide) h
theorem Jp{Q:ah->ai->Prop}(hu:A.units+1<cLine)(I:Inv X pins σ H s)(g:tX H a y (some v))(ry:RelV y u)(h:∀w' s',Inv X pins σ H s'->RelV v w'->Q w' s'):
  aH (model X.prog X.w) A (getItem (.ref a) u) Q E s:=by
 rcases g with⟨bh,k,e,ey,l⟩|⟨bh,k,b,e,ey,eb,l⟩
 ·subst ey;obtain⟨z,hd,vs,rel,dd⟩:=D4 I.dS e;obtain⟨w',hw,A1⟩:=ym.some_of (v:=v) (o:=valueAt vs k) (by rw[l];exact rel.val k);exact wpAny_getItem_of (yz ry) dd.mapOf hw (h w' _ (I.tok _) A1)
 ·subst ey;cases(show u=cO b from ry);obtain⟨z,hd,xs,rel,dd⟩:=D5 I.dS e;obtain⟨w',hw,A1⟩:=ym.some_of (v:=v) (o:=(atKey xs k).map (·.2)) (by rw[l];exact rel.val k);obtain⟨p,hp,Sw⟩:=pN.mp hw;refine wpAny_getItem_heap (tupleKind_room_in1 hu) (yA I.dS eb) dd hp ?_;rw[Sw];exact h w' _ (I.tok _) A1
theorem Oi{Q:ah->ai->Prop}(hu:A.units+1<cLine)(I:Inv X pins σ H s)(g:tX H a y o)(ry:RelV y u)(h:∀s',Inv X pins σ H s'->Q (.bool (!o.isSome)) s'):
  aH (model X.prog X.w) A (compareOp .NotIn u (.ref a)) Q E s:=by
 rcases g with⟨bh,k,e,ey,l⟩|⟨bh,k,b,e,ey,eb,l⟩
 ·subst ey;obtain⟨z,hd,vs,rel,dd⟩:=D4 I.dS e;refine wpAny_notIn_of (yz ry) hd dd.mapOf ?_;rw[<-(rel.val k).vQ,<-l];exact h _ (I.tok _)
 ·subst ey;cases(show u=cO b from ry);obtain⟨z,hd,xs,rel,dd⟩:=D5 I.dS e;refine wpAny_notIn_heap (tupleKind_room_in1 hu) (yA I.dS eb) hd dd ?_;have q:=(rel.val k).vQ;rw[Option.isSome_map]at q;rw[<-q,<-l];exact h _ (I.tok _)
theorem Ca{h':bS}{t':Nat}{ob:HO}(I:Inv X pins σ H s)(mu:Wz (H a))(hs:gx a s.heap h')(he:∃q,h'.get? a=some q)(new:fR X.prog X.w (upd H a ob) h' a ob):
  Inv X pins σ (upd H a ob) {s with heap:=h',toks:=t'}:=
 I.write (x:=a) (e:=a) mu (.inl rfl) (λb q hb z=>(hs.2 b hb).trans z) he new
theorem FZ{P:aR}{w:bH}{H':Hp}{h':bS}{bh:List (Key×V)}{vs:List (Key×ah)}(z:bh.length<=av)(hd:(a==sysModules)=false)(rel:KV bh vs)(dd:h'.DictOf (dB P w) a vs):
  fR P w H' h' a (.dK bh):=⟨z,hd,vs,rel,dd⟩
theorem Jq{H':Hp}{Q:Unit->ai->Prop}(hu:A.units+1<cLine)(I:Inv X pins σ H s)(g:yB H a y v H')(ry:RelV y u)(rv:RelV v r)(h:∀s',Inv X pins σ H' s'->Q () s'):
  aH (model X.prog X.w) A (setItem (.ref a) u r) Q E s:=by
 rcases g with⟨bh,k,e,ey,l,eH⟩|⟨bh,k,b,e,ey,eb,l,eH⟩
 ·subst ey eH;obtain⟨z,hd,vs,rel,dd⟩:=Qr I.dS e;have hz:vs.length<=av:=by rw[<-rel.length];exact z
  have hl:(putK bh k v).length<=av:=by have:=iF bh k v;omega
  refine wpAny_setItem_pairs (hsz:=hz) (yz ry) dd λh' V9 hs=>h _ ?_;have he:∃q,h'.get? a=some q:=let⟨q,_,_,hq,_⟩:=V9;⟨q,hq⟩;exact Ca I (by rw[e];exact iM) hs he (FZ hl hd (rel.put k rv) V9)
 ·subst ey eH;cases(show u=cO b from ry);obtain⟨z,hd,xs,rel,dd⟩:=Qs I.dS e;have hz:xs.length<=av:=by rw[<-jE rel];exact z
  have hl:(putK bh k v).length<=av:=by have:=iF bh k v;omega
  refine wpAny_setItem_heap (hsz:=hz) (tupleKind_room_in1 hu) (yA I.dS eb) dd λh' V9 hs=>h _ ?_;obtain⟨q,es,ep,hq,h2,h3,h4,_,h5⟩:=V9;refine Ca I (by rw[e];exact iM) hs ⟨q,hq⟩ ⟨hl,hd,_,(rel.put k eb rv).keeps λc ys ec=>?_,q,es,ep,hq,h2,h3,h4,h5⟩;rw[bP (qV ec e (λz=>nomatch z))];exact ec
end
noncomputable def Oj(i:bc):Prop:=∀ov iv,subscripted i false ov iv=operate [ov,iv] (getItem ov iv)
theorem HE{prog:aR}{w:bH}{A:cj}{E:ah->ai->Prop}{s:ai}{env:Env}{value slice:bc}{pos:Pos}{T id:String}{Q:ah->ai->Prop}(hl:typeLookup (.type T) "__getitem__"=pure (some (.builtin id)))(hs:Oj slice)(h:aH (model prog w) A (eval value env) (λo fZ=>aH (model prog w) A (eval slice env) (λi uK=>uK.TypeIs o T/\aH (model prog w) A (getItem o i) Q E uK) E fZ) E s):
  aH (model prog w) A (eval (.Subscript value slice pos) env) Q E s:=by
 refine Subscript_ (bO h (λo fZ aa7=>bO aa7 (λi uK Sx=>?_) λ_ _ x=>x) λ_ _ x=>x);obtain⟨hT,Sx⟩:=Sx;unfold subscriptTail;refine ae ?_;rw[getitemInPython_of_ne hT.not_modules];refine ae (kU hT hl ?_);have fin:aH (model prog w) A (subscripted slice false o i) (λr N3=>aH (model prog w) A (letTemporaryGo value o r >>= λ_=>pure r) Q E N3) E uK:=by
  rw[hs o i];exact wpAny_operating (bO Sx (λr N3 aa8=>ae (wpAny_letTemporaryGo (ax aa8))) λ_ _ x=>x)
 first
  |exact ax (ae fin)
  |exact ae (ax (ae fin))
  |exact ae fin
theorem D6{X:Cx}{pins:List (aj×Obj)}{σ:St}{H:Hp}{s:ai}{a:aj}{y:V}{o:Option V}(I:Inv X pins σ H s)(g:tX H a y o):s.TypeIs (.ref a) "dict":=by
 rcases g with⟨bh,k,e,_,_⟩|⟨bh,k,b,e,_,_,_⟩
 ·obtain⟨_,_,vs,_,dd⟩:=D4 I.dS e;exact dd.typeIs
 ·obtain⟨_,_,xs,_,dd⟩:=D5 I.dS e;exact dd.typeIs
noncomputable def Qt(td ty:TE):TE:=λσ H Q=>td σ H λx H1=>ty σ H1 λy H2=>∃a v,x = .ref a/\tX H2 a y (some v)/\Q v H2
noncomputable def Ol(ty td:TE):TE:=λσ H Q=>ty σ H λy H1=>td σ H1 λx H2=>∃a o,x = .ref a/\tX H2 a y o/\Q (.bl (!o.isSome)) H2
noncomputable def W3(td ty tv:TE):TS:=λD σ H=>tv σ H λv H1=>td σ H1 λx H2=>ty σ H2 λy H3=>∃a H4,x = .ref a/\yB H3 a y v H4/\D.nx σ H4
section
variable {X:Cx}{o i e value:bc}{pos pos' KP:Pos}{td ty tv:TE}
theorem uR(hu:X.A.units+1<cLine)(ho:PE X o td)(hi:PE X i ty)(hs:Oj i):PE X (.Subscript o i pos) (Qt td ty):=by
 intro pins s σ H Q I h;refine HE yh.lookup hs (gb (ho pins s σ H _ I h) λu s1 ⟨x,H1,I1,rx,q1⟩=>gb (hi pins s1 σ H1 _ I1 q1) λ iv s2  zq0=>?_);obtain ⟨y,H2,I2,ry,a,v,ex,g,q2⟩:=zq0;subst ex;obtain rfl:u=cO a:=rx;exact⟨D6 I2 g,Jp hu I2 g ry λw' s3 I3 A1=>⟨v,H2,I3,A1,q2⟩⟩
theorem Jr(hu:X.A.units+1<cLine)(hi:PE X i ty)(ho:PE X o td):PC X .NotIn i o (Ol ty td):=by
 intro pins s σ H Q I h;refine gb (hi pins s σ H _ I h) λiv s1 ⟨y,H1,I1,ry,q1⟩=>gb (ho pins s1 σ H1 _ I1 q1) λ u s2  zq0=>?_;obtain ⟨x,H2,I2,rx,a,ov,ex,g,q2⟩:=zq0;subst ex;obtain rfl:u=cO a:=rx;exact Oi hu I2 g ry λs3 I3=>⟨.bl (!ov.isSome),H2,I3,rfl,q2⟩
theorem uS(hu:X.A.units+1<cLine)(ho:PE X o td)(hi:PE X i ty)(hv:PE X value tv)(hs:dF value (some (.Subscript o i pos')) pos.line X.env=pure false):
  PS X (.Assign [.Subscript o i pos'] value pos) (W3 td ty tv):=by
 intro pins s σ H D I h;refine wpAny_Assign_Subscript (gb (hv pins s σ H _ I h) λr s1 ⟨v,H1,I1,rv,q1⟩=>gb (ho pins s1 σ H1 _ I1 q1) λu s2 ⟨x,H2,I2,rx,q2⟩=>gb (hi pins s2 σ H2 _ I2 q2) λ iv s3  zq0=>?_) hs;obtain ⟨y,H3,I3,ry,a,H4,ex,g,q3⟩:=zq0;subst ex;obtain rfl:u=cO a:=rx;exact Jq hu I3 g ry rv λs4 I4=>⟨σ,H4,I4,q3⟩
end
theorem D7{P:aR}{w:bH}{H:Hp}(h:bS)(hb:sysModules<h.objs.size):fR P w H (h.push {cls:=.type "dict",data:=.dict #[]}) h.objs.size (.dT []):=
 ⟨dj _,beq_eq_false_iff_ne.mpr (dz (aZ hb)),[],.nil,_,#[],0,aB _ rfl,⟨rfl,rfl,rfl⟩,rfl,rfl,sN⟩
noncomputable def Sy:TE:=λ_ H Q=>∀p,H p=none->Q (.ref p) (upd H p (.dT []))
section
variable {X:Cx}{pos:Pos}
theorem K5:PE X (.Dict [] [] pos) Sy:=λpins s σ H Q I h=>
 wpAny_Dict_empty ⟨.ref s.heap.objs.size,_,I.laid (a:=s.heap.objs.size) (o:=.dT []) (t':=s.toks) (λ_ _ q=>af _ q) (au _) (D7 s.heap I.xr),rfl,h _ (I.dS.fresh (au _))⟩
end
noncomputable def F0:List (TE×TE)->St->Hp->(List (V×V)->Hp->Prop)->Prop
 |[],_,H,Q=>Q [] H
 |(tk,tv)::r,σ,H,Q=>tk σ H λx H1=>tv σ H1 λy H2=>F0 r σ H2 λps H3=>Q ((x,y)::ps) H3
noncomputable abbrev VV:List (V×V)->List (ah×ah)->Prop:=Paired λp q=>RelV p.1 q.1/\RelV p.2 q.2
noncomputable def YV(X:Cx)(pos:Pos)(keys:List (Option bc))(values:List bc)(YW:List (TE×TE)):Prop:=
 ∀(pins:List (aj×Obj)) (s:ai) (σ:St) (H:Hp) (Q:List (V×V)->Hp->Prop),Inv X pins σ H s->F0 YW σ H Q->
  aH (model X.prog X.w) X.A (evalPairs (pairTrees keys values X.env pos)) (λvs s'=>∃ps H',Inv X pins σ H' s'/\VV ps vs/\Q ps H') X.xe s
theorem Om{X:Cx}{pos:Pos}:YV X pos [] [] []:=λpins s σ H Q I h=>pairTrees_nil_walk ⟨[],H,I,.nil,h⟩
theorem K6{X:Cx}{pos:Pos}{k v:bc}{ks:List (Option bc)}{vs:List bc}{tk tv:TE}{YW:List (TE×TE)}(hk:PE X k tk)(hv:PE X v tv)(hr:YV X pos ks vs YW):
  YV X pos (some k::ks) (v::vs) ((tk,tv)::YW):=λpins s σ H Q I h=>
 pairTrees_cons_walk (gb (hk pins s σ H _ I h) (by rintro u s1 ⟨x,H1,I1,rx,q1⟩;exact gb (hv pins s1 σ H1 _ I1 q1) (by rintro w2 s2 ⟨y,H2,I2,ry,q2⟩;exact gb (hr pins s2 σ H2 _ I2 q2) (by rintro ws s3 ⟨ps,H3,I3,rel,q3⟩;exact ⟨(x,y)::ps,H3,I3,.cons ⟨rx,ry⟩ rel,q3⟩))))
noncomputable def mT(bh more:List (Key×V)):List (Key×V):=more.foldl (λacc kv=>putK acc kv.1 kv.2) bh
theorem KV.merge:∀{more:List (Key×V)} {rs:List (Key×ah)} {bh:List (Key×V)} {vs:List (Key×ah)},KV more rs->KV bh vs->KV (mT bh more) (merged vs rs):=by
 intro more rs bh vs r;unfold KV at r;induction r generalizing bh vs with
 |nil=>intro q;exact q
 |@cons p q ps qs h t ih=>
  intro r0;have e:KV (putK bh p.1 p.2) (stored vs q.1 q.2):=by
   have:=r0.put p.1 h.2;rw[<-h.1];exact this
  exact ih e
theorem tm:∀(more bh:List (Key×V)),(mT bh more).length<=bh.length + more.length
 |[],bh=>by show bh.length<=bh.length+0;omega
 |p::r,bh=>by
  have h1:=tm r (putK bh p.1 p.2);have h2:=iF bh p.1 p.2;show(mT (putK bh p.1 p.2) r).length<=_;rw[aY];omega
noncomputable def IsD(H:Hp)(a:aj):Prop:=(∃bh,Rd H a (.dK bh))\/∃bh,Rd H a (.dT bh)
theorem Sz{X:Cx}{pins:List (aj×Obj)}{σ:St}{H:Hp}{s:ai}{a:aj}(I:Inv X pins σ H s)(d:IsD H a):
  s.TypeIs (.ref a) "dict"/\(∀b,cO a = .ref b->∃ob,s.heap.get? b=some ob/\ob.dict=none)/\(a==sysModules)=false:=by
 rcases d with⟨bh,e⟩|⟨bh,e⟩
 ·obtain⟨_,hd,vs,_,dd⟩:=D4 I.dS e;refine⟨dd.typeIs,λb q=>?_,hd⟩;cases q;obtain⟨ob,_,_,h1,h2,_⟩:=dd;exact⟨ob,h1,h2.2.1⟩
 ·obtain⟨_,hd,xs,_,dd⟩:=D5 I.dS e;refine⟨dd.typeIs,λb q=>?_,hd⟩;cases q;obtain⟨ob,_,_,h1,h2,_⟩:=dd;exact⟨ob,h1,h2.2.1⟩
end L2
namespace Att
open PySem PySem.W PySem.Calls PyProof.Rows
theorem xt{P:Params}{h:bS}:∀(ns:List Int)(vs:List ah),WellAll P h vs (ns.map WData.int)->IntsAre vs ns:=by
 intro ns;induction ns with
 |nil=>
  intro vs w;rw[gy]at w;cases w;exact .nil
 |cons n ns ih=>
  intro vs w;rw[bz]at w;cases w with
  |cons a b=>
   cases a;exact .cons _ _ (ih _ b)
theorem Js{l:OpenLaw}{n:Nat}(hn:l.most=some n){P:Params}{h:bS}{args:List WData}{vals:List ah}(Oo:l.row.toRowW.claim.pre args=true)(SA:WellAll P h vals args):
  ∃a vs ns,vals=[cO a]/\args=[WData.list (ns.map WData.int)]/\h.get? a=some {cls:=.type "list",data:=.seq vs.toArray}/\IntsAre vs ns/\ns.length<=n:=by
 have dE:WShape.hasAll [] args [.list .int]=true:=(pre_splitW Oo).1;have hc:l.pre.holds [] {args:=args}=true:=(pre_splitW Oo).2;obtain⟨d,r,rfl,h1,h2⟩:=hasAllW_cons dE;obtain rfl:=hasAllW_nil h2;obtain⟨xs,rfl,h3⟩:=hasW_list h1;obtain⟨ns,rfl⟩:=items_int h3;have hlen:ns.length<=n:=by
  unfold OpenLaw.pre at hc;have h4:(WTm.not (.lt (.lit (.int (n:Int))) (.len (.arg 0)))).holds [] {args:=[.list (ns.map .int)]}=true:=by
   have h4:=(holds_andW hc).1;rw[hn]at h4;exact h4
  have h5:=condW_of h4 (w_not (w_lt w_lit (w_len_list (w_arg rfl))));rw[ay]at h5;refine xH λq=>?_;have q':(n:Int)<((ns.length:Nat):Int):=by omega
  first
   |(rw[decide_eq_true q']at h5;exact absurd h5 (by decide))
   |(simp at h5;omega)
 cases SA with
 |cons w1 w2=>
  cases w2;cases w1 with
  |list ho Ga=>exact⟨_,_,ns,rfl,rfl,ho,xt ns _ Ga,hlen⟩
theorem Jt(l:OpenLaw)(args:List WData):l.row.toRowW.claim.post args (.bool true) args=true:=
 postW_of (r:=l.row.toRowW) (X:=(true==true))
  (show WShape.has [] (.bool true) .bool=true by first|rfl|decide|simp[WShape.has,WShape.arms,WShape.armsAll])
  (show(WTm.eq .res (.lit (.bool true))).value [] {args:=args,res:=some (.bool true),after:=args}=some (.bool (true==true))from w_eq_bool (w_res rfl) w_lit) rfl
theorem D8{l:OpenLaw}{n:Nat}{q:aR}{loose:List Str}{XP:(Str->Option ah)->bS->Prop}{YP:bH->bS->Prop}{d:DefRec}(hn:l.most=some n)(W4:d.params.defaults=[])(call:∀(w:bH)(jH fZ:ai)(mg mb:Str->Option ah)(fa:aj)(o:Obj)(pm cd doc:ah)(a:aj) (vs:List ah) (ns:List Int),
   Ground q loose [] XP w jH mg mb fZ.heap->YP w fZ.heap->
   fZ.heap.get? fa=some o->o.data = .func (docDef d.name d.params d.body d.scope pm cd doc)->fZ.heap.CodeRec cd d.name->mg d.name=some (.ref fa)->
   fZ.heap.get? a=some {cls:=.type "list",data:=.seq vs.toArray}->IntsAre vs ns->ns.length<=n->fZ.gens=#[]->
   codeAny (model l.prog w) callerA (.call (.ref fa) ⟨[.ref a],[]⟩) (λr s'=>r = .ok (.ret (.bool true))/\OldK fZ.heap s'.heap/\s'.os=fZ.os/\AllBare s'.gens) fZ):
  WalkO q loose XP YP l.row.toRowW d [] (λf vs=>PySem.call f vs):=by
 intro w jH fZ mg mb G Y fa o pm cd doc dV kV ho hd l9 hD SD hg args vals as Oo ae9 hrd SA hlo;obtain rfl:dV = .none:=Dflts.none hD W4;obtain rfl:kV = .none:=Dflts.noKw hD;obtain⟨a,vs,ns,rfl,rfl,SE,hints,hlen⟩:=Js hn Oo SA;refine enter_call (codeAny_mono (call w jH fZ mg mb fa o pm cd doc a vs ns G Y ho (fd_plain hd) l9 SD SE hints hlen hg) λr s' hq=>?_);obtain⟨rfl,h2,h3,h4⟩:=hq;exact⟨.inl ⟨.bool true,.bool true,[],rfl,λ_=>rfl,.bool true,Jt l _,λ_=>⟨List.Pairwise.nil,λ_ hm=>(nomatch hm)⟩⟩,h2,h3,h4⟩
end Att
namespace L2
open PySem PySem.Spec PyProof.Rows
theorem A7:∀{vs:List ah}{ns:List Int},IntsAre vs ns->cX (ns.map V.int) vs
 |_,_,.nil=>.nil
 |_,_,.cons n t h=>.cons ⟨t,rfl⟩ (A7 h)
noncomputable def K7(H:Hp):Prop:=∀b,H b=none\/∃o xs,H b=some (.pS o (.lst xs))
theorem K8{P:aR}{w:bH}{K:aa}{mg mb:Str->Option ah}{CX:Fv}{k:Nat}{fa a:aj}{fd:be}{x:Str}{sp:Sp}{fZ:ai}{vs:List ah}{ns:List Int}(KX:K.In fZ.heap)(Ju:fZ.heap.Ns bC mg)(hb:fZ.heap.Ns builtinsNs mb)(hbb:∀x:Str,x≠"__name__"->mb x=bootBuiltins x)(aa9:fZ.heap.NoLimit)(hg:fZ.gens=#[])(ha:fZ.heap.get? a=some {cls:=.type "list",data:=.seq vs.toArray})(hi:IntsAre vs ns)(hl:ns.length<=av)(hr:iD k callerA)(F:∀base:bS,K.In base->base.Ns bC mg->fi P w K mg base CX k fa fd [x] sp)(W5:∀(s:ai)(u:ah),BindsTo s fd ⟨[u],[]⟩ [(x,u)])(Av:∀H:Hp,K7 H->fU K H a (ns.map V.int)->sp [.ref a] H (λv _=>v = .bl true) λ_ _ _=>False)(hCX:∀H e s',CX [] H fZ (λ_ _ _=>False) e s'->False):
  codeAny (model P w) callerA (.call (.ref fa) ⟨[.ref a],[]⟩) (λr s'=>r = .ok (.ret (.bool true))/\OldK fZ.heap s'.heap/\s'.os=fZ.os/\AllBare s'.gens) fZ:=by
 have rv:=A7 hi;have ab0:=hi.length;have core:∀H:Hp,K7 H->fU K H a (ns.map V.int)->qP P w H fZ.heap->(∀b,H b≠none->b=a)->(H a≠none->K.lookup a=none)->
   codeAny (model P w) callerA (.call (.ref fa) ⟨[.ref a],[]⟩) (λr s'=>r = .ok (.ret (.bool true))/\OldK fZ.heap s'.heap/\s'.os=fZ.os/\AllBare s'.gens) fZ:=by
  intro H hO hS dS hA hK;have HF:∀{b:aj}{o:Obj},fZ.heap.get? b=some o->H b=none->(B3 fZ.heap H).get? b=some o:=λe n=>Kv e n;have WW:∀{b:aj}{o:Obj}{es:Array DictEntry}{ep:Nat},fZ.heap.get? b=some o->o.data = .dict es ep->H b=none:=λ{b o es ep} e d=>by
   cases q:H b with
   |none=>rfl
   |some u=>
    have e':b=a:=hA b (by rw[q];simp);subst e';rw[ha]at e;cases e;have d':Data.seq vs.toArray _=Data.dict es ep:=d;cases d'
  have YX:∀{b:aj}{m:Str->Option ah},fZ.heap.Ns b m->(B3 fZ.heap H).Ns b m:=λ{b m} ⟨o,es,ep,e,d,r⟩=>⟨o,es,ep,HF e (WW e d),d,r⟩
  have hKb:K.In (B3 fZ.heap H):=λb o e=>HF (KX b o e) (by
   cases q:H b with
   |none=>rfl
   |some u=>
    have e':b=a:=hA b (by rw[q];simp);subst e'
    rw[hK (by rw[q];simp)]at e;cases e)
  have hM:Mod K mg (B3 fZ.heap H):=⟨hKb,YX Ju,⟨mb,YX hb,hbb⟩,let⟨mc,h1,h2⟩:=aa9;⟨mc,YX h1,h2⟩⟩;have e0:KR P w K mg (B3 fZ.heap H) callerA [] fZ H:=⟨rfl,hM,λb o e=>NY e,Nat.le_of_eq (Jg _ _),trivial,λb hb=>absurd (show b∈([]:List aj)from hb) (by simp),dS,.of_eq hg⟩;refine codeAny_mono ((F _ hKb (YX Ju)).run callerA [] fZ H ⟨[.ref a],[]⟩ [.ref a] [.ref a] _ _ hr e0 (W5 fZ (.ref a)) (.cons rfl .nil) (Av H hO hS)) λr s' h=>?_;cases r with
  |error e=>exact(hCX H e s' h).elim
  |ok fl=>
   cases fl with
   |next=>exact dM h
   |brk=>exact dM h
   |cont=>exact dM h
   |ret u=>
    obtain⟨v,H',os,bare,un,ab1,r',q⟩:=h;have q':v = .bl true:=q;subst q';obtain rfl:u=lL true:=r';refine⟨rfl,OldK.of_keep λb o e=>?_,os,bare⟩;cases q:H b with
    |none=>exact un.keep b o e q (by intro z;exact absurd (show b∈([]:List aj)from z) (by simp)) (by simp)
    |some u=>
     rcases hO b with z|⟨ob,xs,z⟩
     ·rw[q]at z;cases z
     ·have z2:=un.tS b ob _ z;obtain⟨e1,_⟩:=dS b _ z;obtain⟨e2,_⟩:=ab1 b _ z2;rw[e]at e1;cases e1;exact e2
 cases hk:K.lookup a with
 |some o=>
  have e:=KX a o hk;rw[ha]at e;cases e;refine core (λ_=>none) (λ_=>.inl rfl) (.inr ⟨_,vs.toArray,_,hk,rfl,rfl,rfl,by rw[aD,ab0];exact hl,by simpa using rv⟩) (λb u z=>by have z':(none:Option HO)=some u:=z;cases z') (λb z=>absurd rfl z) λz=>absurd rfl z
 |none=>
  refine core (λb=>if b=a then some (.pS {cls:=.type "list",data:=.seq vs.toArray} (.lst (ns.map V.int)))else none) (λb=>?_) (.inl (.inr ⟨{cls:=.type "list",data:=.seq vs.toArray},if_pos rfl⟩)) (λb u z=>?_) (λb z=>?_) λ_=>hk
  ·by_cases hb:b=a
   ·exact .inr ⟨_,_,if_pos hb⟩
   ·exact .inl (if_neg hb)
  ·by_cases hb:b=a
   ·have z':=(if_pos hb).symm.trans z;cases z';subst hb;exact⟨ha,by rw[ay];exact hl,vs,_,rv,ha⟩
   ·have z':=(if_neg hb).symm.trans z;cases z'
  ·by_cases hb:b=a
   ·exact hb
   ·exact absurd (if_neg hb) z
theorem Oq{l:wI}{n k:Nat}{q:aR}{loose:List Str}{XP:(Str->Option ah)->bS->Prop}{YP:bH->bS->Prop}{d:DefRec}{K:Params->aa}{CX:bH->Fv}{sp:bH->Sp}{x:Str}(hn:l.most=some n)(hn2:n<=av)(W4:d.params.defaults=[])(hr:iD k callerA)(hY:∀(w:bH)(h:bS),YP w h->(K w.params).In h)(F:∀(w:bH)(mg:Str->Option ah)(fa:aj)(h:bS),(K w.params).In h->h.Ns bC mg->mg d.name=some (.ref fa)->
   ∃fd:be,(∀(s:ai)(u:ah),BindsTo s fd ⟨[u],[]⟩ [(x,u)])/\
    ∀base:bS,(K w.params).In base->base.Ns bC mg->fi l.prog w (K w.params) mg base (CX w) k fa fd [x] (sp w))(Av:∀(w:bH)(H:Hp)(a:aj)(ns:List Int),ns.length<=n->K7 H->fU (K w.params) H a (ns.map V.int)->sp w [.ref a] H (λv _=>v = .bl true) λ_ _ _=>False)(hCX:∀(w:bH)(H:Hp)(s:ai)(e:ah)(s':ai),CX w [] H s (λ_ _ _=>False) e s'->False):
  PySem.W.WalkO q loose XP YP l.row.toRowW d [] (λf vs=>PySem.call f vs):=by
 refine Att.D8 hn W4 λw jH fZ mg mb fa o pm cd doc a vs ns G Y ho hd l9 SD SE hints hlen hg=>?_;have KX:=hY w _ Y;obtain⟨fd,hb,hF⟩:=F w mg fa _ KX G.T.g SD;exact K8 KX G.T.g G.T.b G.T.builtins G.T.nolimit hg SE hints (aX hlen hn2) hr hF hb (λH hO hS=>Av w H a ns hlen hO hS) λH e s'=>hCX w H fZ e s'
noncomputable def jO(s:b9):Arguments:=match s with
 |.FunctionDef _ a _ _ _ _ _ _ _ _=>a
 |_=>{posonlyargs:=[],args:=[],vararg:=none,kwonlyargs:=[],kw_defaults:=[],kwarg:=none,defaults:=[]}
noncomputable def eS(s:b9):List b9:=match s with
 |.FunctionDef _ _ b _ _ _ _ _ _ _=>b
 |_=>[]
noncomputable def aJ(s:b9):Scope:=match s with
 |.FunctionDef _ _ _ _ _ _ sc _ _ _=>sc
 |_=>{kind:=.function,names:=[],isGenerator:=false,isCoroutine:=false}
noncomputable abbrev kx:Fv:=λ_ _ _ _ _ _=>False
noncomputable abbrev E0:XK:=λ_ _ _=>False
theorem K9{X:Cx}:vM kx X E0:=λ_ _ _ _ _ _ _ h=>h.elim
structure jP(K:aa)(x qual:Str)(st:b9)(f:aj)(fd:be):Prop where
 ex:∃(oc:ah)(od:Option aj)(kV doc pm:ah)(an:Option aj)(eR ct:ah) (Jm:Array (Option ah)),
  fd=dA x qual (jO st) (eS st) (aJ st) .none kV doc pm an eR ct/\K.lookup f=some ⟨oc,od,.func fd,Jm⟩/\ko K eR qual=true
 kp:eX K (.ref f)=true
section
variable {P:aR}{w:bH}{K:aa}{mg:Str->Option ah}{base:bS}
theorem jP.ok{x qual:Str}{st:b9}{f:aj}{fd:be}{N ps:List Str}{k:Nat}{sp:Sp}(F:jP K x qual st f fd)(S:b5 N ps (aJ st))(len:∀vs H Q E,sp vs H Q E->vs.length=ps.length)(lU:∀(eR:ah)(A:cj)(outer:List Env)(s:ai)(H:Hp)(vs:List V)(Q:VK) (E:XK),iD k (A.deeper (envOfC qual (aJ st) s.heap.objs.size f eR))->sp vs H Q E->
   ∃t,qD (pW kx P w K mg base N qual (aJ st) f eR A outer s H E).Dy (eS st) t/\t {nx:=λ_ H'=>Q .ip H',rt:=Q} (start N vs) H):fi P w K mg base kx (k+1) f fd ps sp:=by
 obtain⟨oc,od,kV,doc,pm,an,eR,ct,Jm,rfl,lk,l9⟩:=F.ex;refine Qo lk l9 S len λA outer s H vs Q E hr Av=>?_;obtain⟨t,h,q⟩:=lU eR A outer s H vs Q E hr Av;exact⟨t,h.Dy,q⟩
theorem jP.binds{x qual:Str}{st:b9}{f:aj}{fd:be}{ps:List Str}(F:jP K x qual st f fd)(h:∀(kV doc pm:ah)(an:Option aj)(eR ct:ah)(us:List ah),us.length=ps.length->bindArgs (dA x qual (jO st) (eS st) (aJ st) .none kV doc pm an eR ct) ⟨us,[]⟩=pure (ps.zip us)):Binds K fd ps []:=by
 obtain⟨oc,od,kV,doc,pm,an,eR,ct,Jm,rfl,lk,l9⟩:=F.ex;exact .all (h kV doc pm an eR ct)
theorem Gb{x qual:Str}{st:b9}{f:aj}{oc:ah}{od an:Option aj}{Jm:Array (Option ah)}{kV doc pm eR ct:ah}(l:K.lookup f=some ⟨oc,od,.func (dA x qual (jO st) (eS st) (aJ st) .none kV doc pm an eR ct),Jm⟩)(c:ko K eR qual=true)(k:eX K (.ref f)=true):jP K x qual st f (dA x qual (jO st) (eS st) (aJ st) .none kV doc pm an eR ct):=⟨⟨oc,od,kV,doc,pm,an,eR,ct,Jm,rfl,l,c⟩,k⟩
end
theorem HG{A:cj}{k:Nat}(hr:iD k A):A.units+1<cLine:=cH (Nat.add_le_add_left (by decide:1<=64) _) hr.units
theorem sd{n:Nat}(h:n<=1000):n<av:=cH h (by decide)
section
variable {X:Cx}
theorem pv(i:Nat){x:Str}{pos:Pos}(hN:X.N[i]?=some x:=by rfl)(hv:AO X.env.scope x:=by first|exact cm rfl|exact cW (cm rfl)|exact cW (cW rfl))(hd:(x==("__debug__":Str))=false:=by decide)(l9:(x==("__classdict__":Str))=false:=by decide):PE X (.Name x pos) (FI i):=gN hN hv hd l9
end
theorem qJ{A B:Prop}(h:B):if false=true then A else B:=by
 rw[if_neg aV];exact h
theorem uT{A B:Prop}(h:A):if true=true then A else B:=by
 rw[if_pos rfl];exact h
theorem Gc{c A B:Prop}[Decidable c](h1:c->A)(h2:¬c->B):if c then A else B:=by
 by_cases h:c
 ·rw[if_pos h];exact h1 h
 ·rw[if_neg h];exact h2 h
noncomputable def bK(H H':Hp):Prop:=∀b o,H b=some o->H' b=some o
theorem bK.refl(H:Hp):bK H H:=λ_ _ h=>h
theorem bK.trans{H H1 H2:Hp}(a:bK H H1)(b:bK H1 H2):bK H H2:=λc o h=>b c o (a c o h)
theorem bK.free{H H':Hp}(e:bK H H'){l:aj}(h:H' l=Option.none):H l=Option.none:=by
 cases q:H l with
 |none=>rfl
 |some o=>
  rw[e l o q]at h;cases h
end L2
set_option maxHeartbeats 4000000
namespace L2
open PySem PySem.Spec PyProof.Rows
section
variable {X:Cx}{pins:List (aj×Obj)}{σ:St}{H:Hp}{s:ai}{D:aj}{o:HO}
theorem qP.adopt{P:aR}{w:bH}{h:bS}(x:qP P w H h)(hn:H D=none)(new:fR P w (upd H D o) h D o):qP P w (upd H D o) h:=λb u e=>by
 by_cases hb:b=D
 ·subst hb;rw[aW]at e;cases e;exact new
 ·rw[bP hb]at e;exact(x b u e).vE (λc v _ q=>q) (λc q=>by rw[bP (cn q hn)];exact q) λc xs q=>by rw[bP (cn q hn)];exact q
theorem Inv.adopt(I:Inv X pins σ H s)(hf:oB X pins H D)(new:fR X.prog X.w (upd H D o) s.heap D o):Inv X pins σ (upd H D o) s:=by
 obtain⟨f0,f1,f2,f3,f4,f5⟩:=hf;obtain⟨hp,g,d,t,os⟩:=s;refine I.step (h':=hp) (g':=g) (t':=t) (d':=d) (ch:=[D]) (λb hb=>?_) (λb ob _ _ _ e _=>e) (λb ob _ _ _ e _=>⟨ob.slots,e⟩) (λb ob hb e n=>?_) (λb ob _ e=>⟨ob,e⟩)
  (λb xs e=>by rw[bP (cn e f0)];exact e) (λb ob u e=>by rw[bP (cn e f0)];exact e) (λb ps e=>⟨#[],by rw[bP (cn e f0),e];simp⟩) (λm hm=>hm) (I.dS.adopt f0 new) I.bare
 ·have e:b=D:=by simpa using hb
  subst e;exact⟨f3,f1,f4,f5⟩
 ·rw[bP (λz=>hb (by simp[z]))];exact n
end
section
variable {prog:aR}{w:bH}{A:cj}{R:Result->ai->Prop}{s:ai}
noncomputable abbrev Qu:ah->ai->Prop:=λ_ _=>False
theorem D9{elt yC iter:bc}{ifs:List bc}{scope:Scope}{pos:Pos}{it acc:ah}{env:Env}(J:Nat->ai->Prop)(turn:∀n s,J n s->aH (model prog w) A (pyNext it) (λr s1=>match r with
   |none=>R (.ok .next) s1
   |some v=>aH (model prog w) A (letOwnedTupleGo yC it v) (λ_ s2=>aH (model prog w) A (assign yC env v) (λ_ s3=>
     aH (model prog w) A (forIn ifs true λc r=>if r=true then do let ok <-isTrue c env (eval c env);pure (jx ok)else pure (jx r)) (λb s3=>if b=true then aH (model prog w) A (eval elt env) (λx s4=>aH (model prog w) A (call (.builtin "list.append") [acc,x]) (λ_ s5=>∃m,m<n/\J m s5) Qu s4) Qu s3 else ∃m,m<n/\J m s3) Qu s3) Qu s2) Qu s1) Qu s)(n:Nat)(h:J n s):codeAny (model prog w) A (.compLoop (.ListComp elt [⟨yC,iter,ifs,0⟩] scope pos) 0 it acc env) R s:=by
 refine codeAny_loop rfl J (λk s' hJ=>?_) n h;show aH _ A ((compTurn (.ListComp elt [⟨yC,iter,ifs,0⟩] scope pos) 0 it acc env).onRaise (λx=>do noteFrame x env;theTreesLotGoes x)) _ _ s';refine wpAny_noted ?_;rw[compTurn_list];refine ae (wpAny_standAt (ae (bO (turn k s' hJ) (λr s1 h1=>?_) λ_ _ z=>z.elim)));cases r with
 |none=>exact ax h1
 |some v=>
  refine ae (bO h1 (λ_ s2 h2=>ae (bO h2 (λ_ s3 h3=>?_) λ_ _ z=>z.elim)) λ_ _ z=>z.elim);refine ae (bO h3 (λb s3 h3=>?_) λ_ _ z=>z.elim);cases b with
  |true=>
   rw[if_pos rfl]at h3 ⊢;exact ae (ae (bO h3 (λx s4 h4=>ae (bO h4 (λ_ s5 h5=>ax (ax ⟨rfl,h5⟩)) λ_ _ z=>z.elim)) λ_ _ z=>z.elim))
  |false=>
   rw[if_neg aV]at h3 ⊢;exact ae (ax (ax ⟨rfl,h3⟩))
end
structure jQ(N:List Str)(sc scope:Scope)(xs:List Str):Prop where
 kind:scope.kind = .function
 La:∀y∈scope.names,y.2≠.cell
 names:∀y∈scope.names,y.2 = .local->scope.names.lookup y.1=some .local
 own:xs.map (λy=>scope.names.lookup y)=xs.map λ_=>some NameKind.local
 free:∀y∈scope.names,y.2 = .free->sc.names.lookup y.1=some .cell\/sc.names.lookup y.1=some .free
 loc:∀y∈N,scope.names.lookup y≠some .local
 nd:(xs++N).Nodup
noncomputable abbrev oG(N:List Str)(sc scope:Scope)(x:Str):Prop:=jQ N sc scope [x]
theorem wU{f:Str->NameKind->NameKind}:∀(l:List (Str×NameKind)) (y:Str),(l.map λp=>(p.1,f p.1 p.2)).lookup y=(l.lookup y).map (f y)
 |[],_=>rfl
 |(n,k)::r,y=>by
  rw[bz,jy,jy];cases h:y==n with
  |true=>rw[show y=n from eq_of_beq h];rfl
  |false=>exact wU r y
theorem qZ(scope:Scope)(env:Env)(y:Str):(relabel scope env).names.lookup y=(scope.names.lookup y).map λk=>if(k == .free&&env.scope.kind == .function&&env.kindOf y==some .cell)=true then .cell else k:=by
 have e:(relabel scope env).names=scope.names.map λp=>(p.1,(λy k=>if(k==gQ&&env.scope.kind == .function&&env.kindOf y==some .cell)=true then nD else k) p.1 p.2):=by
  show scope.names.map _=_;apply mI;rintro⟨n,k⟩ _;show(if _=true then(n,nD)else(n,k))=(n,if _=true then nD else k);split<;>rfl
 rw[e];exact wU (f:=λy k=>if(k==gQ&&env.scope.kind == .function&&env.kindOf y==some .cell)=true then nD else k) scope.names y
section
variable {N:List Str}{sc scope:Scope}{xs:List Str}{env:Env}
theorem jQ.HH(S:jQ N sc scope xs){y:Str}(h:(relabel scope env).names.lookup y=some .cell\/(relabel scope env).names.lookup y=some .free):(y,gQ)∈scope.names:=by
 rw[qZ]at h;cases e:scope.names.lookup y with
 |none=>rw[e]at h;simp at h
 |some k=>
  have hm:=ik e;have hk:=S.La _ hm;cases k with
  |free=>exact hm
  |cell=>exact absurd rfl hk
  |_=>rw[e]at h;simp at h
theorem jQ.outer(S:jQ N sc scope xs){y:Str}(hy:y∈N)(h:AO (relabel scope env) y):((relabel scope env).names.lookup y=some .cell\/(relabel scope env).names.lookup y=some .free):=by
 rcases h with h|h|h
 ·exfalso;rw[qZ]at h;cases e:scope.names.lookup y with
  |none=>rw[e]at h;simp at h
  |some k=>
   rw[e]at h;have:k = .local:=by
    have h2:(if(k==gQ&&env.scope.kind == .function&&env.kindOf y==some .cell)=true then nD else k) = .local:=by simpa using h
    split at h2
    ·cases h2
    ·exact h2
   subst this;exact S.loc y hy e
 ·exact .inl h
 ·exact .inr h
theorem Gd(hf:∀y∈scope.names,y.2 = .free->∃c,env.cells.lookup y.1=some c):
  ∃cl,closureFor scope env=pure cl/\(∀y c,cl.lookup y=some c->env.cells.lookup y=some c)/\∀y,(y,gQ)∈scope.names->∃c,cl.lookup y=some c:=by
 have key:∀(l:List (Str×NameKind)) (acc:List (Str×aj)),(∀y∈l,y.2 = .free->∃c,env.cells.lookup y.1=some c)->(∀y c,acc.lookup y=some c->env.cells.lookup y=some c)->
   ∃cl,(forIn l acc (λ(p:Str×NameKind) (r:List (Str×aj))=>if p.2==gQ then(do let c <-cellOf env p.1;pure (jx ((p.1,c)::r)))else pure (jx r)):Sem (List (Str×aj)))=pure cl/\
    (∀y c,cl.lookup y=some c->env.cells.lookup y=some c)/\(∀y,(y,gQ)∈l->∃c,cl.lookup y=some c)/\∀y c,acc.lookup y=some c->∃c,cl.lookup y=some c:=by
  intro l;induction l with
  |nil=>intro acc _ ha;exact⟨acc,rfl,ha,λy h=>by simp at h,λy c h=>⟨c,h⟩⟩
  |cons p r ih=>
   intro acc hp ha;obtain⟨n,k⟩:=p;by_cases hk:k = .free
   ·subst hk;obtain⟨c,hc⟩:=hp (n,.free) aE rfl
    obtain⟨cl,e,h1,h2,h3⟩:=ih ((n,c)::acc) (λy hy=>hp y (aU _ hy)) (λy d hd=>by
     rw[jy]at hd;cases hb:y==n with
     |true=>rw[hb]at hd;simp at hd;rw[show y=n from eq_of_beq hb,<-hd];exact hc
     |false=>rw[hb]at hd;exact ha y d hd)
    refine⟨cl,?_,h1,λy hy=>?_,λy d hd=>?_⟩
    ·rw[iX];simp only[beq_self_eq_true,if_true,cellOf,hc,pure_bind];exact e
    ·rcases bf.mp hy with z|z
     ·cases z;exact h3 n c (by simp[jy])
     ·exact h2 y z
    ·cases hb:y==n with
     |true=>exact h3 y c (by rw[jy,hb])
     |false=>exact h3 y d (by rw[jy,hb];exact hd)
   ·obtain⟨cl,e,h1,h2,h3⟩:=ih acc (λy hy=>hp y (aU _ hy)) ha;refine⟨cl,?_,h1,λy hy=>?_,h3⟩
    ·rw[iX];have hb:(k==gQ)=false:=by simpa using hk
     simp only[hb,iN,if_false,pure_bind];exact e
    ·rcases bf.mp hy with z|z
     ·cases z;exact absurd rfl hk
     ·exact h2 y z
 obtain⟨cl,e,h1,h2,_⟩:=key scope.names [] hf (λy c h=>by simp at h);refine⟨cl,?_,h1,h2⟩;unfold closureFor;simp only[bind_pure];exact e
end
noncomputable def Cx.mo(X:Cx)(scope:Scope)(cl:List (Str×aj))(xs:List Str)(C:aj)(s0:ai)(H0:Hp)(fp:List aj)(pins:List (aj×Obj)):Cx:=
 {X with N:=xs++X.N,jH:=s0,xo:=H0,env:=compEnvC scope cl C X.env,outer:=X.stack,ex:=fp,fn:=λ_=>false,pn:=X.pn++pins,xe:=λ_ _=>False}
noncomputable abbrev Cx.comp(X:Cx)(scope:Scope)(cl:List (Str×aj))(x:Str)(C:aj)(s0:ai)(H0:Hp)(fp:List aj)(pins:List (aj×Obj)):Cx:=X.mo scope cl [x] C s0 H0 fp pins
section
variable {X:Cx}{pins:List (aj×Obj)}{σ:St}{H:Hp}{s:ai}{scope:Scope}{cl:List (Str×aj)}{xs:List Str}{C:aj}{fp:List aj}
theorem Inv.Cb(I:Inv X pins σ H s){b:aj}(h1:b≠X.env.locals)(h2:b∉X.fs):b∉oY X.stack:=λhb=>by
 rcases bf.mp (I.FH b hb)with e|e
 ·exact h1 e
 ·exact h2 e
theorem Jv{h4:bS}{tk:Nat}{m0:Str->Option ah}(I:Inv X pins σ H s)(S:jQ X.N X.env.scope scope xs)(sub:∀y c,cl.lookup y=some c->X.env.cells.lookup y=some c)(has:∀y,(y,gQ)∈scope.names->∃c,cl.lookup y=some c)(hk:∀b o,s.heap.get? b=some o->h4.get? b=some o)(hC:s.heap.objs.size<=C)(Ju:h4.Ns C m0)(hf:∀b∈fp,oB X pins H b/\b<s.heap.objs.size):Inv (X.mo scope cl xs C s H fp pins) [] (eC xs.length none++σ) H {s with heap:=h4,toks:=tk}:=by
 have lt:∀{b:aj}{o:Obj},s.heap.get? b=some o->b≠C:=λe=>aZ (bw (aC e) hC)
 refine⟨⟨I.ok.mod,S.kind,I.ok.glob,I.ok.blt,hC,λy z c h1 h2=>I.ok.inj y z c (sub y c h1) (sub z c h2),λy hy=>has y (S.HH (env:=X.env) hy),λy c h=>absurd (show false=true from h) aV,I.ok.hd,I.ok.frames,.inl rfl,
  λb hb=>⟨aZ (bw (hf b hb).2 hC),λy c e=>(hf b hb).1.2.2.2.2.1 y c (sub y c e)⟩,I.bs,aX I.ok.Kw I.sz,λb o e hb=>?_,λb hb=>?_,I.stack,I.B4⟩,
  rfl,I.bare,Un.kept hk,⟨m0,Ju,λi y v e1 e2 e3=>?_⟩,λy c e=>?_,I.dS.fresh hC,λy c e=>I.o9 y c (sub y c e),λp hp=>?_,I.dS.kept hk,by simp[Cx.mo,I.len]⟩
 ·rcases(hf b hb).1.2.2.2.1 with z|z
  ·exact I.ok.Dw b o e z
  ·exact absurd (bw (aC e) (aX I.ok.Kw z)) (i8 _)
 ·exact I.Cb (hf b hb).1.2.1 (hf b hb).1.2.2.1
 ·by_cases hi:i<xs.length
  ·rw[aK (by simpa using hi),Dh,if_pos hi]at e2;cases e2
  ·rw[aP (by simpa using hi),qQ]at e2;have e1':X.N[i - xs.length]?=some y:=by rw[<-e1];exact(aP (AK.mp hi)).symm
   have Lc:=S.outer (env:=X.env) (aI e1') e3;have Ld:=S.HH Lc;have A0:=S.free _ Ld rfl;obtain⟨m,hn,hl⟩:=I.loc;have ZZ:AO X.env.scope y:=by
    rcases A0 with z|z
    ·exact .inr (.inl z)
    ·exact .inr (.inr z)
   obtain⟨u,r,lk⟩:=hl _ y v e1' e2 ZZ;refine⟨u,r,.inr ⟨Lc,?_⟩⟩;obtain⟨c,hc⟩:=has y Ld;have Fu:=sub y c hc;rcases lk with⟨k,_⟩|⟨_,c',e',z⟩
   ·exfalso;have k':X.env.scope.names.lookup y=some .local:=k;rcases A0 with q|q<;>rw[k']at q<;>cases q
   ·rw[Fu]at e';cases e';exact⟨c,hc,z.keeps hk⟩
 ·obtain⟨v,z⟩:=I.cell y c (sub y c e);exact⟨v,z.keeps hk⟩
 ·have SF:p∈X.pn++pins:=by simpa[Cx.mo]using hp
  obtain⟨e,n,ne,nf,d⟩:=I.pin p SF;exact⟨hk _ _ e,n,lt e,I.Cb ne nf,d⟩
end
noncomputable def W6(X:Cx)(ifs:List bc)(tc:TT):Prop:=∀(pins:List (aj×Obj)) (s:ai) (σ:St) (H:Hp) (Q:Bool->Hp->Prop),Inv X pins σ H s->tc σ H Q->
 aH (model X.prog X.w) X.A (forIn ifs true λc r=>if r=true then do let ok <-isTrue c X.env (eval c X.env);pure (jx ok)else pure (jx r)) (λb s'=>∃H',Inv X pins σ H' s'/\Q b H') X.xe s
noncomputable def W7:TT:=λ_ H Q=>Q true H
theorem HI{X:Cx}:W6 X [] W7:=λ_ _ _ H _ I h=>wpAny_tests_nil ⟨H,I,h⟩
theorem HJ{X:Cx}{Jw:bc}{tc:TT}(h:PT X Jw tc):W6 X [Jw] tc:=λp s σ H Q I q=>wpAny_tests_one (h p s σ H Q I q)
noncomputable def mU(tg:TG)(n:Nat)(tc:TT)(te:TE)(σ:St)(J:It)(H1:Hp)(Fin:List V->Hp->Prop):Prop:=
 ∃W:Nat->Nat->List V->Hp->Prop,(∃m,W 0 m [] H1)/\∀i m ys H,W i m ys H->
  (J.stop i H/\ys.length<=av/\Fin ys H)\/(J.go i H/\ys.length<av/\∀v H',J.xq i H v H'->∀us:St,us.length=n->tg v (us++σ) H' λdI H2=>∃Le,Le.length=n/\dI=Le++σ/\tc dI H2 λb H3=>if b=true then ∃N:V->Hp->Prop,(∀y H4,N y H4->∃m',m'<m/\W (i+1) m' (ys++[y]) H4)/\te dI H3 N else ∃m',m'<m/\W (i+1) m' ys H3)
noncomputable abbrev SG(tc:TT):=mU (nV 0) 1 tc
noncomputable abbrev W8:=SG W7
theorem mU.one{σ:St}{v:V}{H:Hp}{Q:St->Hp->Prop}(h:Q (some v::σ) H){us:St}(hu:us.length=1):nV 0 v (us++σ) H λdI H2=>∃Le,Le.length=1/\dI=Le++σ/\Q dI H2:=
 match us,hu with|[_],_=>⟨[some v],rfl,rfl,h⟩
theorem mU.W9{σ us:St}{v:V}{H:Hp}{A B:St->Hp->Prop}(h:A (some v::σ) H)(hu:us.length=1):nV 0 v (us++σ) H λdI H2=>∃Le,Le.length=1/\dI=Le++σ/\W7 dI H2 λb H3=>if b=true then A dI H3 else B dI H3:=
 mU.one (Q:=λdI H2=>W7 dI H2 λb H3=>if b=true then A dI H3 else B dI H3) h hu
section
variable {X:Cx}{pins:List (aj×Obj)}{σ:St}{H:Hp}{s:ai}{scope:Scope}{xs:List Str}{elt iter yC:bc}{ifs:List bc}{pos cI:Pos}{wi:TI}{tg:TG}{tc:TT}{te:TE}{use:Option (ah->Sem Unit)}{Q:ah->ai->Prop}{Fin:List V->Hp->Prop}
theorem yD(hc:X.calm=true)(S:jQ X.N X.env.scope scope xs)(hi:PI X yC iter wi)(hg:∀cl C s0 H0 fp pins,PG (X.mo scope cl xs C s0 H0 fp pins) yC tg)(ht:∀cl C s0 H0 fp pins,W6 (X.mo scope cl xs C s0 H0 fp pins) ifs tc)(he:∀cl C s0 H0 fp pins,PE (X.mo scope cl xs C s0 H0 fp pins) elt te)(I:Inv X pins σ H s)(h:wi σ H λJ H1=>mU tg xs.length tc te σ J H1 Fin)(fin:∀(ys:List V)(H':Hp)(s':ai)(D C:aj)(m:Str->Option ah)(cq:List ah)(n:Nat),Fin ys H'->Inv X pins σ H' s'->oB X pins H' D->ys.length<=av->cX ys cq->s'.heap.get? D=some {cls:=.type "list",data:=.seq cq.toArray n}->
   oB X pins H' C->D≠C->s'.heap.Ns C m->compPost (model X.prog X.w) X.A X.xe use Q (.ref D) C (.ok .next) s')(hs:∀v,dn iter X.env v=pure v:=by intro _;rfl):
  aH (model X.prog X.w) X.A (comprehension (.ListComp elt [⟨yC,iter,ifs,0⟩] scope pos) scope X.env cI (newList []) false (eval iter X.env) use) Q X.xe s:=by
 obtain⟨cl,YY,sub,has⟩:=Gd (scope:=scope) (env:=X.env) (λy hy hy2=>by
  rcases S.free y hy hy2 with z|z
  ·exact I.ok.has y.1 (.inl z)
  ·exact I.ok.has y.1 (.inr z))
 refine wpAny_comprehension_free (g:=⟨yC,iter,ifs,0⟩) (gs:=[]) rfl hs YY S.kind S.names (gb (hi pins s σ H _ I h) λv s1 h1=>gb h1 λR3 s2 h2=>?_);obtain⟨it,fp,tn,J,H2,e,I2,T,yq,f2,W,⟨m0,w0⟩,turn⟩:=h2;subst e;refine dO (wpAny_newFunctionEnv S.La (by intro y hy;simp at hy) (λh4 Ju Ot=>?_) S.kind);dsimp only at Ju Ot ⊢;have Xa:(s2.heap.push {cls:=.type "list",dict:=none,data:=.seq ([]:List ah).toArray}).objs.size=s2.heap.objs.size+1:=eE ..;generalize hG:s2.heap.push {cls:=.type "list",dict:=none,data:=.seq ([]:List ah).toArray}=G at Ju Ot Xa ⊢;have lt:∀{b:aj}{o:Obj},s2.heap.get? b=some o->b<s2.heap.objs.size:=λe=>aC e;have hk:∀b o,s2.heap.get? b=some o->h4.get? b=some o:=λb o e=>Ot.extBut b o (aZ (by rw[Xa];exact je (lt e))) (af _ (hG ▸ af _ e));have hD:h4.get? s2.heap.objs.size=some {cls:=.type "list",data:=.seq ([]:List ah).toArray 0}:=
  Ot.extBut _ _ (aZ (by rw[Xa];exact qA _)) (af _ (hG ▸ aB _ rfl))
 have YZ:∀b∈fp,b<s2.heap.objs.size:=λb hb=>let⟨o,e,_⟩:=T.obj _ _ yq b hb;lt e;have Wa:s2.heap.objs.size≠G.objs.size:=by rw[Xa];exact aZ (qA _)
 have SH:s2.heap.objs.size<=G.objs.size:=by rw[Xa];exact jv _
 let Y:=X.mo scope cl xs G.objs.size s2 H2 fp pins;have I4:Inv Y [] (eC xs.length none++σ) H2 {s2 with heap:=h4,toks:=s2.toks + ([]:List (Str×ah)).length}:=Jv I2 S sub has hk SH Ju λb hb=>⟨f2 b hb,YZ b hb⟩;have vJ:∀{H':Hp} {pl:List (aj×Obj)},(∀b∈fp,H' b=none)->(∀p∈pl,s2.heap.objs.size<=p.1)->∀b∈fp,oB Y pl H' b:=λ{H' pl} hn kY b hb=>by
  obtain⟨f0,f1,f3,f4,f5,f6⟩:=f2 b hb;refine⟨hn b hb,aZ (bw (YZ b hb) SH),I2.Cb f1 f3,.inl hb,λy c e=>f5 y c (sub y c e),λp hp=>?_⟩;rcases bj.mp hp with z|z
  ·exact f6 p z
  ·exactλq=>absurd (YZ b hb) (AK.mpr (by rw[<-q];exact kY p z))
 have Lf:∀{H':Hp},H' s2.heap.objs.size=none->oB Y [] H' s2.heap.objs.size:=λ{H'} hn=>by
  refine⟨hn,Wa,λhb=>?_,.inr (au _),λy c e z=>?_,λp hp z=>?_⟩
  ·exact I2.Cb (dG I2.lt) (I2.WC (au _)) hb
  ·obtain⟨v,q⟩:=I2.cell y c (sub y c e);exact absurd q.lt (by rw[z];exact i8 _)
  ·have SF:p∈X.pn++pins:=by simpa[Y,Cx.mo]using hp
   exact absurd (lt (I2.pin p SF).1) (by rw[z];exact i8 _)
 have ab2:∀{τ:St}{H':Hp}{s':ai}{ob:Obj},Inv Y [] τ H' s'->H' s2.heap.objs.size=none->s'.heap.get? s2.heap.objs.size=some ob->(∀v,ob.data≠.cell v)->Inv Y [(s2.heap.objs.size,ob)] τ H' s':=λ{τ H' s' ob} J0 hn ho hd=>
  J0.rZ λp hp=>by
   have e:p=(s2.heap.objs.size,ob):=by simpa using hp
   subst e;exact⟨ho,hn,(Lf hn).2.1,(Lf hn).2.2.1,hd⟩
 have loop:∀s3:ai,s3={s2 with heap:=h4,toks:=s2.toks + ([]:List (Str×ah)).length}->
   codeAny (model X.prog X.w) X.A (.compLoop (.ListComp elt [⟨yC,iter,ifs,0⟩] scope pos) 0 (.ref it) (.ref s2.heap.objs.size) Y.env)
    (compPost (model X.prog X.w) X.A X.xe use Q (.ref s2.heap.objs.size) G.objs.size) s3:=by
  rintro s3 rfl;refine D9 (λk s'=>∃i ys us H' cq n,us.length=xs.length/\Inv Y [] (us++σ) H' s'/\tn i s'.heap/\(∀b∈fp,H' b=none)/\H' s2.heap.objs.size=none/\cX ys cq/\s'.heap.get? s2.heap.objs.size=some {cls:=.type "list",data:=.seq cq.toArray n}/\W i k ys H') ?_ m0
   ⟨0,[],_,H2,[],0,qQ,I4,T.keep _ _ _ yq λb _ o e=>hk b o e,λb hb=>(f2 b hb).1,I2.dS.fresh (au _),.nil,hD,w0⟩
  rintro k s' ⟨i,ys,us,H',cq,n,hus,I5,Jj,Qm,nD5,Qv,oD5,w5⟩;have N4:=ab2 I5 nD5 oD5 (λv z=>by cases z);have fp5:=vJ (pl:=[(s2.heap.objs.size,{cls:=.type "list",data:=.seq cq.toArray n})]) Qm (λp hp=>by have e:p=_:=aM.mp hp;rw[e];exact au _);rcases turn i k ys H' w5 with⟨stop,hz,qf⟩|⟨go,hz,step⟩
  ·refine bO (T.done Y rfl rfl rfl hc i _ s' _ H' Qu N4 fp5 Jj stop) (λ r s6  zq0=>?_) λ_ _ z=>z;obtain ⟨hr,I6⟩:=zq0;subst hr;show compPost _ _ _ _ _ _ _ _ s6;have oD6:=(I6.pin (s2.heap.objs.size,_) (az _ aE)).1;have nD6:=(I6.pin (s2.heap.objs.size,_) (az _ aE)).2.1;obtain⟨m6,ns6,_⟩:=I6.loc;have I7:Inv X pins σ H' s6:=I2.Qi I6.os I6.base I6.dS I6.bare λb hb=>⟨(f2 b hb).2.2.2.1,(f2 b hb).2.1,(f2 b hb).2.2.2.2.1,(f2 b hb).2.2.2.2.2⟩;exact fin ys H' s6 s2.heap.objs.size G.objs.size m6 cq n qf I7 (I2.oC (au _) nD6) hz Qv oD6 (I2.oC SH I6.free) Wa ns6
  ·refine bO (T.item Y rfl rfl rfl hc i _ s' _ H' Qu N4 fp5 Jj go) (λ r s6  zq0=>?_) λ_ _ z=>z;obtain ⟨u,hr,h6⟩:=zq0;subst hr;show aH _ _ (letOwnedTupleGo yC (.ref it) u) _ _ s6;refine bO h6 (λ _ s7  zq0=>?_) λ_ _ z=>z;obtain ⟨v,H7,I7,r7,y7,SI,fr7⟩:=zq0;have I7':=I7.pinned (vJ (pl:=[(s2.heap.objs.size,{cls:=.type "list",data:=.seq cq.toArray n})]) fr7 (λp hp=>by have e:p=_:=aM.mp hp;rw[e];exact au _)) (T.obj _ _ SI);refine bO (hg cl G.objs.size s2 H2 fp pins _ s7 _ H7 v u _ I7' r7 (step v H7 y7 us hus)) (λ _ s8  zq0=>?_) λ_ _ z=>z;obtain ⟨σ8,H8,I8,Y0,hu8,e8,Xb⟩:=zq0;subst e8;let pl:=[(s2.heap.objs.size,({cls:=.type "list",data:=.seq cq.toArray n}:Obj))]++vH fp s7.heap;have Ou:∀{dI H9 s9},Inv Y pl dI H9 s9->∀b∈fp,∀o,s7.heap.get? b=some o->s9.heap.get? b=some o/\H9 b=none:=λI9 b hb o e=>
    ⟨(I9.pin (b,o) (az _ (az _ (lu hb e)))).1,(I9.pin (b,o) (az _ (az _ (lu hb e)))).2.1⟩
   have Ov:∀{dI H9 s9},Inv Y pl dI H9 s9->s9.heap.get? s2.heap.objs.size=some {cls:=.type "list",data:=.seq cq.toArray n}/\H9 s2.heap.objs.size=none:=λI9=>
    ⟨(I9.pin (s2.heap.objs.size,_) (az _ (bZ _ aE))).1,(I9.pin (s2.heap.objs.size,_) (az _ (bZ _ aE))).2.1⟩
   refine gb (ht cl G.objs.size s2 H2 fp pins _ s8 _ H8 _ I8 Xb) λ b s8'  zq0=>?_;obtain ⟨H8',Wb,HK⟩:=zq0;cases b with
   |false=>
    rw[if_neg aV]at HK ⊢;obtain⟨m',hm,w9⟩:=HK;refine⟨m',hm,i+1,ys,Y0,H8',cq,n,hu8,Wb.rZ λp hp=>absurd hp (by simp),T.keep _ _ _ SI λb hb o e=>(Ou Wb b hb o e).1,λb hb=>?_,(Ov Wb).2,Qv,(Ov Wb).1,w9⟩;obtain⟨o,e,_⟩:=T.obj _ _ SI b hb;exact(Ou Wb b hb o e).2
   |true=>
   rw[if_pos rfl]at HK ⊢;obtain⟨N,hN,Xc⟩:=HK;refine gb (he cl G.objs.size s2 H2 fp pins _ s8' _ H8' _ Wb Xc) λ yu s9  zq0=>?_;obtain ⟨y,H9,I9,r9,n9⟩:=zq0;obtain⟨m',hm,w9⟩:=hN y H9 n9;have oD9:=(Ov I9).1;have nD9:=(Ov I9).2;have hlen:=Qv.length;refine call_meets F.slot_list_append ⟨_,oD9,rfl⟩ F.entry_list_append (F.args_list_append_2 _ _) (PySem.list_append s2.heap.objs.size cq.toArray n yu (by rw[aD];omega)) ⟨oD9,?_⟩;obtain⟨n9,q9⟩:∃n9,(s9.heap.update s2.heap.objs.size (fm λa=>a.push yu)).get? s2.heap.objs.size=some {cls:=.type "list",data:=.seq (cq.toArray.push yu) n9}:=⟨_,Fo oD9 (λa=>a.push yu)⟩;have I9u:Inv Y [] (Y0++σ) H9 s9:=I9.rZ λp hp=>absurd hp (by simp);obtain⟨g0,g1,g2,g3,g4,g5⟩:=Lf nD9;have I10:Inv Y [] (Y0++σ) H9 {s9 with heap:=s9.heap.update s2.heap.objs.size (fm λa=>a.push yu)}:=
    I9u.turned (t':=s9.toks) (λb o hb e=>(cJ s9.heap _ (dz hb)).trans e) g0 g1 g3 g4 g5
   refine⟨m',hm,i+1,ys++[y],Y0,H9,cq++[yu],n9,hu8,I10,T.keep _ _ _ SI λb hb o e=>?_,λb hb=>?_,nD9,Qv.append (.cons r9 .nil),?_,w9⟩
   ·exact(cJ s9.heap _ (dG (YZ b hb))).trans (Ou I9 b hb o e).1
   ·obtain⟨o,e,_⟩:=T.obj _ _ SI b hb;exact(Ou I9 b hb o e).2
   ·rw[show(cq++[yu]).toArray=cq.toArray.push yu by simp];exact q9
 exact codeAny_compStart_list (loop _ rfl) (T.self X.A 0 _ _ _ (T.keep _ _ _ yq λb _ o e=>hk b o e) (loop _ rfl))
end
theorem Ge{lo:Int}{n:Nat}{te:TE}{σ:St}{H1:Hp}{Fin:List V->Hp->Prop}(Pv:Nat->List V->Hp->Prop)(h0:Pv 0 [] H1)(hl:∀i ys H,Pv i ys H->ys.length=i)(hz:n<=av)(hs:∀i ys H,i<n->Pv i ys H->te (some (.int (lo + i))::σ) H λy H2=>Pv (i+1) (ys++[y]) H2)(hd:∀ys H,Pv n ys H->Fin ys H):W8 te σ (Qj lo n) H1 Fin:=by
 refine⟨λi m ys H=>m=n - i/\i<=n/\Pv i ys H,⟨n,by simp,dj _,h0⟩,?_⟩;rintro i m ys H ⟨rfl,hi,p⟩;have hy:=hl i ys H p;by_cases i9:i<n
 ·refine .inr ⟨i9,by omega,λx H' y us hu=>mU.W9 ⟨λz H2=>Pv (i+1) (ys++[z]) H2,λz H2 p'=>⟨n - (i+1),by omega,rfl,i9,p'⟩,?_⟩ hu⟩;obtain⟨e,y⟩:=y;subst e y;exact hs i ys _ i9 p
 ·have e:i=n:=by omega
  subst e;exact .inl ⟨au _,by omega,hd ys H p⟩
noncomputable def Gf(tg:TG)(n:Nat)(tc:TT)(wi:TI)(te:TE):TE:=λσ H Q=>wi σ H λJ H1=>mU tg n tc te σ J H1 λys H2=>∀p,H2 p=none->Q (.ref p) (upd H2 p (.lst ys))
noncomputable def Lg(wi:TI)(tc:TT)(te:TE):TE:=Gf (nV 0) 1 tc wi te
noncomputable def Lh(wi:TI)(te:TE):TE:=Lg wi W7 te
section
variable {X:Cx}{scope:Scope}{x:Str}{xs:List Str}{elt iter yC:bc}{ifs:List bc}{px pos Ow py:Pos}{wi:TI}{tg:TG}{tc:TT}{te:TE}
theorem Inv.A8{pins:List (aj×Obj)}{σ:St}{H:Hp}{s:ai}{C:aj}{h':bS}(I:Inv X pins σ H s)(f:oB X pins H C)(hs:gx C s.heap h'):Inv X pins σ H {s with heap:=h'}:=
 I.turned (t':=s.toks) (λb o hb e=>(hs.2 b hb).trans e) f.1 f.2.1 f.2.2.2.1 f.2.2.2.2.1 f.2.2.2.2.2
theorem Ea(hc:X.calm=true)(S:jQ X.N X.env.scope scope xs)(hi:PI X yC iter wi)(hg:∀cl C s0 H0 fp pins,PG (X.mo scope cl xs C s0 H0 fp pins) yC tg)(ht:∀cl C s0 H0 fp pins,W6 (X.mo scope cl xs C s0 H0 fp pins) ifs tc)(he:∀cl C s0 H0 fp pins,PE (X.mo scope cl xs C s0 H0 fp pins) elt te)(hs:∀v,dn iter X.env v=pure v):PE X (.ListComp elt [⟨yC,iter,ifs,0⟩] scope pos) (Gf tg xs.length tc wi te):=by
 intro pins s σ H Q I h;rw[eval_ListComp];refine yD (use:=none) hc S hi hg ht he I h (λys H' s' D C m cq n q I' fD hz rv oD fC Wa Ju=>?_) hs;refine⟨m,Ju,λh' Ot=>?_⟩;have I2:=I'.A8 fC Ot;have oD':h'.get? D=some {cls:=.type "list",data:=.seq cq.toArray n}:=(Ot.2 D Wa).trans oD;exact⟨.ref D,_,I2.adopt (o:=.lst ys) fD ⟨hz,cq,n,rv,oD'⟩,rfl,q D fD.1⟩
theorem wV{i:Nat}{y:Str}(hc:X.calm=true)(S:jQ X.N X.env.scope scope xs)(hN:X.N.Nodup)(hy:X.N[i]?=some y)(hl:X.env.scope.names.lookup y=some .local)(hi:PI X yC iter wi)(hg:∀cl C s0 H0 fp pins,PG (X.mo scope cl xs C s0 H0 fp pins) yC tg)(ht:∀cl C s0 H0 fp pins,W6 (X.mo scope cl xs C s0 H0 fp pins) ifs tc)(he:∀cl C s0 H0 fp pins,PE (X.mo scope cl xs C s0 H0 fp pins) elt te)(Gg:dF (.ListComp elt [⟨yC,iter,ifs,0⟩] scope pos) (some (.Name y py)) Ow.line X.env=pure true)(hs:∀v,dn iter X.env v=pure v):
  PS X (.Assign [.Name y py] (.ListComp elt [⟨yC,iter,ifs,0⟩] scope pos) Ow) (N2 (Gf tg xs.length tc wi te) (nV i)):=by
 intro pins s σ H D I h;rw[exec_Assign_Name_used _ _ _ _ Gg];refine ae (wpAny_standAt (ae ?_));show aH _ X.A (do let _ <-comprehension (.ListComp elt [⟨yC,iter,ifs,0⟩] scope pos) scope X.env _ (newList []) false (eval iter X.env) (some (assign (.Name y py) X.env))) _ _ s;refine ae (bO (yD (use:=some (assign (.Name y py) X.env)) (Q:=λ_ s'=>SP X pins D .next s') hc S hi hg ht he I h (λys H' s' E C m cq n q I' fD hz rv oD fC Wa Ju=>?_) hs) (λ_ s' hq=>ax (ax hq)) λ_ _ z=>z);show aH _ _ (assign (.Name y py) X.env (.ref E)) _ _ s';have I2:Inv X pins σ (upd H' E (.lst ys)) s':=I'.adopt (o:=.lst ys) fD ⟨hz,cq,n,rv,oD⟩;refine wpAny_assign_Name (AQ (v:=.ref E) I2 hN hy (.inl hl) rfl (λ s2 I3  zq0=>?_) (.inr hl));obtain ⟨a,sb,ha⟩:=zq0;have hCa:C≠a:=by
  rcases ha with z|z
  ·rw[z];exact fC.2.1
  ·exactλw=>fC.2.2.2.2.1 y a z w.symm
 refine⟨m,Ju.sameBut sb hCa,λh' Ot=>?_⟩;have fC':oB X pins (upd H' E (.lst ys)) C:=⟨by rw[bP (dz Wa)];exact fC.1,fC.2⟩;exact⟨_,_,I3.A8 fC' Ot,q E fD.1⟩
theorem jQ.pg(S:oG X.N X.env.scope scope x)(cl:List (Str×aj))(C:aj)(s0:ai)(H0:Hp)(fp:List aj)(pins:List (aj×Obj)):PG (X.comp scope cl x C s0 H0 fp pins) (.Name x px) (nV 0):=
 i5 (i:=0) S.nd rfl (.inl (lookup_relabel_local (ny S.own).1)) (.inr (lookup_relabel_local (ny S.own).1))
theorem Ox(hc:X.calm=true)(S:oG X.N X.env.scope scope x)(hi:PI X (.Name x px) iter wi)(he:∀cl C s0 H0 fp pins,PE (X.comp scope cl x C s0 H0 fp pins) elt te)(hs:∀v,dn iter X.env v=pure v:=by intro _;rfl):PE X (.ListComp elt [⟨.Name x px,iter,[],0⟩] scope pos) (Lh wi te):=Ea hc S hi S.pg (λ_ _ _ _ _ _=>HI) he hs
theorem Gh{i:Nat}{y:Str}(hc:X.calm=true)(S:oG X.N X.env.scope scope x)(hN:X.N.Nodup)(hy:X.N[i]?=some y)(hl:X.env.scope.names.lookup y=some .local)(hi:PI X (.Name x px) iter wi)(he:∀cl C s0 H0 fp pins,PE (X.comp scope cl x C s0 H0 fp pins) elt te)(Gg:dF (.ListComp elt [⟨.Name x px,iter,[],0⟩] scope pos) (some (.Name y py)) Ow.line X.env=pure true)(hs:∀v,dn iter X.env v=pure v:=by intro _;rfl):
  PS X (.Assign [.Name y py] (.ListComp elt [⟨.Name x px,iter,[],0⟩] scope pos) Ow) (N2 (Lh wi te) (nV i)):=wV hc S hN hy hl hi S.pg (λ_ _ _ _ _ _=>HI) he Gg hs
end
mutual
noncomputable def Rep(K:aa)(H:Hp):aq->V->Prop
 |.none,v=>v = .ip
 |.bool b,v=>v = .bl b
 |.int i,v=>v = .int i
 |.str x,v=>v = .str x
 |.tuple ds,v=>∃a vs,v = .ref a/\fF K H a vs/\bB K H ds vs
 |.list ds,v=>∃a o vs,v = .ref a/\H a=some (.pS o (.lst vs))/\bB K H ds vs
 |.dict bh,v=>∃a C dx fs,v = .ref a/\H a=some (.ins C dx fs)/\Cc K H bh ((("":Str),V.int ((C:Nat):Int))::fs)
noncomputable def bB(K:aa)(H:Hp):List aq->List V->Prop
 |[],vs=>vs=[]
 |d::ds,vs=>∃v r,vs=v::r/\Rep K H d v/\bB K H ds r
noncomputable def Cc(K:aa)(H:Hp):List (aq×aq)->List (Str×V)->Prop
 |[],vs=>vs=[]
 |(k,d)::ds,vs=>∃g v r,vs=(g,v)::r/\k = .str g/\Rep K H d v/\Cc K H ds r
end
structure bq(K:aa)(H H':Hp):Prop where
 tup:∀a xs,fF K H a xs->fF K H' a xs
 pS:∀a o xs,H a=some (.pS o (.lst xs))->H' a=some (.pS o (.lst xs))
 ins:∀a C dx fs,H a=some (.ins C dx fs)->H' a=some (.ins C dx fs)
instance {K:aa}{H H':Hp}:CoeFun (bq K H H') (λ_=>∀a xs,fF K H a xs->fF K H' a xs):=⟨bq.tup⟩
theorem bq.of_keep{K:aa}{H H':Hp}(e:∀b o,H b=some o->(∀xs,o≠.lst xs)->(∀bh,o≠.dK bh)->(∀bh,o≠.dT bh)->H' b=some o):bq K H H':=
 ⟨λa xs h=>by
  rcases h with(h|⟨o,h⟩)|h
  ·exact .inl (.inl (e _ _ h (λ_ z=>nomatch z) (λ_ z=>nomatch z) (λ_ z=>nomatch z)))
  ·exact .inl (.inr ⟨o,e _ _ h (λ_ z=>nomatch z) (λ_ z=>nomatch z) (λ_ z=>nomatch z)⟩)
  ·exact .inr h,λa o xs h=>e _ _ h (λ_ z=>nomatch z) (λ_ z=>nomatch z) (λ_ z=>nomatch z),λa C dx fs h=>e _ _ h (λ_ z=>nomatch z) (λ_ z=>nomatch z) (λ_ z=>nomatch z)⟩
theorem bq.refl{K:aa}(H:Hp):bq K H H:=.of_keep λ_ _ h _ _ _=>h
theorem bq.trans{K:aa}{H H1 H2:Hp}(a:bq K H H1)(b:bq K H1 H2):bq K H H2:=⟨λc xs h=>b.tup c xs (a.tup c xs h),λc o xs h=>b.pS c o xs (a.pS c o xs h),λc C dx fs h=>b.ins c C dx fs (a.ins c C dx fs h)⟩
theorem bq.of_same{K:aa}{H H':Hp}(e:bK H H'):bq K H H':=.of_keep λb o h _ _ _=>e b o h
noncomputable def SameBut(p:aj)(H H':Hp):Prop:=∀b o,b≠p->H b=some o->H' b=some o
theorem SameBut.of_same{p:aj}{H H':Hp}(e:bK H H'):SameBut p H H':=λb o _ h=>e b o h
theorem SameBut.trans{p:aj}{H H1 H2:Hp}(a:SameBut p H H1)(b:SameBut p H1 H2):SameBut p H H2:=λc o n h=>b c o n (a c o n h)
theorem SameBut.upd{p:aj}{H:Hp}(o:HO):SameBut p H (upd H p o):=λb u n h=>by rw[bP n];exact h
theorem SameBut.tup{K:aa}{p:aj}{H H':Hp}{xs:List V}(e:SameBut p H H')(hp:H p=some (.lst xs)):bq K H H':=.of_keep λb o h n _ _=>e b o (λz=>by rw[z,hp]at h;cases h;exact n _ rfl) h
theorem bu{H:Hp}{p:aj}(h:H p=none)(o:HO):bK H (upd H p o):=λb u q=>by rw[bP (cn q h)];exact q
section
variable {K:aa}{H H':Hp}
mutual
theorem Rep.mono(e:bq K H H'):∀(d:aq)(v:V),Rep K H d v->Rep K H' d v
 |.none,v,h=>by rw[Rep]at h ⊢;exact h
 |.bool _,v,h=>by rw[Rep]at h ⊢;exact h
 |.int _,v,h=>by rw[Rep]at h ⊢;exact h
 |.str _,v,h=>by rw[Rep]at h ⊢;exact h
 |.tuple ds,v,h=>by
  rw[Rep]at h ⊢;obtain⟨a,vs,e1,e2,e3⟩:=h;exact⟨a,vs,e1,e.tup a vs e2,bB.mono e ds vs e3⟩
 |.list ds,v,h=>by
  rw[Rep]at h ⊢;obtain⟨a,o,vs,e1,e2,e3⟩:=h;exact⟨a,o,vs,e1,e.pS a o vs e2,bB.mono e ds vs e3⟩
 |.dict bh,v,h=>by
  rw[Rep]at h ⊢;obtain⟨a,C,dx,fs,e1,e2,e3⟩:=h;exact⟨a,C,dx,fs,e1,e.ins a C dx fs e2,Cc.mono e bh _ e3⟩
theorem bB.mono(e:bq K H H'):∀(ds:List aq)(vs:List V),bB K H ds vs->bB K H' ds vs
 |[],vs,h=>by rw[bB]at h ⊢;exact h
 |d::ds,vs,h=>by
  rw[bB]at h ⊢;obtain⟨v,r,e1,e2,e3⟩:=h;exact⟨v,r,e1,Rep.mono e d v e2,bB.mono e ds r e3⟩
theorem Cc.mono(e:bq K H H'):∀(ds:List (aq×aq)) (vs:List (Str×V)),Cc K H ds vs->Cc K H' ds vs
 |[],vs,h=>by rw[Cc]at h ⊢;exact h
 |(k,d)::ds,vs,h=>by
  rw[Cc]at h ⊢;obtain⟨g,v,r,e1,e2,e3,e4⟩:=h;exact⟨g,v,r,e1,e2,Rep.mono e d v e3,Cc.mono e ds r e4⟩
end
theorem bB.length:∀{ds:List aq}{vs:List V},bB K H ds vs->vs.length=ds.length
 |[],vs,h=>by rw[bB]at h;rw[h];rfl
 |d::ds,vs,h=>by
  rw[bB]at h;obtain⟨v,r,e1,_,e3⟩:=h;rw[e1,aY,aY,bB.length e3]
theorem bB.get:∀{ds:List aq}{vs:List V}{i:Nat}{d:aq},bB K H ds vs->ds[i]?=some d->∃v,vs[i]?=some v/\Rep K H d v
 |[],vs,i,d,h,e=>by simp at e
 |x::ds,vs,0,d,h,e=>by
  rw[bB]at h;obtain⟨v,r,e1,e2,_⟩:=h;simp at e;subst e e1;exact⟨v,rfl,e2⟩
 |x::ds,vs,i+1,d,h,e=>by
  rw[bB]at h;obtain⟨v,r,e1,_,e3⟩:=h;subst e1;obtain⟨u,h1,h2⟩:=bB.get (i:=i) (d:=d) e3 (by simpa using e);exact⟨u,by simpa using h1,h2⟩
theorem bB.append:∀{ds es:List aq}{vs ws:List V},bB K H ds vs->bB K H es ws->bB K H (ds++es) (vs++ws)
 |[],es,vs,ws,h,h'=>by rw[bB]at h;rw[h];exact h'
 |d::ds,es,vs,ws,h,h'=>by
  rw[bB]at h;obtain⟨v,r,e1,e2,e3⟩:=h;subst e1;rw[cV,cV,bB];exact⟨v,r++ws,rfl,e2,bB.append e3 h'⟩
theorem bB.one{d:aq}{v:V}(h:Rep K H d v):bB K H [d] [v]:=by
 rw[bB];exact⟨v,[],rfl,h,by rw[bB]⟩
theorem bB.nil:bB K H [] []:=by rw[bB]
theorem bB.cons{d:aq}{ds:List aq}{v:V}{vs:List V}(h:Rep K H d v)(t:bB K H ds vs):bB K H (d::ds) (v::vs):=by
 rw[bB];exact⟨v,vs,rfl,h,t⟩
theorem bB.split{d:aq}{ds:List aq}{vs:List V}(h:bB K H (d::ds) vs):∃v r,vs=v::r/\Rep K H d v/\bB K H ds r:=by rw[bB]at h;exact h
theorem bB.take:∀{ds:List aq}{vs:List V}(n:Nat),bB K H ds vs->bB K H (ds.take n) (vs.take n)
 |[],vs,n,h=>by rw[bB]at h;rw[h];simp;exact .nil
 |d::ds,vs,0,h=>by simp;exact .nil
 |d::ds,vs,n+1,h=>by
  obtain⟨v,r,e1,e2,e3⟩:=h.split;subst e1;rw[jF,jF];exact .cons e2 (bB.take n e3)
theorem bB.drop:∀{ds:List aq}{vs:List V}(n:Nat),bB K H ds vs->bB K H (ds.drop n) (vs.drop n)
 |[],vs,n,h=>by rw[bB]at h;rw[h];simp;exact .nil
 |d::ds,vs,0,h=>by simpa using h
 |d::ds,vs,n+1,h=>by
  obtain⟨v,r,e1,e2,e3⟩:=h.split;subst e1;rw[tK,tK];exact bB.drop n e3
theorem bB.reverse{ds:List aq}{vs:List V}(h:bB K H ds vs):bB K H ds.reverse vs.reverse:=by
 induction ds generalizing vs with
 |nil=>rw[bB]at h;rw[h];exact .nil
 |cons d ds ih=>
  obtain⟨v,r,e1,e2,e3⟩:=h.split;subst e1;rw[dD,dD];exact(ih e3).append (.one e2)
theorem Rep.tuple{ds:List aq}{a:aj}{vs:List V}(h:fF K H a vs)(r:bB K H ds vs):Rep K H (.tuple ds) (.ref a):=by
 rw[Rep];exact⟨a,vs,rfl,h,r⟩
theorem Rep.fz{ds:List aq}{v:V}(h:Rep K H (.tuple ds) v):∃a vs,v = .ref a/\fF K H a vs/\bB K H ds vs:=by rw[Rep]at h;exact h
theorem Rep.int(i:Int):Rep K H (.int i) (.int i):=by rw[Rep]
theorem Rep.str(x:Str):Rep K H (.str x) (.str x):=by rw[Rep]
theorem Rep.bool(b:Bool):Rep K H (.bool b) (.bl b):=by rw[Rep]
theorem Rep.ip:Rep K H .none .ip:=by rw[Rep]
theorem Rep.cP{i:Int}{v:V}(h:Rep K H (.int i) v):v = .int i:=by rw[Rep]at h;exact h
theorem Rep.cY{x:Str}{v:V}(h:Rep K H (.str x) v):v = .str x:=by rw[Rep]at h;exact h
theorem Rep.is_bool{b:Bool}{v:V}(h:Rep K H (.bool b) v):v = .bl b:=by rw[Rep]at h;exact h
theorem Rep.vR{v:V}(h:Rep K H .none v):v = .ip:=by rw[Rep]at h;exact h
end
section
variable {X:Cx}{pins:List (aj×Obj)}{σ:St}{H:Hp}{s:ai}
mutual
theorem Inv.reads(I:Inv X pins σ H s):∀(d:aq)(v:V)(u:ah),Rep X.K H d v->RelV v u->d.canLay0=true->∃as,Reads s.heap u d as
 |.none,v,u,h,r,_=>by rw[Rep]at h;subst h;cases r;exact⟨_,.none⟩
 |.bool b,v,u,h,r,_=>by rw[Rep]at h;subst h;cases r;exact⟨_,.bool b⟩
 |.int i,v,u,h,r,_=>by rw[Rep]at h;subst h;obtain⟨t,rfl⟩:=r;exact⟨_,.int i t⟩
 |.str x,v,u,h,r,_=>by rw[Rep]at h;subst h;obtain⟨t,rfl⟩:=r;exact⟨_,.str x t⟩
 |.tuple ds,v,u,h,r,c=>by
  rw[Rep]at h;obtain⟨a,vs,e1,e2,e3⟩:=h;subst e1;cases r;obtain⟨cq,rv,⟨o,ho,hc,n,hd⟩,_⟩:=I.tuple e2;obtain⟨as,ra⟩:=Inv.readsAll I ds vs cq e3 rv (by simpa[ky]using c);exact⟨as,.tuple ho hc hd (by simpa using ra)⟩
 |.list ds,v,u,h,r,c=>by
  rw[Rep]at h;obtain⟨a,o0,vs,e1,e2,e3⟩:=h;subst e1;cases r;obtain⟨cq,rv,⟨o,n,ho,hc,_,hd⟩,_⟩:=I.list (.inl (.inr ⟨o0,e2⟩));obtain⟨as,ra⟩:=Inv.readsAll I ds vs cq e3 rv (by simpa[ky]using c);exact⟨a::as,.list ho hc hd (by simpa using ra)⟩
 |.dict _,v,u,h,r,c=>by simp[ky]at c
theorem Inv.readsAll(I:Inv X pins σ H s):∀(ds:List aq)(vs:List V)(us:List ah),bB X.K H ds vs->cX vs us->nQ ds=true->∃as,ReadsAll s.heap us ds as
 |[],vs,us,h,r,_=>by rw[bB]at h;subst h;cases r;exact⟨_,.nil⟩
 |d::ds,vs,us,h,r,c=>by
  rw[bB]at h;obtain⟨v,w,e1,e2,e3⟩:=h;subst e1;rw[nQ,iB]at c;cases r with
  |cons r1 r2=>
   obtain⟨as,ra⟩:=Inv.reads I d v _ e2 r1 c.1;obtain⟨bs,rb⟩:=Inv.readsAll I ds w _ e3 r2 c.2;exact⟨_,.cons ra rb⟩
end
noncomputable def Oy(K:aa)(H:Hp)(d:aq)(v:V):Prop:=match d with
 |.list ds=>∃a vs,v = .ref a/\fU K H a vs/\bB K H ds vs
 |d=>Rep K H d v
theorem Inv.Li(I:Inv X pins σ H s){d:aq}{v:V}{u:ah}(h:Oy X.K H d v)(r:RelV v u)(c:d.canLay0=true):∃as,Reads s.heap u d as:=by
 cases d with
 |list ds=>
  obtain⟨a,vs,e1,e2,e3⟩:=h;subst e1;cases r;obtain⟨cq,rv,⟨o,n,ho,hc,_,hd⟩,_⟩:=I.list e2;obtain⟨as,ra⟩:=I.readsAll ds vs cq e3 rv (by simpa[ky]using c);exact⟨a::as,.list ho hc hd (by simpa using ra)⟩
 |_=>exact I.reads _ v u h r c
noncomputable def ab3(K:aa)(n:Nat):R2:=λx y H Q=>∃d e,Oy K H d x/\Oy K H e y/\d.canLay0=true/\e.canLay0=true/\(d.depth<=n\/e.depth<=n)/\Q (.bl (tO d e)) H
theorem Lj{n:Nat}(hu:X.A.units + n<cLine):uB X (compareOp .Eq) (ab3 X.K n):=by
 intro pins s σ H x y v u Q I rx ry h;obtain⟨d,e,hd,he,cd,ce,hn,q⟩:=h;obtain⟨as,ra⟩:=I.Li hd rx cd;obtain⟨bs,rb⟩:=I.Li he ry ce;exact SeqAt.compareEq_reads ra rb cd ce (by omega) ⟨.bl _,H,I,rfl,q⟩
end
noncomputable def Cd(K:aa):R2:=λx y H Q=>∃a b xs ys,x = .ref a/\y = .ref b/\fF K H a xs/\fF K H b ys/\xs.length + ys.length<=av/\
 (xs=[]->Q (.ref b) H)/\(xs≠[]->ys=[]->Q (.ref a) H)/\(xs≠[]->ys≠[]->∀p,H p=none->Q (.ref p) (upd H p (.tup (xs++ys))))
section
variable {X:Cx}
theorem rg:uB X (binaryOp .Add) (Cd X.K):=by
 intro pins s σ H x y v u Q I rx ry h;obtain⟨a,b,xs,ys,rfl,rfl,ha,hb,hz,q0,q1,q2⟩:=h;by_cases hx:xs=[]
 ·cases rx;cases ry;obtain⟨cq,r1,⟨⟨cls,dd,data,sl⟩,ho,hc,n,hd⟩,_⟩:=I.tuple ha;obtain⟨sR,r2,⟨⟨Z9,V7,data2,YS⟩,Sn,Dl,n2,hd2⟩,_⟩:=I.tuple hb;simp only at hc hd Dl hd2;subst hc hd Dl hd2;have e0:cq=[]:=r1.xV.mpr hx;exact concat_meets ⟨_,ho,rfl⟩ ⟨_,Sn,rfl⟩ noFill_tuple_add seq_tuple_add pJ oT (nP _ _)
   (tuple_addW0 a b cq.toArray sR.toArray n n2 dd V7 sl YS (by simp[e0])) ⟨ho,Sn,⟨.ref b,H,I,rfl,q0 hx⟩⟩
 ·exact Od pins s σ H (.ref a) (.ref b) v u Q I rx ry ⟨a,b,xs,ys,rfl,rfl,ha,hb,hx,hz,q1 hx,q2 hx⟩
theorem Eb{K:aa}{H:Hp}{a b:aj}{xs ys:List V}{Q:VK}(ha:fF K H a xs)(hb:fF K H b ys)(hz:xs.length + ys.length<=av)(q:∀(c:aj)(H':Hp),bK H H'->fF K H' c (xs++ys)->Q (.ref c) H'):Cd K (.ref a) (.ref b) H Q:=
 ⟨a,b,xs,ys,rfl,rfl,ha,hb,hz,λe=>q b H (bK.refl H) (by rw[e];exact hb),λ_ e=>q a H (bK.refl H) (by rw[e,cf];exact ha),λ_ _ p hp=>q p _ (bu hp _) (fF.of aW)⟩
theorem Oz:uB X (binaryOp .Mult) (λx y H Q=>∃z n,x = .str z/\y = .int n/\0<z.length/\1<n/\n<=1000/\z.length<=1000/\Q (.str (Txt.mul z n)) H):=by
 intro pins s σ H x y v u Q I rx ry h;obtain⟨z,n,rfl,rfl,h0,h1,h2,h3,q⟩:=h;obtain⟨t,rfl⟩:=rx;obtain⟨t',rfl⟩:=ry;have hb:(z.length:Int) * n<=1000000:=by
  have a1:(z.length:Int)<=1000:=by omega
  have a2:(z.length:Int) * n<=1000 * n:=Int.mul_le_mul_of_nonneg_right a1 (by omega);omega
 refine SB.mul ⟨?_,λ_ _ hh=>?_,λ_ _=>?_⟩ λt' k=>⟨.str _,H,I.tok _,⟨_,rfl⟩,q⟩
 ·rw[decide_eq_false (by omega),decide_eq_false (by omega)];rfl
 ·have:(2 ^ 63 - 1:Int) / n>=1000:=by
   rw[ge_iff_le,Int.le_ediv_iff_mul_le (by omega)];omega
  omega
 ·show An _=false;unfold An;refine decide_eq_false ?_;have e:((z.length * n.toNat:Nat):Int)=(z.length:Int) * n:=by rw[Int.natCast_mul,mQ (by omega)]
  have hs:av=16777216:=cU;omega
inductive Qw(K:aa)(H:Hp):V->ah->Prop where
 |of {x:V} {t:ah} (h:vL K H x t):Qw K H x t
 |sqT {a:aj} {xs:List V} (h:fF K H a xs):Qw K H (.ref a) (.type "tuple")
 |Y1 {a:aj} {xs:List V} (h:fU K H a xs):Qw K H (.ref a) (.type "list")
theorem Ec:mS X (.builtin "isinstance") (λxs H Q=>∃x T t b,xs=[x,.ty T]/\Qw X.K H x t/\gA X.K t (.type T)=some b/\Q (.bl b) H):=by
 intro pins s σ H xs us Q I r h;obtain⟨x,T,t,b,rfl,ty,e,q⟩:=h;obtain⟨u,w',rfl,rx,rt⟩:=vals2 r;cases rt;cases ty with
 |of ty=>exact AU I rx ty e λtk=>⟨.bl b,H,I.tok _,rfl,q⟩
 |sqT hq=>
  cases rx;obtain⟨cq,_,⟨o,h1,h2,_⟩,_⟩:=I.tuple hq;exact cT sY I.uA ⟨o,h1,h2⟩ e (λz=>nomatch z) λtk=>⟨.bl b,H,I.tok _,rfl,q⟩
 |Y1 hq=>
  cases rx;obtain⟨cq,_,⟨o,n,h1,h2,_⟩,_⟩:=I.list hq;exact cT nC I.uA ⟨o,h1,h2⟩ e (λz=>nomatch z) λtk=>⟨.bl b,H,I.tok _,rfl,q⟩
noncomputable def ab4(K:aa):List V->Hp->VK->Prop:=λxs H Q=>∃x T t b,xs=[x,.ty T]/\Qw K H x t/\gA K t (.type T)=some b/\Q (.bl b) H
theorem A9{e:bc}{te:TE}{x:Str}{T:String}{p p2 pos:Pos}(hg:Gl X "isinstance")(hm:X.mg "isinstance"=none)(Xd:Gl X x)(Xe:X.mg x=none)(hv:bootBuiltins x=some (.type T))(he:PE X e te)(hn:x≠"__name__":=by decide)(hd:(x==("__debug__":Str))=false:=by decide)(hs:ao [e,.Name x p2] X.env=(false,eval e X.env)::ao [.Name x p2] X.env:=by rfl):
  PE X (.Call (.Name "isinstance" p) [e,.Name x p2] [] pos) (Z8 (ab4 X.K) (DY te (DY (tC (.ty T)) Sh))):=
 gf (Ec (X:=X)) hg hm boot_isinstance (aO he (aO (N0 Xd Xe hv rfl hn hd) bD) hs) (by decide) (by decide) hs
end
section
variable {prog:aR}{w:bH}{A:cj}{E:ah->ai->Prop}{s:ai}
open AutoSeq1 (wpAny_loadPart')
theorem xu{it t:aj}{i:Nat}{items:Array ah}{x:ah}{Q:ah->ai->Prop}(hit:s.heap.IsTupleIter it t i)(ht:s.heap.IsTuple t items)(hx:items[i]?=some x)(hQ:∀h',h'.IsTupleIter it t (i+1)->gx it s.heap h'->Q x {s with heap:=h'}):aH (model prog w) A (cB (.ref it)) Q E s:=by
 obtain⟨oi,Lk,Qx,OA⟩:=id hit;obtain⟨ot,hot,_,nt,hdt⟩:=ht;unfold cB;refine ae (ff (name:=fk "__next__") hit.typeIs jC (fg jC hit.typeIs BX ?_ (AL _)));show aH _ _ (field (.ref it) 0 >>= _) _ _ _;refine ae (df Lk OA (x:=.ref t) rfl ?_);show aH _ _ (if(cO t==dZ)=true then _ else _) _ _ _;rw[if_neg (show ¬((cO t==dZ)=true) by exact aV)];show aH _ _ (field (.ref it) 1 >>= _) _ _ _;refine ae (df Lk OA (x:=.int i 0) rfl ?_);show aH _ _ (seqItems? (.ref t) >>= _) _ _ _;refine ae (gj hot hdt ?_);simp only[gc,hx];refine ae (Fp Lk OA (by simp) (ax ⟨x,rfl,ax (hQ _ ?_ (pO ..))⟩));exact⟨_,ez _ Lk (Obj.isFreed_of_fields (Obj.data_mapFields OA _)),(Obj.cls_mapFields ..).trans Qx,by rw[Obj.data_mapFields OA];simp[rawInt]⟩
theorem yE{it t:aj}{i:Nat}{items:Array ah}{Q:ah->ai->Prop}(hh:A.handled=none)(hit:s.heap.IsTupleIter it t i)(ht:s.heap.IsTuple t items)(hx:items[i]?=none)(hE:∀h' e,Heap.ExtBut it s.heap h'->(∃o,h'.get? e=some o/\o.cls = .type "StopIteration")->E (.ref e) {s with heap:=h'}):aH (model prog w) A (cB (.ref it)) Q E s:=by
 obtain⟨oi,Lk,Qx,OA⟩:=id hit;obtain⟨ot,hot,_,nt,hdt⟩:=ht;unfold cB;refine ae (ff (name:=fk "__next__") hit.typeIs jC (fg jC hit.typeIs BX ?_ (AL _)));show aH _ _ (field (.ref it) 0 >>= _) _ _ _;refine ae (df Lk OA (x:=.ref t) rfl ?_);show aH _ _ (if(cO t==dZ)=true then _ else _) _ _ _;rw[if_neg (show ¬((cO t==dZ)=true) by exact aV)];show aH _ _ (field (.ref it) 1 >>= _) _ _ _;refine ae (df Lk OA (x:=.int i 0) rfl ?_);show aH _ _ (seqItems? (.ref t) >>= _) _ _ _;refine ae (gj hot hdt ?_);simp only[gc,hx];refine ae (pK (ae (Fp Lk OA (by simp) ?_)));show aH _ _ (newExc (.type "StopIteration") [] >>= _) _ _ _;refine ae ?_;simp only[newExc,newTuple];refine ae (dO ?_ (by size_fits));refine ae (m:=firstArgMember _ _) (wpAny_of_eq (a:=dZ) (by first|rfl|(simp only[firstArgMember];rfl)) ?_);refine dO ?_ (by size_fits);simp only[raiseNew];refine ae (wpAny_handled ?_)
 first|rw[show A.in1.handled=none from hh]|rw[hh]
 exact ae (ax (wpAny_throw (hE _ _ (((pO ..).extBut.push _).push _) ⟨_,aB _ rfl,rfl⟩)))
end
theorem Ba{prog:aR}{w:bH}{A:cj}(hh:A.handled=none)(it t:aj)(Jx:t≠it)(items:Array ah):
  Draws prog w A it [it,t] items.size (λi v=>items[i]?=some v) (λi h=>h.IsTupleIter it t i/\h.IsTuple t items) where
 live:=λ_ _ st=>let⟨o,ho,_⟩:=st.1;⟨o,ho⟩
 frame:=λ_ _ _ st hk=>⟨let⟨o,ho,r⟩:=st.1;⟨o,hk it (by simp) o ho,r⟩,let⟨o,ho,r⟩:=st.2;⟨o,hk t (by simp) o ho,r⟩⟩
 item:=λi s Q E hi st hQ=>xu st.1 st.2 (x:=items[i]) (by simp[hi]) λh' h1 h2=>hQ _ h' s.toks (by simp[hi]) ⟨h1,st.2.extBut h2.extBut Jx⟩ h2
 done:=λs Q E st hE=>yE hh st.1 st.2 (by simp) hE
section
open AutoSeq1 (wpAny_loadPart')
theorem yF(l:aj)(items:Array ah)(n:Nat)(Y2:Option aj)(sl:Array (Option ah)):
  Meets (Builtin.«enumerate.__new__» ⟨[.type "enumerate",.ref l],[]⟩) (λ_ R s=>s.heap.get? l=some {cls:=.type "tuple",dict:=Y2,data:=.seq items n,slots:=sl}/\
   R (.ok (.ret (.ref (s.heap.push {cls:=.type "tuple_iterator",data:=.fields #[.ref l,.int 0 0]}).objs.size)))
    {s with heap:=(s.heap.push {cls:=.type "tuple_iterator",data:=.fields #[.ref l,.int 0 0]}).push {cls:=.type "enumerate",data:=.fields #[.none,.bool false,.ref s.heap.objs.size,rawInt 0,.none,.none]}}):=
 .of_wp λprog w A R s h=>by
  obtain⟨hp,g,d,tk,os⟩:=s;obtain⟨hl,h⟩:=h;have Xf:=sub_enumerate;have hL:vB (qS ⟨hp,g,d,tk,os⟩) l items:=⟨_,hl,rfl,n,rfl⟩
  wp_walk using tP hl
  refine wpAny_stack_any λst=>ax ?_;split
  ·rename_i c _ _ _ _ _;cases(c==jk "enumerate")
   ·wp_walk using tP hl,gY hL
    exact⟨_,rfl,h⟩
   ·wp_walk using tP hl,gY hL
    exact⟨_,rfl,h⟩
  ·wp_walk using tP hl,gY hL
   exact⟨_,rfl,h⟩
theorem Ay{prog:aR}{w:bH}{A:cj}{E:ah->ai->Prop}{s:ai}{l:aj}{items:Array ah}{Q:ah->ai->Prop}(hL:s.heap.IsTuple l items)(h:∀h',IsEnum h' (s.heap.objs.size+1) s.heap.objs.size 0 .none->h'.IsTupleIter s.heap.objs.size l 0->h'.objs.size=s.heap.objs.size+2->(∀b o,s.heap.get? b=some o->h'.get? b=some o)->
   Q (.ref (s.heap.objs.size+1)) {s with heap:=h'}):aH (model prog w) A (call (.type "enumerate") [.ref l]) Q E s:=by
 obtain⟨⟨c,Y2,dt,sl⟩,hl,hc,n,hd⟩:=hL;replace hc:c = .type "tuple":=hc;replace hd:dt = .seq items n:=hd;subst hc hd;refine callType_new F.called_enumerate (by decide) (F.typeCall_enumerate_1 _) (F.newCall_enumerate_1 _) (λobj=>F.args_object_init_2 obj _) F.entry_enumerate_new (yF l items n Y2 sl) ⟨hl,?_⟩;have hz:(s.heap.push {cls:=.type "tuple_iterator",data:=.fields #[.ref l,.int 0 0]}).objs.size=s.heap.objs.size+1:=eE ..;show _/\_;rw[hz];have he:IsEnum ((s.heap.push {cls:=.type "tuple_iterator",data:=.fields #[.ref l,.int 0 0]}).push {cls:=.type "enumerate",data:=.fields #[.none,.bool false,.ref s.heap.objs.size,rawInt 0,.none,.none]}) (s.heap.objs.size+1) s.heap.objs.size 0 .none:=by
  have q:=aB (s.heap.push {cls:=.type "tuple_iterator",data:=.fields #[.ref l,.int 0 0]}) (o:={cls:=.type "enumerate",data:=.fields #[.none,.bool false,.ref s.heap.objs.size,rawInt 0,.none,.none]}) rfl;rw[hz]at q;exact q
 exact⟨⟨_,he,rfl⟩,h _ he ⟨_,af _ (aB _ rfl),rfl,rfl⟩ (by rw[eE,hz]) λb o x=>af _ (af _ x)⟩
end
noncomputable def Gi(src:Hp->List V->Prop):It:=
 ⟨λi H=>∃xs,src H xs/\i<xs.length,λi H v H'=>∃p x,v = .ref p/\H p=none/\H'=upd H p (.tup [.int i,x])/\∀xs,src H xs->xs[i]?=some x,λi H=>∃xs,src H xs/\i=xs.length⟩
theorem Bb{P:aR}{w:bH}{K:aa}{elts:List bc}{k:Nat}{pos:Pos}(src:Hp->List V->Prop)(e it t:aj)(Y3:e≠it)(hte:t≠e)(hti:t≠it)(si:Nat->bS->Prop)(ct:Array ah->bS->Prop)(hsi:∀i h,si i h->∃o,h.get? it=some o/\∀v,o.data≠.cell v)(hsk:∀i h h',si i h->(∀o,h.get? it=some o->h'.get? it=some o)->si i h')(hct:∀items h,ct items h->∃o,h.get? t=some o)(FQ:∀items h h',ct items h->(∀o,h.get? t=some o->h'.get? t=some o)->ct items h')(hD:∀(A:cj),A.handled=none->∀items,Draws P w A it [it,t] items.size (λi v=>items[i]?=some v) (λi h=>si i h/\ct items h))(hS:∀(X:Cx),X.prog=P->X.w=w->X.K=K->∀(pins:List (aj×Obj)) (s:ai) (σ:St) (H:Hp) xs,Inv X pins σ H s->src H xs->∃cq:List ah,cX xs cq/\ct cq.toArray s.heap/\xs.length<=av)(hI:∀(X:Cx),X.prog=P->X.w=w->X.K=K->∀(pins:List (aj×Obj)) (s:ai) (σ:St) (H:Hp) xs ys,Inv X pins σ H s->src H xs->src H ys->xs=ys):
  Turn P w K (.Tuple elts k pos) (Gi src) [e,it] e (λi h=>(∃old,IsEnum h e it i old)/\si i h) where
 mem:=by simp
 obj:=λi h st b hb=>by
  obtain⟨⟨old,h1⟩,h2⟩:=st;rcases bf.mp hb with rfl|hb
  ·exact⟨_,h1,λv z=>by cases z⟩
  ·have e0:b=it:=by simpa using hb
   rw[e0];exact hsi i h h2
 keep:=λi h h' st hk=>by
  obtain⟨⟨old,h1⟩,h2⟩:=st;exact⟨⟨old,hk e (by simp) _ h1⟩,hsk i h h' h2 λo q=>hk it (by simp) o q⟩
 item:=by
  intro X hP hw hK hc i pins s σ H E I hf st hg;have Wc:=hP;have hw':=hw;have hK':=hK;subst hP hw hK;obtain⟨xs,OB,hi⟩:=hg;obtain⟨cq,rv,SJ,hz⟩:=hS X rfl rfl rfl pins s σ H xs I OB;obtain⟨⟨old,h1⟩,h2⟩:=st;have D:=hD X.A.in1 (I.ok.hd hc) cq.toArray;have WT:=WalksT.enumerateD (A:=X.A) D e Y3 (by simp[Y3,dz hte]) (by simp);have fE:=hf e (by simp);have fI:=hf it (by simp);have hlen:=rv.length;refine WT.item i s _ E (by rw[aD];omega) ⟨⟨old,h1⟩,h2,SJ⟩ λT vals h' tk hPt Y4 ab5 ab6 hk=>?_;obtain⟨tt,xv,hxv,rfl⟩:=hPt;have hx:xs[i]?=some (xs[i]'hi):=ag hi;obtain⟨u,hu,ru⟩:=rv.get hx;have exv:xv=u:=by
   have q:cq[i]?=some xv:=by simpa using hxv
   rw[hu]at q;exact(bE q).symm
  subst exv;refine⟨.ref T,rfl,?_⟩;have Xg:∀b o,b≠e->b≠it->s.heap.get? b=some o->h'.get? b=some o:=λb o n1 n2 q=>hk b o (by simp[n1,n2]) q;have Wd:H T=none:=I.dS.fresh Y4;have KQ:h'.IsTuple T #[.int i tt,xv]:=ab5;have step:∀{h2:bS}{Qy:Nat},(∀b o,b≠e->b≠it->s.heap.get? b=some o->h2.get? b=some o)->h2.IsTuple T #[.int i tt,xv]->Inv X pins σ (upd H T (.tup [.int i,xs[i]'hi])) {s with heap:=h2,toks:=Qy}:=λ{h2 Qy} kp tp=>by
   have n0:∀b u,H b=some u->b≠e/\b≠it:=λb u q=>⟨λz=>(by rw[z,fE.1]at q;cases q),λz=>(by rw[z,fI.1]at q;cases q)⟩;refine I.step (g':=s.gens) (d':=s.drawn) (ch:=[e,it]) (λb hb=>?_) (λb o _ _ hb q _=>kp b o (λz=>hb (by simp[z])) (λz=>hb (by simp[z])) q) (λb o _ _ hb q _=>⟨o.slots,kp b o (λz=>hb (by simp[z])) (λz=>hb (by simp[z])) q⟩)
    (λb o hb q n=>by rw[bP (aZ (bw (aC q) Y4))];exact n) (λb o hb q=>⟨o,kp b o (λz=>hb (by simp[z])) (λz=>hb (by simp[z])) q⟩)
    (λb ys q=>by rw[bP (cn q Wd)];exact q) (λb ob v q=>by rw[bP (cn q Wd)];exact q) (λb ps q=>⟨#[],by rw[bP (cn q Wd),q];simp⟩) (λm hm=>?_) (λb v q=>?_) I.bare
   ·rcases bf.mp hb with rfl|hb
    ·exact⟨fE.2.2.2.1,fE.2.1,fE.2.2.2.2.1,fE.2.2.2.2.2⟩
    ·have e0:b=it:=by simpa using hb
     subst e0;exact⟨fI.2.2.2.1,fI.2.1,fI.2.2.2.2.1,fI.2.2.2.2.2⟩
   ·obtain⟨o,es,ep,ho,r⟩:=hm;exact⟨o,es,ep,kp _ o (dz fE.2.1) (dz fI.2.1) ho,r⟩
   ·by_cases hb:b=T
    ·subst hb;rw[aW]at q;cases q;exact⟨by show 2<=av;decide,[.int i tt,xv],.cons ⟨_,rfl⟩ (.cons ru .nil),tp⟩
    ·rw[bP hb]at q;refine(I.dS b v q).vE (λc w' Fu q'=>kp c w' ?_ ?_ q') (λc q'=>by rw[bP (cn q' Wd)];exact q') λc ys q'=>by rw[bP (cn q' Wd)];exact q'
     ·rcases Fu with z|z
      ·rw[z];exact(n0 b v q).1
      ·exact(n0 c _ z).1
     ·rcases Fu with z|z
      ·rw[z];exact(n0 b v q).2
      ·exact(n0 c _ z).2
  refine WT.go elts k pos i T _ _ E ab6 λh2 yq hk2=>?_;have hTe:T≠e:=dG (bw (aC h1) Y4);have hTi:T≠it:=by obtain⟨o,q,_⟩:=hsi _ _ ‹si i s.heap›;exact dG (bw (aC q) Y4)
  have tp2:h2.IsTuple T #[.int i tt,xv]:=let⟨o,q,r⟩:=KQ;⟨o,hk2 T o (by simp[hTe,hTi]) q,r⟩;have kp2:∀b o,b≠e->b≠it->s.heap.get? b=some o->h2.get? b=some o:=λb o n1 n2 q=>hk2 b o (by simp[n1,n2]) (Xg b o n1 n2 q);refine⟨.ref T,_,step (Qy:=tk) kp2 tp2,rfl,⟨T,xs[i]'hi,rfl,Wd,rfl,λys hy=>by rw[hI X rfl rfl rfl pins s σ H ys xs I hy OB];exact hx⟩,⟨yq.1,yq.2.1⟩,λb hb=>?_⟩;rw[bP]
  ·exact(hf b hb).1
  ·rcases bf.mp hb with rfl|hb
   ·exact dz hTe
   ·have e0:b=it:=by simpa using hb
    rw[e0];exact dz hTi
 done:=by
  intro X hP hw hK hc i pins s σ H E I hf st hg;subst hP hw hK;obtain⟨xs,OB,hi⟩:=hg;obtain⟨cq,rv,SJ,hz⟩:=hS X rfl rfl rfl pins s σ H xs I OB;obtain⟨⟨old,h1⟩,h2⟩:=st;have D:=hD X.A.in1 (I.ok.hd hc) cq.toArray;have WT:=WalksT.enumerateD (A:=X.A) D e Y3 (by simp[Y3,dz hte]) (by simp);have fE:=hf e (by simp);have fI:=hf it (by simp);have hlen:=rv.length;have Dm:i=cq.toArray.size:=by rw[aD];omega
  subst Dm;refine WT.done s _ E ⟨⟨old,h1⟩,h2,SJ⟩ λh' tk hk=>⟨rfl,?_⟩;have n0:∀b u,H b=some u->b≠e/\b≠it:=λb u q=>⟨λz=>(by rw[z,fE.1]at q;cases q),λz=>(by rw[z,fI.1]at q;cases q)⟩;have kp:∀b o,b≠e->b≠it->s.heap.get? b=some o->h'.get? b=some o:=λb o n1 n2 q=>hk b o (by simp[n1,n2]) q;refine I.step (g':=s.gens) (d':=s.drawn) (ch:=[e,it]) (λb hb=>?_) (λb o _ _ hb q _=>kp b o (λz=>hb (by simp[z])) (λz=>hb (by simp[z])) q) (λb o _ _ hb q _=>⟨o.slots,kp b o (λz=>hb (by simp[z])) (λz=>hb (by simp[z])) q⟩)
   (λb o hb q n=>n) (λb o hb q=>⟨o,kp b o (λz=>hb (by simp[z])) (λz=>hb (by simp[z])) q⟩) (λb ys q=>q) (λb ob v q=>q) (λb ps q=>⟨#[],by rw[q];simp⟩) (λm hm=>?_) (λb v q=>?_) I.bare
  ·rcases bf.mp hb with rfl|hb
   ·exact⟨fE.2.2.2.1,fE.2.1,fE.2.2.2.2.1,fE.2.2.2.2.2⟩
   ·have e0:b=it:=by simpa using hb
    subst e0;exact⟨fI.2.2.2.1,fI.2.1,fI.2.2.2.2.1,fI.2.2.2.2.2⟩
  ·obtain⟨o,es,ep,ho,r⟩:=hm;exact⟨o,es,ep,kp _ o (dz fE.2.1) (dz fI.2.1) ho,r⟩
  ·refine(I.dS b v q).vE (λc w' Fu q'=>kp c w' ?_ ?_ q') (λc q'=>q') λc ys q'=>q'
   ·rcases Fu with z|z
    ·rw[z];exact(n0 b v q).1
    ·exact(n0 c _ z).1
   ·rcases Fu with z|z
    ·rw[z];exact(n0 b v q).2
    ·exact(n0 c _ z).2
 self:=λA i s Q E st h=>by
  obtain⟨⟨old,h1⟩,_⟩:=st;exact Aa h1 h
section
variable {X:Cx}{l:bc}{ta:TA}{elts:List bc}{k:Nat}{p pos pX:Pos}
noncomputable def ab7(K:aa)(ta:TA):TI:=λσ H R=>ta σ H λvs H1=>∃a xs,vs=[.ref a]/\fF K H1 a xs/\R (Gi λH ys=>fF K H a ys) H1
noncomputable def ab8(K:aa)(ta:TA):TI:=λσ H R=>ta σ H λvs H1=>∃a xs,vs=[.ref a]/\fU K H1 a xs/\R (Gi λH ys=>fU K H a ys) H1
theorem Ll(hg:Gl X "enumerate")(hm:X.mg "enumerate"=none)(ha:PA X [l] ta)(hs:ao [l] X.env=[(false,eval l X.env)]:=by rfl):PI X (.Tuple elts k pX) (.Call (.Name "enumerate" p) [l] [] pos) (ab7 X.K ta):=by
 intro pins s σ H R I h;refine Call_ (md I hg hm boot_enumerate (cw (gb (ha pos pins s σ H _ I h) λ us s1  zq0=>?_) hs rfl));obtain ⟨vs,H1,I1,r1,q1⟩:=zq0;obtain⟨a,xs,e,hq,q⟩:=q1;subst e;obtain⟨u,rfl,ru⟩:=vals1 r1;cases ru;obtain⟨cq,rv,pt,hz⟩:=I1.tuple hq;have Jy:a<s1.heap.objs.size:=pt.lt;refine Ay (show s1.heap.IsTuple a cq.toArray from pt) λh' he hi hz' hk=>Aa he ?_
 refine⟨s1.heap.objs.size+1,[s1.heap.objs.size+1,s1.heap.objs.size],_,_,H1,rfl,I1.kept (t':=s1.toks) hk,Bb (λH ys=>fF X.K H a ys) (s1.heap.objs.size+1) s1.heap.objs.size a (Nat.succ_ne_self _) (aZ (je Jy)) (aZ Jy)
   (λi h=>h.IsTupleIter s1.heap.objs.size a i) (λitems h=>h.IsTuple a items) (by rintro i h ⟨o,e1,_,e2⟩;exact ⟨o,e1,λv z=>by rw[e2]at z;cases z⟩) (by rintro i h h' ⟨o,e1,r⟩ k;exact ⟨o,k o e1,r⟩) (by rintro items h ⟨o,e1,_⟩;exact ⟨o,e1⟩) (by rintro items h h' ⟨o,e1,r⟩ k;exact ⟨o,k o e1,r⟩)
   (λA hh items=>Ba hh s1.heap.objs.size a (aZ Jy) items)
   (λX' hP hw hK j6 s' dI H' ys I' hy=>by
    rw[<-hK]at hy;obtain⟨pV,SK,pt',Gj⟩:=I'.tuple hy
    exact⟨pV,SK,pt',Gj⟩)
   (λX' hP hw hK j6 s' dI H' ys zs I' hy Lm=>by rw[<-hK]at hy Lm;exact I'.vF hy Lm),
  ⟨⟨_,he⟩,hi⟩,λb hb=>?_,q⟩
 rcases bf.mp hb with rfl|hb
 ·exact I1.oC (jv _) (I1.dS.fresh (jv _))
 ·have e0:b=s1.heap.objs.size:=by simpa using hb
  subst e0;exact I1.oC (au _) (I1.dS.fresh (au _))
theorem Ed(hg:Gl X "enumerate")(hm:X.mg "enumerate"=none)(ha:PA X [l] ta)(hs:ao [l] X.env=[(false,eval l X.env)]:=by rfl):PI X (.Tuple elts k pX) (.Call (.Name "enumerate" p) [l] [] pos) (ab8 X.K ta):=by
 intro pins s σ H R I h;refine Call_ (md I hg hm boot_enumerate (cw (gb (ha pos pins s σ H _ I h) λ us s1  zq0=>?_) hs rfl));obtain ⟨vs,H1,I1,r1,q1⟩:=zq0;obtain⟨a,xs,e,hq,q⟩:=q1;subst e;obtain⟨u,rfl,ru⟩:=vals1 r1;cases ru;obtain⟨cq,rv,pl,hz⟩:=I1.list hq;have Jy:a<s1.heap.objs.size:=let⟨o,_,e,_⟩:=pl;aC e;refine call_enumerate_list pl.isList λh' he hi hz' hk=>Aa he ?_
 refine⟨s1.heap.objs.size+1,[s1.heap.objs.size+1,s1.heap.objs.size],_,_,H1,rfl,I1.kept (t':=s1.toks) hk,Bb (λH ys=>fU X.K H a ys) (s1.heap.objs.size+1) s1.heap.objs.size a (Nat.succ_ne_self _) (aZ (je Jy)) (aZ Jy)
   (λi h=>h.IsListIter s1.heap.objs.size a i) (λitems h=>h.IsList a items) (by rintro i h ⟨o,e1,_,e2⟩;exact ⟨o,e1,λv z=>by rw[e2]at z;cases z⟩) (by rintro i h h' ⟨o,e1,r⟩ k;exact ⟨o,k o e1,r⟩) (by rintro items h ⟨o,e1,_⟩;exact ⟨o,e1⟩) (by rintro items h h' ⟨o,e1,r⟩ k;exact ⟨o,k o e1,r⟩)
   (λA hh items=>Draws.list hh s1.heap.objs.size a (aZ Jy) items)
   (λX' hP hw hK j6 s' dI H' ys I' hy=>by
    rw[<-hK]at hy;obtain⟨pV,SK,We,Gj⟩:=I'.list hy
    exact⟨pV,SK,We.isList,Gj⟩)
   (λX' hP hw hK j6 s' dI H' ys zs I' hy Lm=>by rw[<-hK]at hy Lm;exact I'.uL hy Lm),
  ⟨⟨_,he⟩,hi⟩,λb hb=>?_,q⟩
 rcases bf.mp hb with rfl|hb
 ·exact I1.oC (jv _) (I1.dS.fresh (jv _))
 ·have e0:b=s1.heap.objs.size:=by simpa using hb
  subst e0;exact I1.oC (au _) (I1.dS.fresh (au _))
theorem Ln{src:Hp->List V->Prop}{xs:List V}{g:TG}{tb:TS}{D:Ends}{σ:St}{H:Hp}(Pv:Nat->St->Hp->Prop)(h0:Pv 0 σ H)(hl:∀i σ H,i<=xs.length->Pv i σ H->src H xs)(hs:∀i x σ H p,xs[i]?=some x->Pv i σ H->H p=none->g (.ref p) σ (upd H p (.tup [.int i,x])) λAh H2=>tb {D with nx:=Pv (i+1),ct:=Pv (i+1),bk:=D.nx} Ah H2)(hd:∀σ H,Pv xs.length σ H->D.nx σ H):
  ∃W:Nat->Nat->St->Hp->Prop,(∃m,W 0 m σ H)/\∀i m σ H,W i m σ H->
   ((Gi src).stop i H/\D.nx σ H)\/((Gi src).go i H/\∃N:St->Hp->Prop,(∀dI H',N dI H'->∃m',m'<m/\W (i+1) m' dI H')/\∀x H',(Gi src).xq i H x H'->g x σ H' λAh H2=>tb {D with nx:=N,ct:=N,bk:=D.nx} Ah H2):=by
 refine⟨λi m σ H=>m=xs.length - i/\i<=xs.length/\Pv i σ H,⟨xs.length,by simp,dj _,h0⟩,?_⟩;rintro i m σ H ⟨rfl,hi,p⟩;have q:=hl i σ H hi p;by_cases i9:i<xs.length
 ·refine .inr ⟨⟨xs,q,i9⟩,Pv (i+1),λdI H' p'=>⟨xs.length - (i+1),by omega,rfl,i9,p'⟩,λv H' y=>?_⟩;obtain⟨a,x,e1,e2,e3,e4⟩:=y;subst e1 e3;exact hs i x σ H a (e4 xs q) p e2
 ·have e:i=xs.length:=by omega
  subst e;exact .inl ⟨⟨xs,q,rfl⟩,hd σ H p⟩
end
noncomputable def Lo(K:aa)(a:aj)(n:Nat):It:=
 ⟨λi H=>i<n/\∃xs,fU K H a xs/\xs.length=n,λi H x H'=>H'=H/\∀xs,fU K H a xs->xs.length=n->xs[n - 1 - i]?=some x,λi H=>i=n/\∃xs,fU K H a xs/\xs.length=n⟩
theorem Lp{P:aR}{w:bH}{K:aa}{tg:bc}(a it:aj)(n:Nat)(Jx:a≠it):Turn P w K tg (Lo K a n) [it] it (λi h=>i<=n/\h.IsRevIter it a ((n:Int) - 1 - (i:Int))) where
 mem:=by simp
 obj:=λi h st b hb=>by
  have e:b=it:=by simpa using hb
  subst e;obtain⟨_,o,e,c,d⟩:=st;exact⟨o,e,λv z=>by rw[d]at z;cases z⟩
 keep:=λi h h' st k=>⟨st.1,st.2.at λo e=>k it (by simp) o e⟩
 item:=by
  intro X hP hw hK hc i pins s σ H E I hf st hg;subst hP hw hK;obtain⟨hi,xs,hq,hlen⟩:=hg;obtain⟨cq,rv,p,hz⟩:=I.list hq;have hl:=rv.length;have hx:xs[n - 1 - i]?=some (xs[n - 1 - i]'(by omega)):=ag _;obtain⟨u,hu,ru⟩:=rv.get hx;obtain⟨f0,f1,f2,f3,f4,f5⟩:=hf it (by simp);have e1:(n:Int) - 1 - (i:Int)=((n - 1 - i:Nat):Int):=by omega
  have hit:=st.2;rw[e1]at hit;refine wpAny_pyNext_rev_item hit p.isList (x:=u) (by simpa using hu) λh' Gk sb=>?_;have e2:((n - 1 - i:Nat):Int) - 1=(n:Int) - 1 - ((i+1:Nat):Int):=by omega
  rw[e2]at Gk;have I1:Inv X pins σ H {s with heap:=h'}:=I.turned (t':=s.toks) (λb o hb e=>(sb.2 b hb).trans e) f0 f1 f3 f4 f5;obtain⟨o,e,c,d⟩:=id Gk;exact⟨u,rfl,DJ (s:={s with heap:=h'}) e c d (by decide) ⟨xs[n - 1 - i]'(by omega),H,I1,ru,⟨rfl,λys hy _=>by rw[I.uL hy hq];exact hx⟩,⟨hi,Gk⟩,λb hb=>(hf b hb).1⟩⟩
 done:=by
  intro X hP hw hK hc i pins s σ H E I hf st hg;subst hP hw hK;obtain⟨hi,xs,hq,hlen⟩:=hg;obtain⟨f0,f1,f2,f3,f4,f5⟩:=hf it (by simp);have hit:=st.2;rw[show(n:Int) - 1 - (i:Int)=-1 by omega]at hit;exact wpAny_pyNext_rev_end (I.ok.hd hc) hit λh' eb=>⟨rfl,I.turned (t':=s.toks) (λb o hb e=>eb b o hb e) f0 f1 f3 f4 f5⟩
 self:=λ_ _ _ _ _ st h=>vx st.2 h
section
variable {X:Cx}{l tg:bc}{ta:TA}{p p2 pos pX:Pos}
noncomputable def ab9(K:aa)(ta:TA):TI:=λσ H R=>ta σ H λvs H1=>∃a xs,vs=[.ref a]/\fU K H1 a xs/\R (Lo K a xs.length) H1
theorem SM(hg:Gl X "reversed")(hm:X.mg "reversed"=none)(ha:PA X [l] ta)(hs:ao [l] X.env=[(false,eval l X.env)]:=by rfl):PI X tg (.Call (.Name "reversed" p) [l] [] pos) (ab9 X.K ta):=by
 intro pins s σ H R I h;refine Call_ (md I hg hm boot_reversed (cw (gb (ha pos pins s σ H _ I h) λ us s1  zq0=>?_) hs rfl));obtain ⟨vs,H1,I1,r1,q1⟩:=zq0;obtain⟨a,xs,e,hq,q⟩:=q1;subst e;obtain⟨u,rfl,ru⟩:=vals1 r1;cases ru;obtain⟨cq,rv,pl,hz⟩:=I1.list hq;have Jy:a<s1.heap.objs.size:=let⟨o,_,e,_⟩:=pl;aC e;have hl:=rv.length
 have hit:(s1.heap.push (revObj a ((cq.toArray.size:Int) - 1))).IsRevIter s1.heap.objs.size a ((xs.length:Int) - 1 - ((0:Nat):Int)):=⟨_,aB _ rfl,rfl,by
  have e2:(xs.length:Int) - 1 - ((0:Nat):Int)=(cq.toArray.size:Int) - 1:=by rw[aD,hl];simp
  rw[e2];rfl⟩
 refine call_reversed_list pl.isList (vx (s:={s1 with heap:=s1.heap.push (revObj a ((cq.toArray.size:Int) - 1))}) hit ?_);refine⟨s1.heap.objs.size,[s1.heap.objs.size],_,_,H1,rfl,I1.kept (t':=s1.toks) λb o e=>af _ e,Lp a _ xs.length (aZ Jy),⟨dj _,hit⟩,λb hb=>?_,q⟩;have e0:b=s1.heap.objs.size:=by simpa using hb
 subst e0;exact I1.oC (au _) (I1.dS.fresh (au _))
theorem OC{K:aa}{a:aj}{xs:List V}{g:TG}{tb:TS}{D:Ends}{σ:St}{H:Hp}(Pv:Nat->St->Hp->Prop)(h0:Pv 0 σ H)(hl:∀i σ H,i<=xs.length->Pv i σ H->fU K H a xs)(hs:∀i x σ H,i<xs.length->xs[xs.length - 1 - i]?=some x->Pv i σ H->g x σ H λAh H2=>tb {D with nx:=Pv (i+1),ct:=Pv (i+1),bk:=D.nx} Ah H2)(hd:∀σ H,Pv xs.length σ H->D.nx σ H):
  ∃W:Nat->Nat->St->Hp->Prop,(∃m,W 0 m σ H)/\∀i m σ H,W i m σ H->
   ((Lo K a xs.length).stop i H/\D.nx σ H)\/((Lo K a xs.length).go i H/\∃N:St->Hp->Prop,(∀dI H',N dI H'->∃m',m'<m/\W (i+1) m' dI H')/\∀x H',(Lo K a xs.length).xq i H x H'->g x σ H' λAh H2=>tb {D with nx:=N,ct:=N,bk:=D.nx} Ah H2):=by
 refine⟨λi m σ H=>m=xs.length - i/\i<=xs.length/\Pv i σ H,⟨xs.length,by simp,dj _,h0⟩,?_⟩;rintro i m σ H ⟨rfl,hi,p⟩;have q:=hl i σ H hi p;by_cases i9:i<xs.length
 ·refine .inr ⟨⟨i9,xs,q,rfl⟩,Pv (i+1),λdI H' p'=>⟨xs.length - (i+1),by omega,rfl,i9,p'⟩,λx H' y=>?_⟩;obtain⟨e,y⟩:=y;subst e;exact hs i x σ _ i9 (y xs q rfl) p
 ·have e:i=xs.length:=by omega
  subst e;exact .inl ⟨⟨rfl,xs,q,rfl⟩,hd σ H p⟩
end
section
variable {prog:aR}{w:bH}{A:cj}{E:ah->ai->Prop}{s:ai}
theorem Gm:typeLookup (.type "list_reverseiterator") "__len__"=pure none:=by rw[typeLookup_type,builtinLookup_eq_fast];kernel_rfl
theorem Lq:typeLookup (.type "list_reverseiterator") "__length_hint__"=pure (some (.builtin "list_reverseiterator.__length_hint__")):=by rw[typeLookup_type,builtinLookup_eq_fast];kernel_rfl
theorem Lr{r:aj}(hT:s.TypeIs (.ref r) "list_reverseiterator"){Q:Bool->ai->Prop}(h:Q false s):aH (model prog w) A (fT (.ref r)) Q E s:=by
 unfold fT;refine ae (kU hT Gm ?_);show aH _ _ (specialOf (cO r) (fk "__length_hint__") >>= _) _ _ _;refine ae (kU hT Lq ?_);generalize Xh:("list_reverseiterator.__length_hint__":String)=id0
 wp_delta
 rw[show splitId id0=some ("list_reverseiterator","__length_hint__")from by subst Xh;symm];subst Xh;refine ae (rY (T:="list_reverseiterator") (b:=true) hT (by rw[isSubtype_type];kernel_rfl) ?_);refine fN (λOD=>absurd OD (by decide)) (λ_=>?_);refine fN (λ_=>?_) (λOD=>absurd (by symm) OD);refine fN (λOD=>absurd OD (by symm)) (λ_=>?_);exact ax h
theorem Gn{R:Result->ai->Prop}{r l:aj}{items:Array ah}(hh:A.handled=none)(Jx:l≠r)(hit:s.heap.IsRevIter r l ((items.size:Int) - 1))(hl:s.heap.IsList l items)(hn:items.size<=av)(S:aj)(hSr:S≠r)(hSl:S≠l)(res:ah)(c0:Nat)(hS:s.heap.get? S=some {cls:=.type "list",data:=.seq #[] c0})(hR:∀h' tk acc c,(∀b o,b≠S->b≠r->s.heap.get? b=some o->h'.get? b=some o)->h'.get? S=some {cls:=.type "list",dict:=none,data:=.seq acc c,slots:=#[]}->
   ItemsOf (λi v=>items[items.size - 1 - i]?=some v) acc items.size->R (.ok (.ret res)) {s with heap:=h',toks:=tk}):
  aH (model prog w) A.in1 (dq (.ref S) (.ref r) res)
   (λfin s'=>match fin with | .done f=>R (.ok f) s' | .again c'=>c'.quiet=true/\codeAny (model prog w) A c' R s') (λe s'=>R (.error e) s') s:=by
 have W:=(Walks.listRev (prog:=prog) (w:=w) (A:=A.in1) hh r l Jx items).toS;have hSf:S∉[r,l]:=by simp[hSr,hSl]
 have key:∀(h:bS)(c1 tk:Nat),(∀b o,b≠S->s.heap.get? b=some o->h.get? b=some o)->h.get? S=some {cls:=.type "list",data:=.seq #[] c1}->
   codeAny (model prog w) A (.builtin "list.extend.loop" ⟨[.ref S,.ref r,res],[]⟩) R {s with heap:=h,toks:=tk}:=by
  intro h c1 tk hk hS1;have st0:0<=items.size/\h.IsRevIter r l ((items.size:Int) - 1 - ((0:Nat):Int))/\h.IsList l items:=
   ⟨dj _,by rw[show(items.size:Int) - 1 - ((0:Nat):Int)=(items.size:Int) - 1 by omega];exact hit.at λo e=>hk r o (dz hSr) e,let⟨o,e,q⟩:=hl;⟨o,hk l o (dz hSl) e,q⟩⟩
  refine codeAny_extend_loopS W hn S hSf res items.size 0 {s with heap:=h,toks:=tk} #[] c1 rfl (dj _) st0 hS1 (ItemsOf.nil _) λs' acc c' hm Xi Ls=>?_;rw[Moved.eq_with hm];exact hR s'.heap s'.toks acc c' (λb o n1 n2 e=>hm.heap b o (by simp[n1,n2]) (hk b o n1 e)) Xi Ls
 have hT:s.TypeIs (.ref r) "list_reverseiterator":=hit.typeIs;unfold dq;refine ae (oU hT ?_);have g1:jf (.ref S) (.ref r)=false:=by simp[jf,hSr]
 have g2:(jk "list_reverseiterator"==jk "list")=false:=by decide
 have g3:(jk "list_reverseiterator"==jk "tuple")=false:=by decide
 simp only[g1,g2,g3,uy,iN,if_false];refine ae (vx hit (ae (iE (Lr hT ?_))));refine fN (λ_=>?_) (λ_=>ax ⟨plainId_quiet iG _,key _ c0 _ (λb o _ e=>e) hS⟩);refine ae (pK (ae ?_));show aH _ _ (updateSeq S (·.push .none) >>= λ_=>updateSeq S (·.pop)) _ _ _;refine ae (jm hS rfl ?_);have SN:=ez (fm (·.push dZ)) hS rfl;refine jm (hz:=by seq_fits) SN rfl ?_;have hS3:=ez (fm (·.pop)) SN rfl;exact ax ⟨plainId_quiet iG _,key _ _ _ (λb o hb e=>(cJ _ _ (dz hb)).trans ((cJ _ _ (dz hb)).trans e)) hS3⟩
theorem Az{Q:ah->ai->Prop}{r l:aj}{items:Array ah}(hh:A.handled=none)(Jx:l≠r)(hit:s.heap.IsRevIter r l ((items.size:Int) - 1))(hl:s.heap.IsList l items)(hn:items.size<=av)(hQ:∀h' tk acc c,(∀b o,b≠r->s.heap.get? b=some o->h'.get? b=some o)->h'.get? s.heap.objs.size=some {cls:=.type "list",dict:=none,data:=.seq acc c,slots:=#[]}->
   ItemsOf (λi v=>items[items.size - 1 - i]?=some v) acc items.size->Q (.ref s.heap.objs.size) {s with heap:=h',toks:=tk}):aH (model prog w) A (call (.type "list") [.ref r]) Q E s:=by
 refine callType_codes (Q₁:=λobj s1=>obj = .ref s.heap.objs.size/\s1={s with heap:=s.heap.push {cls:=.type "list",data:=.seq #[]}}) F.called_list (F.typeCall_list_1 _) F.entry_list_init (code_list_new _ ⟨rfl,rfl⟩) λobj s1 h1=>?_;obtain⟨rfl,rfl⟩:=h1;have hS:(s.heap.push {cls:=.type "list",data:=.seq #[]}).get? s.heap.objs.size=some {cls:=.type "list",data:=.seq #[]}:=aB _ rfl;have hrl:r<s.heap.objs.size:=let⟨o,e,_⟩:=hit;aC e;have hll:l<s.heap.objs.size:=let⟨o,e,_⟩:=hl;aC e;refine⟨⟨_,hS,rfl⟩,F.args_list_init_2 _ _,?_⟩;show aH _ _ (do let old <-jG (.ref s.heap.objs.size);wJ (.ref s.heap.objs.size) (λ_=>#[]);letGo old.toList.reverse;dq (.ref s.heap.objs.size) (.ref r) .none) _ _ _;refine ae ?_;unfold jG;refine ae (gj hS rfl (ax ?_));show aH _ _ (updateSeq s.heap.objs.size (λ_=>#[]) >>= λ_=>letGo (#[]:Array ah).toList.reverse >>= λ_=>dq (.ref s.heap.objs.size) (.ref r) .none) _ _ _;refine ae (jm hS rfl ?_);have SN:=ez (fm (λ_=>(#[]:Array ah))) hS rfl;have Wf:∀b o,s.heap.get? b=some o->((s.heap.push {cls:=.type "list",data:=.seq #[]}).update s.heap.objs.size (fm (λ_=>(#[]:Array ah)))).get? b=some o:=
  λb o e=>(cJ _ _ (dG (aC e))).trans (af _ e)
 refine ae (vy ?_);refine Gn (A:=A.in1) hh Jx (hit.at λo e=>Wf r o e) (let⟨o,e,q⟩:=hl;⟨o,Wf l o e,q⟩) hn _ (dG hrl) (dG hll) .none _ SN λh' tk acc c hk Xi Ls=>?_;exact⟨rfl,hQ h' tk acc c (λb o n e=>hk b o (aZ (aC e)) n (Wf b o e)) Xi Ls⟩
end
section
variable {X:Cx}{l:bc}{ta:TA}{p p2 pos pX:Pos}
theorem Lu{xs:List V}{cq:List ah}{acc:Array ah}(rv:cX xs cq)(h:ItemsOf (λi v=>cq.toArray[cq.toArray.size - 1 - i]?=some v) acc cq.toArray.size):cX xs.reverse acc.toList:=by
 have e:acc.toList=cq.reverse:=by
  apply oV;intro i;by_cases hi:i<cq.length
  ·have h1:acc.toList[i]?=some (acc.toList[i]'(by rw[ij,h.1,aD];exact hi)):=ag _;have h2:=h.2 i (acc.toList[i]'(by rw[ij,h.1,aD];exact hi)) (by rw[<-h1];simp);rw[h1,gL hi];simpa using h2.symm
  ·rw[fB (by rw[ij,h.1,aD];omega),fB (by rw[cC];omega)]
 rw[e];exact rv.reverse
theorem yG(hc:X.calm=true)(Xj:Gl X "list")(Xk:X.mg "list"=none)(hgR:Gl X "reversed")(hmR:X.mg "reversed"=none)(ha:PA X [l] ta)(hs:ao [l] X.env=[(false,eval l X.env)]:=by rfl)(NT:ao [.Call (.Name "reversed" p2) [l] [] pX] X.env=[(false,eval (.Call (.Name "reversed" p2) [l] [] pX) X.env)]:=by rfl):
  PE X (.Call (.Name "list" p) [.Call (.Name "reversed" p2) [l] [] pX] [] pos) (λσ H Q=>ta σ H λvs H1=>∃a xs,vs=[.ref a]/\fU X.K H1 a xs/\∀q,H1 q=none->Q (.ref q) (upd H1 q (.lst xs.reverse))):=by
 intro pins s σ H Q I h;refine Call_ (md I Xj Xk boot_list (cw ?_ NT rfl));rw[NT];show aH _ _ (spliced ((false,eval (.Call (.Name "reversed" p2) [l] [] pX) X.env)::[])) _ _ s;refine fK ?_;refine Call_ (md I hgR hmR boot_reversed (cw (gb (ha pX pins s σ H _ I h) λ us s1  zq0=>?_) hs rfl));obtain ⟨vs,H1,I1,r1,q1⟩:=zq0;obtain⟨a,xs,e,hq,q⟩:=q1;subst e;obtain⟨u,rfl,ru⟩:=vals1 r1;cases ru;obtain⟨cq,rv,pl,hz⟩:=I1.list hq;have Jy:a<s1.heap.objs.size:=let⟨o,_,e,_⟩:=pl;aC e;have hl:=rv.length;refine call_reversed_list pl.isList (ou ?_);have kp:∀b o,s1.heap.get? b=some o->(s1.heap.push (revObj a ((cq.toArray.size:Int) - 1))).get? b=some o:=λb o e=>af _ e;have I2:Inv X pins σ H1 {s1 with heap:=s1.heap.push (revObj a ((cq.toArray.size:Int) - 1))}:=I1.kept (t':=s1.toks) kp;have fr:oB X pins H1 s1.heap.objs.size:=I1.oC (au _) (I1.dS.fresh (au _));have hit:(s1.heap.push (revObj a ((cq.toArray.size:Int) - 1))).IsRevIter s1.heap.objs.size a ((cq.toArray.size:Int) - 1):=⟨_,aB _ rfl,rfl,rfl⟩;refine Az (s:={s1 with heap:=s1.heap.push (revObj a ((cq.toArray.size:Int) - 1))}) (items:=cq.toArray) (I1.ok.hd hc) (aZ Jy) hit (let⟨o,n,e,c,_,d⟩:=pl;⟨o,kp a o e,c,n,d⟩) (by rw[aD];omega) λh' tk acc c hk hD Ls=>?_;have SO:(s1.heap.push (revObj a ((cq.toArray.size:Int) - 1))).objs.size=s1.heap.objs.size+1:=eE ..;have I3:=Inv.turned (s:={s1 with heap:=s1.heap.push (revObj a ((cq.toArray.size:Int) - 1))}) (h':=h') (t':=tk) (it:=s1.heap.objs.size) I2 (λb o hb e=>hk b o hb e) fr.1 fr.2.1 fr.2.2.2.1 fr.2.2.2.2.1 fr.2.2.2.2.2;have fD:oB X pins H1 (s1.heap.objs.size+1):=I1.oC (jv _) (I1.dS.fresh (jv _));rw[SO]at hD ⊢;exact⟨.ref _,_,I3.adopt (o:=.lst xs.reverse) fD ⟨by rw[cC];exact hz,acc.toList,c,Lu rv Ls,by simpa using hD⟩,rfl,q _ fD.1⟩
end
noncomputable def OE(X:Cx)(e:bc)(σ:St)(H0:Hp)(d:aq):Prop:=
 ∀(pins:List (aj×Obj)) (s:ai) (H:Hp),bK H0 H->Inv X pins σ H s->aH (model X.prog X.w) X.A (eval e X.env) (EP X pins σ λv H'=>bK H H'/\Rep X.K H' d v) X.xe s
noncomputable def Lv(X:Cx)(es:List bc)(σ:St)(H0:Hp)(ds:List aq):Prop:=
 ∀(pos:Pos) (pins:List (aj×Obj)) (s:ai) (H:Hp),bK H0 H->Inv X pins σ H s->aH (model X.prog X.w) X.A (spliced (cG pos (ao es X.env))) (AP X pins σ λvs H'=>bK H H'/\bB X.K H' ds vs) X.xe s
section
variable {X:Cx}{e:bc}{es:List bc}{σ:St}{H0:Hp}{d:aq}{ds:List aq}{pos:Pos}
theorem EP.mono{pins:List (aj×Obj)}{Q Q':VK}{u:ah}{s:ai}(h:EP X pins σ Q u s)(hq:∀v H,Q v H->Q' v H):EP X pins σ Q' u s:=let⟨v,H,I,r,q⟩:=h;⟨v,H,I,r,hq v H q⟩
theorem SQ:PE X e (λσ H Q=>∃d,OE X e σ H d/\∀v H',bK H H'->Rep X.K H' d v->Q v H'):=by
 intro pins s σ H Q I h;obtain⟨d,hd,q⟩:=h;exact gb (hd pins s H (bK.refl H) I) λu s1 z=>z.mono (by rintro v H' ⟨a,b⟩;exact q v H' a b)
theorem OF:PE X (.List es pos) (λσ H Q=>∃ds,Lv X es σ H ds/\ds.length<=1000/\∀r H' vs,H r=none->bK H H'->H' r=some (.lst vs)->bB X.K H' ds vs->Q (.ref r) H'):=by
 intro pins s σ H Q I h;obtain⟨ds,hd,hz,q⟩:=h;refine wpAny_List_spliced (gb (hd pos pins s H (bK.refl H) I) λ us s1  zq0=>?_);obtain ⟨xs,H1,I1,r,sm,rp⟩:=zq0;have hl:=rp.length;have hx:xs.length<=av:=by rw[hl];exact fj (sd hz)
 refine⟨by rw[<-r.length];exact hx,?_⟩;have hf:H1 s1.heap.objs.size=none:=I1.dS.fresh (au _);refine⟨.ref s1.heap.objs.size,upd H1 s1.heap.objs.size (.lst xs),I1.laid (t':=s1.toks) (λb u e=>af _ e) (au _) ?_,rfl,?_⟩
 ·exact⟨hx,us,0,r,aB _ rfl⟩
 ·have s2:=bu hf (.lst xs);exact q _ _ xs (sm.free hf) (sm.trans s2) aW (bB.mono (bq.of_same s2) _ _ rp)
theorem SR{x:Str}{j:Nat}:OE X (.Constant (.str x) j pos) σ H0 (.str x):=λpins s H _ I=>tU pins s σ H _ I ⟨bK.refl H,.str x⟩
theorem Lw{i:Int}{j:Nat}:OE X (.Constant (.int i) j pos) σ H0 (.int i):=λpins s H _ I=>cS pins s σ H _ I ⟨bK.refl H,.int i⟩
theorem Gp(i:Nat){x:Str}{v:V}(hv:σ[i]?=some (some v))(hr:Rep X.K H0 d v)(hN:X.N[i]?=some x:=by rfl)(hx:AO X.env.scope x:=by first|exact cm rfl|exact cW (cm rfl)|exact cW (cW rfl))(hd:(x==("__debug__":Str))=false:=by decide)(l9:(x==("__classdict__":Str))=false:=by decide):OE X (.Name x pos) σ H0 d:=λpins s H sm I=>
 gN hN hx hd l9 pins s σ H _ I ⟨v,hv,bK.refl H,Rep.mono (bq.of_same sm) _ _ hr⟩
theorem Gq:Lv X [] σ H0 []:=λpos pins s H sm I=>bD pos pins s σ H _ I ⟨bK.refl H,.nil⟩
theorem uU(h:OE X e σ H0 d)(t:Lv X es σ H0 ds)(hs:ao (e::es) X.env=(false,eval e X.env)::ao es X.env:=by rfl):Lv X (e::es) σ H0 (d::ds):=by
 intro pos pins s H sm I;rw[hs];show aH _ _ (spliced ((false,eval e X.env)::cG pos (ao es X.env))) _ _ s;refine fK (gb (h pins s H sm I) λ u s1  zq0=>?_);obtain ⟨x,H1,I1,r1,SS,q1⟩:=zq0;exact gb (t pos pins s1 H1 (sm.trans SS) I1) (by rintro us s2 ⟨xs,H2,I2,r2,Xl,q2⟩;exact ⟨x::xs,H2,I2,.cons r1 r2,SS.trans Xl,.cons (Rep.mono (bq.of_same Xl) _ _ q1) q2⟩)
theorem Lx{k:Nat}(h:Lv X es σ H0 ds)(hz:ds.length<=av:=by first|decide|exact fL rfl):OE X (.Tuple es k pos) σ H0 (.tuple ds):=by
 intro pins s H sm I;refine wpAny_Tuple_spliced (gb (h pos pins s H sm I) λ us s1  zq0=>?_);obtain ⟨xs,H1,I1,r,SS,rp⟩:=zq0;have hx:xs.length<=av:=by rw[rp.length];exact hz
 refine⟨by rw[<-r.length];exact hx,?_⟩;have hf:H1 s1.heap.objs.size=none:=I1.dS.fresh (au _);have s2:=bu hf (.tup xs);refine⟨.ref s1.heap.objs.size,upd H1 s1.heap.objs.size (.tup xs),I1.laid (t':=s1.toks) (λb u e=>af _ e) (au _) ?_,rfl,SS.trans s2,.tuple (fF.of aW) (bB.mono (bq.of_same s2) _ _ rp)⟩;exact⟨hx,us,r,⟨_,aB _ rfl,rfl,_,rfl⟩⟩
theorem Qz{b:bc}{i:Int}(h:OE X e σ H0 (.tuple ds))(hb:OE X b σ H0 (.int i))(hi:oZ ds i=some d)(hs:nX b):OE X (.Subscript e b pos) σ H0 d:=by
 intro pins s H sm I;refine Subscript_ (gb (h pins s H sm I) λv s1 ⟨x,H1,I1,r1,SS,q1⟩=>gb (hb pins s1 H1 (sm.trans SS) I1) λ u s2  zq0=>?_);obtain ⟨y,H2,I2,r2,Xl,q2⟩:=zq0;obtain⟨a,vs,e1,hq,rp⟩:=(Rep.mono (bq.of_same Xl) _ _ q1).fz;subst e1;obtain rfl:=q2.cP;obtain⟨j,h1,h2,h3,h4,h5⟩:=nW hi;obtain⟨z,hz,rz⟩:=rp.get h2;have hl:=rp.length;have ha:oZ vs i=some z:=by
  unfold oZ;have Gr:=hi;unfold oZ at Gr;rw[hl];cases q:Jn ds.length i with
  |none=>rw[q]at Gr;cases Gr
  |some k=>
   have hk:=(r8 q).1;rw[h1]at hk;cases hk;exact hz
 exact dX e b pins s2 σ H2 (.ref a) (.int i) v u _ I2 r1 r2 ⟨a,vs,i,z,rfl,rfl,hq,ha,SS.trans Xl,rz⟩ (hs _ _)
end
theorem bB.snoc{K:aa}{H:Hp}{ds:List aq}{d:aq}{vs:List V}(h:bB K H (ds++[d]) vs):∃ws v,vs=ws++[v]/\bB K H ds ws/\Rep K H d v:=by
 induction ds generalizing vs with
 |nil=>
  obtain⟨v,r,e1,e2,e3⟩:=h.split;rw[bB]at e3;exact⟨[],v,by rw[e1,e3];rfl,.nil,e2⟩
 |cons x ds ih=>
  obtain⟨v,r,e1,e2,e3⟩:=h.split;obtain⟨ws,z,e4,e5,e6⟩:=ih e3;exact⟨v::ws,z,by rw[e1,e4];rfl,.cons e2 e5,e6⟩
end L2
namespace Wk
inductive c9(α:Type) where
 |node (a:α) (own:List (c9 α))
variable {α:Type}
noncomputable def c9.lO:c9 α->α | .node a _=>a
noncomputable def c9.own:c9 α->List (c9 α) | .node _ o=>o
mutual
noncomputable def c9.size:c9 α->Nat
 |.node _ o=>gS o+1
noncomputable def gS:List (c9 α)->Nat
 |[]=>0
 |t::r=>t.size + gS r
end
theorem c9.size_pos(t:c9 α):0<t.size:=by
 cases t with|node a o=>simp[c9.size]
theorem yH(t:c9 α):t.size=gS t.own+1:=by cases t;rfl
theorem xw(xs:List (c9 α)):xs.length<=gS xs:=by
 induction xs with
 |nil=>simp[gS]
 |cons x r ih=>have:=x.size_pos;simp only[aY,gS];omega
noncomputable def c9.se:c9 α->List Nat->Option (c9 α)
 |t,[]=>some t
 |t,k::p=>match t.own[k]? with
  |some u=>u.se p
  |none=>none
termination_by t p=>p.length
theorem kA(t:c9 α):t.se []=some t:=by unfold c9.se;rfl
theorem ji(t:c9 α)(k:Nat)(p:List Nat):t.se (k::p)=(t.own[k]?).bind (·.se p):=by
 rw[c9.se];cases t.own[k]?<;>rfl
theorem Gs(p q:List Nat):∀t:c9 α,t.se (p++q)=(t.se p).bind (·.se q):=by
 induction p with
 |nil=>intro t;rw[eI,kA];rfl
 |cons k p ih=>
  intro t;rw[cV,ji,ji];cases t.own[k]? with
  |none=>rfl
  |some u=>exact ih u
theorem uV(p:List Nat)(k:Nat)(t:c9 α):t.se (p++[k])=(t.se p).bind (λu=>u.own[k]?):=by
 rw[Gs];cases t.se p with
 |none=>rfl
 |some u=>
  show u.se [k]=u.own[k]?;rw[ji];cases u.own[k]? with
  |none=>rfl
  |some x=>show x.se []=_;rw[kA]
mutual
noncomputable def c9.post:c9 α->List (List Nat×c9 α)
 |.node a o=>et 0 o++[([],.node a o)]
noncomputable def et:Nat->List (c9 α)->List (List Nat×c9 α)
 |_,[]=>[]
 |k,t::r=>t.post.map (λx=>(k::x.1,x.2))++et (k+1) r
end
theorem lV(t:c9 α):t.post=et 0 t.own++[([],t)]:=by cases t;rfl
theorem c9.ind{P:c9 α->Prop}(h:∀a o,(∀x∈o,P x)->P (.node a o)):∀t,P t
 |.node a o=>h a o (λx hx=>by
   have:sizeOf x<sizeOf (c9.node a o):=by
    have:=List.sizeOf_lt_of_mem hx;simp only[c9.node.sizeOf_spec];omega
   exact c9.ind h x)
termination_by t=>sizeOf t
theorem Ly(r:List (c9 α)):∀k,∀x∈et k r,x.1≠[]:=by
 induction r with
 |nil=>intro k x hx;cases hx
 |cons t r ih=>
  intro k x hx;rw[et]at hx;rcases bj.mp hx with h|h
  ·obtain⟨y,_,rfl⟩:=de.mp h;simp
  ·exact ih (k+1) x h
noncomputable def c9.places(t:c9 α):List (List Nat):=t.post.map vC
theorem places_eq(t:c9 α):t.places=(et 0 t.own).map vC++[[]]:=by unfold c9.places;rw[lV,bI];rfl
theorem pY(t:c9 α):∀x∈t.post,t.se x.1=some x.2:=by
 induction t using c9.ind with
 |h a o ih=>
  have key:∀(r:List (c9 α)) (k:Nat),o.drop k=r->∀x∈et k r,(c9.node a o).se x.1=some x.2:=by
   intro r;induction r with
   |nil=>intro k _ x hx;cases hx
   |cons y r Lz=>
    intro k hd x hx;rw[et]at hx;have hk:o[k]?=some y:=by rw[<-yi,hd];rfl
    rcases bj.mp hx with h|h
    ·obtain⟨z,hz,rfl⟩:=de.mp h;rw[ji];show(o[k]?).bind _=_;rw[hk];exact ih y (aI hk) z hz
    ·exact Lz (k+1) (by rw[<-List.tail_drop,hd];rfl) x h
  intro x hx;rw[lV]at hx;rcases bj.mp hx with h|h
  ·exact key o 0 rfl x h
  ·have e:x=([],c9.node a o):=by simpa using h
   rw[e];exact kA _
theorem cZ(t:c9 α):t.post.length=t.size:=by
 induction t using c9.ind with
 |h a o ih=>
  have key:∀(r:List (c9 α)) (k:Nat),(∀x∈r,x∈o)->(et k r).length=gS r:=by
   intro r;induction r with
   |nil=>intro k _;rfl
   |cons y r Lz=>
    intro k hs;rw[et,aL,ay,ih y (hs y aE),Lz (k+1) (λx hx=>hs x (aU _ hx)),gS]
  rw[lV,aL,yH];show(et 0 o).length+1=gS o+1;rw[key o 0 λx hx=>hx]
open PySem L2
noncomputable abbrev Ex:=c9 (Str×List aq)
mutual
noncomputable def py:Ex->aq
 |.node a o=>.tuple [.str a.1,.tuple a.2,.tuple (Xm o)]
noncomputable def Xm:List Ex->List aq
 |[]=>[]
 |t::r=>py t::Xm r
end
theorem OG(l:List Ex):Xm l=l.map py:=by
 induction l with
 |nil=>rfl
 |cons t r ih=>rw[Xm,ih];rfl
theorem QA(t:Ex):py t = .tuple [.str t.lO.1,.tuple t.lO.2,.tuple (t.own.map py)]:=by
 cases t with|node a o=>rw[py,OG];rfl
noncomputable def xW(p:List Nat):aq:=.tuple (p.map λ(k:Nat)=>.int (k:Int))
section
variable {K:aa}{H H':Hp}
theorem uW{t:Ex}{v:V}(h:Rep K H (py t) v):∃a b c ms os,v = .ref a/\fF K H a [.str t.lO.1,.ref b,.ref c]/\fF K H b ms/\bB K H t.lO.2 ms/\fF K H c os/\bB K H (t.own.map py) os:=by
 rw[QA]at h;obtain⟨a,vs,rfl,hq,rp⟩:=h.fz;obtain⟨v1,r1,rfl,e1,rp⟩:=rp.split;obtain⟨v2,r2,rfl,e2,rp⟩:=rp.split;obtain⟨v3,r3,rfl,e3,rp⟩:=rp.split;rw[bB]at rp;subst rp;obtain rfl:=e1.cY;obtain⟨b,ms,rfl,hb,rb⟩:=e2.fz;obtain⟨c,os,rfl,hc,rc⟩:=e3.fz;exact⟨a,b,c,ms,os,rfl,hq,hb,rb,hc,rc⟩
theorem OH{p:List Nat}{v:V}(h:Rep K H (xW p) v):∃a,v = .ref a/\fF K H a (p.map λ(k:Nat)=>V.int (k:Int)):=by
 obtain⟨a,vs,rfl,hq,rp⟩:=Rep.fz h;have e:vs=p.map λ(k:Nat)=>V.int (k:Int):=by
  clear hq h;induction p generalizing vs with
  |nil=>rw[gy,bB]at rp;exact rp
  |cons k p ih=>
   rw[bz]at rp;obtain⟨v,r,rfl,e1,e2⟩:=rp.split;rw[bz,<-ih r e2,e1.cP]
 subst e;exact⟨a,rfl,hq⟩
theorem OI(p:List Nat):bB K H (p.map λ(k:Nat)=>eJ (k:Int)) (p.map λ(k:Nat)=>V.int (k:Int)):=by
 induction p with
 |nil=>exact .nil
 |cons k p ih=>exact .cons (.int _) ih
theorem QB{p:List Nat}{a:aj}(h:fF K H a (p.map λ(k:Nat)=>V.int (k:Int))):Rep K H (xW p) (.ref a):=.tuple h (OI p)
end
noncomputable def shift(p:List Nat)(x:List Nat×Ex):List Nat×Ex:=(p++x.1,x.2)
noncomputable def AA(x:List Nat×Ex):List (List Nat×Ex):=(x.2.post.map (shift x.1)).reverse
noncomputable def kids(p:List Nat):Nat->List Ex->List (List Nat×Ex)
 |_,[]=>[]
 |k,t::r=>(p++[k],t)::kids p (k+1) r
theorem Ee(p:List Nat):∀(r:List Ex)(k:Nat),((et k r).map (shift p)).reverse=(kids p k r).reverse.flatMap AA
 |[],_=>rfl
 |t::r,k=>by
  rw[et,kids,bI,tQ,Ee p r (k+1),dD,List.flatMap_append];congr 1;simp[AA,shift,kh,oW,fh]
theorem HL(p:List Nat)(t:Ex):AA (p,t)=(p,t)::(kids p 0 t.own).reverse.flatMap AA:=by
 rw[<-Ee,AA];show(t.post.map (shift p)).reverse=_;rw[lV,bI,tQ];simp[shift]
theorem Bc(p:List Nat)(t:Ex):∀(r:List Ex)(k:Nat),kids p k (r++[t])=kids p k r++[(p++[k + r.length],t)]
 |[],k=>by simp[kids]
 |x::r,k=>by
  rw[cV,kids,kids,Bc p t r (k+1)];simp;omega
noncomputable def total(st:List (List Nat×Ex)):Nat:=(st.map λx=>x.2.size).sum
theorem jY(x:List Nat×Ex)(st:List (List Nat×Ex)):total (x::st)=x.2.size + total st:=by simp[total]
theorem uX(a b:List (List Nat×Ex)):total (a++b)=total a + total b:=by simp[total,bI,List.sum_append]
theorem AB(a:List (List Nat×Ex)):total a.reverse=total a:=by
 induction a with
 |nil=>rfl
 |cons x r ih=>rw[dD,uX,ih,jY,jY];simp[total];omega
theorem yI(p:List Nat):∀(r:List Ex)(k:Nat),total (kids p k r)=gS r
 |[],_=>rfl
 |t::r,k=>by rw[kids,jY,yI p r (k+1),gS]
theorem qF(st:List (List Nat×Ex)):st.length<=total st:=by
 induction st with
 |nil=>exact dj _
 |cons x r ih=>rw[jY,aY];have:=x.2.size_pos;omega
end Wk
namespace L2
open PySem PySem.Spec PyProof.Rows
noncomputable def cK(P:aR)(w:bH)(K:aa)(mg:Str->Option ah)(base:bS)(k:Nat)(x:Str)(ps:List Str)(sp:Sp):Prop:=
 ∃(f:aj)(fd:be),fi P w K mg base kx k f fd ps sp/\Binds K fd ps []/\eX K (.ref f)=true/\mg x=some (.ref f)
section
variable {X:Cx}{k:Nat}{x:Str}{ps:List Str}{sp:Sp}{e:bc}{es:List bc}{t:TA}{p pos:Pos}
theorem iQ(D:cK X.prog X.w X.K X.mg X.base k x ps sp)(hr:iD k X.A)(hg:Gl X x)(ha:PA X (e::es) t)(qX:(x==("__debug__":Str))=false:=by decide)(he:ao (e::es) X.env=(false,eval e X.env)::ao es X.env:=by rfl)(kY:(cG pos (ao es X.env)).any (·.1)=false:=by rfl):PE X (.Call (.Name x p) (e::es) [] pos) (KU sp [] E0 t):=by
 obtain⟨f,fd,G,b,kp,m⟩:=D;exact Oa G hr hg m kp b .nil K9 ha qX he kY
end
end L2
namespace Wk
open PySem L2
inductive Kd where
 |num|truth|list (k:Kd)|to (k m:Kd)
 deriving DecidableEq
noncomputable def eW:Kd->aq
 |.num=>.tuple [.str "num"]
 |.truth=>.tuple [.str "truth"]
 |.list k=>.tuple [.str "list",eW k]
 |.to k m=>.tuple [.str "to",eW k,eW m]
structure Plain(mg:Str->Option ah):Prop where
 len:mg "len"=none
 list:mg "list"=none
 tuple:mg "tuple"=none
 int:mg "int"=none
 bool:mg "bool"=none
 range:mg "range"=none
 enumerate:mg "enumerate"=none
 reversed:mg "reversed"=none
 isinstance:mg "isinstance"=none
theorem Ce(K:aa):gA K (.type "int") (.type "bool")=some false:=by first|rfl|kernel_rfl
theorem Ef{u:Ex}:∀{l:List Ex},u∈l->u.size<=gS l
 |[],h=>nomatch h
 |x::r,h=>by
  rcases bf.mp h with rfl|h
  ·rw[gS];omega
  ·have:=Ef h;rw[gS];omega
theorem yJ{e t:Ex}:∀{p:List Nat},e.se p=some t->t.size + p.length<=e.size:=by
 intro p;induction p generalizing e with
 |nil=>intro h;rw[kA]at h;cases h;simp
 |cons k p ih=>
  intro h;rw[ji]at h;cases q:e.own[k]? with
  |none=>rw[q]at h;cases h
  |some u=>
   rw[q]at h;have h1:=ih (e:=u) h;have h2:u.size<=gS e.own:=by
    have hm:=aI q;exact Ef hm
   rw[yH e,aY];omega
theorem nY{α:Type}(l:List α):l=[]\/∃L b,l=L++[b]:=by
 cases h:l.reverse with
 |nil=>exact .inl (by simpa using h)
 |cons b r=>exact .inr ⟨r.reverse,b,by rw[<-sO l,h,dD]⟩
theorem Jz(e:Ex):[]++[(([]:List Nat),e)].flatMap AA=e.post.reverse:=by
 rw[eI,List.flatMap_singleton];show(e.post.map (shift [])).reverse=_;rw[show e.post.map (shift [])=e.post from(mI λx _=>rfl).trans (List.map_id _)]
theorem rh{p:aj}{H Ha Hb:Hp}(a:bK H Ha)(b:SameBut p Ha Hb)(n:H p=none):bK H Hb:=λc o h=>b c o (cn h n) (a c o h)
theorem HM{K:aa}{H:Hp}{t u:Ex}{os:List V}{k:Nat}(r:bB K H (t.own.map py) os)(h:t.own[k]?=some u):∃v,os[k]?=some v/\Rep K H (py u) v:=
 r.get (by rw[aw,h];rfl)
theorem xX(p:List Nat):(xW p).canLay0=true:=by
 show nQ _=true;induction p with
 |nil=>rfl
 |cons k p ih=>rw[bz,nQ,ky,ih];rfl
theorem Bd(p:List Nat):(xW p).depth<=1:=by
 show qB _+1<=1;have:qB (p.map λ(k:Nat)=>eJ (k:Int))=0:=by
  induction p with
  |nil=>rfl
  |cons k p ih=>rw[bz,qB,ih,BY];rfl
 rw[this];exact au _
theorem LA(p q:List Nat):tO (xW p) (xW q)=decide (p=q):=by
 show tf _ _=_;induction p generalizing q with
 |nil=>cases q with
  |nil=>rfl
  |cons k q=>rw[gy,bz,tf];simp
 |cons k p ih=>cases q with
  |nil=>rw[gy,bz,tf];simp
  |cons j q=>
   rw[bz,bz,tf,ih,tO];rw[iT];simp;intro _;omega
end Wk
namespace L2
open PySem PySem.Spec PyProof.Rows
noncomputable abbrev Cx.within(X:Cx)(A':cj):Cx:={X with A:=A'}
section
variable {X:Cx}{pins:List (aj×Obj)}{σ:St}{H:Hp}{s:ai}{A':cj}
theorem Inv.within(I:Inv X pins σ H s)(h1:A'.handled=X.A.handled)(h2:A'.frames=X.A.frames):Inv (X.within A') pins σ H s:=
 ⟨⟨I.ok.mod,I.ok.kind,I.ok.glob,I.ok.blt,I.ok.above,I.ok.inj,I.ok.has,I.ok.Qf,λc=>h1.trans (I.ok.hd c),h2.trans I.ok.frames,I.ok.Dk,I.ok.WB,I.ok.bs,I.ok.Kw,I.ok.Dw,I.ok.FG,I.ok.uI,I.ok.NZ⟩,
  I.os,I.bare,I.base,I.loc,I.cell,I.free,I.o9,I.pin,I.dS,I.len⟩
theorem Inv.Xn(I:Inv (X.within A') pins σ H s)(h1:A'.handled=X.A.handled)(h2:A'.frames=X.A.frames):Inv X pins σ H s:=
 ⟨⟨I.ok.mod,I.ok.kind,I.ok.glob,I.ok.blt,I.ok.above,I.ok.inj,I.ok.has,I.ok.Qf,λc=>h1.symm.trans (I.ok.hd c),h2.symm.trans I.ok.frames,I.ok.Dk,I.ok.WB,I.ok.bs,I.ok.Kw,I.ok.Dw,I.ok.FG,I.ok.uI,I.ok.NZ⟩,
  I.os,I.bare,I.base,I.loc,I.cell,I.free,I.o9,I.pin,I.dS,I.len⟩
end
theorem yK{prog:aR}{w:bH}{A:cj}{R:Result->ai->Prop}{S I:aj}{res:ah}(J:Nat->ai->Prop)(turn:∀n s,J n s->aH (model prog w) A.in1 (pyNext (.ref I)) (λr s1=>match r with
   |none=>R (.ok (.ret res)) s1
   |some v=>aH (model prog w) A.in1 (updateSeq S (·.push v)) (λ_ s2=>∃m,m<n/\J m s2) (λ_ _=>False) s1) (λ_ _=>False) s):
  ∀(n:Nat)(s:ai),J n s->codeAny (model prog w) A (.builtin "list.extend.loop" ⟨[.ref S,.ref I,res],[]⟩) R s:=by
 intro n;induction n using qT with
 |ind n ih=>
  intro s h;refine codeAny_builtin F.entry_extend_loop ?_;rw[qU iG _];show aH _ A.in1 (pyNext (.ref I) >>= _) _ _ s;refine ae (bO (turn n s h) (λr s1 h1=>?_) λ_ _ z=>z.elim);cases r with
  |none=>exact ax h1
  |some v=>
   show aH _ A.in1 (updateSeq S (·.push v) >>= _) _ _ _;exact ae (bO h1 (by rintro _ s2 ⟨m,hm,h2⟩;exact ax ⟨plainId_quiet iG _,ih m hm s2 h2⟩) λ_ _ z=>z.elim)
noncomputable abbrev nmT:bc:=.Name Str.empty ⟨0,0,0,0⟩
structure LB(prog:aR)(w:bH)(T:String):Prop where
 nl:(jk T==jk "list")=false
 nt:(jk T==jk "tuple")=false
 hint:∀(A:cj)(E:ah->ai->Prop)(a:aj)(s:ai)(Q:Bool->ai->Prop),s.TypeIs (.ref a) T->(∀b,Q b s)->aH (model prog w) A (fT (.ref a)) Q E s
noncomputable def PIL(X:Cx)(inner:bc)(wi:TI):Prop:=
 ∀(pins:List (aj×Obj)) (s:ai) (σ:St) (H:Hp) (R:It->Hp->Prop),Inv X pins σ H s->wi σ H R->
  aH (model X.prog X.w) X.A (eval inner X.env) (λv s1=>∃(H1:Hp)(T:String)(a:aj),v = .ref a/\Inv X pins σ H1 s1/\s1.TypeIs v T/\LB X.prog X.w T/\
   ∀(A':cj) (pm:List (aj×Obj)) (s2:ai) (E:ah->ai->Prop),A'.handled=X.A.handled->A'.frames=X.A.frames->(∀b o,s1.heap.get? b=some o->s2.heap.get? b=some o)->(∀p∈pm,s1.heap.objs.size<=p.1)->
    Inv (X.within A') (pins++pm) σ H1 s2->aH (model X.prog X.w) A' (pyIter v) (λR3 s3=>WL (X.within A') (pins++pm) σ nmT R R3 s3/\s3.TypeIs v T) E s2) X.xe s
noncomputable def LC(J:It)(H1:Hp)(Fin:List V->Hp->Prop):Prop:=
 ∃W:Nat->Nat->List V->Hp->Prop,(∃m,W 0 m [] H1)/\∀i m ys H,W i m ys H->
  (J.stop i H/\ys.length<=av/\Fin ys H)\/(J.go i H/\ys.length<av/\∀v H',J.xq i H v H'->∃m',m'<m/\W (i+1) m' (ys++[v]) H')
noncomputable def Cf(wi:TI):TE:=λσ H Q=>wi σ H λJ H1=>LC J H1 λys H2=>∀q,H2 q=none->Q (.ref q) (upd H2 q (.lst ys))
section
variable {X:Cx}{inner:bc}{wi:TI}{p pos:Pos}
theorem vS(hc:X.calm=true)(Xj:Gl X "list")(Xk:X.mg "list"=none)(hi:PIL X inner wi)(hs:ao [inner] X.env=[(false,eval inner X.env)]:=by rfl):
  PE X (.Call (.Name "list" p) [inner] [] pos) (Cf wi):=by
 intro pins s σ H Q I h;refine Call_ (md I Xj Xk boot_list (cw ?_ hs rfl));rw[hs];show aH _ _ (spliced ((false,eval inner X.env)::[])) _ _ s;refine fK (gb (hi pins s σ H _ I h) λv s1 ⟨H1,T,a,ev,I1,ty,ask,walk⟩=>ou ?_);subst ev;have Jy:a<s1.heap.objs.size:=let⟨o,e,_⟩:=ty;aC e;refine callType_codes (Q₁:=λobj s'=>obj = .ref s1.heap.objs.size/\s'={s1 with heap:=s1.heap.push {cls:=.type "list",data:=.seq #[]}}) F.called_list (F.typeCall_list_1 _) F.entry_list_init (code_list_new _ ⟨rfl,rfl⟩) λobj s' h'=>?_;obtain⟨rfl,rfl⟩:=h';have hS:(s1.heap.push {cls:=.type "list",data:=.seq #[]}).get? s1.heap.objs.size=some {cls:=.type "list",data:=.seq #[]}:=aB _ rfl;refine⟨⟨_,hS,rfl⟩,F.args_list_init_2 _ _,?_⟩;show aH _ _ (do let old <-jG (.ref s1.heap.objs.size);wJ (.ref s1.heap.objs.size) (λ_=>#[]);letGo old.toList.reverse;dq (.ref s1.heap.objs.size) (.ref a) .none) _ _ _;refine ae ?_;unfold jG;refine ae (gj hS rfl (ax ?_));show aH _ _ (updateSeq s1.heap.objs.size (λ_=>#[]) >>= λ_=>letGo (#[]:Array ah).toList.reverse >>= λ_=>dq (.ref s1.heap.objs.size) (.ref a) .none) _ _ _;refine ae (jm hS rfl ?_);have SN:=ez (fm (λ_=>(#[]:Array ah))) hS rfl;generalize hG:(s1.heap.push {cls:=.type "list",data:=.seq #[]}).update s1.heap.objs.size (fm (λ_=>(#[]:Array ah)))=G at SN ⊢;obtain⟨nG,hSG⟩:∃n,G.get? s1.heap.objs.size=some {cls:=.type "list",data:=.seq ([]:List ah).toArray n}:=⟨_,SN⟩;have kp:∀b o,s1.heap.get? b=some o->G.get? b=some o:=λb o e=>by
  rw[<-hG];exact(cJ _ _ (dG (aC e))).trans (af _ e)
 have IG:Inv X pins σ H1 {s1 with heap:=G}:=I1.kept (t':=s1.toks) kp;have SU:X.A.in1.in1.handled=X.A.handled:=rfl;have SO:X.A.in1.in1.frames=X.A.frames:=rfl;have IW:Inv (X.within X.A.in1.in1) pins σ H1 {s1 with heap:=G}:=IG.within SU SO;have fS:∀{H':Hp},H' s1.heap.objs.size=none->oB (X.within X.A.in1.in1) pins H' s1.heap.objs.size:=λ{H'} hn=>by
  have f:=I1.oC (H':=H') (au _) hn;exact⟨f.1,f.2.1,f.2.2.1,f.2.2.2.1,f.2.2.2.2.1,f.2.2.2.2.2⟩
 have Xo:∀{τ:St}{H':Hp}{s':ai}{ob:Obj},Inv (X.within X.A.in1.in1) pins τ H' s'->H' s1.heap.objs.size=none->s'.heap.get? s1.heap.objs.size=some ob->(∀v,ob.data≠.cell v)->Inv (X.within X.A.in1.in1) (pins++[(s1.heap.objs.size,ob)]) τ H' s':=λ{τ H' s' ob} J0 hn ho hd=>
  J0.rZ λq hq=>by
   rcases bj.mp hq with z|z
   ·exact J0.pin q (az _ z)
   ·have e:q=(s1.heap.objs.size,ob):=aM.mp z;subst e;exact⟨ho,hn,(fS hn).2.1,(fS hn).2.2.1,hd⟩
 have LD:∀{τ:St}{H':Hp}{s':ai} {pl:List (aj×Obj)},Inv (X.within X.A.in1.in1) (pins++pl) τ H' s'->Inv (X.within X.A.in1.in1) pins τ H' s':=λJ0=>J0.mR;refine ae (vy ?_);unfold dq;have tyG:lM {s1 with heap:=G} (.ref a) T:=let⟨o,e,c⟩:=ty;⟨o,kp a o e,c⟩;refine ae (oU tyG ?_);have g1:jf (.ref s1.heap.objs.size) (.ref a)=false:=by simp[jf,dG Jy]
 simp only[g1,ask.nl,ask.nt,uy,iN,if_false];have nS1:H1 s1.heap.objs.size=none:=I1.dS.fresh (au _)
 refine ae (bO (walk X.A.in1.in1 [(s1.heap.objs.size,{cls:=.type "list",data:=.seq ([]:List ah).toArray nG})] {s1 with heap:=G} (λ_ _=>False) SU SO kp (λq hq=>by rw[aM.mp hq];exact au _) (Xo IW nS1 hSG (λv z=>by cases z)))
  (λ R3 s3  zq0=>?_) λ_ _ z=>z.elim);obtain ⟨⟨it,fp,tn,J,H3,ei,I3,T3,Ql,f3,W,⟨m0,w0⟩,turn⟩,ty3⟩:=zq0
 subst ei;have oS3:=(I3.pin (s1.heap.objs.size,_) (az _ (az _ aE))).1;have nS3:=(I3.pin (s1.heap.objs.size,_) (az _ (az _ aE))).2.1;have I3u:=LD I3;have hfS:∀b∈fp,b≠s1.heap.objs.size:=λb hb=>(dz ((f3 b hb).2.2.2.2.2 (s1.heap.objs.size,_) (az _ (az _ aE))));have vJ:∀{H':Hp}{ob:Obj},(∀b∈fp,H' b=none)->∀b∈fp,oB (X.within X.A.in1.in1) (pins++[(s1.heap.objs.size,ob)]) H' b:=λ{H' ob} hn b hb=>by
  obtain⟨f0,f1,f2,f4,f5,f6⟩:=f3 b hb;refine⟨hn b hb,f1,f2,f4,f5,λq hq=>?_⟩;rcases bj.mp hq with z|z
  ·exact f6 q (bZ _ z)
  ·rcases bj.mp z with z|z
   ·exact f6 q (az _ (bZ _ z))
   ·rw[aM.mp z];exact dz (hfS b hb)
 have loop:∀(s4:ai)(n4:Nat),Inv (X.within X.A.in1.in1) pins σ H3 s4->tn 0 s4.heap->s4.heap.get? s1.heap.objs.size=some {cls:=.type "list",data:=.seq ([]:List ah).toArray n4}->
   codeAny (model X.prog X.w) X.A.in1 (.builtin "list.extend.loop" ⟨[.ref s1.heap.objs.size,.ref it,.none],[]⟩) (wants (λr uK=>r = .none/\EP X pins σ Q (.ref s1.heap.objs.size) uK) X.xe) s4:=by
  intro s4 n4 I4 st4 o4;refine yK (λk s'=>∃i ys H' cq n,Inv (X.within X.A.in1.in1) pins σ H' s'/\tn i s'.heap/\(∀b∈fp,H' b=none)/\H' s1.heap.objs.size=none/\cX ys cq/\s'.heap.get? s1.heap.objs.size=some {cls:=.type "list",data:=.seq cq.toArray n}/\W i k ys H') ?_ m0 s4
   ⟨0,[],H3,[],n4,I4,st4,λb hb=>(f3 b hb).1,nS3,.nil,o4,w0⟩
  rintro k s' ⟨i,ys,H',cq,n,I5,Jj,Qm,nS5,Qv,oS5,w5⟩;have N4:=Xo I5 nS5 oS5 (λv z=>by cases z);rcases turn i k ys H' w5 with⟨stop,hz,qf⟩|⟨go,hz,step⟩
  ·refine bO (T3.done (X.within X.A.in1.in1) rfl rfl rfl hc i _ s' σ H' (λ_ _=>False) N4 (vJ Qm) Jj stop) (λ r s6  zq0=>?_) λ_ _ z=>z;obtain ⟨hr,I6⟩:=zq0;subst hr;have oS6:=(I6.pin (s1.heap.objs.size,_) (az _ (az _ aE))).1;have nS6:=(I6.pin (s1.heap.objs.size,_) (az _ (az _ aE))).2.1;have I7:Inv X pins σ H' s6:=(LD I6).Xn SU SO;exact⟨rfl,.ref s1.heap.objs.size,_,I7.adopt (o:=.lst ys) (I1.oC (au _) nS6) ⟨hz,cq,n,Qv,oS6⟩,rfl,qf _ nS6⟩
  ·refine bO (T3.item (X.within X.A.in1.in1) rfl rfl rfl hc i _ s' σ H' (λ_ _=>False) N4 (vJ Qm) Jj go) (λ r s6  zq0=>?_) λ_ _ z=>z;obtain ⟨u,hr,h6⟩:=zq0;subst hr;show aH _ _ ((pure ():Sem Unit) >>= λ_=>updateSeq s1.heap.objs.size (·.push u)) _ _ s6;refine ae (bO (show aH (model X.prog X.w) X.A.in1.in1 (pure ():Sem Unit) _ _ s6 from h6) (λ _ s7  zq0=>?_) λ_ _ z=>z);obtain ⟨v,H7,I7,r7,y7,SI,fr7⟩:=zq0;have oS7:=(I7.pin (s1.heap.objs.size,_) (az _ (az _ aE))).1;have nS7:=(I7.pin (s1.heap.objs.size,_) (az _ (az _ aE))).2.1;obtain⟨m',hm,w7⟩:=step v H7 y7;have hlen:=Qv.length;refine jm (hz:=by rw[aD];omega) (_hz':=by show(cq.toArray.push u).size<=av+1;rw[Array.size_push,aD];omega) oS7 rfl ?_;obtain⟨n8,q8⟩:∃n8,(s7.heap.update s1.heap.objs.size (fm λa=>a.push u)).get? s1.heap.objs.size=some {cls:=.type "list",data:=.seq (cq.toArray.push u) n8}:=⟨_,ez _ oS7 rfl⟩;obtain⟨e0,e1,e2,e3,e4,e5⟩:=fS nS7;have I8:Inv (X.within X.A.in1.in1) pins σ H7 {s7 with heap:=s7.heap.update s1.heap.objs.size (fm λa=>a.push u)}:=
    (LD I7).turned (t':=s7.toks) (λb o hb e=>(cJ s7.heap _ (dz hb)).trans e) e0 e1 e3 e4 e5
   refine⟨m',hm,i+1,ys++[v],H7,cq++[u],n8,I8,T3.keep _ _ _ SI λb hb o e=>(cJ s7.heap _ (dz (hfS b hb))).trans e,fr7,nS7,Qv.append (.cons r7 .nil),?_,w7⟩;rw[show(cq++[u]).toArray=cq.toArray.push u by simp];exact q8
 refine ae (iE (ask.hint _ _ _ _ _ ty3 λroom=>?_));refine fN (λ_=>?_) (λ_=>ax ⟨plainId_quiet iG _,loop s3 nG I3u Ql oS3⟩);refine ae (pK (ae ?_));show aH _ _ (updateSeq s1.heap.objs.size (·.push .none) >>= λ_=>updateSeq s1.heap.objs.size (·.pop)) _ _ _;refine ae (jm oS3 rfl ?_);have hS4:=ez (fm (·.push dZ)) oS3 rfl;refine jm (hz:=by seq_fits) hS4 rfl ?_;have hS5:=ez (fm (·.pop)) hS4 rfl;obtain⟨e0,e1,e2,e3,e4,e5⟩:=fS nS3;have Wf:∀b o,b≠s1.heap.objs.size->s3.heap.get? b=some o->((s3.heap.update s1.heap.objs.size (fm (·.push dZ))).update s1.heap.objs.size (fm (·.pop))).get? b=some o:=
  λb o hb e=>(cJ _ _ (dz hb)).trans ((cJ _ _ (dz hb)).trans e)
 exact ax ⟨plainId_quiet iG _,loop _ _ (I3u.turned (t':=s3.toks) (λb o hb e=>Wf b o hb e) e0 e1 e3 e4 e5) (T3.keep _ _ _ Ql λb hb o e=>Wf b o (hfS b hb) e) hS5⟩
end
theorem fR.there{P:aR}{w:bH}{H:Hp}{h:bS}{a:aj}{o:HO}(x:fR P w H h a o):∃u,h.get? a=some u:=by
 cases o with
 |lst xs=>obtain⟨_,_,_,_,e⟩:=x;exact⟨_,e⟩
 |tup xs=>obtain⟨_,_,_,o,e,_⟩:=x;exact⟨_,e⟩
 |dK bh=>obtain⟨_,_,_,_,o,_,_,e,_⟩:=x;exact⟨_,e⟩
 |dT bh=>obtain⟨_,_,_,_,o,_,_,e,_⟩:=x;exact⟨_,e⟩
 |set S n=>obtain⟨o,_,_,_,e,_⟩:=x;exact⟨_,e⟩
 |ins C dx fs=>obtain⟨_,_,_,e,_⟩:=x;exact⟨_,e⟩
 |own y=>exact x
 |xd fs=>obtain⟨_,⟨_,_,_,e,_⟩,_⟩:=x;exact⟨_,e⟩
 |YH lo hi=>obtain⟨_,_,_,e⟩:=x;exact⟨_,e⟩
 |pS ob u=>obtain⟨e,_⟩:=x;exact⟨_,e⟩
 |Qd ps=>exact⟨_,(show h.get? a=some _ from x)⟩
 |met f y=>exact⟨_,(show h.get? a=some _ from x)⟩
 |ext φ=>obtain⟨_,e,_⟩:=x;exact e
structure Fl(P:aR)(w:bH)(base:bS)(outer:List Env)(H:Hp)(s:ai)(ea:aj)(cls:ah)(H':Hp)(B:bS)(s':ai):Prop where
 os:s'.os=s.os
 bare:AllBare s'.gens
 un:Un (oY outer) [] H H' s.heap s'.heap
 dS:qP P w H' s'.heap
 SV:∃a0,Dt B outer ea cls a0 s'.heap
 bs:base.StaysIn B
 FF:∀b u,H' b=some u->∃o,B.get? b=some o
 old:∀b o,s.heap.get? b=some o->H b=none->b∉oY outer->B.get? b=some o
 all:∀b o,s.heap.get? b=some o->b∉oY outer->∃o',B.get? b=some o'
noncomputable def Be(P:aR)(w:bH)(base:bS):Fv:=λouter H s E e s'=>∃ea cls H' B,e = .ref ea/\Fl P w base outer H s ea cls H' B s'/\E cls none H'
section
variable {P:aR}{w:bH}{base B:bS}{outer:List Env}{H H':Hp}{s s':ai}{ea:aj}{cls:ah}{h':bS}
theorem Un.Xp{L:aj}{fs ex:List aj}{h h1:bS}(u:Un (L::fs) ex H H' h h1)(hL:h.objs.size<=L):Un fs ex H H' h h1:=
 ⟨λb o e n hb hx=>u.keep b o e n (λz=>(bf.mp z).elim (λq=>by subst q;exact absurd (aC e) (AK.mpr hL)) hb) hx,λb o e n hb hx=>u.slot b o e n (aU _ hb) hx,u.free,u.there,u.uG,u.tS,u.uH⟩
theorem Fl.LF(F:Fl P w base outer H s ea cls H' B s')(st:B.StaysIn h'):qP P w H' h':=λb ob e=>by
 obtain⟨a0,f1,_⟩:=F.SV;refine(F.dS b ob e).vE (λc u hc q=>?_) (λ_ z=>z) λ_ _ z=>z;have ht:∃o,B.get? c=some o:=by
  rcases hc with rfl|hc
  ·exact F.FF _ _ e
  ·exact F.FF _ _ hc
 obtain⟨o,ho⟩:=ht;have h2:=f1 c o ho;rw[q]at h2;cases h2;exact st c _ ho
theorem Fl.QC(F:Fl P w base outer H s ea cls H' B s')(st:B.StaysIn h')(sl:s'.heap.UpToSlots h'):Un (oY outer) [] H H' s.heap h':=by
 obtain⟨a0,f1,f2,f3,f4⟩:=F.SV;have slot:∀b o,s.heap.get? b=some o->H b=none->b∈oY outer->∃z,h'.get? b=some {o with slots:=z}:=λb o e n hb=>by
  obtain⟨z,e1⟩:=F.un.slot b o e n hb (by simp);obtain⟨_,o',e2,hd⟩:=f3.mem hb;rw[e1]at e2;cases e2;obtain⟨z2,e3⟩:=sl b _ e1 hd;exact⟨z2,e3⟩
 refine⟨λb o e n hb _=>st b o (F.old b o e n hb),λb o e n hb _=>slot b o e n hb,F.un.free,λb o e hx=>?_,F.un.uG,F.un.tS,F.un.uH⟩;by_cases hb:b∈oY outer
 ·obtain⟨_,o',e2,hd⟩:=f3.mem hb;obtain⟨z,e3⟩:=sl b o' e2 hd;exact⟨_,e3⟩
 ·obtain⟨o',e1⟩:=F.all b o e hb;exact⟨o',st b o' e1⟩
theorem Fl.free(F:Fl P w base outer H s ea cls H' B s'):H' ea=none:=by
 obtain⟨a0,_,f2,_⟩:=F.SV;cases q:H' ea with
 |none=>rfl
 |some u=>obtain⟨o,ho⟩:=F.FF _ _ q;rw[f2]at ho;cases ho
end
section
variable {X:Cx}{pins:List (aj×Obj)}{σ:St}{H H':Hp}{s s':ai}{ea:aj}{cls:ah}{B:bS}{M:Model}{E:ah->ai->Prop}
structure Cx.Body(X:Cx):Prop where
 Dk:X.stack=X.env::X.outer
 fr:X.env.frame=some X.env.locals
 ex:X.ex=[]
theorem Cx.Body.oY(b:X.Body):L2.oY X.stack=X.env.locals::X.fs:=by
 rw[b.Dk];unfold L2.oY;rw[mF,b.fr];rfl
theorem Inv.fl(I:Inv X pins σ H s)(b:X.Body)(os:s'.os=s.os)(bare:AllBare s'.gens)(u:Un (oY X.stack) [] H H' s.heap s'.heap)(dS:qP X.prog X.w H' s'.heap)(SV:∃a0,Dt B X.outer ea cls a0 s'.heap)(bs:X.base.StaysIn B)(FF:∀b u,H' b=some u->∃o,B.get? b=some o)(old:∀b o,s.heap.get? b=some o->H b=none->b∉oY X.stack->B.get? b=some o)(all:∀b o,s.heap.get? b=some o->b∉oY X.stack->∃o',B.get? b=some o'):Fl X.prog X.w X.base X.outer X.xo X.jH ea cls H' B s':=by
 have ex0:X.ex=[]:=b.ex;have base:=I.base;rw[ex0]at base;have YI:∀c o,X.jH.heap.get? c=some o->c≠X.env.locals:=λc o e=>aZ (bw (aC e) I.ok.above);have nst:∀c o,X.jH.heap.get? c=some o->c∉X.fs->c∉oY X.stack:=λc o e hc hm=>by
  rw[b.oY]at hm;rcases bf.mp hm with z|z
  ·exact YI c o e z
  ·exact hc z
 have u0:Un (oY X.stack) [] X.xo H X.jH.heap s.heap:=base.mono (λc hc=>by rw[b.oY];exact aU _ hc) (λ_ z=>z);have u1:Un (X.env.locals::X.fs) [] X.xo H' X.jH.heap s'.heap:=by rw[<-b.oY];exact u0.trans u
 refine⟨os.trans I.os,bare,u1.Xp I.ok.above,dS,SV,bs,FF,λc o e n hc=>?_,λc o e hc=>?_⟩
 ·exact old c o (base.keep c o e n hc (by simp)) (base.free c o e n (by simp)) (nst c o e hc)
 ·obtain⟨o',e1⟩:=base.there c o e (by simp);exact all c o' e1 (nst c o e hc)
theorem Fl.leave(I:Inv X pins σ H s)(b:X.Body)(F:Fl X.prog X.w X.base X.stack H s ea cls H' B s'){Q:Unit->ai->Prop}(q:∀FT,Fl X.prog X.w X.base X.outer X.xo X.jH ea cls H' B FT->Q () FT):
  aH M X.A (leaving X.env (.ref ea)) Q E s':=by
 obtain⟨a0,hfl⟩:=F.SV;have LG:=hfl;rw[b.Dk]at LG;have Ld:=I.ok.frames;rw[b.Dk]at Ld;refine wpAny_leaves_onW Ld b.fr LG λh' f sl=>q _ ?_;exact I.fl (s':={s' with heap:=h'}) b F.os F.bare (F.QC f.1 sl) (F.LF f.1) ⟨a0,f⟩ F.bs F.FF F.old F.all
theorem Gu(I:Inv X pins σ H s)(b:X.Body){h':bS}{vs:List ah}(hx:Heap.MadeExcOf s.heap h' ea cls vs){Q:Unit->ai->Prop}(q:∀B FT,Fl X.prog X.w X.base X.outer X.xo X.jH ea cls H B FT->Q () FT):
  aH M X.A (leaving X.env (.ref ea)) Q E {s with heap:=h'}:=by
 have Ld:=I.ok.frames;rw[b.Dk]at Ld;have Dm:∀env∈X.stack,∀a,env.frame=some a->a∈oY X.stack:=λenv he a ha=>uD.mpr ⟨env,he,ha⟩;have hl:=PySem.W.funFrames_hide I.stack Dm;have JA:=hl;rw[b.Dk]at JA;rw[<-b.Dk]at JA;have KG:(iL s.heap (oY X.stack)).StaysIn s.heap:=λc o e=>Fk _ e;refine wpAny_leaves_madeW (base:=iL s.heap (oY X.stack)) (s:={s with heap:=h'}) Ld b.fr KG (by rw[<-b.Dk];exact hl) hx λh2 t f _ _ sl=>q (iL s.heap (oY X.stack)) _ ?_;have old:∀c o,s.heap.get? c=some o->c∉oY X.stack->(iL s.heap (oY X.stack)).get? c=some o:=λc o e hc=>Ds _ e hc;have FF:∀c u,H c=some u->∃o,(iL s.heap (oY X.stack)).get? c=some o:=λc u e=>by
  have hn:c∉oY X.stack:=λz=>by have:=I.B4 c z;rw[e]at this;cases this
  have i9:=I.dS.lt e;obtain⟨o,ho⟩:∃o,s.heap.get? c=some o:=(I.dS c u e).there;exact⟨o,old c o ho hn⟩
 have slot:∀c o,s.heap.get? c=some o->c∈oY X.stack->∃z,h2.get? c=some {o with slots:=z}:=λc o e hc=>by
  obtain⟨_,o',e2,hd⟩:=I.stack.mem hc;rw[e]at e2;cases e2;exact sl c o (hx.keeps c o e) hd
 refine I.fl (s':={s with heap:=h2}) b rfl I.bare ⟨λc o e n hc _=>f.1 c o (old c o e hc),λc o e n hc _=>slot c o e hc,λc o e n _=>n,λc o e _=>?_,λ_ _ z=>z,λ_ _ _ z=>z,λc ps z=>⟨#[],by rw[z];simp⟩⟩
  (λc ob e=>(I.dS c ob e).vE (λd u hd z=>?_) (λ_ z=>z) λ_ _ z=>z) ⟨_,f⟩ (λc o e=>?_) FF (λc o e _ hc=>old c o e hc) (λc o e hc=>⟨o,old c o e hc⟩)
 ·by_cases hc:c∈oY X.stack
  ·obtain⟨z,e2⟩:=slot c o e hc;exact⟨_,e2⟩
  ·exact⟨o,f.1 c o (old c o e hc)⟩
 ·have ht:∃o,(iL s.heap (oY X.stack)).get? d=some o:=by
   rcases hd with rfl|hd
   ·exact FF _ _ e
   ·exact FF _ _ hd
  obtain⟨o,ho⟩:=ht;have z2:=KG d o ho;rw[z]at z2;cases z2;exact f.1 d _ ho
 ·obtain⟨z1,z2⟩:=I.bs c o e;exact old c o z1 λhm=>by have:=(I.stack.mem hm).1;rw[e]at this;cases this
end
section
variable {P:aR}{w:bH}{K:aa}{mg:Str->Option ah}{base:bS}
theorem jP.okX{x qual:Str}{st:b9}{f:aj}{fd:be}{N ps:List Str}{k:Nat}{sp:Sp}(F:jP K x qual st f fd)(S:b5 N ps (aJ st))(len:∀vs H Q E,sp vs H Q E->vs.length=ps.length)(lU:∀(eR:ah)(A:cj)(outer:List Env)(s:ai)(H:Hp)(vs:List V)(Q:VK) (E:XK),iD k (A.deeper (envOfC qual (aJ st) s.heap.objs.size f eR))->sp vs H Q E->
   ∃t,qD (pW (Be P w base) P w K mg base N qual (aJ st) f eR A outer s H E) (eS st) t/\t {nx:=λ_ H'=>Q .ip H',rt:=Q} (start N vs) H):fi P w K mg base (Be P w base) (k+1) f fd ps sp:=by
 obtain⟨oc,od,kV,doc,pm,an,eR,ct,Jm,rfl,lk,l9⟩:=F.ex;exact Qo lk l9 S len λA outer s H vs Q E hr Av=>lU eR A outer s H vs Q E hr Av
noncomputable def SW(P:aR)(w:bH)(K:aa)(mg:Str->Option ah)(base:bS)(k:Nat)(x:Str)(ps:List Str)(sp:Sp):Prop:=
 ∃(f:aj)(fd:be),fi P w K mg base (Be P w base) k f fd ps sp/\Binds K fd ps []/\eX K (.ref f)=true/\mg x=some (.ref f)
structure sf(X:Cx)(E:XK):Prop where
 body:X.Body
 xe:∀(e:ah)(s':ai),aH (model X.prog X.w) X.A (leaving X.env e) (λ_ FT=>Be X.prog X.w X.base X.outer X.xo X.jH E e FT) (λe' FT=>Be X.prog X.w X.base X.outer X.xo X.jH E e' FT) s'->X.xe e s'
 own:PassesOwn (model X.prog X.w) X.A X.env X.xe
 hd:X.calm=true
theorem Cg{N:List Str}{qual:Str}{scope:Scope}{f:aj}{cd:ah}{A:cj}{outer:List Env}{s:ai}{H:Hp}{E:XK}:sf (pW (Be P w base) P w K mg base N qual scope f cd A outer s H E) E:=
 ⟨⟨rfl,rfl,rfl⟩,λ_ _ z=>z,PassesOwn.leaving,rfl⟩
end
section
variable {X:Cx}{E:XK}
theorem sf.passes(R:sf X E):vM (Be X.prog X.w X.base) X E:=by
 rintro pins σ H s e s' I ⟨ea,cls,H',B,rfl,F,q⟩;exact R.xe _ _ (F.leave I R.body λFT F'=>⟨ea,cls,H',B,rfl,F',q⟩)
structure Eg(K:aa)(mg:Str->Option ah)(x:Str)(C:aj):Prop where
 at_:mg x=some (.ref C)
 exc:sP K C [.type "ValueError",.type "Exception",.type "BaseException",.type "object"] "ValueError.__new__"=true
theorem Eg.own{K:aa}{mg:Str->Option ah}{x:Str}{C:aj}{h₀:bS}(c:Eg K mg x C)(X:K.In h₀):OwnCls x C [.type "ValueError",.type "Exception",.type "BaseException",.type "object"] "ValueError.__new__" mg h₀:=by
 obtain⟨e,q⟩:=c;refine⟨e,?_⟩;unfold sP at q;split at q
 ·rename_i dd cd sl ho;split at q
  ·rename_i C' bm k0 k1 k2 k3 n k5 hm hs;simp only[iB,beq_iff_eq,Bool.not_eq_true']at q;obtain⟨⟨⟨⟨⟨rfl,rfl⟩,Xq⟩,ht⟩,dS⟩,Y5⟩:=q;obtain⟨nm,bs,mro,ns,qn,hd,sn,sub,ab,col,del⟩:=cd;dsimp only at hm Xq dS Y5;subst hm Xq;have gG:sl=#[k0,k1,k2,k3,some (.builtin "ValueError.__new__"),k5]:=by
    obtain⟨l⟩:=sl;simp only at hs;rw[hs]
   subst gG;exact⟨bm,ns,nm,qn,bs,hd,sn,sub,ab,col,dd,k0,k1,k2,k3,k5,_,X _ _ ho,.of_isNs (PySem.W.isNs_of_in X dS),PySem.W.nsMap_none_of_in X dS Y5,PySem.W.tail_of_in X ht⟩
  ·cases q
 ·cases q
noncomputable def SX(C:aj)(E:XK)(t:TA):TS:=λ_ σ H=>t σ H λvs H1=>vs.length<=1000/\E (.ref C) none H1
theorem Eh{x:Str}{C:aj}{e:bc}{es:List bc}{t:TA}{np cI pos:Pos}(R:sf X E)(c:Eg X.K X.mg x C)(hg:Gl X x)(ha:PA X (e::es) t)(qX:(x==("__debug__":Str))=false:=by decide)(he:ao (e::es) X.env=(false,eval e X.env)::ao es X.env:=by rfl)(kY:(cG cI (ao es X.env)).any (·.1)=false:=by rfl):
  PS X (.Raise (some (.Call (.Name x np) (e::es) [] cI)) none pos) (SX C E t):=by
 intro pins s σ H D I h;obtain⟨tl,N,nm,q,bs,hdct,sn,sub,ab,col,dd,k0,k1,k2,k3,k5,mN,hC,hN,Y5,T⟩:=(c.own I.ok.mod.Qe).obj;refine wpAny_Raise_call_subU (C:=C) (nm:=nm) (q:=q) (N:=N) (bs:=bs) (bm:=tl) (hdct:=hdct) (sn:=sn) (sub:=sub) (ab:=ab) (col:=col) (dd:=dd) (k0:=k0) (k1:=k1) (k2:=k2) (k3:=k3) (k5:=k5)
  xI (by decide) xI (mN:=mN) (T.hasType (by decide)) (I.ok.hd R.hd) (by rw[he];show(false||(cG cI (ao es X.env)).any (·.1))=false;rw[kY];rfl) Y5 (pU I hg c.at_ ⟨rfl,?_⟩ qX)
 have go:=ha cI pins s σ H _ I h;rw[he]at go ⊢;refine rX (bO go (λus s2 ⟨vs,H2,I2,r,hz,q2⟩=>⟨rfl,?_,I2.bk _ _ hC,hN.keeps I2.bk,T.keeps I2.bk,λh' ea hx=>?_⟩) λ_ _ z=>z)
 ·rw[<-r.length];exact fj (sd hz)
 ·exact R.xe _ _ (Gu I2 R.body hx λB FT F=>⟨ea,.ref C,H2,B,rfl,F,q2⟩)
end
noncomputable abbrev Cx.pZ(X:Cx)(ea:aj)(oe:Obj):Cx:={X with A:=X.A.mark (some (.ref ea)),calm:=false,xe:=λ_ _=>False,pn:=(ea,oe)::X.pn}
section
variable {X:Cx}{pins:List (aj×Obj)}{σ:St}{H:Hp}{s:ai}{ea:aj}{oe:Obj}
theorem Inv.pZ(I:Inv X pins σ H s)(h:s.heap.get? ea=some oe/\H ea=none/\ea≠X.env.locals/\ea∉X.fs/\∀v,oe.data≠.cell v):Inv (X.pZ ea oe) pins σ H s:=by
 obtain⟨ok,a1,a2,a3,a4,a5,a6,a7,pin,a8,a9⟩:=I;refine⟨⟨ok.mod,ok.kind,ok.glob,ok.blt,ok.above,ok.inj,ok.has,ok.Qf,(λz=>nomatch z),ok.frames,ok.Dk,ok.WB,ok.bs,ok.Kw,ok.Dw,ok.FG,ok.uI,ok.NZ⟩,a1,a2,a3,a4,a5,a6,a7,λp hp=>?_,a8,a9⟩;rcases bf.mp (show p∈(ea,oe)::(X.pn++pins)from hp)with rfl|hp
 ·exact h
 ·exact pin p hp
theorem Inv.uncaught(ok:X.Ok)(I:Inv (X.pZ ea oe) pins σ H s):Inv X pins σ H s:=
 ⟨ok,I.os,I.bare,I.base,I.loc,I.cell,I.free,I.o9,λp hp=>I.pin p (show p∈(ea,oe)::(X.pn++pins)from aU _ hp),I.dS,I.len⟩
theorem SP.uncaught{D:Ends}{f:Flow}{s':ai}(ok:X.Ok)(h:SP (X.pZ ea oe) pins D f s'):SP X pins D f s':=by
 cases f with
 |next=>obtain⟨dI,H',I,q⟩:=h;exact⟨dI,H',I.uncaught ok,q⟩
 |brk=>obtain⟨dI,H',I,q⟩:=h;exact⟨dI,H',I.uncaught ok,q⟩
 |cont=>obtain⟨dI,H',I,q⟩:=h;exact⟨dI,H',I.uncaught ok,q⟩
 |ret u=>obtain⟨v,dI,H',I,r,q⟩:=h;exact⟨v,dI,H',I.uncaught ok,r,q⟩
theorem Fl.pinned{X:Cx}{H0 H':Hp}{s0 s':ai}{cls a0:ah}{B h':bS}(F:Fl X.prog X.w X.base X.stack H0 s0 ea cls H' B s')(I:Inv X pins σ H0 s0)(b:X.Body)(f:Dt B X.stack ea cls a0 h'):
  ∃oe,oe.cls=cls/\h'.get? ea=some oe/\H' ea=none/\ea≠X.env.locals/\ea∉X.fs/\∀v,oe.data≠.cell v:=by
 obtain⟨oe,vs,e1,e2,e3,e4⟩:=f.first;have nf:ea∉oY X.stack:=λz=>by
  obtain⟨_,o,ho,hd⟩:=f.2.2.1.mem z;rw[e1]at ho;cases ho;exact hd _ e3
 rw[b.oY]at nf;exact⟨oe,e2,e1,F.free,λz=>nf (by rw[z];exact aE),λz=>nf (aU _ z),λv z=>by rw[e3]at z;cases z⟩
theorem Fl.inv{X:Cx}{H0 H':Hp}{s0 s':ai}{cls:ah}{B h':bS}(F:Fl X.prog X.w X.base X.stack H0 s0 ea cls H' B s')(I:Inv X pins σ H0 s0)(st:B.StaysIn h')(sl:s'.heap.UpToSlots h'):Inv X pins σ H' {s' with heap:=h'}:=
 I.Qi (s':={s' with heap:=h'}) (ch:=[]) F.os (F.QC st sl) (F.LF st) F.bare λb z=>absurd z (by simp)
end
noncomputable def mV(h:bS)(zp TI TO:aj):Prop:=∃f0 f1,h.get? zp=some {cls:=.type "zip",dict:=none,data:=.fields #[f0,f1,.bool false,.ref TI,.ref TO],slots:=#[]}/\(f0 = .none\/∃T:Nat,f0=rawInt T)
theorem bY{a b:aj}{h h':bS}{o:Obj}(x:gx a h h')(n:b≠a)(e:h.get? b=some o):h'.get? b=some o:=(x.2 b n).trans e
theorem ne2{c a b z:aj}(h:c=a\/c=b)(h1:a≠z)(h2:b≠z):c≠z:=by
 rcases h with rfl|rfl
 ·exact h1
 ·exact h2
section
variable {prog:aR}{w:bH}{A:cj}{E:ah->ai->Prop}{s:ai}{zp TI TO i1 i2 t1 t2:aj}{i n1 n2:Nat}{P1 P2:Nat->ah->Prop}{S1 S2:Nat->bS->Prop}
theorem Bf{a:aj}{Q:Option Obj->ai->Prop}(h:∀o,Q o s):aH (model prog w) A (loadIfAlive a) Q E s:=by
 first
  |exactλΓ hΓ p=>h _
  |(intro Γ hΓ p;exact h _)
theorem Ei{Q:Bool->ai->Prop}(hz:mV s.heap zp TI TO)(h:∀b h',mV h' zp TI TO->(b=true->∃f0 f1,h'.get? zp=some {cls:=.type "zip",dict:=none,data:=.fields #[f0,f1,.bool false,.ref TI,.ref TO],slots:=#[]})->gx zp s.heap h'->Q b {s with heap:=h'}):
  aH (model prog w) A (fM (.ref zp)) Q E s:=by
 obtain⟨f0,f1,hz,hf⟩:=hz;have here:∀b,Q b s:=λb=>h b s.heap ⟨f0,f1,hz,hf⟩ (λ_=>⟨f0,f1,hz⟩) ⟨rfl,λ_ _=>rfl⟩;unfold fM;refine ae (df hz rfl (x:=f0) rfl ?_);rcases hf with rfl|⟨T,rfl⟩
 ·exact ax (here true)
 ·show aH _ _ (loadIfAlive _ >>= _) _ _ _;refine ae (Bf λo=>?_);cases o with
  |none=>exact ax (here true)
  |some ob=>
   refine ae (df hz rfl (x:=f1) rfl ?_);refine fN (λ_=>?_) (λ_=>ax (here false));refine ae (cQ hz (by simp) λh1 e1 s1=>ax (h false h1 ⟨_,_,e1,.inr ⟨T,rfl⟩⟩ (λz=>nomatch z) s1))
theorem LH{Q:ah->ai->Prop}(D1:Draws prog w A i1 [i1,t1] n1 P1 S1)(D2:Draws prog w A i2 [i2,t2] n2 P2 S2)(ap:ZipApart zp TI TO i1 i2 t1 t2)(hz:mV s.heap zp TI TO)(hI:IsPair s.heap TI (.ref i1) (.ref i2))(hO:∃a b,IsPair s.heap TO a b)(h1:S1 i s.heap)(h2:S2 i s.heap)(l1:i<n1)(l2:i<n2)(hQ:∀p h' tk x y,P1 i x->P2 i y->s.heap.objs.size<=p->IsPair h' p x y->mV h' zp TI TO->IsPair h' TI (.ref i1) (.ref i2)->(∃a b,IsPair h' TO a b)->S1 (i+1) h'->S2 (i+1) h'->
   (∀c o,c≠zp->c≠TO->c≠i1->c≠i2->s.heap.get? c=some o->h'.get? c=some o)->Q (.ref p) {s with heap:=h',toks:=tk}):
  aH (model prog w) A (Builtin.«zip.__next__» ⟨[.ref zp],[]⟩) (λfin s'=>∃v,fin = .done (.ret v)/\Q v s') E s:=by
 obtain⟨f0,f1,Ej,hf0⟩:=id hz;show aH _ _ (field (.ref zp) 2 >>= _) _ _ _;refine ae (df Ej rfl (x:=.bool false) rfl ?_);show aH _ _ (field (.ref zp) 3 >>= _) _ _ _;refine ae (df Ej rfl (x:=.ref TI) rfl (ae (gj hI rfl ?_)));show aH _ _ (fM (.ref zp) >>= _) _ _ _;refine ae (Ei hz λb g0 z0 zf s0=>?_);have SY:∀{j:Nat}{h h':bS},S1 j h->(∀c o,c=i1\/c=t1->h.get? c=some o->h'.get? c=some o)->S1 j h':=λ{j h h'} st k=>D1.frame j h h' st λc hc o e=>k c o (by simpa using hc) e;have Y6:∀{j:Nat}{h h':bS},S2 j h->(∀c o,c=i2\/c=t2->h.get? c=some o->h'.get? c=some o)->S2 j h':=λ{j h h'} st k=>D2.frame j h h' st λc hc o e=>k c o (by simpa using hc) e;cases b with
 |true=>
  obtain⟨g0f,g1f,zz⟩:=zf rfl;obtain⟨a,b,hO⟩:=hO;simp only[if_true];refine ae (pK (ae (df zz rfl (x:=.ref TO) rfl ?_)));refine ae (cQ zz (by simp) λk1 z1 s1=>ae ?_);simp only[List.zipIdx_cons,List.zipIdx_nil,iX,nE];refine ae (ae (wpAny_onRaise ?_));show aH _ _ (cB (.ref i1) >>= _) _ _ _;refine ae (D1.item i {s with heap:=k1} _ _ l1 (SY h1 λc o hc e=>bY s1 (ne2 hc ap.i1z ap.l1z) (bY s0 (ne2 hc ap.i1z ap.l1z) e)) λx k2 Qy p1 Xr s2=>ax ?_);have O2:IsPair k2 TO a b:=bY s2 ap.TOi1 (bY s1 ap.TOz (bY s0 ap.TOz hO));refine ae (gj O2 rfl (ae (wpAny_updateSeq_pair O2 λk3 O3 s3=>ae (vy (ax ?_)))));refine ae (ae (wpAny_onRaise ?_));show aH _ _ (cB (.ref i2) >>= _) _ _ _
  refine ae (D2.item i {s with heap:=k3,toks:=Qy} _ _ l2 (Y6 h2 λc o hc e=>bY s3 (ne2 hc ap.TOi2.symm ap.l2TO) (bY s2 (ne2 hc ap.i12.symm ap.l2i1)
   (bY s1 (ne2 hc ap.i2z ap.l2z) (bY s0 (ne2 hc ap.i2z ap.l2z) e)))) λy k4 tk4 p2 yq s4=>ax ?_)
  have O4:IsPair k4 TO x b:=bY s4 ap.TOi2 O3;refine ae (gj O4 rfl (ae (wpAny_updateSeq_pair O4 λk5 O5 s5=>ae (vy (ax (ax ?_))))));have O5:IsPair k5 TO x y:=O5;refine ae (gj O5 rfl (ae (Fq ?_)));have z5:=bY s5 ap.TOz.symm (bY s4 ap.i2z.symm (bY s3 ap.TOz.symm (bY s2 ap.i1z.symm z1)));have sz:k5.objs.size=s.heap.objs.size:=by rw[s5.1,s4.1,s3.1,s2.1,s1.1,s0.1]
  show aH _ _ (nJ (.ref zp) (.ref k5.objs.size) >>= _) _ _ _;refine ae ?_;unfold nJ;refine ae (cQ (af _ z5) (by simp) λk7 z7 s7=>?_);refine cQ z7 (by simp) λk8 z8 s8=>ax ⟨_,rfl,?_⟩;have nz:k5.objs.size≠zp:=dG (aC z5);have up:∀c o,c≠zp->k5.get? c=some o->k8.get? c=some o:=λc o n e=>bY s8 n (bY s7 n (af _ e));have all:∀c o,c≠zp->c≠TO->c≠i1->c≠i2->s.heap.get? c=some o->k8.get? c=some o:=λc o c1 c2 c3 c4 e=>
   up c o c1 (bY s5 c2 (bY s4 c4 (bY s3 c2 (bY s2 c3 (bY s1 c1 (bY s0 c1 e))))))
  refine hQ k5.objs.size k8 _ x y p1 p2 (by rw[sz];exact au _) (bY s8 nz (bY s7 nz (aB _ rfl))) ⟨_,_,z8,.inr ⟨k5.objs.size,rfl⟩⟩ (all _ _ ap.TIz ap.TITO ap.TIi1 ap.TIi2 hI) ⟨x,y,up _ _ ap.TOz O5⟩ ?_ ?_ all
  ·exact SY Xr λc o hc e=>up c o (ne2 hc ap.i1z ap.l1z) (bY s5 (ne2 hc ap.TOi1.symm ap.l1TO) (bY s4 (ne2 hc ap.i12 ap.l1i2) (bY s3 (ne2 hc ap.TOi1.symm ap.l1TO) e)))
  ·exact Y6 yq λc o hc e=>up c o (ne2 hc ap.i2z ap.l2z) (bY s5 (ne2 hc ap.TOi2.symm ap.l2TO) e)
 |false=>
  simp only[iN,if_false];refine ae (wpAny_arrayLoop ?_);simp only[iX,nE];refine ae (ae (iE ?_));show aH _ _ (cB (.ref i1) >>= _) _ _ _;refine ae (D1.item i {s with heap:=g0} _ _ l1 (SY h1 λc o hc e=>bY s0 (ne2 hc ap.i1z ap.l1z) e) λx k2 Qy p1 Xr s2=>ax (ax ?_));refine ae (ae (iE ?_));show aH _ _ (cB (.ref i2) >>= _) _ _ _;refine ae (D2.item i {s with heap:=k2,toks:=Qy} _ _ l2 (Y6 h2 λc o hc e=>bY s2 (ne2 hc ap.i12.symm ap.l2i1) (bY s0 (ne2 hc ap.i2z ap.l2z) e)) λy k4 tk4 p2 yq s4=>ax (ax (ax ?_)));refine ae (Fq (hsz:=by show 2<=av;decide) (ax ⟨_,rfl,?_⟩));have sz:k4.objs.size=s.heap.objs.size:=by rw[s4.1,s2.1,s0.1]
  have all:∀c o,c≠zp->c≠i1->c≠i2->s.heap.get? c=some o->k4.get? c=some o:=λc o c1 c3 c4 e=>bY s4 c4 (bY s2 c3 (bY s0 c1 e));obtain⟨f0',f1',z4,hf4⟩:=z0;obtain⟨a,b,hO⟩:=hO;refine hQ k4.objs.size _ _ x y p1 p2 (by rw[sz];exact au _) (aB _ rfl) ⟨f0',f1',af _ (bY s4 ap.i2z.symm (bY s2 ap.i1z.symm z4)),hf4⟩ (af _ (all _ _ ap.TIz ap.TIi1 ap.TIi2 hI))
   ⟨a,b,af _ (all _ _ ap.TOz ap.TOi1 ap.TOi2 hO)⟩ (SY Xr λc o hc e=>af _ (bY s4 (ne2 hc ap.i12 ap.l1i2) e)) (Y6 yq λc o hc e=>af _ e)
   (λc o c1 _ c3 c4 e=>af _ (all c o c1 c3 c4 e))
theorem OJ{Q:Fin->ai->Prop}(D1:Draws prog w A i1 [i1,t1] n1 P1 S1)(ap:ZipApart zp TI TO i1 i2 t1 t2)(hz:mV s.heap zp TI TO)(hI:IsPair s.heap TI (.ref i1) (.ref i2))(hO:∃a b,IsPair s.heap TO a b)(h1:S1 n1 s.heap)(hE:∀h' e,(∀c o,c≠zp->c≠i1->s.heap.get? c=some o->h'.get? c=some o)->(∃o,h'.get? e=some o/\o.cls = .type "StopIteration")->E (.ref e) {s with heap:=h'}):
  aH (model prog w) A (Builtin.«zip.__next__» ⟨[.ref zp],[]⟩) Q E s:=by
 obtain⟨f0,f1,Ej,hf0⟩:=id hz;show aH _ _ (field (.ref zp) 2 >>= _) _ _ _;refine ae (df Ej rfl (x:=.bool false) rfl ?_);show aH _ _ (field (.ref zp) 3 >>= _) _ _ _;refine ae (df Ej rfl (x:=.ref TI) rfl (ae (gj hI rfl ?_)));show aH _ _ (fM (.ref zp) >>= _) _ _ _;refine ae (Ei hz λb g0 z0 zf s0=>?_);have SY:∀{j:Nat}{h h':bS},S1 j h->(∀c o,c=i1\/c=t1->h.get? c=some o->h'.get? c=some o)->S1 j h':=λ{j h h'} st k=>D1.frame j h h' st λc hc o e=>k c o (by simpa using hc) e;cases b with
 |true=>
  obtain⟨g0f,g1f,zz⟩:=zf rfl;simp only[if_true];refine ae (pK (ae (df zz rfl (x:=.ref TO) rfl ?_)));refine ae (cQ zz (by simp) λk1 z1 s1=>ae ?_);simp only[List.zipIdx_cons,List.zipIdx_nil,iX,nE];refine ae (ae (wpAny_onRaise ?_));show aH _ _ (cB (.ref i1) >>= _) _ _ _;refine ae (D1.done {s with heap:=k1} _ _ (SY h1 λc o hc e=>bY s1 (ne2 hc ap.i1z ap.l1z) (bY s0 (ne2 hc ap.i1z ap.l1z) e)) λk2 e s2 he=>?_);obtain⟨oe,hoe,hce⟩:=he;have z2:=s2 _ _ ap.i1z.symm z1;have ne:e≠zp:=λx=>by subst x;rw[z2]at hoe;cases hoe;simp at hce
  exact cQ z2 (by simp) λk3 _ s3=>hE k3 e (λc o c1 c3 x=>bY s3 c1 (s2 _ _ c3 (bY s1 c1 (bY s0 c1 x)))) ⟨oe,bY s3 ne hoe,hce⟩
 |false=>
  simp only[iN,if_false];refine ae (wpAny_arrayLoop ?_);simp only[iX,nE];refine ae (ae (iE ?_));show aH _ _ (cB (.ref i1) >>= _) _ _ _;exact ae (D1.done {s with heap:=g0} _ _ (SY h1 λc o hc e=>bY s0 (ne2 hc ap.i1z ap.l1z) e) λk2 e s2 he=>hE k2 e (λc o c1 c3 x=>s2 _ _ c3 (bY s0 c1 x)) he)
end
section
variable {X:Cx}{pins:List (aj×Obj)}{σ:St}{H:Hp}{s:ai}
theorem Inv.xY{h':bS}{t':Nat}(ch:List aj)(I:Inv X pins σ H s)(hf:∀b∈ch,oB X pins H b)(kp:∀b o,b∉ch->s.heap.get? b=some o->h'.get? b=some o):Inv X pins σ H {s with heap:=h',toks:=t'}:=by
 have Qg:∀b u,H b=some u->b∉ch:=λb u e z=>by rw[(hf b z).1]at e;cases e
 refine I.step (g':=s.gens) (d':=s.drawn) (ch:=ch) (λb hb=>?_) (λb o _ _ hc e _=>kp b o hc e) (λb o _ _ hc e _=>⟨o.slots,kp b o hc e⟩) (λ_ _ _ _ n=>n)
  (λb o hc e=>⟨o,kp b o hc e⟩) (λ_ _ e=>e) (λ_ _ _ e=>e) (λb ps e=>⟨#[],by rw[e];simp⟩) (λm hm=>?_) (λb u e=>?_) I.bare
 ·obtain⟨_,f1,_,f3,f4,f5⟩:=hf b hb;exact⟨f3,f1,f4,f5⟩
 ·obtain⟨o,es,ep,ho,r⟩:=hm;exact⟨o,es,ep,kp _ o (λz=>(hf _ z).2.1 rfl) ho,r⟩
 ·refine(I.dS b u e).vE (λc v hc q=>kp c v ?_ q) (λ_ q=>q) λ_ _ q=>q;rcases hc with z|z
  ·rw[z];exact Qg b u e
  ·exact Qg c _ z
end
structure Src(P:aR)(w:bH)(K:aa)(it t:aj)(src:Hp->List V->Prop)(si:Nat->bS->Prop)(ct:Array ah->bS->Prop):Prop where
 obj:∀i h,si i h->∃o,h.get? it=some o/\∀v,o.data≠.cell v
 keep:∀i h h',si i h->(∀o,h.get? it=some o->h'.get? it=some o)->si i h'
 draws:∀(A:cj),A.handled=none->∀items,Draws P w A it [it,t] items.size (λi v=>items[i]?=some v) (λi h=>si i h/\ct items h)
 items:∀(X:Cx),X.prog=P->X.w=w->X.K=K->∀(pins:List (aj×Obj)) (s:ai) (σ:St) (H:Hp) xs,Inv X pins σ H s->src H xs->∃cq:List ah,cX xs cq/\ct cq.toArray s.heap/\xs.length<=av
 inj:∀(X:Cx),X.prog=P->X.w=w->X.K=K->∀(pins:List (aj×Obj)) (s:ai) (σ:St) (H:Hp) xs ys,Inv X pins σ H s->src H xs->src H ys->xs=ys
theorem HN{x y:Nat}(h:x<y):x≠y:=aZ h
theorem Y7{x y:Nat}(h:y<x):x≠y:=dG h
theorem apart_new(n a b:Nat)(ha:a<n)(hb:b<n):ZipApart (n+4) (n+2) (n+3) n (n+1) a b:=
 ⟨HN (x:=n+2) (y:=n+4) (by omega),HN (x:=n+3) (y:=n+4) (by omega),HN (x:=n) (y:=n+4) (by omega),HN (x:=n+1) (y:=n+4) (by omega),HN (x:=n+2) (y:=n+3) (by omega),Y7 (x:=n+2) (y:=n) (by omega),Y7 (x:=n+2) (y:=n+1) (by omega),Y7 (x:=n+3) (y:=n) (by omega),Y7 (x:=n+3) (y:=n+1) (by omega),HN (x:=n) (y:=n+1) (by omega),HN (x:=a) (y:=n+4) (by omega),HN (x:=a) (y:=n+3) (by omega),HN (x:=a) (y:=n) (by omega),HN (x:=a) (y:=n+1) (by omega),HN (x:=b) (y:=n+4) (by omega),HN (x:=b) (y:=n+3) (by omega),HN (x:=b) (y:=n) (by omega),HN (x:=b) (y:=n+1) (by omega)⟩
noncomputable def S0(s1 s2:Hp->List V->Prop):It:=
 ⟨λi H=>∃xs ys,s1 H xs/\s2 H ys/\xs.length=ys.length/\i<xs.length,λi H v H'=>∃p x y,v = .ref p/\H p=none/\H'=upd H p (.tup [x,y])/\∀xs ys,s1 H xs->s2 H ys->xs[i]?=some x/\ys[i]?=some y,
  λi H=>∃xs ys,s1 H xs/\s2 H ys/\xs.length=ys.length/\i=xs.length⟩
theorem Bg {yC : bc} {P : aR} {w : bH} {K : aa} {zp TI TO i1 i2 t1 t2 : aj} {QD QE : Hp → List V → Prop} {QF QG : Nat → bS → Prop} {Xs Xt : Array ah → bS → Prop} (ap : ZipApart zp TI TO i1 i2 t1 t2)
    (go : ∀ {A : cj} {E : ah → ai → Prop} {s : ai} {p : aj} {Q : Unit → ai → Prop}, mV s.heap zp TI TO → (∀ h', mV h' zp TI TO → gx zp s.heap h' → Q () { s with heap := h' }) → aH (model P w) A (letOwnedTupleGo yC (.ref zp) (.ref p)) Q E s)
    (S1 : Src P w K i1 t1 QD QF Xs) (S2 : Src P w K i2 t2 QE QG Xt) :
    Turn P w K yC (S0 QD QE) [zp, TI, TO, i1, i2] zp (fun i h => mV h zp TI TO ∧ IsPair h TI (.ref i1) (.ref i2) ∧ (∃ a b, IsPair h TO a b) ∧ QF i h ∧ QG i h) where
  mem := by simp
  obj := fun i h ⟨⟨f0, f1, z, _⟩, h1, ⟨a, b, h2⟩, h3, h4⟩ c hc => by
    simp only [bf, cM, or_false] at hc
    rcases hc with rfl | rfl | rfl | rfl | rfl
    · exact ⟨_, z, fun v q => by cases q⟩
    · exact ⟨_, h1, fun v q => by cases q⟩
    · exact ⟨_, h2, fun v q => by cases q⟩
    · exact S1.obj i h h3
    · exact S2.obj i h h4
  keep := fun i h h' ⟨⟨f0, f1, z, zz⟩, h1, ⟨a, b, h2⟩, h3, h4⟩ k =>
    ⟨⟨f0, f1, k zp (by simp) _ z, zz⟩, k TI (by simp) _ h1, ⟨a, b, k TO (by simp) _ h2⟩, S1.keep i h h' h3 fun o e => k i1 (by simp) o e, S2.keep i h h' h4 fun o e => k i2 (by simp) o e⟩
  item := by
    intro X hP hw hK hc i pins s σ H E I hf st hg
    subst hP hw hK
    obtain ⟨xs, ys, q1, q2, hl, hi⟩ := hg
    obtain ⟨yL, r1, c1, z1⟩ := S1.items X rfl rfl rfl pins s σ H xs I q1
    obtain ⟨sR, r2, c2, z2⟩ := S2.items X rfl rfl rfl pins s σ H ys I q2
    obtain ⟨hz, hI, hO, h1, h2⟩ := st
    obtain ⟨f0, f1, Ej, _⟩ := id hz
    have hT : s.TypeIs (.ref zp) "zip" := ⟨_, Ej, rfl⟩
    have e1 := r1.length
    have e2 := r2.length
    unfold pyNext
    refine ae (xn (ff (name := fk "__next__") hT nA (fg nA hT F.entry_zip_next
      (LH (i := i) (S1.draws X.A.in1 (I.ok.hd hc) yL.toArray) (S2.draws X.A.in1 (I.ok.hd hc) sR.toArray) ap hz hI hO ⟨h1, c1⟩ ⟨h2, c2⟩ (by rw [aD]; omega) (by rw [aD]; omega) fun p h' tk x y p1 p2 hp SF z' I' O' Xr yq kp => ax ?_) (F.args_zip_next_1 _))))
    refine ⟨.ref p, rfl, ?_⟩
    refine go z' fun hh2 z2 Wg => ?_
    have fp : ∀ b ∈ [zp, TO, i1, i2], oB X pins H b := fun b hb => hf b (by simp only [bf, cM, or_false] at hb ⊢; rcases hb with h | h | h | h <;> simp [h])
    have J : Inv X pins σ H { s with heap := hh2, toks := tk } := I.xY [zp, TO, i1, i2] fp fun b o hb e => by
      simp only [bf, cM, or_false, not_or] at hb
      exact (Wg.2 b hb.1).trans (kp b o hb.1 hb.2.1 hb.2.2.1 hb.2.2.2 e)
    have npz : p ≠ zp := fun q => absurd (aC Ej) (by rw [← q]; exact AK.mpr hp)
    have nI : TI ≠ zp := ap.1
    have nO : TO ≠ zp := ap.2
    have n1 : i1 ≠ zp := ap.3
    have n2 : i2 ≠ zp := ap.4
    have g1 : xs[i]? = some (xs[i]'hi) := ag hi
    have g2 : ys[i]? = some (ys[i]'(hl ▸ hi)) := ag (hl ▸ hi)
    obtain ⟨u1, k1, v1⟩ := r1.get g1
    obtain ⟨u2, k2, v2⟩ := r2.get g2
    have ex : u1 = x := by have q : yL[i]? = some x := by simpa using p1
                           rw [k1] at q; exact bE q
    have ey : u2 = y := by have q : sR[i]? = some y := by simpa using p2
                           rw [k2] at q; exact bE q
    subst ex ey
    have QH : H p = none := I.dS.fresh hp
    have J2 := J.adopt (D := p) (o := .tup [xs[i]'hi, ys[i]'(hl ▸ hi)]) (I.oC hp QH) ⟨by show 2 ≤ av; decide, [u1, u2], .cons v1 (.cons v2 .nil), ⟨_, (Wg.2 p npz).trans SF, rfl, _, rfl⟩⟩
    refine ⟨.ref p, _, J2, rfl, ⟨p, _, _, rfl, QH, rfl, fun OK Wh a b => ?_⟩, ⟨z2, (Wg.2 TI nI).trans I', (let ⟨a, b, q⟩ := O'; ⟨a, b, (Wg.2 TO nO).trans q⟩), S1.keep _ _ _ Xr.1 fun o e => (Wg.2 i1 n1).trans e, S2.keep _ _ _ yq.1 fun o e => (Wg.2 i2 n2).trans e⟩, fun b hb => ?_⟩
    · rw [S1.inj X rfl rfl rfl pins s σ H OK xs I a q1, S2.inj X rfl rfl rfl pins s σ H Wh ys I b q2]; exact ⟨g1, g2⟩
    · have hbl : b < s.heap.objs.size := by
        simp only [bf, cM, or_false] at hb
        obtain ⟨a', b', hO'⟩ := hO
        obtain ⟨o1, w1, _⟩ := S1.obj _ _ h1
        obtain ⟨o2, w2, _⟩ := S2.obj _ _ h2
        rcases hb with rfl | rfl | rfl | rfl | rfl
        · exact aC Ej
        · exact aC hI
        · exact aC hO'
        · exact aC w1
        · exact aC w2
      rw [bP (aZ (bw hbl hp))]
      exact (hf b hb).1
  done := by
    intro X hP hw hK hc i pins s σ H E I hf st hg
    subst hP hw hK
    obtain ⟨xs, ys, q1, q2, hl, hi⟩ := hg
    obtain ⟨yL, r1, c1, z1⟩ := S1.items X rfl rfl rfl pins s σ H xs I q1
    obtain ⟨hz, hI, hO, h1, h2⟩ := st
    obtain ⟨f0, f1, Ej, _⟩ := id hz
    have hT : s.TypeIs (.ref zp) "zip" := ⟨_, Ej, rfl⟩
    have e1 := r1.length
    have Dm : i = yL.toArray.size := by rw [aD]; omega
    subst Dm
    unfold pyNext
    refine ae (xn (ff (name := fk "__next__") hT nA (fg nA hT F.entry_zip_next
      (OJ (S1.draws X.A.in1 (I.ok.hd hc) yL.toArray) ap hz hI hO ⟨h1, c1⟩ fun h' e kp he => ?_) (F.args_zip_next_1 _))))
    obtain ⟨o, ho, YY⟩ := he
    refine ae (rY (T := "StopIteration") (b := true) ⟨o, ho, YY⟩ isSubtype_stop (ax ⟨rfl, ?_⟩))
    exact I.xY (t' := s.toks) [zp, i1] (fun b hb => hf b (by simp only [bf, cM, or_false] at hb ⊢; rcases hb with h | h <;> simp [h])) fun b o hb e => by
      simp only [bf, cM, or_false, not_or] at hb
      exact kp b o hb.1 hb.2 e
  self := fun A i s Q E ⟨⟨f0, f1, z, _⟩, _⟩ h => by
    have hT : s.TypeIs (.ref zp) "zip" := ⟨_, z, rfl⟩
    exact Ab hT F.slot_zip_iter (fg F.slot_zip_iter hT F.entry_zip_iter (ax ⟨_, rfl, "zip", _, hT, nA.lookup, h⟩) (F.args_zip_iter_1 _))
theorem LI{P:aR}{w:bH}{K:aa}{zp TI TO i1 i2 t1 t2:aj}{QD QE:Hp->List V->Prop}{QF QG:Nat->bS->Prop}{Xs Xt:Array ah->bS->Prop}(ap:ZipApart zp TI TO i1 i2 t1 t2)(S1:Src P w K i1 t1 QD QF Xs)(S2:Src P w K i2 t2 QE QG Xt):
  Turn P w K nmT (S0 QD QE) [zp,TI,TO,i1,i2] zp (λi h=>mV h zp TI TO/\IsPair h TI (.ref i1) (.ref i2)/\(∃a b,IsPair h TO a b)/\QF i h/\QG i h):=Bg ap (λhz hQ=>ax (hQ _ hz ⟨rfl,λ_ _=>rfl⟩)) S1 S2
theorem Ci{P:aR}{w:bH}{K:aa}{it a:aj}(ne:a≠it):Src P w K it a (λH ys=>fF K H a ys) (λi h=>h.IsTupleIter it a i) (λitems h=>h.IsTuple a items):=
 ⟨by rintro i h ⟨o,e1,_,e2⟩;exact ⟨o,e1,λv z=>by rw[e2]at z;cases z⟩,by rintro i h h' ⟨o,e1,r⟩ k;exact ⟨o,k o e1,r⟩,λA hh items=>Ba hh it a ne items,
  λX' hP hw hK j6 s' dI H' ys I' hy=>by
   rw[<-hK]at hy;obtain⟨pV,SK,pt',Gj⟩:=I'.tuple hy;exact⟨pV,SK,pt',Gj⟩,
  λX' hP hw hK j6 s' dI H' ys zs I' hy Lm=>by rw[<-hK]at hy Lm;exact I'.vF hy Lm⟩
theorem OL{P:aR}{w:bH}{K:aa}{it a:aj}(ne:a≠it):Src P w K it a (λH ys=>fU K H a ys) (λi h=>h.IsListIter it a i) (λitems h=>h.IsList a items):=
 ⟨by rintro i h ⟨o,e1,_,e2⟩;exact ⟨o,e1,λv z=>by rw[e2]at z;cases z⟩,by rintro i h h' ⟨o,e1,r⟩ k;exact ⟨o,k o e1,r⟩,λA hh items=>Draws.list hh it a ne items,
  λX' hP hw hK j6 s' dI H' ys I' hy=>by
   rw[<-hK]at hy;obtain⟨pV,SK,We,Gj⟩:=I'.list hy;exact⟨pV,SK,We.isList,Gj⟩,
  λX' hP hw hK j6 s' dI H' ys zs I' hy Lm=>by rw[<-hK]at hy Lm;exact I'.uL hy Lm⟩
section
variable {prog:aR}{w:bH}{A:cj}{E:ah->ai->Prop}{s:ai}
theorem Gv:typeLookup (.type "zip") "__len__"=pure none:=by rw[typeLookup_type,builtinLookup_eq_fast];kernel_rfl
theorem Ek:typeLookup (.type "zip") "__length_hint__"=pure none:=by rw[typeLookup_type,builtinLookup_eq_fast];kernel_rfl
theorem JB:LB prog w "zip" where
 nl:=by decide
 nt:=by decide
 hint:=λA E a s Q hT h=>by
  unfold fT;refine ae (kU hT Gv ?_);show aH _ _ (specialOf (cO a) (fk "__length_hint__") >>= _) _ _ _;exact ae (kU hT Ek (ax (h true)))
end
noncomputable abbrev Y8(h:bS)(l1:aj):bS:=h.push {cls:=.type "tuple_iterator",data:=.fields #[.ref l1,.int 0 0]}
noncomputable abbrev Y9(h:bS)(l1 l2:aj):bS:=(Y8 h l1).push {cls:=.type "tuple_iterator",data:=.fields #[.ref l2,.int 0 0]}
noncomputable abbrev Za(h:bS)(l1 l2:aj):bS:=(Y9 h l1 l2).push {cls:=.type "tuple",data:=.seq #[.ref h.objs.size,.ref (Y8 h l1).objs.size]}
noncomputable abbrev Zb(h:bS)(l1 l2:aj):bS:=(Za h l1 l2).push {cls:=.type "tuple",data:=.seq #[.none,.none]}
noncomputable abbrev Wi(h:bS)(l1 l2:aj):bS:=(Zb h l1 l2).push {cls:=.type "zip",data:=.fields #[.none,.bool false,.bool false,.ref (Y9 h l1 l2).objs.size,.ref (Za h l1 l2).objs.size]}
theorem LJ(l1 l2:aj)(xs ys:Array ah):
  Meets (Builtin.«zip.__new__» ⟨[.type "zip",.ref l1,.ref l2],[]⟩) (λ_ R s=>s.heap.IsTuple l1 xs/\s.heap.IsTuple l2 ys/\R (.ok (.ret (.ref (Zb s.heap l1 l2).objs.size))) {s with heap:=Wi s.heap l1 l2}):=
 .of_wp λprog w A R s h=>by
  obtain⟨hp,g,d,tk,os⟩:=s;obtain⟨S3,V8,h⟩:=h;have Xf:=sub_zip;have e1:vB (qS ⟨hp,g,d,tk,os⟩) l1 xs:=S3;have e2:vB (qS ⟨hp.push {cls:=.type "tuple_iterator",data:=.fields #[.ref l1,.int 0 0]},g,d,tk,os⟩) l2 ys:=let⟨o,q,r⟩:=V8;⟨o,af _ q,r⟩
  wp_walk using gY e1,gY e2
  exact⟨_,rfl,h⟩
theorem JC{prog:aR}{w:bH}{A:cj}{E:ah->ai->Prop}{s:ai}{l1 l2:aj}{xs ys:Array ah}{Q:ah->ai->Prop}(e1:s.heap.IsTuple l1 xs)(e2:s.heap.IsTuple l2 ys)(h:∀h',mV h' (s.heap.objs.size+4) (s.heap.objs.size+2) (s.heap.objs.size+3)->IsPair h' (s.heap.objs.size+2) (.ref s.heap.objs.size) (.ref (s.heap.objs.size+1))->IsPair h' (s.heap.objs.size+3) .none .none->
   h'.IsTupleIter s.heap.objs.size l1 0->h'.IsTupleIter (s.heap.objs.size+1) l2 0->(∀c o,s.heap.get? c=some o->h'.get? c=some o)->Q (.ref (s.heap.objs.size+4)) {s with heap:=h'}):
  aH (model prog w) A (call (.type "zip") [.ref l1,.ref l2]) Q E s:=by
 refine callType_new F.called_zip (by decide) (F.typeCall_zip_2 _ _) (F.newCall_zip_2 _ _) (λobj=>F.args_object_init_3 obj _ _) F.entry_zip_new (LJ l1 l2 xs ys) ⟨e1,e2,?_⟩;have n1:(Y8 s.heap l1).objs.size=s.heap.objs.size+1:=eE ..;have n2:(Y9 s.heap l1 l2).objs.size=s.heap.objs.size+2:=by rw[eE,n1]
 have n3:(Za s.heap l1 l2).objs.size=s.heap.objs.size+3:=by rw[eE,n2]
 have n4:(Zb s.heap l1 l2).objs.size=s.heap.objs.size+4:=by rw[eE,n3]
 have k5:(Wi s.heap l1 l2).get? (Zb s.heap l1 l2).objs.size=some _:=aB _ rfl;have k4:(Wi s.heap l1 l2).get? (Za s.heap l1 l2).objs.size=some _:=af _ (aB _ rfl);have k3:(Wi s.heap l1 l2).get? (Y9 s.heap l1 l2).objs.size=some _:=af _ (af _ (aB _ rfl));have k2:(Wi s.heap l1 l2).get? (Y8 s.heap l1).objs.size=some _:=af _ (af _ (af _ (aB _ rfl)));have k1:(Wi s.heap l1 l2).get? s.heap.objs.size=some _:=af _ (af _ (af _ (af _ (aB _ rfl))));show _/\_;rw[n2,n3,n4]at k5;rw[n1,n2]at k3;rw[n3]at k4;rw[n1]at k2;rw[n4];exact⟨⟨_,k5,rfl⟩,h _ ⟨_,_,k5,.inl rfl⟩ k3 k4 ⟨_,k1,rfl,rfl⟩ ⟨_,k2,rfl,rfl⟩ λc o x=>af _ (af _ (af _ (af _ (af _ x))))⟩
section
variable {X:Cx}{e1 e2:bc}{ta:TA}{p pos:Pos}
noncomputable def iZT(K:aa)(ta:TA):TI:=λσ H R=>ta σ H λvs H1=>∃a b xs ys,vs=[.ref a,.ref b]/\fF K H1 a xs/\fF K H1 b ys/\R (S0 (λH zs=>fF K H a zs) λH zs=>fF K H b zs) H1
theorem LK(hg:Gl X "zip")(hm:X.mg "zip"=none)(ha:PA X [e1,e2] ta)(hs:ao [e1,e2] X.env=(false,eval e1 X.env)::ao [e2] X.env:=by rfl)(kY:(cG pos (ao [e2] X.env)).any (·.1)=false:=by rfl):
  PIL X (.Call (.Name "zip" p) [e1,e2] [] pos) (iZT X.K ta):=by
 intro pins s σ H R I h;refine Call_ (md I hg hm boot_zip (cw (gb (ha pos pins s σ H _ I h) λ us s1  zq0=>?_) hs kY));obtain ⟨vs,H1,I1,r1,q1⟩:=zq0;obtain⟨a,b,xs,ys,e,LL,Xu,q⟩:=q1;subst e;obtain⟨u,v,rfl,ru,rv⟩:=vals2 r1;cases ru;cases rv;obtain⟨yL,rv1,Xv,SU⟩:=I1.tuple LL;obtain⟨sR,rv2,Xw,SO⟩:=I1.tuple Xu;have la:a<s1.heap.objs.size:=Xv.lt;have lb:b<s1.heap.objs.size:=Xw.lt;refine JC (xs:=yL.toArray) (ys:=sR.toArray) (show s1.heap.IsTuple a yL.toArray from Xv) (show s1.heap.IsTuple b sR.toArray from Xw) λh' zz p1 p2 t1 t2 kp=>?_;have ap:ZipApart (s1.heap.objs.size+4) (s1.heap.objs.size+2) (s1.heap.objs.size+3) s1.heap.objs.size (s1.heap.objs.size+1) a b:=apart_new _ a b la lb;have ty:lM {s1 with heap:=h'} (.ref (s1.heap.objs.size+4)) "zip":=let⟨_,_,z,_⟩:=zz;⟨_,z,rfl⟩;have ls:∀c,c=s1.heap.objs.size+4\/c=s1.heap.objs.size+2\/c=s1.heap.objs.size+3\/c=s1.heap.objs.size\/c=s1.heap.objs.size+1->s1.heap.objs.size<=c:=λc hc=>by rcases hc with rfl|rfl|rfl|rfl|rfl<;>first|exact au _|exact Nat.le_add_right _ _
 refine⟨H1,"zip",s1.heap.objs.size+4,rfl,I1.kept (t':=s1.toks) kp,ty,JB,?_⟩;intro A' pm s2 E h1 h2 k2 hpm I2;have T:=LI (P:=X.prog) (w:=X.w) (K:=X.K) ap (Ci (aZ la)) (Ci (aZ (je lb)));have tn0:mV s2.heap (s1.heap.objs.size+4) (s1.heap.objs.size+2) (s1.heap.objs.size+3)/\IsPair s2.heap (s1.heap.objs.size+2) (.ref s1.heap.objs.size) (.ref (s1.heap.objs.size+1))/\(∃a b,IsPair s2.heap (s1.heap.objs.size+3) a b)/\s2.heap.IsTupleIter s1.heap.objs.size a 0/\s2.heap.IsTupleIter (s1.heap.objs.size+1) b 0:=
  T.keep 0 h' s2.heap ⟨zz,p1,⟨_,_,p2⟩,t1,t2⟩ λc _ o e=>k2 c o e
 refine T.self A' 0 s2 _ E tn0 ⟨⟨s1.heap.objs.size+4,_,_,_,H1,rfl,I2,T,tn0,λc hc=>?_,q⟩,let⟨_,_,z,_⟩:=tn0.1;⟨_,z,rfl⟩⟩;have Fu:c=s1.heap.objs.size+4\/c=s1.heap.objs.size+2\/c=s1.heap.objs.size+3\/c=s1.heap.objs.size\/c=s1.heap.objs.size+1:=by simpa using hc
 have f:=I1.oC (H':=H1) (ls c Fu) (I1.dS.fresh (ls c Fu));refine⟨f.1,f.2.1,f.2.2.1,f.2.2.2.1,f.2.2.2.2.1,λpr hp=>?_⟩;rcases bj.mp hp with z|z
 ·exact f.2.2.2.2.2 pr (bZ _ z)
 ·rcases bj.mp z with z|z
  ·exact f.2.2.2.2.2 pr (az _ z)
  ·have:=hpm pr z;obtain⟨o,ho,_⟩:=T.obj 0 h' ⟨zz,p1,⟨_,_,p2⟩,t1,t2⟩ c hc;have i9:=aC ho;exact dG (bw i9 this)
end
theorem LM{s1 s2:Hp->List V->Prop}{xs ys:List V}{H:Hp}{Fin:List V->Hp->Prop}(Pv:Nat->List V->Hp->Prop)(hl:xs.length=ys.length)(hz:xs.length<av)(h0:Pv 0 [] H)(hs:∀i zs H,Pv i zs H->s1 H xs/\s2 H ys/\zs.length=i)(step:∀i zs H p x y,Pv i zs H->xs[i]?=some x->ys[i]?=some y->H p=none->Pv (i+1) (zs++[.ref p]) (upd H p (.tup [x,y])))(fin:∀zs H,Pv xs.length zs H->Fin zs H):LC (S0 s1 s2) H Fin:=by
 refine⟨λi m zs H=>m=xs.length - i/\i<=xs.length/\Pv i zs H,⟨_,rfl,dj _,h0⟩,?_⟩;rintro i m zs H ⟨rfl,hi,p⟩;obtain⟨a,b,c⟩:=hs i zs H p;by_cases i9:i<xs.length
 ·refine .inr ⟨⟨xs,ys,a,b,hl,i9⟩,by omega,λ v H'  zq0=>?_⟩;obtain ⟨q,x,y,e1,e2,e3,e4⟩:=zq0;subst e1 e3;obtain⟨g1,g2⟩:=e4 xs ys a b;exact⟨xs.length - (i+1),by omega,rfl,i9,step i zs H q x y p g1 g2 e2⟩
 ·have e:i=xs.length:=by omega
  subst e;exact .inl ⟨⟨xs,ys,a,b,hl,rfl⟩,by omega,fin zs H p⟩
end L2
namespace Wk
open PySem L2
structure LN(mg:Str->Option ah):Prop where
 zip:mg "zip"=none
 str:mg "str"=none
 ve:mg "ValueError"=none
section
variable (K:aa)(C:aj)
noncomputable def QI:Sp:=λvs H Q E=>∃(v:V)(k:Int)(t:Ex),vs=[v,.int k]/\Rep K H (py t) v/\((∃(j:Nat)(u:Ex),k=(j:Int)/\t.own[j]?=some u/\∀w,Rep K H (py u) w->Q w H)\/((k<0\/(t.own.length:Int)<=k)/\E (.ref C) none H))
end
end Wk
namespace L2
open PySem PySem.Spec PyProof.Rows
section
variable {X:Cx}
theorem yM:mS X (.type "dict") (λxs H Q=>∃a bh,xs=[V.ref a]/\H a=some (.dK bh)/\∀p,H p=none->Q (.ref p) (upd H p (.dK bh))):=by
 intro pins s σ H xs us Q I r h;obtain⟨a,bh,rfl,ha,q⟩:=h;obtain⟨u,rfl,ru⟩:=vals1 r;cases ru;obtain⟨z,hd,vs,rel,dd⟩:=Qr I.dS ha;have xr:=I.xr;refine kt_call_dict hd dd (by rw[<-rel.length];exact z) λh' d' hs=>?_;have kp:∀b o,s.heap.get? b=some o->h'.get? b=some o:=λb o e=>(hs.2 b (aZ (aC e))).trans (af _ e);exact⟨.ref s.heap.objs.size,_,I.laid (a:=s.heap.objs.size) (o:=.dK bh) (t':=s.toks) kp (au _) (FZ z (by simpa using dG xr) rel d'),rfl,q _ (I.dS.fresh (au _))⟩
end
theorem Cj:typeLookup (.type "list") "keys"=pure none:=by rw[typeLookup_type,builtinLookup_eq_fast];kernel_rfl
theorem JD:(["__module__","__name__","__qualname__","__doc__","__annotations__"]:List Str).contains ("keys":Str)=false:=by decide
section
variable {prog:aR}{w:bH}{A:cj}{E:ah->ai->Prop}{s:ai}
theorem Gw{K:Type}[DecidableEq K](bh:List (K×ah))(k:K)(v:ah):(stored bh k v).length<=bh.length+1:=by
 unfold stored;by_cases h:(bh.any λkv=>decide (kv.1=k))=true
 ·rw[if_pos h,ay];omega
 ·rw[if_neg h,aL];simp
theorem yN{K:Type}[DecidableEq K]:∀(more bh:List (K×ah)),(merged bh more).length<=bh.length + more.length
 |[],bh=>au _
 |(k,v)::r,bh=>by
  have h1:=yN r (stored bh k v);have h2:=Gw bh k v;show(merged (stored bh k v) r).length<=_;rw[aY];omega
theorem JE{a:aj}{o:Obj}{xs:Array ah}{k:Nat}{Q:Option ah->ai->Prop}(hx:s.heap.get? a=some o)(hc:o.cls = .type "list")(LO:o.data = .seq xs k)(hd:o.dict=none)(hA:A.handled=none)(h:∀h' tk,(∀b o,s.heap.get? b=some o->h'.get? b=some o)->Q none {s with heap:=h',toks:=tk}):aH (model prog w) A (getAttr? (.ref a) "keys") Q E s:=by
 obtain⟨c,Y2,dat,sl⟩:=o;simp only at hc LO hd;subst hc LO hd;obtain⟨hp,g,d,tk,os⟩:=s;have hT:∀tk',(⟨hp,g,d,tk',os⟩:ai).TypeIs (.ref a) "list":=λ_=>⟨_,hx,rfl⟩;have y1:=sub_AttributeError;have y3:=qC.lookup;have y4:=qC.bind (.ref a);have y5:=am_list_getattr_none;unfold getAttr? getAttrBy? getAttrBy
 repeat (any_goals (first|assumption|exact hT _|((with_reducible show aH _ _ (call (Value.builtin "list.__getattribute__") _ _) _ _ _);refine call_meets qC (hT _) am_entry_list_getattribute (F.args_list_getattribute_2 _ _) (meets_getattribute_miss_list a xs k sl "keys" _ Cj JD) ⟨hx,hA,λh' tk' e hx'=>?_⟩)|wp_step))
 obtain⟨t',u',he⟩:=hx'.there;show aH _ _ (getattributeRaised _ _ _ _ _ _ _) _ _ _;unfold getattributeRaised
 repeat (any_goals (first|assumption|wp_step))
 exact h _ _ hx'.keeps
theorem ri:entryFor table "dict.update.loop"=some Builtin.«dict.update.loop»:=entryFor_of_fast (by kernel_rfl)
theorem kB:plainId "dict.update.loop"=true:=by symm
theorem LP{R:Result->ai->Prop}{d it l:aj}{items:List ah}{rs:List (Key×ah)}{G:bS}(hA:A.handled=none)(ndi:d≠it)(nld:l≠d)(nli:l≠it)(hlen:items.length=rs.length)(hsz:rs.length<=1000)(hl:G.IsList l items.toArray)(pr:∀(j:Nat) u,items[j]?=some u->∃p k key v,u = .ref p/\rs[j]?=some (k,v)/\(dB prog w).is k key=true/\G.IsTuple p #[key,v]/\p≠d/\p≠it)(fin:∀h' tk,h'.DictOf (dB prog w) d (merged [] rs)->(∀b o,b≠d->b≠it->G.get? b=some o->h'.get? b=some o)->R (.ok (.ret .none)) {s with heap:=h',toks:=tk}):
  ∀(n i:Nat)(h':bS)(tk:Nat),n=items.length - i->i<=items.length->h'.IsListIter it l i->h'.DictOf (dB prog w) d (merged [] (rs.take i))->(∀b o,b≠d->b≠it->G.get? b=some o->h'.get? b=some o)->
   codeAny (model prog w) A (.builtin "dict.update.loop" ⟨[.ref d,.ref it,rawInt (i:Nat),.none],[]⟩) R {s with heap:=h',toks:=tk}:=by
 intro n;induction n with
 |zero=>
  intro i h' tk hn hi hit hd kp;have e0:i=items.length:=by omega
  subst e0;refine codeAny_builtin ri ?_;rw[qU kB _];show aH _ A.in1 (pyNext (.ref it) >>= _) _ _ _;have JA:h'.IsList l items.toArray:=let⟨o,q,r⟩:=hl;⟨o,kp l o nld nli q,r⟩;refine ae (wpAny_pyNext_list_end hA hit JA (by simp) λh2 ex=>?_);show aH _ _ (Builtin.Dict.addKeywords d [] >>= _) _ _ _;refine ae (ax (ax ?_));rw[hlen,iC]at hd;refine fin h2 _ (let⟨o,es,ep,q,r⟩:=hd;⟨o,es,ep,ex d o ndi q,r⟩) λb o h1 h2 e=>ex b o h2 (kp b o h1 h2 e)
 |succ n ih=>
  intro i h' tk hn hi hit hd kp;have i9:i<items.length:=by omega
  have hx:items[i]?=some items[i]:=ag i9;obtain⟨p,k,key,v,eu,hr,hk,hp,npd,npi⟩:=pr i _ hx;refine codeAny_builtin ri ?_;rw[qU kB _];show aH _ A.in1 (pyNext (.ref it) >>= _) _ _ _;have JA:h'.IsList l items.toArray:=let⟨o,q,r⟩:=hl;⟨o,kp l o nld nli q,r⟩;refine ae (wpAny_pyNext_list_item (x:=.ref p) hit JA (by rw[<-eu];simpa using hx) λh2 ac0 s2=>?_);obtain⟨po,hpo,Zc,pn,hpd⟩:=hp;have Xx:h2.get? p=some po:=(s2.2 p npi).trans (kp p po npd npi hpo);refine ae (iE (ae (wpAny_tryCatch ?_)));unfold Builtin.Dict.pairItems;refine ae (oU (show lM _ (.ref p) "tuple" from⟨po,Xx,Zc⟩) ?_);rw[if_pos (by decide)];refine ae (gj Xx hpd (ax ?_));show aH _ _ (holding [key,v] (dictSet d key v)) _ _ _;have hd2:h2.DictOf (dB prog w) d (merged [] (rs.take i)):=let⟨o,es,ep,q,r⟩:=hd;⟨o,es,ep,(s2.2 d ndi).trans q,r⟩;have hz:(merged [] (rs.take i)).length<=av:=by
   have h1:=yN (rs.take i) [];rw[gB,iW,jD]at h1;exact aX h1 (fj (sd (by omega)))
  refine iE (wpAny_dictSet_pairs (hsz:=hz) hk hd2 λh3 Zd s3=>?_);refine ax ⟨plainId_quiet kB _,?_⟩;have e1:merged [] (rs.take (i+1))=stored (merged [] (rs.take i)) k v:=by
   rw[ef,hr];show merged [] (rs.take i++[(k,v)])=_;unfold merged;rw[List.foldl_append];rfl
  refine ih (i+1) h3 _ (by omega) i9 (let⟨o,q,r⟩:=ac0;⟨o,(s3.2 it (dz ndi)).trans q,r⟩) (by rw[e1];exact Zd) λb o h1 QJ e=>(s3.2 b h1).trans ((s2.2 b QJ).trans (kp b o h1 QJ e))
end
theorem JF{bh:List (Key×V)}{rs:List (Key×ah)}(r:KV bh rs):KV (mT [] bh) (merged [] rs):=KV.merge r .nil
structure Ck(K:aa)(H:Hp)(ps:List V)(bh:List (Key×V)):Prop where
 len:ps.length=bh.length
 at_:∀(i:Nat) v,ps[i]?=some v->∃p k y,v=V.ref p/\fF K H p [kV k,y]/\bh[i]?=some (k,y)
section
variable {X:Cx}
theorem QK{pins:List (aj×Obj)}{σ:St}{H:Hp}{s:ai}(I:Inv X pins σ H s):∀{ps:List V} {bh:List (Key×V)} {cq:List ah},Ck X.K H ps bh->cX ps cq->
  ∃rs:List (Key×ah),KV bh rs/\cq.length=rs.length/\∀(j:Nat) u,cq[j]?=some u->∃p k key v,u = .ref p/\rs[j]?=some (k,v)/\(dB X.prog X.w).is k key=true/\s.heap.IsTuple p #[key,v]
 |[],[],cq,P,r=>by cases r;exact⟨[],.nil,rfl,λj u h=>by simp at h⟩
 |[],_::_,_,P,_=>by have:=P.len;simp at this
 |_::_,[],_,P,_=>by have:=P.len;simp at this
 |x::ps,(k0,y0)::bh,cq,P,r=>by
  cases r with
  |@cons _ u _ us r1 r2=>
   obtain⟨p,k,y,rfl,hq,e⟩:=P.at_ 0 x rfl;have e':(k0,y0)=(k,y):=by simpa using e
   cases e';cases r1;obtain⟨sR,rv,pt,_⟩:=I.tuple hq;obtain⟨a,b,rfl,ra,rb⟩:=vals2 rv;have P2:Ck X.K H ps bh:=⟨by have:=P.len;simpa using this,λi v h=>P.at_ (i+1) v (by simpa using h)⟩;obtain⟨rs,h1,h2,h3⟩:=QK I P2 r2;refine⟨(k0,b)::rs,.cons ⟨rfl,rb⟩ h1,by simp[h2],λj u hj=>?_⟩;cases j with
   |zero=>
    have eu:u = .ref p:=by simpa using hj.symm
    exact⟨p,k0,a,b,eu,rfl,yz ra,pt⟩
   |succ j=>exact h3 j u (by simpa using hj)
theorem Gx(hc:X.calm=true):mS X (.type "dict") (λxs H Q=>∃a ps bh,xs=[V.ref a]/\fU X.K H a ps/\Ck X.K H ps bh/\bh.length<=1000/\∀p,H p=none->Q (.ref p) (upd H p (.dK (mT [] bh)))):=by
 intro pins s σ H xs us Q I r h;obtain⟨a,ps,bh,rfl,ha,P,hz,q⟩:=h;obtain⟨u,rfl,ru⟩:=vals1 r;cases ru;obtain⟨cq,rv,pl,OM⟩:=I.list ha;obtain⟨rs,hkv,hlen,hpr⟩:=QK I P rv;have hlr:rs.length=bh.length:=hkv.length.symm;have xr:=I.xr;have hA:X.A.handled=none:=I.ok.hd hc;refine callType_codes (Q₁:=λobj fZ=>obj = .ref s.heap.objs.size/\fZ={s with heap:=s.heap.push {cls:=.type "dict",data:=.dict #[]}}) F.kt_called_dict (F.kt_typeCall_dict_1 _) F.entry_dict_init (kt_code_dict_new _ ⟨rfl,rfl⟩) λobj fZ e=>?_;obtain⟨rfl,rfl⟩:=e;have S4:(s.heap.push {cls:=.type "dict",data:=.dict #[]}).DictOf (dB X.prog X.w) s.heap.objs.size []:=Heap.DictOf.new s.heap;refine⟨S4.typeIs,F.args_dict_init_2 _ _,?_⟩;unfold Builtin.«dict.__init__»;refine ae ?_;unfold Builtin.Dict.selfAndRest;refine ae (wpAny_notOrdered_dict S4.typeIs ?_);show aH _ _ (pure (s.heap.objs.size,[cO a])) _ _ _;refine ax ?_;show aH _ _ (wK "dict.__init__" s.heap.objs.size (.ref a) [] .none) _ _ _;unfold wK;obtain⟨lo,ln,lh,lc,ld,lq⟩:=pl;have lh1:(s.heap.push {cls:=.type "dict",data:=.dict #[]}).get? a=some lo:=af _ lh;refine ae (oU (show lM _ (.ref a) "list" from⟨lo,lh1,lc⟩) ?_);rw[if_pos (by decide)];refine ae (JE lh1 lc lq ld hA λh2 Qy k2=>?_);simp only[Option.isNone_none,if_true];refine ae (pK ?_);have lh2:h2.get? a=some lo:=k2 _ _ lh1;have lal:a<s.heap.objs.size:=aC lh;have d2:h2.DictOf (dB X.prog X.w) s.heap.objs.size []:=let⟨o,es,ep,e,r⟩:=S4;⟨o,es,ep,k2 _ _ e,r⟩;have Ze:s.heap.objs.size<h2.objs.size:=let⟨_,_,_,e,_⟩:=d2;aC e;refine ae (l7 (items:=cq.toArray) ⟨lo,lh2,lc,ln,lq⟩ ?_);have up:∀b o,s.heap.get? b=some o->(h2.push {cls:=.type "list_iterator",data:=.fields #[.ref a,.int 0 0]}).get? b=some o:=λb o e=>af _ (k2 _ _ (af _ e));refine ax ⟨plainId_quiet kB _,?_⟩;refine LP (A:=X.A.in1) (s:=s) (G:=h2.push {cls:=.type "list_iterator",data:=.fields #[.ref a,.int 0 0]}) (d:=s.heap.objs.size) (it:=h2.objs.size) (l:=a) (items:=cq) (rs:=rs) hA (aZ Ze) (aZ lal) (aZ (ib lal Ze)) hlen (by omega)
  ⟨lo,up _ _ lh,lc,ln,lq⟩ (λj u hj=>?_) (λh4 tk4 d4 k4=>?_) cq.length 0 _ _ rfl (dj _) ⟨_,aB _ rfl,rfl,rfl⟩ (let⟨o,es,ep,e,r⟩:=d2;⟨o,es,ep,af _ e,r⟩) λb o _ _ e=>e
 ·obtain⟨p,k,key,v,e1,e2,e3,o,e4,e5⟩:=hpr j u hj;have lp:p<s.heap.objs.size:=aC e4;exact⟨p,k,key,v,e1,e2,e3,⟨o,up _ _ e4,e5⟩,aZ lp,aZ (ib lp Ze)⟩
 ·have kp:∀b o,s.heap.get? b=some o->h4.get? b=some o:=λb o e=>k4 b o (aZ (aC e)) (aZ (ib (aC e) Ze)) (up b o e);have OM:(mT [] bh).length<=av:=by
   have h1:=tm bh [];rw[iW,jD]at h1;exact aX h1 (fj (sd hz))
  exact⟨rfl,.ref s.heap.objs.size,_,I.laid (a:=s.heap.objs.size) (o:=.dK (mT [] bh)) (t':=tk4) kp (au _) (FZ OM (by simpa using dG xr) (JF hkv) d4),rfl,q _ (I.dS.fresh (au _))⟩
end
noncomputable def wW(h:bS)(it d:aj)(i n ep:Nat):Prop:=∃f0 f1 ok ov,h.get? it=some {cls:=.type "dict_itemiterator",dict:=none,data:=.fields #[f0,f1,.ref d,.int i 0,.int n 0,.int ep 0,ok,ov],slots:=#[]}/\(f0 = .none\/∃T:Nat,f0=rawInt T)
noncomputable def LQ(h:bS)(d:aj)(es:Array DictEntry)(ep:Nat):Prop:=∃o,h.get? d=some o/\o.cls = .type "dict"/\o.data = .dict es ep
section
variable {prog:aR}{w:bH}{A:cj}{E:ah->ai->Prop}{s:ai}{it d:aj}{i n ep:Nat}{es:Array DictEntry}
theorem JG{Q:Bool->ai->Prop}(hz:wW s.heap it d i n ep)(h:∀b h',wW h' it d i n ep->gx it s.heap h'->Q b {s with heap:=h'}):
  aH (model prog w) A (iO (.ref it)) Q E s:=by
 obtain⟨f0,f1,ok,ov,hz,hf⟩:=hz;have here:∀b,Q b s:=λb=>h b s.heap ⟨f0,f1,ok,ov,hz,hf⟩ ⟨rfl,λ_ _=>rfl⟩;unfold iO;refine ae (df hz rfl (x:=f0) rfl ?_);rcases hf with rfl|⟨T,rfl⟩
 ·exact ax (here true)
 ·show aH _ _ (loadIfAlive _ >>= _) _ _ _;refine ae (Bf λo=>?_);cases o with
  |none=>exact ax (here true)
  |some ob=>
   refine ae (df hz rfl (x:=f1) rfl ?_);refine fN (λ_=>?_) (λ_=>ax (here false));refine ae (cQ hz (by simp) λh1 e1 s1=>ax (h false h1 ⟨_,_,_,_,e1,.inr ⟨T,rfl⟩⟩ s1))
theorem LR{Q:Option ah->ai->Prop}(hit:wW s.heap it d i es.size ep)(hd:LQ s.heap d es ep)(nd:d≠it)(hi:i<es.size)(hQ:∀h',wW h' it d (i+1) es.size ep->h'.get? s.heap.objs.size=some {cls:=.type "tuple",data:=.seq #[es[i].key,es[i].val]}->(∀b o,b≠it->s.heap.get? b=some o->h'.get? b=some o)->Q (some (.ref s.heap.objs.size)) {s with heap:=h'}):
  aH (model prog w) A (pyNext (.ref it)) Q E s:=by
 obtain⟨hp,g,dr,tk,os⟩:=s;obtain⟨f0,f1,ok,ov,hz,hf⟩:=hit;obtain⟨od,ON,l9,Xy⟩:=hd;have hT:lM ⟨hp,g,dr,tk,os⟩ (.ref it) "dict_itemiterator":=⟨_,hz,rfl⟩;unfold pyNext;refine ae (xn (ff (name:=fk "__next__") hT eF (fg eF hT Ac ?_ (yj _))));refine ae (ax (ae (ae ?_)));refine ae (iS hT (ax (ae (wpAny_fieldsOf hz rfl ?_))));have own:jW "dict_itemiterator"=true:=by decide
 simp only[own,if_true];show aH _ _ (if(cO d==dZ)=true then _ else _) _ _ ⟨hp,g,dr,tk,os⟩;rw[if_neg (show ¬((cO d==dZ)=true) fromλz=>aV z)];refine ae (ax (ae (Ad ON Xy ?_)));rw[if_neg (by simp)];refine ae (ax (ae (Di ON Xy ?_)));rw[if_neg (by simp)];refine ax ?_;simp only[show ¬((i:Int)<0)from by omega,if_false,gc,Ao hi];refine ae (ae (iS hT (ax ?_)));refine ae (tj hT ?_);show aH _ _ (setField (.ref it) 3 (rawInt ((i:Int)+1)) >>= _) _ _ ⟨hp,g,dr,tk,os⟩;refine ae (cQ hz (by simp) λh1 e1 s1=>?_)
 have I1:wW h1 it d (i+1) es.size ep:=⟨f0,f1,ok,ov,by
  have e:((i+1:Nat):Int)=(i:Int)+1:=by omega
  rw[e];simpa[rawInt]using e1,hf⟩
 have hT1:lM ⟨h1,g,dr,tk,os⟩ (.ref it) "dict_itemiterator":=⟨_,e1,rfl⟩;refine ae (iE (ae (tj hT1 (ae (tj hT1 ?_)))));show aH _ _ (o8 (.ref it) 6 es[i].key es[i].val) _ _ ⟨h1,g,dr,tk,os⟩;unfold o8;refine ae (Fq ?_);have z1:h1.objs.size=hp.objs.size:=s1.1;have il:it<hp.objs.size:=aC hz;have I2:wW (h1.push {cls:=.type "tuple",data:=.seq #[es[i].key,es[i].val]}) it d (i+1) es.size ep:=let⟨a,b,c,e,q,r⟩:=I1;⟨a,b,c,e,af _ q,r⟩;have t2:(h1.push {cls:=.type "tuple",data:=.seq #[es[i].key,es[i].val]}).get? hp.objs.size=some {cls:=.type "tuple",data:=.seq #[es[i].key,es[i].val]}:=by rw[<-z1];exact aB _ rfl
 have k2:∀b o,b≠it->hp.get? b=some o->(h1.push {cls:=.type "tuple",data:=.seq #[es[i].key,es[i].val]}).get? b=some o:=λb o hb e=>af _ (bY s1 hb e);show aH _ _ (iO (.ref it) >>= _) _ _ ⟨h1.push {cls:=.type "tuple",data:=.seq #[es[i].key,es[i].val]},g,dr,tk,os⟩;generalize h1.push {cls:=.type "tuple",data:=.seq #[es[i].key,es[i].val]}=h2 at I2 t2 k2 ⊢;rw[z1];have nt:hp.objs.size≠it:=dG il;refine ae (JG (s:=⟨h2,g,dr,tk,os⟩) I2 λb h3 I3 s3=>?_);cases b with
 |false=>
  simp only[iN,if_false];exact ax (ax ⟨_,rfl,ax (hQ h3 I3 (bY s3 nt t2) λb o hb e=>bY s3 hb (k2 b o hb e))⟩)
 |true=>
  obtain⟨g0,g1,gk,gv,q3,hf3⟩:=I3;simp only[if_true];refine ae (df q3 rfl (x:=gk) rfl (ae (df q3 rfl (x:=gv) rfl ?_)));refine ae (cQ q3 (by simp) λh4 q4 s4=>ae (cQ q4 (by simp) λh5 q5 s5=>ae (cQ q5 (by simp) λh6 q6 s6=>ae (cQ q6 (by simp) λh7 q7 s7=>?_))));have up:∀b o,b≠it->h2.get? b=some o->h7.get? b=some o:=λb o hb e=>bY s7 hb (bY s6 hb (bY s5 hb (bY s4 hb (bY s3 hb e))));exact ae (vy (ax (ax ⟨_,rfl,ax (hQ h7 ⟨_,_,_,_,q7,.inr ⟨hp.objs.size,rfl⟩⟩ (up _ _ nt t2) λb o hb e=>up b o hb (k2 b o hb e))⟩)))
end
section
variable {prog:aR}{w:bH}{A:cj}{E:ah->ai->Prop}{s:ai}{it d:aj}{i n ep:Nat}{es:Array DictEntry}
theorem OO{Q:Option ah->ai->Prop}(hh:A.handled=none)(hit:wW s.heap it d es.size es.size ep)(hd:LQ s.heap d es ep)(hQ:∀h',Heap.ExtBut it s.heap h'->Q none {s with heap:=h'}):aH (model prog w) A (pyNext (.ref it)) Q E s:=by
 obtain⟨f0,f1,ok,ov,hz,hf⟩:=hit;obtain⟨od,ON,l9,Xy⟩:=hd;have hT:s.TypeIs (.ref it) "dict_itemiterator":=⟨_,hz,rfl⟩;unfold pyNext;refine ae (xn (ff (name:=fk "__next__") hT eF (fg eF hT Ac ?_ (yj _))));refine ae (ax (ae (ae ?_)));refine ae (iS hT (ax (ae (wpAny_fieldsOf hz rfl ?_))));have own:jW "dict_itemiterator"=true:=by decide
 simp only[own,if_true];show aH _ _ (if(cO d==dZ)=true then _ else _) _ _ s;rw[if_neg (show ¬((cO d==dZ)=true) fromλz=>aV z)];refine ae (ax (ae (Ad ON Xy ?_)));rw[if_neg (by simp)];refine ae (ax (ae (Di ON Xy ?_)));rw[if_neg (by simp)];refine ax ?_;simp only[show ¬((es.size:Int)<0)from by omega,if_false,gc,Array.getElem?_eq_none (au es.size)];refine ae (ae (iS hT (ax ?_)));show aH _ _ (setField (.ref it) 2 .none >>= _) _ _ s;refine ae (Fp hz rfl (by simp) ?_);show aH _ _ (newExc (.type "StopIteration") [] >>= _) _ _ _;refine ae ?_;simp only[newExc,newTuple];refine ae (dO ?_ (by size_fits));refine ae (m:=firstArgMember _ _) (wpAny_of_eq (a:=dZ) (by first|rfl|(simp only[firstArgMember];rfl)) ?_);refine dO ?_ (by size_fits);simp only[raiseNew];refine ae (wpAny_handled ?_);rw[show A.in1.handled=none from hh];refine ae (ax (wpAny_throw ?_));refine ae (rY (T:="StopIteration") (b:=true) ⟨_,aB _ rfl,rfl⟩ isSubtype_stop ?_);exact ax (hQ _ (((pO ..).extBut.push _).push _))
theorem LS{v:aj}{Q:ah->ai->Prop}(hv:s.heap.IsItemsView v d)(hm:LQ s.heap d es ep)(hQ:Q (.ref s.heap.objs.size) {s with heap:=s.heap.push {cls:=.type "dict_itemiterator",data:=.fields #[.none,.bool false,.ref d,.int 0 0,.int es.size 0,.int ep 0,.none,.none]}}):aH (model prog w) A (pyIter (.ref v)) Q E s:=by
 obtain⟨ov,hov,hcv,hdv⟩:=id hv;obtain⟨o,ho,hc,LO⟩:=id hm;refine Ab hv.typeIs F.slot_dict_items_iter (fg F.slot_dict_items_iter hv.typeIs F.entry_dict_items_iter ?_ (F.args_dict_items_iter_1 _));unfold Builtin.«dict_items.__iter__»;refine ae (ax (ae ?_));unfold Builtin.Dict_items.dictOf;refine ae (df hov hdv (x:=.ref d) rfl (ax (ae ?_)));unfold Builtin.Dict_items.newIterator;refine ae (Ad ho LO (ae (Di ho LO ?_)));have own:jW "dict_itemiterator"=true:=by decide
 simp only[own,if_true];refine dO (ax ⟨_,rfl,"dict_itemiterator",_,⟨_,aB _ rfl,rfl⟩,eF.lookup,?_⟩)
  (by simp only[sizeOk,nR,aD,aL,aY,iW,cU];omega)
 simpa[rawInt,nR]using hQ
end
theorem Bh{α β:Type}{F:α->β->Prop}:∀{l1:List α}{l2:List β},Paired F l1 l2->∀(i:Nat)(h1:i<l1.length)(h2:i<l2.length),F (l1[i]'h1) (l2[i]'h2)
 |_,_,.nil,i,h1,_=>absurd h1 (hV _)
 |_,_,.cons r t,0,_,_=>r
 |_,_,.cons r t,i+1,h1,h2=>Bh t i (Fs h1) (Fs h2)
theorem yO:entryFor table "dict_itemiterator.__iter__"=some Builtin.«dict_keyiterator.__iter__»:=
 entryFor_alias (id':="dict_keyiterator.__iter__") (by kernel_rfl) (by first|rfl|symm) (by symm) (by kernel_rfl)
noncomputable def ItI(d:aj)(o:Obj)(bh:List (List Key×V)):It:=
 ⟨λi H=>H d=some (.pS o (.dT bh))/\i<bh.length,λi H v H'=>∃p b k y,v = .ref p/\H p=none/\H'=upd H p (.tup [.ref b,y])/\H b=some (.tup (k.map kV))/\bh[i]?=some (k,y),λi H=>H d=some (.pS o (.dT bh))/\i=bh.length⟩
theorem Gy{P:aR}{w:bH}{K:aa}{d it:aj}{o:Obj}{bh:List (List Key×V)}{es:Array DictEntry}{ep:Nat}(nd:d≠it)(WE:o.cls = .type "dict")(ON:o.data = .dict es ep)(hn:es.size=bh.length):
  Turn P w K nmT (ItI d o bh) [it] it (λi h=>wW h it d i es.size ep) where
 mem:=by simp
 obj:=by
  rintro i h ⟨f0,f1,ok,ov,z,_⟩ c hc;have e:c=it:=by simpa using hc
  subst e;exact⟨_,z,λv q=>by cases q⟩
 keep:=by rintro i h h' ⟨f0,f1,ok,ov,z,zz⟩ k;exact ⟨f0,f1,ok,ov,k it (by simp) _ z,zz⟩
 item:=by
  intro X hP hw hK hc i pins s σ H E I hf st hg;subst hP hw hK;obtain⟨hH,hi⟩:=hg;obtain⟨h1,z,hd,xs,rel,o',YK,YL,e1,e2,e3,e4,e5⟩:=(show fR X.prog X.w H s.heap d (.pS o (.dT bh))from I.dS d _ hH);rw[h1]at e1;cases e1;rw[ON]at e3;cases e3;have Zf:i<es.size:=by rw[hn];exact hi
  refine LR st ⟨o,h1,WE,ON⟩ nd Zf λh' wQ ht kp=>?_;refine⟨.ref s.heap.objs.size,rfl,?_⟩;show aH _ _ (pure ():Sem Unit) _ _ _;have J:Inv X pins σ H {s with heap:=h',toks:=s.toks}:=I.xY [it] (λb hb=>hf b hb) λb o hb e=>kp b o (by simpa using hb) e;have lx:i<xs.length:=by rw[<-jE rel];exact hi
  obtain⟨p1,p2,p3⟩:=Bh rel i hi lx;have ee:es[i]=entryOfKey (tupleKind (dB X.prog X.w)) xs[i]:=by
   have q:es.toList[i]?=some (entryOfKey (tupleKind (dB X.prog X.w)) xs[i]):=by rw[e4,aw,ag lx];rfl
   rw[ll,Ao Zf]at q;exact bE q
  have QH:H s.heap.objs.size=none:=I.dS.fresh (au _);rw[ee]at ht;have J2:=J.adopt (D:=s.heap.objs.size) (o:=.tup [.ref xs[i].2.1,bh[i].2]) (I.oC (au _) QH) ⟨by show 2<=av;decide,[.ref xs[i].2.1,xs[i].2.2],.cons rfl (.cons p3 .nil),⟨_,ht,rfl,_,rfl⟩⟩;refine ax ⟨.ref s.heap.objs.size,_,J2,rfl,⟨_,xs[i].2.1,bh[i].1,bh[i].2,rfl,QH,rfl,p2,ag hi⟩,wQ,λb hb=>?_⟩;have e:b=it:=by simpa using hb
  subst e;obtain⟨f0,f1,ok,ov,zz,_⟩:=st;rw[bP (aZ (aC zz))];exact(hf b hb).1
 done:=by
  intro X hP hw hK hc i pins s σ H E I hf st hg;subst hP hw hK;obtain⟨hH,hi⟩:=hg;obtain⟨h1,_⟩:=(show fR X.prog X.w H s.heap d (.pS o (.dT bh))from I.dS d _ hH);have e0:i=es.size:=by rw[hn];exact hi
  subst e0;refine OO (I.ok.hd hc) st ⟨o,h1,WE,ON⟩ λh' ex=>⟨rfl,?_⟩;exact I.xY (t':=s.toks) [it] (λb hb=>hf b hb) λb o hb e=>ex b o (by simpa using hb) e
 self:=by
  rintro A i s Q E ⟨f0,f1,ok,ov,z,_⟩ h;have hT:s.TypeIs (.ref it) "dict_itemiterator":=⟨_,z,rfl⟩;exact Ab hT Ap (fg Ap hT yO (ax ⟨_,rfl,"dict_itemiterator",_,hT,eF.lookup,h⟩) (F.args_dict_itemiterator_iter_1 _))
section
variable {X:Cx}{pins:List (aj×Obj)}{σ:St}{H:Hp}{s:ai}{d:aj}{o:Obj}{bh:List (List Key×V)}
theorem Inv.freeze(I:Inv X pins σ H s)(e:H d=some (.dT bh))(ho:s.heap.get? d=some o):Inv X pins σ (upd H d (.pS o (.dT bh))) s:=by
 obtain⟨h,g,dr,t,os⟩:=s;refine I.write (x:=d) (e:=d) (o:=.pS o (.dT bh)) (t':=t) (h':=h) (by rw[e];exact iM) (.inl rfl) (λb u _ q=>q) ⟨o,ho⟩ ⟨ho,?_⟩;refine(I.dS d _ e).vE (λb u _ q=>q) (λb q=>?_) λb ys q=>?_
 ·rw[bP (qV q e (λz=>nomatch z))];exact q
 ·rw[bP (qV q e (λz=>nomatch z))];exact q
end
theorem Cm(d:aj)(hd:(d==sysModules)=false):
  Meets (Builtin.«dict.items» ⟨[.ref d],[]⟩) (λ_ R s=>s.TypeIs (.ref d) "dict"/\R (.ok (.ret (.ref s.heap.objs.size))) {s with heap:=s.heap.push {cls:=.type "dict_items",data:=.fields #[.ref d]}}):=
 .of_wp λprog w A R s ⟨hT,h⟩=>by
  unfold Builtin.«dict.items»;refine ae ?_;unfold Builtin.Dict.noArgs;refine ae (wpAny_notOrdered_dict hT ?_);show aH _ _ (pure d) _ _ s;refine ax ?_;show aH _ _ (xJ d >>= _) _ _ s;unfold xJ;rw[if_neg (by rw[hd];exact aV)];exact ae (ax (ae (dO (ax ⟨_,rfl,h⟩))))
theorem JH:typeLookup (.type "dict_items") "__len__"=pure (some (.builtin "dict_items.__len__")):=by rw[typeLookup_type,builtinLookup_eq_fast];kernel_rfl
theorem El{prog:aR}{w:bH}:LB prog w "dict_items" where
 nl:=by decide
 nt:=by decide
 hint:=λA E a s Q hT h=>by
  unfold fT;refine ae (kU hT JH ?_);generalize Xh:("dict_items.__len__":String)=id0
  wp_delta
  rw[show splitId id0=some ("dict_items","__len__")from by subst Xh;symm];subst Xh;refine ae (rY (T:="dict_items") (b:=true) hT (by rw[isSubtype_type];kernel_rfl) ?_);refine fN (λOD=>absurd OD (by decide)) (λ_=>?_);refine fN (λ_=>?_) (λOD=>absurd (by symm) OD);exact ae (oU hT (ax (h false)))
structure M0(X:Cx)(o:bc)(m:Str)(apos cI:Pos):Prop where
 base:dH o m X.env (eval o X.env)=eval o X.env
 few:((cG cI (ao [] X.env)).all (λx=>!x.1)&&(kS cI (gM [] X.env)).all (λx=>x.1.isSome)
  && decide (([]:List bc).length + ([]:List fA).length + (if([]:List fA).isEmpty then 0 else 1)<30))=true
 line:(apos.endLine==cI.line)=true
 trees:cG cI (ao [] X.env)=[]
noncomputable def Gz(td:TE):TI:=λσ H R=>td σ H λx H1=>∃d bh,x = .ref d/\H1 d=some (.dT bh)/\∀ob,R (ItI d ob bh) (upd H1 d (.pS ob (.dT bh)))
section
variable {X:Cx}{o:bc}{apos cI:Pos}{td:TE}
theorem Bi(ho:PE X o td)(m:M0 X o "items" apos cI):PIL X (.Call (.Attribute o "items" apos) [] [] cI) (Gz td):=by
 intro pins s σ H R I h;refine wpAny_Call_method m.base m.few m.line Aq Ar PySem.F.type_dict_items (gb (ho pins s σ H _ I h) λ u s1  zq0=>?_);obtain ⟨x,H1,I1,rx,d,bh,ex,ed,q⟩:=zq0;subst ex;obtain rfl:u=cO d:=rx;obtain⟨t1,t2,t3⟩:=Sz I1 (.inr ⟨bh,.inl ed⟩);refine⟨t1,t2,?_⟩;rw[m.trees];obtain⟨z,hd,xs,rel,od,es,ep,e1,e2,e3,e4,e5⟩:=(show fR X.prog X.w H1 s1.heap d (.dT bh)from I1.dS d _ ed);have hn:es.size=bh.length:=by
  have h1:es.toList.length=xs.length:=by rw[e4,ay]
  have h2:=jE rel;have h3:es.toList.length=es.size:=by simp
  omega
 refine method0_meets Ar PySem.F.entry_dict_items t1 (PySem.F.args_dict_items_1 _) (Cm d t3) ⟨t1,?_⟩;have kp:∀b ob,s1.heap.get? b=some ob->(s1.heap.push {cls:=.type "dict_items",data:=.fields #[.ref d]}).get? b=some ob:=λb ob e=>af _ e;have IV:=(I1.kept (h':=s1.heap.push {cls:=.type "dict_items",data:=.fields #[.ref d]}) (t':=s1.toks) kp).freeze ed (kp _ _ e1);have gv:(s1.heap.push {cls:=.type "dict_items",data:=.fields #[.ref d]}).get? s1.heap.objs.size=some {cls:=.type "dict_items",data:=.fields #[.ref d]}:=aB _ rfl;refine⟨_,"dict_items",s1.heap.objs.size,rfl,IV,⟨_,gv,rfl⟩,El,?_⟩;intro A' pm s2 E h1 h2 k2 hpm I2;have NU:s2.heap.get? d=some od:=k2 _ _ (kp _ _ e1);have gv2:=k2 _ _ gv;refine LS (es:=es) (ep:=ep) ⟨_,gv2,rfl,rfl⟩ ⟨od,NU,e2.1,e3⟩ ?_;have nd:d≠s2.heap.objs.size:=aZ (aC NU);refine⟨⟨s2.heap.objs.size,[s2.heap.objs.size],_,_,_,rfl,I2.kept (t':=s2.toks) λb ob e=>af _ e,Gy nd e2.1 e3 hn,⟨_,_,_,_,aB _ rfl,.inl rfl⟩,λb hb=>?_,q od⟩,⟨_,af _ gv2,rfl⟩⟩;have e0:b=s2.heap.objs.size:=by simpa using hb
 subst e0;exact I2.oC (au _) (I2.dS.fresh (au _))
end
theorem GA{d:aj}{o:Obj}{bh:List (List Key×V)}{H:Hp}{Fin:List V->Hp->Prop}(Pv:Nat->List V->Hp->Prop)(hz:bh.length<av)(h0:Pv 0 [] H)(hs:∀i zs H,Pv i zs H->H d=some (.pS o (.dT bh))/\zs.length=i)(step:∀i zs H p b k y,Pv i zs H->bh[i]?=some (k,y)->H b=some (.tup (k.map kV))->H p=none->Pv (i+1) (zs++[.ref p]) (upd H p (.tup [.ref b,y])))(fin:∀zs H,Pv bh.length zs H->Fin zs H):LC (ItI d o bh) H Fin:=by
 refine⟨λi m zs H=>m=bh.length - i/\i<=bh.length/\Pv i zs H,⟨_,rfl,dj _,h0⟩,?_⟩;rintro i m zs H ⟨rfl,hi,p⟩;obtain⟨a,c⟩:=hs i zs H p;by_cases i9:i<bh.length
 ·refine .inr ⟨⟨a,i9⟩,by omega,λ v H'  zq0=>?_⟩;obtain ⟨q,b,k,y,e1,e2,e3,e4,e5⟩:=zq0;subst e1 e3;exact⟨bh.length - (i+1),by omega,rfl,i9,step i zs H q b k y p e5 e4 e2⟩
 ·have e:i=bh.length:=by omega
  subst e;exact .inl ⟨⟨a,rfl⟩,by omega,fin zs H p⟩
noncomputable def S5(tk tv:TE):TE:=λσ H Q=>∀p,H p=none->F0 [(tk,tv)] σ (upd H p (.dT [])) λps H2=>H2 p=some (.dT [])/\∃b ks y,ps=[(.ref b,y)]/\H2 b=some (.tup (ks.map kV))/\Q (.ref p) (upd H2 p (.dT (putK [] ks y)))
theorem LU{X:Cx}{pos:Pos}{k v:bc}{tk tv:TE}(hu:X.A.units+1<cLine)(hk:PE X k tk)(hv:PE X v tv):PE X (.Dict [some k] [v] pos) (S5 tk tv):=by
 intro pins s σ H Q I q;have hn:=I.dS.fresh (au s.heap.objs.size);have I1:=I.laid (a:=s.heap.objs.size) (o:=.dT []) (h':=s.heap.push {cls:=.type "dict",data:=.dict #[]}) (t':=s.toks) (λ_ _ q=>af _ q) (au _) (D7 s.heap I.xr);have P:YV X pos [some k] [v] [(tk,tv)]:=K6 hk hv Om;refine wpAny_Dict_any rfl rfl (by simp) (by show 1<=15;decide) (gb (P pins _ σ _ _ I1 (q _ hn)) λ ws s2  zq0=>?_);obtain ⟨ps,H2,I2,rel,e,b,ks,y,eps,eb,q2⟩:=zq0;subst eps;cases rel with
 |@cons _ bb _ bs r t=>
  cases t;obtain⟨b1,b2⟩:=bb;obtain⟨r1,r2⟩:=r;obtain rfl:b1=cO b:=r1;obtain⟨z,hd,xs,rel,dd⟩:=Qs I2.dS e;unfold storeAll;rw[iX];have hz:xs.length<=av:=by rw[<-jE rel];exact z
  have hl:(putK ([]:List (List Key×V)) ks y).length<=av:=by have:=iF ([]:List (List Key×V)) ks y;exact aX this (by decide)
  refine ae (ae (wpAny_dictSet_heap (hsz:=hz) (knd:=tupleKind (dB X.prog X.w)) (cH (jv _) hu) (yA I2.dS eb) dd λh' V9 hs=>ax ?_));show aH _ _ (forIn [] PUnit.unit _) _ _ _;rw[nE];refine ax ⟨.ref s.heap.objs.size,_,?_,rfl,q2⟩;obtain⟨o,es,ep,ho,h2,h3,h4,_,h5⟩:=V9;refine Ca I2 (by rw[e];exact iM) hs ⟨o,ho⟩ ⟨hl,hd,_,(rel.put ks eb r2).keeps λc ys ec=>?_,o,es,ep,ho,h2,h3,h4,h5⟩;rw[bP (qV ec e (λz=>nomatch z))];exact ec
end L2
namespace Wk
open PySem L2
noncomputable def kw:Kd->Str
 |.num=>"num"
 |.truth=>"truth"
 |.list _=>"list"
 |.to _ _=>"to"
noncomputable def kC:Kd->List Kd
 |.num=>[]
 |.truth=>[]
 |.list k=>[k]
 |.to k m=>[k,m]
noncomputable def c7:Kd->Nat
 |.num=>1
 |.truth=>1
 |.list k=>c7 k+1
 |.to k m=>c7 k + c7 m+1
theorem S6(k:Kd):eW k = .tuple (.str (kw k)::(kC k).map eW):=by cases k<;>rfl
theorem LV{k m:Kd}(h:kw k=kw m):(kC k).length=(kC m).length:=by
 cases k<;>cases m<;>first|rfl|(simp only[kw]at h;exact absurd h (by decide))
noncomputable def iH:List (Kd×Kd)->Nat
 |[]=>0
 |(k,m)::r=>c7 k + c7 m + iH r
theorem JI(k:Kd):0<c7 k:=by cases k<;>simp[c7]
theorem oH(a b:List (Kd×Kd)):iH (a++b)=iH a + iH b:=by
 induction a with
 |nil=>simp[iH]
 |cons x r ih=>obtain⟨k,m⟩:=x;simp only[cV,iH,ih];omega
theorem yP(a:List (Kd×Kd)):a.length<=iH a:=by
 induction a with
 |nil=>exact au _
 |cons x r ih=>obtain⟨k,m⟩:=x;have:=JI k;simp only[aY,iH];omega
theorem Em{k m:Kd}(h:kw k=kw m):iH ((kC k).zip (kC m))+2=c7 k + c7 m:=by
 cases k<;>cases m<;>first|rfl|(simp only[kw]at h;exact absurd h (by decide))|(simp only[kC,List.zip_cons_cons,List.zip_nil_right,iH,c7];omega)
noncomputable def HP(x:Kd×Kd):aq:=.tuple [eW x.1,eW x.2]
theorem HQ{k m:Kd}(h:kw k=kw m):(∀x∈(kC k).zip (kC m),x.1=x.2)↔k=m:=by
 cases k<;>cases m<;>first|(simp only[kw]at h;exact absurd h (by decide))|simp[kC]
noncomputable def yQ(K:aa):Sp:=λvs H Q _=>∃(v u:V)(k m:Kd),vs=[v,u]/\Rep K H (eW k) v/\Rep K H (eW m) u/\c7 k + c7 m<=100000/\∀H',bK H H'->Q (.bl (decide (k=m))) H'
noncomputable def look:List (Str×Kd)->Str->Option Kd
 |[],_=>none
 |(y,k)::r,x=>match look r x with
  |some m=>some m
  |none=>if y=x then some k else none
theorem sh(sc:List (Str×Kd))(y:Str)(k:Kd)(x:Str):look (sc++[(y,k)]) x=if y=x then some k else look sc x:=by
 induction sc with
 |nil=>simp only[eI,look]
 |cons p r ih=>
  obtain⟨z,m⟩:=p;rw[cV];simp only[look];rw[ih];by_cases h:y=x
  ·simp[h]
  ·simp[h]
structure wX(K:aa)(H:Hp)(a:aj)(sc:List (Str×Kd)):Prop where
 ex:∃bh:List (Key×V),H a=some (.dK bh)/\bh.length<=sc.length/\(∀x,look sc x=none->iP bh (.inr x)=none)/\∀x k,look sc x=some k->∃v,iP bh (.inr x)=some v/\Rep K H (eW k) v
theorem wX.mono{K:aa}{H H':Hp}{a:aj}{sc:List (Str×Kd)}(h:wX K H a sc)(s:bK H H'):wX K H' a sc:=by
 obtain⟨bh,e,l,n,r⟩:=h.ex;exact⟨bh,s _ _ e,l,n,λx k q=>let⟨v,h1,h2⟩:=r x k q;⟨v,h1,Rep.mono (bq.of_same s) _ _ h2⟩⟩
theorem wX.put{K:aa}{H:Hp}{a:aj}{sc:List (Str×Kd)}{y:Str}{k:Kd}{v:V}{bh:List (Key×V)}(e:H a=some (.dK bh))(l:bh.length<=sc.length)(n:∀x,look sc x=none->iP bh (.inr x)=none)(r:∀x m,look sc x=some m->∃v,iP bh (.inr x)=some v/\Rep K H (eW m) v)(hv:Rep K H (eW k) v):wX K (upd H a (.dK (putK bh (.inr y) v))) a (sc++[(y,k)]):=by
 have tl:bq K H (upd H a (.dK (putK bh (.inr y) v))):=.of_keep λb o h _ n _=>by
  rw[bP (λz=>by rw[z,e]at h;cases h;exact n _ rfl)];exact h
 refine⟨_,aW,by have:=iF bh (.inr y) v;rw[aL];simp;omega,λx h=>?_,λx m h=>?_⟩
 ·rw[sh]at h;by_cases hy:y=x
  ·rw[if_pos hy]at h;cases h
  ·rw[if_neg hy]at h;rw[jJ,if_neg (λz=>hy (qM z).symm)];exact n x h
 ·rw[sh]at h;by_cases hy:y=x
  ·rw[if_pos hy]at h;cases h;exact⟨v,by rw[jJ,if_pos (by rw[hy])],Rep.mono tl _ _ hv⟩
  ·rw[if_neg hy]at h;obtain⟨u,h1,h2⟩:=r x m h;exact⟨u,by rw[jJ,if_neg (λz=>hy (qM z).symm)];exact h1,Rep.mono tl _ _ h2⟩
structure Xz(lO:Str×List aq)(i:Int)(sc JJ:List (Str×Kd)):Prop where
 fn:lO.1 = "fun"->∃x k,lO.2=[.str x,eW k]/\JJ=sc++[(x,k)]
 case:lO.1 = "case"->i=2->∃k h t,lO.2=[eW k,.str h,.str t]/\JJ=sc++[(h,k)]++[(t,.list k)]
 other:lO.1≠"fun"->(lO.1 = "case"->i≠2)->JJ=sc
noncomputable def HR(K:aa):Sp:=λvs H Q _=>∃(v:V)(a:aj)(t:Ex)(i:Int) (sc JJ:List (Str×Kd)),vs=[v,.int i,.ref a]/\Rep K H (py t) v/\wX K H a sc/\sc.length<=3000000/\Xz t.lO i sc JJ/\∀b H',bK H H'->wX K H' b JJ->Q (.ref b) H'
end Wk
namespace L2
open PySem PySem.Spec PyProof.Rows
noncomputable def Ext(H H':Hp):Prop:=∀b o,H b=some o->(∀xs,o≠.lst xs)->H' b=some o
theorem Ext.of_same{H H':Hp}(s:bK H H'):Ext H H':=λb o h _=>s b o h
theorem Ext.write{H:Hp}{a:aj}{vs:List V}(h:H a=some (.lst vs))(o:HO):Ext H (upd H a o):=λb u q n=>by
 by_cases e:b=a
 ·subst e;rw[h]at q;cases q;exact absurd rfl (n vs)
 ·rw[bP e];exact q
theorem bq.oI{K:aa}{H H':Hp}(e:Ext H H'):bq K H H':=.of_keep λb o h n _ _=>e b o h n
structure Per where
 p:Hp->V->Prop
 mono:∀H H' v,Ext H H'->p H v->p H' v
inductive Sl where
 |un|d (x:aq)|l (xs:List aq)|o (xs:List aq)|h (P:Per)
noncomputable def Sl.cq:Sl->Option (List aq)
 |.l xs=>some xs
 |.o xs=>some xs
 |_=>none
noncomputable def Sl.rd:Sl->Option Sl
 |.un=>none
 |.o xs=>some (.l xs)
 |r=>some r
noncomputable def Sl.arg:Sl->Sl
 |.o xs=>.l xs
 |r=>r
noncomputable def sj(K:aa)(H:Hp)(a:aj)(xs:List aq):Prop:=∃vs,H a=some (.lst vs)/\bB K H xs vs
noncomputable def fV(K:aa)(H:Hp):Sl->V->Prop
 |.un,_=>True
 |.d x,v=>Rep K H x v
 |.l xs,v=>∃a,v = .ref a/\sj K H a xs
 |.o xs,v=>∃a,v = .ref a/\sj K H a xs
 |.h P,v=>P.p H v
noncomputable def eK(K:aa)(H H':Hp):Sl->V->Prop
 |.un,_=>True
 |.d x,v=>Rep K H' x v
 |.l xs,v=>∃a,v = .ref a/\sj K H' a xs
 |.o xs,v=>∃a,v = .ref a/\H a=none/\sj K H' a xs
 |.h P,v=>P.p H' v
section
variable {K:aa}{H H' XA:Hp}{a p:aj}{xs ys:List aq}{r:Sl}{v:V}
theorem sj.mono(s:bK H H')(h:sj K H a xs):sj K H' a xs:=let⟨vs,e,q⟩:=h;⟨vs,s _ _ e,bB.mono (bq.of_same s) _ _ q⟩
theorem sj.other{vs ws:List V}(h:sj K H a xs)(hp:H p=some (.lst vs))(n:a≠p):sj K (upd H p (.lst ws)) a xs:=by
 obtain⟨us,e,q⟩:=h;exact⟨us,by rw[bP n];exact e,bB.mono ((SameBut.upd _).tup hp) _ _ q⟩
theorem eK.rd(h:eK K H H' r v):fV K H' r v:=by
 cases r with
 |un=>trivial
 |d x=>exact h
 |l xs=>exact h
 |o xs=>obtain⟨a,e,_,q⟩:=h;exact⟨a,e,q⟩
 |h P=>exact h
theorem eK.since(s:bK H H')(h:eK K H' XA r v):eK K H XA r v:=by
 cases r with
 |un=>trivial
 |d x=>exact h
 |l xs=>exact h
 |o xs=>obtain⟨a,e,n,q⟩:=h;exact⟨a,e,s.free n,q⟩
 |h P=>exact h
theorem fV.mono(s:bK H H')(h:fV K H r v):fV K H' r v:=by
 cases r with
 |un=>trivial
 |d x=>exact Rep.mono (bq.of_same s) _ _ h
 |l xs=>obtain⟨a,e,q⟩:=h;exact⟨a,e,q.mono s⟩
 |o xs=>obtain⟨a,e,q⟩:=h;exact⟨a,e,q.mono s⟩
 |h P=>exact P.mono _ _ _ (Ext.of_same s) h
theorem fV.lst(h:fV K H r v)(e:r.cq=some xs):∃a vs,v = .ref a/\H a=some (.lst vs)/\bB K H xs vs:=by
 cases r with
 |un=>cases e
 |d x=>cases e
 |l ys=>cases e;obtain⟨a,e,vs,q1,q2⟩:=h;exact⟨a,vs,e,q1,q2⟩
 |o ys=>cases e;obtain⟨a,e,vs,q1,q2⟩:=h;exact⟨a,vs,e,q1,q2⟩
 |h P=>cases e
theorem eK.int{i:Int}:eK K H H' (.d (.int i)) (.int i):=@Rep.int K H' i
theorem eK.str{x:Str}:eK K H H' (.d (.str x)) (.str x):=@Rep.str K H' x
theorem eK.bool{b:Bool}:eK K H H' (.d (.bool b)) (.bl b):=@Rep.bool K H' b
theorem eK.ip:eK K H H' (.d .none) .ip:=@Rep.ip K H'
theorem fV.cP{i:Int}(h:fV K H (.d (.int i)) v):v = .int i:=Rep.cP (K:=K) (H:=H) h
theorem fV.cY{x:Str}(h:fV K H (.d (.str x)) v):v = .str x:=Rep.cY (K:=K) (H:=H) h
theorem fV.vR(h:fV K H (.d .none) v):v = .ip:=Rep.vR (K:=K) (H:=H) h
theorem eK.cP{i:Int}(h:eK K H H' (.d (.int i)) v):v = .int i:=Rep.cP (K:=K) (H:=H') h
theorem eK.cY{x:Str}(h:eK K H H' (.d (.str x)) v):v = .str x:=Rep.cY (K:=K) (H:=H') h
theorem eK.is_bool{b:Bool}(h:eK K H H' (.d (.bool b)) v):v = .bl b:=Rep.is_bool (K:=K) (H:=H') h
theorem fV.tup{xs:List aq}(h:fV K H (.d (.tuple xs)) v):∃a vs,v = .ref a/\fF K H a vs/\bB K H xs vs:=Rep.fz (K:=K) (H:=H) h
theorem eK.tup{xs:List aq}(h:eK K H H' (.d (.tuple xs)) v):∃a vs,v = .ref a/\fF K H' a vs/\bB K H' xs vs:=Rep.fz (K:=K) (H:=H') h
theorem eK.mk{xs:List aq}{vs:List V}(h:fF K H' a vs)(r:bB K H' xs vs):eK K H H' (.d (.tuple xs)) (.ref a):=Rep.tuple (K:=K) (H:=H') h r
theorem fV.arg(h:fV K H r v):fV K H r.arg v:=by cases r<;>exact h
end
inductive mx(K:aa)(H:Hp):List Sl->List V->Prop where
 |nil:mx K H [] []
 |cons {r:Sl} {v:V} {rs:List Sl} {vs:List V}:fV K H r v->mx K H rs vs->mx K H (r::rs) (v::vs)
theorem mx.mono{K:aa}{H H':Hp}(s:bK H H'):∀{rs:List Sl}{vs:List V},mx K H rs vs->mx K H' rs vs
 |_,_,.nil=>.nil
 |_,_,.cons h t=>.cons (h.mono s) (t.mono s)
theorem mx.arg{K:aa}{H:Hp}:∀{rs:List Sl}{vs:List V},mx K H rs vs->mx K H (rs.map Sl.arg) vs
 |_,_,.nil=>.nil
 |_,_,.cons h t=>.cons h.arg t.arg
theorem mx.length{K:aa}{H:Hp}:∀{rs:List Sl}{vs:List V},mx K H rs vs->vs.length=rs.length
 |_,_,.nil=>rfl
 |_,_,.cons h t=>by rw[aY,aY,t.length]
theorem mx.get{K:aa}{H:Hp}:∀{rs:List Sl}{vs:List V},mx K H rs vs->∀{i:Nat}{r:Sl},rs[i]?=some r->∃v,vs[i]?=some v/\fV K H r v
 |_,_,.nil,i,r,e=>by simp at e
 |_,_,.cons h t,0,r,e=>by simp at e;subst e;exact⟨_,rfl,h⟩
 |_,_,.cons h t,i+1,r,e=>by simpa using t.get (i:=i) (r:=r) (by simpa using e)
structure ER(K:aa)(H0:Hp)(hs:List (V×Sl))(ρ:List Sl)(σ:St)(H:Hp):Prop where
 same:bK H0 H
 len:ρ.length=σ.length
 dat:∀(i:Nat) x,ρ[i]?=some (.d x)->∃v,σ[i]?=some (some v)/\Rep K H x v
 lst:∀(i:Nat) xs,ρ[i]?=some (.l xs)->∃a,σ[i]?=some (some (.ref a))/\sj K H a xs
 Kr:∀(i:Nat) P,ρ[i]?=some (.h P)->∃v,σ[i]?=some (some v)/\P.p H v
 own:∀(i:Nat) xs,ρ[i]?=some (.o xs)->∃a,σ[i]?=some (some (.ref a))/\sj K H a xs/\H0 a=none
 sS:∀(i j:Nat) a xs ys,ρ[i]?=some (.o xs)->ρ[j]?=some (.l ys)->σ[i]?=some (some (.ref a))->σ[j]?≠some (some (.ref a))
 rj:∀(i j:Nat) a xs ys,i≠j->ρ[i]?=some (.o xs)->ρ[j]?=some (.o ys)->σ[i]?=some (some (.ref a))->σ[j]?≠some (some (.ref a))
 held:∀p∈hs,fV K H p.2 p.1
 sT:∀(i:Nat) xs a,ρ[i]?=some (.o xs)->σ[i]?=some (some (.ref a))->∀p∈hs,∀ys,p.2.cq=some ys->p.1≠.ref a
section
variable {K:aa}{H0 H H':Hp}{hs:List (V×Sl)}{ρ:List Sl}{σ:St}
theorem ER.grow(e:ER K H0 hs ρ σ H)(s:bK H H'):ER K H0 hs ρ σ H':=
 ⟨e.same.trans s,e.len,λi x h=>let⟨v,h1,h2⟩:=e.dat i x h;⟨v,h1,Rep.mono (bq.of_same s) _ _ h2⟩,λi x h=>let⟨v,h1,h2⟩:=e.lst i x h;⟨v,h1,h2.mono s⟩,
  λi P h=>let⟨v,h1,h2⟩:=e.Kr i P h;⟨v,h1,P.mono _ _ _ (Ext.of_same s) h2⟩,
  λi x h=>let⟨v,h1,h2,h3⟩:=e.own i x h;⟨v,h1,h2.mono s,h3⟩,e.sS,e.rj,λp hp=>(e.held p hp).mono s,e.sT⟩
theorem cp{α:Type}{l:List α}{i j:Nat}{x y:α}(h:(l.set i x)[j]?=some y):(i=j/\y=x/\i<l.length)\/(i≠j/\l[j]?=some y):=by
 rw[jd]at h;by_cases e:i=j
 ·rw[if_pos e]at h;by_cases l1:i<l.length
  ·rw[if_pos l1]at h;exact .inl ⟨e,(bE h).symm,l1⟩
  ·rw[if_neg l1]at h;cases h
 ·rw[if_neg e]at h;exact .inr ⟨e,h⟩
theorem rl{α:Type}{l:List α}{i j:Nat}{x y:α}(e:i≠j)(h:l[j]?=some y):(l.set i x)[j]?=some y:=by rw[jd,if_neg e];exact h
theorem oJ{α:Type}{l:List α}{i:Nat}{x:α}(h:i<l.length):(l.set i x)[i]?=some x:=by rw[jd,if_pos rfl,if_pos h]
theorem jj{α:Type}{l:List α}{i j:Nat}{x y:α}(e:i≠j)(h:(l.set i x)[j]?=some y):l[j]?=some y:=by rw[jd,if_neg e]at h;exact h
theorem ER.ac1{i:Nat}{r:Sl}{v:V}(e:ER K H0 hs ρ σ H)(h:fV K H r v)(no:∀xs,r≠.o xs)(sep:∀ys,r = .l ys->∀(j:Nat) xs,ρ[j]?=some (.o xs)->σ[j]?≠some (some v)):ER K H0 hs (ρ.set i r) (σ.set i (some v)) H:=by
 have ls:i<ρ.length->i<σ.length:=λh=>by rw[<-e.len];exact h
 refine⟨e.same,by rw[fq,fq,e.len],λj x q=>?_,λj x q=>?_,λj x q=>?_,λj x q=>?_,λj k a xs ys q1 q2 q3 q4=>?_,λj k a xs ys n q1 q2 q3 q4=>?_,e.held,λj xs a q1 q2=>?_⟩
 ·rcases cp q with⟨rfl,rfl,l1⟩|⟨n,q⟩
  ·exact⟨v,oJ (ls l1),h⟩
  ·obtain⟨u,h1,h2⟩:=e.dat j x q;exact⟨u,rl n h1,h2⟩
 ·rcases cp q with⟨rfl,rfl,l1⟩|⟨n,q⟩
  ·obtain⟨a,rfl,h2⟩:=h;exact⟨a,oJ (ls l1),h2⟩
  ·obtain⟨u,h1,h2⟩:=e.lst j x q;exact⟨u,rl n h1,h2⟩
 ·rcases cp q with⟨rfl,rfl,l1⟩|⟨n,q⟩
  ·exact⟨v,oJ (ls l1),h⟩
  ·obtain⟨u,h1,h2⟩:=e.Kr j x q;exact⟨u,rl n h1,h2⟩
 ·rcases cp q with⟨_,z,_⟩|⟨n,q⟩
  ·exact absurd z.symm (no x)
  ·obtain⟨u,h1,h2⟩:=e.own j x q;exact⟨u,rl n h1,h2⟩
 ·rcases cp q1 with⟨_,z,_⟩|⟨n1,q1⟩
  ·exact absurd z.symm (no xs)
  ·have q3:=jj n1 q3;rcases cp q2 with⟨rfl,z,l1⟩|⟨n2,q2⟩
   ·rw[oJ (ls l1)]at q4;have e4:v = .ref a:=bE (bE q4);exact sep ys z.symm j xs q1 (by rw[e4];exact q3)
   ·exact e.sS j k a xs ys q1 q2 q3 (jj n2 q4)
 ·rcases cp q1 with⟨_,z,_⟩|⟨n1,q1⟩
  ·exact absurd z.symm (no xs)
  rcases cp q2 with⟨_,z,_⟩|⟨n2,q2⟩
  ·exact absurd z.symm (no ys)
  exact e.rj j k a xs ys n q1 q2 (jj n1 q3) (jj n2 q4)
 ·rcases cp q1 with⟨_,z,_⟩|⟨n1,q1⟩
  ·exact absurd z.symm (no xs)
  ·exact e.sT j xs a q1 (jj n1 q2)
theorem ER.vT{i:Nat}{x:aq}{v:V}(e:ER K H0 hs ρ σ H)(h:Rep K H x v):ER K H0 hs (ρ.set i (.d x)) (σ.set i (some v)) H:=e.ac1 (r:=.d x) h (λ_ z=>nomatch z) λ_ z=>nomatch z
theorem ER.S7{i:Nat}{xs:List aq}{a:aj}(e:ER K H0 hs ρ σ H)(s:bK H H')(n:H a=none)(h:sj K H' a xs):ER K H0 hs (ρ.set i (.o xs)) (σ.set i (some (.ref a))) H':=by
 have ls:i<ρ.length->i<σ.length:=λh=>by rw[<-e.len];exact h
 have ne:∀{b:aj}{ys:List aq},sj K H b ys->b≠a:=λ⟨_,q,_⟩ z=>by rw[z,n]at q;cases q
 refine⟨e.same.trans s,by rw[fq,fq,e.len],λj x q=>?_,λj x q=>?_,λj x q=>?_,λj x q=>?_,λj k b xs ys q1 q2 q3 q4=>?_,λj k b xs ys n q1 q2 q3 q4=>?_,λp hp=>(e.held p hp).mono s,λj xs b q1 q2 p hp ws hw=>?_⟩
 ·rcases cp q with⟨_,z,_⟩|⟨n,q⟩
  ·cases z
  ·obtain⟨u,h1,h2⟩:=e.dat j x q;exact⟨u,rl n h1,Rep.mono (bq.of_same s) _ _ h2⟩
 ·rcases cp q with⟨_,z,_⟩|⟨n,q⟩
  ·cases z
  ·obtain⟨u,h1,h2⟩:=e.lst j x q;exact⟨u,rl n h1,h2.mono s⟩
 ·rcases cp q with⟨_,z,_⟩|⟨n,q⟩
  ·cases z
  ·obtain⟨u,h1,h2⟩:=e.Kr j x q;exact⟨u,rl n h1,x.mono _ _ _ (Ext.of_same s) h2⟩
 ·rcases cp q with⟨rfl,z,l1⟩|⟨n,q⟩
  ·cases z;exact⟨a,oJ (ls l1),h,e.same.free n⟩
  ·obtain⟨u,h1,h2,h3⟩:=e.own j x q;exact⟨u,rl n h1,h2.mono s,h3⟩
 ·rcases cp q2 with⟨_,z,_⟩|⟨n2,q2⟩
  ·cases z
  have q4:=jj n2 q4;rcases cp q1 with⟨rfl,z,l1⟩|⟨n1,q1⟩
  ·rw[oJ (ls l1)]at q3;have e3:V.ref a=V.ref b:=bE (bE q3);cases e3;obtain⟨c,h1,h2⟩:=e.lst k ys q2;rw[q4]at h1;cases h1;exact ne h2 rfl
  ·exact e.sS j k b xs ys q1 q2 (jj n1 q3) q4
 ·rcases cp q1 with⟨rfl,z,l1⟩|⟨n1,q1⟩
  ·rw[oJ (ls l1)]at q3;have e3:V.ref a=V.ref b:=bE (bE q3);cases e3;rcases cp q2 with⟨z2,_,_⟩|⟨n2,q2⟩
   ·exact n z2
   ·obtain⟨c,h1,h2,_⟩:=e.own k ys q2;rw[jj n2 q4]at h1;cases h1;exact ne h2 rfl
  ·have q3:=jj n1 q3;rcases cp q2 with⟨rfl,z,l2⟩|⟨n2,q2⟩
   ·rw[oJ (ls l2)]at q4;have e4:V.ref a=V.ref b:=bE (bE q4);cases e4;obtain⟨c,h1,h2,_⟩:=e.own j xs q1;rw[q3]at h1;cases h1;exact ne h2 rfl
   ·exact e.rj j k b xs ys n q1 q2 q3 (jj n2 q4)
 ·rcases cp q1 with⟨rfl,z,l1⟩|⟨n1,q1⟩
  ·rw[oJ (ls l1)]at q2;have e3:V.ref a=V.ref b:=bE (bE q2);cases e3;intro z;obtain⟨b,vs,h1,h2,_⟩:=(e.held p hp).lst hw;rw[z]at h1;cases h1;rw[n]at h2;cases h2
  ·exact e.sT j xs b q1 (jj n1 q2) p hp ws hw
theorem ER.write{i:Nat}{xs ys:List aq}{a:aj}{vs ws:List V}(e:ER K H0 hs ρ σ H)(hi:ρ[i]?=some (.o xs))(ha:σ[i]?=some (some (.ref a)))(hv:H a=some (.lst vs))(hw:bB K H ys ws):ER K H0 hs (ρ.set i (.o ys)) σ (upd H a (.lst ws)):=by
 have tl:bq K H (upd H a (.lst ws)):=(SameBut.upd _).tup hv;have li:i<ρ.length:=(ak.mp hi).1;have h0:H0 a=none:=by
  obtain⟨b,h1,_,h3⟩:=e.own i xs hi;rw[ha]at h1;cases h1;exact h3
 refine⟨λb o q=>by rw[bP (cn q h0)];exact e.same b o q,by rw[fq,e.len],λj x q=>?_,λj x q=>?_,λj x q=>?_,λj x q=>?_,λj k b us zs q1 q2 q3 q4=>?_,λj k b us zs n q1 q2 q3 q4=>?_,λp hp=>?_,λj us b q1 q2=>?_⟩
 ·rcases cp q with⟨_,z,_⟩|⟨n,q⟩
  ·cases z
  ·obtain⟨u,h1,h2⟩:=e.dat j x q;exact⟨u,h1,Rep.mono tl _ _ h2⟩
 ·rcases cp q with⟨_,z,_⟩|⟨n,q⟩
  ·cases z
  ·obtain⟨b,h1,h2⟩:=e.lst j x q;exact⟨b,h1,h2.other hv λz=>e.sS i j a xs x hi q ha (by rw[<-z];exact h1)⟩
 ·rcases cp q with⟨_,z,_⟩|⟨n,q⟩
  ·cases z
  ·obtain⟨u,h1,h2⟩:=e.Kr j x q;exact⟨u,h1,x.mono _ _ _ (Ext.write hv _) h2⟩
 ·rcases cp q with⟨rfl,z,_⟩|⟨n,q⟩
  ·cases z;exact⟨a,ha,⟨ws,aW,bB.mono tl _ _ hw⟩,h0⟩
  ·obtain⟨b,h1,h2,h3⟩:=e.own j x q;exact⟨b,h1,h2.other hv λz=>e.rj i j a xs x n hi q ha (by rw[<-z];exact h1),h3⟩
 ·rcases cp q2 with⟨_,z,_⟩|⟨n2,q2⟩
  ·cases z
  rcases cp q1 with⟨rfl,_,_⟩|⟨n1,q1⟩
  ·exact e.sS i k b xs zs hi q2 q3 q4
  ·exact e.sS j k b us zs q1 q2 q3 q4
 ·rcases cp q1 with⟨rfl,_,_⟩|⟨n1,q1⟩
  ·rcases cp q2 with⟨z,_,_⟩|⟨n2,q2⟩
   ·exact n z
   ·exact e.rj i k b xs zs n hi q2 q3 q4
  ·rcases cp q2 with⟨rfl,_,_⟩|⟨n2,q2⟩
   ·exact e.rj j i b us xs n q1 hi q3 q4
   ·exact e.rj j k b us zs n q1 q2 q3 q4
 ·have hh:=e.held p hp;obtain⟨pv,ps⟩:=p;cases ps with
  |un=>trivial
  |d x=>exact Rep.mono tl _ _ hh
  |l zs=>obtain⟨b,rfl,q⟩:=hh;exact⟨b,rfl,q.other hv λz=>e.sT i xs a hi ha (.ref b,.l zs) hp zs rfl (by rw[z])⟩
  |o zs=>obtain⟨b,rfl,q⟩:=hh;exact⟨b,rfl,q.other hv λz=>e.sT i xs a hi ha (.ref b,.o zs) hp zs rfl (by rw[z])⟩
  |h P=>exact P.mono _ _ _ (Ext.write hv _) hh
 ·rcases cp q1 with⟨rfl,_,_⟩|⟨n1,q1⟩
  ·exact e.sT i xs b hi q2
  ·exact e.sT j us b q1 q2
theorem ER.hold{v:V}{r:Sl}(e:ER K H0 hs ρ σ H)(h:fV K H r v)(sep:∀ys,r.cq=some ys->∀(i:Nat) xs a,ρ[i]?=some (.o xs)->σ[i]?=some (some (.ref a))->v≠.ref a):ER K H0 ((v,r)::hs) ρ σ H:=
 ⟨e.same,e.len,e.dat,e.lst,e.Kr,e.own,e.sS,e.rj,λp hp=>by
  rcases bf.mp hp with rfl|hp
  ·exact h
  ·exact e.held p hp,λi xs a q1 q2 p hp ys hy=>by
  rcases bf.mp hp with rfl|hp
  ·exact sep ys hy i xs a q1 q2
  ·exact e.sT i xs a q1 q2 p hp ys hy⟩
theorem ER.vU{p:V×Sl}(e:ER K H0 (p::hs) ρ σ H):ER K H0 hs ρ σ H:=
 ⟨e.same,e.len,e.dat,e.lst,e.Kr,e.own,e.sS,e.rj,λq hq=>e.held q (aU _ hq),λi xs a q1 q2 q hq=>e.sT i xs a q1 q2 q (aU _ hq)⟩
end
noncomputable def tR(K:aa)(ρ:List Sl)(r:Sl):TE:=λσ H Q=>(∃H0 hs,ER K H0 hs ρ σ H)/\∀v H',bK H H'->eK K H H' r v->Q v H'
noncomputable def tRT(K:aa)(ρ:List Sl)(b:Bool):TT:=λσ H Q=>(∃H0 hs,ER K H0 hs ρ σ H)/\∀H',bK H H'->Q b H'
noncomputable def tRD(K:aa)(ρ:List Sl)(ds:List aq):TA:=λσ H Q=>(∃H0 hs,ER K H0 hs ρ σ H)/\∀vs H',bK H H'->bB K H' ds vs->Q vs H'
noncomputable def tRA(K:aa)(ρ:List Sl)(rs:List Sl):TA:=λσ H Q=>(∃H0 hs,ER K H0 hs ρ σ H)/\∀vs H',bK H H'->mx K H' rs vs->Q vs H'
noncomputable def tRO(K:aa)(ρ:List Sl)(i:Option Int):TO:=λσ H Q=>(∃H0 hs,ER K H0 hs ρ σ H)/\∀H',bK H H'->Q i H'
noncomputable def VE(X:Cx)(ρ:List Sl)(e:bc)(r:Sl):Prop:=PE X e (tR X.K ρ r)
noncomputable def VT(X:Cx)(ρ:List Sl)(e:bc)(b:Bool):Prop:=PT X e (tRT X.K ρ b)
noncomputable def VW(X:Cx)(ρ:List Sl)(e:bc)(b:Bool):Prop:=PW X e (tRT X.K ρ b)
noncomputable def VD(X:Cx)(ρ:List Sl)(es:List bc)(ds:List aq):Prop:=PA X es (tRD X.K ρ ds)
noncomputable def VA(X:Cx)(ρ:List Sl)(es:List bc)(rs:List Sl):Prop:=PA X es (tRA X.K ρ rs)
noncomputable def VO(X:Cx)(ρ:List Sl)(e:Option bc)(i:Option Int):Prop:=PO X e (tRO X.K ρ i)
section
variable {X:Cx}{ρ:List Sl}{e a b c:bc}{es:List bc}{r ra rb:Sl}{pos:Pos}{d:aq}{ds:List aq}{rs:List Sl}
theorem PE.weak{t t':TE}(h:PE X e t)(w:∀σ H Q,t' σ H Q->t σ H Q):PE X e t':=λpins s σ H Q I q=>h pins s σ H Q I (w σ H Q q)
theorem PT.weak{t t':TT}(h:PT X e t)(w:∀σ H Q,t' σ H Q->t σ H Q):PT X e t':=λpins s σ H Q I q=>h pins s σ H Q I (w σ H Q q)
theorem PW.weak{t t':TT}(h:PW X e t)(w:∀σ H Q,t' σ H Q->t σ H Q):PW X e t':=λwh pins s σ H Q I q=>h wh pins s σ H Q I (w σ H Q q)
theorem PA.weak{t t':TA}(h:PA X es t)(w:∀σ H Q,t' σ H Q->t σ H Q):PA X es t':=λps pins s σ H Q I q=>h ps pins s σ H Q I (w σ H Q q)
theorem PO.weak{o:Option bc}{t t':TO}(h:PO X o t)(w:∀σ H Q,t' σ H Q->t σ H Q):PO X o t':=λpins s σ H Q I q=>h pins s σ H Q I (w σ H Q q)
theorem dC{K:aa}{σ:St}{H H':Hp}(h:∃H0 hs,ER K H0 hs ρ σ H)(s:bK H H'):∃H0 hs,ER K H0 hs ρ σ H':=let⟨a,b,e⟩:=h;⟨a,b,e.grow s⟩
noncomputable def sU(x:Str):List Str->Nat->Option Nat
 |[],_=>none
 |y::r,k=>if y=x then some k else sU x r (k+1)
theorem HS{x:Str}:∀{l:List Str}{k i:Nat},sU x l k=some i->k<=i/\l[i - k]?=some x
 |[],k,i,h=>nomatch h
 |y::r,k,i,h=>by
  rw[sU]at h;by_cases e:y=x
  ·rw[if_pos e]at h;cases h;exact⟨au _,by rw[nB,e];rfl⟩
  ·rw[if_neg e]at h;obtain⟨h1,h2⟩:=HS h;refine⟨by omega,?_⟩;rw[show i - k=(i - (k+1))+1 from by omega,pP];exact h2
theorem ic{x:Str}{i:Nat}{N:List Str}(h:sU x N 0=some i):N[i]?=some x:=by
 have:=(HS h).2;rwa[Nat.sub_zero]at this
theorem bU{i:Nat}{x:Str}(hi:sU x X.N 0=some i)(hr:(ρ[i]?).bind Sl.rd=some r)(hv:AO X.env.scope x:=by first|exact cm rfl|exact cW (cm rfl)|exact cW (cW rfl))(hd:(x==("__debug__":Str))=false:=by decide)(l9:(x==("__classdict__":Str))=false:=by decide):VE X ρ (.Name x pos) r:=by
 refine(gN (ic hi) hv hd l9).weak λσ H Q ⟨⟨H0,hs,e⟩,q⟩=>?_;cases h:ρ[i]? with
 |none=>rw[h]at hr;cases hr
 |some s=>
  rw[h]at hr;cases s with
  |un=>cases hr
  |d x=>cases hr;obtain⟨v,h1,h2⟩:=e.dat i x h;exact⟨v,h1,q v H (bK.refl H) h2⟩
  |l x=>cases hr;obtain⟨a,h1,h2⟩:=e.lst i x h;exact⟨_,h1,q _ H (bK.refl H) ⟨a,rfl,h2⟩⟩
  |o x=>cases hr;obtain⟨a,h1,h2,_⟩:=e.own i x h;exact⟨_,h1,q _ H (bK.refl H) ⟨a,rfl,h2⟩⟩
  |h P=>cases hr;obtain⟨v,h1,h2⟩:=e.Kr i P h;exact⟨v,h1,q v H (bK.refl H) h2⟩
theorem tY{i:Int}{j:Nat}:VE X ρ (.Constant (.int i) j pos) (.d (.int i)):=cS.weak (by rintro σ H Q ⟨_,q⟩;exact q _ H (bK.refl H) eK.int)
theorem yR{x:Str}{j:Nat}:VE X ρ (.Constant (.str x) j pos) (.d (.str x)):=tU.weak (by rintro σ H Q ⟨_,q⟩;exact q _ H (bK.refl H) eK.str)
theorem XB{b:Bool}{j:Nat}:VE X ρ (.Constant (.bool b) j pos) (.d (.bool b)):=Kx.weak (by rintro σ H Q ⟨_,q⟩;exact q _ H (bK.refl H) eK.bool)
theorem yS{j:Nat}:VE X ρ (.Constant .none j pos) (.d .none):=Ky.weak (by rintro σ H Q ⟨_,q⟩;exact q _ H (bK.refl H) eK.ip)
theorem nZ{x:Str}{v:V}{u:ah}(hg:Gl X x)(hm:X.mg x=some u)(rv:RelV v u)(h:∀H,Rep X.K H d v)(hd:(x==("__debug__":Str))=false:=by decide):VE X ρ (.Name x pos) (.d d):=
 (xR hg hm rv hd).weak (by rintro σ H Q ⟨_,q⟩;exact q _ H (bK.refl H) (h H))
theorem cF:VD X ρ [] []:=bD.weak (by rintro σ H Q ⟨_,q⟩;exact q [] H (bK.refl H) .nil)
theorem aQ(h:VE X ρ e (.d d))(t:VD X ρ es ds)(hs:ao (e::es) X.env=(false,eval e X.env)::ao es X.env:=by rfl):VD X ρ (e::es) (d::ds):=
 PA.weak (aO h t hs) (by rintro σ H Q ⟨er,q⟩;exact ⟨er,λv H1 s1 r1=>⟨dC er s1,λvs H2 s2 r2=>q (v::vs) H2 (s1.trans s2) (.cons (Rep.mono (bq.of_same s2) _ _ r1) r2)⟩⟩)
theorem bV:VA X ρ [] []:=bD.weak (by rintro σ H Q ⟨_,q⟩;exact q [] H (bK.refl H) .nil)
theorem aA(h:VE X ρ e r)(t:VA X ρ es rs)(hs:ao (e::es) X.env=(false,eval e X.env)::ao es X.env:=by rfl):VA X ρ (e::es) (r::rs):=
 PA.weak (aO h t hs) (by rintro σ H Q ⟨er,q⟩;exact ⟨er,λv H1 s1 r1=>⟨dC er s1,λvs H2 s2 r2=>q (v::vs) H2 (s1.trans s2) (.cons (r1.rd.mono s2) r2)⟩⟩)
theorem dP{k:Nat}(h:VD X ρ es ds)(hz:ds.length<=av:=by first|decide|exact fL rfl):VE X ρ (.Tuple es k pos) (.d (.tuple ds)):=
 PE.weak (me h) (by rintro σ H Q ⟨er,q⟩;exact ⟨er,λvs H1 s1 r1=>⟨by rw[r1.length];exact hz,λp np=>q _ _ (s1.trans (bu np _)) (eK.mk (fF.of aW) (bB.mono (bq.of_same (bu np _)) _ _ r1))⟩⟩)
theorem gq(h:VD X ρ es ds)(hz:ds.length<=av:=by first|decide|exact fL rfl):VE X ρ (.List es pos) (.o ds):=
 PE.weak (tW h) (by rintro σ H Q ⟨er,q⟩;exact ⟨er,λvs H1 s1 r1=>⟨by rw[r1.length];exact hz,λp np=>q _ _ (s1.trans (bu np _)) ⟨p,rfl,s1.free np,vs,aW,bB.mono (bq.of_same (bu np _)) _ _ r1⟩⟩⟩)
theorem uY{op:Operator}{r2:R2}(ho:uB X (binaryOp op) r2)(ha:VE X ρ a ra)(hb:VE X ρ b rb)(h:∀H x y Q,fV X.K H ra x->fV X.K H rb y->(∀z H',bK H H'->eK X.K H H' r z->Q z H')->r2 x y H Q):VE X ρ (.BinOp a op b pos) r:=
 PE.weak (DV ho ha hb) (by rintro σ H Q ⟨er,q⟩;exact ⟨er,λx H1 s1 r1=>⟨dC er s1,λy H2 s2 r2=>h H2 x y _ (r1.rd.mono s2) r2.rd λz H3 s3 r3=>q z H3 ((s1.trans s2).trans s3) (r3.since (s1.trans s2))⟩⟩)
theorem vV{op:CmpOp}{r2:R2}(ho:uB X (compareOp op) r2)(ha:VE X ρ a ra)(hb:VE X ρ b rb)(h:∀H x y Q,fV X.K H ra x->fV X.K H rb y->(∀z H',bK H H'->eK X.K H H' r z->Q z H')->r2 x y H Q)(hm:behindInMarks op b=false):VE X ρ (.Compare a [op] [b] pos) r:=
 PE.weak (N8 ho ha hb hm) (by rintro σ H Q ⟨er,q⟩;exact ⟨er,λx H1 s1 r1=>⟨dC er s1,λy H2 s2 r2=>h H2 x y _ (r1.rd.mono s2) r2.rd λz H3 s3 r3=>q z H3 ((s1.trans s2).trans s3) (r3.since (s1.trans s2))⟩⟩)
theorem oK{op:CmpOp}{r2:R2}{k:Bool}(ho:uB X (compareOp op) r2)(ha:VE X ρ a ra)(hb:VE X ρ b rb)(h:∀H x y Q,fV X.K H ra x->fV X.K H rb y->Q (.bl k) H->r2 x y H Q)(hm:behindInMarks op b=false):VT X ρ (.Compare a [op] [b] pos) k:=
 PT.weak (kz ho ha hb hm) (by rintro σ H Q ⟨er,q⟩;exact ⟨er,λx H1 s1 r1=>⟨dC er s1,λy H2 s2 r2=>h H2 x y _ (r1.rd.mono s2) r2.rd ⟨k,rfl,q H2 (s1.trans s2)⟩⟩⟩)
theorem gH{i j:Int}(ha:VE X ρ a (.d (.int i)))(hb:VE X ρ b (.d (.int j))):VE X ρ (.BinOp a .Add b pos) (.d (.int (i + j))):=
 uY Sa ha hb λH x y Q rx ry q=>⟨i,j,fV.cP rx,fV.cP ry,q _ H (bK.refl H) eK.int⟩
theorem xZ{i j:Int}(ha:VE X ρ a (.d (.int i)))(hb:VE X ρ b (.d (.int j))):VE X ρ (.BinOp a .Sub b pos) (.d (.int (i - j))):=
 uY Sb ha hb λH x y Q rx ry q=>⟨i,j,fV.cP rx,fV.cP ry,q _ H (bK.refl H) eK.int⟩
theorem p7{i j:Int}(ha:VE X ρ a (.d (.int i)))(hb:VE X ρ b (.d (.int j)))(h:N5 i j):VE X ρ (.BinOp a .Mult b pos) (.d (.int (i * j))):=
 uY Sd ha hb λH x y Q rx ry q=>⟨i,j,fV.cP rx,fV.cP ry,h,q _ H (bK.refl H) eK.int⟩
theorem my{i j:Int}(ha:VE X ρ a (.d (.int i)))(hb:VE X ρ b (.d (.int j)))(h:0<j:=by decide):VE X ρ (.BinOp a .Mod b pos) (.d (.int (i % j))):=
 uY Se ha hb λH x y Q rx ry q=>⟨i,j,fV.cP rx,fV.cP ry,h,q _ H (bK.refl H) eK.int⟩
theorem kD{i j:Int}(ha:VE X ρ a (.d (.int i)))(hb:VE X ρ b (.d (.int j)))(h:R9 i j:=by exact⟨by decide,by decide⟩):VE X ρ (.BinOp a .FloorDiv b pos) (.d (.int (i / j))):=
 uY N6 ha hb λH x y Q rx ry q=>⟨i,j,fV.cP rx,fV.cP ry,h,q _ H (bK.refl H) eK.int⟩
theorem du{i j:Str}(ha:VE X ρ a (.d (.str i)))(hb:VE X ρ b (.d (.str j)))(h:i.length + j.length<=av):VE X ρ (.BinOp a .Add b pos) (.d (.str (i++j))):=
 uY yw ha hb λH x y Q rx ry q=>⟨i,j,fV.cY rx,fV.cY ry,h,q _ H (bK.refl H) eK.str⟩
theorem HU{xs ys:List aq}(ha:VE X ρ a (.d (.tuple xs)))(hb:VE X ρ b (.d (.tuple ys)))(h:xs.length + ys.length<=av):VE X ρ (.BinOp a .Add b pos) (.d (.tuple (xs++ys))):=
 uY rg ha hb λH x y Q rx ry q=>by
  obtain⟨p,vs,rfl,hq,rp⟩:=fV.tup rx;obtain⟨p2,ws,rfl,Xu,OP⟩:=fV.tup ry;exact Eb hq Xu (by rw[rp.length,OP.length];exact h) λc H3 s3 h3=>q _ _ s3 (eK.mk h3 ((bB.mono (bq.of_same s3) _ _ rp).append (bB.mono (bq.of_same s3) _ _ OP)))
theorem dg{xs:List aq}{i:Int}(ha:VE X ρ a (.d (.tuple xs)))(hb:VE X ρ b (.d (.int i)))(h:oZ xs i=some d)(hs:nX b:=by exactλ_ _=>rfl):VE X ρ (.Subscript a b pos) (.d d):=
 PE.weak (eO dX ha hb hs) λσ H Q ⟨er,q⟩=>⟨er,λx H1 s1 r1=>⟨dC er s1,λy H2 s2 r2=>by
  obtain⟨p,vs,rfl,hq,rp⟩:=fV.tup (r1.rd.mono s2);obtain rfl:=eK.cP r2;obtain⟨j,h1,h2,h3,h4,h5⟩:=nW h;obtain⟨z,hz,rz⟩:=rp.get h2;refine⟨p,vs,i,z,rfl,rfl,hq,?_,q z H2 (s1.trans s2) rz⟩;unfold oZ at h ⊢;rw[rp.length];cases q:Jn xs.length i with
  |none=>rw[q]at h;cases h
  |some k=>
   have hk:=(r8 q).1;rw[h1]at hk;cases hk
   exact hz⟩⟩
theorem gC{xs:List aq}{i:Int}(ha:VE X ρ a ra)(hb:VE X ρ b (.d (.int i)))(ea:ra.cq=some xs)(h:oZ xs i=some d)(hs:nX b:=by exactλ_ _=>rfl):VE X ρ (.Subscript a b pos) (.d d):=
 PE.weak (eO mw ha hb hs) λσ H Q ⟨er,q⟩=>⟨er,λx H1 s1 r1=>⟨dC er s1,λy H2 s2 r2=>by
  obtain⟨p,vs,rfl,hq,rp⟩:=(r1.rd.mono s2).lst ea;obtain rfl:=eK.cP r2;obtain⟨j,h1,h2,h3,h4,h5⟩:=nW h;obtain⟨z,hz,rz⟩:=rp.get h2;refine⟨p,vs,i,z,rfl,rfl,fU.of hq,?_,q z H2 (s1.trans s2) rz⟩;unfold oZ at h ⊢;rw[rp.length];cases q:Jn xs.length i with
  |none=>rw[q]at h;cases h
  |some k=>
   have hk:=(r8 q).1;rw[h1]at hk;cases hk
   exact hz⟩⟩
theorem uZ:VO X ρ none none:=PO.weak xT (by rintro σ H Q ⟨_,q⟩;exact q H (bK.refl H))
theorem mz{i:Int}(h:VE X ρ e (.d (.int i))):VO X ρ (some e) (some i):=PO.weak (xU h) (by rintro σ H Q ⟨er,q⟩;exact ⟨er,λv H1 s1 r1=>⟨i,eK.cP r1,q H1 s1⟩⟩)
noncomputable def cutD(xs:List aq)(lo hi:Option Int):List aq:=(xs.drop (HT.jw xs.length 0 lo)).take (HT.jw xs.length xs.length hi - HT.jw xs.length 0 lo)
theorem yT{K:aa}{H:Hp}{xs:List aq}{vs:List V}(h:bB K H xs vs)(lo hi:Option Int):bB K H (cutD xs lo hi) (sQ vs lo hi):=by
 unfold cutD sQ;rw[h.length];exact(h.drop _).take _
theorem LW{xs:List aq}{lo hi:Option bc}{i j:Option Int}{p2:Pos}(ha:VE X ρ a (.d (.tuple xs)))(hl:VO X ρ lo i)(hh:VO X ρ hi j)(h:¬(HT.jw xs.length 0 i=0/\HT.jw xs.length xs.length j=xs.length)):
  VE X ρ (.Subscript a (.Slice lo hi none p2) pos) (.d (.tuple (cutD xs i j))):=
 PE.weak (pf FW ha hl hh) λσ H Q ⟨er,q⟩=>⟨er,λx H1 s1 r1=>⟨dC er s1,λH2 s2=>⟨dC er (s1.trans s2),λH3 s3=>by
  obtain⟨p,vs,rfl,hq,rp⟩:=fV.tup (r1.rd.mono (s2.trans s3));refine⟨p,vs,rfl,hq,by rw[rp.length];exact h,λc hc=>q _ _ ((s1.trans (s2.trans s3)).trans (bu hc _)) (eK.mk (fF.of aW) ?_)⟩
  exact yT (bB.mono (bq.of_same (bu hc _)) _ _ rp) i j⟩⟩⟩
theorem LX{xs:List aq}{lo hi:Option bc}{i j:Option Int}{p2:Pos}(ha:VE X ρ a ra)(hl:VO X ρ lo i)(hh:VO X ρ hi j)(ea:ra.cq=some xs):VE X ρ (.Subscript a (.Slice lo hi none p2) pos) (.o (cutD xs i j)):=
 PE.weak (pf HD ha hl hh) λσ H Q ⟨er,q⟩=>⟨er,λx H1 s1 r1=>⟨dC er s1,λH2 s2=>⟨dC er (s1.trans s2),λH3 s3=>by
  obtain⟨p,vs,rfl,hq,rp⟩:=(r1.rd.mono (s2.trans s3)).lst ea;refine⟨p,vs,rfl,fU.of hq,λc hc=>q _ _ ((s1.trans (s2.trans s3)).trans (bu hc _)) ⟨c,rfl,(s1.trans (s2.trans s3)).free hc,_,aW,?_⟩⟩
  exact yT (bB.mono (bq.of_same (bu hc _)) _ _ rp) i j⟩⟩⟩
noncomputable def Sl.dat:Sl->Option aq
 |.d x=>some x
 |.l xs=>some (.list xs)
 |.o xs=>some (.list xs)
 |.un=>none
 |.h _=>none
theorem fV.OQ{K:aa}{H:Hp}{v:V}(h:fV K H r v)(e:r.dat=some d):Oy K H d v:=by
 cases r with
 |un=>cases e
 |d x=>
  cases e;have h':Rep K H d v:=h;cases d with
  |list xs=>rw[Rep]at h';obtain⟨a,o,vs,rfl,h1,h2⟩:=h';exact⟨a,vs,rfl,.inl (.inr ⟨o,h1⟩),h2⟩
  |_=>exact h'
 |l xs=>cases e;obtain⟨a,rfl,vs,h1,h2⟩:=h;exact⟨a,vs,rfl,fU.of h1,h2⟩
 |o xs=>cases e;obtain⟨a,rfl,vs,h1,h2⟩:=h;exact⟨a,vs,rfl,fU.of h1,h2⟩
 |h P=>cases e
theorem S8{n:Nat}{d':aq}(hu:X.A.units + n<cLine)(ha:VE X ρ a ra)(hb:VE X ρ b rb)(ea:ra.dat=some d)(eb:rb.dat=some d')(ca:d.canLay0=true)(cb:d'.canLay0=true)(hn:d.depth<=n\/d'.depth<=n):VE X ρ (.Compare a [.Eq] [b] pos) (.d (.bool (tO d d'))):=
 vV (Lj hu) ha hb (λH x y Q rx ry q=>⟨d,d',rx.OQ ea,ry.OQ eb,ca,cb,hn,q _ H (bK.refl H) eK.bool⟩) (gP _)
theorem LY{n:Nat}{d':aq}(hu:X.A.units + n<cLine)(ha:VE X ρ a ra)(hb:VE X ρ b rb)(ea:ra.dat=some d)(eb:rb.dat=some d')(ca:d.canLay0=true)(cb:d'.canLay0=true)(hn:d.depth<=n\/d'.depth<=n):VT X ρ (.Compare a [.Eq] [b] pos) (tO d d'):=
 oK (Lj hu) ha hb (λH x y Q rx ry q=>⟨d,d',rx.OQ ea,ry.OQ eb,ca,cb,hn,q⟩) (gP _)
theorem bX{x y:Str}(ha:VE X ρ a (.d (.str x)))(hb:VE X ρ b (.d (.str y))):VT X ρ (.Compare a [.Eq] [b] pos) (decide (x=y)):=
 oK yt ha hb (λH u w Q rx ry q=>by
  obtain rfl:=fV.cY rx;obtain rfl:=fV.cY ry;refine⟨rfl,?_⟩
  rw[show decide (V.str x=V.str y)=decide (x=y)from by simp];exact q) (gP _)
theorem yU{x y:Str}(ha:VE X ρ a (.d (.str x)))(hb:VE X ρ b (.d (.str y))):VT X ρ (.Compare a [.NotEq] [b] pos) (!decide (x=y)):=
 oK AS ha hb (λH u w Q rx ry q=>by
  obtain rfl:=fV.cY rx;obtain rfl:=fV.cY ry;refine⟨rfl,?_⟩
  rw[show decide (V.str x=V.str y)=decide (x=y)from by simp];exact q) (gP _)
theorem eL{x y:Int}(ha:VE X ρ a (.d (.int x)))(hb:VE X ρ b (.d (.int y))):VT X ρ (.Compare a [.Eq] [b] pos) (decide (x=y)):=
 oK yt ha hb (λH u w Q rx ry q=>by
  obtain rfl:=fV.cP rx;obtain rfl:=fV.cP ry;refine⟨rfl,?_⟩
  rw[show decide (V.int x=V.int y)=decide (x=y)from by simp];exact q) (gP _)
theorem GB{x y:Int}(ha:VE X ρ a (.d (.int x)))(hb:VE X ρ b (.d (.int y))):VT X ρ (.Compare a [.NotEq] [b] pos) (!decide (x=y)):=
 oK AS ha hb (λH u w Q rx ry q=>by
  obtain rfl:=fV.cP rx;obtain rfl:=fV.cP ry;refine⟨rfl,?_⟩
  rw[show decide (V.int x=V.int y)=decide (x=y)from by simp];exact q) (gP _)
theorem rn{x y:Int}(ha:VE X ρ a (.d (.int x)))(hb:VE X ρ b (.d (.int y))):VT X ρ (.Compare a [.Lt] [b] pos) (decide (x<y)):=
 oK KL ha hb (λH u w Q rx ry q=>⟨x,y,fV.cP rx,fV.cP ry,q⟩) (gP _)
theorem qb{x y:Int}(ha:VE X ρ a (.d (.int x)))(hb:VE X ρ b (.d (.int y))):VT X ρ (.Compare a [.Gt] [b] pos) (decide (y<x)):=
 oK Qn ha hb (λH u w Q rx ry q=>⟨x,y,fV.cP rx,fV.cP ry,q⟩) (gP _)
noncomputable def Sl.XC:Sl->Bool
 |.d .none=>true
 |_=>false
theorem En{x:aq}:Sl.d x≠.un/\∀P,Sl.d x≠.h P:=⟨(by intro z;cases z),(by intro _ z;cases z)⟩
theorem Cn{K:aa}{H:Hp}{v:V}(h:fV K H r v)(hu:r≠.un/\∀P,r≠.h P):decide (v=V.ip)=r.XC:=by
 cases r with
 |un=>exact absurd rfl hu.1
 |h P=>exact absurd rfl (hu.2 P)
 |d x=>
  have h:Rep K H x v:=h;cases x with
  |none=>rw[Rep]at h;subst h;rfl
  |bool b=>rw[Rep]at h;subst h;rfl
  |int b=>rw[Rep]at h;subst h;rfl
  |str b=>rw[Rep]at h;subst h;rfl
  |tuple b=>rw[Rep]at h;obtain⟨a,vs,rfl,_⟩:=h;rfl
  |list b=>rw[Rep]at h;obtain⟨a,o,vs,rfl,_⟩:=h;rfl
  |dict b=>rw[Rep]at h;obtain⟨a,o,dx,vs,rfl,_⟩:=h;rfl
 |l xs=>obtain⟨a,rfl,_⟩:=h;rfl
 |o xs=>obtain⟨a,rfl,_⟩:=h;rfl
theorem tZ{j:Nat}{p2:Pos}(ha:VE X ρ a ra)(hu:ra≠.un/\∀P,ra≠.h P:=by first|exact En|exact HV|exact HW):VT X ρ (.Compare a [.Is] [.Constant .none j p2] pos) ra.XC:=
 oK KN ha (yS (j:=j) (pos:=p2)) (λH x y Q rx ry q=>⟨fV.vR ry,by rw[Cn rx hu];exact q⟩) (gP _)
theorem sk{j:Nat}{p2:Pos}(ha:VE X ρ a ra)(hu:ra≠.un/\∀P,ra≠.h P:=by first|exact En|exact HV|exact HW):VT X ρ (.Compare a [.IsNot] [.Constant .none j p2] pos) (!ra.XC):=
 oK N7 ha (yS (j:=j) (pos:=p2)) (λH x y Q rx ry q=>⟨fV.vR ry,by rw[Cn rx hu];exact q⟩) (gP _)
theorem qc{k:Bool}(h:VT X ρ a k):VT X ρ (.UnaryOp .Not a pos) (!k):=PT.weak (KD h) (by rintro σ H Q ⟨er,q⟩;exact ⟨er,λH1 s1=>q H1 s1⟩)
theorem bW{k k':Bool}(h:VT X ρ a k)(e:k=k'):VT X ρ a k':=by rw[<-e];exact h
theorem hX{k:Bool}(h:VW X ρ e k):VT X ρ e k:=PW.pt h
theorem lP{k:Bool}(h:VT X ρ a k):VW X ρ (.BoolOp .And [a] pos) k:=Ht h
theorem hZ{k:Bool}(h:VT X ρ a k):VW X ρ (.BoolOp .Or [a] pos) k:=FJ h
theorem kE{k:Bool}(h:VT X ρ a true)(t:VW X ρ (.BoolOp .And (b::es) pos) k):VW X ρ (.BoolOp .And (a::b::es) pos) k:=
 PW.weak (FK h t) (by rintro σ H Q ⟨er,q⟩;exact ⟨er,λH1 s1=>uT ⟨dC er s1,λH2 s2=>q H2 (s1.trans s2)⟩⟩)
theorem sr(h:VT X ρ a false):VW X ρ (.BoolOp .And (a::b::es) pos) false:=
 PW.weak (FK (V4:=λ_ _ _=>False) h λ_ _ _ _ _ _ _ z=>z.elim) (by rintro σ H Q ⟨er,q⟩;exact ⟨er,λH1 s1=>qJ <| q H1 s1⟩)
theorem t7(h:VT X ρ a true):VW X ρ (.BoolOp .Or (a::b::es) pos) true:=
 PW.weak (Hu (V4:=λ_ _ _=>False) h λ_ _ _ _ _ _ _ z=>z.elim) (by rintro σ H Q ⟨er,q⟩;exact ⟨er,λH1 s1=>uT <| q H1 s1⟩)
theorem iw{k:Bool}(h:VT X ρ a false)(t:VW X ρ (.BoolOp .Or (b::es) pos) k):VW X ρ (.BoolOp .Or (a::b::es) pos) k:=
 PW.weak (Hu h t) (by rintro σ H Q ⟨er,q⟩;exact ⟨er,λH1 s1=>qJ ⟨dC er s1,λH2 s2=>q H2 (s1.trans s2)⟩⟩)
theorem QL{j k:Bool}(h:VT X ρ a j)(t:j=false->VW X ρ (.BoolOp .Or (b::es) pos) k):VW X ρ (.BoolOp .Or (a::b::es) pos) (j||k):=by
 cases j with
 |true=>exact t7 h
 |false=>exact iw h (t rfl)
theorem i6{k:Bool}(h:VE X ρ e (.d (.bool k)))(he:∀whole,isTrue e X.env whole=(do let v <-whole;standAt e.pos;holding [v] (truthy v)):=by intro _;rfl):VT X ρ e k:=
 PT.weak (RQ h he) (by rintro σ H Q ⟨er,q⟩;exact ⟨er,λv H1 s1 r1=>⟨k,eK.is_bool r1,q H1 s1⟩⟩)
theorem Co{xs:List aq}(h:VE X ρ e r)(hr:r.cq=some xs)(he:∀whole,isTrue e X.env whole=(do let v <-whole;standAt e.pos;holding [v] (truthy v)):=by intro _;rfl):VT X ρ e (!xs.isEmpty):=
 PT.weak (uN h he) λσ H Q ⟨er,q⟩=>⟨er,λv H1 s1 r1=>by
  obtain⟨a,vs,rfl,h1,h2⟩:=r1.rd.lst hr;refine⟨_,.inl ⟨vs,fU.of h1,rfl⟩,?_⟩;have:vs.isEmpty=xs.isEmpty:=by
   have:=h2.length;cases vs<;>cases xs<;>simp_all
  rw[this]
  exact q H1 s1⟩
theorem S9{k:Bool}(h:VE X ρ a (.d (.bool k))):VE X ρ (.UnaryOp .Not a pos) (.d (.bool (!k))):=PE.weak (RS h) (by rintro σ H Q ⟨er,q⟩;exact ⟨er,λv H1 s1 r1=>⟨k,eK.is_bool r1,q _ H1 s1 eK.bool⟩⟩)
theorem GC{op:BoolOp}(h:VE X ρ a r):VE X ρ (.BoolOp op [a] pos) r:=RR h
theorem GD{j k:Bool}(h:VE X ρ a (.d (.bool j)))(t:j=true->VE X ρ (.BoolOp .And (b::es) pos) (.d (.bool k))):VE X ρ (.BoolOp .And (a::b::es) pos) (.d (.bool (j&&k))):=by
 cases j with
 |true=>exact PE.weak (KE h (t rfl)) (by rintro σ H Q ⟨er,q⟩;exact ⟨er,λv H1 s1 r1=>⟨true,eK.is_bool r1,uT ⟨dC er s1,λu H2 s2 r2=>q u H2 (s1.trans s2) r2⟩⟩⟩)
 |false=>exact PE.weak (KE (tb:=λ_ _ _=>False) h λ_ _ _ _ _ _ z=>z.elim) (by rintro σ H Q ⟨er,q⟩;exact ⟨er,λv H1 s1 r1=>⟨false,eK.is_bool r1,qJ <| q _ H1 s1 eK.bool⟩⟩)
theorem QM{k:Bool}(hc:VT X ρ c k)(ha:k=true->VE X ρ a r)(hb:k=false->VE X ρ b r):VE X ρ (.IfExp c a b pos) r:=by
 cases k with
 |true=>exact PE.weak (Dx (tb:=λ_ _ _=>False) hc (ha rfl) λ_ _ _ _ _ _ z=>z.elim) (by rintro σ H Q ⟨er,q⟩;exact ⟨er,λH1 s1=>uT ⟨dC er s1,λu H2 s2 r2=>q u H2 (s1.trans s2) (r2.since s1)⟩⟩)
 |false=>exact PE.weak (Dx (ta:=λ_ _ _=>False) hc (λ_ _ _ _ _ _ z=>z.elim) (hb rfl)) (by rintro σ H Q ⟨er,q⟩;exact ⟨er,λH1 s1=>qJ ⟨dC er s1,λu H2 s2 r2=>q u H2 (s1.trans s2) (r2.since s1)⟩⟩)
end
noncomputable def gr(K:aa)(R:List Sl->Sl->Prop):Sp:=λvs H Q _=>∃as r,mx K H as vs/\R as r/\∀v H',bK H H'->eK K H H' r v->Q v H'
section
variable {X:Cx}{ρ:List Sl}{e a b c:bc}{es:List bc}{r ra rb:Sl}{p p2 pos:Pos}{d:aq}{ds:List aq}{rs:List Sl}
theorem bG{k:Nat}{x:Str}{ps:List Str}{R:List Sl->Sl->Prop}(D:cK X.prog X.w X.K X.mg X.base k x ps (gr X.K R))(hr:iD k X.A)(ha:VA X ρ (e::es) rs)(h:R (rs.map Sl.arg) r)(hg:Gl X x:=by rfl)(qX:(x==("__debug__":Str))=false:=by decide)(he:ao (e::es) X.env=(false,eval e X.env)::ao es X.env:=by rfl)(kY:(cG pos (ao es X.env)).any (·.1)=false:=by rfl):VE X ρ (.Call (.Name x p) (e::es) [] pos) r:=
 PE.weak (iQ D hr hg ha qX he kY) (by rintro σ H Q ⟨er,q⟩;exact ⟨er,λvs H1 s1 r1=>by
  show gr X.K R (vs++[]) H1 Q E0;rw[cf]
  exact⟨rs.map Sl.arg,r,r1.arg,h,λv H2 s2 r2=>q v H2 (s1.trans s2) (r2.since s1)⟩⟩)
noncomputable def Sl.tyN:Sl->Option String
 |.d .none=>some "NoneType"
 |.d (.bool _)=>some "bool"
 |.d (.int _)=>some "int"
 |.d (.str _)=>some "str"
 |.d (.tuple _)=>some "tuple"
 |.l _=>some "list"
 |.o _=>some "list"
 |_=>none
theorem fV.ty{K:aa}{H:Hp}{v:V}{T:String}(h:fV K H r v)(e:r.tyN=some T):Qw K H v (.type T):=by
 cases r with
 |un=>cases e
 |d x=>
  have h:Rep K H x v:=h;cases x with
  |none=>rw[Rep]at h;subst h;cases e;exact .of .ip
  |bool b=>rw[Rep]at h;subst h;cases e;exact .of (.bl b)
  |int b=>rw[Rep]at h;subst h;cases e;exact .of (.int b)
  |str b=>rw[Rep]at h;subst h;cases e;exact .of (.str b)
  |tuple b=>rw[Rep]at h;obtain⟨a,vs,rfl,hq,_⟩:=h;cases e;exact .sqT hq
  |list b=>cases e
  |dict b=>cases e
 |l xs=>cases e;obtain⟨a,rfl,vs,h1,_⟩:=h;exact .Y1 (fU.of h1)
 |o xs=>cases e;obtain⟨a,rfl,vs,h1,_⟩:=h;exact .Y1 (fU.of h1)
 |h P=>cases e
theorem JK{x:Str}{T T2:String}{k:Bool}(hm:X.mg "isinstance"=none)(Xe:X.mg x=none)(hv:bootBuiltins x=some (.type T))(he:VE X ρ e ra)(ht:ra.tyN=some T2)(hk:gA X.K (.type T2) (.type T)=some k)(hg:Gl X "isinstance":=by rfl)(Xd:Gl X x:=by rfl)(hn:x≠"__name__":=by decide)(hd:(x==("__debug__":Str))=false:=by decide)(hs:ao [e,.Name x p2] X.env=(false,eval e X.env)::ao [.Name x p2] X.env:=by rfl):VE X ρ (.Call (.Name "isinstance" p) [e,.Name x p2] [] pos) (.d (.bool k)):=
 PE.weak (A9 hg hm Xd Xe hv he hn hd hs) (by rintro σ H Q ⟨er,q⟩;exact ⟨er,λv H1 s1 r1=>⟨v,T,.type T2,k,rfl,r1.rd.ty ht,hk,q _ H1 s1 eK.bool⟩⟩)
theorem n6{xs:List aq}(hm:X.mg "len"=none)(he:VE X ρ e (.d (.tuple xs)))(hg:Gl X "len":=by rfl)(hs:ao [e] X.env=[(false,eval e X.env)]:=by rfl):VE X ρ (.Call (.Name "len" p) [e] [] pos) (.d (.int (xs.length:Nat))):=
 PE.weak (gf eY hg hm eA (aO he bD hs) (by decide) (by decide) hs) (by rintro σ H Q ⟨er,q⟩;exact ⟨er,λv H1 s1 r1=>by
  obtain⟨a,vs,rfl,hq,rp⟩:=eK.tup r1
  exact⟨a,vs,rfl,.inr hq,by rw[rp.length];exact q _ H1 s1 eK.int⟩⟩)
theorem oa{xs:List aq}(hm:X.mg "len"=none)(he:VE X ρ e ra)(ea:ra.cq=some xs)(hg:Gl X "len":=by rfl)(hs:ao [e] X.env=[(false,eval e X.env)]:=by rfl):VE X ρ (.Call (.Name "len" p) [e] [] pos) (.d (.int (xs.length:Nat))):=
 PE.weak (gf eY hg hm eA (aO he bD hs) (by decide) (by decide) hs) (by rintro σ H Q ⟨er,q⟩;exact ⟨er,λv H1 s1 r1=>by
  obtain⟨a,vs,rfl,hq,rp⟩:=r1.rd.lst ea
  exact⟨a,vs,rfl,.inl (fU.of hq),by rw[rp.length];exact q _ H1 s1 eK.int⟩⟩)
theorem va{x:Str}(hm:X.mg "len"=none)(he:VE X ρ e (.d (.str x)))(hz:x.length<=av)(hg:Gl X "len":=by rfl)(hs:ao [e] X.env=[(false,eval e X.env)]:=by rfl):VE X ρ (.Call (.Name "len" p) [e] [] pos) (.d (.int (x.length:Nat))):=
 PE.weak (gf B9 hg hm eA (aO he bD hs) (by decide) (by decide) hs) (by rintro σ H Q ⟨er,q⟩;exact ⟨er,λv H1 s1 r1=>⟨x,by rw[eK.cY r1],hz,q _ H1 s1 eK.int⟩⟩)
theorem XD{xs:List aq}(hm:X.mg "list"=none)(he:VE X ρ e ra)(ea:ra.cq=some xs)(hg:Gl X "list":=by rfl)(hs:ao [e] X.env=[(false,eval e X.env)]:=by rfl):VE X ρ (.Call (.Name "list" p) [e] [] pos) (.o xs):=
 PE.weak (jq uQ hg hm boot_list (aO he bD hs) (by decide) (by decide) hs) (by rintro σ H Q ⟨er,q⟩;exact ⟨er,λv H1 s1 r1=>by
  obtain⟨a,vs,rfl,hq,rp⟩:=r1.rd.lst ea
  exact⟨a,vs,rfl,.inl (fU.of hq),λl hl=>q _ _ (s1.trans (bu hl _)) ⟨l,rfl,s1.free hl,vs,aW,bB.mono (bq.of_same (bu hl _)) _ _ rp⟩⟩⟩)
theorem Eo{xs:List aq}(hm:X.mg "list"=none)(he:VE X ρ e (.d (.tuple xs)))(hg:Gl X "list":=by rfl)(hs:ao [e] X.env=[(false,eval e X.env)]:=by rfl):VE X ρ (.Call (.Name "list" p) [e] [] pos) (.o xs):=
 PE.weak (jq uQ hg hm boot_list (aO he bD hs) (by decide) (by decide) hs) (by rintro σ H Q ⟨er,q⟩;exact ⟨er,λv H1 s1 r1=>by
  obtain⟨a,vs,rfl,hq,rp⟩:=eK.tup r1
  exact⟨a,vs,rfl,.inr hq,λl hl=>q _ _ (s1.trans (bu hl _)) ⟨l,rfl,s1.free hl,vs,aW,bB.mono (bq.of_same (bu hl _)) _ _ rp⟩⟩⟩)
theorem x9{xs:List aq}(hm:X.mg "tuple"=none)(he:VE X ρ e ra)(ea:ra.cq=some xs)(hg:Gl X "tuple":=by rfl)(hs:ao [e] X.env=[(false,eval e X.env)]:=by rfl):VE X ρ (.Call (.Name "tuple" p) [e] [] pos) (.d (.tuple xs)):=
 PE.weak (jq Ax hg hm boot_tuple (aO he bD hs) (by decide) (by decide) hs) (by rintro σ H Q ⟨er,q⟩;exact ⟨er,λv H1 s1 r1=>by
  obtain⟨a,vs,rfl,hq,rp⟩:=r1.rd.lst ea
  exact⟨a,vs,rfl,.inl ⟨fU.of hq,λl hl=>q _ _ (s1.trans (bu hl _)) (eK.mk (fF.of aW) (bB.mono (bq.of_same (bu hl _)) _ _ rp))⟩⟩⟩)
theorem qe{xs:List aq}{p3 pX:Pos}(hc:X.calm=true)(Xk:X.mg "list"=none)(hmR:X.mg "reversed"=none)(he:VE X ρ e ra)(ea:ra.cq=some xs)(Xj:Gl X "list":=by rfl)(hgR:Gl X "reversed":=by rfl)(hs:ao [e] X.env=[(false,eval e X.env)]:=by rfl)(NT:ao [.Call (.Name "reversed" p2) [e] [] pX] X.env=[(false,eval (.Call (.Name "reversed" p2) [e] [] pX) X.env)]:=by rfl):VE X ρ (.Call (.Name "list" p) [.Call (.Name "reversed" p2) [e] [] pX] [] pos) (.o xs.reverse):=
 PE.weak (yG hc Xj Xk hgR hmR (aO he bD hs) hs NT) (by rintro σ H Q ⟨er,q⟩;exact ⟨er,λv H1 s1 r1=>by
  obtain⟨a,vs,rfl,hq,rp⟩:=r1.rd.lst ea
  exact⟨a,vs,rfl,fU.of hq,λl hl=>q _ _ (s1.trans (bu hl _)) ⟨l,rfl,s1.free hl,_,aW,bB.mono (bq.of_same (bu hl _)) _ _ rp.reverse⟩⟩⟩)
noncomputable def XE:aq->Bool
 |.none=>true
 |.bool _=>true
 |.int _=>true
 |.str _=>true
 |_=>false
theorem bB.flat{K:aa}{H:Hp}:∀{ds:List aq}{vs:List V},bB K H ds vs->ds.all XE=true->vs.all uP=true
 |[],vs,h,_=>by rw[bB]at h;subst h;rfl
 |x::ds,vs,h,f=>by
  obtain⟨v,w,rfl,h1,h2⟩:=h.split;rw[o3,iB]at f ⊢;refine⟨?_,bB.flat h2 f.2⟩;cases x with
  |none=>rw[Rep]at h1;subst h1;rfl
  |bool b=>rw[Rep]at h1;subst h1;rfl
  |int b=>rw[Rep]at h1;subst h1;rfl
  |str b=>rw[Rep]at h1;subst h1;rfl
  |_=>exact absurd f.1 (λz=>nomatch z)
theorem bB.strs{K:aa}{H:Hp}:∀{xs:List Str}{vs:List V},bB K H (xs.map .str) vs->vs=xs.map .str
 |[],vs,h=>by rw[gy,bB]at h;exact h
 |x::xs,vs,h=>by
  rw[bz]at h;obtain⟨v,w,rfl,h1,h2⟩:=h.split;rw[bz,bB.strs h2,h1.cY]
theorem OR(x:Str)(xs:List Str):W1 (.str x) (xs.map .str)=decide (x∈xs):=by
 unfold W1;rw[List.any_map,iT,List.any_eq_true,decide_eq_true_iff];constructor
 ·rintro⟨y,hy,e⟩;have e':(y==x)=true:=e;rw[<-eq_of_beq e'];exact hy
 ·intro h;exact⟨x,h,show(x==x)=true from beq_self_eq_true x⟩
theorem Ta{x:Str}{xs:List Str}(ha:VE X ρ a (.d (.str x)))(hb:VE X ρ b (.d (.tuple (xs.map .str))))(hm:behindInMarks .In b=false):VT X ρ (.Compare a [.In] [b] pos) (decide (x∈xs)):=
 oK Jo ha hb (λH u w Q rx ry q=>by
  obtain rfl:=fV.cY rx;obtain⟨t,vs,rfl,hq,rp⟩:=fV.tup ry;have e:=rp.strs;subst e;refine⟨t,_,rfl,.inr hq,rfl,rp.flat (by rw[List.all_map];exact lT.mpr λ_ _=>rfl),?_⟩;show Q (.bl (W1 _ _)) H;rw[OR]
  exact q) hm
end
inductive Out where
 |nx (ρ:List Sl)|rt (r:Sl)|bk (ρ:List Sl)|ct (ρ:List Sl)
noncomputable def DE(K:aa)(H0:Hp)(hs:List (V×Sl))(Q:Out->Prop):Ends where
 nx:=λσ H=>∃ρ,Q (.nx ρ)/\ER K H0 hs ρ σ H
 bk:=λσ H=>∃ρ,Q (.bk ρ)/\ER K H0 hs ρ σ H
 ct:=λσ H=>∃ρ,Q (.ct ρ)/\ER K H0 hs ρ σ H
 rt:=λv H=>∃r,Q (.rt r)/\bK H0 H/\eK K H0 H r v
structure Ends.le(D D':Ends):Prop where
 nx:∀σ H,D.nx σ H->D'.nx σ H
 rt:∀v H,D.rt v H->D'.rt v H
 bk:∀σ H,D.bk σ H->D'.bk σ H
 ct:∀σ H,D.ct σ H->D'.ct σ H
noncomputable def Wj(K:aa)(ρ:List Sl)(Q:Out->Prop):TS:=λD σ H=>∃H0 hs,ER K H0 hs ρ σ H/\(DE K H0 hs Q).le D
noncomputable def VS(X:Cx)(ss:List b9)(ρ:List Sl)(Q:Out->Prop):Prop:=qD X ss (Wj X.K ρ Q)
section
variable {X:Cx}{ρ:List Sl}{e a b c:bc}{es:List bc}{r ra rb:Sl}{pos p2 p3:Pos}{d:aq}{ds:List aq}{rs:List Sl}{Q Q':Out->Prop}{rest:List b9}{st:b9}
theorem qD.weak{ss:List b9}{t t':TS}(h:qD X ss t)(w:∀D σ H,t' D σ H->t D σ H):qD X ss t':=λpins s σ H D I q=>h pins s σ H D I (w D σ H q)
theorem VS.mono{ss:List b9}(h:VS X ss ρ Q)(w:∀o,Q o->Q' o):VS X ss ρ Q':=
 qD.weak h (by rintro D σ H ⟨H0,hs,er,l⟩;exact ⟨H0,hs,er,⟨by rintro σ H ⟨ρ,q,e⟩;exact l.nx _ _ ⟨ρ,w _ q,e⟩,by rintro v H ⟨r,q,e⟩;exact l.rt _ _ ⟨r,w _ q,e⟩,by rintro σ H ⟨ρ,q,e⟩;exact l.bk _ _ ⟨ρ,w _ q,e⟩,by rintro σ H ⟨ρ,q,e⟩;exact l.ct _ _ ⟨ρ,w _ q,e⟩⟩⟩)
noncomputable def wY(X:Cx)(rest:List b9)(Q:Out->Prop):Out->Prop
 |.nx ρ=>VS X rest ρ Q
 |o=>Q o
theorem cg(h:Q (.nx ρ)):VS X [] ρ Q:=qD.weak jN (by rintro D σ H ⟨H0,hs,er,l⟩;exact l.nx σ H ⟨ρ,h,er⟩)
theorem lW{t:TS}(h:PS X st t)(w:∀H0 hs D σ H,ER X.K H0 hs ρ σ H->(DE X.K H0 hs (wY X rest Q)).le D->t D σ H):VS X (st::rest) ρ Q:=by
 refine qD.weak (cE (u:=λD σ H=>∃eM H0 hs,ER X.K H0 hs eM σ H/\(DE X.K H0 hs Q).le D/\VS X rest eM Q) h ?_) λD σ H ⟨H0,hs,er,l⟩=>w H0 hs _ σ H er ⟨?_,λv H q=>l.rt v H q,λσ H q=>l.bk σ H q,λσ H q=>l.ct σ H q⟩
 ·rintro pins s σ H D I ⟨eM,H0,hs,er,l,v⟩;exact v pins s σ H D I ⟨H0,hs,er,l⟩
 ·rintro dI H' ⟨eM,q,e⟩;exact⟨eM,H0,hs,e,l,q⟩
theorem bR(h:VE X ρ e r)(q:Q (.rt r)):VS X (.Return (some e) pos::rest) ρ Q:=
 lW (iq h) λH0 hs D σ H er l=>⟨⟨H0,hs,er⟩,λv H' s rv=>l.rt v H' ⟨r,q,er.same.trans s,rv.since er.same⟩⟩
theorem OT{i:Nat}{x:Str}{xs:List aq}(hi:sU x X.N 0=some i)(hr:ρ[i]?=some (.o xs))(q:Q (.rt (.o xs)))(hv:AO X.env.scope x:=by first|exact cm rfl|exact cW (cm rfl)|exact cW (cW rfl))(hd:(x==("__debug__":Str))=false:=by decide)(l9:(x==("__classdict__":Str))=false:=by decide):VS X (.Return (some (.Name x p2)) pos::rest) ρ Q:=
 lW (iq (gN (ic hi) hv hd l9)) λH0 hs D σ H er l=>by
  obtain⟨a,h1,h2,h3⟩:=er.own i xs hr;exact⟨_,h1,l.rt _ _ ⟨.o xs,q,er.same,a,rfl,h3,h2⟩⟩
theorem HX{A B:List b9}{k:Bool}(hc:VT X ρ c k)(ha:k=true->VS X A ρ (wY X rest Q))(hb:k=false->VS X B ρ (wY X rest Q)):VS X (.If c A B pos::rest) ρ Q:=by
 cases k with
 |true=>exact lW (j7 (u:=tV) hc (ha rfl) gz) λH0 hs D σ H er l=>⟨⟨H0,hs,er⟩,λH' s=>uT ⟨H0,hs,er.grow s,l⟩⟩
 |false=>exact lW (j7 (t:=tV) hc gz (hb rfl)) λH0 hs D σ H er l=>⟨⟨H0,hs,er⟩,λH' s=>qJ ⟨H0,hs,er.grow s,l⟩⟩
theorem cD{i:Nat}{x:Str}(nd:X.N.Nodup)(hi:sU x X.N 0=some i)(h:VE X ρ e (.d d))(k:VS X rest (ρ.set i (.d d)) Q)(hx:Loc X.env.scope x:=by exact cm rfl)(hs:dF e (some (.Name x p2)) pos.line X.env=pure false:=by rfl)(hf:X.fn x=true\/X.env.scope.names.lookup x=some .local:=by first|exact .inl rfl|exact .inr rfl|assumption):VS X (.Assign [.Name x p2] e pos::rest) ρ Q:=
 lW (gO nd (ic hi) hx h hs hf) λH0 hs D σ H er l=>⟨⟨H0,hs,er⟩,λv H' s rv=>l.nx _ _ ⟨_,k,(er.grow s).vT rv⟩⟩
theorem jr{i:Nat}{x:Str}{xs:List aq}(nd:X.N.Nodup)(hi:sU x X.N 0=some i)(h:VE X ρ e (.o xs))(k:VS X rest (ρ.set i (.o xs)) Q)(hx:Loc X.env.scope x:=by exact cm rfl)(hs:dF e (some (.Name x p2)) pos.line X.env=pure false:=by rfl)(hf:X.fn x=true\/X.env.scope.names.lookup x=some .local:=by first|exact .inl rfl|exact .inr rfl|assumption):VS X (.Assign [.Name x p2] e pos::rest) ρ Q:=
 lW (gO nd (ic hi) hx h hs hf) λH0 hs D σ H er l=>⟨⟨H0,hs,er⟩,λv H' s rv=>by
  obtain⟨a,rfl,n,q⟩:=rv
  exact l.nx _ _ ⟨_,k,er.S7 s n q⟩⟩
theorem fG{i:Nat}{x:Str}{xs:List aq}{apos cI:Pos}(hi:sU x X.N 0=some i)(hr:ρ[i]?=some (.o xs))(h:VE X ρ e (.d d))(hz:xs.length<av)(k:VS X rest (ρ.set i (.o (xs++[d]))) Q)(hv:AO X.env.scope x:=by first|exact cm rfl|exact cW (cm rfl)|exact cW (cW rfl))(hd:(x==("__debug__":Str))=false:=by decide)(l9:(x==("__classdict__":Str))=false:=by decide)(ir:dH (.Name x p2) "append" X.env (eval (.Name x p2) X.env)=eval (.Name x p2) X.env:=by rfl)(oE:((cG cI (ao [e] X.env)).all (λx=>!x.1)&&(kS cI (gM [] X.env)).all (λx=>x.1.isSome)&&decide ([e].length + ([]:List fA).length + (if([]:List fA).isEmpty then 0 else 1)<30))=true:=by rfl)(iu:(apos.endLine==cI.line)=true:=by rfl)(hs:ao [e] X.env=[(false,eval e X.env)]:=by rfl)(jX:(cG cI (ao [] X.env)).any (·.1)=false:=by rfl)(Gg:dF (.Call (.Attribute (.Name x p2) "append" apos) [e] [] cI) none pos.line X.env=pure false:=by rfl):VS X (.Expr (.Call (.Attribute (.Name x p2) "append" apos) [e] [] cI) pos::rest) ρ Q:=
 lW (mv (ph bJ eg eh lz (gN (ic hi) hv hd l9) (aO h bD hs) ir oE iu hs jX) Gg) λH0 hs D σ H er l=>by
  obtain⟨a,h1,⟨vs,h2,h3⟩,h4⟩:=er.own i xs hr;refine⟨_,h1,.inl ⟨rfl,vs,fU.of h2⟩,⟨H0,hs,er⟩,λv H' s rv=>?_⟩;have e2:=er.grow s;have QJ:=s _ _ h2;have h3':=bB.mono (bq.of_same (K:=X.K) s) _ _ h3;exact⟨a,vs,v,rfl,rfl,QJ,by rw[h3.length];exact hz,l.nx _ _ ⟨_,k,e2.write hr h1 QJ (h3'.append (.one rv))⟩⟩
theorem Tb{i j:Nat}{x y:Str}{xs:List aq}{apos cI:Pos}(nd:X.N.Nodup)(hi:sU x X.N 0=some i)(hj:sU y X.N 0=some j)(hr:ρ[i]?=some (.o (xs++[d])))(k:VS X rest ((ρ.set i (.o xs)).set j (.d d)) Q)(hv:AO X.env.scope x:=by first|exact cm rfl|exact cW (cm rfl)|exact cW (cW rfl))(hd:(x==("__debug__":Str))=false:=by decide)(l9:(x==("__classdict__":Str))=false:=by decide)(ir:dH (.Name x p2) "pop" X.env (eval (.Name x p2) X.env)=eval (.Name x p2) X.env:=by rfl)(iu:(apos.endLine==cI.line)=true:=by rfl)(hx:Loc X.env.scope y:=by exact cm rfl)(hs:dF (.Call (.Attribute (.Name x p2) "pop" apos) [] [] cI) (some (.Name y p3)) pos.line X.env=pure false:=by rfl)(hf:X.fn y=true\/X.env.scope.names.lookup y=some .local:=by first|exact .inl rfl|exact .inr rfl|assumption):VS X (.Assign [.Name y p3] (.Call (.Attribute (.Name x p2) "pop" apos) [] [] cI) pos::rest) ρ Q:=
 lW (gO nd (ic hj) hx (vO bJ ft fw vP (gN (ic hi) hv hd l9) ir iu) hs hf) λH0 hs D σ H er l=>by
  obtain⟨a,h1,⟨vs,h2,h3⟩,h4⟩:=er.own i _ hr;obtain⟨ws,v,rfl,h5,h6⟩:=h3.snoc;refine⟨_,h1,.inl ⟨rfl,_,fU.of h2⟩,a,_,v,rfl,rfl,h2,by simp,?_⟩;rw[hW];have e2:=er.write hr h1 h2 h5;exact l.nx _ _ ⟨_,k,e2.vT (Rep.mono ((SameBut.upd _).tup h2) _ _ h6)⟩
theorem Bj{i:Nat}{x:Str}{xs ys:List aq}{apos cI:Pos}(hi:sU x X.N 0=some i)(hr:ρ[i]?=some (.o xs))(h:VE X ρ e ra)(ea:ra.cq=some ys)(hz:xs.length + ys.length<=av)(k:VS X rest (ρ.set i (.o (xs++ys))) Q)(hv:AO X.env.scope x:=by first|exact cm rfl|exact cW (cm rfl)|exact cW (cW rfl))(hd:(x==("__debug__":Str))=false:=by decide)(l9:(x==("__classdict__":Str))=false:=by decide)(ir:dH (.Name x p2) "extend" X.env (eval (.Name x p2) X.env)=eval (.Name x p2) X.env:=by rfl)(oE:((cG cI (ao [e] X.env)).all (λx=>!x.1)&&(kS cI (gM [] X.env)).all (λx=>x.1.isSome)&&decide ([e].length + ([]:List fA).length + (if([]:List fA).isEmpty then 0 else 1)<30))=true:=by rfl)(iu:(apos.endLine==cI.line)=true:=by rfl)(hs:ao [e] X.env=[(false,eval e X.env)]:=by rfl)(jX:(cG cI (ao [] X.env)).any (·.1)=false:=by rfl)(Gg:dF (.Call (.Attribute (.Name x p2) "extend" apos) [e] [] cI) none pos.line X.env=pure false:=by rfl):VS X (.Expr (.Call (.Attribute (.Name x p2) "extend" apos) [e] [] cI) pos::rest) ρ Q:=
 lW (mv (ph bJ Ae Af A4 (gN (ic hi) hv hd l9) (aO h bD hs) ir oE iu hs jX) Gg) λH0 hs D σ H er l=>by
  obtain⟨a,h1,⟨vs,h2,h3⟩,h4⟩:=er.own i xs hr;refine⟨_,h1,.inl ⟨rfl,vs,fU.of h2⟩,⟨H0,hs,er⟩,λv H' s rv=>?_⟩;obtain⟨b,ws,rfl,g1,g2⟩:=rv.rd.lst ea;have e2:=er.grow s;have QJ:=s _ _ h2;have h3':=bB.mono (bq.of_same (K:=X.K) s) _ _ h3;exact⟨a,b,vs,ws,rfl,rfl,QJ,g1,by rw[h3.length,g2.length];exact hz,l.nx _ _ ⟨_,k,e2.write hr h1 QJ (h3'.append g2)⟩⟩
noncomputable def LZ(X:Cx)(rest:List b9)(Q:Out->Prop)(J:List Sl->Prop):Out->Prop
 |.nx ρ=>J ρ
 |.ct ρ=>J ρ
 |.bk ρ=>VS X rest ρ Q
 |.rt r=>Q (.rt r)
theorem vb{body:List b9}(hp:PassesOwn (model X.prog X.w) X.A X.env X.xe)(W:Nat->List Sl->Prop)(h0:∃m,W m ρ)(turn:∀m eM,W m eM->∃k,VT X eM c k/\(k=true->VS X body eM (LZ X rest Q λsV=>∃m',m'<m/\W m' sV))/\(k=false->VS X rest eM Q)):VS X (.While c body [] pos::rest) ρ Q:=by
 have hc:PT X c (λσ H R=>∃m eM,W m eM/\∃k,VT X eM c k/\(∃H0 hs,ER X.K H0 hs eM σ H)/\∀H',bK H H'->R k H'):=by
  rintro pins s σ H R I ⟨m,eM,w,k,v,er,q⟩;exact v pins s σ H R I ⟨er,q⟩
 have hb:qD X body (λD σ H=>∃eM Q',VS X body eM Q'/\Wj X.K eM Q' D σ H):=by
  rintro pins s σ H D I ⟨eM,Q',v,q⟩;exact v pins s σ H D I q
 refine lW (yp hp hc hb) λH0 hs D σ H er l=>?_;obtain⟨m0,w0⟩:=h0;refine⟨λm σ H=>∃eM,W m eM/\ER X.K H0 hs eM σ H,⟨m0,ρ,w0,er⟩,?_⟩;rintro m σ H ⟨eM,w,er⟩;obtain⟨k,v,yes,no⟩:=turn m eM w;refine⟨m,eM,w,k,v,⟨H0,hs,er⟩,λH' s=>?_⟩;cases k with
 |true=>
  rw[if_pos rfl];refine⟨λdI H'=>∃m',m'<m/\∃sV,W m' sV/\ER X.K H0 hs sV dI H',by rintro dI H' ⟨m',lt,sV,w2,e2⟩;exact ⟨m',lt,sV,w2,e2⟩,eM,_,yes rfl,H0,hs,er.grow s,?_⟩;exact⟨by rintro σ H ⟨sV,⟨m',lt,w2⟩,e⟩;exact ⟨m',lt,sV,w2,e⟩,by rintro v H ⟨r,q,e⟩;exact l.rt v H ⟨r,q,e⟩,by rintro σ H ⟨sV,q,e⟩;exact l.nx σ H ⟨sV,q,e⟩,by rintro σ H ⟨sV,⟨m',lt,w2⟩,e⟩;exact ⟨m',lt,sV,w2,e⟩⟩
 |false=>
  refine qJ ?_;exact l.nx _ _ ⟨eM,no rfl,er.grow s⟩
end
structure GF(K:aa)(J:It)(h:V×Sl)(xs:List aq):Prop where
 go:∀(i:Nat) H,fV K H h.2 h.1->i<xs.length->J.go i H
 xq:∀(i:Nat) H v H',fV K H h.2 h.1->i<xs.length->J.xq i H v H'->bK H H'/\∃d,xs[i]?=some d/\Rep K H' d v
 stop:∀H,fV K H h.2 h.1->J.stop xs.length H
noncomputable def VI(X:Cx)(ρ:List Sl)(tg iter:bc)(xs:List aq):Prop:=∃wi,PI X tg iter wi/\∀H0 hs σ H R,ER X.K H0 hs ρ σ H->
 (∀J H1 h,bK H H1->fV X.K H1 h.2 h.1->(∀ys,h.2.cq=some ys->∀(i:Nat) zs a,ρ[i]?=some (.o zs)->σ[i]?=some (some (.ref a))->h.1≠.ref a)->GF X.K J h xs->R J H1)->wi σ H R
noncomputable def VG(X:Cx)(tg:bc)(bind:aq->List Sl->Option (List Sl)):Prop:=∃g,PG X tg g/\∀H0 hs ρ sV d v σ H Q,ER X.K H0 hs ρ σ H->Rep X.K H d v->bind d ρ=some sV->(∀Ah,ER X.K H0 hs sV Ah H->Q Ah H)->g v σ H Q
section
variable {X:Cx}{ρ:List Sl}{e a b c tg iter:bc}{es:List bc}{r ra rb:Sl}{p pos p2 p3:Pos}{d:aq}{ds xs:List aq}{rs:List Sl}{Q Q':Out->Prop}{rest:List b9}{st:b9}
theorem Bk{K:aa}{a:aj}:GF K (R4 K a) (.ref a,.l xs) xs where
 go:=by
  rintro i H ⟨b,e,vs,h1,h2⟩ hi;cases e;have hv:i<vs.length:=by rw[h2.length];exact hi
  exact⟨vs,vs[i],fU.of h1,ag hv⟩
 xq:=by
  rintro i H v H' ⟨b,e,vs,h1,h2⟩ hi ⟨e2,y⟩;cases e;subst e2;obtain⟨u,hu,ru⟩:=h2.get (ag hi);have:=y vs (fU.of h1);rw[hu]at this;cases this;exact⟨bK.refl _,_,ag hi,ru⟩
 stop:=by rintro H ⟨b,e,vs,h1,h2⟩;cases e;exact⟨vs,fU.of h1,by rw[h2.length];exact au _⟩
theorem L0{K:aa}{a:aj}:GF K (Z0 K a) (.ref a,.d (.tuple xs)) xs where
 go:=λi H h hi=>by
  obtain⟨b,vs,e,h1,h2⟩:=Rep.fz h;cases e;have hv:i<vs.length:=by rw[h2.length];exact hi
  exact⟨vs,vs[i],h1,ag hv⟩
 xq:=by
  rintro i H v H' h hi ⟨e2,y⟩;obtain⟨b,vs,e,h1,h2⟩:=Rep.fz h;cases e;subst e2;obtain⟨u,hu,ru⟩:=h2.get (ag hi);have:=y vs h1;rw[hu]at this;cases this;exact⟨bK.refl _,_,ag hi,ru⟩
 stop:=λH h=>by
  obtain⟨b,vs,e,h1,h2⟩:=Rep.fz h;cases e;exact⟨vs,h1,by rw[h2.length];exact au _⟩
noncomputable def mB(lo:Int)(n:Nat):List aq:=(qI n).map λi=>.int (lo + (i:Nat))
theorem L3{K:aa}{lo:Int}{n:Nat}:GF K (Qj lo n) (.ip,.un) (mB lo n) where
 go:=λi H _ hi=>by
  have hn:i<n:=by simpa[mB]using hi
  exact hn
 xq:=by
  rintro i H v H' _ hi ⟨e1,e2⟩;subst e1 e2;have hn:i<n:=by simpa[mB]using hi
  exact⟨bK.refl _,_,by simp[mB,hn],Rep.int _⟩
 stop:=λH _=>by show n<=(mB lo n).length;simp[mB]
noncomputable def tq:Nat->List aq->List aq
 |_,[]=>[]
 |k,x::r=>.tuple [.int (k:Nat),x]::tq (k+1) r
theorem mM:∀(k:Nat)(l:List aq),(tq k l).length=l.length
 |_,[]=>rfl
 |k,x::r=>by rw[tq,aY,aY,mM]
theorem vW:∀(k:Nat)(l:List aq)(i:Nat)(x:aq),l[i]?=some x->(tq k l)[i]?=some (.tuple [.int ((k + i:Nat):Int),x])
 |k,[],i,x,h=>by simp at h
 |k,y::r,0,x,h=>by simp at h;subst h;simp[tq]
 |k,y::r,i+1,x,h=>by
  rw[tq,pP,vW (k+1) r i x (by simpa using h)];congr 5;omega
theorem yV{K:aa}{a:aj}:GF K (Gi λH ys=>fU K H a ys) (.ref a,.l xs) (tq 0 xs) where
 go:=by rintro i H ⟨b,e,vs,h1,h2⟩ hi;cases e;exact⟨vs,fU.of h1,by rw[h2.length,<-mM 0];exact hi⟩
 xq:=λi H v H' ⟨b,e,vs,h1,h2⟩ hi ⟨p,x,e1,e2,e3,y⟩=>by
  cases e;subst e1 e3;have Gr:i<xs.length:=by rw[<-mM 0];exact hi
  obtain⟨u,hu,ru⟩:=h2.get (ag Gr);have:=y vs (fU.of h1);rw[hu]at this;cases this;have s:=bu e2 (.tup [.int i,x]);refine⟨s,_,vW 0 xs i _ (ag Gr),?_⟩;rw[jD];exact .tuple (fF.of aW) (.cons (.int _) (.one (Rep.mono (bq.of_same s) _ _ ru)))
 stop:=by rintro H ⟨b,e,vs,h1,h2⟩;cases e;exact⟨vs,fU.of h1,by rw[h2.length,mM]⟩
theorem Cp{K:aa}{H0 H:Hp}{hs:List (V×Sl)}{σ:St}{a:aj}(er:ER K H0 hs ρ σ H)(n:H a=none):∀(i:Nat) zs b,ρ[i]?=some (.o zs)->σ[i]?=some (some (.ref b))->V.ref a≠.ref b:=by
 intro i zs b q1 q2 z;cases z;obtain⟨c,h1,⟨vs,h2,_⟩,_⟩:=er.own i zs q1;rw[q2]at h1;cases h1;rw[n]at h2;cases h2
theorem Tc(h:VE X ρ iter (.o xs)):VI X ρ tg iter xs:=
 ⟨_,xS h,λH0 hs σ H R er k=>⟨⟨H0,hs,er⟩,by
  rintro v H1 s1 ⟨a,e,n,q⟩;subst e;obtain⟨vs,q1,q2⟩:=q
  exact⟨a,rfl,⟨vs,fU.of q1⟩,k _ H1 (.ref a,.l xs) s1 ⟨a,rfl,vs,q1,q2⟩ (λ_ _=>Cp er n) Bk⟩⟩⟩
theorem GG(h:VE X ρ iter (.d (.tuple xs))):VI X ρ tg iter xs:=
 ⟨_,R5 h,λH0 hs σ H R er k=>⟨⟨H0,hs,er⟩,λv H1 s1 q=>by
  obtain⟨a,vs,rfl,q1,q2⟩:=eK.tup q
  exact⟨a,rfl,⟨vs,q1⟩,k _ H1 (.ref a,.d (.tuple xs)) s1 (.tuple q1 q2) (λ_ z=>nomatch z) L0⟩⟩⟩
theorem HY{i:Nat}{x:Str}(hi:sU x X.N 0=some i)(hr:ρ[i]?=some (.l xs))(hv:AO X.env.scope x:=by first|exact cm rfl|exact cW (cm rfl)|exact cW (cW rfl))(hd:(x==("__debug__":Str))=false:=by decide)(l9:(x==("__classdict__":Str))=false:=by decide):VI X ρ tg (.Name x p) xs:=
 ⟨_,xS (gN (ic hi) hv hd l9),λH0 hs σ H R er k=>by
  obtain⟨a,h1,vs,h2,h3⟩:=er.lst i xs hr
  exact⟨_,h1,a,rfl,⟨vs,fU.of h2⟩,k _ H (.ref a,.l xs) (bK.refl H) ⟨a,rfl,vs,h2,h3⟩ (λ_ _ j zs b q1 q2 z=>er.sS j i b zs xs q1 hr q2 (by rw[<-z];exact h1)) Bk⟩⟩
theorem pj{n:Nat}(hm:X.mg "range"=none)(h:VE X ρ e (.d (.int n)))(hz:n<2 ^ 62)(hg:Gl X "range":=by rfl)(hs:ao [e] X.env=[(false,eval e X.env)]:=by rfl):VI X ρ tg (.Call (.Name "range" p) [e] [] pos) (mB 0 n):=
 ⟨_,vG hg hm (aO h bD hs) hs,λH0 hs σ H R er k=>⟨⟨H0,hs,er⟩,λv H1 s1 q=>by
  obtain rfl:=eK.cP q;refine⟨n,rfl,by omega,by omega,?_⟩;rw[gc]
  exact k _ H1 (.ip,.un) s1 trivial (λ_ z=>nomatch z) L3⟩⟩
theorem L4{elts:List bc}{kk:Nat}(hm:X.mg "enumerate"=none)(h:VE X ρ e (.o xs))(hg:Gl X "enumerate":=by rfl)(hs:ao [e] X.env=[(false,eval e X.env)]:=by rfl):VI X ρ (.Tuple elts kk p2) (.Call (.Name "enumerate" p) [e] [] pos) (tq 0 xs):=
 ⟨_,Ed hg hm (aO h bD hs) hs,λH0 hs σ H R er k=>⟨⟨H0,hs,er⟩,by
  rintro v H1 s1 ⟨a,e,n,q⟩;subst e;obtain⟨vs,q1,q2⟩:=q
  exact⟨a,vs,rfl,fU.of q1,k _ H1 (.ref a,.l xs) s1 ⟨a,rfl,vs,q1,q2⟩ (λ_ _=>Cp er n) yV⟩⟩⟩
theorem L5{elts:List bc}{kk:Nat}{i:Nat}{x:Str}(hm:X.mg "enumerate"=none)(hi:sU x X.N 0=some i)(hr:ρ[i]?=some (.l xs))(hv:AO X.env.scope x:=by first|exact cm rfl|exact cW (cm rfl)|exact cW (cW rfl))(hd:(x==("__debug__":Str))=false:=by decide)(l9:(x==("__classdict__":Str))=false:=by decide)(hg:Gl X "enumerate":=by rfl)(hs:ao [.Name x p3] X.env=[(false,eval (.Name x p3) X.env)]:=by rfl):VI X ρ (.Tuple elts kk p2) (.Call (.Name "enumerate" p) [.Name x p3] [] pos) (tq 0 xs):=
 ⟨_,Ed hg hm (aO (gN (ic hi) hv hd l9) bD hs) hs,λH0 hs σ H R er k=>by
  obtain⟨a,h1,vs,h2,h3⟩:=er.lst i xs hr
  exact⟨_,h1,a,vs,rfl,fU.of h2,k _ H (.ref a,.l xs) (bK.refl H) ⟨a,rfl,vs,h2,h3⟩ (λ_ _ j zs b q1 q2 z=>er.sS j i b zs xs q1 hr q2 (by rw[<-z];exact h1)) yV⟩⟩
theorem js{i:Nat}{x:Str}(nd:X.N.Nodup)(hi:sU x X.N 0=some i)(hx:Loc X.env.scope x:=by exact cm rfl)(hf:X.fn x=true\/X.env.scope.names.lookup x=some .local:=by first|exact .inl rfl|exact .inr rfl|assumption):VG X (.Name x pos) (λd ρ=>some (ρ.set i (.d d))):=
 ⟨_,i5 nd (ic hi) hx hf,λH0 hs ρ sV d v σ H Q er rv hb k=>by cases hb;exact k _ (er.vT rv)⟩
noncomputable def QN(i j:Nat):aq->List Sl->Option (List Sl)
 |.tuple [x,y],ρ=>some ((ρ.set i (.d x)).set j (.d y))
 |_,_=>none
theorem HZ{i j:Nat}{x y:Str}{k:Nat}(nd:X.N.Nodup)(hc:X.calm=true)(hi:sU x X.N 0=some i)(hj:sU y X.N 0=some j)(hx:Loc X.env.scope x:=by exact cm rfl)(hy:Loc X.env.scope y:=by exact cm rfl)(hf:X.fn x=true\/X.env.scope.names.lookup x=some .local:=by first|exact .inl rfl|exact .inr rfl|assumption)(hf2:X.fn y=true\/X.env.scope.names.lookup y=some .local:=by first|exact .inl rfl|exact .inr rfl|assumption):VG X (.Tuple [.Name x p2,.Name y p3] k pos) (QN i j):=
 ⟨_,yo hc (jI (i5 nd (ic hi) hx hf) (jI (i5 nd (ic hj) hy hf2) uM)),λH0 hs ρ sV d v σ H Q er rv hb k=>by
  have hd:∃x y,d = .tuple [x,y]/\sV=(ρ.set i (.d x)).set j (.d y):=by
   unfold QN at hb;split at hb
   ·exact⟨_,_,rfl,(bE hb).symm⟩
   ·cases hb
  obtain⟨dx,dy,rfl,rfl⟩:=hd;obtain⟨a,vs,rfl,h1,h2⟩:=Rep.fz rv;obtain⟨v1,r1,rfl,q1,h2⟩:=h2.split;obtain⟨v2,r2,rfl,q2,h2⟩:=h2.split;rw[bB]at h2;subst h2
  exact⟨a,_,rfl,h1,rfl,v1,_,rfl,v2,_,rfl,rfl,k _ ((er.vT q1).vT q2)⟩⟩
theorem kF{body:List b9}{bind:aq->List Sl->Option (List Sl)}(hp:PassesOwn (model X.prog X.w) X.A X.env X.xe)(hc:X.calm=true)(hi:VI X ρ tg iter xs)(hg:VG X tg bind)(J:Nat->List Sl->Prop)(h0:J 0 ρ)(step:∀(i:Nat) d eM,xs[i]?=some d->J i eM->∃sV,bind d eM=some sV/\VS X body sV (LZ X rest Q (J (i+1))))(fin:∀eM,J xs.length eM->VS X rest eM Q)(hs:∀x,dn iter X.env x=pure x:=by intro _;rfl):VS X (.For tg iter body [] pos::rest) ρ Q:=by
 obtain⟨wi,pi,OU⟩:=hi;obtain⟨g,pg,hgg⟩:=hg;have hb:qD X body (λD σ H=>∃eM Q',VS X body eM Q'/\Wj X.K eM Q' D σ H):=by
  rintro pins s σ H D I ⟨eM,Q',v,q⟩;exact v pins s σ H D I q
 refine lW (vI hp hc pi pg hb hs) λH0 hs D σ H er l=>?_;refine OU H0 hs σ H _ er λIt H1 h s1 hh sep ok=>?_;refine⟨λi m σ H=>m=xs.length - i/\i<=xs.length/\∃eM,J i eM/\ER X.K H0 (h::hs) eM σ H,⟨_,rfl,dj _,ρ,h0,(er.grow s1).hold hh sep⟩,?_⟩;rintro i m σ H ⟨rfl,hi,eM,j,er⟩;have hh:=er.held h aE;by_cases i9:i<xs.length
 ·obtain⟨d,hd⟩:∃d,xs[i]?=some d:=⟨_,ag i9⟩;obtain⟨sV,hb2,hv⟩:=step i d eM hd j;refine .inr ⟨ok.go i H hh i9,λdI H'=>∃AD,J (i+1) AD/\ER X.K H0 (h::hs) AD dI H',by rintro dI H' ⟨AD,j3,e3⟩;exact ⟨xs.length - (i+1),by omega,rfl,i9,AD,j3,e3⟩,λv H' y=>?_⟩;obtain⟨sy,d',Jh,rd⟩:=ok.xq i H v H' hh i9 y;rw[hd]at Jh;cases Jh;refine hgg H0 (h::hs) eM sV d v σ H' _ (er.grow sy) rd hb2 λAh e2=>⟨sV,_,hv,H0,h::hs,e2,?_⟩;exact⟨by rintro σ H ⟨AD,q,e⟩;exact ⟨AD,q,e⟩,by rintro v H ⟨r,q,e⟩;exact l.rt v H ⟨r,q,e⟩,by rintro σ H ⟨AD,q,e⟩;exact l.nx σ H ⟨AD,q,e.vU⟩,by rintro σ H ⟨AD,q,e⟩;exact ⟨AD,q,e⟩⟩
 ·have e:i=xs.length:=by omega
  subst e;exact .inl ⟨ok.stop H hh,l.nx _ _ ⟨eM,fin eM j,er.vU⟩⟩
theorem ER.args{K:aa}{H0 H:Hp}{hs:List (V×Sl)}{σ:St}(e:ER K H0 hs ρ σ H):ER K H0 hs (ρ.map Sl.arg) σ H:=by
 have no:∀{i:Nat}{xs:List aq},(ρ.map Sl.arg)[i]?≠some (.o xs):=by
  intro i xs h;rw[aw]at h;cases q:ρ[i]? with
  |none=>rw[q]at h;cases h
  |some s=>rw[q]at h;cases s<;>cases h
 refine⟨e.same,by rw[ay,e.len],λi x h=>?_,λi x h=>?_,λi x h=>?_,λi x h=>absurd h no,λi j a xs ys h=>absurd h no,λi j a xs ys _ h=>absurd h no,e.held,λi xs a h=>absurd h no⟩
 ·rw[aw]at h;cases q:ρ[i]? with
  |none=>rw[q]at h;cases h
  |some s=>
   rw[q]at h;cases s with
   |d y=>cases h;exact e.dat i _ q
   |_=>cases h
 ·rw[aw]at h;cases q:ρ[i]? with
  |none=>rw[q]at h;cases h
  |some s=>
   rw[q]at h;cases s with
   |l y=>cases h;exact e.lst i _ q
   |o y=>cases h;obtain⟨a,h1,h2,_⟩:=e.own i _ q;exact⟨a,h1,h2⟩
   |_=>cases h
 ·rw[aw]at h;cases q:ρ[i]? with
  |none=>rw[q]at h;cases h
  |some s=>
   rw[q]at h;cases s with
   |h y=>cases h;exact e.Kr i _ q
   |_=>cases h
theorem ER.comp{K:aa}{H0 H:Hp}{hs:List (V×Sl)}{σ:St}{v:V}{x:aq}(e:ER K H0 hs (ρ.map Sl.arg) σ H)(rv:Rep K H x v):ER K H0 hs (.d x::ρ.map Sl.arg) (some v::σ) H:=by
 have no:∀{i:Nat}{xs:List aq},(Sl.d x::ρ.map Sl.arg)[i]?≠some (.o xs):=by
  intro i xs h;cases i with
  |zero=>cases h
  |succ i=>
   rw[pP,aw]at h;cases q:ρ[i]? with
   |none=>rw[q]at h;cases h
   |some s=>rw[q]at h;cases s<;>cases h
 refine⟨e.same,by rw[aY,aY,e.len],λi y h=>?_,λi y h=>?_,λi y h=>?_,λi x h=>absurd h no,λi j a xs ys h=>absurd h no,λi j a xs ys _ h=>absurd h no,e.held,λi xs a h=>absurd h no⟩
 ·cases i with
  |zero=>cases h;exact⟨v,rfl,rv⟩
  |succ i=>exact e.dat i y (by simpa using h)
 ·cases i with
  |zero=>cases h
  |succ i=>exact e.lst i y (by simpa using h)
 ·cases i with
  |zero=>cases h
  |succ i=>exact e.Kr i y (by simpa using h)
theorem JL{x:Str}{px:Pos}{elt:bc}{scope:Scope}{ys:List aq}(hc:X.calm=true)(hi:VI X ρ (.Name x px) iter xs)(hl:ys.length=xs.length)(hz:xs.length<=av)(he:∀(i:Nat) a y,xs[i]?=some a->ys[i]?=some y->∀cl C s0 H0 fp pins,VE (X.comp scope cl x C s0 H0 fp pins) (.d a::ρ.map Sl.arg) elt (.d y)):
  ∃wi te,PI X (.Name x px) iter wi/\(∀cl C s0 H0 fp pins,PE (X.comp scope cl x C s0 H0 fp pins) elt te)/\∀H0 hs σ H (R:V->Hp->Prop),ER X.K H0 hs ρ σ H->(∀p H',bK H H'->H p=none->sj X.K H' p ys->R (.ref p) H')->Lh wi te σ H R:=by
 obtain⟨wi,pi,OU⟩:=hi;refine⟨wi,λσ H Q=>∃(a y:aq)(H0:Hp) (hs:List (V×Sl)),(∀cl C s0 H0 fp pins,VE (X.comp scope cl x C s0 H0 fp pins) (.d a::ρ.map Sl.arg) elt (.d y))/\ER X.K H0 hs (.d a::ρ.map Sl.arg) σ H/\∀v H',bK H H'->Rep X.K H' y v->Q v H',pi,λcl C s0 H0 fp pins=>?_,λH0 hs σ H R er k=>?_⟩
 ·rintro j6 s σ H Q I ⟨a,y,OV,hs,ve,er,q⟩;exact ve cl C s0 H0 fp pins j6 s σ H Q I ⟨⟨OV,hs,er⟩,q⟩
 refine OU H0 hs σ H _ er λIt H1 h s1 hh sep ok=>?_;have OW:ER X.K H0 (h::hs) (ρ.map Sl.arg) σ H1:=(er.grow s1).args.hold hh λ_ _ i xs a q=>by
  exfalso;rw[aw]at q;cases q':ρ[i]? with
  |none=>rw[q']at q;cases q
  |some s=>rw[q']at q;cases s<;>cases q
 refine⟨λi m zs H=>m=xs.length - i/\i<=xs.length/\bK H1 H/\zs.length=i/\ER X.K H0 (h::hs) (ρ.map Sl.arg) σ H/\bB X.K H (ys.take i) zs,⟨_,rfl,dj _,bK.refl _,rfl,OW,by rw[jn];exact .nil⟩,?_⟩;rintro i m zs H' ⟨rfl,hi,sm,OM,Ia,rp⟩;have hh:=Ia.held h aE;by_cases i9:i<xs.length
 ·have hy:i<ys.length:=by omega
  refine .inr ⟨ok.go i H' hh i9,by omega,λv H2 y us hu=>?_⟩;obtain⟨sy,d,hd,rd⟩:=ok.xq i H' v H2 hh i9 y;refine mU.W9 ⟨λz H3=>bK H2 H3/\Rep X.K H3 ys[i] z,λz H3 ⟨s3,r3⟩=>⟨xs.length - (i+1),by omega,rfl,i9,sm.trans (sy.trans s3),by simp[OM],Ia.grow (sy.trans s3),?_⟩,d,ys[i],H0,h::hs,he i d ys[i] hd (ag hy),(Ia.grow sy).comp rd,λz H3 s3 r3=>⟨s3,r3⟩⟩ hu;rw[ef,ag hy];exact(bB.mono (bq.of_same (sy.trans s3)) _ _ rp).append (.one r3)
 ·have e:i=xs.length:=by omega
  subst e;refine .inl ⟨ok.stop H' hh,by omega,λp np=>?_⟩;rw[dR (by omega)]at rp;have s2:=bu np (.lst zs);exact k p _ ((s1.trans sm).trans s2) ((s1.trans sm).free np) ⟨zs,aW,bB.mono (bq.of_same s2) _ _ rp⟩
theorem Cq{x:Str}{px:Pos}{elt:bc}{scope:Scope}{ys:List aq}(hc:X.calm=true)(S:oG X.N X.env.scope scope x)(hi:VI X ρ (.Name x px) iter xs)(hl:ys.length=xs.length)(hz:xs.length<=av)(he:∀(i:Nat) a y,xs[i]?=some a->ys[i]?=some y->∀cl C s0 H0 fp pins,VE (X.comp scope cl x C s0 H0 fp pins) (.d a::ρ.map Sl.arg) elt (.d y))(hs:∀v,dn iter X.env v=pure v:=by intro _;rfl):VE X ρ (.ListComp elt [⟨.Name x px,iter,[],0⟩] scope pos) (.o ys):=by
 obtain⟨wi,te,h1,h2,h3⟩:=JL hc hi hl hz he;exact PE.weak (Ox hc S h1 h2 hs) (by rintro σ H Q ⟨⟨H0,hs,er⟩,q⟩;exact h3 H0 hs σ H Q er λp H' s n l=>q _ H' s ⟨p,rfl,n,l⟩)
end
theorem yW{K:aa}{H:Hp}{as:List Sl}{vs:List V}{N:List Str}(h:mx K H as vs)(no:∀r∈as,∀xs,r≠.o xs):ER K H [] (as++eC (N.length - as.length) .un) (start N vs) H:=by
 have hl:=h.length;have Zg:∀{i:Nat}{xs:List aq},(as++eC (N.length - as.length) Sl.un)[i]?≠some (.o xs):=by
  intro i xs q;rcases bj.mp (aI q)with m|m
  ·exact no _ m xs rfl
  ·cases(uE.mp m).2
 have at':∀{i:Nat}{r:Sl},(as++eC (N.length - as.length) Sl.un)[i]?=some r->r≠.un->∃v,(start N vs)[i]?=some (some v)/\fV K H r v:=by
  intro i r q nu;by_cases hi:i<as.length
  ·rw[aK hi]at q;obtain⟨v,h1,h2⟩:=h.get q;refine⟨v,?_,h2⟩;unfold start;rw[aK (by rw[ay,hl];exact hi),aw,h1];rfl
  ·rw[aP (by omega)]at q;exact absurd (uE.mp (aI q)).2 nu
 refine⟨bK.refl H,by unfold start;simp[hl],λi x q=>at' q (λz=>nomatch z),λi xs q=>?_,λi P q=>at' q (λz=>nomatch z),λi xs q=>absurd q Zg,λi j a xs ys q=>absurd q Zg,λi j a xs ys _ q=>absurd q Zg,λp hp=>(nomatch hp),λi xs a q=>absurd q Zg⟩;obtain⟨v,h1,a,rfl,h2⟩:=at' q (λz=>nomatch z);exact⟨a,h1,h2⟩
section
variable {P:aR}{w:bH}{K:aa}{mg:Str->Option ah}{base:bS}
theorem jP.vz{x qual:Str}{st:b9}{f:aj}{fd:be}{N ps:List Str}{k:Nat}{R:List Sl->Sl->Prop}(F:jP K x qual st f fd)(S:b5 N ps (aJ st))(len:∀as r,R as r->as.length=ps.length/\∀q∈as,∀xs,q≠.o xs)(lU:∀(eR:ah)(A:cj)(outer:List Env)(s:ai)(H:Hp)(E:XK)(as:List Sl) (r:Sl),iD k (A.deeper (envOfC qual (aJ st) s.heap.objs.size f eR))->R as r->
   VS (pW kx P w K mg base N qual (aJ st) f eR A outer s H E).Dy (eS st) (as++eC (N.length - as.length) .un) λo=>o = .rt r\/(r = .d .none/\∃ρ,o = .nx ρ)):fi P w K mg base kx (k+1) f fd ps (gr K R):=by
 refine F.ok S (λvs H Q E h=>?_) (λeR A outer s H vs Q E hr h=>?_)
 ·obtain⟨as,r,h1,h2,_⟩:=h;rw[h1.length];exact(len as r h2).1
 obtain⟨as,r,h1,h2,q⟩:=h;refine⟨_,lU eR A outer s H E as r hr h2,H,[],yW h1 (len as r h2).2,?_⟩;refine⟨λσ H' ⟨ρ,z,e⟩=>?_,λv H' ⟨r',z,e1,e2⟩=>?_,λσ H' ⟨ρ,z,e⟩=>?_,λσ H' ⟨ρ,z,e⟩=>?_⟩
 ·rcases z with z|⟨rfl,_⟩
  ·cases z
  ·exact q _ H' e.same eK.ip
 ·rcases z with z|⟨_,_,z⟩
  ·cases z;exact q v H' e1 e2
  ·cases z
 ·rcases z with z|⟨_,_,z⟩<;>cases z
 ·rcases z with z|⟨_,_,z⟩<;>cases z
end
end L2
namespace Wk
open PySem L2
inductive Lb where
 |num (i:Int)|truth (b:Bool)|name (x:Str)|nil (k:Kd)|add|less|front|call|OX|case (k:Kd) (h t:Str)|fn (x:Str) (k:Kd)
noncomputable def Zh:Lb->Str×List aq
 |.num i=>("num",[.int i])
 |.truth b=>("truth",[.bool b])
 |.name x=>("name",[.str x])
 |.nil k=>("nil",[eW k])
 |.add=>("add",[])
 |.less=>("less",[])
 |.front=>("front",[])
 |.call=>("call",[])
 |.OX=>("if",[])
 |.case k h t=>("case",[eW k,.str h,.str t])
 |.fn x k=>("fun",[.str x,eW k])
noncomputable def ar:Lb->Nat
 |.num _=>0
 |.truth _=>0
 |.name _=>0
 |.nil _=>0
 |.add=>2
 |.less=>2
 |.front=>2
 |.call=>2
 |.OX=>3
 |.case _ _ _=>3
 |.fn _ _=>1
noncomputable def Td:Lb->Nat
 |.nil k=>c7 k
 |.case k _ _=>c7 k
 |.fn _ k=>c7 k
 |_=>0
noncomputable abbrev Tm:=c9 Lb
mutual
noncomputable def ex:Tm->Ex
 |.node b o=>.node (Zh b) (Te o)
noncomputable def Te:List Tm->List Ex
 |[]=>[]
 |t::r=>ex t::Te r
end
theorem OY(l:List Tm):Te l=l.map ex:=by
 induction l with
 |nil=>rfl
 |cons t r ih=>rw[Te,ih];rfl
theorem Tf(t:Tm):(ex t).lO=Zh t.lO:=by cases t;rw[ex];rfl
theorem GH(t:Tm):(ex t).own=t.own.map ex:=by cases t with|node b o=>rw[ex,OY];rfl
theorem QO(t:Tm)(p:List Nat):(ex t).se p=(t.se p).map ex:=by
 induction p generalizing t with
 |nil=>rw[kA,kA];rfl
 |cons k p ih=>
  rw[ji,ji,GH,aw];cases t.own[k]? with
  |none=>rfl
  |some u=>exact ih u
theorem ya(t:Tm):(ex t).post=t.post.map λx=>(x.1,ex x.2):=by
 induction t using c9.ind with
 |h b o ih=>
  have key:∀(r:List Tm)(k:Nat),(∀x∈r,x∈o)->et k (Te r)=(et k r).map λx=>(x.1,ex x.2):=by
   intro r;induction r with
   |nil=>intro k _;rfl
   |cons y r Lz=>
    intro k hs;rw[Te,et,et,bI,Lz (k+1) (λx hx=>hs x (aU _ hx)),ih y (hs y aE),fh,fh];rfl
  rw[ex,c9.post,c9.post,bI,key o 0 λx hx=>hx];simp[ex]
theorem Cr(t:Tm):(ex t).size=t.size:=by rw[<-cZ,ya,ay,cZ]
noncomputable abbrev Sc:=List (Str×Kd)
noncomputable def Kd.arg:Kd->Option Kd
 |.to k _=>some k
 |_=>none
noncomputable def kZ:Lb->List Kd->List (Option Kd)
 |.add,_=>[some .num,some .num]
 |.less,_=>[some .num,some .num]
 |.OX,o=>[some .truth,none,o[1]?]
 |.front,o=>[none,(o[0]?).map .list]
 |.case k _ _,o=>[some (.list k),none,o[1]?]
 |.call,o=>[none,(o[0]?).bind Kd.arg]
 |_,o=>o.map λ_=>none
noncomputable def gh:Nat->List (Option Kd)->List Kd->Option (Nat×Kd×Kd)
 |i,some m::ds,k::ks=>if m=k then gh (i+1) ds ks else some (i,m,k)
 |i,none::ds,_::ks=>gh (i+1) ds ks
 |_,_,_=>none
noncomputable abbrev Br:=List Nat×Option Kd×Option Kd
noncomputable def mf(b:Lb)(own:List Kd):Option Br:=(gh 0 (kZ b own) own).map λx=>([x.1],some x.2.1,some x.2.2)
noncomputable def eZ:Lb->List Kd->Sc->Option Br
 |.name x,_,sc=>if(look sc x).isSome then none else some ([],none,none)
 |.call,k::o,_=>if k.arg.isSome then mf .call (k::o)else some ([0],none,some k)
 |b,o,_=>mf b o
noncomputable def Kd.res:Kd->Kd
 |.to _ m=>m
 |k=>k
noncomputable def j8:Lb->List Kd->Sc->Kd
 |.num _,_,_=>.num
 |.add,_,_=>.num
 |.truth _,_,_=>.truth
 |.less,_,_=>.truth
 |.name x,_,sc=>(look sc x).getD .num
 |.nil k,_,_=>.list k
 |.fn _ k,o,_=>.to k ((o[0]?).getD .num)
 |.call,o,_=>Kd.res ((o[0]?).getD .num)
 |_,o,_=>(o[1]?).getD .num
noncomputable def ua:Lb->Nat->Sc->Sc
 |.fn x k,_,sc=>sc++[(x,k)]
 |.case k h t,2,sc=>sc++[(h,k)]++[(t,.list k)]
 |_,_,sc=>sc
noncomputable def gD:Tm->List Nat->Sc->Sc
 |_,[],sc=>sc
 |t,k::p,sc=>match t.own[k]? with
  |some u=>gD u p (ua t.lO k sc)
  |none=>sc
termination_by _ p=>p.length
theorem pk(t:Tm)(sc:Sc):gD t [] sc=sc:=by unfold gD;rfl
theorem pq{t u:Tm}{k:Nat}{p:List Nat}{sc:Sc}(h:t.own[k]?=some u):gD t (k::p) sc=gD u p (ua t.lO k sc):=by rw[gD,h]
theorem vX{e t u:Tm}{k:Nat}{sc:Sc}:∀{p:List Nat},e.se p=some t->t.own[k]?=some u->gD e (p++[k]) sc=ua t.lO k (gD e p sc):=by
 intro p;induction p generalizing e sc with
 |nil=>
  intro h1 h2;rw[kA]at h1;cases h1;rw[eI,pq h2,pk,pk]
 |cons j p ih=>
  intro h1 h2;rw[ji]at h1;cases q:e.own[j]? with
  |none=>rw[q]at h1;cases h1
  |some x=>
   rw[q]at h1;rw[cV,pq q,pq q];exact ih h1 h2
noncomputable def oM(acc:List (List Nat×Kd))(p:List Nat)(n:Nat):List Kd:=(qI n).filterMap λi=>(acc.find? λx=>decide (x.1=p++[i])).map (·.2)
noncomputable def Dn(e:Tm)(sc:Sc):List (List Nat×Kd)->List (List Nat×Tm)->List (List Nat×Kd)×Option Br
 |acc,[]=>(acc,none)
 |acc,(p,t)::r=>
  match eZ t.lO (oM acc p t.own.length) (gD e p sc)with
  |some b=>(acc,some (p++b.1,b.2))
  |none=>Dn e sc (acc++[(p,j8 t.lO (oM acc p t.own.length) (gD e p sc))]) r
noncomputable def kG(e:Tm)(sc:Sc):List (List Nat×Kd)×Option Br:=Dn e sc [] e.post
end Wk
namespace L2
open PySem PySem.Spec PyProof.Rows
section
variable {X:Cx}{ρ:List Sl}{e a b c:bc}{es:List bc}{r ra rb:Sl}{pos p2 p3:Pos}{d:aq}{Q:Out->Prop}{rest:List b9}
theorem cz{A B:List b9}{k:Bool}(hc:VT X ρ c k)(hk:k=true)(h:VS X A ρ (wY X rest Q)):VS X (.If c A B pos::rest) ρ Q:=HX hc (λ_=>h) λz=>by rw[hk]at z;cases z
theorem lA{A B:List b9}{k:Bool}(hc:VT X ρ c k)(hk:k=false)(h:VS X B ρ (wY X rest Q)):VS X (.If c A B pos::rest) ρ Q:=HX hc (λz=>by rw[hk]at z;cases z) λ_=>h
theorem bt{A:List b9}{k:Bool}(hc:VT X ρ c k)(hk:k=false)(h:VS X rest ρ Q):VS X (.If c A [] pos::rest) ρ Q:=lA hc hk (cg h)
theorem dQ{x y z:Str}(ha:VE X ρ a (.d (.str x)))(hb:VE X ρ b (.d (.tuple [.str y,.str z])))(hm:behindInMarks .In b=false):VT X ρ (.Compare a [.In] [b] pos) (decide (x∈[y,z])):=Ta (xs:=[y,z]) ha hb hm
end
end L2
namespace Wk
open PySem L2 PySem.Spec PyProof.Rows
theorem wX.ext{K:aa}{H H':Hp}{a:aj}{sc:Sc}(e:Ext H H')(h:wX K H a sc):wX K H' a sc:=by
 obtain⟨bh,h1,l,n,q⟩:=h.ex;exact⟨bh,e _ _ h1 (λ_ z=>nomatch z),l,n,λx k z=>let⟨v,g1,g2⟩:=q x k z;⟨v,g1,Rep.mono (bq.oI e) _ _ g2⟩⟩
noncomputable def wZ(K:aa)(sc:Sc):Per:=⟨λH v=>∃a,v = .ref a/\wX K H a sc,λ_ _ _ e ⟨a,h1,h2⟩=>⟨a,h1,h2.ext e⟩⟩
section
variable {X:Cx}{ρ:List Sl}{a b:bc}{pos p2:Pos}{sc:Sc}{x:Str}{k:Kd}
theorem L6(hu:X.A.units+1<cLine)(ho:VE X ρ a (.h (wZ X.K sc)))(hi:VE X ρ b (.d (.str x)))(h:look sc x=some k)(hs:Oj b:=by exactλ_ _=>rfl):VE X ρ (.Subscript a b pos) (.d (eW k)):=
 PE.weak (uR hu ho hi hs) λσ H Q ⟨er,q⟩=>⟨er,λv H1 s1 r1=>⟨dC er s1,λu H2 s2 r2=>by
  obtain⟨p,rfl,hp⟩:=r1;obtain⟨bh,h1,_,_,g⟩:=(hp.mono s2).ex;obtain⟨w,g1,g2⟩:=g x k h;obtain rfl:=eK.cY r2;refine⟨p,w,rfl,?_,q w H2 (s1.trans s2) g2⟩;rw[<-g1]
  exact tX.k (k:=.inr x) h1⟩⟩
theorem L7(hu:X.A.units+1<cLine)(hi:VE X ρ b (.d (.str x)))(ho:VE X ρ a (.h (wZ X.K sc)))(hm:behindInMarks .NotIn a=false):VT X ρ (.Compare b [.NotIn] [a] pos) (!(look sc x).isSome):=
 PT.weak (KC (Jr hu hi ho) hm) λσ H Q ⟨er,q⟩=>⟨er,λv H1 s1 r1=>⟨dC er s1,λu H2 s2 r2=>by
  obtain⟨p,rfl,hp⟩:=r2;obtain⟨bh,h1,_,n,g⟩:=hp.ex;obtain rfl:=eK.cY r1;refine⟨p,_,rfl,tX.k (k:=.inr x) h1,_,rfl,?_⟩;have:(iP bh (.inr x)).isSome=(look sc x).isSome:=by
   cases h:look sc x with
   |none=>rw[n x h];rfl
   |some k=>obtain⟨w,g1,_⟩:=g x k h;rw[g1];rfl
  rw[this]
  exact q H2 (s1.trans s2)⟩⟩
end
structure yX(K:aa)(mg:Str->Option ah):Prop where
 num:∃a,mg "NUM"=some (.ref a)/\∀H,Rep K H (eW .num) (.ref a)
 truth:∃a,mg "TRUTH"=some (.ref a)/\∀H,Rep K H (eW .truth) (.ref a)
theorem vY{X:Cx}{ρ:List Sl}{pos:Pos}(c:yX X.K X.mg)(hg:Gl X "NUM":=by rfl):VE X ρ (.Name "NUM" pos) (.d (eW .num)):=let⟨a,h1,h2⟩:=c.num;nZ (v:=.ref a) hg h1 rfl h2
theorem yY{X:Cx}{ρ:List Sl}{pos:Pos}(c:yX X.K X.mg)(hg:Gl X "TRUTH":=by rfl):VE X ρ (.Name "TRUTH" pos) (.d (eW .truth)):=let⟨a,h1,h2⟩:=c.truth;nZ (v:=.ref a) hg h1 rfl h2
noncomputable def nM:Option Kd->aq
 |none=>.none
 |some k=>eW k
noncomputable def Ks:Option Br->aq
 |none=>.none
 |some b=>.tuple [xW b.1,nM b.2.1,nM b.2.2]
noncomputable def QP:List Sl->Sl->Prop:=λas r=>∃k m,as=[.d (eW k),.d (eW m)]/\c7 k + c7 m<=100000/\r = .d (.bool (decide (k=m)))
theorem Tg{K:aa}{vs:List V}{H:Hp}{Q:VK}{E:XK}(h:gr K QP vs H Q E):yQ K vs H Q E:=by
 obtain⟨as,r,h1,⟨k,m,rfl,hz,rfl⟩,q⟩:=h;cases h1 with
 |cons a1 t=>
  cases t with
  |cons a2 t=>
   cases t;exact⟨_,_,k,m,rfl,a1,a2,hz,λH' s=>q _ H' s eK.bool⟩
noncomputable def XF:List Sl->Sl->Prop:=λas r=>∃(b:Lb)(o:List Tm)(ks:List Kd),as=[.d (py (ex (.node b o))),.l (ks.map eW)]/\ks.length=ar b/\(b = .call->∃k m r,ks = .to k m::r)/\r = .o ((kZ b ks).map nM)
noncomputable def QQ(K:aa):List Sl->Sl->Prop:=λas r=>∃(b:Lb)(o:List Tm)(ks:List Kd)(sc:Sc),as=[.d (py (ex (.node b o))),.l (ks.map eW),.h (wZ K sc)]/\ks.length=ar b/\eZ b ks sc=none/\r = .d (eW (j8 b ks sc))
noncomputable def Ib(K:aa):List Sl->Sl->Prop:=λas r=>∃(b:Lb)(o:List Tm)(ks:List Kd)(sc:Sc),as=[.d (py (ex (.node b o))),.l (ks.map eW),.h (wZ K sc)]/\ks.length=ar b/\(∀k∈ks,c7 k<=10000)/\Td b<=10000/\r = .d (Ks (eZ b ks sc))
noncomputable def kP(p:List Nat):List Key:=p.map λ(k:Nat)=>tJ (k:Int)
theorem XG(p:List Nat):(kP p).map kV=p.map λ(k:Nat)=>V.int (k:Int):=by unfold kP;rw[fh];rfl
noncomputable def Th(K:aa)(H:Hp)(x:List Nat×Ex)(v:V):Prop:=∃a u w,v = .ref a/\fF K H a [.ref u,w]/\H u=some (.tup ((kP x.1).map kV))/\Rep K H (py x.2) w
noncomputable def jt(K:aa)(H:Hp)(xs:List (List Nat×Ex))(vs:List V):Prop:=vs.length=xs.length/\∀(i:Nat) x v,xs[i]?=some x->vs[i]?=some v->Th K H x v
section
variable {K:aa}{H H':Hp}{xs ys:List (List Nat×Ex)}{vs ws:List V}{x:List Nat×Ex}{v:V}
theorem Th.ext(e:Ext H H')(h:Th K H x v):Th K H' x v:=by
 obtain⟨a,u,w,h1,h2,h3,h4⟩:=h;exact⟨a,u,w,h1,bq.oI e _ _ h2,e _ _ h3 (λ_ z=>nomatch z),Rep.mono (bq.oI e) _ _ h4⟩
theorem jt.ext(e:Ext H H')(h:jt K H xs vs):jt K H' xs vs:=⟨h.1,λi x v h1 h2=>(h.2 i x v h1 h2).ext e⟩
theorem jt.nil:jt K H [] []:=⟨rfl,λi x v h=>by simp at h⟩
theorem jt.append(h:jt K H xs vs)(g:jt K H ys ws):jt K H (xs++ys) (vs++ws):=by
 refine⟨by rw[aL,aL,h.1,g.1],λi x v h1 h2=>?_⟩;by_cases hi:i<xs.length
 ·rw[aK hi]at h1;rw[aK (by rw[h.1];exact hi)]at h2;exact h.2 i x v h1 h2
 ·rw[aP (by omega)]at h1;rw[aP (by rw[h.1];omega),h.1]at h2;exact g.2 _ x v h1 h2
theorem jt.one(h:Th K H x v):jt K H [x] [v]:=⟨rfl,λi y w h1 h2=>by
 cases i with
 |zero=>simp at h1 h2;rw[<-h1,<-h2];exact h
 |succ i=>simp at h1⟩
theorem jt.reverse(h:jt K H xs vs):jt K H xs.reverse vs.reverse:=by
 refine⟨by rw[cC,cC,h.1],λi x v h1 h2=>?_⟩;have hi:i<xs.length:=by have:=(ak.mp h1).1;simpa using this
 rw[gL hi]at h1;rw[gL (by rw[h.1];exact hi),h.1]at h2;exact h.2 _ x v h1 h2
theorem jt.snoc(h:jt K H (xs++[x]) vs):∃ws v,vs=ws++[v]/\jt K H xs ws/\Th K H x v:=by
 have hl:=h.1;rw[aL]at hl;rcases nY vs with e|⟨ws,v,rfl⟩
 ·subst e;simp at hl
 ·have hw:ws.length=xs.length:=by simpa using hl
  refine⟨ws,v,rfl,⟨hw,λi y u h1 h2=>?_⟩,?_⟩
  ·have hi:i<xs.length:=(ak.mp h1).1;exact h.2 i y u (by rw[aK hi];exact h1) (by rw[aK (by omega)];exact h2)
  ·exact h.2 xs.length x v (by simp) (by rw[<-hw];simp)
theorem jt.get{i:Nat}(h:jt K H xs vs)(hi:vs[i]?=some v):∃x,xs[i]?=some x/\Th K H x v:=by
 have hl:i<xs.length:=by rw[<-h.1];exact(ak.mp hi).1
 exact⟨_,ag hl,h.2 i _ v (ag hl) hi⟩
end
theorem Ct{K:aa}{H:Hp}{a b:aj}{xs ys:List V}{Q:VK}(ha:fF K H a xs)(hb:H b=some (.tup ys))(hy:ys≠[])(hz:xs.length + ys.length<=av)(q:∀c H',bK H H'->H' c=some (.tup (xs++ys))->Q (.ref c) H'):Cd K (.ref a) (.ref b) H Q:=
 ⟨a,b,xs,ys,rfl,rfl,ha,fF.of hb,hz,λe=>q b H (bK.refl H) (by rw[e];exact hb),λ_ e=>absurd e hy,λ_ _ p hp=>q p _ (bu hp _) aW⟩
noncomputable def Ep(K:aa):Sp:=λvs H Q _=>∃(v:V)(e:Ex),vs=[v]/\Rep K H (py e) v/\e.size<=1000000/\∀r H' ps,bK H H'->H r=none->H' r=some (.lst ps)->jt K H' e.post ps->Q (.ref r) H'
theorem L8{b:Lb}{ks:List Kd}(h:ks.length=ar b):(kZ b ks).length=ks.length:=by cases b<;>simp_all [kZ,ar]
theorem Ti(k:Kd):(Sl.d (eW k)).XC=false:=by cases k<;>rfl
theorem AE(i:Nat)(ds:List (Option Kd))(ks:List Kd)(h:∀d∈ds,d=none):gh i ds ks=none:=by
 induction ds generalizing i ks with
 |nil=>cases ks<;>rfl
 |cons d ds ih=>
  have:=h d aE;subst this;cases ks with
  |nil=>rfl
  |cons k ks=>rw[gh];exact ih _ _ λd hd=>h d (aU _ hd)
theorem w6{x:Str}{ks:List Kd}{sc:Sc}:eZ (.name x) ks sc=if(look sc x).isSome then none else some ([],none,none):=rfl
theorem vZ{b:Lb}{ks:List Kd}{sc:Sc}(h1:∀x,b = .name x->(look sc x).isSome=true)(h2:b = .call->∃k m r,ks = .to k m::r):eZ b ks sc=mf b ks:=by
 cases b with
 |name x=>
  rw[w6,if_pos (h1 x rfl),mf,AE _ _ _ (by simp[kZ])];rfl
 |call=>obtain⟨k,m,r,rfl⟩:=h2 rfl;rfl
 |_=>rfl
theorem GI{b:Lb}{ks:List Kd}{m:Kd}(h:∀k∈ks,c7 k<=10000)(hb:Td b<=10000)(hm:some m∈kZ b ks):c7 m<=10001:=by
 have at':∀{i:Nat}{k:Kd},ks[i]?=some k->c7 k<=10000:=λe=>h _ (aI e);cases b with
 |OX=>
  simp[kZ]at hm;rcases hm with rfl|hm
  ·decide
  ·have:=at' hm.symm;omega
 |case k x y=>
  simp[kZ]at hm;rcases hm with rfl|hm
  ·simp only[Td]at hb;simp only[c7];omega
  ·have:=at' hm.symm;omega
 |front=>
  simp[kZ]at hm;cases q:ks[0]? with
  |none=>rw[q]at hm;cases hm
  |some k=>
   rw[q]at hm;cases hm;have:=at' q;simp only[c7];omega
 |call=>
  simp[kZ]at hm;cases q:ks[0]? with
  |none=>rw[q]at hm;cases hm
  |some k=>
   rw[q]at hm;have:=at' q;cases k with
   |to a c=>cases hm;simp only[c7]at this;omega
   |_=>cases hm
 |add=>simp[kZ]at hm;subst hm;decide
 |less=>simp[kZ]at hm;subst hm;decide
 |_=>simp[kZ]at hm
noncomputable def GJ(s:b9)(i:Nat):Scope:=match(eS s)[i]? with
 |some (.Return (some (.ListComp _ _ sc _)) _)=>sc
 |some (.Assign _ (.ListComp _ _ sc _) _)=>sc
 |_=>{kind:=.function,names:=[],isGenerator:=false,isCoroutine:=false}
theorem L9{ks:List Kd}(h:ks.length=2):∃a b,ks=[a,b]:=by
 match ks,h with
 |[a,b],_=>exact⟨a,b,rfl⟩
theorem OZ{ks:List Kd}(h:ks.length=3):∃a b c,ks=[a,b,c]:=by
 match ks,h with
 |[a,b,c],_=>exact⟨a,b,c,rfl⟩
theorem ac2{ks:List Kd}(h:ks.length=1):∃a,ks=[a]:=by
 match ks,h with
 |[a],_=>exact⟨a,rfl⟩
variable {α:Type}
theorem ro{u:c9 α}:∀{r:List (c9 α)} {j:Nat} (k:Nat),r[j]?=some u->∃A C,et k r=A++u.post.map (λx=>((k + j)::x.1,x.2))++C
 |[],j,k,h=>by simp at h
 |t::r,0,k,h=>by
  simp at h;subst h;exact⟨[],et (k+1) r,by rw[et];rfl⟩
 |t::r,j+1,k,h=>by
  obtain⟨A,C,e⟩:=ro (k+1) (r:=r) (j:=j) (by simpa using h);refine⟨t.post.map (λx=>(k::x.1,x.2))++A,C,?_⟩;rw[et,e,show k+1 + j=k + (j+1)from by omega];simp
theorem yZ{e t:c9 α}:∀{p:List Nat},e.se p=some t->∃A C,e.post=A++t.post.map (λx=>(p++x.1,x.2))++C:=by
 intro p;induction p generalizing e with
 |nil=>
  intro h;rw[kA]at h;cases h;exact⟨[],[],by simp⟩
 |cons k p ih=>
  intro h;rw[ji]at h;cases q:e.own[k]? with
  |none=>rw[q]at h;cases h
  |some u=>
   rw[q]at h;obtain⟨A,C,e1⟩:=ih (e:=u) h;obtain⟨A2,C2,e2⟩:=ro 0 q;refine⟨A2++A.map (λx=>(k::x.1,x.2)),C.map (λx=>(k::x.1,x.2))++C2++[([],e)],?_⟩;rw[lV,e2,e1,jD];simp[fh,kh]
theorem y6{x:List Nat×c9 α}:∀{r:List (c9 α)} {k:Nat},x∈et k r->∃j q,x.1=j::q/\k<=j
 |[],k,h=>by simp[et]at h
 |t::r,k,h=>by
  rw[et]at h;rcases bj.mp h with h|h
  ·obtain⟨y,_,rfl⟩:=de.mp h;exact⟨k,y.1,rfl,au _⟩
  ·obtain⟨j,q,e,l⟩:=y6 h;exact⟨j,q,e,by omega⟩
theorem GK(k:Nat){l:List (List Nat)}(h:l.Nodup):(l.map λp=>k::p).Nodup:=by
 induction l with
 |nil=>exact sN
 |cons a r ih=>
  rw[fo]at h;rw[bz,fo];refine⟨λm=>?_,ih h.2⟩;obtain⟨b,hb,e⟩:=de.mp m;cases e;exact h.1 hb
theorem qg(t:c9 α):t.places.Nodup:=by
 induction t using c9.ind with
 |h a o ih=>
  have key:∀(r:List (c9 α)) (k:Nat),(∀x∈r,x∈o)->((et k r).map vC).Nodup:=by
   intro r;induction r with
   |nil=>intro k _;exact sN
   |cons y r Lz=>
    intro k hs;rw[et,bI,fh];have e:(vC ∘ λ(x:List Nat×c9 α)=>(k::x.1,x.2))=(λp=>k::p) ∘ vC:=rfl;rw[e,<-fh];refine kW.mpr ⟨GK k (ih y (hs y aE)),Lz (k+1) (λx hx=>hs x (aU _ hx)),?_⟩;intro x hx z hz Zi;obtain⟨q,_,rfl⟩:=de.mp hx;obtain⟨w,hw,rfl⟩:=de.mp hz;obtain⟨j,q',e',l⟩:=y6 hw;rw[e']at Zi;cases Zi;omega
  rw[places_eq];refine kW.mpr ⟨key o 0 (λx hx=>hx),by simp,?_⟩;intro x hx z hz Zi;have:z=[]:=by simpa using hz
  subst this;obtain⟨w,hw,rfl⟩:=de.mp hx;exact Ly o 0 w hw Zi
theorem qW{β:Type}{l:List β}(h:l.Nodup){i j:Nat}{x:β}(h1:l[i]?=some x)(h2:l[j]?=some x):i=j:=by
 induction l generalizing i j with
 |nil=>simp at h1
 |cons a r ih=>
  rw[fo]at h;cases i with
  |zero=>
   cases j with
   |zero=>rfl
   |succ j=>
    simp at h1 h2;subst h1;exact absurd (aI h2) h.1
  |succ i=>
   cases j with
   |zero=>
    simp at h1 h2;subst h2;exact absurd (aI h1) h.1
   |succ j=>
    simp at h1 h2;rw[ih h.2 h1 h2]
theorem qh{e:c9 α}{i:Nat}{x:List Nat×c9 α}(h:e.post[i]?=some x):e.places[i]?=some x.1:=by rw[c9.places,aw,h];rfl
theorem Ic{e:c9 α}{i j:Nat}{x y:List Nat×c9 α}(h1:e.post[i]?=some x)(h2:e.post[j]?=some y)(h:x.1=y.1):i=j:=
 qW (qg e) (qh h1) (by rw[h];exact qh h2)
theorem y8{e t u:c9 α}{p:List Nat}{k:Nat}(h:e.se p=some t)(hk:t.own[k]?=some u):∃i j:Nat,j<i/\e.post[i]?=some (p,t)/\e.post[j]?=some (p++[k],u):=by
 obtain⟨A,C,e1⟩:=yZ h;obtain⟨A2,C2,e2⟩:=ro 0 hk;have e3:t.post=A2++u.post.map (λx=>((0 + k)::x.1,x.2))++C2++[([],t)]:=by rw[lV,e2]
 have e4:u.post=et 0 u.own++[([],u)]:=lV u;have e5:e.post=(A++(A2++(et 0 u.own).map (λx=>((0 + k)::x.1,x.2))).map (λx=>(p++x.1,x.2)))++[(p++[k],u)]++C2.map (λx=>(p++x.1,x.2))++[(p,t)]++C:=by
  rw[e1,e3,e4];simp[fh,kh]
 refine⟨(A++(A2++(et 0 u.own).map (λx=>((0 + k)::x.1,x.2))).map (λx=>(p++x.1,x.2))).length+1 + (C2.map (λx=>(p++x.1,x.2))).length,(A++(A2++(et 0 u.own).map (λx=>((0 + k)::x.1,x.2))).map (λx=>(p++x.1,x.2))).length,by omega,?_,?_⟩
 ·rw[e5];generalize A++(A2++(et 0 u.own).map (λx=>((0 + k)::x.1,x.2))).map (λx=>(p++x.1,x.2))=L1;generalize C2.map (λx=>(p++x.1,x.2))=L2;rw[aK (by simp;omega),aP (by simp;omega)];rw[show L1.length+1 + L2.length - (L1++[(p++[k],u)]++L2).length=0 from by simp;omega];rfl
 ·rw[e5];generalize A++(A2++(et 0 u.own).map (λx=>((0 + k)::x.1,x.2))).map (λx=>(p++x.1,x.2))=L1;generalize C2.map (λx=>(p++x.1,x.2))=L2;simp
theorem Ma{e t:c9 α}{p:List Nat}(h:e.se p=some t):∃i:Nat,e.post[i]?=some (p,t):=by
 obtain⟨A,C,e1⟩:=yZ h;have e3:t.post=et 0 t.own++[([],t)]:=lV t;have:(p,t)∈e.post:=by rw[e1,e3];simp
 obtain⟨i,hi,e⟩:=List.getElem_of_mem this;exact⟨i,by rw[ag hi,e]⟩
end Wk
namespace L2
open PySem PySem.Spec PyProof.Rows
theorem cK.imp{P:aR}{w:bH}{K:aa}{mg:Str->Option ah}{base:bS}{k:Nat}{x:Str}{ps:List Str}{sp Hy:Sp}(D:cK P w K mg base k x ps sp)(h:∀vs H Q E,Hy vs H Q E->sp vs H Q E):cK P w K mg base k x ps Hy:=
 let⟨f,fd,F,r⟩:=D;⟨f,fd,F.imp h,r⟩
theorem mx.one{K:aa}{H:Hp}{r:Sl}{vs:List V}(h:mx K H [r] vs):∃v,vs=[v]/\fV K H r v:=by
 cases h with|cons a t=>cases t;exact⟨_,rfl,a⟩
theorem mx.two{K:aa}{H:Hp}{r q:Sl}{vs:List V}(h:mx K H [r,q] vs):∃v u,vs=[v,u]/\fV K H r v/\fV K H q u:=by
 cases h with|cons a t=>cases t with|cons b t=>cases t;exact⟨_,_,rfl,a,b⟩
section
variable {X:Cx}{ρ:List Sl}{e a b c:bc}{r ra rb:Sl}{pos p2 p3:Pos}{d:aq}{Q:Out->Prop}{rest:List b9}
theorem O0{z:Str}{n:Int}(ha:VE X ρ a (.d (.str z)))(hb:VE X ρ b (.d (.int n)))(h0:0<z.length)(h1:1<n)(h2:n<=1000)(h3:z.length<=1000):VE X ρ (.BinOp a .Mult b pos) (.d (.str (Txt.mul z n))):=
 uY Oz ha hb λH x y Q rx ry q=>⟨z,n,fV.cY rx,fV.cP ry,h0,h1,h2,h3,q _ H (bK.refl H) eK.str⟩
theorem dm{r':Sl}(h:VE X ρ e r)(q:r=r'):VE X ρ e r':=by rw[<-q];exact h
end
end L2
namespace Wk
open PySem L2 PySem.Spec PyProof.Rows
noncomputable def v5:Kd->Nat
 |.num=>1
 |.truth=>1
 |.list k=>v5 k+1
 |.to k m=>max (v5 k) (v5 m)+1
noncomputable def Ie(x:Str×Kd):aq:=.tuple [.str x.1,eW x.2]
noncomputable def Ig(x:List Nat×Kd):aq:=.tuple [xW x.1,eW x.2]
structure Kt(K:aa)(H:Hp)(bh:List (Key×V))(sc:Sc):Prop where
 len:bh.length<=sc.length
 no:∀x,look sc x=none->iP bh (.inr x)=none
 yes:∀x k,look sc x=some k->∃v,iP bh (.inr x)=some v/\Rep K H (eW k) v
theorem Kt.nil{K:aa}{H:Hp}:Kt K H [] []:=⟨au _,λ_ _=>rfl,λ_ _ h=>nomatch h⟩
theorem Kt.put{K:aa}{H:Hp}{sc:Sc}{y:Str}{k:Kd}{v:V}{bh:List (Key×V)}(h:Kt K H bh sc)(hv:Rep K H (eW k) v):Kt K H (putK bh (.inr y) v) (sc++[(y,k)]):=by
 refine⟨by have:=iF bh (.inr y) v;have:=h.len;rw[aL];simp;omega,λx q=>?_,λx m q=>?_⟩
 ·rw[sh]at q;by_cases hy:y=x
  ·rw[if_pos hy]at q;cases q
  ·rw[if_neg hy]at q;rw[jJ,if_neg (λz=>hy (qM z).symm)];exact h.no x q
 ·rw[sh]at q;by_cases hy:y=x
  ·rw[if_pos hy]at q;cases q;exact⟨v,by rw[jJ,if_pos (by rw[hy])],hv⟩
  ·rw[if_neg hy]at q;obtain⟨u,h1,h2⟩:=h.yes x m q;exact⟨u,by rw[jJ,if_neg (λz=>hy (qM z).symm)];exact h1,h2⟩
theorem wX.of{K:aa}{H:Hp}{a:aj}{bh:List (Key×V)}{sc:Sc}(e:H a=some (.dK bh))(h:Kt K H bh sc):wX K H a sc:=⟨bh,e,h.len,h.no,h.yes⟩
theorem Kt.mono{K:aa}{H H':Hp}{bh:List (Key×V)}{sc:Sc}(s:bK H H')(h:Kt K H bh sc):Kt K H' bh sc:=⟨h.len,h.no,λx k q=>let⟨v,a,b⟩:=h.yes x k q;⟨v,a,Rep.mono (bq.of_same s) _ _ b⟩⟩
theorem xa{K:aa}{H:Hp}:∀{sc:Sc}{qs:List V},bB K H (sc.map Ie) qs->∃bh:List (Key×V),Ck K H qs bh/\bh.length=sc.length/\
  ∀(acc:List (Key×V)) (Wl:Sc),Kt K H acc Wl->Kt K H (mT acc bh) (Wl++sc)
 |[],qs,h=>by
  rw[gy,bB]at h;subst h;exact⟨[],⟨rfl,λi v q=>by simp at q⟩,rfl,λacc Wl h=>by rw[cf];exact h⟩
 |(x,k)::sc,qs,h=>by
  rw[bz]at h;obtain⟨v,r,rfl,h1,h2⟩:=h.split;obtain⟨p,vs,rfl,hq,rp⟩:=Rep.fz h1;obtain⟨v1,r1,rfl,e1,rp⟩:=rp.split;obtain⟨v2,r2,rfl,e2,rp⟩:=rp.split;rw[bB]at rp;subst rp;obtain rfl:=e1.cY;obtain⟨bh,P,hl,g⟩:=xa h2;refine⟨(.inr x,v2)::bh,⟨by simp[P.len],λi w q=>?_⟩,by simp[hl],λacc Wl h=>?_⟩
  ·cases i with
   |zero=>simp at q;subst q;exact⟨p,.inr x,v2,rfl,hq,rfl⟩
   |succ i=>exact P.at_ i w (by simpa using q)
  ·have e:Wl++(x,k)::sc=(Wl++[(x,k)])++sc:=by simp
   rw[e];exact g _ _ (h.put e2)
theorem Tj(b:Lb)(k:Nat)(sc:Sc):Xz (Zh b) (k:Int) sc (ua b k sc):=by
 cases b with
 |fn x m=>exact⟨λ_=>⟨x,m,rfl,rfl⟩,λh=>absurd h (by show ¬("fun":Str) = "case";decide),λh _=>absurd rfl h⟩
 |case m h t=>
  refine⟨λh=>absurd h (by show ¬("case":Str) = "fun";decide),λ_ e=>?_,λ_ n=>?_⟩
  ·have:k=2:=by omega
   subst this;exact⟨m,h,t,rfl,rfl⟩
  ·have:(k:Int)≠2:=n rfl;unfold ua;split
   ·rename_i z;cases z
   ·rename_i z1 z2;exact absurd rfl this
   ·rfl
 |num _=>exact⟨λh=>absurd h (by show ¬("num":Str) = "fun";decide),λh=>absurd h (by show ¬("num":Str) = "case";decide),λ_ _=>rfl⟩
 |truth _=>exact⟨λh=>absurd h (by show ¬("truth":Str) = "fun";decide),λh=>absurd h (by show ¬("truth":Str) = "case";decide),λ_ _=>rfl⟩
 |name _=>exact⟨λh=>absurd h (by show ¬("name":Str) = "fun";decide),λh=>absurd h (by show ¬("name":Str) = "case";decide),λ_ _=>rfl⟩
 |nil _=>exact⟨λh=>absurd h (by show ¬("nil":Str) = "fun";decide),λh=>absurd h (by show ¬("nil":Str) = "case";decide),λ_ _=>rfl⟩
 |add=>exact⟨λh=>absurd h (by show ¬("add":Str) = "fun";decide),λh=>absurd h (by show ¬("add":Str) = "case";decide),λ_ _=>rfl⟩
 |less=>exact⟨λh=>absurd h (by show ¬("less":Str) = "fun";decide),λh=>absurd h (by show ¬("less":Str) = "case";decide),λ_ _=>rfl⟩
 |front=>exact⟨λh=>absurd h (by show ¬("front":Str) = "fun";decide),λh=>absurd h (by show ¬("front":Str) = "case";decide),λ_ _=>rfl⟩
 |call=>exact⟨λh=>absurd h (by show ¬("call":Str) = "fun";decide),λh=>absurd h (by show ¬("call":Str) = "case";decide),λ_ _=>rfl⟩
 |OX=>exact⟨λh=>absurd h (by show ¬("if":Str) = "fun";decide),λh=>absurd h (by show ¬("if":Str) = "case";decide),λ_ _=>rfl⟩
theorem Cu{p q:List Nat}(h:kP p=kP q):p=q:=by
 induction p generalizing q with
 |nil=>cases q with
  |nil=>rfl
  |cons b q=>cases h
 |cons a p ih=>cases q with
  |nil=>cases h
  |cons b q=>
   simp only[kP,bz,FA,Sum.inl.injEq]at h;rw[ih h.2,show a=b from by omega]
theorem Mb{sc:Sc}:∀{p:List Nat}{e:Tm},(gD e p sc).length<=sc.length+2 * p.length:=by
 intro p;induction p generalizing sc with
 |nil=>intro e;rw[pk];exact au _
 |cons k p ih=>
  intro e;cases q:e.own[k]? with
  |none=>rw[gD,q];simp
  |some u=>
   rw[pq q];have h1:=ih (sc:=ua e.lO k sc) (e:=u);have h2:(ua e.lO k sc).length<=sc.length+2:=by unfold ua;split<;>simp
   simp only[aY];omega
noncomputable def QR(K:aa)(H:Hp)(bh:List (List Key×V))(e:Tm)(sc:Sc)(S:List Nat->Prop):Prop:=∀p,S p->∃b,iP bh (kP p)=some (.ref b)/\wX K H b (gD e p sc)
theorem QR.put{K:aa}{H:Hp}{bh:List (List Key×V)}{e:Tm}{sc:Sc}{S S':List Nat->Prop}{q:List Nat}{b:aj}(h:QR K H bh e sc S)(hb:wX K H b (gD e q sc))(hs:∀p,S' p->p=q\/S p):QR K H (putK bh (kP q) (.ref b)) e sc S':=λp hp=>by
 by_cases hq:p=q
 ·subst hq;exact⟨b,by rw[jJ,if_pos rfl],hb⟩
 ·obtain⟨c,h1,h2⟩:=h p ((hs p hp).resolve_left hq);exact⟨c,by rw[jJ,if_neg (λz=>hq (Cu z))];exact h1,h2⟩
theorem wX.GL{K:aa}{H:Hp}{a s:aj}{sc:Sc}{bh ac3:List (List Key×V)}(h:wX K H a sc)(hs:H s=some (.dT bh)):wX K (upd H s (.dT ac3)) a sc:=by
 obtain⟨ks,e,l,n,y⟩:=h.ex;have na:a≠s:=λz=>by rw[z,hs]at e;cases e
 refine⟨ks,by rw[bP na];exact e,l,n,λx k q=>let⟨v,h1,h2⟩:=y x k q;⟨v,h1,Rep.mono (.of_keep λb o h _ _ n=>?_) _ _ h2⟩⟩;rw[bP (λz=>by rw[z,hs]at h;cases h;exact n _ rfl)];exact h
theorem O1{K:aa}{H:Hp}{s:aj}{bh:List (List Key×V)}{o:HO}(hs:H s=some (.dT bh)):bq K H (upd H s o):=.of_keep λb o h _ _ n=>by
 rw[bP (λz=>by rw[z,hs]at h;cases h;exact n _ rfl)];exact h
theorem jt.GL{K:aa}{H:Hp}{s:aj}{bh:List (List Key×V)}{o:HO}{xs:List (List Nat×Ex)}{vs:List V}(h:jt K H xs vs)(hs:H s=some (.dT bh)):jt K (upd H s o) xs vs:=⟨h.1,λi x v h1 h2=>by
 obtain⟨a,u,w,g1,g2,g3,g4⟩:=h.2 i x v h1 h2
 exact⟨a,u,w,g1,O1 hs _ _ g2,by rw[bP (qV g3 hs (by intro z;cases z))];exact g3,Rep.mono (O1 hs) _ _ g4⟩⟩
inductive JM:Tm->Prop where
 |mk {b:Lb} {o:List Tm} (h:o.length=ar b) (hs:∀t∈o,JM t):JM (.node b o)
theorem JM.len{t:Tm}(h:JM t):t.own.length=ar t.lO:=by cases h with|mk a b=>exact a
theorem JM.own{t:Tm}(h:JM t):∀u∈t.own,JM u:=by cases h with|mk a b=>exact b
theorem JM.at{t u:Tm}:∀{p:List Nat},JM t->t.se p=some u->JM u:=by
 intro p;induction p generalizing t with
 |nil=>intro h e;rw[kA]at e;cases e;exact h
 |cons k p ih=>
  intro h e;rw[ji]at e;cases q:t.own[k]? with
  |none=>rw[q]at e;cases e
  |some x=>rw[q]at e;exact ih (h.own x (aI q)) e
noncomputable def Er(K:aa):Sp:=λvs H Q _=>∃(r q:aj)(ps qs:List V)(e:Tm)(sc:Sc),vs=[.ref r,.ref q]/\JM e/\e.size<=200000/\H r=some (.lst ps)/\jt K H (ex e).post ps/\H q=some (.lst qs)/\bB K H (sc.map Ie) qs/\sc.length<=1000/\
 ∀s H' bh,bK H H'->H s=none->H' s=some (.dT bh)->QR K H' bh e sc (λp=>(e.se p).isSome=true)->Q (.ref s) H'
theorem QS(b:Lb):ar b<=3:=by cases b<;>exact fL rfl
noncomputable abbrev Dp:=List (List Nat×Kd)
theorem find_key{κ β:Type}[DecidableEq κ]{l:List (κ×β)}(nd:(l.map (·.1)).Nodup){j:Nat}{x:κ×β}(h:l[j]?=some x):(l.find? λy=>decide (y.1=x.1))=some x:=by
 induction l generalizing j with
 |nil=>simp at h
 |cons a r ih=>
  rw[bz,fo]at nd;rw[iV];cases j with
  |zero=>simp at h;subst h;simp
  |succ j=>
   have hj:r[j]?=some x:=by simpa using h
   have Jx:a.1≠x.1:=λe=>nd.1 (by rw[e];exact de.mpr ⟨x,aI hj,rfl⟩);rw[decide_eq_false Jx];exact ih nd.2 hj
theorem JN(acc:Dp)(p:List Nat)(n:Nat):oM acc p (n+1)=oM acc p n++((acc.find? λx=>decide (x.1=p++[n])).map (·.2)).toList:=by
 unfold oM;rw[List.range_succ,List.filterMap_append];congr 1
theorem Bl{acc:Dp}{p:List Nat}:∀{n:Nat},(∀k,k<n->∃kd,(acc.find? λx=>decide (x.1=p++[k]))=some (p++[k],kd))->
  (oM acc p n).length=n/\∀k,k<n->∃kd,(oM acc p n)[k]?=some kd/\(acc.find? λx=>decide (x.1=p++[k]))=some (p++[k],kd)
 |0,_=>⟨rfl,λk h=>absurd h (hV _)⟩
 |n+1,h=>by
  obtain⟨h1,h2⟩:=Bl (n:=n) λk hk=>h k (je hk);obtain⟨kd,e⟩:=h n (qA n);rw[JN,e];refine⟨by simp[h1],λk hk=>?_⟩;rcases pL.mp hk with hk|rfl
  ·obtain⟨kd',e1,e2⟩:=h2 k hk;exact⟨kd',by rw[aK (by omega)];exact e1,e2⟩
  ·exact⟨kd,by rw[aP (by omega),h1];simp,e⟩
structure Dq(K:aa)(H:Hp)(acc:Dp)(bh:List (List Key×V)):Prop where
 len:bh.length=acc.length
 at_:∀(j:Nat) x,acc[j]?=some x->∃v,bh[j]?=some (kP x.1,v)/\Rep K H (eW x.2) v
theorem Mc{l:List (List Nat)}(h:l.Nodup):(l.map kP).Nodup:=by
 induction l with
 |nil=>exact sN
 |cons a r ih=>
  rw[fo]at h;rw[bz,fo];refine⟨λm=>?_,ih h.2⟩;obtain⟨b,hb,e⟩:=de.mp m;rw[<-Cu e]at h;exact h.1 hb
section
variable {K:aa}{H H':Hp}{acc:Dp}{bh:List (List Key×V)}
theorem Dq.nil:Dq K H [] []:=⟨rfl,λj x h=>by simp at h⟩
theorem Dq.ext(x:bq K H H')(h:Dq K H acc bh):Dq K H' acc bh:=⟨h.len,λj y e=>let⟨v,a,b⟩:=h.at_ j y e;⟨v,a,Rep.mono x _ _ b⟩⟩
theorem Dq.keys(h:Dq K H acc bh):bh.map (·.1)=(acc.map (·.1)).map kP:=by
 apply oV;intro j;rw[aw,aw,aw];cases e:acc[j]? with
 |none=>
  have:bh[j]?=none:=by
   rw[List.getElem?_eq_none_iff]at e ⊢;rw[h.len];exact e
  rw[this];rfl
 |some x=>obtain⟨v,a,_⟩:=h.at_ j x e;rw[a];rfl
theorem Dq.get(h:Dq K H acc bh)(nd:(acc.map (·.1)).Nodup){j:Nat}{p:List Nat}{k:Kd}(e:acc[j]?=some (p,k)):∃v,iP bh (kP p)=some v/\Rep K H (eW k) v:=by
 obtain⟨v,a,b⟩:=h.at_ j _ e;refine⟨v,?_,b⟩;have nk:(bh.map (·.1)).Nodup:=by rw[h.keys];exact Mc nd
 unfold iP;rw[find_key nk a];rfl
theorem Dq.miss(h:Dq K H acc bh){p:List Nat}(n:p∉acc.map (·.1)):iP bh (kP p)=none:=by
 unfold iP;have:(bh.find? λkv=>decide (kv.1=kP p))=none:=by
  rw[List.find?_eq_none];intro x hx hc;have hk:x.1∈bh.map (·.1):=de.mpr ⟨x,hx,rfl⟩;rw[h.keys]at hk;obtain⟨q,hq,e⟩:=de.mp hk;have:q=p:=Cu (e.trans (of_decide_eq_true hc));exact n (by rw[<-this];exact hq)
 rw[this];rfl
theorem Dq.snoc(h:Dq K H acc bh){p:List Nat}{k:Kd}{v:V}(n:p∉acc.map (·.1))(rv:Rep K H (eW k) v):Dq K H (acc++[(p,k)]) (putK bh (kP p) v):=by
 rw[K4 v (h.miss n)];refine⟨by simp[h.len],λj x e=>?_⟩;by_cases hj:j<acc.length
 ·rw[aK hj]at e;obtain⟨u,a,b⟩:=h.at_ j x e;exact⟨u,by rw[aK (by rw[h.len];exact hj)];exact a,b⟩
 ·rw[aP (by omega)]at e;cases hz:j - acc.length with
  |zero=>
   rw[hz]at e;simp at e;subst e;exact⟨v,by rw[aP (by rw[h.len];omega),h.len,hz];rfl,rv⟩
  |succ m=>rw[hz]at e;simp at e
end
noncomputable def Tn(e:Tm)(sc:Sc)(rows:Dp)(k:Nat)(x:List Nat×Kd):Prop:=∃t,e.post[k]?=some (x.1,t)/\eZ t.lO (oM (rows.take k) x.1 t.own.length) (gD e x.1 sc)=none/\x.2=j8 t.lO (oM (rows.take k) x.1 t.own.length) (gD e x.1 sc)
noncomputable def Good(e:Tm)(sc:Sc)(rows:Dp):Prop:=∀(k:Nat) x,rows[k]?=some x->Tn e sc rows k x
theorem Good.nil{e:Tm}{sc:Sc}:Good e sc []:=λk x h=>by simp at h
theorem Good.places{e:Tm}{sc:Sc}{rows:Dp}(h:Good e sc rows):rows.map (·.1)=e.places.take rows.length:=by
 apply oV;intro j;rw[aw,nK];by_cases hj:j<rows.length
 ·rw[if_pos hj,ag hj];obtain⟨t,e1,_⟩:=h j _ (ag hj);rw[qh e1];rfl
 ·rw[if_neg hj,fB (by omega)];rfl
theorem Good.nodup{e:Tm}{sc:Sc}{rows:Dp}(h:Good e sc rows):(rows.map (·.1)).Nodup:=by
 rw[h.places];exact(List.take_sublist _ _).nodup (qg e)
theorem Good.le{e:Tm}{sc:Sc}{rows:Dp}(h:Good e sc rows):rows.length<=e.size:=by
 rcases Nat.eq_zero_or_pos rows.length with z|z
 ·omega
 ·have hj:rows.length - 1<rows.length:=by omega
  obtain⟨t,e1,_⟩:=h _ _ (ag hj);have:=(ak.mp e1).1;rw[cZ]at this;omega
theorem Good.take{e:Tm}{sc:Sc}{rows:Dp}(h:Good e sc rows)(n:Nat):Good e sc (rows.take n):=λk x q=>by
 rw[nK]at q;by_cases hk:k<n
 ·rw[if_pos hk]at q;obtain⟨t,a,b,c⟩:=h k x q;have e1:(rows.take n).take k=rows.take k:=by rw[List.take_take,Nat.min_eq_left (by omega)]
  exact⟨t,a,by rw[e1];exact b,by rw[e1];exact c⟩
 ·rw[if_neg hk]at q;cases q
theorem Good.snoc{e:Tm}{sc:Sc}{rows:Dp}(h:Good e sc rows){p:List Nat}{t:Tm}(hp:e.post[rows.length]?=some (p,t))(hb:eZ t.lO (oM rows p t.own.length) (gD e p sc)=none):
  Good e sc (rows++[(p,j8 t.lO (oM rows p t.own.length) (gD e p sc))]):=λk x q=>by
 by_cases hk:k<rows.length
 ·rw[aK hk]at q;obtain⟨u,a,b,c⟩:=h k x q;have e1:(rows++[(p,j8 t.lO (oM rows p t.own.length) (gD e p sc))]).take k=rows.take k:=xM (by omega);exact⟨u,a,by rw[e1];exact b,by rw[e1];exact c⟩
 ·rw[aP (by omega)]at q;cases hz:k - rows.length with
  |zero=>
   rw[hz]at q;simp at q;subst q;have ek:k=rows.length:=by omega
   subst ek;have e1:(rows++[(p,j8 t.lO (oM rows p t.own.length) (gD e p sc))]).take rows.length=rows:=by rw[xM (au _),iC]
   exact⟨t,hp,by rw[e1];exact hb,by rw[e1]⟩
  |succ m=>rw[hz]at q;simp at q
theorem Good.own{e:Tm}{sc:Sc}{rows:Dp}(h:Good e sc rows){p:List Nat}{t:Tm}(hp:e.post[rows.length]?=some (p,t)):
  (oM rows p t.own.length).length=t.own.length/\∀k,k<t.own.length->∃(kd:Kd)(j:Nat),rows[j]?=some (p++[k],kd)/\(oM rows p t.own.length)[k]?=some kd:=by
 have key:∀k,k<t.own.length->∃(kd:Kd)(j:Nat),rows[j]?=some (p++[k],kd):=by
  intro k hk;have mW:=pY e _ (aI hp);simp only at mW;obtain⟨i',j',lt,e1,e2⟩:=y8 mW (ag hk);have ei:i'=rows.length:=Ic e1 hp rfl;have hj:j'<rows.length:=by omega
  obtain⟨u,a,_⟩:=h j' _ (ag hj);rw[e2]at a;have e3:rows[j'].1=p++[k]:=(congrArg vC (bE a)).symm;exact⟨rows[j'].2,j',by rw[ag hj,<-e3]⟩
 obtain⟨h1,h2⟩:=Bl (acc:=rows) (p:=p) (n:=t.own.length) λk hk=>by
  obtain⟨kd,j,e1⟩:=key k hk;exact⟨kd,find_key h.nodup e1⟩
 refine⟨h1,λk hk=>?_⟩;obtain⟨kd,j,e1⟩:=key k hk;obtain⟨kd',e2,e3⟩:=h2 k hk;have e4:=find_key h.nodup e1;simp only at e4;rw[e3]at e4;cases e4;exact⟨kd,j,e1,e2⟩
theorem Md{sc:Sc}{x:Str}{k:Kd}(h:look sc x=some k):∃y∈sc,y.2=k:=by
 induction sc with
 |nil=>cases h
 |cons a r ih=>
  obtain⟨y,m⟩:=a;rw[look]at h;cases q:look r x with
  |some z=>
   rw[q]at h;obtain⟨y',hy,e⟩:=ih (by rw[q];exact h);exact⟨y',aU _ hy,e⟩
  |none=>
   rw[q]at h;by_cases hy:y=x
   ·simp[hy]at h;exact⟨_,aE,h⟩
   ·simp[hy]at h
theorem Ih{K:aa}{H H':Hp}{s:aj}{bh:List (List Key×V)}(e:SameBut s H H')(hs:H s=some (.dT bh)):bq K H H':=.of_keep λb o h _ _ n=>e b o (λz=>by rw[z,hs]at h;cases h;exact n _ rfl) h
theorem Es{K:aa}{σ:L2.St}{H:Hp}{kd:aj}{bh:List (List Key×V)}{acc:Dp}{Q:VK}(Dr:σ[4]?=some (some (.ref kd)))(hk:H kd=some (.dT bh))(kn:Dq K H acc bh)(hz:acc.length<av)(q:∀L ns H',SameBut kd H H'->H L=none->H' L=some (.lst ns)->bB K H' (acc.map Ig) ns->Q (.ref L) H'):Cf (Gz (FI 4)) σ H Q:=by
 refine⟨_,Dr,kd,bh,rfl,hk,λob=>?_⟩;refine GA (λi zs H1=>SameBut kd H H1/\H1 kd=some (.pS ob (.dT bh))/\zs.length=i/\bB K H1 ((acc.map Ig).take i) zs) (by rw[kn.len];exact hz) ⟨SameBut.upd _,aW,rfl,by rw[jn];exact .nil⟩ (by rintro i zs H1 ⟨_,a,b,_⟩;exact ⟨a,b⟩) ?_ ?_
 ·rintro i zs H1 p b k y ⟨sb,hf,hl,rp⟩ hky hb np;have hi:i<acc.length:=by rw[<-kn.len];exact(ak.mp hky).1
  obtain⟨v,h1,h2⟩:=kn.at_ i _ (ag hi);rw[hky]at h1;cases h1;have s2:=bu np (.tup [.ref b,y]);refine⟨sb.trans (SameBut.of_same s2),s2 _ _ hf,by simp[hl],?_⟩;rw[ef,aw,ag hi];refine(bB.mono (bq.of_same s2) _ _ rp).append (.one ?_);refine .tuple (fF.of aW) (.cons (QB (fF.of ?_)) (.one (Rep.mono ((Ih sb hk).trans (bq.of_same s2)) _ _ h2)));rw[s2 _ _ hb,XG]
 ·rintro zs H1 ⟨sb,hf,hl,rp⟩ L nL;rw[kn.len,dR (by rw[ay];exact au _)]at rp;have s2:=bu nL (.lst zs);have nH:H L=none:=by
   by_cases e:L=kd
   ·rw[e,hf]at nL;cases nL
   ·cases z:H L with
    |none=>rfl
    |some o=>rw[sb L o e z]at nL;cases nL
  exact q L zs _ (sb.trans (SameBut.of_same s2)) nH aW (bB.mono (bq.of_same s2) _ _ rp)
theorem Bm{K:aa}{σ:L2.St}{H:Hp}{kd:aj}{bh:List (List Key×V)}{acc:Dp}{Q:VK}{tr:TA}(Dr:σ[4]?=some (some (.ref kd)))(hk:H kd=some (.dT bh))(kn:Dq K H acc bh)(hz:acc.length<av)(q:∀L ns H',SameBut kd H H'->H L=none->H' L=some (.lst ns)->bB K H' (acc.map Ig) ns->tr σ H' λxs H2=>(V.ref L::xs).length<=av/\∀p,H2 p=none->Q (.ref p) (upd H2 p (.tup (.ref L::xs)))):KQ (DY (Cf (Gz (FI 4))) tr) σ H Q:=
 Es (Q:=λx H1=>tr σ H1 λxs H2=>(x::xs).length<=av/\∀p,H2 p=none->Q (.ref p) (upd H2 p (.tup (x::xs)))) Dr hk kn hz q
theorem ub{b:Lb}{ks:List Kd}{br:Br}(h:mf b ks=some br):br.1.length<=1:=by
 unfold mf at h;cases q:gh 0 (kZ b ks) ks with
 |none=>rw[q]at h;cases h
 |some z=>rw[q]at h;cases h;exact au _
theorem GN{b:Lb}{ks:List Kd}{sc:Sc}{br:Br}(h:eZ b ks sc=some br):br.1.length<=1:=by
 cases b with
 |name x=>
  rw[w6]at h;split at h
  ·cases h
  ·cases h;exact dj _
 |call=>
  cases ks with
  |nil=>exact ub h
  |cons k o=>
   have h':(if k.arg.isSome then mf .call (k::o)else some ([0],none,some k))=some br:=h;split at h'
   ·exact ub h'
   ·cases h';exact au _
 |_=>exact ub h
structure Me(e:Tm)(sc:Sc):Prop where
 ar:JM e
 size:e.size<=200000
 lO:∀p t,e.se p=some t->Td t.lO<=10000
 kinds:∀rows,Good e sc rows->∀(j:Nat) x,rows[j]?=some x->c7 x.2<=10000
 scl:sc.length<=1000
noncomputable def Bn(K:aa):Sp:=λvs H Q _=>∃(v:V)(q:aj)(qs:List V)(e:Tm)(sc:Sc),vs=[v,.ref q]/\Me e sc/\Rep K H (py (ex e)) v/\H q=some (.lst qs)/\bB K H (sc.map Ie) qs/\
 ∀a L ns fv H',bK H H'->fF K H' a [.ref L,fv]->H L=none->H' L=some (.lst ns)->bB K H' ((kG e sc).1.map Ig) ns->Rep K H' (Ks (kG e sc).2) fv->Q (.ref a) H'
noncomputable def Mf:List Sl->Sl->Prop:=λas r=>∃(e:Tm)(sc:Sc),as=[.d (py (ex e)),.l (sc.map Ie)]/\Me e sc/\r = .d (Ks (kG e sc).2)
noncomputable def Et(s:b9)(i j:Nat):Scope:=match(eS s)[i]? with
 |some (.For _ _ body _ _)=>match body[j]? with
  |some (.Assign _ (.ListComp _ _ sc _) _)=>sc
  |_=>{kind:=.function,names:=[],isGenerator:=false,isCoroutine:=false}
 |_=>{kind:=.function,names:=[],isGenerator:=false,isCoroutine:=false}
theorem O6{o:Option Br}{K:aa}{H:Hp}{v:V}(h:Rep K H (Ks o) v):decide (v=V.ip)=o.isNone:=by
 cases o with
 |none=>obtain rfl:=Rep.vR h;rfl
 |some b=>obtain⟨a,vs,rfl,_⟩:=Rep.fz h;rfl
end Wk
namespace L2
open PySem PySem.Spec PyProof.Rows
noncomputable def Wm(K:aa)(H:Hp)(a:aj)(xs:List V):Prop:=
 (∃o,H a=some (.pS o (.lst xs)))\/∃(o:Obj)(cq:Array ah)(n:Nat),K.lookup a=some o/\o.cls = .type "list"/\o.dict=none/\o.data = .seq cq n/\cq.size<=av/\cX xs cq.toList
theorem Wm.sq{K:aa}{H:Hp}{a:aj}{xs:List V}(h:Wm K H a xs):fU K H a xs:=by
 rcases h with h|h
 ·exact .inl (.inr h)
 ·exact .inr h
theorem Wm.of{K:aa}{H:Hp}{a:aj}{xs:List V}(h:fU K H a xs)(o:K7 H):Wm K H a xs:=by
 rcases h with(h|h)|h
 ·rcases o a with z|⟨ob,ys,z⟩
  ·rw[h]at z;cases z
  ·rw[h]at z;cases z
 ·exact .inl h
 ·exact .inr h
noncomputable def lB(K:aa)(ns:List Int):Per:=⟨λH v=>∃a,v = .ref a/\Wm K H a (ns.map V.int),λ_ _ _ e ⟨a,h1,h2⟩=>⟨a,h1,by
 rcases h2 with⟨o,h2⟩|h2
 ·exact .inl ⟨o,e _ _ h2 (λ_ z=>nomatch z)⟩
 ·exact .inr h2⟩⟩
end L2
namespace Wk
open PySem L2 PySem.Spec PyProof.Rows
noncomputable def Mg(K:aa):List Sl->Sl->Prop:=λas r=>∃ns:List Int,as=[.h (lB K ns)]/\ns.length<=63/\r = .d (.bool true)
theorem To{K:aa}{H:Hp}{a:aj}{ns:List Int}{E:XK}(hl:ns.length<=63)(ho:K7 H)(hs:fU K H a (ns.map V.int)):gr K (Mg K) [.ref a] H (λv _=>v = .bl true) E:=
 ⟨[.h (lB K ns)],.d (.bool true),.cons (r:=.h (lB K ns)) ⟨a,rfl,Wm.of hs ho⟩ .nil,⟨ns,rfl,hl,rfl⟩,λ_ _ _ r=>eK.is_bool r⟩
inductive Rz where
 |ok (k:Kd)
 |bad (r:Nat) (pl:List Nat) (d f:Option Kd)
inductive Rs where
 |ok (ks:List Kd)
 |bad (r:Nat) (pl:List Nat) (d f:Option Kd)
mutual
noncomputable def ck(sc:Sc):Tm->Rz
 |.node b o=>match Ai b sc 0 o with
  |.ok ks=>match eZ b ks sc with
   |none=>.ok (j8 b ks sc)
   |some br=>.bad 1 br.1 br.2.1 br.2.2
  |.bad r pl d f=>.bad (r+1) pl d f
noncomputable def Ai(b:Lb)(sc:Sc):Nat->List Tm->Rs
 |_,[]=>.ok []
 |i,t::r=>match ck (ua b i sc) t with
  |.ok k=>match Ai b sc (i+1) r with
   |.ok ks=>.ok (k::ks)
   |.bad n pl d f=>.bad n pl d f
  |.bad n pl d f=>.bad (n + gS r) (i::pl) d f
end
theorem kH(sc:Sc)(b:Lb)(o:List Tm):ck sc (.node b o)=match Ai b sc 0 o with
  |.ok ks=>match eZ b ks sc with
   |none=>.ok (j8 b ks sc)
   |some br=>.bad 1 br.1 br.2.1 br.2.2
  |.bad r pl d f=>.bad (r+1) pl d f:=by rw[ck]
theorem lQ(b:Lb)(sc:Sc)(i:Nat):Ai b sc i [] = .ok []:=by rw[Ai]
theorem gT(b:Lb)(sc:Sc)(i:Nat)(t:Tm)(r:List Tm):Ai b sc i (t::r)=match ck (ua b i sc) t with
  |.ok k=>match Ai b sc (i+1) r with
   |.ok ks=>.ok (k::ks)
   |.bad n pl d f=>.bad n pl d f
  |.bad n pl d f=>.bad (n + gS r) (i::pl) d f:=by rw[Ai]
noncomputable def Block(e:Tm)(sc:Sc)(p:List Nat)(t:Tm)(acc:Dp)(rest:List (List Nat×Tm)):Prop:=
 match ck (gD e p sc) t with
 |.ok k=>∃iI,Dn e sc acc (t.post.map (λx=>(p++x.1,x.2))++rest)=Dn e sc iI rest/\Good e sc iI/\iI.length=acc.length + t.size/\iI[acc.length + t.size - 1]?=some (p,k)/\∀(j:Nat) x,acc[j]?=some x->iI[j]?=some x
 |.bad r pl d f=>∃iI,Dn e sc acc (t.post.map (λx=>(p++x.1,x.2))++rest)=(iI,some (p++pl,d,f))/\iI.length + r=acc.length + t.size
theorem JO{e:Tm}{sc:Sc}{p:List Nat}{t:Tm}(mW:e.se p=some t)(ih:∀u∈t.own,∀q acc rest,e.se q=some u->Good e sc acc->e.post.drop acc.length=u.post.map (λx=>(q++x.1,x.2))++rest->Block e sc q u acc rest):
  ∀(r:List Tm)(k:Nat)(acc:Dp) (rest:List (List Nat×Tm)),t.own.drop k=r->Good e sc acc->e.post.drop acc.length=(et k r).map (λx=>(p++x.1,x.2))++rest->
   match Ai t.lO (gD e p sc) k r with
   |.ok ks=>∃iI,Dn e sc acc ((et k r).map (λx=>(p++x.1,x.2))++rest)=Dn e sc iI rest/\Good e sc iI/\iI.length=acc.length + gS r/\ks.length=r.length/\(∀(i:Nat) kd,ks[i]?=some kd->∃j:Nat,iI[j]?=some (p++[k + i],kd))/\∀(j:Nat) x,acc[j]?=some x->iI[j]?=some x
   |.bad n pl d f=>∃iI,Dn e sc acc ((et k r).map (λx=>(p++x.1,x.2))++rest)=(iI,some (p++pl,d,f))/\iI.length + n=acc.length + gS r:=by
 intro r;induction r with
 |nil=>
  intro k acc rest _ gd _;rw[lQ];exact⟨acc,by rw[et];rfl,gd,by rw[gS];rfl,rfl,λi kd h=>by simp at h,λj x h=>h⟩
 |cons u r Lz=>
  intro k acc rest hd gd hp;have hu:t.own[k]?=some u:=by rw[<-yi,hd];rfl
  have hq:e.se (p++[k])=some u:=by rw[uV,mW];exact hu
  have e1:(et k (u::r)).map (λx=>(p++x.1,x.2))=u.post.map (λx=>((p++[k])++x.1,x.2))++(et (k+1) r).map (λx=>(p++x.1,x.2)):=by
   rw[et,bI,fh];congr 1;apply mI;intro x _;simp
  rw[e1,bM]at hp;have hB:=ih u (aI hu) (p++[k]) acc _ hq gd hp;unfold Block at hB;rw[vX mW hu]at hB;rw[gT];cases hc:ck (ua t.lO k (gD e p sc)) u with
  |bad n pl d f=>
   rw[hc]at hB;obtain⟨iI,g1,g2⟩:=hB;refine⟨iI,?_,by rw[gS];omega⟩;rw[e1,bM,g1];simp
  |ok kd0=>
   rw[hc]at hB;obtain⟨XH,g1,Wn,l1,at1,ac4⟩:=hB;have Wo:e.post.drop XH.length=(et (k+1) r).map (λx=>(p++x.1,x.2))++rest:=by
    rw[l1,<-List.drop_drop,hp,xN (by simp[cZ]),kX (by simp[cZ])];rfl
   have h2:=Lz (k+1) XH rest (by rw[<-List.tail_drop,hd];rfl) Wn Wo;simp only;cases Dl:Ai t.lO (gD e p sc) (k+1) r with
   |bad n pl d f=>
    rw[Dl]at h2;obtain⟨iI,g2,g3⟩:=h2;refine⟨iI,by rw[e1,bM,g1];exact g2,by rw[gS];omega⟩
   |ok ks=>
    rw[Dl]at h2;obtain⟨iI,g2,NU,l2,hl,hk,XI⟩:=h2;refine⟨iI,by rw[e1,bM,g1];exact g2,NU,by rw[gS];omega,by simp[hl],λi kd hi=>?_,λj x h=>XI j x (ac4 j x h)⟩;cases i with
    |zero=>
     simp at hi;subst hi;exact⟨_,XI _ _ at1⟩
    |succ i=>
     obtain⟨j,hj⟩:=hk i kd (by simpa using hi);exact⟨j,by rw[hj];congr 4;omega⟩
theorem block(e:Tm)(sc:Sc):∀(t:Tm)(p:List Nat)(acc:Dp) (rest:List (List Nat×Tm)),e.se p=some t->Good e sc acc->e.post.drop acc.length=t.post.map (λx=>(p++x.1,x.2))++rest->Block e sc p t acc rest:=by
 intro t;induction t using c9.ind with
 |h b o ih=>
  intro p acc rest mW gd hp;have e1:(c9.node b o).post.map (λx=>(p++x.1,x.2))=(et 0 o).map (λx=>(p++x.1,x.2))++[(p,.node b o)]:=by
   rw[c9.post,bI];simp
  rw[e1,bM]at hp;have h1:=JO (t:=.node b o) mW (λu hu q acc rest=>ih u hu q acc rest) o 0 acc _ rfl gd hp;simp only[c9.lO]at h1;unfold Block;rw[kH];cases hc:Ai b (gD e p sc) 0 o with
  |bad n pl d f=>
   rw[hc]at h1;obtain⟨iI,g1,g2⟩:=h1;exact⟨iI,by rw[e1,bM];exact g1,by rw[c9.size];omega⟩
  |ok ks=>
   rw[hc]at h1;obtain⟨iI,g1,Wn,l1,hl,hk,pre⟩:=h1;have Wo:e.post.drop iI.length=[(p,.node b o)]++rest:=by
    have kY:((et 0 o).map (λx=>(p++x.1,x.2))).length=gS o:=by
     have:=cZ (c9.node b o);rw[c9.post,aL,c9.size]at this;simpa using this
    rw[l1,<-List.drop_drop,hp,xN (by omega),kX (by omega)];rfl
   have Fw:e.post[iI.length]?=some (p,.node b o):=by rw[<-yi,Wo];rfl
   obtain⟨o1,o2⟩:=Wn.own Fw;have NV:oM iI p (c9.node b o).own.length=ks:=by
    apply oV;intro j;by_cases hj:j<o.length
    ·obtain⟨kd,j1,r1,r2⟩:=o2 j hj;rw[r2];have hkj:ks[j]?=some ks[j]:=ag (by omega);obtain⟨j2,r3⟩:=hk j _ hkj;rw[jD]at r3;have f1:=find_key Wn.nodup r1;have f2:=find_key Wn.nodup r3;simp only at f1 f2;rw[f1]at f2;rw[hkj];exact congrArg some (congrArg Prod.snd (bE f2))
    ·rw[fB (by rw[o1];exact xH hj),fB (by omega)]
   have Eu:Dn e sc iI ((p,.node b o)::rest)=match eZ b ks (gD e p sc)with
    |some br=>(iI,some (p++br.1,br.2))
    |none=>Dn e sc (iI++[(p,j8 b ks (gD e p sc))]) rest:=by rw[Dn,NV];rfl
   have g2:Dn e sc acc ((c9.node b o).post.map (λx=>(p++x.1,x.2))++rest)=Dn e sc iI ((p,.node b o)::rest):=by rw[e1,bM];exact g1
   simp only;cases hb:eZ b ks (gD e p sc)with
   |some br=>
    rw[hb]at Eu;exact⟨iI,by rw[g2,Eu],by rw[c9.size];omega⟩
   |none=>
    rw[hb]at Eu;have NU:=Wn.snoc Fw (by show eZ b _ _=none;rw[NV];exact hb);rw[NV]at NU;refine⟨iI++[(p,j8 b ks (gD e p sc))],by rw[g2,Eu],NU,by simp[l1,c9.size];omega,?_,λj x h=>?_⟩
    ·rw[c9.size,show acc.length + (gS o+1) - 1=iI.length from by omega];simp
    ·have h2:=pre j x h;rw[aK (ak.mp h2).1];exact h2
theorem Mh(e:Tm)(sc:Sc):match ck sc e with
  |.ok k=>(kG e sc).2=none/\(kG e sc).1.length=e.size/\(kG e sc).1[e.size - 1]?=some ([],k)
  |.bad r pl d f=>(kG e sc).2=some (pl,d,f)/\(kG e sc).1.length + r=e.size:=by
 have h:=block e sc e [] [] [] (kA e) Good.nil (by simp);unfold Block at h;rw[pk]at h;have e1:kG e sc=Dn e sc [] (e.post.map (λx=>([]++x.1,x.2))++[]):=by unfold kG;simp
 cases hc:ck sc e with
 |ok k=>
  rw[hc]at h;obtain⟨iI,g1,_,l1,a1,_⟩:=h;rw[<-e1]at g1;have g2:kG e sc=(iI,none):=g1;rw[g2];exact⟨rfl,by simpa using l1,by simpa using a1⟩
 |bad r pl d f=>
  rw[hc]at h;obtain⟨iI,g1,l1⟩:=h;rw[<-e1]at g1;rw[g1];exact⟨by simp,by simpa using l1⟩
theorem Cv{b:Lb}{sc:Sc}(h:eZ b [] sc=none):ck sc (.node b []) = .ok (j8 b [] sc):=by rw[kH,lQ];simp only;rw[h]
theorem Ii{b:Lb}{sc:Sc}:∀{o:List Tm}{i:Nat}{ks:List Kd},Ai b sc i o = .ok ks->ks.length=o.length
 |[],i,ks,h=>by rw[lQ]at h;cases h;rfl
 |t::o,i,ks,h=>by
  rw[gT]at h;cases hc:ck (ua b i sc) t with
  |ok k=>
   rw[hc]at h;simp only at h;cases Dl:Ai b sc (i+1) o with
   |ok ks'=>rw[Dl]at h;cases h;simp[Ii Dl]
   |bad n We d' f'=>rw[Dl]at h;cases h
  |bad n We d' f'=>rw[hc]at h;cases h
theorem Mi{b:Lb}{sc:Sc}:∀{o:List Tm}{i:Nat}{ks:List Kd},ks.length=o.length->(∀(j:Nat) t k,o[j]?=some t->ks[j]?=some k->ck (ua b (i + j) sc) t = .ok k)->Ai b sc i o = .ok ks
 |[],i,[],_,_=>lQ _ _ _
 |[],i,_::_,h,_=>by simp at h
 |_::_,i,[],h,_=>by simp at h
 |t::o,i,k::ks,h,hk=>by
  rw[gT,show ck (ua b i sc) t = .ok k from hk 0 t k rfl rfl,Mi (by simpa using h) λj u m h1 h2=>by
   have:=hk (j+1) u m (by simpa using h1) (by simpa using h2)
   rwa[show i + (j+1)=i+1 + j from by omega]at this]
theorem O7{e:Tm}{sc:Sc}{rows:Dp}(h:Good e sc rows):∀(k:Nat) x t,rows[k]?=some x->e.post[k]?=some (x.1,t)->ck (gD e x.1 sc) t = .ok x.2:=by
 intro k;induction k using qT with
 |ind k ih=>
  intro x t hx ht;obtain⟨t',e1,hb,hk⟩:=h k x hx;rw[ht]at e1;cases e1;have Wp:k<rows.length:=(ak.mp hx).1;have hlen:(rows.take k).length=k:=by rw[gB];omega
  obtain⟨o1,o2⟩:=(h.take k).own (p:=x.1) (t:=t) (by rw[hlen];exact ht);have mW:=pY e _ (aI ht);simp only at mW;obtain⟨b,o⟩:=t;have Sq:Ai b (gD e x.1 sc) 0 o = .ok (oM (rows.take k) x.1 (c9.node b o).own.length):=by
   refine Mi o1 λj u kd hu hkd=>?_;rw[jD];have hjl:j<o.length:=(ak.mp hu).1;obtain⟨kd',j',r1,r2⟩:=o2 j hjl;rw[hkd]at r2;cases r2;rw[nK]at r1;by_cases i9:j'<k
   ·rw[if_pos i9]at r1;obtain⟨v,a,_⟩:=h j' _ r1;simp only at a;have hau:=pY e _ (aI a);simp only at hau;rw[uV,mW]at hau;have XJ:o[j]?=some v:=hau;rw[hu]at XJ;cases XJ;have:=ih j' i9 _ u r1 a;simp only at this;rwa[vX mW hu]at this
   ·rw[if_neg i9]at r1;cases r1
  rw[kH,Sq];simp only[c9.lO]at hb hk;simp only;rw[hb,<-hk]
end Wk
namespace L2
open PySem PySem.Spec PyProof.Rows PySem.W
section
variable {X:Cx}{ρ:List Sl}{e a b c tg:bc}{r ra rb:Sl}{p pos p2 p3:Pos}{d:aq}{xs:List aq}{Q:Out->Prop}{rest:List b9}
theorem GO{i:Int}(ha:VE X ρ a (.d (.int i))):VE X ρ (.UnaryOp .USub a pos) (.d (.int (-i))):=PE.weak (KI FO ha) (by rintro σ H Q ⟨er,q⟩;exact ⟨er,λv H1 s1 r1=>⟨i,eK.cP r1,q _ H1 s1 eK.int⟩⟩)
end
end L2
namespace Wk
open PySem L2
end Wk
namespace L2
open PySem PySem.Spec PyProof.Rows
end L2
namespace Wk
open PySem L2 PySem.Spec PyProof.Rows
section
variable {X:Cx}{ρ:List Sl}{a:bc}{ra:Sl}{pos:Pos}
theorem Mj{j:Nat}{p2:Pos}(ha:VE X ρ a ra)(hu:ra≠.un/\∀P,ra≠.h P:=by first|exact En|exact HV|exact HW):VE X ρ (.Compare a [.Is] [.Constant .none j p2] pos) (.d (.bool ra.XC)):=
 vV KN ha (yS (j:=j) (pos:=p2)) (λH x y Q rx ry q=>⟨fV.vR ry,by rw[Cn rx hu];exact q _ H (bK.refl H) eK.bool⟩) (gP _)
end
end Wk
namespace L2
open PySem PySem.Spec PyProof.Rows
section
variable {X:Cx}
variable {ρ:List Sl}
theorem Ij{a b:bc}{x y:Str}{pos:Pos}(ha:VE X ρ a (.d (.str x)))(hb:VE X ρ b (.d (.str y))):VE X ρ (.Compare a [.Eq] [b] pos) (.d (.bool (decide (x=y)))):=
 vV yt ha hb (λH u w Q rx ry q=>by
  obtain rfl:=fV.cY rx;obtain rfl:=fV.cY ry;refine⟨rfl,?_⟩
  rw[show decide (V.str x=V.str y)=decide (x=y)from by simp];exact q _ H (bK.refl H) eK.bool) (gP _)
end
end L2
namespace Wk
open PySem L2 PySem.Spec PyProof.Rows
end Wk
namespace L2
open PySem PySem.Spec PyProof.Rows
section
variable {X:Cx}{ρ:List Sl}{e:bc}{es:List bc}{pos p p2:Pos}{d:aq}{ds:List aq}{C:aj}{fds:List (Str×aq)}{f:Str}
noncomputable def DTy(K:aa)(d:aq)(t:ah):Prop:=∀H v,Rep K H d v->Qw K H v t
theorem Ik{K:aa}{i:Int}:DTy K (.int i) (.type "int"):=λH v h=>by rw[Rep]at h;subst h;exact .of (.int i)
theorem Cw:mS X (.builtin "isinstance") (λxs H Q=>∃x C t b,xs=[x,.ref C]/\Qw X.K H x t/\gA X.K t (.ref C)=some b/\Q (.bl b) H):=by
 intro pins s σ H xs us Q I r h;obtain⟨x,T,t,b,rfl,ty,e,q⟩:=h;obtain⟨u,w',rfl,rx,rt⟩:=vals2 r;cases rt;cases ty with
 |of ty=>exact AU I rx ty e λtk=>⟨.bl b,H,I.tok _,rfl,q⟩
 |sqT hq=>
  cases rx;obtain⟨cq,_,⟨o,h1,h2,_⟩,_⟩:=I.tuple hq;exact cT sY I.uA ⟨o,h1,h2⟩ e (λz=>nomatch z) λtk=>⟨.bl b,H,I.tok _,rfl,q⟩
 |Y1 hq=>
  cases rx;obtain⟨cq,_,⟨o,n,h1,h2,_⟩,_⟩:=I.list hq;exact cT nC I.uA ⟨o,h1,h2⟩ e (λz=>nomatch z) λtk=>⟨.bl b,H,I.tok _,rfl,q⟩
theorem Tq{x:Str}{t:ah}{k:Bool}(hm:X.mg "isinstance"=none)(hmC:X.mg x=some (.ref C))(ty:DTy X.K d t)(hk:gA X.K t (.ref C)=some k)(he:VE X ρ e (.d d))(hg:Gl X "isinstance":=by rfl)(hgC:Gl X x:=by rfl)(hd:(x==("__debug__":Str))=false:=by decide)(hs:ao [e,.Name x p2] X.env=(false,eval e X.env)::ao [.Name x p2] X.env:=by rfl):VE X ρ (.Call (.Name "isinstance" p) [e,.Name x p2] [] pos) (.d (.bool k)):=
 PE.weak (gf (Cw (X:=X)) hg hm boot_isinstance (aO he (aO (xR hgC hmC (show RelV (.ref C) (.ref C)from rfl) hd) bD) hs) (by decide) (by decide) hs) (by rintro σ H Q ⟨er,q⟩;exact ⟨er,λv H1 s1 r1=>⟨v,C,t,k,rfl,ty H1 v r1,hk,q _ H1 s1 eK.bool⟩⟩)
theorem y9{x:Str}{T:String}{t:ah}{k:Bool}(hm:X.mg "isinstance"=none)(Xe:X.mg x=none)(hv:bootBuiltins x=some (.type T))(ty:DTy X.K d t)(hk:gA X.K t (.type T)=some k)(he:VE X ρ e (.d d))(hg:Gl X "isinstance":=by rfl)(Xd:Gl X x:=by rfl)(hn:x≠"__name__":=by decide)(hd:(x==("__debug__":Str))=false:=by decide)(hs:ao [e,.Name x p2] X.env=(false,eval e X.env)::ao [.Name x p2] X.env:=by rfl):VE X ρ (.Call (.Name "isinstance" p) [e,.Name x p2] [] pos) (.d (.bool k)):=
 PE.weak (A9 hg hm Xd Xe hv he hn hd hs) (by rintro σ H Q ⟨er,q⟩;exact ⟨er,λv H1 s1 r1=>⟨v,T,t,k,rfl,ty H1 v r1,hk,q _ H1 s1 eK.bool⟩⟩)
end
noncomputable def DX(K:aa)(Φ:Hp->St->Prop)(H0:Hp)(hs:List (V×Sl))(Q:Out->Prop):Ends where
 nx:=λσ H=>∃ρ,Q (.nx ρ)/\Φ H0 σ/\ER K H0 hs ρ σ H
 bk:=λσ H=>∃ρ,Q (.bk ρ)/\Φ H0 σ/\ER K H0 hs ρ σ H
 ct:=λσ H=>∃ρ,Q (.ct ρ)/\Φ H0 σ/\ER K H0 hs ρ σ H
 rt:=λv H=>∃r,Q (.rt r)/\bK H0 H/\eK K H0 H r v
noncomputable def tXS(K:aa)(Φ:Hp->St->Prop)(ρ:List Sl)(Q:Out->Prop):TS:=λD σ H=>∃H0 hs,Φ H0 σ/\ER K H0 hs ρ σ H/\(DX K Φ H0 hs Q).le D
noncomputable def VX(X:Cx)(Φ:Hp->St->Prop)(ss:List b9)(ρ:List Sl)(Q:Out->Prop):Prop:=qD X ss (tXS X.K Φ ρ Q)
noncomputable def Ew(X:Cx)(Φ:Hp->St->Prop)(rest:List b9)(Q:Out->Prop):Out->Prop
 |.nx ρ=>VX X Φ rest ρ Q
 |o=>Q o
noncomputable def AF(K:aa)(R:List Sl->Sl ⊕ aj->Prop):Sp:=λvs H Q E=>∃as o,mx K H as vs/\R as o/\(∀r,o = .inl r->∀v H',bK H H'->eK K H H' r v->Q v H')/\∀C,o = .inr C->∀H',bK H H'->E (.ref C) none H'
section
variable {X:Cx}{Φ:Hp->St->Prop}{E:XK}{ρ eM:List Sl}{e a b c:bc}{es:List bc}{r ra rb:Sl}{pos p p2 p3:Pos}{d:aq}{ds:List aq}{rs:List Sl}{Q Q':Out->Prop}{rest:List b9}{st:b9}{o:Sl ⊕ aj}
theorem Tr(h:Q (.nx ρ)):VX X Φ [] ρ Q:=qD.weak jN (by rintro D σ H ⟨H0,hs,φ,er,l⟩;exact l.nx σ H ⟨ρ,h,φ,er⟩)
theorem Ey{t:TS}(h:PS X st t)(w:∀H0 hs D σ H,Φ H0 σ->ER X.K H0 hs ρ σ H->(DX X.K Φ H0 hs (Ew X Φ rest Q)).le D->t D σ H):VX X Φ (st::rest) ρ Q:=by
 refine qD.weak (cE (u:=λD σ H=>∃eM H0 hs,Φ H0 σ/\ER X.K H0 hs eM σ H/\(DX X.K Φ H0 hs Q).le D/\VX X Φ rest eM Q) h ?_) λD σ H ⟨H0,hs,φ,er,l⟩=>w H0 hs _ σ H φ er ⟨?_,λv H q=>l.rt v H q,λσ H q=>l.bk σ H q,λσ H q=>l.ct σ H q⟩
 ·rintro pins s σ H D I ⟨eM,H0,hs,φ,er,l,v⟩;exact v pins s σ H D I ⟨H0,hs,φ,er,l⟩
 ·rintro dI H' ⟨eM,q,XM,e⟩;exact⟨eM,H0,hs,XM,e,l,q⟩
theorem GP(h:VE X ρ e r)(q:Q (.rt r)):VX X Φ (.Return (some e) pos::rest) ρ Q:=
 Ey (iq h) λH0 hs D σ H φ er l=>⟨⟨H0,hs,er⟩,λv H' s rv=>l.rt v H' ⟨r,q,er.same.trans s,rv.since er.same⟩⟩
theorem QT{A B:List b9}{k:Bool}(hc:VT X ρ c k)(ha:k=true->VX X Φ A ρ (Ew X Φ rest Q))(hb:k=false->VX X Φ B ρ (Ew X Φ rest Q)):VX X Φ (.If c A B pos::rest) ρ Q:=by
 cases k with
 |true=>exact Ey (j7 (u:=tV) hc (ha rfl) gz) λH0 hs D σ H φ er l=>⟨⟨H0,hs,er⟩,λH' s=>uT ⟨H0,hs,φ,er.grow s,l⟩⟩
 |false=>exact Ey (j7 (t:=tV) hc gz (hb rfl)) λH0 hs D σ H φ er l=>⟨⟨H0,hs,er⟩,λH' s=>qJ ⟨H0,hs,φ,er.grow s,l⟩⟩
noncomputable def Kept(Φ:Hp->St->Prop)(i:Nat):Prop:=∀H0 σ v,Φ H0 σ->Φ H0 (σ.set i (some v))
theorem Ts{i:Nat}{x:Str}(nd:X.N.Nodup)(hi:sU x X.N 0=some i)(kp:Kept Φ i)(h:VE X ρ e (.d d))(k:VX X Φ rest (ρ.set i (.d d)) Q)(hx:Loc X.env.scope x:=by exact cm rfl)(hs:dF e (some (.Name x p2)) pos.line X.env=pure false:=by rfl)(hf:X.fn x=true\/X.env.scope.names.lookup x=some .local:=by first|exact .inl rfl|exact .inr rfl|assumption):VX X Φ (.Assign [.Name x p2] e pos::rest) ρ Q:=
 Ey (gO nd (ic hi) hx h hs hf) λH0 hs D σ H φ er l=>⟨⟨H0,hs,er⟩,λv H' s rv=>l.nx _ _ ⟨_,k,kp _ _ _ φ,(er.grow s).vT rv⟩⟩
theorem Mk{C:aj}{x:Str}{cI:Pos}{y:Str}{j:Nat}(R:sf X E)(cx:Eg X.K X.mg x C)(hE:∀H0 σ,Φ H0 σ->∀H',bK H0 H'->E (.ref C) none H')(hg:Gl X x:=by rfl)(qX:(x==("__debug__":Str))=false:=by decide)(he:ao [.Constant (.str y) j p3] X.env=(false,eval (.Constant (.str y) j p3) X.env)::ao [] X.env:=by rfl)(kY:(cG cI (ao [] X.env)).any (·.1)=false:=by rfl):
  VX X Φ (.Raise (some (.Call (.Name x p) [.Constant (.str y) j p3] [] cI)) none pos::rest) ρ Q:=
 Ey (Eh R cx hg (aO tU bD he) qX he kY) λH0 hs D σ H φ er l=>⟨by show 1<=1000;decide,hE H0 σ φ H er.same⟩
noncomputable def tMA(K:aa)(Φ:Hp->St->Prop)(ρ eM:List Sl)(ds:List aq):TA:=λσ H Q=>∃H0 hs,Φ H0 σ/\ER K H0 hs ρ σ H/\∀vs H',bq K H H'->ER K H0 hs eM σ H'->bB K H' ds vs->Q vs H'
noncomputable def Zj(X:Cx)(Φ:Hp->St->Prop)(ρ:List Sl)(es:List bc)(ds:List aq)(eM:List Sl):Prop:=PA X es (tMA X.K Φ ρ eM ds)
end
end L2
namespace Wk
open PySem L2 PySem.Spec PyProof.Rows
end Wk
namespace L2
open PySem PySem.Spec PyProof.Rows
theorem Rep.za{K:aa}{H:Hp}{ds:List aq}{v:V}(h:Rep K H (.list ds) v):∃a o vs,v = .ref a/\H a=some (.pS o (.lst vs))/\bB K H ds vs:=by rw[Rep]at h;exact h
theorem Rep.list{K:aa}{H:Hp}{ds:List aq}{a:aj}{o:Obj}{vs:List V}(h:H a=some (.pS o (.lst vs)))(r:bB K H ds vs):Rep K H (.list ds) (.ref a):=by rw[Rep];exact⟨a,o,vs,rfl,h,r⟩
section
variable {X:Cx}{pins:List (aj×Obj)}{σ:St}{H:Hp}{s:ai}
theorem Inv.O8{a:aj}{vs:List V}(I:Inv X pins σ H s)(h:H a=some (.lst vs)):∃o,Inv X pins σ (upd H a (.pS o (.lst vs))) s:=by
 have hx:=I.dS a _ h;obtain⟨z,cq,n,r,e⟩:=id hx;refine⟨{cls:=.type "list",data:=.seq cq.toArray n},?_⟩
 have:=I.un (h':=s.heap) (t':=s.toks) (H':=upd H a (.pS {cls:=.type "list",data:=.seq cq.toArray n} (.lst vs))) ⟨λb o q _ _ _=>q,λb o q _ _ _=>⟨o.slots,q⟩,λb o q hb _=>by rw[bP (λz=>by rw[z,h]at hb;cases hb)];exact hb,λb o q _=>⟨o,q⟩,
  λb xs q=>by rw[bP (qV q h (by intro z;cases z))];exact q,λb o u q=>by rw[bP (qV q h (by intro z;cases z))];exact q,λb ps q=>⟨#[],by rw[bP (qV q h (by intro z;cases z)),q];simp⟩⟩ ?_
 ·exact this
 ·intro b o q;have key:∀{b o},H b=some o->fR X.prog X.w (upd H a (.pS {cls:=.type "list",data:=.seq cq.toArray n} (.lst vs))) s.heap b o:=λ{b o} q=>
   (I.dS b o q).vE (λ_ _ _ q=>q) (λc q=>by rw[bP (qV q h (by intro z;cases z))];exact q) λc xs q=>by rw[bP (qV q h (by intro z;cases z))];exact q
  by_cases hb:b=a
  ·subst hb;rw[aW]at q;cases q;exact⟨e,key h⟩
  ·rw[bP hb]at q;exact key q
variable {ρ:List Sl}{e:bc}{es:List bc}{r:Sl}{pos p p2 p3:Pos}{d:aq}{ds xs:List aq}{rs:List Sl}{tg:bc}
variable {Q:Out->Prop}{rest:List b9}
end
section
variable {X:Cx}{ρ:List Sl}{a e c:bc}{pos p p2:Pos}{Q:Out->Prop}{rest:List b9}
theorem Bo{K:aa}{H:Hp}:∀(ns:List Int),bB K H (ns.map eJ) (ns.map V.int)
 |[]=>.nil
 |n::ns=>.cons (.int n) (Bo ns)
theorem Ez{ns:List Int}{lo hi:Option bc}{i j:Option Int}(ha:VE X ρ a (.h (lB X.K ns)))(hl:VO X ρ lo i)(hh:VO X ρ hi j):VE X ρ (.Subscript a (.Slice lo hi none p2) pos) (.o (cutD (ns.map .int) i j)):=
 PE.weak (pf HD ha hl hh) λσ H Q ⟨er,q⟩=>⟨er,λx H1 s1 r1=>⟨dC er s1,λH2 s2=>⟨dC er (s1.trans s2),λH3 s3=>by
  obtain⟨p,rfl,hq⟩:=(r1.rd.mono (s2.trans s3):fV X.K H3 (.h (lB X.K ns)) x);refine⟨p,_,rfl,hq.sq,λc hc=>q _ _ ((s1.trans (s2.trans s3)).trans (bu hc _)) ⟨c,rfl,(s1.trans (s2.trans s3)).free hc,_,aW,?_⟩⟩
  exact yT (Bo ns) i j⟩⟩⟩
theorem JP{ns:List Int}(hm:X.mg "len"=none)(he:VE X ρ e (.h (lB X.K ns)))(hg:Gl X "len":=by rfl)(hs:ao [e] X.env=[(false,eval e X.env)]:=by rfl):VE X ρ (.Call (.Name "len" p) [e] [] pos) (.d (.int (ns.length:Nat))):=
 PE.weak (gf eY hg hm eA (aO he bD hs) (by decide) (by decide) hs) (by rintro σ H Q ⟨er,q⟩;exact ⟨er,λv H1 s1 r1=>by
  obtain⟨a,rfl,hq⟩:=(r1.rd:fV X.K H1 (.h (lB X.K ns)) v)
  exact⟨a,_,rfl,.inl hq.sq,by rw[ay];exact q _ H1 s1 eK.int⟩⟩)
theorem JQ(ns:List Int)(lo hi:Option Int):∃cs:List Int,cutD (ns.map eJ) lo hi=cs.map .int/\cs.length<=ns.length/\∀c∈cs,c∈ns:=by
 refine⟨(ns.drop (HT.jw (ns.map eJ).length 0 lo)).take (HT.jw (ns.map eJ).length (ns.map eJ).length hi - HT.jw (ns.map eJ).length 0 lo),?_,?_,?_⟩
 ·unfold cutD;rw[List.map_take,List.map_drop]
 ·rw[gB,pM];omega
 ·intro c hc;exact List.mem_of_mem_drop (FC hc)
end
end L2
namespace Wk
open PySem L2 PySem.Spec PyProof.Rows
noncomputable def XN:List Sl->Sl->Prop:=λas r=>∃i:Int,as=[.d (.int i)]/\r = .d (.bool true)
noncomputable def XO(K:aa):List Sl->Sl->Prop:=λas r=>∃(ns:List Int)(k:Nat),as=[.h (lB K ns),.d (.int (k:Int))]/\r = .d (.int (ns.getD k 0))
end Wk
namespace L2
open PySem PySem.Spec PyProof.Rows
noncomputable def Sl.Ml:Sl->Option (List aq)
 |.l xs=>some xs
 |.o xs=>some xs
 |.d (.list xs)=>some xs
 |_=>none
theorem fV.Tt{K:aa}{H:Hp}{r:Sl}{v:V}{xs:List aq}(h:fV K H r v)(e:r.Ml=some xs):∃a vs,v = .ref a/\Rd H a (.lst vs)/\bB K H xs vs:=by
 cases r with
 |un=>cases e
 |d x=>
  cases x with
  |list ys=>cases e;obtain⟨a,o,vs,rfl,h1,h2⟩:=Rep.za (K:=K) (H:=H) h;exact⟨a,vs,rfl,.inr ⟨o,h1⟩,h2⟩
  |_=>cases e
 |l ys=>cases e;obtain⟨a,e,vs,q1,q2⟩:=h;exact⟨a,vs,e,.inl q1,q2⟩
 |o ys=>cases e;obtain⟨a,e,vs,q1,q2⟩:=h;exact⟨a,vs,e,.inl q1,q2⟩
 |h P=>cases e
section
variable {X:Cx}{ρ:List Sl}{a b e:bc}{ra rb:Sl}{pos p p2:Pos}{d:aq}{xs ys:List aq}
theorem Tu{i:Int}(ha:VE X ρ a ra)(hb:VE X ρ b (.d (.int i)))(ea:ra.Ml=some xs)(h:oZ xs i=some d)(hs:nX b:=by exactλ_ _=>rfl):VE X ρ (.Subscript a b pos) (.d d):=
 PE.weak (eO mw ha hb hs) λσ H Q ⟨er,q⟩=>⟨er,λx H1 s1 r1=>⟨dC er s1,λy H2 s2 r2=>by
  obtain⟨p,vs,rfl,hq,rp⟩:=(r1.rd.mono s2).Tt ea;obtain rfl:=eK.cP r2;obtain⟨j,h1,h2,h3,h4,h5⟩:=nW h;obtain⟨z,hz,rz⟩:=rp.get h2;refine⟨p,vs,i,z,rfl,rfl,.inl hq,?_,q z H2 (s1.trans s2) rz⟩;unfold oZ at h ⊢;rw[rp.length];cases q:Jn xs.length i with
  |none=>rw[q]at h;cases h
  |some k=>
   have hk:=(r8 q).1;rw[h1]at hk;cases hk
   exact hz⟩⟩
theorem O9(hm:X.mg "len"=none)(he:VE X ρ e ra)(ea:ra.Ml=some xs)(hg:Gl X "len":=by rfl)(hs:ao [e] X.env=[(false,eval e X.env)]:=by rfl):VE X ρ (.Call (.Name "len" p) [e] [] pos) (.d (.int (xs.length:Nat))):=
 PE.weak (gf eY hg hm eA (aO he bD hs) (by decide) (by decide) hs) (by rintro σ H Q ⟨er,q⟩;exact ⟨er,λv H1 s1 r1=>by
  obtain⟨a,vs,rfl,hq,rp⟩:=r1.rd.Tt ea
  exact⟨a,vs,rfl,.inl (.inl hq),by rw[rp.length];exact q _ H1 s1 eK.int⟩⟩)
end
end L2
namespace Wk
open PySem L2 PySem.Spec PyProof.Rows
end Wk
namespace L2
open PySem PySem.Spec PyProof.Rows
end L2
namespace Wk
open PySem L2 PySem.Spec PyProof.Rows
end Wk
namespace L2
open PySem PySem.Spec PyProof.Rows
end L2
namespace Wk
open PySem L2 PySem.Spec PyProof.Rows
end Wk
namespace L2
open PySem PySem.Spec PyProof.Rows
section
variable {K:aa}{H0 H H':Hp}{hs:List (V×Sl)}{ρ eM:List Sl}{σ:St}
theorem ER.XQ(er:ER K H0 hs ρ σ H)(L:Nat->Prop)(hl:eM.length=ρ.length)(Dm:∀i,L i->∃xs ys a,ρ[i]?=some (.o xs)/\σ[i]?=some (some (.ref a))/\eM[i]?=some (.o ys)/\sj K H' a ys)(Lc:∀i,¬L i->eM[i]?=ρ[i]?)(off:∀b o,(∀i,L i->σ[i]?≠some (some (.ref b)))->H b=some o->H' b=some o):ER K H0 hs eM σ H':=by
 have Tv:∀i,L i->∀a,σ[i]?=some (some (.ref a))->(∃vs,H a=some (.lst vs))/\H0 a=none:=λi li a e=>by
  obtain⟨xs,ys,a',h1,h2,h3,h4⟩:=Dm i li;obtain⟨b,g1,⟨vs,g2,_⟩,g3⟩:=er.own i xs h1;rw[e]at g1;cases g1;exact⟨⟨vs,g2⟩,g3⟩
 have keep:∀b o,(∀xs,o≠.lst xs)->H b=some o->H' b=some o:=λb o n e=>off b o (λi li z=>by
  obtain⟨⟨vs,q⟩,_⟩:=Tv i li b z
  rw[e]at q;cases q;exact n _ rfl) e
 have ext:Ext H H':=λb o h n=>keep b o n h;have tl:bq K H H':=bq.oI ext;have Zk:∀a xs,(∀i,L i->σ[i]?≠some (some (.ref a)))->sj K H a xs->sj K H' a xs:=(by rintro a xs n ⟨vs,e,q⟩;exact ⟨vs,off a _ n e,bB.mono tl _ _ q⟩);have back:∀{i:Nat}{r:Sl},eM[i]?=some r->(L i/\∃ys,r = .o ys)\/(¬L i/\ρ[i]?=some r):=λ{i r} e=>by
  by_cases li:L i
  ·obtain⟨xs,ys,a,_,_,h3,_⟩:=Dm i li;rw[h3]at e;cases e;exact .inl ⟨li,ys,rfl⟩
  ·rw[Lc i li]at e;exact .inr ⟨li,e⟩
 have oo:∀{i:Nat}{ys:List aq},eM[i]?=some (.o ys)->∃xs,ρ[i]?=some (.o xs):=λ{i ys} e=>by
  by_cases li:L i
  ·obtain⟨xs,_,_,h1,_⟩:=Dm i li;exact⟨xs,h1⟩
  ·rw[Lc i li]at e;exact⟨ys,e⟩
 refine⟨λb o e=>off b o (λi li z=>by rw[(Tv i li b z).2]at e;cases e) (er.same b o e),by rw[hl];exact er.len,λi x q=>?_,λi x q=>?_,λi x q=>?_,λi x q=>?_,λi j a xs ys q1 q2 q3=>?_,λi j a xs ys n q1 q2 q3=>?_,λp hp=>?_,λi xs a q1 q2=>?_⟩
 ·rcases back q with⟨_,ys,z⟩|⟨_,q⟩
  ·cases z
  ·obtain⟨v,h1,h2⟩:=er.dat i x q;exact⟨v,h1,Rep.mono tl _ _ h2⟩
 ·rcases back q with⟨_,ys,z⟩|⟨_,q⟩
  ·cases z
  ·obtain⟨a,h1,h2⟩:=er.lst i x q;exact⟨a,h1,Zk a x (λj lj z=>by obtain⟨xs,_,_,g1,_⟩:=Dm j lj;exact er.sS j i a xs x g1 q z h1) h2⟩
 ·rcases back q with⟨_,ys,z⟩|⟨_,q⟩
  ·cases z
  ·obtain⟨v,h1,h2⟩:=er.Kr i x q;exact⟨v,h1,x.mono _ _ _ ext h2⟩
 ·rcases back q with⟨li,ys,z⟩|⟨ni,q⟩
  ·cases z;obtain⟨xs,Wh,a,h1,h2,h3,h4⟩:=Dm i li;rw[q]at h3;cases h3;exact⟨a,h2,h4,(Tv i li a h2).2⟩
  ·obtain⟨a,h1,h2,h3⟩:=er.own i x q;exact⟨a,h1,Zk a x (λj lj z=>by obtain⟨xs,_,_,g1,_⟩:=Dm j lj;exact er.rj j i a xs x (λe=>ni (e ▸ lj)) g1 q z h1) h2,h3⟩
 ·obtain⟨OK,e1⟩:=oo q1;rcases back q2 with⟨_,_,z⟩|⟨_,q2⟩
  ·cases z
  ·exact er.sS i j a OK ys e1 q2 q3
 ·obtain⟨OK,e1⟩:=oo q1;obtain⟨Wh,e2⟩:=oo q2;exact er.rj i j a OK Wh n e1 e2 q3
 ·have hh:=er.held p hp;obtain⟨pv,ps⟩:=p;have ne:∀zs,ps.cq=some zs->∀i,L i->∀b,pv = .ref b->σ[i]?≠some (some (.ref b)):=λzs hz i li b e z=>by
   obtain⟨xs,_,_,g1,_⟩:=Dm i li;exact er.sT i xs b g1 z _ hp zs hz e
  cases ps with
  |un=>trivial
  |d x=>exact Rep.mono tl _ _ hh
  |l zs=>obtain⟨b,rfl,q⟩:=hh;exact⟨b,rfl,Zk b zs (λi li=>ne zs rfl i li b rfl) q⟩
  |o zs=>obtain⟨b,rfl,q⟩:=hh;exact⟨b,rfl,Zk b zs (λi li=>ne zs rfl i li b rfl) q⟩
  |h P=>exact P.mono _ _ _ ext hh
 ·obtain⟨OK,e1⟩:=oo q1;exact er.sT i OK a e1 q2
theorem ER.QU{i:Nat}{a:aj}{xs ys:List aq}(er:ER K H0 hs ρ σ H)(hi:ρ[i]?=some (.o xs))(ha:σ[i]?=some (some (.ref a)))(off:∀b o,b≠a->H b=some o->H' b=some o)(h:sj K H' a ys):ER K H0 hs (ρ.set i (.o ys)) σ H':=by
 have li:i<ρ.length:=(ak.mp hi).1;refine er.XQ (λj=>j=i) (by rw[fq]) (λj e=>?_) (λj n=>?_) (λb o n e=>off b o (λz=>n i rfl (by rw[z];exact ha)) e)
 ·subst e;exact⟨xs,ys,a,hi,ha,oJ li,h⟩
 ·rw[jd,if_neg (λz=>n z.symm)]
open Classical in
noncomputable def xy(A:aj->Prop)(H:Hp):Hp:=λb=>if A b then none else H b
theorem JR{A:aj->Prop}:bK (xy A H) H:=λb o e=>by
 unfold xy at e;by_cases z:A b
 ·rw[if_pos z]at e;cases e
 ·rwa[if_neg z]at e
theorem Pa{A:aj->Prop}{b:aj}(z:A b):xy A H b=none:=by unfold xy;rw[if_pos z]
theorem Pb{A:aj->Prop}{b:aj}{o:HO}(z:¬A b)(e:H b=some o):xy A H b=some o:=by unfold xy;rw[if_neg z];exact e
noncomputable def Mm(as:List Sl)(vs:List V)(b:aj):Prop:=∃(i:Nat)(xs:List aq),as[i]?=some (Sl.o xs)/\vs[i]?=some (V.ref b)
theorem JS{as:List Sl}{vs:List V}{N:List Str}(h:mx K H as vs)(nol:∀r∈as,∀xs,r≠.l xs)(ap:∀(i j:Nat) a xs ys,i≠j->as[i]?=some (.o xs)->as[j]?=some (.o ys)->vs[i]?=some (.ref a)->vs[j]?≠some (.ref a)):
  ER K (xy (Mm as vs) H) [] (as++eC (N.length - as.length) .un) (start N vs) H:=by
 have hl:=h.length;have Tw:∀{i:Nat}{r:Sl},(as++eC (N.length - as.length) Sl.un)[i]?=some r->r≠.un->as[i]?=some r/\∃v,vs[i]?=some v/\(start N vs)[i]?=some (some v)/\fV K H r v:=by
  intro i r q nu;by_cases hi:i<as.length
  ·rw[aK hi]at q;obtain⟨v,h1,h2⟩:=h.get q;refine⟨q,v,h1,?_,h2⟩;unfold start;rw[aK (by rw[ay,hl];exact hi),aw,h1];rfl
  ·rw[aP (by omega)]at q;exact absurd (uE.mp (aI q)).2 nu
 have vat:∀{i:Nat}{r:Sl}{a:aj},as[i]?=some r->(start N vs)[i]?=some (some (V.ref a))->vs[i]?=some (.ref a):=λ{i r a} e1 e2=>by
  have hi:i<as.length:=(ak.mp e1).1;unfold start at e2;rw[aK (by rw[ay,hl];exact hi),aw]at e2;cases q:vs[i]? with
  |none=>rw[q]at e2;cases e2
  |some v=>rw[q]at e2;cases e2;rfl
 refine⟨JR,by unfold start;simp[hl],λi x q=>?_,λi xs q=>?_,λi P q=>?_,λi xs q=>?_,λi j a xs ys _ q2=>?_,λi j a xs ys n q1 q2 q3 q4=>?_,λp hp=>(nomatch hp),λi xs a _ _ p hp=>nomatch hp⟩
 ·obtain⟨_,v,_,h2,h3⟩:=Tw q (λz=>nomatch z);exact⟨v,h2,h3⟩
 ·obtain⟨h1,_⟩:=Tw q (λz=>nomatch z);exact absurd rfl (nol _ (aI h1) xs)
 ·obtain⟨_,v,_,h2,h3⟩:=Tw q (λz=>nomatch z);exact⟨v,h2,h3⟩
 ·obtain⟨h1,v,h2,h3,a,rfl,h4⟩:=Tw q (λz=>nomatch z);exact⟨a,h3,h4,Pa ⟨i,xs,h1,h2⟩⟩
 ·obtain⟨h1,_⟩:=Tw q2 (λz=>nomatch z);exact absurd rfl (nol _ (aI h1) ys)
 ·have e1:=(Tw q1 (λz=>nomatch z)).1;have e2:=(Tw q2 (λz=>nomatch z)).1;exact ap i j a xs ys n e1 e2 (vat e1 q3) (vat e2 q4)
end
noncomputable def tM(K:aa)(Φ:Hp->St->Prop)(ρ eM:List Sl)(d:aq):TE:=λσ H Q=>∃H0 hs,Φ H0 σ/\ER K H0 hs ρ σ H/\∀v H',bq K H H'->ER K H0 hs eM σ H'->Rep K H' d v->Q v H'
noncomputable def VM(X:Cx)(Φ:Hp->St->Prop)(ρ:List Sl)(e:bc)(d:aq)(eM:List Sl):Prop:=PE X e (tM X.K Φ ρ eM d)
section
variable {X:Cx}{Φ:Hp->St->Prop}{ρ eM ρ1 sV:List Sl}{e e2:bc}{es:List bc}{pos p p2 p3:Pos}{d:aq}{ds:List aq}{Q:Out->Prop}{rest:List b9}
theorem QV(h:VE X ρ e (.d d)):VM X Φ ρ e d ρ:=PE.weak h (by rintro σ H Q ⟨H0,hs,φ,er,q⟩;exact ⟨⟨H0,hs,er⟩,λv H' s' rv=>q v H' (bq.of_same s') (er.grow s') rv⟩)
theorem Il:Zj X Φ ρ [] [] ρ:=PA.weak bD (by rintro σ H Q ⟨H0,hs,φ,er,q⟩;exact q [] H (bq.refl H) er .nil)
theorem su(h:VM X Φ ρ e d ρ1)(t:Zj X Φ ρ1 es ds sV)(hs:ao (e::es) X.env=(false,eval e X.env)::ao es X.env:=by rfl):Zj X Φ ρ (e::es) (d::ds) sV:=
 PA.weak (aO h t hs) (by rintro σ H Q ⟨H0,hs,φ,er,q⟩;exact ⟨H0,hs,φ,er,λv H1 t1 e1 r1=>⟨H0,hs,φ,e1,λvs H2 t2 e2 r2=>q (v::vs) H2 (t1.trans t2) e2 (.cons (Rep.mono t2 _ _ r1) r2)⟩⟩)
theorem Mn{i:Nat}{x:Str}{xs:List aq}{apos cI:Pos}(hi:sU x X.N 0=some i)(hr:ρ[i]?=some (.o (xs++[d])))(hv:AO X.env.scope x:=by first|exact cm rfl|exact cW (cm rfl)|exact cW (cW rfl))(hd:(x==("__debug__":Str))=false:=by decide)(l9:(x==("__classdict__":Str))=false:=by decide)(ir:dH (.Name x p2) "pop" X.env (eval (.Name x p2) X.env)=eval (.Name x p2) X.env:=by rfl)(iu:(apos.endLine==cI.line)=true:=by rfl):VM X Φ ρ (.Call (.Attribute (.Name x p2) "pop" apos) [] [] cI) d (ρ.set i (.o xs)):=
 PE.weak (vO bJ ft fw vP (gN (ic hi) hv hd l9) ir iu) λσ H Q ⟨H0,hs,φ,er,q⟩=>by
  obtain⟨a,h1,⟨vs,h2,h3⟩,h4⟩:=er.own i _ hr;obtain⟨ws,v,rfl,h5,h6⟩:=h3.snoc;refine⟨_,h1,.inl ⟨rfl,_,fU.of h2⟩,a,_,v,rfl,rfl,h2,by simp,?_⟩;rw[hW];have tl:bq X.K H (upd H a (.lst ws)):=(SameBut.upd _).tup h2;exact q v _ tl (er.write hr h1 h2 h5) (Rep.mono tl _ _ h6)
noncomputable def Mo(d:aq):List aq->aq×List aq
 |[]=>(d,[])
 |x::r=>(x,r)
theorem Mp{A:List b9}{c:bc}{k:Bool}(hc:VT X ρ c k)(hk:k=false)(h:VX X Φ rest ρ Q):VX X Φ (.If c A [] pos::rest) ρ Q:=QT hc (λz=>by rw[hk]at z;cases z) λ_=>Tr h
theorem Mq{A B:List b9}{c:bc}{k:Bool}(hc:VT X ρ c k)(hk:k=true)(h:VX X Φ A ρ (Ew X Φ rest Q)):VX X Φ (.If c A B pos::rest) ρ Q:=QT hc (λ_=>h) λz=>by rw[hk]at z;cases z
theorem XR{a b:bc}{ns:List Int}{i:Nat}{n:Int}(ha:VE X ρ a (.h (lB X.K ns)))(hb:VE X ρ b (.d (.int (i:Int))))(h:ns[i]?=some n)(hs:nX b:=by exactλ_ _=>rfl):VE X ρ (.Subscript a b pos) (.d (.int n)):=
 PE.weak (eO mw ha hb hs) (by rintro σ H Q ⟨er,q⟩;exact ⟨er,λx H1 s1 r1=>⟨dC er s1,λy H2 s2 r2=>by
  obtain⟨p,rfl,hq⟩:=(r1.rd.mono s2:fV X.K H2 (.h (lB X.K ns)) x);obtain rfl:=eK.cP r2
  exact⟨p,_,_,_,rfl,rfl,hq.sq,gp (by rw[aw,h];rfl),q _ H2 (s1.trans s2) eK.int⟩⟩⟩)
theorem Tx{a b:bc}{x y:Int}(ha:VE X ρ a (.d (.int x)))(hb:VE X ρ b (.d (.int y))):VE X ρ (.Compare a [.Eq] [b] pos) (.d (.bool (decide (x=y)))):=
 vV yt ha hb (λH u w Q rx ry q=>by
  obtain rfl:=fV.cP rx;obtain rfl:=fV.cP ry;refine⟨rfl,?_⟩
  rw[show decide (V.int x=V.int y)=decide (x=y)from by simp];exact q _ H (bK.refl H) eK.bool) (gP _)
theorem Mr{a b:bc}{z c:Str}{i:Int}(ha:VE X ρ a (.d (.str z)))(hb:VE X ρ b (.d (.int i)))(hz:z.length<=av)(h:∃k,oZ z.cps.toList i=some k/\c=⟨#[k]⟩)(hs:nX b:=by exactλ_ _=>rfl):VE X ρ (.Subscript a b pos) (.d (.str c)):=
 PE.weak (eO Sr ha hb hs) (by rintro σ H Q ⟨er,q⟩;exact ⟨er,λx H1 s1 r1=>⟨dC er s1,λy H2 s2 r2=>by
  obtain⟨k,h1,rfl⟩:=h
  exact⟨z,i,k,eK.cY r1,eK.cP r2,hz,h1,q _ H2 (s1.trans s2) eK.str⟩⟩⟩)
theorem JT:mS X (.type "int") (λxs H Q=>∃x n,xs=[.str x]/\PySem.intText? x=some n/\x.length<=640/\Q (.int n) H):=by
 intro pins s σ H xs us Q I r h;obtain⟨x,n,rfl,h1,h2,q⟩:=h;cases r with
 |cons r1 t=>
  cases t;obtain⟨tk,rfl⟩:=r1;exact PySem.W.KIN.call_text h1 h2 ⟨.int n,H,I.tok _,⟨_,rfl⟩,q⟩
theorem Pd{a:bc}{x:Str}{n:Int}(hm:X.mg "int"=none)(ha:VE X ρ a (.d (.str x)))(h1:PySem.intText? x=some n)(h2:x.length<=640)(hg:Gl X "int":=by rfl)(hs:ao [a] X.env=[(false,eval a X.env)]:=by rfl):VE X ρ (.Call (.Name "int" p) [a] [] pos) (.d (.int n)):=
 PE.weak (jq JT hg hm oy (aO ha bD hs) (by decide) (by decide) hs) (by rintro σ H Q ⟨er,q⟩;exact ⟨er,λv H1 s1 r1=>⟨x,n,by rw[eK.cY r1],h1,h2,q _ H1 s1 eK.int⟩⟩)
end
end L2
namespace Wk
open PySem
inductive WT where
 |num (i:Int)|truth (b:Bool)|nil (k:Kd)|name (x:Str)|lam (x:Str) (k:Kd) (b:WT)
 |add (a b:WT)|less (a b:WT)|front (a b:WT)|call (a b:WT)|cond (a b c:WT)|case (k:Kd) (h t:Str) (a b c:WT)
noncomputable def WT.word:WT->Str
 |.num _=>"num"
 |.truth _=>"truth"
 |.nil _=>"nil"
 |.name _=>"name"
 |.lam ..=>"fun"
 |.add ..=>"add"
 |.less ..=>"less"
 |.front ..=>"front"
 |.call ..=>"call"
 |.cond ..=>"if"
 |.case ..=>"case"
noncomputable def WT.marks:WT->List aq
 |.num i=>[.int i]
 |.truth b=>[.bool b]
 |.nil k=>[eW k]
 |.name x=>[.str x]
 |.lam x k _=>[.str x,eW k]
 |.case k h t _ _ _=>[eW k,.str h,.str t]
 |_=>[]
noncomputable def WT.own:WT->List WT
 |.lam _ _ b=>[b]
 |.add a b=>[a,b]
 |.less a b=>[a,b]
 |.front a b=>[a,b]
 |.call a b=>[a,b]
 |.cond a b c=>[a,b,c]
 |.case _ _ _ a b c=>[a,b,c]
 |_=>[]
noncomputable def dY:WT->aq
 |.num i=>.tuple [.str "num",.tuple [.int i],.tuple []]
 |.truth b=>.tuple [.str "truth",.tuple [.bool b],.tuple []]
 |.nil k=>.tuple [.str "nil",.tuple [eW k],.tuple []]
 |.name x=>.tuple [.str "name",.tuple [.str x],.tuple []]
 |.lam x k b=>.tuple [.str "fun",.tuple [.str x,eW k],.tuple [dY b]]
 |.add a b=>.tuple [.str "add",.tuple [],.tuple [dY a,dY b]]
 |.less a b=>.tuple [.str "less",.tuple [],.tuple [dY a,dY b]]
 |.front a b=>.tuple [.str "front",.tuple [],.tuple [dY a,dY b]]
 |.call a b=>.tuple [.str "call",.tuple [],.tuple [dY a,dY b]]
 |.cond a b c=>.tuple [.str "if",.tuple [],.tuple [dY a,dY b,dY c]]
 |.case k h t a b c=>.tuple [.str "case",.tuple [eW k,.str h,.str t],.tuple [dY a,dY b,dY c]]
inductive Pc where
 |text (s:Str)|name (s:Str)|kind (k:Kd)|part (t:WT)
noncomputable def uC:Pc->aq
 |.text s=>.tuple [.str "text",.str s]
 |.name s=>.tuple [.str "name",.str s]
 |.kind k=>.tuple [.str "kind",eW k]
 |.part t=>.tuple [.str "part",dY t]
noncomputable def kI:Nat->Nat->List Nat
 |0,_=>[]
 |f+1,n=>n % 10::(if n<10 then[]else kI f (n / 10))
noncomputable def digit(d:Nat):Str:=fk (toString (d:Int))
noncomputable def gE(i:Int):Str:=(if i<0 then("-":Str)else "")++nS "" ((kI (i.natAbs+1) i.natAbs).reverse.map digit)
noncomputable def bl:Pc:=.text " "
noncomputable def AG:Kd->List Pc
 |.num=>[.text "num"]
 |.truth=>[.text "truth"]
 |.list k=>[.text "(list",bl,.kind k,.text ")"]
 |.to a b=>[.text "(to",bl,.kind a,bl,.kind b,.text ")"]
noncomputable def jK:WT->List Pc
 |.num i=>[.text (gE i)]
 |.truth b=>[.text (if b then "yes" else "no")]
 |.name x=>[.name x]
 |.nil k=>[.text "(nil",bl,.kind k,.text ")"]
 |.lam x k b=>[.text "(fun",bl,.name x,bl,.kind k,bl,.part b,.text ")"]
 |.add a b=>[.text "(add",bl,.part a,bl,.part b,.text ")"]
 |.less a b=>[.text "(less",bl,.part a,bl,.part b,.text ")"]
 |.front a b=>[.text "(front",bl,.part a,bl,.part b,.text ")"]
 |.call a b=>[.text "(call",bl,.part a,bl,.part b,.text ")"]
 |.cond a b c=>[.text "(if",bl,.part a,bl,.part b,bl,.part c,.text ")"]
 |.case k h t a b c=>[.text "(case",bl,.kind k,bl,.part a,bl,.part b,bl,.name h,bl,.name t,bl,.part c,.text ")"]
noncomputable def Cy:Kd->Nat
 |.num=>2
 |.truth=>2
 |.list k=>Cy k+5
 |.to a b=>Cy a + Cy b+7
noncomputable def iA:WT->Nat
 |.num _=>2
 |.truth _=>2
 |.name _=>2
 |.nil k=>Cy k+5
 |.lam _ k b=>Cy k + iA b+9
 |.add a b=>iA a + iA b+7
 |.less a b=>iA a + iA b+7
 |.front a b=>iA a + iA b+7
 |.call a b=>iA a + iA b+7
 |.cond a b c=>iA a + iA b + iA c+9
 |.case k _ _ a b c=>Cy k + iA a + iA b + iA c+15
noncomputable def Pc.wt:Pc->Nat
 |.text _=>1
 |.name _=>1
 |.kind k=>Cy k
 |.part t=>iA t
noncomputable def lC:List Pc->Nat
 |[]=>0
 |p::r=>p.wt + lC r
theorem lX(a b:List Pc):lC (a++b)=lC a + lC b:=by
 induction a with
 |nil=>simp[lC]
 |cons p r ih=>simp only[cV,lC,ih];omega
theorem Im(k:Kd):lC (AG k)+1<=Cy k:=by cases k<;>simp[AG,lC,Pc.wt,Cy,bl]<;>omega
theorem Cz(t:WT):lC (jK t)+1<=iA t:=by cases t<;>simp[jK,lC,Pc.wt,iA,bl]<;>omega
noncomputable abbrev S(l:List Str):List Str:=l
noncomputable def Aj:Kd->List Str
 |.num=>["num"]
 |.truth=>["truth"]
 |.list k=>S ["(list"," "]++Aj k++S [")"]
 |.to a b=>S ["(to"," "]++Aj a++S [" "]++Aj b++S [")"]
noncomputable def j9:WT->List Str
 |.num i=>[gE i]
 |.truth b=>[if b then "yes" else "no"]
 |.name x=>[x]
 |.nil k=>S ["(nil"," "]++Aj k++S [")"]
 |.lam x k b=>S ["(fun"," ",x," "]++Aj k++S [" "]++j9 b++S [")"]
 |.add a b=>S ["(add"," "]++j9 a++S [" "]++j9 b++S [")"]
 |.less a b=>S ["(less"," "]++j9 a++S [" "]++j9 b++S [")"]
 |.front a b=>S ["(front"," "]++j9 a++S [" "]++j9 b++S [")"]
 |.call a b=>S ["(call"," "]++j9 a++S [" "]++j9 b++S [")"]
 |.cond a b c=>S ["(if"," "]++j9 a++S [" "]++j9 b++S [" "]++j9 c++S [")"]
 |.case k h t a b c=>S ["(case"," "]++Aj k++S [" "]++j9 a++S [" "]++j9 b++S [" ",h," ",t," "]++j9 c++S [")"]
noncomputable def Pc.tx:Pc->List Str
 |.text s=>[s]
 |.name s=>[s]
 |.kind k=>Aj k
 |.part t=>j9 t
noncomputable def jA:List Pc->List Str
 |[]=>[]
 |p::r=>p.tx++jA r
theorem rA(a b:List Pc):jA (a++b)=jA a++jA b:=by
 induction a with
 |nil=>simp[jA]
 |cons p r ih=>simp only[cV,jA,ih,bM]
theorem Pe(k:Kd):jA (AG k)=Aj k:=by cases k<;>simp[AG,jA,Pc.tx,Aj,bl]
theorem Io(t:WT):jA (jK t)=j9 t:=by cases t<;>simp[jK,jA,Pc.tx,j9,bl]
noncomputable def aS(t:WT):Str:=nS "" (j9 t)
end Wk
namespace L2
open PySem PySem.Spec PyProof.Rows
section
variable {X:Cx}{pins:List (aj×Obj)}{σ:St}{H:Hp}{s:ai}
theorem Bp:∀{xs:List Str}{us:List ah},cX (xs.map V.str) us->StrsAre us xs
 |[],_,.nil=>.nil
 |x::xs,_,.cons r t=>by obtain⟨tk,rfl⟩:=r;exact .cons _ _ (Bp t)
noncomputable def rJoin:V->List V->Hp->VK->Prop:=λx vs H Q=>∃(sep:Str)(l:aj)(xs:List Str),x = .str sep/\vs=[.ref l]/\Rd H l (.lst (xs.map V.str))/\(xs.map (·.length)).sum + xs.length * sep.length<=16777216/\Q (.str (nS sep xs)) H
theorem Pf:Su X "str.join" rJoin:=by
 intro pins s σ H x vs v us Q I rx rv h;obtain⟨sep,l,xs,rfl,rfl,hH,hz,q⟩:=h;obtain⟨t,rfl⟩:=rx;obtain⟨u,rfl,ru⟩:=rv.one;cases ru;obtain⟨z,cq,n,r,e⟩:=hH.ok I.dS;exact join_list ⟨_,e,rfl,n,rfl⟩ (by simpa using Bp r) hz λt' k=>⟨.str _,H,I.tok _,⟨_,rfl⟩,q⟩
variable {ρ eM:List Sl}{Φ:Hp->St->Prop}{a b e:bc}{ra rb:Sl}{pos p p2 p3 apos cI:Pos}{d d1:aq}{xs:List aq}
theorem v7{K:aa}{H:Hp}:∀{xs:List Str}{vs:List V},bB K H (xs.map lr) vs->vs=xs.map V.str
 |[],vs,h=>by rw[gy,bB]at h;exact h
 |x::xs,vs,h=>by
  obtain⟨v,r,rfl,h1,h2⟩:=h.split;rw[h1.cY,v7 h2];rfl
theorem Ip{sep:Str}{xs:List Str}(ha:VE X ρ a (.d (.str sep)))(hb:VE X ρ b rb)(eb:rb.Ml=some (xs.map .str))(hz:(xs.map (·.length)).sum + xs.length * sep.length<=16777216)(ir:dH a "join" X.env (eval a X.env)=eval a X.env:=by rfl)(oE:((cG cI (ao [b] X.env)).all (λx=>!x.1)&&(kS cI (gM [] X.env)).all (λx=>x.1.isSome)&&decide ([b].length + ([]:List fA).length + (if([]:List fA).isEmpty then 0 else 1)<30))=true:=by rfl)(iu:(apos.endLine==cI.line)=true:=by rfl)(hs:ao [b] X.env=(false,eval b X.env)::ao [] X.env:=by rfl)(jX:(cG cI (ao [] X.env)).any (·.1)=false:=by rfl):VE X ρ (.Call (.Attribute a "join" apos) [b] [] cI) (.d (.str (nS sep xs))):=
 PE.weak (ph kq PySem.F.slot_str_join PySem.F.type_str_join Pf ha (aO hb bD hs) ir oE iu hs jX) λσ H Q ⟨er,q⟩=>⟨er,λv H1 s1 r1=>by
  obtain rfl:=eK.cY r1;refine⟨rfl,dC er s1,λu H2 s2 r2=>?_⟩;obtain⟨l,vs,rfl,hq,rp⟩:=r2.rd.Tt eb;obtain rfl:=v7 rp
  exact⟨sep,l,xs,rfl,rfl,hq,hz,q _ H2 (s1.trans s2) eK.str⟩⟩
theorem yb{i:Int}(hm:X.mg "str"=none)(ha:VE X ρ a (.d (.int i)))(hz:i.natAbs.log2<1920)(hg:Gl X "str":=by rfl)(hs:ao [a] X.env=[(false,eval a X.env)]:=by rfl):VE X ρ (.Call (.Name "str" p) [a] [] pos) (.d (.str (fk (toString i)))):=
 PE.weak (jq B5 hg hm PyProof.Rows.boot_str (aO ha bD hs) (by decide) (by decide) hs) (by rintro σ H Q ⟨er,q⟩;exact ⟨er,λv H1 s1 r1=>⟨i,by rw[eK.cP r1],hz,q _ H1 s1 eK.str⟩⟩)
theorem Tz{i:Int}(hm:X.mg "abs"=none)(ha:VE X ρ a (.d (.int i)))(hg:Gl X "abs":=by rfl)(hs:ao [a] X.env=[(false,eval a X.env)]:=by rfl):VE X ρ (.Call (.Name "abs" p) [a] [] pos) (.d (.int (i.natAbs:Int))):=
 PE.weak (gf KO hg hm PyProof.Rows.boot_abs (aO ha bD hs) (by decide) (by decide) hs) (by rintro σ H Q ⟨er,q⟩;exact ⟨er,λv H1 s1 r1=>⟨i,by rw[eK.cP r1],by
  rw[show(if i<0 then -i else i)=(i.natAbs:Int)from by split<;>omega]
  exact q _ H1 s1 eK.int⟩⟩)
theorem Iq{i:Nat}{x:Str}{j:Nat}(hi:sU x X.N 0=some i)(hr:ρ[i]?=some (.o (d::xs)))(hv:AO X.env.scope x:=by first|exact cm rfl|exact cW (cm rfl)|exact cW (cW rfl))(hd:(x==("__debug__":Str))=false:=by decide)(l9:(x==("__classdict__":Str))=false:=by decide)(ir:dH (.Name x p2) "pop" X.env (eval (.Name x p2) X.env)=eval (.Name x p2) X.env:=by rfl)(oE:((cG cI (ao [.Constant (.int 0) j p3] X.env)).all (λx=>!x.1)&&(kS cI (gM [] X.env)).all (λx=>x.1.isSome)&&decide ([BZ (.int 0) j p3].length + ([]:List fA).length + (if([]:List fA).isEmpty then 0 else 1)<30))=true:=by rfl)(iu:(apos.endLine==cI.line)=true:=by rfl)(hs:ao [.Constant (.int 0) j p3] X.env=(false,eval (.Constant (.int 0) j p3) X.env)::ao [] X.env:=by rfl)(jX:(cG cI (ao [] X.env)).any (·.1)=false:=by rfl):
  VM X Φ ρ (.Call (.Attribute (.Name x p2) "pop" apos) [.Constant (.int 0) j p3] [] cI) d (ρ.set i (.o xs)):=
 PE.weak (ph bJ ft fw K3 (gN (ic hi) hv hd l9) (aO cS bD hs) ir oE iu hs jX) λσ H Q ⟨H0,hs,φ,er,q⟩=>by
  obtain⟨a,h1,⟨vs,h2,h3⟩,h4⟩:=er.own i _ hr;obtain⟨v,ws,rfl,h5,h6⟩:=h3.split;have tl:bq X.K H (upd H a (.lst ws)):=(SameBut.upd _).tup h2;refine⟨_,h1,.inl ⟨rfl,_,fU.of h2⟩,?_⟩;exact⟨a,_,0,0,v,rfl,rfl,h2,by decide,by decide,by simp[seqIndex?],rfl,q v _ tl (er.write hr h1 h2 h6) (Rep.mono tl _ _ h5)⟩
theorem Ir{k:Nat}(h1:VE X ρ a (.d d1))(h2:VM X Φ ρ b d eM)(hs:ao [a,b] X.env=(false,eval a X.env)::ao [b] X.env:=by rfl)(NT:ao [b] X.env=(false,eval b X.env)::ao [] X.env:=by rfl):VM X Φ ρ (.Tuple [a,b] k pos) (.tuple [d1,d]) eM:=
 PE.weak (me (aO h1 (aO h2 bD NT) hs)) (by rintro σ H Q ⟨H0,hs,φ,er,q⟩;exact ⟨⟨H0,hs,er⟩,λv H1 s1 r1=>⟨H0,hs,φ,er.grow s1,λu H2 t2 e2 r2=>⟨by show 2<=av;decide,λt nt=>by
  have s3:=bu nt (.tup [v,u])
  exact q _ _ (((bq.of_same s1).trans t2).trans (bq.of_same s3)) (e2.grow s3) (Rep.tuple (fF.of aW) (.cons (Rep.mono (t2.trans (bq.of_same s3)) _ _ r1) (.cons (Rep.mono (bq.of_same s3) _ _ r2) .nil)))⟩⟩⟩)
structure JU(P:aR)(w:bH)(K:aa)(mg:Str->Option ah)(x:Str)(f:Str->Option (List Str)):Prop where
 ex:∃F o vs,mg x=some (.ref F)/\K.lookup F=some o/\o.IsDictOf (dB P w) vs/\(F==sysModules)=false/\∀y,match f y with
  |some ds=>∃t,valueAt vs (.inr y:Key)=some (.ref t)/\∀H,fF K H t (ds.map V.str)
  |none=>valueAt vs (.inr y:Key)=none
theorem sv{K:aa}{H:Hp}:∀(xs:List Str),bB K H (xs.map lr) (xs.map V.str)
 |[]=>.nil
 |x::xs=>.cons (.str x) (sv xs)
theorem Pg{x y:Str}{f:Str->Option (List Str)}{ds:List Str}(T:JU X.prog X.w X.K X.mg x f)(hb:VE X ρ b (.d (.str y)))(h:f y=some ds)(hg:Gl X x:=by rfl)(hd:(x==("__debug__":Str))=false:=by decide)(hs:Oj b:=by exactλ_ _=>rfl):
  VE X ρ (.Subscript (.Name x p2) b pos) (.d (.tuple (ds.map .str))):=by
 obtain⟨F,o,vs,h1,h2,h3,h4,h5⟩:=T.ex;have h6:=h5 y;rw[h]at h6;obtain⟨t,h7,h8⟩:=h6;have go:PE X (.Subscript (.Name x p2) b pos) (λσ H Q=>(tR X.K ρ (.d (.str y))) σ H λ_ H1=>Q (.ref t) H1):=by
  intro pins s σ H Q I hq;refine HE yh.lookup hs (gb (xR (v:=.ref F) hg h1 rfl hd pins s σ H (λu H'=>u = .ref F/\H'=H) I ⟨rfl,rfl⟩) λ u s1  zq0=>?_);obtain ⟨v,H1,I1,rx,e1,e2⟩:=zq0;subst e1 e2;refine gb (hb pins s1 σ H1 (λz H'=>z = .str y/\Q (.ref t) H') I1 ⟨hq.1,λv H' s' r=>⟨eK.cY r,hq.2 v H' s' r⟩⟩) λ iv s2  zq0=>?_;obtain ⟨z,H2,I2,ry,e3,q2⟩:=zq0;subst e3;cases rx;have dd:s2.heap.DictOf (dB X.prog X.w) F vs:=yk.mpr ⟨o,I2.uA F o h2,h3⟩;exact⟨dd.typeIs,wpAny_getItem_of (yz (k:=.inr y) ry) dd.mapOf h7 ⟨.ref t,H2,I2.tok _,rfl,q2⟩⟩
 exact PE.weak go (by rintro σ H Q ⟨er,q⟩;exact ⟨er,λu H2 s2 r2=>q _ H2 s2 (eK.mk (h8 H2) (sv ds))⟩)
end
section
variable {X:Cx}{ρ eM:List Sl}{e:bc}{pos p p2:Pos}{d:aq}{Q:Out->Prop}{rest:List b9}
theorem zb{i:Nat}{x:Str}{ys xs:List aq}{apos cI:Pos}(hi:sU x X.N 0=some i)(Wq:ρ[i]?=some (.o ys))(hr:eM[i]?=some (.o xs))(h:VM X (λ_ _=>True) ρ e d eM)(hz:xs.length<av)(k:VS X rest (eM.set i (.o (xs++[d]))) Q)(hv:AO X.env.scope x:=by first|exact cm rfl|exact cW (cm rfl)|exact cW (cW rfl))(hd:(x==("__debug__":Str))=false:=by decide)(l9:(x==("__classdict__":Str))=false:=by decide)(ir:dH (.Name x p2) "append" X.env (eval (.Name x p2) X.env)=eval (.Name x p2) X.env:=by rfl)(oE:((cG cI (ao [e] X.env)).all (λx=>!x.1)&&(kS cI (gM [] X.env)).all (λx=>x.1.isSome)&&decide ([e].length + ([]:List fA).length + (if([]:List fA).isEmpty then 0 else 1)<30))=true:=by rfl)(iu:(apos.endLine==cI.line)=true:=by rfl)(hs:ao [e] X.env=[(false,eval e X.env)]:=by rfl)(jX:(cG cI (ao [] X.env)).any (·.1)=false:=by rfl)(Gg:dF (.Call (.Attribute (.Name x p2) "append" apos) [e] [] cI) none pos.line X.env=pure false:=by rfl):VS X (.Expr (.Call (.Attribute (.Name x p2) "append" apos) [e] [] cI) pos::rest) ρ Q:=
 lW (mv (ph bJ eg eh lz (gN (ic hi) hv hd l9) (aO h bD hs) ir oE iu hs jX) Gg) λH0 hs D σ H er l=>by
  obtain⟨a,h1,⟨vs,h2,h3⟩,h4⟩:=er.own i ys Wq;refine⟨_,h1,.inl ⟨rfl,vs,fU.of h2⟩,H0,hs,trivial,er,λv H' t e' rv=>?_⟩;obtain⟨a',g1,⟨ws,g2,g3⟩,_⟩:=e'.own i xs hr;rw[h1]at g1;cases g1;exact⟨a,ws,v,rfl,rfl,g2,by rw[g3.length];exact hz,l.nx _ _ ⟨_,k,e'.write hr h1 g2 (g3.append (.one rv))⟩⟩
end
end L2
namespace Wk
open PySem L2 PySem.Spec PyProof.Rows
noncomputable def xb(i:Int):Prop:=(kI (i.natAbs+1) i.natAbs).length<=1000000
noncomputable def WT.ok:WT->Prop
 |.num i=>xb i
 |.lam _ _ b=>b.ok
 |.add a b=>a.ok/\b.ok
 |.less a b=>a.ok/\b.ok
 |.front a b=>a.ok/\b.ok
 |.call a b=>a.ok/\b.ok
 |.cond a b c=>a.ok/\b.ok/\c.ok
 |.case _ _ _ a b c=>a.ok/\b.ok/\c.ok
 |_=>True
noncomputable def Pc.ok:Pc->Prop
 |.part t=>t.ok
 |_=>True
theorem Iu{t:WT}(h:t.ok):∀p∈jK t,p.ok:=by
 intro p hp;cases t<;>simp only[jK,bl,bf,cM,or_false]at hp<;>simp only[WT.ok]at h<;>(rcases hp with rfl|hp<;>try trivial)<;>(repeat' (rcases hp with rfl|hp))<;>first|trivial|(subst hp;trivial)|exact h|exact h.1|exact h.2|exact h.2.1|exact h.2.2|(subst hp;first|exact h|exact h.1|exact h.2|exact h.2.1|exact h.2.2)
theorem Ph(k:Kd):∀p∈AG k,p.ok:=by
 intro p hp;cases k<;>simp only[AG,bl,bf,cM,or_false]at hp<;>(repeat' (rcases hp with rfl|hp))<;>first|trivial|(subst hp;trivial)
noncomputable def formOf(x:Str):Option (List Str):=
 if x = "list" then some ["kind"]else if x = "to" then some ["kind","kind"]else if x = "add" then some ["part","part"]else if x = "less" then some ["part","part"]else if x = "if" then some ["part","part","part"]
 else if x = "nil" then some ["kind"]else if x = "front" then some ["part","part"]else if x = "case" then some ["kind","part","part","name","name","part"]else if x = "fun" then some ["name","kind","part"]else if x = "call" then some ["part","part"]else none
noncomputable def vA:aq:=.tuple [.str "text",.str " "]
noncomputable def TB:List Str->List aq->List aq->Option (List aq)
 |[],_,_=>some []
 |zc::r,ms,os=>
  if zc = "part" then match os with
   |o::os=>(TB r ms os).map λt=>vA :: .tuple [.str zc,o]::t
   |[]=>none
  else match ms with
   |m::ms=>(TB r ms os).map λt=>vA :: .tuple [.str zc,m]::t
   |[]=>none
noncomputable def QW:List Sl->Sl->Prop:=λas r=>∃i:Int,as=[.d (.int i)]/\xb i/\r = .d (.str (gE i))
noncomputable def TC:List Sl->Sl->Prop:=λas r=>∃(x:Str)(ms os ps:List aq)(ds:List Str),as=[.d (.str x),.d (.tuple ms),.d (.tuple os)]/\x.length<=100/\formOf x=some ds/\TB ds ms os=some ps/\r = .o ([.tuple [.str "text",.str ("("++x)]]++ps++[.tuple [.str "text",.str ")"]])
noncomputable def Ms:List Sl->Sl->Prop:=λas r=>∃k:Kd,as=[.d (eW k)]/\r = .o ((AG k).map uC)
noncomputable def GQ:List Sl->Sl->Prop:=λas r=>∃t:WT,as=[.d (dY t)]/\t.ok/\r = .o ((jK t).map uC)
noncomputable def GR:List Sl->Sl->Prop:=λas r=>∃ps:List Pc,as=[.l (ps.map uC)]/\(∀p∈ps,p.ok)/\lC ps<=1000000/\((jA ps).map (·.length)).sum<=16777216/\r = .d (.str (nS "" (jA ps)))
noncomputable def CA:List Sl->Sl->Prop:=λas r=>∃t:WT,as=[.d (dY t)]/\t.ok/\iA t<=1000000/\((j9 t).map (·.length)).sum<=16777216/\r = .d (.str (aS t))
end Wk
namespace L2
open PySem PySem.Spec PyProof.Rows
noncomputable def og(X:Cx)(e:bc)(t:TE):Prop:=
 ∀(pins:List (aj×Obj)) (s:ai) (σ:St) (H:Hp) (Q:VK),1<=s.toks->Inv X pins σ H s->t σ H Q->aH (model X.prog X.w) X.A (eval e X.env) (EP X pins σ Q) X.xe s
noncomputable def EA(X:Cx)(st:b9)(t:TS):Prop:=
 ∀(pins:List (aj×Obj)) (s:ai) (σ:St) (H:Hp) (D:Ends),1<=s.toks->Inv X pins σ H s->t D σ H->aH (model X.prog X.w) X.A (exec st X.env) (SP X pins D) X.xe s
noncomputable def jB(X:Cx)(st:List b9)(t:TS):Prop:=
 ∀(pins:List (aj×Obj)) (s:ai) (σ:St) (H:Hp) (D:Ends),1<=s.toks->Inv X pins σ H s->t D σ H->aH (model X.prog X.w) X.A (execs st X.env) (SP X pins D) X.xe s
noncomputable def QX(X:Cx)(tg iter:bc)(wi:TI):Prop:=
 ∀(pins:List (aj×Obj)) (s:ai) (σ:St) (H:Hp) (R:It->Hp->Prop),1<=s.toks->Inv X pins σ H s->wi σ H R->
  aH (model X.prog X.w) X.A (eval iter X.env) (λv s1=>aH (model X.prog X.w) X.A (pyIter v) (WL X pins σ tg R) X.xe s1) X.xe s
structure lg(P:aR)(w:bH)(K:aa)(mg:Str->Option ah)(base:bS)(CX:Fv)(k:Nat)(f:aj)(fd:be)(ps:List Str)(sp:Sp):Prop where
 len:∀vs H Q E,sp vs H Q E->vs.length=ps.length
 run:∀(A:cj)(outer:List Env)(s:ai)(H:Hp)(args:Args)(us:List ah)(vs:List V) (Q:VK) (E:XK),iD k A->1<=s.toks->KR P w K mg base A outer s H->BindsTo s fd args (ps.zip us)->cX vs us->sp vs H Q E->
  codeAny (model P w) A (.call (.ref f) args) (CR CX outer P w H s Q E) s
theorem PE.pos{X:Cx}{e:bc}{t:TE}(h:PE X e t):og X e t:=λpins s σ H Q _ I q=>h pins s σ H Q I q
theorem og.weak{X:Cx}{e:bc}{t t':TE}(h:og X e t)(w:∀σ H Q,t' σ H Q->t σ H Q):og X e t':=λpins s σ H Q tp I q=>h pins s σ H Q tp I (w σ H Q q)
theorem jB.weak{X:Cx}{st:List b9}{t t':TS}(h:jB X st t)(w:∀D σ H,t' D σ H->t D σ H):jB X st t':=λpins s σ H D tp I q=>h pins s σ H D tp I (w D σ H q)
theorem jB.Dy{X:Cx}{st:List b9}{t:TS}(h:jB X.Dy st t):jB X st t:=λpins s σ H D tp I hw=>
 bO (h pins s σ H D tp (I.xp _) hw) (λ_ _ q=>q.oA) λ_ _ z=>dM z
section
variable {X:Cx}{tg:bc}{st:b9}{rest:List b9}{t u:TS}{e:bc}{te:TE}{pos:Pos}
theorem v8(h1:EA X st t)(h2:qD X rest u):jB X (st::rest) (RT t u):=by
 intro pins s σ H D tp I h;refine mG (gb (h1 pins s σ H {D with nx:=u D} tp I h) λf s1 q=>?_);cases f with
 |next=>
  obtain⟨dI,H',I',q⟩:=q;exact h2 pins s1 dI H' D I' q
 |ret v=>exact q
 |brk=>exact q
 |cont=>exact q
theorem JV(h1:PS X st t)(h2:jB X rest u):jB X (st::rest) (RT t u):=by
 intro pins s σ H D tp I h;refine mG (bO (jo tp (h1 pins s σ H {D with nx:=u D} I h)) (λ f s1  zq0=>?_) λ_ _ z=>z.2);obtain ⟨NW,q⟩:=zq0;cases f with
 |next=>
  obtain⟨dI,H',I',q⟩:=q;exact h2 pins s1 dI H' D NW I' q
 |ret v=>exact q
 |brk=>exact q
 |cont=>exact q
theorem CB{i:Nat}{x:Str}{pos':Pos}(hN:X.N.Nodup)(hi:X.N[i]?=some x)(hx:Loc X.env.scope x)(he:og X e te)(hs:dF e (some (.Name x pos')) pos.line X.env=pure false:=by rfl)(hf:X.fn x=true\/X.env.scope.names.lookup x=some .local:=by first|exact .inl rfl|exact .inr rfl|assumption):
  EA X (.Assign [.Name x pos'] e pos) (N2 te (nV i)):=by
 intro pins s σ H D tp I h;refine wpAny_Assign_Name (gb (he pins s σ H _ tp I h) λ v s1  zq0=>?_) hs;obtain ⟨y,H1,I1,r1,q1⟩:=zq0;exact uJ I1 hN hi hx r1 (λs2 I2=>⟨_,H1,I2,q1⟩) hf
theorem Pj{iter:bc}{body:List b9}{wi:TI}{g:TG}{tb:TS}{pos:Pos}(hp:PassesOwn (model X.prog X.w) X.A X.env X.xe)(hc:X.calm=true)(hi:QX X tg iter wi)(hg:PG X tg g)(hb:qD X body tb)(hs:∀x,dn iter X.env x=pure x:=by intro _;rfl):EA X (.For tg iter body [] pos) (WN wi g tb):=by
 intro pins s σ H D tp I h;refine wpAny_For (gb (hi pins s σ H _ tp I h) λv s1 h1=>gb h1 λR3 s2 h2=>?_) hs;obtain⟨it,fp,tn,J,H2,e,I2,T,yq,f2,W,⟨m0,w0⟩,turn⟩:=h2;subst e;have vJ:∀{H':Hp},(∀b∈fp,H' b=none)->∀b∈fp,oB X pins H' b:=λhn b hb=>⟨hn b hb,(f2 b hb).2⟩;refine codeAny_forLoop_any (λn s'=>∃i dI H',Inv X pins dI H' s'/\tn i s'.heap/\(∀b∈fp,H' b=none)/\W i n dI H') ?_ m0 ⟨0,σ,H2,I2,yq,λb hb=>(f2 b hb).1,w0⟩;rintro n s3 ⟨i,DI,H3,I3,Ql,WO,w3⟩;rcases turn i n DI H3 w3 with⟨stop,qn⟩|⟨go,N,hN,step⟩
 ·refine dU hp (gb (T.done X rfl rfl rfl hc i pins s3 DI H3 X.xe I3 (vJ WO) Ql stop) λ r s4  zq0=>?_);obtain ⟨hr,I4⟩:=zq0;subst hr;exact jl ⟨DI,H3,I4,qn⟩
 ·refine dU hp (gb (T.item X rfl rfl rfl hc i pins s3 DI H3 X.xe I3 (vJ WO) Ql go) λ r s4  zq0=>?_);obtain ⟨u,hr,h4⟩:=zq0;subst hr;refine dU hp (gb h4 λ _ s5  zq0=>?_);obtain ⟨x,H5,I5,r5,y5,Jj,Qm⟩:=zq0;have N4:=I5.pinned (vJ Qm) (T.obj _ _ Jj);refine dU hp (gb (hg _ s5 DI H5 x u _ N4 r5 (step x H5 y5)) λ _ s6  zq0=>?_);obtain ⟨Z2,H6,I6,q6⟩:=zq0;refine dU hp (gb (hb _ s6 Z2 H6 _ I6 q6) λf s7 q7=>?_);have again:∀{yr:St}{H7:Hp},Inv X (pins++vH fp s5.heap) yr H7 s7->N yr H7->∃m,m<n/\∃i dI H',Inv X pins dI H' s7/\tn i s7.heap/\(∀b∈fp,H' b=none)/\W i m dI H':=λ{yr H7} I7 n7=>by
   obtain⟨m',hm,w7⟩:=hN yr H7 n7;refine⟨m',hm,i+1,yr,H7,I7.mR,T.keep _ _ _ Jj λb hb o e=>(I7.pin (b,o) (az _ (az _ (lu hb e)))).1,λb hb=>?_,w7⟩;obtain⟨o,e,d⟩:=T.obj _ _ Jj b hb;exact(I7.pin (b,o) (az _ (az _ (lu hb e)))).2.1
  cases f with
  |next=>obtain⟨yr,H7,I7,n7⟩:=q7;exact again I7 n7
  |cont=>obtain⟨yr,H7,I7,n7⟩:=q7;exact again I7 n7
  |brk=>obtain⟨yr,H7,I7,q7⟩:=q7;exact⟨yr,H7,I7.mR,q7⟩
  |ret v=>obtain⟨x7,yr,H7,I7,r7,q7⟩:=q7;exact⟨x7,yr,H7,I7.mR,r7,q7⟩
theorem Mt{l:bc}{tl:TE}(hl:og X l tl):QX X tg l (Qk X.K tl):=by
 intro pins s σ H R tp I h;refine gb (hl pins s σ H _ tp I h) λ v s1  zq0=>?_;obtain ⟨x,H1,I1,r1,q1⟩:=zq0;obtain⟨a,e,⟨xs,hq⟩,q⟩:=q1;subst e;cases r1;obtain⟨cq,rv,p,hz⟩:=I1.list hq;refine l7 p.isList ?_;refine⟨s1.heap.objs.size,[s1.heap.objs.size],_,_,H1,rfl,I1.kept (t':=s1.toks) λb o e=>af _ e,AR a _,⟨_,aB _ rfl,rfl,rfl⟩,λb hb=>?_,q⟩;have e:b=s1.heap.objs.size:=by simpa using hb
 subst e;exact I1.oC (au _) (I1.dS.fresh (au _))
end
section
variable {X:Cx}{CX:Fv}{k:Nat}{f C:aj}{fd:be}{ps:List Str}{sp:Sp}{FR:List V}{ds:List ah}{E:XK}{x m:Str}{p pos apos:Pos}{e o:bc}{es:List bc}{ta:TE}{t:TA}
theorem Iv{pins:List (aj×Obj)}{σ:St}{H:Hp}{s:ai}{Q:VK}{us:List ah}{vs:List V}(F:lg X.prog X.w X.K X.mg X.base CX k f fd ps sp)(hr:iD k X.A)(hb:Binds X.K fd ps ds)(hd:cX FR ds)(hx:vM CX X E)(tp:1<=s.toks)(I:Inv X pins σ H s)(r:cX vs us)(h:sp (vs++FR) H Q E):aH (model X.prog X.w) X.A (call (.ref f) us) (EP X pins σ Q) X.xe s:=by
 have r2:cX (vs++FR) (us++ds):=r.append hd;have hl:(us++ds).length=ps.length:=by rw[<-r2.length];exact F.len _ _ _ _ h
 refine wpAny_call (codeAny_mono (F.run X.A X.stack s H ⟨us,[]⟩ (us++ds) (vs++FR) Q E hr tp I.Si (hb s us I.uA hl) r2 h) λr s' hq=>?_);cases r with
 |error e=>exact hx pins σ H s e s' I hq
 |ok fl=>
  cases fl with
  |ret u=>exact I.after hq
  |next=>exact dM hq
  |brk=>exact dM hq
  |cont=>exact dM hq
theorem EB(F:lg X.prog X.w X.K X.mg X.base CX k f fd ps sp)(hr:iD k X.A)(hg:Gl X x)(hm:X.mg x=some (.ref f))(hk:eX X.K (.ref f)=true)(hb:Binds X.K fd ps ds)(hd:cX FR ds)(hx:vM CX X E)(ha:PA X (e::es) t)(qX:(x==("__debug__":Str))=false:=by decide)(he:ao (e::es) X.env=(false,eval e X.env)::ao es X.env:=by rfl)(kY:(cG pos (ao es X.env)).any (·.1)=false:=by rfl):
  og X (.Call (.Name x p) (e::es) [] pos) (KU sp FR E t):=by
 intro pins s σ H Q tp I h;refine jb (pU I hg hm ?_ qX);refine mH (h₀:=X.base) I.ok.mod.Qe hk (bO (jo tp (ha pos pins s σ H _ I h)) (λus s1 ⟨NW,vs,H1,I1,r,q⟩=>⟨I1.uA,?_⟩) λ_ _ z=>z.2) he kY;exact Iv F hr hb hd hx NW I1 r q
end
noncomputable def rB(P:aR)(w:bH)(K:aa)(mg:Str->Option ah)(base:bS)(k:Nat)(x:Str)(ps:List Str)(sp:Sp):Prop:=
 ∃(f:aj)(fd:be),lg P w K mg base kx k f fd ps sp/\Binds K fd ps []/\eX K (.ref f)=true/\mg x=some (.ref f)
theorem Mu{CX:Fv}{P:aR}{w:bH}{K:aa}{mg:Str->Option ah}{base:bS}{k:Nat}{f:aj}{name qual:Str}{params:Arguments}{body:List b9}{scope:Scope}{dV kV doc pm eR ct oc:ah}{an od:Option aj}{Jm:Array (Option ah)}{N ps:List Str}{sp:Sp}(lk:K.lookup f=some ⟨oc,od,.func (dA name qual params body scope dV kV doc pm an eR ct),Jm⟩)(l9:ko K eR qual=true)(S:b5 N ps scope)(len:∀vs H Q E,sp vs H Q E->vs.length=ps.length)(lU:∀(A:cj)(outer:List Env)(s:ai)(H:Hp)(vs:List V)(Q:VK)(E:XK),iD k (A.deeper (envOfC qual scope s.heap.objs.size f eR))->sp vs H Q E->
   ∃t,jB (pW CX P w K mg base N qual scope f eR A outer s H E) body t/\t {nx:=λ_ H'=>Q .ip H',rt:=Q} (start N vs) H):
  lg P w K mg base CX (k+1) f (dA name qual params body scope dV kV doc pm an eR ct) ps sp:=by
 refine⟨len,λA outer s H args us vs Q E hr tp e0 hb r Av=>?_⟩;have hl:=len _ _ _ _ Av;have KX:K.In s.heap:=e0.mod.Qe.keeps λb o e=>(e0.bs b o e).1;have lim:s.heap.NoLimit:=e0.mod.nolimit.keeps λb o e=>(e0.bs b o e).1;have A0:∀y∈ps.zip us,scope.names.lookup y.1=some .local\/(scope.names.lookup y.1=some .cell/\((cellsFrom (s.heap.objs.size+1) scope.names []).lookup y.1).isSome=true):=λ⟨n,v⟩ hy=>by
  rcases S.par n (qN hy).1 with q|q
  ·exact .inl q
  ·exact .inr ⟨q,pI _ _ _ (.inl q)⟩
 refine codeAny_call_function hr.depth (KX _ _ lk) rfl S.co S.gen rfl (Fm KX l9) (hb _ _ _ _ ?_);refine wpAny_with_toks tp (Fn S.kind A0 λenv he s1 x NW=>?_);subst he;refine⟨lim.keeps x.toInCall.keep,codeAny_func ?_⟩;obtain⟨t,ht,hq⟩:=lU A outer s H vs Q E (hr.deeper _) Av;have I:Inv (pW CX P w K mg base N qual scope f eR A outer s H E) [] (start N vs) H s1:=AZ S hr.hd e0 hl r x;refine bO (ht [] s1 (start N vs) H _ NW I hq) (λfl s' hs=>?_) λe s' hs=>hs;have fin:∀{dI:St}{H':Hp}{v:V}{u:ah},Inv (pW CX P w K mg base N qual scope f eR A outer s H E) [] dI H' s'->RelV v u->Q v H'->CE outer P w H s Q u s':=
  λ{dI H' v u} J rv q=>⟨v,H',J.os,J.bare,J.base,J.dS,rv,q⟩
 cases fl with
 |ret u=>
  obtain⟨v,dI,H',J,rv,q⟩:=hs;exact fin J rv q
 |next=>
  obtain⟨dI,H',J,q⟩:=hs;exact fin (v:=V.ip) (u:=dZ) J rfl q
 |brk=>
  obtain⟨_,_,_,q⟩:=hs;exact dM q
 |cont=>
  obtain⟨_,_,_,q⟩:=hs;exact dM q
section
variable {P:aR}{w:bH}{K:aa}{mg:Str->Option ah}{base:bS}
theorem jP.QY{x qual:Str}{st:b9}{f:aj}{fd:be}{N ps:List Str}{k:Nat}{sp:Sp}(F:jP K x qual st f fd)(S:b5 N ps (aJ st))(len:∀vs H Q E,sp vs H Q E->vs.length=ps.length)(lU:∀(eR:ah)(A:cj)(outer:List Env)(s:ai)(H:Hp)(vs:List V)(Q:VK) (E:XK),iD k (A.deeper (envOfC qual (aJ st) s.heap.objs.size f eR))->sp vs H Q E->
   ∃t,jB (pW kx P w K mg base N qual (aJ st) f eR A outer s H E).Dy (eS st) t/\t {nx:=λ_ H'=>Q .ip H',rt:=Q} (start N vs) H):lg P w K mg base kx (k+1) f fd ps sp:=by
 obtain⟨oc,od,kV,doc,pm,an,eR,ct,Jm,rfl,lk,l9⟩:=F.ex;refine Mu lk l9 S len λA outer s H vs Q E hr Av=>?_;obtain⟨t,h,q⟩:=lU eR A outer s H vs Q E hr Av;exact⟨t,h.Dy,q⟩
end
noncomputable def Bq(X:Cx)(ρ:List Sl)(e:bc)(r:Sl):Prop:=og X e (tR X.K ρ r)
noncomputable def Iw(X:Cx)(ss:List b9)(ρ:List Sl)(Q:Out->Prop):Prop:=jB X ss (Wj X.K ρ Q)
section
variable {X:Cx}{ρ:List Sl}{e a b c tg iter:bc}{es:List bc}{r ra rb:Sl}{p pos p2 p3:Pos}{d:aq}{ds xs:List aq}{rs:List Sl}{Q Q':Out->Prop}{rest:List b9}{st:b9}
theorem VE.toPos(h:VE X ρ e r):Bq X ρ e r:=PE.pos h
theorem TF{t:TS}(h:EA X st t)(w:∀H0 hs D σ H,ER X.K H0 hs ρ σ H->(DE X.K H0 hs (wY X rest Q)).le D->t D σ H):Iw X (st::rest) ρ Q:=by
 refine jB.weak (v8 (u:=λD σ H=>∃eM H0 hs,ER X.K H0 hs eM σ H/\(DE X.K H0 hs Q).le D/\VS X rest eM Q) h ?_) λD σ H ⟨H0,hs,er,l⟩=>w H0 hs _ σ H er ⟨?_,λv H q=>l.rt v H q,λσ H q=>l.bk σ H q,λσ H q=>l.ct σ H q⟩
 ·rintro pins s σ H D I ⟨eM,H0,hs,er,l,v⟩;exact v pins s σ H D I ⟨H0,hs,er,l⟩
 ·rintro dI H' ⟨eM,q,e⟩;exact⟨eM,H0,hs,e,l,q⟩
theorem Pk{i:Nat}{x:Str}(nd:X.N.Nodup)(hi:sU x X.N 0=some i)(h:Bq X ρ e (.d d))(k:VS X rest (ρ.set i (.d d)) Q)(hx:Loc X.env.scope x:=by exact cm rfl)(hs:dF e (some (.Name x p2)) pos.line X.env=pure false:=by rfl)(hf:X.fn x=true\/X.env.scope.names.lookup x=some .local:=by first|exact .inl rfl|exact .inr rfl|assumption):Iw X (.Assign [.Name x p2] e pos::rest) ρ Q:=
 TF (CB nd (ic hi) hx h hs hf) λH0 hs D σ H er l=>⟨⟨H0,hs,er⟩,λv H' s rv=>l.nx _ _ ⟨_,k,(er.grow s).vT rv⟩⟩
theorem EC{k:Nat}{x:Str}{ps:List Str}{R:List Sl->Sl->Prop}(D:rB X.prog X.w X.K X.mg X.base k x ps (gr X.K R))(hr:iD k X.A)(ha:VA X ρ (e::es) rs)(h:R (rs.map Sl.arg) r)(hg:Gl X x:=by rfl)(qX:(x==("__debug__":Str))=false:=by decide)(he:ao (e::es) X.env=(false,eval e X.env)::ao es X.env:=by rfl)(kY:(cG pos (ao es X.env)).any (·.1)=false:=by rfl):Bq X ρ (.Call (.Name x p) (e::es) [] pos) r:=by
 obtain⟨f,fd,G,b,kp,m⟩:=D
 exact og.weak (EB G hr hg m kp b .nil K9 ha qX he kY) (by rintro σ H Q ⟨er,q⟩;exact ⟨er,λvs H1 s1 r1=>by
  show gr X.K R (vs++[]) H1 Q E0;rw[cf]
  exact⟨rs.map Sl.arg,r,r1.arg,h,λv H2 s2 r2=>q v H2 (s1.trans s2) (r2.since s1)⟩⟩)
end
section
variable {P:aR}{w:bH}{K:aa}{mg:Str->Option ah}{base:bS}
theorem jP.ac5{x qual:Str}{st:b9}{f:aj}{fd:be}{N ps:List Str}{k:Nat}{R:List Sl->Sl->Prop}(F:jP K x qual st f fd)(S:b5 N ps (aJ st))(len:∀as r,R as r->as.length=ps.length/\∀q∈as,∀xs,q≠.o xs)(lU:∀(eR:ah)(A:cj)(outer:List Env)(s:ai)(H:Hp)(E:XK)(as:List Sl) (r:Sl),iD k (A.deeper (envOfC qual (aJ st) s.heap.objs.size f eR))->R as r->
   Iw (pW kx P w K mg base N qual (aJ st) f eR A outer s H E).Dy (eS st) (as++eC (N.length - as.length) .un) λo=>o = .rt r\/(r = .d .none/\∃ρ,o = .nx ρ)):lg P w K mg base kx (k+1) f fd ps (gr K R):=by
 refine F.QY S (λvs H Q E h=>?_) (λeR A outer s H vs Q E hr h=>?_)
 ·obtain⟨as,r,h1,h2,_⟩:=h;rw[h1.length];exact(len as r h2).1
 obtain⟨as,r,h1,h2,q⟩:=h;refine⟨_,lU eR A outer s H E as r hr h2,H,[],yW h1 (len as r h2).2,?_⟩;refine⟨λσ H' ⟨ρ,z,e⟩=>?_,λv H' ⟨r',z,e1,e2⟩=>?_,λσ H' ⟨ρ,z,e⟩=>?_,λσ H' ⟨ρ,z,e⟩=>?_⟩
 ·rcases z with z|⟨rfl,_⟩
  ·cases z
  ·exact q _ H' e.same eK.ip
 ·rcases z with z|⟨_,_,z⟩
  ·cases z;exact q v H' e1 e2
  ·cases z
 ·rcases z with z|⟨_,_,z⟩<;>cases z
 ·rcases z with z|⟨_,_,z⟩<;>cases z
end
end L2
namespace Wk
open PySem
noncomputable def codes(x:Str):List Nat:=x.cps.toList
theorem cL{a b:Str}(h:codes a=codes b):a=b:=PyProof.Rows.ext_toList h
theorem cy(a b:Str):codes (a++b)=codes a++codes b:=by
 show(a++b).cps.toList=_;exact Array.toList_append
noncomputable def dw(c:Nat):List Nat->List (List Nat)
 |[]=>[[]]
 |a::r=>if a=c then[]::dw c r else match dw c r with
  |[]=>[[a]]
  |w::ws=>(a::w)::ws
theorem v9(c:Nat)(l:List Nat):dw c l≠[]:=by
 cases l with
 |nil=>simp[dw]
 |cons a r=>
  rw[dw];split
  ·simp
  ·split<;>simp
noncomputable def qG(c:List Nat):List (List Nat)->List Nat
 |[]=>[]
 |[w]=>w
 |w::v::r=>w++c++qG c (v::r)
theorem rC{c:Nat}:∀{w:List Nat},c∉w->dw c w=[w]
 |[],_=>rfl
 |a::w,h=>by
  have h1:a≠c:=λz=>h (z ▸ aE);have h2:c∉w:=λz=>h (aU _ z);rw[dw,if_neg h1,rC h2]
theorem uc{c:Nat}:∀{w:List Nat}(l:List Nat),c∉w->dw c (w++c::l)=w::dw c l
 |[],l,_=>by rw[eI,dw,if_pos rfl]
 |a::w,l,h=>by
  have h1:a≠c:=λz=>h (z ▸ aE);have h2:c∉w:=λz=>h (aU _ z);rw[cV,dw,if_neg h1,uc l h2]
theorem xc{c:Nat}:∀{ws:List (List Nat)},ws≠[]->(∀w∈ws,c∉w)->dw c (qG [c] ws)=ws
 |[],h,_=>absurd rfl h
 |[w],_,h=>rC (h w aE)
 |w::v::r,_,h=>by
  rw[qG,bM,eB,uc _ (h w aE),xc (by simp) λu hu=>h u (aU _ hu)]
theorem qi(y:Str):∀ws:List Str,codes (AM y ws)=qG (codes y) (ws.map codes)
 |[]=>rfl
 |[w]=>by simp[AM,qG]
 |w::v::r=>by
  have e:AM y (w::v::r)=w++y++AM y (v::r):=by simp[AM]
  rw[e,cy,cy,qi y (v::r)];simp[qG]
theorem lY(x:Str)(c:Nat):(gF x ⟨#[c]⟩).map codes=dw c (codes x):=by
 have h1:=StrLaws.join_split x ⟨#[c]⟩;have h2:=StrLaws.split_free x c;have h3:(gF x ⟨#[c]⟩).map codes≠[]:=by
  have hp:=PyProof.Rows.split_pos x ⟨#[c]⟩;intro z;have hz:gF x ⟨#[c]⟩=[]:=List.map_eq_nil_iff.mp z;rw[hz]at hp;exact absurd hp (by simp)
 have h4:codes x=qG [c] ((gF x ⟨#[c]⟩).map codes):=by
  conv=>lhs;rw[<-h1]
  rw[qi];rfl
 rw[h4,xc h3 λw hw=>by obtain⟨p,hp,rfl⟩:=de.mp hw;exact h2 p hp]
noncomputable def oF(c:Nat)(z:List Nat):List Nat->List Nat
 |[]=>[]
 |a::r=>(if a=c then z else[a])++oF c z r
theorem zd(c:Nat)(z:List Nat):∀a b:List Nat,oF c z (a++b)=oF c z a++oF c z b
 |[],b=>rfl
 |x::a,b=>by rw[cV,oF,oF,zd c z a b,bM]
theorem qH(c:Nat)(z:List Nat):∀l:List Nat,qG z (dw c l)=oF c z l
 |[]=>rfl
 |a::r=>by
  have ih:=qH c z r;rw[dw,oF];by_cases h:a=c
  ·rw[if_pos h,if_pos h,<-ih];cases q:dw c r with
   |nil=>exact absurd q (v9 c r)
   |cons w ws=>simp[qG]
  ·rw[if_neg h,if_neg h,<-ih];cases q:dw c r with
   |nil=>exact absurd q (v9 c r)
   |cons w ws=>cases ws<;>simp[qG]
theorem jL(x z:Str)(c:Nat):codes (bL x ⟨#[c]⟩ z)=oF c (codes z) (codes x):=by
 rw[StrLaws.replace_one,qi,lY,qH]
noncomputable def fH(l:List Nat):List (List Nat):=(dw 32 l).filter (·≠[])
noncomputable def spread(l:List Nat):List Nat:=oF 41 [32,41,32] (oF 40 [32,40,32] l)
noncomputable def ja(l:List Nat):List (List Nat):=fH (spread l)
theorem fb(a b:List Nat):spread (a++b)=spread a++spread b:=by unfold spread;rw[zd,zd]
theorem pw(l:List Nat):fH (32::l)=fH l:=by unfold fH;rw[dw,if_pos rfl];simp
theorem lD{w:List Nat}(l:List Nat)(h:32∉w)(hn:w≠[]):fH (w++32::l)=w::fH l:=by unfold fH;rw[uc _ h];simp[hn]
theorem JW{w:List Nat}(h:32∉w)(hn:w≠[]):fH w=[w]:=by unfold fH;rw[rC h];simp[hn]
theorem Mv(l:List Nat):ja (32::l)=ja l:=by
 show fH (spread ([32]++l))=_;rw[fb,show spread [32]=[32]from by decide,eB,pw];rfl
theorem ED(l:List Nat):ja (40::l)=[40]::ja l:=by
 show fH (spread ([40]++l))=_;rw[fb,show spread [40]=[32,40,32]from by decide];show fH (32::([40]++32::spread l))=_;rw[pw,lD _ (by decide) (by decide)];rfl
theorem Bs(l:List Nat):ja (41::l)=[41]::ja l:=by
 show fH (spread ([41]++l))=_;rw[fb,show spread [41]=[32,41,32]from by decide];show fH (32::([41]++32::spread l))=_;rw[pw,lD _ (by decide) (by decide)];rfl
noncomputable def isWord(w:List Nat):Prop:=w≠[]/\∀c∈w,c≠32/\c≠40/\c≠41
theorem xf:∀{w:List Nat},(∀c∈w,c≠32/\c≠40/\c≠41)->spread w=w
 |[],_=>rfl
 |a::w,h=>by
  obtain⟨_,h1,h2⟩:=h a aE;have:spread ([a]++w)=spread [a]++spread w:=fb [a] w;rw[xf λc hc=>h c (aU _ hc)]at this;rw[<-eB,this];congr 1;simp[spread,oF,h1,h2]
noncomputable def Wr(r:List Nat):Prop:=r=[]\/∃s,r=32::s\/r=41::s\/r=40::s
theorem EE{w r:List Nat}(h:isWord w)(b:Wr r):ja (w++r)=w::ja r:=by
 have Zl:32∉w:=λz=>(h.2 32 z).1 rfl;unfold ja;rw[fb,xf h.2];rcases b with rfl|⟨s,rfl|rfl|rfl⟩
 ·rw[show spread []=[]from rfl,cf,JW Zl h.1];rfl
 ·rw[show(32::s)=[32]++s from rfl,fb,show spread [32]=[32]from by decide,eB,lD _ Zl h.1,pw]
 ·rw[show(41::s)=[41]++s from rfl,fb,show spread [41]=[32,41,32]from by decide];show fH (w++32::([41]++32::spread s))=w::fH (32::([41]++32::spread s));rw[lD _ Zl h.1,pw]
 ·rw[show(40::s)=[40]++s from rfl,fb,show spread [40]=[32,40,32]from by decide];show fH (w++32::([40]++32::spread s))=w::fH (32::([40]++32::spread s));rw[lD _ Zl h.1,pw]
instance (w:List Nat):Decidable (isWord w):=by unfold isWord;infer_instance
noncomputable def flat(xs:List Str):List Nat:=(xs.map codes).flatten
theorem Bt(a:Str)(b:List Str):flat (a::b)=codes a++flat b:=by simp[flat]
theorem lZ(xs:List Str):codes (nS "" xs)=flat xs:=by
 show codes (B0 "" xs)=_;rw[StrLaws.glued_eq_join,qi];have h0:codes ("":Str)=[]:=by decide
 rw[h0];unfold flat;generalize xs.map codes=l;induction l with
 |nil=>rfl
 |cons w l ih=>
  cases l with
  |nil=>simp[qG]
  |cons v l=>rw[qG,ih];simp
noncomputable def ud(c:Nat):Prop:=97<=c/\c<=122
structure ia(x:Str):Prop where
 ne:codes x≠[]
 XS:∀c∈codes x,ud c
 ac6:formOf x=none
 num:x≠"num"
 truth:x≠"truth"
 yes:x≠"yes"
 no:x≠"no"
theorem ia.word{x:Str}(h:ia x):isWord (codes x):=⟨h.ne,λc hc=>by have:=h.XS c hc;unfold ud at this;omega⟩
noncomputable def WT.wf:WT->Prop
 |.name x=>ia x
 |.lam x _ b=>ia x/\b.wf
 |.add a b=>a.wf/\b.wf
 |.less a b=>a.wf/\b.wf
 |.front a b=>a.wf/\b.wf
 |.call a b=>a.wf/\b.wf
 |.cond a b c=>a.wf/\b.wf/\c.wf
 |.case _ h t a b c=>ia h/\ia t/\a.wf/\b.wf/\c.wf
 |_=>True
noncomputable def EF:Kd->List Str
 |.num=>S ["num"]
 |.truth=>S ["truth"]
 |.list k=>S ["(","list"]++EF k++S [")"]
 |.to a b=>S ["(","to"]++EF a++EF b++S [")"]
noncomputable def kc:WT->List Str
 |.num i=>S [gE i]
 |.truth b=>S [if b then "yes" else "no"]
 |.name x=>S [x]
 |.nil k=>S ["(","nil"]++EF k++S [")"]
 |.lam x k b=>S ["(","fun",x]++EF k++kc b++S [")"]
 |.add a b=>S ["(","add"]++kc a++kc b++S [")"]
 |.less a b=>S ["(","less"]++kc a++kc b++S [")"]
 |.front a b=>S ["(","front"]++kc a++kc b++S [")"]
 |.call a b=>S ["(","call"]++kc a++kc b++S [")"]
 |.cond a b c=>S ["(","if"]++kc a++kc b++kc c++S [")"]
 |.case k h t a b c=>S ["(","case"]++EF k++kc a++kc b++S [h,t]++kc c++S [")"]
noncomputable def Pt(l:List Nat)(ts:List Str):Prop:=∀r,Wr r->ja (l++r)=ts.map codes++ja r
theorem mC{x:Str}(h:isWord (codes x)):Pt (codes x) [x]:=λr b=>by rw[EE h b];rfl
theorem Mw(r:List Nat):Wr (41::r):=.inr ⟨r,.inr (.inl rfl)⟩
theorem GU{d:Nat}(h:d<10):∃c,codes (digit d)=[c]/\48<=c/\c<=57/\c=48 + d:=by
 match d,h with
 |0,_=>exact⟨48,by decide,by decide,by decide,rfl⟩
 |1,_=>exact⟨49,by decide,by decide,by decide,rfl⟩
 |2,_=>exact⟨50,by decide,by decide,by decide,rfl⟩
 |3,_=>exact⟨51,by decide,by decide,by decide,rfl⟩
 |4,_=>exact⟨52,by decide,by decide,by decide,rfl⟩
 |5,_=>exact⟨53,by decide,by decide,by decide,rfl⟩
 |6,_=>exact⟨54,by decide,by decide,by decide,rfl⟩
 |7,_=>exact⟨55,by decide,by decide,by decide,rfl⟩
 |8,_=>exact⟨56,by decide,by decide,by decide,rfl⟩
 |9,_=>exact⟨57,by decide,by decide,by decide,rfl⟩
theorem yc:∀(f n d:Nat),d∈kI f n->d<10
 |0,n,d,h=>by cases h
 |f+1,n,d,h=>by
  rw[kI]at h;rcases bf.mp h with rfl|h
  ·exact Nat.mod_lt _ (by decide)
  ·split at h
   ·cases h
   ·exact yc f _ d h
theorem xg:∀{l:List Nat},(∀d∈l,d<10)->flat (l.map digit)=l.map (48 + ·)
 |[],_=>rfl
 |d::l,h=>by
  obtain⟨c,e,_,_,hc⟩:=GU (h d aE);rw[bz,Bt,e,xg λx hx=>h x (aU _ hx),hc];rfl
noncomputable def iY(i:Int):List Nat:=(kI (i.natAbs+1) i.natAbs).reverse
theorem lE(i:Int):∀d∈iY i,d<10:=λd hd=>yc _ _ d (jz.mp hd)
theorem sx(i:Int):iY i≠[]:=by unfold iY;rw[kI];simp
theorem iJ(i:Int):codes (gE i)=(if i<0 then[45]else[])++(iY i).map (48 + ·):=by
 unfold gE;rw[cy,lZ,show(kI (i.natAbs+1) i.natAbs).reverse=iY i from rfl,xg (lE i)];congr 1;split<;>decide
theorem ze(i:Int):isWord (codes (gE i)):=by
 rw[iJ];refine⟨by have:=sx i;simp[this],λc hc=>?_⟩;rcases bj.mp hc with hc|hc
 ·split at hc
  ·simp at hc;subst hc;decide
  ·cases hc
 ·obtain⟨d,hd,rfl⟩:=de.mp hc;have:=lE i d hd;omega
noncomputable def body:List (List Nat×List Str)->List Nat
 |[]=>[]
 |p::r=>32::p.1++body r
noncomputable def Iy:List (List Nat×List Str)->List Str
 |[]=>[]
 |p::r=>p.2++Iy r
theorem EG(ps:List (List Nat×List Str)){r:List Nat}(b:Wr r):Wr (body ps++r):=by
 cases ps with
 |nil=>exact b
 |cons p ps=>exact .inr ⟨_,.inl rfl⟩
theorem Iz:∀{ps:List (List Nat×List Str)},(∀p∈ps,Pt p.1 p.2)->∀r,Wr r->ja (body ps++r)=(Iy ps).map codes++ja r
 |[],_,r,b=>rfl
 |p::ps,h,r,b=>by
  show ja (32::(p.1++body ps++r))=_;rw[Mv,bM,h p aE _ (EG ps b),Iz (λq hq=>h q (aU _ hq)) r b,Iy,bI,bM]
theorem oN{x:Str}{ps:List (List Nat×List Str)}(h:isWord (codes x))(hp:∀p∈ps,Pt p.1 p.2)(ne:ps≠[]):Pt (40::codes x++body ps++[41]) (S ["(",x]++Iy ps++S [")"]):=λr b=>by
 obtain⟨p,qs,rfl⟩:∃p qs,ps=p::qs:=by cases ps with|nil=>exact absurd rfl ne|cons p qs=>exact⟨p,qs,rfl⟩
 show ja (40::(codes x++body (p::qs)++[41]++r))=_;rw[ED,bM,bM,eB,EE h (EG _ (Mw r)),Iz hp _ (Mw r),Bs];simp[S,show codes "("=[40]from by decide,show codes ")"=[41]from by decide]
theorem mq{l m:List Nat}{ts us:List Str}(h:Pt l ts)(e:l=m)(q:ts=us):Pt m us:=e ▸ q ▸ h
theorem sD:∀k:Kd,Pt (flat (Aj k)) (EF k)
 |.num=>mq (mC (x:="num") (by decide)) (by decide) rfl
 |.truth=>mq (mC (x:="truth") (by decide)) (by decide) rfl
 |.list k=>mq (oN (x:="list") (ps:=[(flat (Aj k),EF k)]) (by decide) (λp hp=>by rw[aM]at hp;subst hp;exact sD k) (by simp)) (by simp[Aj,flat,body,show codes "(list"=[40,108,105,115,116]from by decide,show codes "list"=[108,105,115,116]from by decide,show codes " "=[32]from by decide,show codes ")"=[41]from by decide]) (by simp[EF,Iy])
 |.to a b=>mq (oN (x:="to") (ps:=[(flat (Aj a),EF a),(flat (Aj b),EF b)]) (by decide) (λp hp=>by simp only[bf,cM,or_false]at hp;rcases hp with rfl|rfl;exact sD a;exact sD b) (by simp)) (by simp[Aj,flat,body,show codes "(to"=[40,116,111]from by decide,show codes "to"=[116,111]from by decide,show codes " "=[32]from by decide,show codes ")"=[41]from by decide]) (by simp[EF,Iy])
theorem l5:codes ")"=[41]:=by decide
theorem xh:codes " "=[32]:=by decide
theorem ig:∀t:WT,t.wf->Pt (flat (j9 t)) (kc t)
 |.num i,_=>mq (mC (ze i)) (by simp[j9,flat]) rfl
 |.truth true,_=>mq (mC (x:="yes") (by decide)) (by decide) rfl
 |.truth false,_=>mq (mC (x:="no") (by decide)) (by decide) rfl
 |.name x,h=>mq (mC (ia.word h)) (by simp[j9,flat]) rfl
 |.nil k,_=>mq (oN (x:="nil") (ps:=[(flat (Aj k),EF k)]) (by decide) (by simp only[cv];exact⟨sD k,nofun⟩) (by simp)) (by simp[j9,flat,body,show codes "(nil"=40::codes "nil" from by decide,xh,l5]) (by simp[kc,Iy])
 |.lam x k b,h=>mq (oN (x:="fun") (ps:=[(codes x,[x]),(flat (Aj k),EF k),(flat (j9 b),kc b)]) (by decide) (by simp only[cv];exact⟨mC (ia.word h.1),sD k,ig b h.2,nofun⟩) (by simp)) (by simp[j9,flat,body,show codes "(fun"=40::codes "fun" from by decide,xh,l5]) (by simp[kc,Iy])
 |.add a b,h=>mq (oN (x:="add") (ps:=[(flat (j9 a),kc a),(flat (j9 b),kc b)]) (by decide) (by simp only[cv];exact⟨ig a h.1,ig b h.2,nofun⟩) (by simp)) (by simp[j9,flat,body,show codes "(add"=40::codes "add" from by decide,xh,l5]) (by simp[kc,Iy])
 |.less a b,h=>mq (oN (x:="less") (ps:=[(flat (j9 a),kc a),(flat (j9 b),kc b)]) (by decide) (by simp only[cv];exact⟨ig a h.1,ig b h.2,nofun⟩) (by simp)) (by simp[j9,flat,body,show codes "(less"=40::codes "less" from by decide,xh,l5]) (by simp[kc,Iy])
 |.front a b,h=>mq (oN (x:="front") (ps:=[(flat (j9 a),kc a),(flat (j9 b),kc b)]) (by decide) (by simp only[cv];exact⟨ig a h.1,ig b h.2,nofun⟩) (by simp)) (by simp[j9,flat,body,show codes "(front"=40::codes "front" from by decide,xh,l5]) (by simp[kc,Iy])
 |.call a b,h=>mq (oN (x:="call") (ps:=[(flat (j9 a),kc a),(flat (j9 b),kc b)]) (by decide) (by simp only[cv];exact⟨ig a h.1,ig b h.2,nofun⟩) (by simp)) (by simp[j9,flat,body,show codes "(call"=40::codes "call" from by decide,xh,l5]) (by simp[kc,Iy])
 |.cond a b c,h=>mq (oN (x:="if") (ps:=[(flat (j9 a),kc a),(flat (j9 b),kc b),(flat (j9 c),kc c)]) (by decide) (by simp only[cv];exact⟨ig a h.1,ig b h.2.1,ig c h.2.2,nofun⟩) (by simp)) (by simp[j9,flat,body,show codes "(if"=40::codes "if" from by decide,xh,l5]) (by simp[kc,Iy])
 |.case k x y a b c,h=>mq (oN (x:="case") (ps:=[(flat (Aj k),EF k),(flat (j9 a),kc a),(flat (j9 b),kc b),(codes x,[x]),(codes y,[y]),(flat (j9 c),kc c)]) (by decide) (by simp only[cv];exact⟨sD k,ig a h.2.2.1,ig b h.2.2.2.1,mC (ia.word h.1),mC (ia.word h.2.1),ig c h.2.2.2.2,nofun⟩) (by simp)) (by simp[j9,flat,body,show codes "(case"=40::codes "case" from by decide,xh,l5]) (by simp[kc,Iy])
theorem Bu{t:WT}(h:t.wf):ja (codes (aS t))=(kc t).map codes:=by
 have:=ig t h [] (.inl rfl);rw[cf,show ja []=[]from by decide,cf]at this;rw[<-this,aS,lZ]
noncomputable def toks(x:Str):List Str:=((gF (bL (bL x "(" " ( ") ")" " ) ") " ").filter (·≠("":Str)))
theorem vc(l:List Str):(l.filter (·≠("":Str))).map codes=(l.map codes).filter (·≠[]):=by
 induction l with
 |nil=>rfl
 |cons x l ih=>
  have e:(x≠"")↔(codes x≠[]):=by
   constructor
   ·intro h z;exact h (cL (by rw[z];decide))
   ·intro h z;exact h (by rw[z];decide)
  by_cases h:x = ""
  ·subst h;simp only[bz];rw[kr (by simp),kr (by decide),ih]
  ·simp only[bz];rw[ku (by simpa using h),ku (by simpa using e.mp h),bz,ih]
theorem oO:∀{a b:List Str},a.map codes=b.map codes->a=b
 |[],[],_=>rfl
 |[],_::_,h=>by cases h
 |_::_,[],h=>by cases h
 |x::a,y::b,h=>by
  rw[bz,bz]at h;injection h with h1 h2;rw[cL h1,oO h2]
theorem JX{t:WT}(h:t.wf):toks (aS t)=kc t:=by
 have e:(toks (aS t)).map codes=(kc t).map codes:=by
  rw[<-Bu h];unfold toks;rw[vc];show oX _ ((gF _ ⟨#[32]⟩).map codes)=_;rw[lY];show oX _ (dw 32 (codes (bL _ ⟨#[41]⟩ _)))=_;rw[jL];show oX _ (dw 32 (oF 41 _ (codes (bL _ ⟨#[40]⟩ _))))=_;rw[jL];rfl
 exact oO e
end Wk
namespace L2
open PySem PySem.Spec PyProof.Rows
section
variable {X:Cx}{o e:bc}{es:List bc}{to:TE}{t:TA}{apos cI pos p p1 p2 p3:Pos}{j1 j2:Nat}{y z:Str}
noncomputable def XT(y z:Str)(to:TE):TE:=λσ H Q=>to σ H λx H1=>∃l:Str,x = .str l/\l.length + (l.length+1) * z.length<=16777216/\Q (.str (bL l y z)) H1
theorem XU{env:Env}{M:Model}{A:cj}{E:ah->ai->Prop}{s:ai}:aH M A (spliced (cG pos (ao [.Constant (.str y) j1 p1,.Constant (.str z) j2 p2] env))) (λus s1=>us=[.str y s.toks,.str z (s.toks+1)]/\s1={s with toks:=s.toks+2}) E s:=by
 show aH _ _ (spliced ((false,eval (.Constant (.str y) j1 p1) env)::cG pos (ao [.Constant (.str z) j2 p2] env))) _ _ s;refine fK (nq ?_);show aH _ _ (spliced ((false,eval (.Constant (.str z) j2 p2) env)::cG pos (ao [] env))) _ _ _;refine fK (nq ?_);exact ou ⟨rfl,rfl⟩
theorem EH(ho:og X o to)(hyz:(y==z)=false:=by decide)(ir:dH o "replace" X.env (eval o X.env)=eval o X.env:=by rfl)(oE:((cG cI (ao [.Constant (.str y) j1 p1,.Constant (.str z) j2 p2] X.env)).all (λx=>!x.1)&&(kS cI (gM [] X.env)).all (λx=>x.1.isSome)
   && decide ([BZ (.str y) j1 p1,.Constant (.str z) j2 p2].length + ([]:List fA).length + (if([]:List fA).isEmpty then 0 else 1)<30))=true:=by rfl)(iu:(apos.endLine==cI.line)=true:=by rfl):
  og X (.Call (.Attribute o "replace" apos) [.Constant (.str y) j1 p1,.Constant (.str z) j2 p2] [] cI) (XT y z to):=by
 intro pins s σ H Q tp I h;refine sZ ir oE iu rfl (bO (jo tp (ho pins s σ H _ tp I h)) (λ v s1  zq0=>?_) λ_ _ z=>z.2);obtain ⟨NW,x,H1,I1,r1,l,e,hz,q⟩:=zq0;subst e;obtain⟨u,rfl⟩:=r1;obtain⟨h1,h2⟩:=FX I1 (x:=.str l) (v:=.str l u) (T:="str") ⟨u,rfl⟩ rfl;refine⟨"str","str.replace",kq,PySem.F.slot_str_replace,PySem.F.type_str_replace,h1,h2,?_⟩;refine qy rfl (rX ?_);refine bO (XU (pos:=cI) (env:=X.env)) (λ us s2  zq0=>?_) λ_ _ z=>z;obtain ⟨e1,e2⟩:=zq0;subst e1 e2;exact SC.replace (show(s1.toks:Nat)≠0 by omega) (show(s1.toks+1:Nat)≠0 by omega) (show(s1.toks:Nat)≠s1.toks+1 by omega) hyz hz λt' k=>⟨.str _,H1,I1.tok _,⟨_,rfl⟩,q⟩
end
section
variable {X:Cx}{ρ:List Sl}{iter Jw:bc}{xs:List aq}{pos:Pos}
theorem GV{x:Str}{px:Pos}{elt:bc}{scope:Scope}{g:aq->aq}{ok:aq->Bool}(hc:X.calm=true)(hi:VI X ρ (.Name x px) iter xs)(hz:xs.length<=av)(he:∀a∈xs,ok a=true->∀cl C s0 H0 fp pins,VE (X.comp scope cl x C s0 H0 fp pins) (.d a::ρ.map Sl.arg) elt (.d (g a)))(ht:∀a∈xs,∀cl C s0 H0 fp pins,VT (X.comp scope cl x C s0 H0 fp pins) (.d a::ρ.map Sl.arg) Jw (ok a)):
  ∃wi te tc,PI X (.Name x px) iter wi/\(∀cl C s0 H0 fp pins,PE (X.comp scope cl x C s0 H0 fp pins) elt te)/\(∀cl C s0 H0 fp pins,PT (X.comp scope cl x C s0 H0 fp pins) Jw tc)/\∀H0 hs σ H (R:V->Hp->Prop),ER X.K H0 hs ρ σ H->(∀p H',bK H H'->H p=none->sj X.K H' p ((xs.filter ok).map g)->R (.ref p) H')->Lg wi tc te σ H R:=by
 obtain⟨wi,pi,OU⟩:=hi
 refine⟨wi,λσ H Q=>∃(a y:aq)(H0:Hp) (hs:List (V×Sl)),(∀cl C s0 H0 fp pins,VE (X.comp scope cl x C s0 H0 fp pins) (.d a::ρ.map Sl.arg) elt (.d y))/\ER X.K H0 hs (.d a::ρ.map Sl.arg) σ H/\∀v H',bK H H'->Rep X.K H' y v->Q v H',
  λσ H Q=>∃(a:aq)(b:Bool)(H0:Hp) (hs:List (V×Sl)),(∀cl C s0 H0 fp pins,VT (X.comp scope cl x C s0 H0 fp pins) (.d a::ρ.map Sl.arg) Jw b)/\ER X.K H0 hs (.d a::ρ.map Sl.arg) σ H/\∀H',bK H H'->Q b H',pi,λcl C s0 H0 fp pins=>?_,λcl C s0 H0 fp pins=>?_,λH0 hs σ H R er k=>?_⟩
 ·rintro j6 s σ H Q I ⟨a,y,OV,hs,ve,er,q⟩;exact ve cl C s0 H0 fp pins j6 s σ H Q I ⟨⟨OV,hs,er⟩,q⟩
 ·rintro j6 s σ H Q I ⟨a,y,OV,hs,ve,er,q⟩;exact ve cl C s0 H0 fp pins j6 s σ H Q I ⟨⟨OV,hs,er⟩,q⟩
 refine OU H0 hs σ H _ er λIt H1 h s1 hh sep TH=>?_;have OW:ER X.K H0 (h::hs) (ρ.map Sl.arg) σ H1:=(er.grow s1).args.hold hh λ_ _ i xs a q=>by
  exfalso;rw[aw]at q;cases q':ρ[i]? with
  |none=>rw[q']at q;cases q
  |some s=>rw[q']at q;cases s<;>cases q
 refine⟨λi m zs H=>m=xs.length - i/\i<=xs.length/\bK H1 H/\zs.length<=i/\ER X.K H0 (h::hs) (ρ.map Sl.arg) σ H/\bB X.K H (((xs.take i).filter ok).map g) zs,⟨_,rfl,dj _,bK.refl _,au _,OW,by rw[jn];exact .nil⟩,?_⟩;rintro i m zs H' ⟨rfl,hi,sm,OM,Ia,rp⟩;have hh:=Ia.held h aE;by_cases i9:i<xs.length
 ·refine .inr ⟨TH.go i H' hh i9,by omega,λv H2 y us hu=>?_⟩;obtain⟨sy,d,hd,rd⟩:=TH.xq i H' v H2 hh i9 y;have hm:=aI hd;have tk:xs.take (i+1)=xs.take i++[d]:=by rw[ef,hd];rfl
  refine mU.one ⟨d,ok d,H0,h::hs,ht d hm,(Ia.grow sy).comp rd,λH3 s3=>?_⟩ hu;by_cases dS:ok d=true
  ·show ite (ok d=true) _ _;rw[if_pos dS];refine⟨λz H4=>bK H3 H4/\Rep X.K H4 (g d) z,λz H4 ⟨s4,r4⟩=>⟨xs.length - (i+1),by omega,rfl,i9,sm.trans (sy.trans (s3.trans s4)),by simp;omega,Ia.grow (sy.trans (s3.trans s4)),?_⟩,d,g d,H0,h::hs,he d hm dS,((Ia.grow sy).comp rd).grow s3,λz H4 s4 r4=>⟨s4,r4⟩⟩;rw[tk,ki,bI,ku dS];exact(bB.mono (bq.of_same (sy.trans (s3.trans s4))) _ _ rp).append (.one r4)
  ·show ite (ok d=true) _ _;rw[if_neg dS];refine⟨xs.length - (i+1),by omega,rfl,i9,sm.trans (sy.trans s3),by omega,Ia.grow (sy.trans s3),?_⟩;rw[tk,ki,bI,kr dS,List.filter_nil,gy,cf];exact bB.mono (bq.of_same (sy.trans s3)) _ _ rp
 ·have e:i=xs.length:=by omega
  subst e;refine .inl ⟨TH.stop H' hh,by omega,λp np=>?_⟩;rw[iC]at rp;have s2:=bu np (.lst zs);exact k p _ ((s1.trans sm).trans s2) ((s1.trans sm).free np) ⟨zs,aW,bB.mono (bq.of_same s2) _ _ rp⟩
theorem Mx{x:Str}{px:Pos}{elt:bc}{scope:Scope}{g:aq->aq}{ok:aq->Bool}(hc:X.calm=true)(S:oG X.N X.env.scope scope x)(hi:VI X ρ (.Name x px) iter xs)(hz:xs.length<=av)(he:∀a∈xs,ok a=true->∀cl C s0 H0 fp pins,VE (X.comp scope cl x C s0 H0 fp pins) (.d a::ρ.map Sl.arg) elt (.d (g a)))(ht:∀a∈xs,∀cl C s0 H0 fp pins,VT (X.comp scope cl x C s0 H0 fp pins) (.d a::ρ.map Sl.arg) Jw (ok a))(hs:∀v,dn iter X.env v=pure v:=by intro _;rfl):VE X ρ (.ListComp elt [⟨.Name x px,iter,[Jw],0⟩] scope pos) (.o ((xs.filter ok).map g)):=by
 obtain⟨wi,te,tc,h1,h2,h3,h4⟩:=GV hc hi hz he ht;exact PE.weak (Ea hc S h1 S.pg (λ_ _ _ _ _ _=>HJ (h3 _ _ _ _ _ _)) h2 hs) (by rintro σ H Q ⟨⟨H0,hs,er⟩,q⟩;exact h4 H0 hs σ H Q er λp H' s n l=>q _ H' s ⟨p,rfl,n,l⟩)
end
open Wk (codes)
noncomputable def sg(c:Nat):Str:=⟨#[c]⟩
noncomputable def Zm(x:Str):It:=⟨λi _=>i<x.cps.size,λi H v H'=>H'=H/\∃c,x.cps[i]?=some c/\v = .str (sg c),λi _=>x.cps.size<=i⟩
theorem My{P:aR}{w:bH}{K:aa}{tg:bc}(it:aj)(x:Str)(t:Tok)(ty:String)(ht:ty = "str_ascii_iterator"\/ty = "str_iterator"):Turn P w K tg (Zm x) [it] it (λi h=>h.IsStrIter it ty x t i) where
 mem:=by simp
 obj:=λi h st b hb=>by
  have e:b=it:=by simpa using hb
  subst e;obtain⟨o,e,c,d⟩:=st;exact⟨o,e,λv z=>by rw[d]at z;cases z⟩
 keep:=λi h h' st k=>by obtain⟨o,e,r⟩:=st;exact⟨o,k it (by simp) o e,r⟩
 item:=by
  intro X hP hw hK hc i pins s σ H E I hf st hg;subst hP hw hK;have hi:i<x.cps.size:=hg;obtain⟨f0,f1,f2,f3,f4,f5⟩:=hf it (by simp);have fin:∀h':bS,h'.IsStrIter it ty x t (i+1)->gx it s.heap h'->∃u,some (wF (sg x.cps[i]) s.toks)=some u/\aH (model X.prog X.w) X.A (letOwnedTupleGo tg (.ref it) u) (λ_ s2=>∃y H',Inv X pins σ H' s2/\RelV y u/\(Zm x).xq i H y H'/\s2.heap.IsStrIter it ty x t (i+1)/\∀b∈[it],H' b=none) E {s with heap:=h',toks:=s.toks+1}:=by
   intro h' wQ sb;have I1:Inv X pins σ H {s with heap:=h',toks:=s.toks+1}:=I.turned (t':=s.toks+1) (λb o hb e=>(sb.2 b hb).trans e) f0 f1 f3 f4 f5;obtain⟨o,e,c,d⟩:=id wQ;refine⟨_,rfl,DJ (s:={s with heap:=h',toks:=s.toks+1}) e c d (by rcases ht with rfl|rfl<;>decide) ⟨.str (sg x.cps[i]),H,I1,⟨_,rfl⟩,⟨rfl,x.cps[i],by simp[hi],rfl⟩,wQ,λb hb=>(hf b hb).1⟩⟩
  rcases ht with rfl|rfl
  ·exact wpAny_pyNext_ascii_item st (c:=x.cps[i]) (by simp[hi]) λh' Gk XW=>fin h' Gk XW
  ·exact wpAny_pyNext_wide_item st (c:=x.cps[i]) (by simp[hi]) λh' Gk XW=>fin h' Gk XW
 done:=by
  intro X hP hw hK hc i pins s σ H E I hf st hg;subst hP hw hK;have hi:x.cps.size<=i:=hg;obtain⟨f0,f1,f2,f3,f4,f5⟩:=hf it (by simp);rcases ht with rfl|rfl
  ·exact wpAny_pyNext_ascii_end (I.ok.hd hc) st (by simp[hi]) λh' eb=>⟨rfl,I.turned (t':=s.toks) (λb o hb e=>eb b o hb e) f0 f1 f3 f4 f5⟩
  ·exact wpAny_pyNext_wide_end (I.ok.hd hc) st (by simp[hi]) λh' eb=>⟨rfl,I.turned (t':=s.toks) (λb o hb e=>eb b o hb e) f0 f1 f3 f4 f5⟩
 self:=λ_ _ _ _ _ st h=>by
  rcases ht with rfl|rfl
  ·exact wpAny_pyIter_striter_ascii st h
  ·exact wpAny_pyIter_striter_wide st h
noncomputable def ac7(tl:TE):TI:=λσ H R=>tl σ H λv H1=>∃x,v = .str x/\R (Zm x) H1
section
variable {X:Cx}{tg:bc}
theorem TJ{l:bc}{tl:TE}(hl:PE X l tl):PI X tg l (ac7 tl):=by
 intro pins s σ H R I h;refine gb (hl pins s σ H _ I h) λ v s1  zq0=>?_;obtain ⟨y,H1,I1,r1,x,e,q⟩:=zq0;subst e;obtain⟨t,rfl⟩:=r1;have fin:∀ty,ty = "str_ascii_iterator"\/ty = "str_iterator"->WL X pins σ tg R (.ref s1.heap.objs.size) {s1 with heap:=s1.heap.push {cls:=.type ty,data:=.fields #[.str x t,.int 0 0]}}:=by
  intro ty ht;refine⟨s1.heap.objs.size,[s1.heap.objs.size],_,_,H1,rfl,I1.kept (t':=s1.toks) λb o e=>af _ e,My _ x t ty ht,⟨_,aB _ rfl,rfl,rfl⟩,λb hb=>?_,q⟩;have e:b=s1.heap.objs.size:=by simpa using hb
  subst e;exact I1.oC (au _) (I1.dS.fresh (au _))
 cases ha:x.cps.all (·<128)
 ·exact wpAny_pyIter_wide ha (fin _ (.inr rfl))
 ·exact wpAny_pyIter_ascii ha (fin _ (.inl rfl))
end
section
variable {X:Cx}{ρ:List Sl}{e a b c tg iter:bc}{es:List bc}{r ra rb:Sl}{p pos p2 p3 apos cI:Pos}{d:aq}{ds xs:List aq}{rs:List Sl}
noncomputable def Mz(x:Str):List aq:=(codes x).map λc=>.str (sg c)
theorem MA{K:aa}{x:Str}:GF K (Zm x) (.ip,.un) (Mz x) where
 go:=λi H _ hi=>by show i<x.cps.size;simpa[Mz,codes]using hi
 xq:=λi H v H' _ hi ⟨e,c,hc,hv⟩=>by
  subst e hv;refine⟨bK.refl _,.str (sg c),?_,.str _⟩;show((codes x).map λc=>lr (sg c))[i]?=_;rw[aw,show(codes x)[i]?=some c from by show x.cps.toList[i]?=some c;rw[ll];exact hc];rfl
 stop:=λH _=>by show x.cps.size<=(Mz x).length;simp[Mz,codes]
theorem MB{x:Str}(h:VE X ρ iter (.d (.str x))):VI X ρ tg iter (Mz x):=
 ⟨_,TJ h,λH0 hs σ H R er k=>⟨⟨H0,hs,er⟩,λv H1 s1 q=>by
  obtain rfl:=eK.cY q
  exact⟨x,rfl,k _ H1 (.ip,.un) s1 trivial (λ_ z=>nomatch z) MA⟩⟩⟩
theorem TK:uB X (compareOp .In) (λx y H Q=>∃(c:Nat)(z:Str),x = .str (sg c)/\y = .str z/\Q (.bl (decide (c∈codes z))) H):=by
 intro pins s σ H x y v u Q I rx ry h;obtain⟨c,z,rfl,rfl,q⟩:=h;obtain⟨t,rfl⟩:=rx;obtain⟨t2,rfl⟩:=ry;refine in_str ⟨.bl _,H,I,rfl,?_⟩;rw[show(sg c)=⟨#[c]⟩from rfl,StrLaws.found_one];exact q
theorem TL{c:Nat}{z:Str}(ha:VE X ρ a (.d (.str (sg c))))(hb:VE X ρ b (.d (.str z)))(hm:behindInMarks .In b=false:=by rfl):VE X ρ (.Compare a [.In] [b] pos) (.d (.bool (decide (c∈codes z)))):=
 vV TK ha hb (λH u w Q rx ry q=>⟨c,z,fV.cY rx,fV.cY ry,q _ H (bK.refl H) eK.bool⟩) hm
end
open Builtin Builtin.Str
open Wk (codes)
section
variable {X:Cx}{pins:List (aj×Obj)}{σ:St}{H:Hp}{s:ai}
noncomputable def TM:V->List V->Hp->VK->Prop:=λx vs H Q=>∃(l y:Str),x = .str l/\vs=[.str y]/\(y.length==0)=false/\l.length<=av/\(gF l y).length<=av/\
 (partsBetween l (occurrences l y 0 l.length (l.length+1)) y.length).length<=av/\∀p,H p=none->Q (.ref p) (upd H p (.lst ((gF l y).map V.str)))
theorem Bv:∀(l:List (Str×Tok)),cX ((l.map (·.1)).map V.str) (strValues l)
 |[]=>.nil
 |p::l=>.cons ⟨p.2,rfl⟩ (Bv l)
theorem MC:Su X "str.split" TM:=by
 intro pins s σ H x vs v us Q I rx rv h;obtain⟨l,y,rfl,rfl,hy,hl,hn,hp,q⟩:=h;obtain⟨t,rfl⟩:=rx;obtain⟨u',rfl,ru⟩:=rv.one;obtain⟨u,rfl⟩:=ru;have fin:∀(ls:List (Str×Tok)) (tk:Nat),ls.map (·.1)=gF l y->EP X pins σ Q (.ref s.heap.objs.size) {s with toks:=tk,heap:=s.heap.push {cls:=.type "list",data:=.seq (strValues ls).toArray}}:=by
  intro ls tk e;have hf:H s.heap.objs.size=none:=I.dS.fresh (au _);refine⟨.ref s.heap.objs.size,_,I.laid (t':=tk) (a:=s.heap.objs.size) (o:=.lst ((gF l y).map V.str)) (λb o e=>af _ e) (au _) ⟨by rw[ay];exact hn,strValues ls,0,?_,aB _ rfl⟩,rfl,q _ hf⟩;rw[<-e];exact Bv ls
 cases h1:(decide (l.length<y.length)||decide (strKind l<strKind y))
 ·cases hf:(occurrences l y 0 l.length (l.length+1)).isEmpty
  ·refine call_meets Ag (typeIs_str _ _ _) xO (wL _ _) (meets_str_split_sep l y t u h1 hy hf hl hp) ?_;show wants (EP X pins σ Q) X.xe _ {s with toks:=_,heap:=s.heap.push {cls:=.type "list",data:=.seq (strsFrom s.toks (partsBetween l (occurrences l y 0 l.length (l.length+1)) y.length)).toArray}};rw[strsFrom_eq];exact fin (numbered s.toks _) _ ((numbered_texts _ _).trans ((if_neg (ne_true_of_eq_false h1)).trans (if_neg (ne_true_of_eq_false hf))).symm)
  ·exact call_meets Ag (typeIs_str _ _ _) xO (wL _ _) (meets_str_split_not_found l y t u h1 hy hf) (fin [(l,t)] s.toks ((if_neg (ne_true_of_eq_false h1)).trans (if_pos hf)).symm)
 ·exact call_meets Ag (typeIs_str _ _ _) xO (wL _ _) (meets_str_split_cannot_occur l y t u h1) (fin [(l,t)] s.toks (if_pos h1).symm)
noncomputable def TN:V->List V->Hp->VK->Prop:=λx vs H Q=>∃(l:Str)(c i:Nat)(rest:List Nat),x = .str l/\vs=[.str (sg c)]/\occurrences l (sg c) 0 l.length 1=i::rest/\Q (.int i) H
theorem MD:Su X "str.index" TN:=by
 intro pins s σ H x vs v us Q I rx rv h;obtain⟨l,c,i,rest,rfl,rfl,ho,q⟩:=h;obtain⟨t,rfl⟩:=rx;obtain⟨u',rfl,ru⟩:=rv.one;obtain⟨u,rfl⟩:=ru;exact SC.index ho ⟨.int i,H,I.tok _,⟨_,rfl⟩,q⟩
theorem zg:∀{bs:List Bool}{us:List ah},cX (bs.map V.bl) us->us=bs.map lL
 |[],_,.nil=>rfl
 |b::bs,_,.cons r t=>by rw[zg t];cases r;rfl
theorem JY(hc:X.calm=true):mS X (.builtin "all") (λxs H Q=>∃(l:aj)(bs:List Bool),xs=[.ref l]/\fU X.K H l (bs.map V.bl)/\Q (.bl (bs.all id)) H):=by
 intro pins s σ H xs us Q I rv h;obtain⟨l,bs,rfl,hq,q⟩:=h;obtain⟨u,rfl,ru⟩:=rv.one;cases ru;obtain⟨cq,r,p,hz⟩:=I.list hq;obtain rfl:=zg r;have lt:l<s.heap.objs.size:=by obtain⟨o,e,_⟩:=p.isList;exact aC e
 refine call_all_walk (l7 p.isList ⟨s.heap.objs.size,[s.heap.objs.size,l],[s.heap.objs.size],_,_,_,λi=>(bs[i]?).getD true,rfl,Walks.list (by first|exact I.ok.hd hc|(simpa using I.ok.hd hc)) _ l (aZ lt) ((bs.map lL).toArray),?_,?_,?_⟩)
 ·exact⟨⟨_,aB _ rfl,rfl,rfl⟩,p.isList.at λo e=>af _ e⟩
 ·intro i v s Q E hP hQ;have Wc:(bs.map lL)[i]?=some v:=by simpa using hP
  rw[aw]at Wc;cases hb:bs[i]? with
  |none=>rw[hb]at Wc;cases Wc
  |some b=>
   rw[hb]at Wc;cases Wc;have hQ':Q ((bs[i]?).getD true) s:=hQ;rw[hb]at hQ';exact iz hQ'
 ·intro h' tk kp;have I':Inv X pins σ H {s with heap:=h',toks:=tk}:=I.kept λb o e=>kp b o (by simp;exact aZ (aC e)) (af _ e);refine⟨.bl _,H,I',rfl,?_⟩;have e:(qI ((bs.map lL).toArray.size)).all (λi=>(bs[i]?).getD true)=bs.all id:=by
   rw[iT,lT,lT];constructor
   ·intro h b hb;obtain⟨i,hi⟩:=lN.mp hb;have:=h i (by simp;exact(ak.mp hi).1);rw[hi]at this;exact this
   ·intro h i hi;cases hb:bs[i]? with
    |none=>rfl
    |some b=>exact h b (aI hb)
  show Q (.bl ((qI ((bs.map lL).toArray.size)).all (λi=>(bs[i]?).getD true))) H;rw[e];exact q
end
section
variable {X:Cx}{ρ:List Sl}{e a b c tg iter:bc}{es:List bc}{r ra rb:Sl}{p pos p1 p2 p3 apos cI:Pos}{j1 j2:Nat}{d:aq}{ds xs:List aq}{rs:List Sl}
theorem ME{l y:Str}(ha:VE X ρ a (.d (.str l)))(hb:VE X ρ b (.d (.str y)))(hy:(y.length==0)=false)(hl:l.length<=av)(hn:(gF l y).length<=av)(hp:(partsBetween l (occurrences l y 0 l.length (l.length+1)) y.length).length<=av)(ir:dH a "split" X.env (eval a X.env)=eval a X.env:=by rfl)(oE:((cG cI (ao [b] X.env)).all (λx=>!x.1)&&(kS cI (gM [] X.env)).all (λx=>x.1.isSome)&&decide ([b].length + ([]:List fA).length + (if([]:List fA).isEmpty then 0 else 1)<30))=true:=by rfl)(iu:(apos.endLine==cI.line)=true:=by rfl)(hs:ao [b] X.env=(false,eval b X.env)::ao [] X.env:=by rfl)(jX:(cG cI (ao [] X.env)).any (·.1)=false:=by rfl):VE X ρ (.Call (.Attribute a "split" apos) [b] [] cI) (.o ((gF l y).map .str)):=
 PE.weak (ph kq PySem.F.slot_str_split PySem.F.type_str_split MC ha (aO hb bD hs) ir oE iu hs jX) λσ H Q ⟨er,q⟩=>⟨er,λv H1 s1 r1=>by
  obtain rfl:=eK.cY r1;refine⟨rfl,dC er s1,λu H2 s2 r2=>?_⟩;obtain rfl:=eK.cY r2;refine⟨l,y,rfl,rfl,hy,hl,hn,hp,λp np=>?_⟩;have s3:=bu np (.lst ((gF l y).map V.str))
  exact q _ _ ((s1.trans s2).trans s3) ⟨p,rfl,(s1.trans s2).free np,_,aW,sv _⟩⟩
theorem MF{l:Str}{k i:Nat}{rest:List Nat}(ha:VE X ρ a (.d (.str l)))(hb:VE X ρ b (.d (.str (sg k))))(ho:occurrences l (sg k) 0 l.length 1=i::rest)(ir:dH a "index" X.env (eval a X.env)=eval a X.env:=by rfl)(oE:((cG cI (ao [b] X.env)).all (λx=>!x.1)&&(kS cI (gM [] X.env)).all (λx=>x.1.isSome)&&decide ([b].length + ([]:List fA).length + (if([]:List fA).isEmpty then 0 else 1)<30))=true:=by rfl)(iu:(apos.endLine==cI.line)=true:=by rfl)(hs:ao [b] X.env=(false,eval b X.env)::ao [] X.env:=by rfl)(jX:(cG cI (ao [] X.env)).any (·.1)=false:=by rfl):VE X ρ (.Call (.Attribute a "index" apos) [b] [] cI) (.d (.int i)):=
 PE.weak (ph kq PySem.F.slot_str_index PySem.F.type_str_index MD ha (aO hb bD hs) ir oE iu hs jX) λσ H Q ⟨er,q⟩=>⟨er,λv H1 s1 r1=>by
  obtain rfl:=eK.cY r1;refine⟨rfl,dC er s1,λu H2 s2 r2=>?_⟩;obtain rfl:=eK.cY r2
  exact⟨l,k,i,rest,rfl,rfl,ho,q _ H2 (s1.trans s2) eK.int⟩⟩
theorem zh{K:aa}{H:Hp}:∀{bs:List Bool}{vs:List V},bB K H (bs.map PyData.bool) vs->vs=bs.map V.bl
 |[],vs,h=>by rw[gy,bB]at h;exact h
 |x::xs,vs,h=>by
  obtain⟨v,r,rfl,h1,h2⟩:=h.split;rw[Rep]at h1;rw[h1,zh h2];rfl
theorem TQ{bs:List Bool}(hc:X.calm=true)(hm:X.mg "all"=none)(ha:VE X ρ a ra)(ea:ra.cq=some (bs.map .bool))(hg:Gl X "all":=by rfl)(hs:ao [a] X.env=[(false,eval a X.env)]:=by rfl):VE X ρ (.Call (.Name "all" p) [a] [] pos) (.d (.bool (bs.all id))):=
 PE.weak (gf (JY hc) hg hm PyProof.Rows.boot_all (aO ha bD hs) (by decide) (by decide) hs) (by rintro σ H Q ⟨er,q⟩;exact ⟨er,λv H1 s1 r1=>by
  obtain⟨l,vs,rfl,hq,rp⟩:=r1.rd.lst ea;obtain rfl:=zh rp
  exact⟨l,bs,rfl,fU.of hq,q _ H1 s1 eK.bool⟩⟩)
theorem xi{l y z:Str}(ha:Bq X ρ a (.d (.str l)))(hz:l.length + (l.length+1) * z.length<=16777216)(hyz:(y==z)=false:=by decide)(ir:dH a "replace" X.env (eval a X.env)=eval a X.env:=by rfl)(oE:((cG cI (ao [.Constant (.str y) j1 p1,.Constant (.str z) j2 p2] X.env)).all (λx=>!x.1)&&(kS cI (gM [] X.env)).all (λx=>x.1.isSome)
   && decide ([BZ (.str y) j1 p1,.Constant (.str z) j2 p2].length + ([]:List fA).length + (if([]:List fA).isEmpty then 0 else 1)<30))=true:=by rfl)(iu:(apos.endLine==cI.line)=true:=by rfl):Bq X ρ (.Call (.Attribute a "replace" apos) [.Constant (.str y) j1 p1,.Constant (.str z) j2 p2] [] cI) (.d (.str (bL l y z))):=
 og.weak (EH ha hyz ir oE iu) (by rintro σ H Q ⟨er,q⟩;exact ⟨er,λv H1 s1 r1=>by
  obtain rfl:=eK.cY r1
  exact⟨l,rfl,hz,q _ H1 s1 eK.str⟩⟩)
end
section
variable {X:Cx}{ρ:List Sl}{b:bc}{p pos p2 apos cI:Pos}
noncomputable def getD(f:Option (List Str)):aq:=match f with
 |some ds=>.tuple (ds.map .str)
 |none=>.none
theorem Pl{x y:Str}{f:Str->Option (List Str)}(T:JU X.prog X.w X.K X.mg x f)(hb:VE X ρ b (.d (.str y)))(hg:Gl X x:=by rfl)(hd:(x==("__debug__":Str))=false:=by decide)(ir:dH (.Name x p2) "get" X.env (eval (.Name x p2) X.env)=eval (.Name x p2) X.env:=by rfl)(oE:((cG cI (ao [b] X.env)).all (λx=>!x.1)&&(kS cI (gM [] X.env)).all (λx=>x.1.isSome)&&decide ([b].length + ([]:List fA).length + (if([]:List fA).isEmpty then 0 else 1)<30))=true:=by rfl)(iu:(apos.endLine==cI.line)=true:=by rfl)(hs:ao [b] X.env=[(false,eval b X.env)]:=by rfl)(hbt:cG cI [(false,eval b X.env)]=[(false,eval b X.env)]:=by rfl):
  VE X ρ (.Call (.Attribute (.Name x p2) "get" apos) [b] [] cI) (.d (getD (f y))):=by
 obtain⟨F,o,vs,h1,h2,h3,h4,h5⟩:=T.ex;have h6:=h5 y;have go:∃v:ah,((valueAt vs (.inr y:Key)).getD .none)=v/\∃w:V,RelV w v/\∀H H',eK X.K H H' (.d (getD (f y))) w:=by
  cases hf:f y with
  |none=>rw[hf]at h6;exact⟨_,rfl,.ip,by rw[h6];rfl,λH H'=>eK.ip⟩
  |some ds=>
   rw[hf]at h6;obtain⟨t,h7,h8⟩:=h6;exact⟨_,rfl,.ref t,by rw[h7];rfl,λH H'=>eK.mk (h8 H') (sv ds)⟩
 obtain⟨v,hv,w,A1,hR⟩:=go;have key:PE X (.Call (.Attribute (.Name x p2) "get" apos) [b] [] cI) (λσ H Q=>(tR X.K ρ (.d (.str y))) σ H λ_ H1=>Q w H1):=by
  intro pins s σ H Q I hq;refine sZ ir oE iu (by rw[hs,hbt]) (gb (xR (v:=.ref F) hg h1 rfl hd pins s σ H (λu H'=>u = .ref F/\H'=H) I ⟨rfl,rfl⟩) λ u s1  zq0=>?_);obtain ⟨v1,H1,I1,rx,e1,e2⟩:=zq0;subst e1 e2;cases rx;have dd:s1.heap.DictOf (dB X.prog X.w) F vs:=yk.mpr ⟨o,I1.uA F o h2,h3⟩;refine⟨"dict","dict.get",Aq,PySem.F.slot_dict_get,PySem.F.type_dict_get,dd.typeIs,dd.mapOf.noDict,?_⟩;refine wpAny_dict_get1 (knd:=dB X.prog X.w) h4 (gb (hb pins s1 σ H1 (λz H'=>z = .str y/\Q w H') I1 ⟨hq.1,λv H' s' r=>⟨eK.cY r,hq.2 v H' s' r⟩⟩) λ iv s2  zq0=>?_);obtain ⟨z,H2,I2,ry,e3,q2⟩:=zq0;subst e3;have V7:s2.heap.DictOf (dB X.prog X.w) F vs:=yk.mpr ⟨o,I2.uA F o h2,h3⟩
  exact⟨.inr y,_,yz (k:=.inr y) ry,V7.mapOf,by
   show EP X pins σ Q ((valueAt vs (.inr y:Key)).getD .none) _;rw[hv]
   exact⟨w,H2,I2.tok _,A1,q2⟩⟩
 exact PE.weak key (by rintro σ H Q ⟨er,q⟩;exact ⟨er,λu H2 s2 r2=>q _ H2 s2 (hR H H2)⟩)
end
section
variable {X:Cx}{ρ:List Sl}{a b:bc}{p pos p2 apos cI:Pos}
noncomputable def ac8:V->Option Int->Option Int->Hp->VK->Prop:=λx lo hi H Q=>∃z:Str,x = .str z/\lo=some 1/\hi=none/\z.length<=av/\Q (.str (Txt.slice z (some 1) none)) H
theorem Pm:YT X ac8:=by
 intro pins s σ H x v vl vu lo hi sl Q I rx hs pl pu h;obtain⟨z,rfl,rfl,rfl,hz,q⟩:=h;obtain⟨t,rfl⟩:=rx;cases pl with
 |int i u=>
  cases pu;exact⟨"str",_,PySem.F.slot_str_getitem.lookup,typeIs_str _ _ _,wpAny_getItem_str_slice (l:=some (1,u)) (u:=none) (st:=none) hs rfl (post_val_or_str ⟨aX (Txt.slice_le z _ _) hz,λt' k=>⟨.str _,H,I.tok _,⟨_,rfl⟩,q⟩⟩)⟩
noncomputable def zi(z:Str):Str:=Txt.slice z (some 1) none
theorem EI{z:Str}(h:1<=z.length):Wk.codes (zi z)=(Wk.codes z).drop 1:=by
 unfold zi;rw[PyProof.Rows.slice_from_eq (i:=1) (b:=(z.length:Int)) (by decide) (by omega) rfl];show((z.cps.toList.drop 1).take ((z.length:Int) - 1).toNat)=z.cps.toList.drop 1;apply dR;have:z.cps.toList.length=z.length:=by simp[Str.length]
 rw[pM];omega
theorem MG{z:Str}(ha:VE X ρ a (.d (.str z)))(hb:VE X ρ b (.d (.int 1)))(hz:z.length<=av):VE X ρ (.Subscript a (.Slice (some b) none none p2) pos) (.d (.str (zi z))):=
 PE.weak (pf Pm ha (xU hb) xT) (by rintro σ H Q ⟨er,q⟩;exact ⟨er,λv H1 s1 r1=>⟨dC er s1,λu H2 s2 r2=>⟨1,eK.cP r2,z,eK.cY r1,rfl,rfl,hz,q _ H2 (s1.trans s2) eK.str⟩⟩⟩)
end
theorem TR{prog:aR}{w:bH}{A:cj}{E:ah->ai->Prop}{s:ai}{zp TI TO p:aj}{elts:List bc}{kk:Nat}{AH:Pos}{Q:Unit->ai->Prop}(hz:mV s.heap zp TI TO)(hQ:∀h',mV h' zp TI TO->gx zp s.heap h'->Q () {s with heap:=h'}):
  aH (model prog w) A (letOwnedTupleGo (.Tuple elts kk AH) (.ref zp) (.ref p)) Q E s:=by
 obtain⟨f0,f1,Ej,hf⟩:=hz;unfold letOwnedTupleGo;refine ae (wpAny_load Ej ?_)
 show aH _ _ (if(["enumerate","zip","dict_itemiterator","dict_reverseitemiterator","odict_iterator","itertools.zip_longest","itertools.pairwise"].contains "zip" &&
   (#[f0,f1,.bool false,.ref TI,.ref TO]:Array ah)[0]?==some (rawInt p))=true then _ else _) Q E s
 refine fN (λ_=>?_) (λ_=>ax (hQ s.heap ⟨f0,f1,Ej,hf⟩ ⟨rfl,λ_ _=>rfl⟩));refine ae (pK ?_);show aH _ _ (setField (.ref zp) 0 .none) Q E s;exact cQ Ej (by simp) λh' hz' XW=>hQ h' ⟨_,_,hz',.inl rfl⟩ XW
theorem JZ{elts:List bc}{kk:Nat}{AH:Pos}{P:aR}{w:bH}{K:aa}{zp TI TO i1 i2 t1 t2:aj}{QD QE:Hp->List V->Prop}{QF QG:Nat->bS->Prop}{Xs Xt:Array ah->bS->Prop}(ap:ZipApart zp TI TO i1 i2 t1 t2)(S1:Src P w K i1 t1 QD QF Xs)(S2:Src P w K i2 t2 QE QG Xt):
  Turn P w K (.Tuple elts kk AH) (S0 QD QE) [zp,TI,TO,i1,i2] zp (λi h=>mV h zp TI TO/\IsPair h TI (.ref i1) (.ref i2)/\(∃a b,IsPair h TO a b)/\QF i h/\QG i h):=Bg ap TR S1 S2
noncomputable abbrev Zn(h:bS)(l1:aj):bS:=h.push {cls:=.type "tuple_iterator",data:=.fields #[.ref l1,.int 0 0]}
noncomputable abbrev Zo(h:bS)(l1 l2:aj):bS:=(Zn h l1).push {cls:=.type "list_iterator",data:=.fields #[.ref l2,.int 0 0]}
noncomputable abbrev Zp(h:bS)(l1 l2:aj):bS:=(Zo h l1 l2).push {cls:=.type "tuple",data:=.seq #[.ref h.objs.size,.ref (Zn h l1).objs.size]}
noncomputable abbrev Zq(h:bS)(l1 l2:aj):bS:=(Zp h l1 l2).push {cls:=.type "tuple",data:=.seq #[.none,.none]}
noncomputable abbrev Ws(h:bS)(l1 l2:aj):bS:=(Zq h l1 l2).push {cls:=.type "zip",data:=.fields #[.none,.bool false,.bool false,.ref (Zo h l1 l2).objs.size,.ref (Zp h l1 l2).objs.size]}
theorem MH(l1 l2:aj)(xs ys:Array ah):
  Meets (Builtin.«zip.__new__» ⟨[.type "zip",.ref l1,.ref l2],[]⟩) (λ_ R s=>s.heap.IsTuple l1 xs/\s.heap.IsList l2 ys/\R (.ok (.ret (.ref (Zq s.heap l1 l2).objs.size))) {s with heap:=Ws s.heap l1 l2}):=
 .of_wp λprog w A R s h=>by
  obtain⟨hp,g,d,tk,os⟩:=s;obtain⟨S3,V8,h⟩:=h;have Xf:=sub_zip;have e1:vB (qS ⟨hp,g,d,tk,os⟩) l1 xs:=S3;have e2:Heap.IsList (qS ⟨hp.push {cls:=.type "tuple_iterator",data:=.fields #[.ref l1,.int 0 0]},g,d,tk,os⟩) l2 ys:=let⟨o,q,r⟩:=V8;⟨o,af _ q,r⟩
  wp_walk using gY e1,l7 e2
  exact⟨_,rfl,h⟩
theorem J1{prog:aR}{w:bH}{A:cj}{E:ah->ai->Prop}{s:ai}{l1 l2:aj}{xs ys:Array ah}{Q:ah->ai->Prop}(e1:s.heap.IsTuple l1 xs)(e2:s.heap.IsList l2 ys)(h:∀h',mV h' (s.heap.objs.size+4) (s.heap.objs.size+2) (s.heap.objs.size+3)->IsPair h' (s.heap.objs.size+2) (.ref s.heap.objs.size) (.ref (s.heap.objs.size+1))->IsPair h' (s.heap.objs.size+3) .none .none->
   h'.IsTupleIter s.heap.objs.size l1 0->h'.IsListIter (s.heap.objs.size+1) l2 0->(∀c o,s.heap.get? c=some o->h'.get? c=some o)->Q (.ref (s.heap.objs.size+4)) {s with heap:=h'}):
  aH (model prog w) A (call (.type "zip") [.ref l1,.ref l2]) Q E s:=by
 refine callType_new F.called_zip (by decide) (F.typeCall_zip_2 _ _) (F.newCall_zip_2 _ _) (λobj=>F.args_object_init_3 obj _ _) F.entry_zip_new (MH l1 l2 xs ys) ⟨e1,e2,?_⟩;have n1:(Zn s.heap l1).objs.size=s.heap.objs.size+1:=eE ..;have n2:(Zo s.heap l1 l2).objs.size=s.heap.objs.size+2:=by rw[eE,n1]
 have n3:(Zp s.heap l1 l2).objs.size=s.heap.objs.size+3:=by rw[eE,n2]
 have n4:(Zq s.heap l1 l2).objs.size=s.heap.objs.size+4:=by rw[eE,n3]
 have k5:(Ws s.heap l1 l2).get? (Zq s.heap l1 l2).objs.size=some _:=aB _ rfl;have k4:(Ws s.heap l1 l2).get? (Zp s.heap l1 l2).objs.size=some _:=af _ (aB _ rfl);have k3:(Ws s.heap l1 l2).get? (Zo s.heap l1 l2).objs.size=some _:=af _ (af _ (aB _ rfl));have k2:(Ws s.heap l1 l2).get? (Zn s.heap l1).objs.size=some _:=af _ (af _ (af _ (aB _ rfl)));have k1:(Ws s.heap l1 l2).get? s.heap.objs.size=some _:=af _ (af _ (af _ (af _ (aB _ rfl))));show _/\_;rw[n2,n3,n4]at k5;rw[n1,n2]at k3;rw[n3]at k4;rw[n1]at k2;rw[n4];exact⟨⟨_,k5,rfl⟩,h _ ⟨_,_,k5,.inl rfl⟩ k3 k4 ⟨_,k1,rfl,rfl⟩ ⟨_,k2,rfl,rfl⟩ λc o x=>af _ (af _ (af _ (af _ (af _ x))))⟩
section
variable {X:Cx}{e1 e2:bc}{ta:TA}{p pos AH:Pos}{elts:List bc}{kk:Nat}
noncomputable def iZU(K:aa)(ta:TA):TI:=λσ H R=>ta σ H λvs H1=>∃a b xs ys,vs=[.ref a,.ref b]/\fF K H1 a xs/\fU K H1 b ys/\R (S0 (λH zs=>fF K H a zs) λH zs=>fU K H b zs) H1
theorem Pn(hg:Gl X "zip")(hm:X.mg "zip"=none)(ha:PA X [e1,e2] ta)(hs:ao [e1,e2] X.env=(false,eval e1 X.env)::ao [e2] X.env:=by rfl)(kY:(cG pos (ao [e2] X.env)).any (·.1)=false:=by rfl):
  PI X (.Tuple elts kk AH) (.Call (.Name "zip" p) [e1,e2] [] pos) (iZU X.K ta):=by
 intro pins s σ H R I h;refine Call_ (md I hg hm boot_zip (cw (gb (ha pos pins s σ H _ I h) λ us s1  zq0=>?_) hs kY));obtain ⟨vs,H1,I1,r1,q1⟩:=zq0;obtain⟨a,b,xs,ys,e,LL,Xu,q⟩:=q1;subst e;obtain⟨u,v,rfl,ru,rv⟩:=vals2 r1;cases ru;cases rv;obtain⟨yL,rv1,Xv,SU⟩:=I1.tuple LL;obtain⟨sR,rv2,Xw,SO⟩:=I1.list Xu;have la:a<s1.heap.objs.size:=Xv.lt;have lb:b<s1.heap.objs.size:=let⟨o,e,_⟩:=Xw.isList;aC e;refine J1 (xs:=yL.toArray) (ys:=sR.toArray) (show s1.heap.IsTuple a yL.toArray from Xv) Xw.isList λh' zz p1 p2 t1 t2 kp=>?_;have ap:ZipApart (s1.heap.objs.size+4) (s1.heap.objs.size+2) (s1.heap.objs.size+3) s1.heap.objs.size (s1.heap.objs.size+1) a b:=apart_new _ a b la lb;have ls:∀c,c=s1.heap.objs.size+4\/c=s1.heap.objs.size+2\/c=s1.heap.objs.size+3\/c=s1.heap.objs.size\/c=s1.heap.objs.size+1->s1.heap.objs.size<=c:=λc hc=>by rcases hc with rfl|rfl|rfl|rfl|rfl<;>first|exact au _|exact Nat.le_add_right _ _
 have T:=JZ (elts:=elts) (kk:=kk) (AH:=AH) (P:=X.prog) (w:=X.w) (K:=X.K) ap (Ci (aZ la)) (OL (aZ (je lb)));refine T.self X.A 0 {s1 with heap:=h'} _ X.xe ⟨zz,p1,⟨_,_,p2⟩,t1,t2⟩ ⟨s1.heap.objs.size+4,_,_,_,H1,rfl,I1.kept (t':=s1.toks) kp,T,⟨zz,p1,⟨_,_,p2⟩,t1,t2⟩,λc hc=>?_,q⟩;have Fu:c=s1.heap.objs.size+4\/c=s1.heap.objs.size+2\/c=s1.heap.objs.size+3\/c=s1.heap.objs.size\/c=s1.heap.objs.size+1:=by simpa using hc
 exact I1.oC (H':=H1) (ls c Fu) (I1.dS.fresh (ls c Fu))
end
structure QZ(K:aa)(J:It)(h g:V×Sl)(xs:List aq):Prop where
 go:∀(i:Nat) H,fV K H h.2 h.1->fV K H g.2 g.1->i<xs.length->J.go i H
 xq:∀(i:Nat) H v H',fV K H h.2 h.1->fV K H g.2 g.1->i<xs.length->J.xq i H v H'->bK H H'/\∃d,xs[i]?=some d/\Rep K H' d v
 stop:∀H,fV K H h.2 h.1->fV K H g.2 g.1->J.stop xs.length H
noncomputable def VI2(X:Cx)(ρ:List Sl)(tg iter:bc)(xs:List aq):Prop:=∃wi,PI X tg iter wi/\∀H0 hs σ H R,ER X.K H0 hs ρ σ H->
 (∀J H1 h g,bK H H1->fV X.K H1 h.2 h.1->fV X.K H1 g.2 g.1->(∀ys,h.2.cq=some ys->∀(i:Nat) zs a,ρ[i]?=some (.o zs)->σ[i]?=some (some (.ref a))->h.1≠.ref a)->g.2.cq=none->QZ X.K J h g xs->R J H1)->wi σ H R
section
variable {X:Cx}{ρ:List Sl}{e a b c tg iter:bc}{es:List bc}{r ra rb:Sl}{p pos p2 p3 AH:Pos}{d:aq}{ds xs:List aq}{rs:List Sl}{Q Q':Out->Prop}{rest:List b9}{st:b9}{elts:List bc}{kk:Nat}
theorem Po{body:List b9}{bind:aq->List Sl->Option (List Sl)}(hp:PassesOwn (model X.prog X.w) X.A X.env X.xe)(hc:X.calm=true)(hi:VI2 X ρ tg iter xs)(hg:VG X tg bind)(J:Nat->List Sl->Prop)(h0:J 0 ρ)(step:∀(i:Nat) d eM,xs[i]?=some d->J i eM->∃sV,bind d eM=some sV/\VS X body sV (LZ X rest Q (J (i+1))))(fin:∀eM,J xs.length eM->VS X rest eM Q)(hs:∀x,dn iter X.env x=pure x:=by intro _;rfl):VS X (.For tg iter body [] pos::rest) ρ Q:=by
 obtain⟨wi,pi,OU⟩:=hi;obtain⟨gg,pg,hgg⟩:=hg;have hb:qD X body (λD σ H=>∃eM Q',VS X body eM Q'/\Wj X.K eM Q' D σ H):=by
  rintro pins s σ H D I ⟨eM,Q',v,q⟩;exact v pins s σ H D I q
 refine lW (vI hp hc pi pg hb hs) λH0 hs D σ H er l=>?_;refine OU H0 hs σ H _ er λIt H1 h g s1 hh hg sep ng ok=>?_;refine⟨λi m σ H=>m=xs.length - i/\i<=xs.length/\∃eM,J i eM/\ER X.K H0 (h::g::hs) eM σ H,⟨_,rfl,dj _,ρ,h0,((er.grow s1).hold hg λys z=>by rw[ng]at z;cases z).hold hh sep⟩,?_⟩;rintro i m σ H ⟨rfl,hi,eM,j,er⟩;have hh:=er.held h aE;have hg:=er.held g (aU _ aE);by_cases i9:i<xs.length
 ·obtain⟨d,hd⟩:∃d,xs[i]?=some d:=⟨_,ag i9⟩;obtain⟨sV,hb2,hv⟩:=step i d eM hd j;refine .inr ⟨ok.go i H hh hg i9,λdI H'=>∃AD,J (i+1) AD/\ER X.K H0 (h::g::hs) AD dI H',by rintro dI H' ⟨AD,j3,e3⟩;exact ⟨xs.length - (i+1),by omega,rfl,i9,AD,j3,e3⟩,λv H' y=>?_⟩;obtain⟨sy,d',Jh,rd⟩:=ok.xq i H v H' hh hg i9 y;rw[hd]at Jh;cases Jh;refine hgg H0 (h::g::hs) eM sV d v σ H' _ (er.grow sy) rd hb2 λAh e2=>⟨sV,_,hv,H0,h::g::hs,e2,?_⟩;exact⟨by rintro σ H ⟨AD,q,e⟩;exact ⟨AD,q,e⟩,by rintro v H ⟨r,q,e⟩;exact l.rt v H ⟨r,q,e⟩,by rintro σ H ⟨AD,q,e⟩;exact l.nx σ H ⟨AD,q,e.vU.vU⟩,by rintro σ H ⟨AD,q,e⟩;exact ⟨AD,q,e⟩⟩
 ·have e:i=xs.length:=by omega
  subst e;exact .inl ⟨ok.stop H hh hg,l.nx _ _ ⟨eM,fin eM j,er.vU.vU⟩⟩
noncomputable def qj(xs ys:List aq):List aq:=(xs.zip ys).map λq=>.tuple [q.1,q.2]
theorem MI{K:aa}{t l:aj}{xs ys:List aq}(hl:xs.length=ys.length):QZ K (S0 (λH zs=>fF K H t zs) λH zs=>fU K H l zs) (.ref l,.l ys) (.ref t,.d (.tuple xs)) (qj xs ys) where
 go:=λi H h g hi=>by
  obtain⟨_,e,vs,h1,h2⟩:=h;cases e;obtain⟨_,ws,e,g1,g2⟩:=Rep.fz g;cases e;have Gr:i<(xs.zip ys).length:=by simpa[qj]using hi
  rw[qO]at Gr;exact⟨ws,vs,g1,fU.of h1,by rw[g2.length,h2.length,hl],by rw[g2.length];omega⟩
 xq:=λi H v H' h g hi y=>by
  obtain⟨_,e,vs,h1,h2⟩:=h;cases e;obtain⟨_,ws,e,g1,g2⟩:=Rep.fz g;cases e;obtain⟨q,x,y',e1,e2,e3,e4⟩:=y;subst e1 e3;obtain⟨k1,k2⟩:=e4 ws vs g1 (fU.of h1);have Gr:i<(xs.zip ys).length:=by simpa[qj]using hi
  rw[qO]at Gr;have hx:i<xs.length:=by omega
  have hy:i<ys.length:=by omega
  have s:=bu e2 (.tup [x,y']);refine⟨s,.tuple [xs[i],ys[i]],?_,?_⟩
  ·unfold qj;rw[aw,ag (by rw[qO];exact Gr),List.getElem_zip];rfl
  ·obtain⟨u1,m1,r1⟩:=g2.get (ag hx);obtain⟨u2,m2,r2⟩:=h2.get (ag hy);rw[k1]at m1;cases m1;rw[k2]at m2;cases m2;exact .tuple (fF.of aW) (.cons (Rep.mono (bq.of_same s) _ _ r1) (.cons (Rep.mono (bq.of_same s) _ _ r2) .nil))
 stop:=λH h g=>by
  obtain⟨_,e,vs,h1,h2⟩:=h;cases e;obtain⟨_,ws,e,g1,g2⟩:=Rep.fz g;cases e;exact⟨ws,vs,g1,fU.of h1,by rw[g2.length,h2.length,hl],by rw[g2.length];simp[qj];omega⟩
theorem TU{ys:List aq}(hm:X.mg "zip"=none)(ha:VE X ρ a (.d (.tuple xs)))(hb:VE X ρ b (.o ys))(hl:xs.length=ys.length)(hg:Gl X "zip":=by rfl)(hs:ao [a,b] X.env=(false,eval a X.env)::ao [b] X.env:=by rfl)(NT:ao [b] X.env=(false,eval b X.env)::ao [] X.env:=by rfl)(kY:(cG pos (ao [b] X.env)).any (·.1)=false:=by rfl):
  VI2 X ρ (.Tuple elts kk AH) (.Call (.Name "zip" p) [a,b] [] pos) (qj xs ys):=
 ⟨_,Pn hg hm (aO ha (aO hb bD NT) hs) hs kY,λH0 hs σ H R er k=>⟨⟨H0,hs,er⟩,λv H1 s1 r1=>⟨dC ⟨H0,hs,er⟩ s1,λu H2 s2 r2=>by
  obtain⟨l,e,n,vs,h1,h2⟩:=r2;subst e;have rt:=r1.rd.mono s2;obtain⟨t,ws,e,g1,g2⟩:=Rep.fz rt;subst e
  exact⟨t,l,ws,vs,rfl,g1,fU.of h1,k _ H2 (.ref l,.l ys) (.ref t,.d (.tuple xs)) (s1.trans s2) ⟨l,rfl,vs,h1,h2⟩ rt (λ_ _=>Cp (er.grow s1) n) rfl (MI hl)⟩⟩⟩⟩
end
end L2
namespace Wk
open PySem
inductive Fd where
 |word (x:Str)|kind (k:Kd)|part (t:WT)
noncomputable def xj:Fd->aq
 |.word x=>.tuple [.str "word",.str x]
 |.kind k=>.tuple [.str "kind",eW k]
 |.part t=>.tuple [.str "part",dY t]
noncomputable def gI:Str:="abcdefghijklmnopqrstuvwxyz"
noncomputable def gJ:Str:="0123456789"
theorem xk(c:Nat):c∈codes gI↔97<=c/\c<=122:=by
 rw[show codes gI=FD 97 26 from by decide,List.mem_range'_1];omega
theorem EJ(c:Nat):c∈codes gJ↔48<=c/\c<=57:=by
 rw[show codes gJ=FD 48 10 from by decide,List.mem_range'_1];omega
noncomputable def tw(x z:Str):Bool:=(!decide (x = ""))&&(codes x).all λc=>decide (c∈codes z)
noncomputable def xB(l:List Nat):Nat:=l.foldl (λn d=>n * 10 + d) 0
theorem EK(l:List Nat)(d:Nat):xB (l++[d])=xB l * 10 + d:=by simp[xB]
theorem Bw:∀(f n:Nat),n<f->xB (kI f n).reverse=n
 |0,n,h=>absurd h (hV _)
 |f+1,n,h=>by
  rw[kI,dD,EK];split
  ·rename_i IA;simp[xB];omega
  ·rename_i IA;rw[Bw f (n / 10) (by omega)];omega
theorem IB(i:Int):xB (iY i)=i.natAbs:=Bw _ _ (qA _)
inductive rD:Str->Fd->Prop
 |num:rD "num" (.kind .num)
 |truth:rD "truth" (.kind .truth)
 |yes:rD "yes" (.part (.truth true))
 |no:rD "no" (.part (.truth false))
 |word {x:Str} {ds:List Str}:formOf x=some ds->rD x (.word x)
 |name {x:Str}:ia x->rD x (.part (.name x))
 |XX {i:Int}:xb i->rD (gE i) (.part (.num i))
inductive vd:List Fd->Fd->Prop
 |list {k}:vd [.word "list",.kind k] (.kind (.list k))
 |to {a b}:vd [.word "to",.kind a,.kind b] (.kind (.to a b))
 |nil {k}:vd [.word "nil",.kind k] (.part (.nil k))
 |lam {x k b}:vd [.word "fun",.part (.name x),.kind k,.part b] (.part (.lam x k b))
 |add {a b}:vd [.word "add",.part a,.part b] (.part (.add a b))
 |less {a b}:vd [.word "less",.part a,.part b] (.part (.less a b))
 |front {a b}:vd [.word "front",.part a,.part b] (.part (.front a b))
 |call {a b}:vd [.word "call",.part a,.part b] (.part (.call a b))
 |cond {a b c}:vd [.word "if",.part a,.part b,.part c] (.part (.cond a b c))
 |case {k h t a b c}:vd [.word "case",.kind k,.part a,.part b,.part (.name h),.part (.name t),.part c] (.part (.case k h t a b c))
inductive EL:List (List Fd)->List Fd->Str->List (List Fd)->List Fd->Prop
 |Zr {lo g}:EL lo g "(" (lo++[g]) []
 |cls {lo g h f}:vd g f->EL (lo++[h]) g ")" lo (h++[f])
 |XY {lo g} {x:Str} {f}:x≠"("->x≠")"->rD x f->EL lo g x lo (g++[f])
inductive sW:List (List Fd)->List Fd->List Str->List (List Fd)->List Fd->Prop
 |nil {lo g}:sW lo g [] lo g
 |cons {lo g x lo1 g1 xs XZ g2}:EL lo g x lo1 g1->sW lo1 g1 xs XZ g2->sW lo g (x::xs) XZ g2
theorem sW.app{lo g lo1 g1 XZ g2}{a b:List Str}(h:sW lo g a lo1 g1)(k:sW lo1 g1 b XZ g2):sW lo g (a++b) XZ g2:=by
 induction h with
 |nil=>exact k
 |cons s _ ih=>exact .cons s (ih k)
theorem rE{lo g}{x:Str}{f}(h1:x≠"(")(h2:x≠")")(h:rD x f):sW lo g [x] lo (g++[f]):=.cons (.XY h1 h2 h) .nil
theorem rF{x:Str}(h:isWord (codes x)):x≠"("/\x≠")":=by
 refine⟨λe=>?_,λe=>?_⟩<;>subst e
 ·exact absurd (h.2 40 (by decide)).2.1 (by simp)
 ·exact absurd (h.2 41 (by decide)).2.2 (by simp)
theorem lR{lo g}{x:Str}{ds:List Str}{ts:List Str}{fs:List Fd}{f:Fd}(hx:isWord (codes x))(hf:formOf x=some ds)(ht:sW (lo++[g]) [.word x] ts (lo++[g]) (.word x::fs))(hb:vd (.word x::fs) f):sW lo g (S ["(",x]++ts++S [")"]) lo (g++[f]):=by
 obtain⟨n1,n2⟩:=rF hx;exact .cons .Zr (.cons (.XY n1 n2 (.word hf)) (sW.app ht (.cons (.cls hb) .nil)))
theorem pA:∀(k:Kd) (lo g),sW lo g (EF k) lo (g++[.kind k])
 |.num,lo,g=>rE (by decide) (by decide) .num
 |.truth,lo,g=>rE (by decide) (by decide) .truth
 |.list k,lo,g=>lR (x:="list") (by decide) rfl (pA k _ _) .list
 |.to a b,lo,g=>by
  have:=lR (lo:=lo) (g:=g) (x:="to") (by decide) rfl ((pA a _ [.word "to"]).app (pA b _ _)) .to;simpa[EF]using this
theorem yn(b:Bool):rD (if b then "yes" else "no") (.part (.truth b)):=by cases b;exact .no;exact .yes
theorem yn1(b:Bool):(if b then("yes":Str)else "no")≠"(":=by cases b<;>decide
theorem yn2(b:Bool):(if b then("yes":Str)else "no")≠")":=by cases b<;>decide
theorem vf{x:Str}(h:ia x)(lo g):sW lo g [x] lo (g++[.part (.name x)]):=rE (rF h.word).1 (rF h.word).2 (.name h)
theorem gi:∀(t:WT),t.wf->t.ok->∀lo g,sW lo g (kc t) lo (g++[.part t])
 |.num i,_,o,lo,g=>rE (rF (ze i)).1 (rF (ze i)).2 (.XX o)
 |.truth b,_,_,lo,g=>rE (yn1 b) (yn2 b) (yn b)
 |.name x,h,_,lo,g=>vf h lo g
 |.nil k,_,_,lo,g=>by simpa[kc]using lR (lo:=lo) (g:=g) (x:="nil") (by decide) rfl (pA k _ _) .nil
 |.lam x k b,h,o,lo,g=>by simpa[kc]using lR (lo:=lo) (g:=g) (x:="fun") (by decide) rfl ((vf h.1 _ [.word "fun"]).app ((pA k _ _).app (gi b h.2 o _ _))) .lam
 |.add a b,h,o,lo,g=>by simpa[kc]using lR (lo:=lo) (g:=g) (x:="add") (by decide) rfl ((gi a h.1 o.1 _ [.word "add"]).app (gi b h.2 o.2 _ _)) .add
 |.less a b,h,o,lo,g=>by simpa[kc]using lR (lo:=lo) (g:=g) (x:="less") (by decide) rfl ((gi a h.1 o.1 _ [.word "less"]).app (gi b h.2 o.2 _ _)) .less
 |.front a b,h,o,lo,g=>by simpa[kc]using lR (lo:=lo) (g:=g) (x:="front") (by decide) rfl ((gi a h.1 o.1 _ [.word "front"]).app (gi b h.2 o.2 _ _)) .front
 |.call a b,h,o,lo,g=>by simpa[kc]using lR (lo:=lo) (g:=g) (x:="call") (by decide) rfl ((gi a h.1 o.1 _ [.word "call"]).app (gi b h.2 o.2 _ _)) .call
 |.cond a b c,h,o,lo,g=>by simpa[kc]using lR (lo:=lo) (g:=g) (x:="if") (by decide) rfl ((gi a h.1 o.1 _ [.word "if"]).app ((gi b h.2.1 o.2.1 _ _).app (gi c h.2.2 o.2.2 _ _))) .cond
 |.case k x y a b c,h,o,lo,g=>by
  simpa[kc]using lR (lo:=lo) (g:=g) (x:="case") (by decide) rfl ((pA k _ [.word "case"]).app ((gi a h.2.2.1 o.1 _ _).app ((gi b h.2.2.2.1 o.2.1 _ _).app ((vf h.1 _ _).app ((vf h.2.1 _ _).app (gi c h.2.2.2.2 o.2.2 _ _)))))) .case
theorem MJ{t:WT}(h:t.wf)(o:t.ok):sW [] [] (kc t) [] [.part t]:=gi t h o [] []
open L2 PySem.Spec PyProof.Rows
noncomputable def zj:Str->Fd->Option aq
 |zc,.part t=>if zc = "part" then some (dY t)else if zc = "name" then match t with
  |.name x=>some (.str x)
  |_=>none
  else none
 |zc,.kind k=>if zc = "kind" then some (eW k)else none
 |_,.word _=>none
noncomputable def MK:List Sl->Sl->Prop:=λas r=>∃x:Str,as=[.d (.str x)]/\r = .d (getD (formOf x))
noncomputable def Q0:List Sl->Sl->Prop:=λas r=>∃x z:Str,as=[.d (.str x),.d (.str z)]/\x.length<=10000000/\r = .d (.bool (tw x z))
noncomputable def X0:List Sl->Sl->Prop:=λas r=>∃(x:Str)(fs:List Nat),as=[.d (.str x)]/\codes x=fs.map (48 + ·)/\(∀d∈fs,d<10)/\r = .d (.int (xB fs))
noncomputable def X1:List Sl->Sl->Prop:=λas r=>∃l:Str,as=[.d (.str l)]/\l.length<=1000000/\r = .o ((toks l).map .str)
noncomputable def Bx:List Sl->Sl->Prop:=λas r=>∃(x:Str)(f:Fd),as=[.d (.str x)]/\x.length<=10000000/\rD x f/\r = .d (xj f)
noncomputable def GW:List Sl->Sl->Prop:=λas r=>∃(zc:Str)(f:Fd)(d:aq),as=[.d (.str zc),.d (xj f)]/\zj zc f=some d/\r = .d d
noncomputable def EM:List Sl->Sl->Prop:=λas r=>∃(g:List Fd)(f:Fd),as=[.l (g.map xj)]/\vd g f/\r = .d (xj f)
noncomputable def GX:List Str->List Fd->Option (List aq×List aq)
 |[],[]=>some ([],[])
 |zc::ds,f::fs=>match zj zc f,GX ds fs with
  |some d,some t=>some (if zc = "part" then(t.1,d::t.2)else(d::t.1,t.2))
  |_,_=>none
 |_,_=>none
theorem J3{ds:List Str}{fs:List Fd}{i:Nat}{tl:List aq×List aq}(hi:i<ds.length)(hj:i<fs.length)(h:GX (ds.drop i) (fs.drop i)=some tl):
  ∃d t,zj ds[i] fs[i]=some d/\GX (ds.drop (i+1)) (fs.drop (i+1))=some t/\tl=(if ds[i] = "part" then(t.1,d::t.2)else(d::t.1,t.2)):=by
 rw[dW hi,dW hj,GX]at h;cases h1:zj ds[i] fs[i]with
 |none=>rw[h1]at h;cases h
 |some d=>
  cases h2:GX (ds.drop (i+1)) (fs.drop (i+1))with
  |none=>rw[h1,h2]at h;cases h
  |some t=>
   rw[h1,h2]at h;cases h;exact⟨d,t,rfl,rfl,rfl⟩
theorem ML{g:List Fd}{f:Fd}(h:vd g f):∃(x:Str)(ds:List Str)(fs:List Fd)(ms os:List aq),g = .word x::fs/\formOf x=some ds/\ds.length=fs.length/\GX ds fs=some (ms,os)/\
  xj f=(if x = "list"\/x = "to" then .tuple [.str "kind",.tuple (.str x::ms)]else .tuple [.str "part",.tuple [.str x,.tuple ms,.tuple os]])/\fs.length<=6:=by
 cases h<;>exact⟨_,_,_,_,_,rfl,rfl,rfl,rfl,rfl,by simp⟩
theorem cN(x:Str):(codes x).length=x.length:=by simp[codes,Str.length]
theorem EN(c:Nat)(z:List Nat)(hz:z.length=3):∀l:List Nat,(oF c z l).length<=3 * l.length
 |[]=>by simp[oF]
 |a::r=>by
  have:=EN c z hz r;rw[oF,aL,aY];split
  ·omega
  ·simp;omega
theorem ke{x z:Str}{c:Nat}(hz:z.length=3):(bL x ⟨#[c]⟩ z).length<=3 * x.length:=by
 rw[<-cN,jL,<-cN x];exact EN c _ (by rw[cN];exact hz) _
theorem zk(c:Nat):∀l:List Nat,(dw c l).length<=l.length+1
 |[]=>by simp[dw]
 |a::r=>by
  have:=zk c r;rw[dw];split
  ·simp;omega
  ·split
   ·simp
   ·rename_i w ws q;rw[q]at this;simp at this ⊢;omega
theorem split_len(x:Str)(c:Nat):(gF x ⟨#[c]⟩).length<=x.length+1:=by
 rw[<-ay (f:=codes),lY,<-cN x];exact zk c _
theorem xl(c:Nat):∀(l:List Nat),∀w∈dw c l,w.length<=l.length
 |[],w,h=>by
  rw[dw,aM]at h;subst h;exact au _
 |a::r,w,h=>by
  have ih:=xl c r;rw[dw]at h;split at h
  ·rcases bf.mp h with rfl|h
   ·simp
   ·have:=ih w h;simp;omega
  ·split at h
   ·rw[aM]at h;subst h;simp
   ·rename_i v vs q;rw[q]at ih;rcases bf.mp h with rfl|h
    ·have:=ih v aE;simp;omega
    ·have:=ih w (aU _ h);simp;omega
theorem J4{l x:Str}(h:x∈toks l):x.length<=9 * l.length:=by
 unfold toks at h;have h1:=(yg.mp h).1;have l1:(bL l "(" " ( ").length<=3 * l.length:=ke (c:=40) (by decide);have l2:(bL (bL l "(" " ( ") ")" " ) ").length<=3 * (bL l "(" " ( ").length:=ke (c:=41) (by decide);have h2:codes x∈dw 32 (codes (bL (bL l "(" " ( ") ")" " ) ")):=by
  rw[<-lY];exact List.mem_map_of_mem h1
 have h3:=xl 32 _ _ h2;rw[cN,cN]at h3;omega
theorem MM(l:Str):(toks l).length<=9 * l.length+1:=by
 unfold toks;have l1:(bL l "(" " ( ").length<=3 * l.length:=ke (c:=40) (by decide);have l2:(bL (bL l "(" " ( ") ")" " ) ").length<=3 * (bL l "(" " ( ").length:=ke (c:=41) (by decide);have h3:=split_len (bL (bL l "(" " ( ") ")" " ) ") 32;exact aX (List.length_filter_le _ _) (aX h3 (by omega))
theorem J5{d:Nat}(h:d<10):Builtin.Str.occurrences gJ (sg (48 + d)) 0 gJ.length 1=[d]:=by
 match d,h with
 |0,_=>symm|1,_=>symm|2,_=>symm|3,_=>symm|4,_=>symm|5,_=>symm|6,_=>symm|7,_=>symm|8,_=>symm|9,_=>symm
theorem By(i:Int):∃c r,codes (gE i)=c::r/\(c=45\/(48<=c/\c<=57)):=by
 rw[iJ];split
 ·exact⟨45,_,rfl,.inl rfl⟩
 ·have h1:=sx i;have h2:=lE i;cases hq:iY i with
  |nil=>exact absurd hq h1
  |cons d r=>
   rw[hq]at h2;have:=h2 d aE;exact⟨48 + d,_,rfl,.inr (by omega)⟩
theorem i7{i:Int}{x:Str}{c:Nat}{r:List Nat}(hx:codes x=c::r)(hc:97<=c):gE i≠x:=by
 intro e;obtain⟨d,r',h1,h2⟩:=By i;rw[e,hx]at h1;injection h1 with h1 _;subst h1;omega
theorem EO(i:Int):formOf (gE i)=none:=by
 unfold formOf
 rw[if_neg (i7 (i:=i) (show codes "list"=108::[105,115,116]from by decide) (by decide)),if_neg (i7 (i:=i) (show codes "to"=116::[111]from by decide) (by decide)),if_neg (i7 (i:=i) (show codes "add"=97::[100,100]from by decide) (by decide)),
  if_neg (i7 (i:=i) (show codes "less"=108::[101,115,115]from by decide) (by decide)),if_neg (i7 (i:=i) (show codes "if"=105::[102]from by decide) (by decide)),if_neg (i7 (i:=i) (show codes "nil"=110::[105,108]from by decide) (by decide)),
  if_neg (i7 (i:=i) (show codes "front"=102::[114,111,110,116]from by decide) (by decide)),if_neg (i7 (i:=i) (show codes "case"=99::[97,115,101]from by decide) (by decide)),if_neg (i7 (i:=i) (show codes "fun"=102::[117,110]from by decide) (by decide)),if_neg (i7 (i:=i) (show codes "call"=99::[97,108,108]from by decide) (by decide))]
theorem ES{x:Str}(h:codes x≠[]):x≠"":=λe=>h (by rw[e];decide)
theorem ue(i:Int):tw (gE i) gI=false:=by
 obtain⟨c,r,h1,h2⟩:=By i;unfold tw;rw[h1,o3,show decide (c∈codes gI)=false from decide_eq_false (by rw[xk];omega)];simp
theorem GY{x:Str}(h:ia x):tw x gI=true:=by
 unfold tw;rw[show decide (x = "")=false from decide_eq_false (ES h.ne),Bool.not_false,B1,lT];intro c hc;exact decide_eq_true ((xk c).mpr (h.XS c hc))
theorem zm{x:Str}{fs:List Nat}(hx:codes x=fs.map (48 + ·))(hf:∀d∈fs,d<10)(hn:fs≠[]):tw x gJ=true:=by
 unfold tw;rw[show decide (x = "")=false from decide_eq_false (ES (by rw[hx];simp[hn])),Bool.not_false,B1,lT,hx];intro c hc;obtain⟨d,hd,rfl⟩:=de.mp hc;have:=hf d hd;exact decide_eq_true ((EJ _).mpr (by omega))
theorem J6{i:Int}(h:i<0):tw (gE i) gJ=false:=by
 unfold tw;rw[iJ,if_pos h,eB,o3,show decide (45∈codes gJ)=false from by decide];simp
end Wk
namespace L2
open PySem PySem.Spec PyProof.Rows
section
variable {X:Cx}{ρ:List Sl}{a b:bc}{pos:Pos}
theorem Pp{x y:Str}(ha:VE X ρ a (.d (.str x)))(hb:VE X ρ b (.d (.str y))):VE X ρ (.Compare a [.NotEq] [b] pos) (.d (.bool (!decide (x=y)))):=
 vV AS ha hb (λH u w Q rx ry q=>by
  obtain rfl:=fV.cY rx;obtain rfl:=fV.cY ry;refine⟨rfl,?_⟩;rw[show decide (V.str x=V.str y)=decide (x=y)from by simp]
  exact q _ H (bK.refl H) eK.bool) (gP _)
end
open Wk (Fd xj)
structure GS(K:aa)(H0:Hp)(T:aj)(ts:List V)(gs:List (List Fd))(G:aj)(as:List aj)(H:Hp):Prop where
 same:bK H0 H
 J7:H0 G=none
 Fx:H G=some (.lst (as.map V.ref))
 len:as.length=gs.length
 each:∀(i:Nat) a g,as[i]?=some a->gs[i]?=some g->sj K H a (g.map xj)/\H0 a=none
 nd:as.Nodup
 nG:G∉as
 nT:T∉as
 GT:T≠G
 tok:H T=some (.lst ts)
section
variable {K:aa}{H0 H H':Hp}{T G:aj}{ts:List V}{gs lo:List (List Fd)}{g:List Fd}{as:List aj}{p a:aj}
theorem GS.grow(x:GS K H0 T ts gs G as H)(s:bK H H'):GS K H0 T ts gs G as H':=
 ⟨x.same.trans s,x.J7,s _ _ x.Fx,x.len,λi a g h1 h2=>⟨(x.each i a g h1 h2).1.mono s,(x.each i a g h1 h2).2⟩,x.nd,x.nG,x.nT,x.GT,s _ _ x.tok⟩
theorem bK.CC{o:HO}(s:bK H0 H)(n:H0 p=none):bK H0 (upd H p o):=λb u e=>by
 have:b≠p:=λz=>by rw[z,n]at e;cases e
 rw[bP this];exact s b u e
theorem GS.push(x:GS K H0 T ts gs G as H)(n:H p=none):GS K H0 T ts (gs++[[]]) G (as++[p]) (upd (upd H p (.lst [])) G (.lst ((as++[p]).map V.ref))):=by
 have np:H0 p=none:=x.same.free n;have pG:G≠p:=λz=>by rw[z]at x;rw[x.Fx]at n;cases n
 have pT:T≠p:=λz=>by have:=x.tok;rw[z,n]at this;cases this
 have pa:p∉as:=λz=>by
  obtain⟨i,hi⟩:=lN.mp z;have hl:i<gs.length:=by rw[<-x.len];exact(ak.mp hi).1
  obtain⟨⟨vs,e,_⟩,_⟩:=x.each i p _ hi (ag hl);rw[n]at e;cases e
 have x1:=x.grow (bu n (.lst []));refine⟨(bK.CC x1.same x.J7),x.J7,aW,by simp[x.len],λi a g h1 h2=>?_,?_,?_,?_,x.GT,by rw[bP x.GT];exact x1.tok⟩
 ·by_cases hi:i<as.length
  ·rw[aK hi]at h1;rw[aK (by rw[<-x.len];exact hi)]at h2;obtain⟨q1,q2⟩:=x1.each i a g h1 h2;exact⟨q1.other x1.Fx (λz=>x.nG (by rw[<-z];exact aI h1)),q2⟩
  ·have e:i=as.length:=by
    have:=(ak.mp h1).1;rw[aL,qR]at this;omega
   subst e;rw[aP (au _),nB]at h1;rw[x.len,aP (au _),nB]at h2;cases h1;cases h2;exact⟨⟨[],by rw[bP (dz pG)];exact aW,.nil⟩,np⟩
 ·rw[kW];exact⟨x.nd,by simp,λa ha b hb=>by rw[aM]at hb;subst hb;exactλz=>pa (z ▸ ha)⟩
 ·intro z;rcases bj.mp z with z|z
  ·exact x.nG z
  ·exact pG (aM.mp z)
 ·intro z;rcases bj.mp z with z|z
  ·exact x.nT z
  ·exact pT (aM.mp z)
theorem GS.last(x:GS K H0 T ts (lo++[g]) G as H):∃xC a,as=xC++[a]/\xC.length=lo.length/\sj K H a (g.map xj)/\H0 a=none:=by
 have hl:as.length=lo.length+1:=by rw[x.len];simp
 have hn:as≠[]:=λz=>by rw[z]at hl;simp at hl
 refine⟨as.dropLast,as.getLast hn,(yl hn).symm,by rw[Fz];omega,?_⟩;exact x.each lo.length _ g (by rw[<-xP hn,List.getLast?_eq_getElem?,hl];rfl) (by rw[aP (au _)];simp)
theorem GS.pop{xC:List aj}(x:GS K H0 T ts (lo++[g]) G (xC++[a]) H):GS K H0 T ts lo G xC (upd H G (.lst (xC.map V.ref)))/\sj K (upd H G (.lst (xC.map V.ref))) a (g.map xj):=by
 have hl:xC.length=lo.length:=by have:=x.len;simp at this;exact this
 have mem:∀{b},b∈xC->b∈xC++[a]:=λh=>bZ _ h;refine⟨⟨bK.CC x.same x.J7,x.J7,aW,hl,λi b h h1 h2=>?_,(kW.mp x.nd).1,λz=>x.nG (mem z),λz=>x.nT (mem z),x.GT,by rw[bP x.GT];exact x.tok⟩,?_⟩
 ·have hi:i<xC.length:=(ak.mp h1).1;obtain⟨q1,q2⟩:=x.each i b h (by rw[aK hi];exact h1) (by rw[aK (by omega)];exact h2);exact⟨q1.other x.Fx (λz=>x.nG (by rw[<-z];exact mem (aI h1))),q2⟩
 ·obtain⟨q1,q2⟩:=x.each xC.length a g (by rw[aP (au _)];simp) (by rw[hl,aP (au _)];simp);exact q1.other x.Fx (λz=>x.nG (by rw[<-z];simp))
theorem GS.add{xC:List aj}{vs:List V}{v:V}{f:Fd}(x:GS K H0 T ts (lo++[g]) G (xC++[a]) H)(h:H a=some (.lst vs))(hr:bB K H (g.map xj) vs)(hv:Rep K H (xj f) v):GS K H0 T ts (lo++[g++[f]]) G (xC++[a]) (upd H a (.lst (vs++[v]))):=by
 have hl:xC.length=lo.length:=by have:=x.len;simp at this;exact this
 have ma:a∈xC++[a]:=by simp
 have aG:G≠a:=λz=>x.nG (z ▸ ma);have aT:T≠a:=λz=>x.nT (z ▸ ma);obtain⟨_,na⟩:=x.each xC.length a g (by rw[aP (au _)];simp) (by rw[hl,aP (au _)];simp);have tl:bq K H (upd H a (.lst (vs++[v]))):=(SameBut.upd _).tup h;refine⟨bK.CC x.same na,x.J7,by rw[bP aG];exact x.Fx,by simp[hl],λi b h' h1 h2=>?_,x.nd,x.nG,x.nT,x.GT,by rw[bP aT];exact x.tok⟩;by_cases hi:i<xC.length
 ·rw[aK (by omega)]at h2;obtain⟨q1,q2⟩:=x.each i b h' h1 (by rw[aK (by omega)];exact h2);rw[aK hi]at h1;refine⟨q1.other h (λz=>?_),q2⟩;have:=(kW.mp x.nd).2.2 b (aI h1) a (by simp);exact this z
 ·have e:i=xC.length:=by
   have:=(ak.mp h1).1;rw[aL,qR]at this;omega
  subst e;rw[aP (au _),nB]at h1;rw[hl,aP (au _),nB]at h2;cases h1;cases h2;exact⟨⟨vs++[v],aW,by rw[bI];exact(bB.mono tl _ _ hr).append (.one (Rep.mono tl _ _ hv))⟩,na⟩
end
theorem qD.use{X:Cx}{ss:List b9}{t:TS}{pins:List (aj×Obj)}{s:ai}{σ:St}{H:Hp}{D:Ends}(h:qD X ss t)(I:Inv X pins σ H s)(q:t D σ H):aH (model X.prog X.w) X.A (execs ss X.env) (SP X pins D) X.xe s:=h pins s σ H D I q
theorem VE.pe{X:Cx}{ρ:List Sl}{e:bc}{r:Sl}(h:VE X ρ e r):PE X e (tR X.K ρ r):=h
theorem VT.pt{X:Cx}{ρ:List Sl}{e:bc}{b:Bool}(h:VT X ρ e b):PT X e (tRT X.K ρ b):=h
theorem zq{K:aa}{H:Hp}{ρ:List Sl}{σ:St}(hl:ρ.length=σ.length)(h:∀(i:Nat) r,ρ[i]?=some r->r = .un\/((∀xs,r≠.o xs)/\∃v,σ[i]?=some (some v)/\fV K H r v)):ER K H [] ρ σ H:=by
 have no:∀{i:Nat}{xs:List aq},ρ[i]?≠some (.o xs):=λ{i xs} q=>by
  rcases h i _ q with z|⟨z,_⟩
  ·cases z
  ·exact z xs rfl
 refine⟨bK.refl H,hl,λi x q=>?_,λi x q=>?_,λi x q=>?_,λi x q=>absurd q no,λi j a xs ys q=>absurd q no,λi j a xs ys _ q=>absurd q no,(λp hp=>nomatch hp),λi xs a q=>absurd q no⟩
 ·rcases h i _ q with z|⟨_,v,h1,h2⟩
  ·cases z
  ·exact⟨v,h1,h2⟩
 ·rcases h i _ q with z|⟨_,v,h1,a,e,h2⟩
  ·cases z
  ·subst e;exact⟨a,h1,h2⟩
 ·rcases h i _ q with z|⟨_,v,h1,h2⟩
  ·cases z
  ·exact⟨v,h1,h2⟩
section
variable {K:aa}{H:Hp}{σ:St}{l x:Str}{a:aj}{xs:List aq}
theorem Pq(hl:σ.length=4)(h0:σ[0]?=some (some (.str l))):ER K H [] [.d (.str l),.un,.un,.un] σ H:=zq hl.symm λi r q=>by
 match i,q with
 |0,q=>cases q;exact .inr ⟨(λ_ z=>nomatch z),_,h0,(.str l:Rep K H (.str l) (.str l))⟩
 |1,q=>cases q;exact .inl rfl
 |2,q=>cases q;exact .inl rfl
 |3,q=>cases q;exact .inl rfl
 |i+4,q=>simp at q
theorem wb(hl:σ.length=4)(h0:σ[0]?=some (some (.str l)))(h2:σ[2]?=some (some (.str x))):ER K H [] [.d (.str l),.un,.d (.str x),.un] σ H:=zq hl.symm λi r q=>by
 match i,q with
 |0,q=>cases q;exact .inr ⟨(λ_ z=>nomatch z),_,h0,(.str l:Rep K H (.str l) (.str l))⟩
 |1,q=>cases q;exact .inl rfl
 |2,q=>cases q;exact .inr ⟨(λ_ z=>nomatch z),_,h2,(.str x:Rep K H (.str x) (.str x))⟩
 |3,q=>cases q;exact .inl rfl
 |i+4,q=>simp at q
theorem TV(hl:σ.length=4)(h0:σ[0]?=some (some (.str l)))(h3:σ[3]?=some (some (.ref a)))(h:sj K H a xs):ER K H [] [.d (.str l),.un,.un,.l xs] σ H:=zq hl.symm λi r q=>by
 match i,q with
 |0,q=>cases q;exact .inr ⟨(λ_ z=>nomatch z),_,h0,(.str l:Rep K H (.str l) (.str l))⟩
 |1,q=>cases q;exact .inl rfl
 |2,q=>cases q;exact .inl rfl
 |3,q=>cases q;exact .inr ⟨(λ_ z=>nomatch z),_,h3,a,rfl,h⟩
 |i+4,q=>simp at q
end
open Wk (EL vd rD sW)
noncomputable def GSt(K:aa)(H0:Hp)(T:aj)(ts:List V)(gs:List (List Fd))(line:Str)(σ:St)(H:Hp):Prop:=
 ∃G as,σ.length=4/\σ[0]?=some (some (.str line))/\σ[1]?=some (some (.ref G))/\GS K H0 T ts gs G as H
noncomputable def X2(K:aa)(line:Str):TS:=λD σ H=>∃H0 T ts lo g tok lo' g',EL lo g tok lo' g'/\tok.length<=10000000/\lo.length<10000000/\(∀h∈lo++[g],h.length<10000000)/\GSt K H0 T ts (lo++[g]) line σ H/\σ[2]?=some (some (.str tok))/\
 ∀dI H',GSt K H0 T ts (lo'++[g']) line dI H'->D.nx dI H'
section
variable {K:aa}{H0 H H':Hp}{hs:List (V×Sl)}{ρ:List Sl}{σ:St}{p a:aj}
theorem sj.CD{xs:List aq}{vs:List V}{o:HO}(h:sj K H a xs)(hp:H p=some (.lst vs))(n:a≠p):sj K (upd H p o) a xs:=by
 obtain⟨us,e,q⟩:=h;exact⟨us,by rw[bP n];exact e,bB.mono ((SameBut.upd _).tup hp) _ _ q⟩
theorem ER.freeze{i:Nat}{xs:List aq}{a:aj}{vs:List V}{o:Obj}(e:ER K H0 hs ρ σ H)(hi:ρ[i]?=some (.o xs))(ha:σ[i]?=some (some (.ref a)))(hv:H a=some (.lst vs))(hw:bB K H xs vs):ER K H0 hs (ρ.set i (.d (.list xs))) σ (upd H a (.pS o (.lst vs))):=by
 have tl:bq K H (upd H a (.pS o (.lst vs))):=(SameBut.upd _).tup hv;have li:i<ρ.length:=(ak.mp hi).1;have h0:H0 a=none:=by
  obtain⟨b,h1,_,h3⟩:=e.own i xs hi;rw[ha]at h1;cases h1;exact h3
 refine⟨λb o q=>by rw[bP (cn q h0)];exact e.same b o q,by rw[fq,e.len],λj x q=>?_,λj x q=>?_,λj x q=>?_,λj x q=>?_,λj k b us zs q1 q2 q3 q4=>?_,λj k b us zs n q1 q2 q3 q4=>?_,λp hp=>?_,λj us b q1 q2=>?_⟩
 ·rcases cp q with⟨rfl,z,_⟩|⟨n,q⟩
  ·cases z;exact⟨.ref a,ha,Rep.list (K:=K) aW (bB.mono tl _ _ hw)⟩
  ·obtain⟨u,h1,h2⟩:=e.dat j x q;exact⟨u,h1,Rep.mono tl _ _ h2⟩
 ·rcases cp q with⟨_,z,_⟩|⟨n,q⟩
  ·cases z
  ·obtain⟨b,h1,h2⟩:=e.lst j x q;exact⟨b,h1,h2.CD hv λz=>e.sS i j a xs x hi q ha (by rw[<-z];exact h1)⟩
 ·rcases cp q with⟨_,z,_⟩|⟨n,q⟩
  ·cases z
  ·obtain⟨u,h1,h2⟩:=e.Kr j x q;exact⟨u,h1,x.mono _ _ _ (Ext.write hv _) h2⟩
 ·rcases cp q with⟨rfl,z,_⟩|⟨n,q⟩
  ·cases z
  ·obtain⟨b,h1,h2,h3⟩:=e.own j x q;exact⟨b,h1,h2.CD hv λz=>e.rj i j a xs x n hi q ha (by rw[<-z];exact h1),h3⟩
 ·rcases cp q2 with⟨_,z,_⟩|⟨n2,q2⟩
  ·cases z
  rcases cp q1 with⟨rfl,_,_⟩|⟨n1,q1⟩
  ·exact e.sS i k b xs zs hi q2 q3 q4
  ·exact e.sS j k b us zs q1 q2 q3 q4
 ·rcases cp q1 with⟨rfl,_,_⟩|⟨n1,q1⟩
  ·rcases cp q2 with⟨z,_,_⟩|⟨n2,q2⟩
   ·exact n z
   ·exact e.rj i k b xs zs n hi q2 q3 q4
  ·rcases cp q2 with⟨rfl,_,_⟩|⟨n2,q2⟩
   ·exact e.rj j i b us xs n q1 hi q3 q4
   ·exact e.rj j k b us zs n q1 q2 q3 q4
 ·have hh:=e.held p hp;obtain⟨pv,ps⟩:=p;cases ps with
  |un=>trivial
  |d x=>exact Rep.mono tl _ _ hh
  |l zs=>obtain⟨b,rfl,q⟩:=hh;exact⟨b,rfl,q.CD hv λz=>e.sT i xs a hi ha (.ref b,.l zs) hp zs rfl (by rw[z])⟩
  |o zs=>obtain⟨b,rfl,q⟩:=hh;exact⟨b,rfl,q.CD hv λz=>e.sT i xs a hi ha (.ref b,.o zs) hp zs rfl (by rw[z])⟩
  |h P=>exact P.mono _ _ _ (Ext.write hv _) hh
 ·rcases cp q1 with⟨rfl,_,_⟩|⟨n1,q1⟩
  ·exact e.sT i xs b hi q2
  ·exact e.sT j us b q1 q2
end
section
variable {X:Cx}{ρ:List Sl}{ss:List b9}{Q:Out->Prop}
theorem J8{i:Nat}{xs:List aq}(hi:ρ[i]?=some (.o xs))(k:VS X ss (ρ.set i (.d (.list xs))) Q):VS X ss ρ Q:=by
 rintro pins s σ H D I ⟨H0,hs,er,l⟩;obtain⟨a,h1,⟨vs,h2,h3⟩,h4⟩:=er.own i xs hi;obtain⟨o,I2⟩:=I.O8 h2;exact k pins s σ _ D I2 ⟨H0,hs,er.freeze hi h1 h2 h3,l⟩
end
section
variable {X:Cx}{ρ:List Sl}{tg iter:bc}{xs:List aq}
theorem J9{K:aa}{a:aj}:GF K (R4 K a) (.ref a,.d (.list xs)) xs where
 go:=λi H h hi=>by
  obtain⟨b,o,vs,e,h1,h2⟩:=Rep.za h;cases e;have hv:i<vs.length:=by rw[h2.length];exact hi
  exact⟨vs,vs[i],.inl (.inr ⟨o,h1⟩),ag hv⟩
 xq:=by
  rintro i H v H' h hi ⟨e2,y⟩;obtain⟨b,o,vs,e,h1,h2⟩:=Rep.za h;cases e;subst e2;obtain⟨u,hu,ru⟩:=h2.get (ag hi);have:=y vs (.inl (.inr ⟨o,h1⟩));rw[hu]at this;cases this;exact⟨bK.refl _,_,ag hi,ru⟩
 stop:=λH h=>by
  obtain⟨b,o,vs,e,h1,h2⟩:=Rep.za h;cases e;exact⟨vs,.inl (.inr ⟨o,h1⟩),by rw[h2.length];exact au _⟩
theorem CF(h:VE X ρ iter (.d (.list xs))):VI X ρ tg iter xs:=
 ⟨_,xS h,λH0 hs σ H R er k=>⟨⟨H0,hs,er⟩,λv H1 s1 r1=>by
  obtain⟨a,o,vs,rfl,h1,h2⟩:=Rep.za (K:=X.K) (H:=H1) r1
  exact⟨a,rfl,⟨vs,.inl (.inr ⟨o,h1⟩)⟩,k _ H1 (.ref a,.d (.list xs)) s1 (Rep.list h1 h2) (λ_ z=>nomatch z) J9⟩⟩⟩
end
end L2
namespace Wk
open PySem L2 PySem.Spec PyProof.Rows
noncomputable abbrev Rw:=List Int×Int×Int
noncomputable def fO(r:Rw):aq:=.tuple [.tuple (r.1.map .int),.int r.2.1,.int r.2.2]
structure BI where
 e:aq
 ln:Str
 rows:List Rw
noncomputable def fP(b:BI):aq:=.tuple [b.e,.str b.ln,.list (b.rows.map fO)]
noncomputable def oneAt(ones:List BI)(i:Nat):BI:=(ones[i]?).getD ⟨.none,"",[]⟩
noncomputable def zr(c8:List Str)(i:Nat):Str:=(c8[i]?).getD ""
noncomputable def k9(c8:List Str)(ones:List BI):Nat->Str
 |0=>zr c8 0
 |i+1=>k9 c8 ones i++(oneAt ones i).ln++zr c8 (i+1)
noncomputable def mh(k n:Nat)(r:Rw):Rw:=((k:Int)::r.1,(n:Int) + r.2.1,(n:Int) + r.2.2)
noncomputable def fJ(c8:List Str)(ones:List BI):Nat->List Rw
 |0=>[]
 |i+1=>fJ c8 ones i++(oneAt ones i).rows.map (mh i (k9 c8 ones i).length)
noncomputable def iR(wd:Str)(ms:List aq)(ones:List BI)(c8:List Str):BI:=
 ⟨.tuple [.str wd,.tuple ms,.tuple (ones.map BI.e)],k9 c8 ones ones.length,fJ c8 ones ones.length++[(([],0,((k9 c8 ones ones.length).length:Int)):Rw)]⟩
noncomputable def rG:List Sl->Sl->Prop:=λas r=>∃(wd:Str)(ms:List aq)(ones:List BI)(c8:List Str),as=[.d (.str wd),.d (.tuple ms),.l (ones.map fP),.l (c8.map .str)]/\c8.length=ones.length+1/\ones.length<=3/\
 (∀i,i<=ones.length->(k9 c8 ones i).length<=1000000/\(fJ c8 ones i).length<=1000000)/\(∀o∈ones,∀r∈o.rows,r.1.length<=1000000)/\r = .d (fP (iR wd ms ones c8))
theorem zt{ones:List BI}{i:Nat}(h:i<ones.length):ones[i]?=some (oneAt ones i):=by unfold oneAt;rw[ag h];rfl
theorem ET{c8:List Str}{i:Nat}(h:i<c8.length):c8[i]?=some (zr c8 i):=by unfold zr;rw[ag h];rfl
noncomputable def dE(c m n:Int):Int:=c * 48271 % m % n
theorem mX(c m:Int){n:Int}(h:0<n):0<=dE c m n:=mJ _ (by omega)
theorem mY(c m:Int){n:Int}(h:0<n):dE c m n<n:=nU _ h
noncomputable def tz(c:Int):Kd:=if dE c 1009 3=1 then .truth else .num
noncomputable def iZ(w:Int):Kd:=if w=0 then .num else if w=1 then .truth else if w=2 then .list .truth else .to .num .truth
noncomputable def xm(c:Int)(k:Nat)(kd:Kd):Kd:=
 if dE (c + k) 1019 2=0 then .list kd else if dE (c + k) 1091 2=0 then .to kd (iZ (dE (c + k) 1087 4))else .to (iZ (dE (c + k) 1087 4)) kd
noncomputable def vg(c:Int):Nat->Kd
 |0=>tz c
 |i+1=>xm c i (vg c i)
noncomputable def kN(c:Int):Nat:=if dE c 1013 8=0 then 0 else if dE c 1013 8=1 then 1 else if dE c 1013 8=2 then 2 else if dE c 1013 8=3 then 3 else if dE c 1013 8=4 then 0 else if dE c 1013 8=5 then 1 else if dE c 1013 8=6 then 2 else 8
noncomputable def eP(c:Int):Kd:=vg c (kN c)
noncomputable def mO(k:Kd):Str:=nS "" (Aj k)
theorem fW(k:Kd):codes (mO k)=flat (Aj k):=lZ _
theorem sE:mO .num = "num":=cL (by rw[fW];decide)
theorem kf:mO .truth = "truth":=cL (by rw[fW];decide)
theorem vh(k:Kd):mO (.list k) = "(list "++mO k ++ ")":=cL (by
 rw[cy,cy,fW,fW,show codes "(list "=codes "(list"++codes " " from by decide]
 simp[Aj,flat])
theorem wc(a b:Kd):mO (.to a b) = "(to "++mO a ++ " "++mO b ++ ")":=cL (by
 rw[cy,cy,cy,cy,fW,fW,fW,show codes "(to "=codes "(to"++codes " " from by decide]
 simp[Aj,flat])
theorem len_app(a b:Str):(a++b).length=a.length + b.length:=by rw[<-cN,cy,aL,cN,cN]
theorem zu(w:Int):(mO (iZ w)).length<=14:=by
 unfold iZ;split
 ·rw[sE];decide
 ·split
  ·rw[kf];decide
  ·split
   ·rw[vh,kf];decide
   ·rw[wc,sE,kf];decide
theorem yd(c:Int):∀i:Nat,(mO (vg c i)).length<=5+20 * i
 |0=>by
  rw[vg,tz];split
  ·rw[kf];decide
  ·rw[sE];decide
 |i+1=>by
  have ih:=yd c i;have ho:=zu (dE (c + i) 1087 4);have e1:("(list ":Str).length=6:=by decide
  have e2:(")":Str).length=1:=by decide
  have e3:("(to ":Str).length=4:=by decide
  have e4:(" ":Str).length=1:=by decide
  rw[vg,xm];split
  ·rw[vh,len_app,len_app,e1,e2];omega
  ·split
   ·rw[wc,len_app,len_app,len_app,len_app,e2,e3,e4];omega
   ·rw[wc,len_app,len_app,len_app,len_app,e2,e3,e4];omega
theorem EU(c:Int):kN c<=8:=by unfold kN;repeat' split<;>try decide
noncomputable def GZ:List Sl->Sl->Prop:=λas r=>∃c:Int,as=[.d (.int c)]/\r = .d (.tuple [eW (eP c),.str (mO (eP c))])
end Wk
namespace L2
open PySem PySem.Spec PyProof.Rows
section
variable {X:Cx}{ρ:List Sl}{e:bc}{p1 p2 p3 p4 p5 p6:Pos}{j1 j2 j3:Nat}
theorem gw{c m n:Int}(h:VE X ρ e (.d (.int c)))(hm:0<m:=by decide)(hn:0<n:=by decide):VE X ρ (.BinOp (.BinOp (.BinOp e .Mult (.Constant (.int 48271) j1 p1) p2) .Mod (.Constant (.int m) j2 p3) p4) .Mod (.Constant (.int n) j3 p5) p6) (.d (.int (Wk.dE c m n))):=
 my (my (p7 h tY (.inr ⟨by decide,by decide⟩)) tY hm) tY hn
end
end L2
namespace Wk
open PySem L2 PySem.Spec PyProof.Rows
noncomputable def MN(c:Int):Nat->Str
 |0=>"q"
 |i+1=>sg (97 + (dE (c+7 * i) 1123 26).toNat)++MN c i
noncomputable def EV(w:Int):Str:=if w=0 then "x" else if w=1 then "total" else if w=2 then "note" else if w=3 then "iffy" else if w=4 then "number" else if w=5 then "lists" else if w=6 then "funny" else "t"
noncomputable def eV(c:Int):Str:=if dE c 1103 3=0 then EV (dE c 1109 8)else MN c (dE c 1117 9).toNat
theorem MO(c:Nat):codes (sg c)=[c]:=rfl
theorem we(c:Int):∀i:Nat,∃p,codes (MN c i)=p++[113]/\(∀d∈p,ud d)/\p.length=i
 |0=>⟨[],(by decide:codes "q"=[]++[113]),by simp,rfl⟩
 |i+1=>by
  obtain⟨p,h1,h2,h3⟩:=we c i;refine⟨(97 + (dE (c+7 * i) 1123 26).toNat)::p,by rw[MN,cy,h1,MO];rfl,λd hd=>?_,by simp[h3]⟩;rcases bf.mp hd with rfl|hd
  ·have a:=mX (c+7 * i) 1123 (n:=26) (by decide);have b:=mY (c+7 * i) 1123 (n:=26) (by decide);unfold ud;omega
  ·exact h2 d hd
theorem oh{x y:Str}(h:∃p,codes x=p++[113])(hy:(codes y).getLast?≠some 113):x≠y:=λe=>by
 obtain⟨p,h⟩:=h;rw[<-e,h]at hy;exact hy (by simp)
theorem MP{x:Str}(h:∃p,codes x=p++[113]):formOf x=none:=by
 unfold formOf;rw[if_neg (oh h (by decide)),if_neg (oh h (by decide)),if_neg (oh h (by decide)),if_neg (oh h (by decide)),if_neg (oh h (by decide)),if_neg (oh h (by decide)),if_neg (oh h (by decide)),if_neg (oh h (by decide)),if_neg (oh h (by decide)),if_neg (oh h (by decide))]
theorem MQ(c:Int)(i:Nat):ia (MN c i):=by
 obtain⟨p,h1,h2,h3⟩:=we c i;have hq:∃p,codes (MN c i)=p++[113]:=⟨p,h1⟩;refine⟨by rw[h1];simp,λd hd=>?_,MP hq,oh hq (by decide),oh hq (by decide),oh hq (by decide),oh hq (by decide)⟩;rw[h1]at hd;rcases bj.mp hd with z|z
 ·exact h2 d z
 ·rw[aM]at z;subst z;exact⟨by decide,by decide⟩
instance (c:Nat):Decidable (ud c):=by unfold ud;infer_instance
theorem IC{x:Str}(h1:codes x≠[])(h2:∀c∈codes x,ud c)(h3:formOf x=none)(h4:x≠"num"/\x≠"truth"/\x≠"yes"/\x≠"no"):ia x:=⟨h1,h2,h3,h4.1,h4.2.1,h4.2.2.1,h4.2.2.2⟩
theorem G0(w:Int):ia (EV w):=by
 unfold EV
 repeat' split
 all_goals exact IC (by decide) (by decide) (by decide) (by decide)
theorem jZ(c:Int):ia (eV c):=by
 unfold eV;split
 ·exact G0 _
 ·exact MQ _ _
theorem ID(c:Int)(i:Nat):(MN c i).length=i+1:=by
 obtain⟨p,h1,_,h3⟩:=we c i;rw[<-cN,h1,aL,h3];rfl
theorem lF(c:Int):(eV c).length<=10:=by
 unfold eV;split
 ·unfold EV;repeat' split
  all_goals decide
 ·rw[ID];have b:=mY c 1117 (n:=9) (by decide);have a:=mX c 1117 (n:=9) (by decide);omega
noncomputable def CG:List Sl->Sl->Prop:=λas r=>∃c:Int,as=[.d (.int c)]/\r = .d (.str (eV c))
theorem G1{w:Int}(h0:0<=w)(h1:w<26):oZ (codes gI) w=some (97 + w.toNat):=by
 rw[<-mQ h0];apply gp;rw[show codes gI=FD 97 26 from by decide,List.getElem?_range' (by omega)];simp;omega
theorem ye{n i:Nat}{d:aq}(h:(mB 0 n)[i]?=some d):i<n/\d = .int (i:Int):=by
 have hi:i<n:=by have:=(ak.mp h).1;simpa[mB]using this
 refine⟨hi,?_⟩;simp[mB,hi]at h;exact h.symm
theorem Bz:∀(f n:Nat)(ds:List Char),xQ 10 f n ds=(kI f n).reverse.map uF++ds
 |0,n,ds=>by simp[xQ,kI]
 |f+1,n,ds=>by
  rw[xQ,kI];by_cases h:n<10
  ·rw[if_pos h,if_pos (show n / 10=0 by omega)];simp
  ·rw[if_neg h,if_neg (show ¬n / 10=0 by omega),Bz f (n / 10)];simp
theorem AI{d:Nat}(h:d<10):(uF d).toNat=48 + d:=by
 match d,h with
 |0,_=>rfl|1,_=>rfl|2,_=>rfl|3,_=>rfl|4,_=>rfl|5,_=>rfl|6,_=>rfl|7,_=>rfl|8,_=>rfl|9,_=>rfl
theorem BA(n:Nat):(Nat.repr n).toList=(kI (n+1) n).reverse.map uF:=by
 unfold Nat.repr Nat.toDigits;rw[Bz];simp
theorem BB{l:List Nat}(h:∀d∈l,d<10):(l.map uF).map As=l.map (48 + ·):=by
 rw[fh];apply mI;intro d hd;exact AI (h d hd)
theorem zw(s:String):codes (fk s)=s.toList.map As:=by
 rw[PySem.Str.ofString_eq_toList];simp[codes]
theorem EW(i:Int):fk (toString i)=gE i:=by
 apply cL;rw[zw,iJ];cases i with
 |ofNat n=>
  rw[if_neg (by simp)];show(Nat.repr n).toList.map As=_;rw[BA,BB λd hd=>yc _ _ d (jz.mp hd)];rfl
 |negSucc n=>
  rw[if_pos (Int.negSucc_lt_zero n)];show("-"++Nat.repr (n+1)).toList.map As=_;rw[String.toList_append,bI,BA,BB λd hd=>yc _ _ d (jz.mp hd)];rfl
end Wk
set_option exponentiation.threshold 1000
namespace L2
open PySem PySem.Spec PyProof.Rows
section
variable {X:Cx}{ρ:List Sl}{a b:bc}{pos:Pos}
theorem Pr:uB X (binaryOp .Mult) (rI IntMulOk λi j=>.int (i * j)):=YQ λ_ _ _ _ _ _ _ hc q=>mul_int q hc
theorem Pu{i j:Int}(ha:VE X ρ a (.d (.int i)))(hb:VE X ρ b (.d (.int j)))(h:IntMulOk i j):VE X ρ (.BinOp a .Mult b pos) (.d (.int (i * j))):=
 uY Pr ha hb λH x y Q rx ry q=>⟨i,j,fV.cP rx,fV.cP ry,h,q _ H (bK.refl H) eK.int⟩
theorem Ka:mS X (.type "int") (λxs H Q=>∃b,xs=[.bl b]/\Q (.int (if b then 1 else 0)) H):=by
 intro pins s σ H xs us Q I r h;obtain⟨b,rfl,q⟩:=h;cases r with
 |cons r1 t=>
  cases t;cases r1;exact call_int_bool ⟨.int _,H,I.tok _,⟨_,rfl⟩,q⟩
theorem Pw{k:Bool}{p:Pos}(hm:X.mg "int"=none)(ha:VE X ρ a (.d (.bool k)))(hg:Gl X "int":=by rfl)(hs:ao [a] X.env=[(false,eval a X.env)]:=by rfl):VE X ρ (.Call (.Name "int" p) [a] [] pos) (.d (.int (if k then 1 else 0))):=
 PE.weak (jq Ka hg hm oy (aO ha bD hs) (by decide) (by decide) hs) (by rintro σ H Q ⟨er,q⟩;exact ⟨er,λv H1 s1 r1=>⟨k,by rw[eK.is_bool r1],q _ H1 s1 eK.int⟩⟩)
theorem G2{i j:Int}(hi:i.natAbs<2 ^ 400)(hj:j.natAbs<2 ^ 400):IntMulOk i j:=by
 have h1:=wM hi;have h2:=wM hj;unfold IntMulOk;rw[show Builtin.Int.intTooBig (Au i + Au j)=false from decide_eq_false (by unfold bitsLine;omega)];simp
end
end L2
namespace Wk
open PySem L2 PySem.Spec PyProof.Rows
noncomputable def km(c:Int):Int:=(c / 4 % 1000000000000000000000 - 5) * (if dE c 1097 3=0 then 1 else if dE c 1097 3=1 then -1 else 10 ^ 70)
noncomputable def fX(c:Int):WT:=
 if dE c 1021 4=0 then .num (km c)else if dE c 1021 4=1 then .truth (decide (dE c 1033 2=0))else if dE c 1021 4=2 then .nil (eP (c / 4))else .name (eV c)
theorem dh(t:WT):codes (aS t)=flat (j9 t):=lZ _
theorem mP(i:Int):aS (.num i)=gE i:=cL (by rw[dh];simp[j9,flat])
theorem mZ(x:Str):aS (.name x)=x:=cL (by rw[dh];simp[j9,flat])
theorem kg(b:Bool):aS (.truth b)=if b then("yes":Str)else "no":=cL (by rw[dh];simp[j9,flat])
theorem BC(k:Kd):aS (.nil k) = "(nil "++mO k ++ ")":=cL (by
 rw[dh,cy,cy,fW,show codes "(nil "=codes "(nil"++codes " " from by decide]
 simp[j9,flat])
noncomputable def dJ(c:Int):BI:=⟨dY (fX c),aS (fX c),[([],0,((aS (fX c)).length:Int))]⟩
noncomputable def MR:List Sl->Sl->Prop:=λas r=>∃c:Int,as=[.d (.int c)]/\r = .d (fP (dJ c))
theorem vi(c:Int):(km c).natAbs<2 ^ 400:=by
 have h1:0<=c / 4 % 1000000000000000000000:=mJ _ (by decide);have h2:c / 4 % 1000000000000000000000<1000000000000000000000:=nU _ (by decide);unfold km;generalize c / 4 % 1000000000000000000000=x at h1 h2;rw[show(2:Nat) ^ 400=2582249878086908589655919172003011874329705792829223512830659356540647622016841194629645353280137831435903171972747493376 from by symm,show(10:Int) ^ 70=10000000000000000000000000000000000000000000000000000000000000000000000 from by symm];split
 ·omega
 ·split<;>omega
theorem rH:∀(f n k:Nat),n<10 ^ (k+1)->(kI f n).length<=k+1
 |0,n,k,_=>by simp[kI]
 |f+1,n,k,h=>by
  rw[kI];split
  ·simp
  ·rename_i IA;cases k with
   |zero=>simp at h;omega
   |succ k=>
    have:=rH f (n / 10) k (by rw[Nat.pow_succ]at h;omega);simp;omega
theorem Px(c:Int):xb (km c):=by
 unfold xb;have:=rH ((km c).natAbs+1) (km c).natAbs 399 (ib (vi c) (by symm));omega
theorem Py(c:Int):(gE (km c)).length<=1000000:=by
 have h:=rH ((km c).natAbs+1) (km c).natAbs 399 (ib (vi c) (by symm));rw[<-cN,iJ,aL,ay];have e:(iY (km c)).length=(kI ((km c).natAbs+1) (km c).natAbs).length:=by unfold iY;simp
 have e2:(if km c<0 then[45]else([]:List Nat)).length<=1:=by split<;>simp
 omega
noncomputable def sF(K:aa):Sp:=λvs H Q _=>∃a xs c,vs=[.ref a,.int c]/\sj K H a xs.reverse/\∀u H',(∀b o,b≠a->H b=some o->H' b=some o)->sj K H' a (Mo (fP (dJ c)) xs).2.reverse->Rep K H' (Mo (fP (dJ c)) xs).1 u->Q u H'
end Wk
namespace L2
open PySem PySem.Spec PyProof.Rows
section
variable {X:Cx}{ρ:List Sl}{Φ:Hp->St->Prop}{e2:bc}{p p2 pos:Pos}
theorem MT{i k:Nat}{f x:Str}{ps:List Str}{xs:List aq}{c:Int}(D:cK X.prog X.w X.K X.mg X.base k f ps (Wk.sF X.K))(TX:iD k X.A)(hi:sU x X.N 0=some i)(hr:ρ[i]?=some (.o xs.reverse))(h2:VE X ρ e2 (.d (.int c)))(hv:AO X.env.scope x:=by first|exact cm rfl|exact cW (cm rfl)|exact cW (cW rfl))(hd:(x==("__debug__":Str))=false:=by decide)(l9:(x==("__classdict__":Str))=false:=by decide)(hg:Gl X f:=by rfl)(qX:(f==("__debug__":Str))=false:=by decide)(he:ao [.Name x p2,e2] X.env=(false,eval (.Name x p2) X.env)::ao [e2] X.env:=by rfl)(X3:ao [e2] X.env=(false,eval e2 X.env)::ao [] X.env:=by rfl)(kY:(cG pos (ao [e2] X.env)).any (·.1)=false:=by rfl):
  VM X Φ ρ (.Call (.Name f p) [.Name x p2,e2] [] pos) (Mo (Wk.fP (Wk.dJ c)) xs).1 (ρ.set i (.o (Mo (Wk.fP (Wk.dJ c)) xs).2.reverse)):=
 PE.weak (iQ D TX hg (aO (gN (ic hi) hv hd l9) (aO h2 bD X3) he) qX he kY) λσ H Q ⟨H0,hs,φ,er,q⟩=>by
  obtain⟨a,h1,h3,h4⟩:=er.own i _ hr;refine⟨_,h1,⟨H0,hs,er⟩,λv H1 s1 r1=>?_⟩;obtain rfl:=eK.cP r1;refine⟨a,xs,c,rfl,h3.mono s1,λu H2 off l2 ru=>?_⟩;have OW:=er.grow s1;have X4:=OW.QU hr h1 off l2;obtain⟨ws,g1,_⟩:=h3.mono s1;have tl:bq X.K H H2:=(bq.of_same s1).trans (SameBut.tup (p:=a) (λb o n e=>off b o n e) g1);exact q u H2 tl X4 ru
end
end L2
namespace Wk
open PySem L2 PySem.Spec PyProof.Rows
noncomputable def WT.Ak:WT->Prop
 |.nil k=>v5 k<=19
 |.lam _ k b=>v5 k<=19/\b.Ak
 |.add a b=>a.Ak/\b.Ak
 |.less a b=>a.Ak/\b.Ak
 |.front a b=>a.Ak/\b.Ak
 |.call a b=>a.Ak/\b.Ak
 |.cond a b c=>a.Ak/\b.Ak/\c.Ak
 |.case k _ _ a b c=>v5 k<=19/\a.Ak/\b.Ak/\c.Ak
 |_=>True
noncomputable def zx:WT->Ex
 |.num i=>.node ("num",[.int i]) []
 |.truth b=>.node ("truth",[.bool b]) []
 |.nil k=>.node ("nil",[eW k]) []
 |.name x=>.node ("name",[.str x]) []
 |.lam x k b=>.node ("fun",[.str x,eW k]) [zx b]
 |.add a b=>.node ("add",[]) [zx a,zx b]
 |.less a b=>.node ("less",[]) [zx a,zx b]
 |.front a b=>.node ("front",[]) [zx a,zx b]
 |.call a b=>.node ("call",[]) [zx a,zx b]
 |.cond a b c=>.node ("if",[]) [zx a,zx b,zx c]
 |.case k h t a b c=>.node ("case",[eW k,.str h,.str t]) [zx a,zx b,zx c]
theorem G3(t:WT):py (zx t)=dY t:=by
 induction t<;>simp_all [zx,py,Xm,dY]
theorem wg(x:Str)(k:Kd)(b:WT):aS (.lam x k b)=("(fun "++x ++ " "++mO k ++ " ")++aS b ++ ")":=cL (by
 simp only[cy,dh,fW,show codes "(fun "=codes "(fun"++codes " " from by decide]
 simp[j9,flat])
theorem lG(a b:WT):aS (.add a b) = "(add "++aS a ++ " "++aS b ++ ")":=cL (by
 simp only[cy,dh,show codes "(add "=codes "(add"++codes " " from by decide]
 simp[j9,flat])
theorem qk(a b:WT):aS (.less a b) = "(less "++aS a ++ " "++aS b ++ ")":=cL (by
 simp only[cy,dh,show codes "(less "=codes "(less"++codes " " from by decide]
 simp[j9,flat])
theorem oj(a b:WT):aS (.front a b) = "(front "++aS a ++ " "++aS b ++ ")":=cL (by
 simp only[cy,dh,show codes "(front "=codes "(front"++codes " " from by decide]
 simp[j9,flat])
theorem ql(a b:WT):aS (.call a b) = "(call "++aS a ++ " "++aS b ++ ")":=cL (by
 simp only[cy,dh,show codes "(call "=codes "(call"++codes " " from by decide]
 simp[j9,flat])
theorem m3(a b c:WT):aS (.cond a b c) = "(if "++aS a ++ " "++aS b ++ " "++aS c ++ ")":=cL (by
 simp only[cy,dh,show codes "(if "=codes "(if"++codes " " from by decide]
 simp[j9,flat])
theorem m4(k:Kd)(x y:Str)(a b c:WT):aS (.case k x y a b c)=("(case "++mO k ++ " ")++aS a ++ " "++aS b++(" "++x ++ " "++y ++ " ")++aS c ++ ")":=cL (by
 simp only[cy,dh,fW,show codes "(case "=codes "(case"++codes " " from by decide]
 simp[j9,flat])
theorem zy(t:WT):((j9 t).map (·.length)).sum=(aS t).length:=by
 rw[<-cN,dh];generalize j9 t=l;induction l with
 |nil=>rfl
 |cons x r ih=>rw[bz,List.sum_cons,ih,Bt,aL,cN]
structure m5(n:Nat)(b:BI):Prop where
 ex:∃t:WT,b.e=dY t/\b.ln=aS t/\t.wf/\t.ok/\t.Ak/\iA t<=n
 ln:b.ln.length<=n
 rows:b.rows.length<=n
 path:∀r∈b.rows,r.1.length<=n
theorem lH{n k m:Nat}{l:List Rw}(h:∀r∈l,r.1.length<=n):∀r∈l.map (mh k m),r.1.length<=n+1:=λr hr=>by
 obtain⟨q,hq,rfl⟩:=de.mp hr;have:=h q hq;simp[mh];exact this
theorem TY{n n1:Nat}{wd:Str}{ms:List aq}{a:BI}{g0 g1:Str}{t:WT}(ha:m5 n1 a)(he:eG [.str wd,.tuple ms,.tuple [a.e]]=dY t)(hl:g0++a.ln++g1=aS t)(h1:t.wf)(h2:t.ok)(h3:t.Ak)(h4:iA t<=n)(hg:g0.length + g1.length + n1+1<=n):m5 n (iR wd ms [a] [g0,g1]):=by
 have hlen:(g0++a.ln++g1).length<=n:=by rw[len_app,len_app];have:=ha.ln;omega
 refine⟨⟨t,he,hl,h1,h2,h3,h4⟩,hlen,?_,?_⟩
 ·have:=ha.rows;simp[iR,fJ,oneAt];omega
 ·intro r hr;simp only[iR,fJ,oneAt,aY,iW,bj,aM,eI]at hr;rcases hr with hr|rfl
  ·have:=lH ha.path r hr;omega
  ·simp
theorem zA{n n1 n2:Nat}{wd:Str}{ms:List aq}{a b:BI}{g0 g1 g2:Str}{t:WT}(ha:m5 n1 a)(hb:m5 n2 b)(he:eG [.str wd,.tuple ms,.tuple [a.e,b.e]]=dY t)(hl:g0++a.ln++g1++b.ln++g2=aS t)(h1:t.wf)(h2:t.ok)(h3:t.Ak)(h4:iA t<=n)(hg:g0.length + g1.length + g2.length + n1 + n2+1<=n):m5 n (iR wd ms [a,b] [g0,g1,g2]):=by
 have hlen:(g0++a.ln++g1++b.ln++g2).length<=n:=by simp only[len_app];have:=ha.ln;have:=hb.ln;omega
 refine⟨⟨t,he,hl,h1,h2,h3,h4⟩,hlen,?_,?_⟩
 ·have:=ha.rows;have:=hb.rows;simp[iR,fJ,oneAt];omega
 ·intro r hr;simp only[iR,fJ,oneAt,aY,iW,bj,aM,eI]at hr;rcases hr with(hr|hr)|rfl
  ·have:=lH ha.path r hr;omega
  ·have:=lH hb.path r hr;omega
  ·simp
theorem MU{n n1 n2 n3:Nat}{wd:Str}{ms:List aq}{a b c:BI}{g0 g1 g2 g3:Str}{t:WT}(ha:m5 n1 a)(hb:m5 n2 b)(hc:m5 n3 c)(he:eG [.str wd,.tuple ms,.tuple [a.e,b.e,c.e]]=dY t)(hl:g0++a.ln++g1++b.ln++g2++c.ln++g3=aS t)(h1:t.wf)(h2:t.ok)(h3:t.Ak)(h4:iA t<=n)(hg:g0.length + g1.length + g2.length + g3.length + n1 + n2 + n3+1<=n):m5 n (iR wd ms [a,b,c] [g0,g1,g2,g3]):=by
 have hlen:(g0++a.ln++g1++b.ln++g2++c.ln++g3).length<=n:=by simp only[len_app];have:=ha.ln;have:=hb.ln;have:=hc.ln;omega
 refine⟨⟨t,he,hl,h1,h2,h3,h4⟩,hlen,?_,?_⟩
 ·have:=ha.rows;have:=hb.rows;have:=hc.rows;simp[iR,fJ,oneAt];omega
 ·intro r hr;simp only[iR,fJ,oneAt,aY,iW,bj,aM,eI]at hr;rcases hr with((hr|hr)|hr)|rfl
  ·have:=lH ha.path r hr;omega
  ·have:=lH hb.path r hr;omega
  ·have:=lH hc.path r hr;omega
  ·simp
theorem EX{n:Nat}{wd:Str}{ms:List aq}{ones:List BI}{c8:List Str}(hg:c8.length=ones.length+1)(h3:ones.length<=3)(hb:m5 n (iR wd ms ones c8))(hn:n<=1000000)(ho:∀o∈ones,∃k,k<=1000000/\m5 k o):rG [.d (.str wd),.d (.tuple ms),.l (ones.map fP),.l (c8.map .str)] (.d (fP (iR wd ms ones c8))):=by
 have up:∀i j,i<=j->(k9 c8 ones i).length<=(k9 c8 ones j).length/\(fJ c8 ones i).length<=(fJ c8 ones j).length:=by
  intro i j h;induction h with
  |refl=>exact⟨au _,au _⟩
  |step h ih=>
   refine⟨aX ih.1 ?_,aX ih.2 ?_⟩
   ·rw[k9,len_app,len_app];omega
   ·rw[fJ,aL];omega
 refine⟨wd,ms,ones,c8,rfl,hg,h3,λi hi=>?_,λo hz r hr=>?_,rfl⟩
 ·have a:=up i _ hi;have b:(k9 c8 ones ones.length).length<=n:=hb.ln;have c:(fJ c8 ones ones.length++_).length<=n:=hb.rows;rw[aL]at c;exact⟨by omega,by omega⟩
 ·obtain⟨k,hk,q⟩:=ho o hz;exact aX (q.path r hr) hk
theorem G4(w:Int):v5 (iZ w)<=2:=by unfold iZ;(repeat' split)<;>decide
theorem Kb(w:Int):Cy (iZ w)<=11:=by unfold iZ;(repeat' split)<;>decide
theorem IE(c:Int):∀i:Nat,v5 (vg c i)<=2 + i
 |0=>by rw[vg,tz];split<;>decide
 |i+1=>by
  have ih:=IE c i;have ho:=G4 (dE (c + i) 1087 4);rw[vg,xm];split
  ·simp only[v5];omega
  ·split<;>simp only[v5]<;>omega
theorem MV(c:Int):∀i:Nat,Cy (vg c i)<=2+18 * i
 |0=>by rw[vg,tz];split<;>decide
 |i+1=>by
  have ih:=MV c i;have ho:=Kb (dE (c + i) 1087 4);rw[vg,xm];split
  ·simp only[Cy];omega
  ·split<;>simp only[Cy]<;>omega
theorem pB(c:Int):v5 (eP c)<=19:=by have:=IE c (kN c);have:=EU c;unfold eP;omega
theorem pC(c:Int):Cy (eP c)<=146:=by have:=MV c (kN c);have:=EU c;unfold eP;omega
theorem sH(c:Int):(mO (eP c)).length<=165:=by have:=yd c (kN c);have:=EU c;unfold eP;omega
theorem MW(c:Int):(gE (km c)).length<=401:=by
 have h:=rH ((km c).natAbs+1) (km c).natAbs 399 (ib (vi c) (by symm));rw[<-cN,iJ,aL,ay];have e:(iY (km c)).length=(kI ((km c).natAbs+1) (km c).natAbs).length:=by unfold iY;simp
 have e2:(if km c<0 then[45]else([]:List Nat)).length<=1:=by split<;>simp
 omega
theorem lS(c:Int):m5 500 (dJ c):=by
 have hl:(aS (fX c)).length<=500/\(fX c).wf/\(fX c).ok/\(fX c).Ak/\iA (fX c)<=500:=by
  unfold fX;split
  ·rw[mP];exact⟨aX (MW c) (by decide),trivial,Px c,trivial,by simp[iA]⟩
  ·split
   ·rw[kg];exact⟨by split<;>decide,trivial,trivial,trivial,by simp[iA]⟩
   ·split
    ·have e1:("(nil ":Str).length=5:=by decide
     have e2:(")":Str).length=1:=by decide
     have:=sH (c / 4);have:=pC (c / 4);rw[BC,len_app,len_app,e1,e2];exact⟨by omega,trivial,trivial,pB _,by simp only[iA];omega⟩
    ·rw[mZ];exact⟨by have:=lF c;omega,jZ c,trivial,trivial,by simp[iA]⟩
 obtain⟨h1,h2,h3,h4,h5⟩:=hl;exact⟨⟨fX c,rfl,rfl,h2,h3,h4,h5⟩,h1,by simp[dJ],λr hr=>by simp only[dJ,aM]at hr;subst hr;simp⟩
noncomputable def MX(x:Str)(k:Kd)(a:BI):BI:=iR "fun" [.str x,eW k] [a] ["(fun "++x ++ " "++mO k ++ " ",")"]
noncomputable def Wt(w:Str)(a b:BI):BI:=iR w [] [a,b] ["("++w ++ " "," ",")"]
noncomputable def xD(a b:BI):BI:=iR "add" [] [a,b] ["(add "," ",")"]
noncomputable def X5(a b c:BI):BI:=iR "if" [] [a,b,c] ["(if "," "," ",")"]
noncomputable def EY(k:Kd)(x y:Str)(a b c:BI):BI:=iR "case" [eW k,.str x,.str y] [a,b,c] ["(case "++mO k ++ " "," "," "++x ++ " "++y ++ " ",")"]
noncomputable def IF(w:Int):Str:=if w=0 then "add" else if w=1 then "less" else if w=2 then "front" else "call"
section
variable {n1 n2 n3:Nat}{a b c:BI}
theorem IH{x:Str}{k:Kd}(hx:ia x)(lx:x.length<=10)(lk:(mO k).length<=165)(dk:v5 k<=19)(wk:Cy k<=146)(ha:m5 n1 a):m5 (n1+300) (MX x k a):=by
 obtain⟨t,e1,e2,e3,e4,e5,e6⟩:=ha.ex;have q1:("(fun ":Str).length=5:=by decide
 have q2:(")":Str).length=1:=by decide
 have q3:(" ":Str).length=1:=by decide
 refine TY (t:=.lam x k t) ha (by rw[e1];rfl) (by rw[e2,wg]) ⟨hx,e3⟩ e4 ⟨dk,e5⟩ (by simp only[iA];omega) ?_;simp only[len_app,q1,q2,q3];omega
theorem vk(ha:m5 n1 a)(hb:m5 n2 b):m5 (n1 + n2+20) (xD a b):=by
 obtain⟨t,e1,e2,e3,e4,e5,e6⟩:=ha.ex;obtain⟨u,f1,f2,f3,f4,f5,f6⟩:=hb.ex;refine zA (t:=.add t u) ha hb (by rw[e1,f1];rfl) (by rw[e2,f2,lG]) ⟨e3,f3⟩ ⟨e4,f4⟩ ⟨e5,f5⟩ (by simp only[iA];omega) ?_;rw[show("(add ":Str).length + (" ":Str).length + (")":Str).length=7 from by decide];omega
theorem MY(w:Int)(ha:m5 n1 a)(hb:m5 n2 b):m5 (n1 + n2+20) (Wt (IF w) a b):=by
 obtain⟨t,e1,e2,e3,e4,e5,e6⟩:=ha.ex;obtain⟨u,f1,f2,f3,f4,f5,f6⟩:=hb.ex;unfold IF;split
 ·refine zA (t:=.add t u) ha hb (by rw[e1,f1];rfl) (by rw[e2,f2,lG,show("(" ++ "add" ++ " ":Str) = "(add " from by decide]) ⟨e3,f3⟩ ⟨e4,f4⟩ ⟨e5,f5⟩ (by simp only[iA];omega) ?_;rw[show("(" ++ "add" ++ " ":Str).length + (" ":Str).length + (")":Str).length=7 from by decide];omega
 ·split
  ·refine zA (t:=.less t u) ha hb (by rw[e1,f1];rfl) (by rw[e2,f2,qk,show("(" ++ "less" ++ " ":Str) = "(less " from by decide]) ⟨e3,f3⟩ ⟨e4,f4⟩ ⟨e5,f5⟩ (by simp only[iA];omega) ?_;rw[show("(" ++ "less" ++ " ":Str).length + (" ":Str).length + (")":Str).length=8 from by decide];omega
  ·split
   ·refine zA (t:=.front t u) ha hb (by rw[e1,f1];rfl) (by rw[e2,f2,oj,show("(" ++ "front" ++ " ":Str) = "(front " from by decide]) ⟨e3,f3⟩ ⟨e4,f4⟩ ⟨e5,f5⟩ (by simp only[iA];omega) ?_;rw[show("(" ++ "front" ++ " ":Str).length + (" ":Str).length + (")":Str).length=9 from by decide];omega
   ·refine zA (t:=.call t u) ha hb (by rw[e1,f1];rfl) (by rw[e2,f2,ql,show("(" ++ "call" ++ " ":Str) = "(call " from by decide]) ⟨e3,f3⟩ ⟨e4,f4⟩ ⟨e5,f5⟩ (by simp only[iA];omega) ?_;rw[show("(" ++ "call" ++ " ":Str).length + (" ":Str).length + (")":Str).length=8 from by decide];omega
theorem MZ(ha:m5 n1 a)(hb:m5 n2 b)(hc:m5 n3 c):m5 (n1 + n2 + n3+20) (X5 a b c):=by
 obtain⟨t,e1,e2,e3,e4,e5,e6⟩:=ha.ex;obtain⟨u,f1,f2,f3,f4,f5,f6⟩:=hb.ex;obtain⟨v,g1,g2,g3,g4,g5,g6⟩:=hc.ex;refine MU (t:=.cond t u v) ha hb hc (by rw[e1,f1,g1];rfl) (by rw[e2,f2,g2,m3]) ⟨e3,f3,g3⟩ ⟨e4,f4,g4⟩ ⟨e5,f5,g5⟩ (by simp only[iA];omega) ?_;rw[show("(if ":Str).length + (" ":Str).length + (" ":Str).length + (")":Str).length=7 from by decide];omega
theorem EZ{x y:Str}{k:Kd}(hx:ia x)(hy:ia y)(lx:x.length<=10)(ly:y.length<=10)(lk:(mO k).length<=165)(dk:v5 k<=19)(wk:Cy k<=146)(ha:m5 n1 a)(hb:m5 n2 b)(hc:m5 n3 c):m5 (n1 + n2 + n3+300) (EY k x y a b c):=by
 obtain⟨t,e1,e2,e3,e4,e5,e6⟩:=ha.ex;obtain⟨u,f1,f2,f3,f4,f5,f6⟩:=hb.ex;obtain⟨v,g1,g2,g3,g4,g5,g6⟩:=hc.ex;have q1:("(case ":Str).length=6:=by decide
 have q2:(")":Str).length=1:=by decide
 have q3:(" ":Str).length=1:=by decide
 refine MU (t:=.case k x y t u v) ha hb hc (by rw[e1,f1,g1];rfl) (by rw[e2,f2,g2,m4]) ⟨hx,hy,e3,f3,g3⟩ ⟨e4,f4,g4⟩ ⟨dk,e5,f5,g5⟩ (by simp only[iA];omega) ?_;simp only[len_app,q1,q2,q3];omega
end
noncomputable def j0(d:BI):List BI->BI×List BI
 |[]=>(d,[])
 |x::r=>(x,r)
theorem TZ(d:BI)(xs:List BI):Mo (fP d) (xs.map fP)=(fP (j0 d xs).1,(j0 d xs).2.map fP):=by cases xs<;>rfl
theorem kJ(d:BI)(xs:List BI):(j0 d xs).2.length<=xs.length:=by cases xs<;>simp[j0]
inductive i0:Nat->List BI->Prop where
 |nil {m:Nat}:i0 m []
 |cons {k n m:Nat} {b:BI} {xs:List BI}:m5 k b->i0 n xs->k + n<=m->i0 m (b::xs)
theorem qm{m j:Nat}{d:BI}{xs:List BI}(h:i0 m xs)(hd:m5 j d):∃k n,m5 k (j0 d xs).1/\i0 n (j0 d xs).2/\k + n<=m + j:=by
 cases h with
 |nil=>exact⟨j,0,hd,.nil,by omega⟩
 |cons h1 h2 h3=>exact⟨_,_,h1,h2,by omega⟩
noncomputable def kK(c:Int)(xs:List BI):BI×List BI:=j0 (dJ (c / 5)) xs
noncomputable def mD(c:Int)(xs:List BI):BI×List BI:=j0 (dJ (c / 7)) (kK c xs).2
noncomputable def qK(c:Int)(xs:List BI):BI×List BI:=j0 (dJ (c / 11)) (mD c xs).2
noncomputable def ie(c:Int)(xs:List BI):BI×List BI:=
 if 4 + dE c 1039 8<6 then(MX (eV (c / 3)) (eP (c / 12)) (kK c xs).1,(kK c xs).2)
 else if 4 + dE c 1039 8<10 then(Wt (IF (4 + dE c 1039 8 - 6)) (mD c xs).1 (kK c xs).1,(mD c xs).2)
 else if 4 + dE c 1039 8=10 then(X5 (qK c xs).1 (mD c xs).1 (kK c xs).1,(qK c xs).2)
 else(EY (eP (c / 12)) (eV (c / 3)) (eV (c / 7)) (qK c xs).1 (mD c xs).1 (kK c xs).1,(qK c xs).2)
theorem BD{m:Nat}{xs:List BI}(c:Int)(h:i0 m xs):∃k1 k2 k3 n1 n2 n3,m5 k1 (kK c xs).1/\i0 n1 (kK c xs).2/\m5 k2 (mD c xs).1/\i0 n2 (mD c xs).2/\m5 k3 (qK c xs).1/\i0 n3 (qK c xs).2/\k1 + n1<=m+500/\k2 + n2<=n1+500/\k3 + n3<=n2+500:=by
 obtain⟨k1,n1,a1,b1,e1⟩:=qm h (lS (c / 5));obtain⟨k2,n2,a2,b2,e2⟩:=qm b1 (lS (c / 7));obtain⟨k3,n3,a3,b3,e3⟩:=qm b2 (lS (c / 11));exact⟨k1,k2,k3,n1,n2,n3,a1,b1,a2,b2,a3,b3,e1,e2,e3⟩
theorem Pz{m:Nat}{xs:List BI}(c:Int)(h:i0 m xs):i0 (m+2000) ((ie c xs).1::(ie c xs).2):=by
 obtain⟨k1,k2,k3,n1,n2,n3,a1,b1,a2,b2,a3,b3,e1,e2,e3⟩:=BD c h;unfold ie;split
 ·exact .cons (IH (jZ _) (lF _) (sH _) (pB _) (pC _) a1) b1 (by omega)
 ·split
  ·exact .cons (MY _ a2 a1) b2 (by omega)
  ·split
   ·exact .cons (MZ a3 a2 a1) b3 (by omega)
   ·exact .cons (EZ (jZ _) (jZ _) (lF _) (lF _) (sH _) (pB _) (pC _) a3 a2 a1) b3 (by omega)
theorem E1(c:Int)(xs:List BI):(ie c xs).2.length<=xs.length:=by
 have h1:(kK c xs).2.length<=xs.length:=kJ _ _;have h2:(mD c xs).2.length<=(kK c xs).2.length:=kJ _ _;have h3:(qK c xs).2.length<=(mD c xs).2.length:=kJ _ _;unfold ie;split
 ·exact h1
 ·split
  ·exact aX h2 h1
  ·split<;>exact aX h3 (aX h2 h1)
noncomputable def cellAt(cs:List Int)(i:Nat):Int:=(cs[i]?).getD 0+7 * (i:Int)
noncomputable def eU(cs:List Int):Nat->List BI
 |0=>[]
 |i+1=>if dE (cellAt cs i) 1051 12<4 then dJ (cellAt cs i / 12)::eU cs i else(ie (cellAt cs i) (eU cs i)).1::(ie (cellAt cs i) (eU cs i)).2
theorem sI(cs:List Int):∀i:Nat,i0 (2000 * i) (eU cs i)/\(eU cs i).length<=i
 |0=>⟨.nil,by simp[eU]⟩
 |i+1=>by
  obtain⟨h1,h2⟩:=sI cs i;rw[eU];split
  ·exact⟨.cons (lS _) h1 (by omega),by rw[aY];omega⟩
  ·exact⟨Pz _ h1,by have:=E1 (cellAt cs i) (eU cs i);rw[aY];omega⟩
noncomputable def rJ(x:BI):List BI->BI
 |[]=>x
 |y::r=>rJ (xD y x) r
noncomputable def fc(cs:List Int):BI:=rJ (j0 (dJ 0) (eU cs cs.length)).1 (j0 (dJ 0) (eU cs cs.length)).2
theorem CH:∀{xs:List BI}{x:BI}{k m:Nat},m5 k x->i0 m xs->m5 (k + m+20 * xs.length) (rJ x xs)
 |[],x,k,m,hx,_=>⟨by obtain⟨t,a,b,c,d,e,f⟩:=hx.ex;exact⟨t,a,b,c,d,e,aX f (by omega)⟩,aX hx.ln (by omega),aX hx.rows (by omega),λr hr=>aX (hx.path r hr) (by omega)⟩
 |y::r,x,k,m,hx,h=>by
  cases h with
  |cons h1 h2 h3=>
   have q:=CH (vk h1 hx) h2;rw[rJ];refine⟨?_,aX q.ln ?_,aX q.rows ?_,λr hr=>aX (q.path r hr) ?_⟩
   ·obtain⟨t,a,b,c,d,e,f⟩:=q.ex;exact⟨t,a,b,c,d,e,aX f (by rw[aY];omega)⟩
   all_goals (rw[aY];omega)
end Wk
namespace L2
open PySem PySem.Spec PyProof.Rows
noncomputable abbrev YR(K:aa)(Φ:Hp->St->Prop)(H0:Hp)(hs:List (V×Sl))(R:List Sl->aq->Prop)(v:V)(H:Hp):Prop:=∃σ ρ d,R ρ d/\Φ H0 σ/\ER K H0 hs ρ σ H/\Rep K H d v
noncomputable def tYS(K:aa)(Φ:Hp->St->Prop)(ρ:List Sl)(R:List Sl->aq->Prop):TS:=λD σ H=>∃H0 hs,Φ H0 σ/\ER K H0 hs ρ σ H/\∀v H',YR K Φ H0 hs R v H'->D.rt v H'
noncomputable def VY(X:Cx)(Φ:Hp->St->Prop)(ss:List b9)(ρ:List Sl)(R:List Sl->aq->Prop):Prop:=qD X ss (tYS X.K Φ ρ R)
section
variable {X:Cx}{Φ:Hp->St->Prop}{ρ eM:List Sl}{R:List Sl->aq->Prop}{e c:bc}{d:aq}{pos p2:Pos}{rest:List b9}{st:b9}
theorem BE{t:TS}(h:PS X st t)(w:∀H0 hs (D:Ends) σ H,Φ H0 σ->ER X.K H0 hs ρ σ H->(∀v H',YR X.K Φ H0 hs R v H'->D.rt v H')->(∀dI H' eM,Φ H0 dI->ER X.K H0 hs eM dI H'->VY X Φ rest eM R->D.nx dI H')->t D σ H):VY X Φ (st::rest) ρ R:=by
 refine qD.weak (cE (u:=λD σ H=>∃eM H0 hs,Φ H0 σ/\ER X.K H0 hs eM σ H/\(∀v H',YR X.K Φ H0 hs R v H'->D.rt v H')/\VY X Φ rest eM R) h ?_) λD σ H ⟨H0,hs,φ,er,l⟩=>w H0 hs _ σ H φ er (λv H' q=>l v H' q) ?_
 ·rintro pins s σ H D I ⟨eM,H0,hs,φ,er,l,v⟩;exact v pins s σ H D I ⟨H0,hs,φ,er,l⟩
 ·intro dI H' eM XM e' v;exact⟨eM,H0,hs,XM,e',l,v⟩
theorem CI(h:VE X ρ e (.d d))(q:R ρ d):VY X Φ (.Return (some e) pos::rest) ρ R:=
 BE (iq h) λH0 hs D σ H φ er l _=>⟨⟨H0,hs,er⟩,λv H' s rv=>l v H' ⟨σ,ρ,d,q,φ,er.grow s,rv⟩⟩
theorem wj{i:Nat}{x:Str}(nd:X.N.Nodup)(hi:sU x X.N 0=some i)(kp:Kept Φ i)(h:VE X ρ e (.d d))(k:VY X Φ rest (ρ.set i (.d d)) R)(hx:Loc X.env.scope x:=by exact cm rfl)(hs:dF e (some (.Name x p2)) pos.line X.env=pure false:=by rfl)(hf:X.fn x=true\/X.env.scope.names.lookup x=some .local:=by first|exact .inl rfl|exact .inr rfl|assumption):VY X Φ (.Assign [.Name x p2] e pos::rest) ρ R:=
 BE (gO nd (ic hi) hx h hs hf) λH0 hs D σ H φ er _ n=>⟨⟨H0,hs,er⟩,λv H' s rv=>n _ _ _ (kp _ _ _ φ) ((er.grow s).vT rv) k⟩
theorem II{i:Nat}{x:Str}{xs:List aq}(nd:X.N.Nodup)(hi:sU x X.N 0=some i)(kp:Kept Φ i)(h:VE X ρ e (.o xs))(k:VY X Φ rest (ρ.set i (.o xs)) R)(hx:Loc X.env.scope x:=by exact cm rfl)(hs:dF e (some (.Name x p2)) pos.line X.env=pure false:=by rfl)(hf:X.fn x=true\/X.env.scope.names.lookup x=some .local:=by first|exact .inl rfl|exact .inr rfl|assumption):VY X Φ (.Assign [.Name x p2] e pos::rest) ρ R:=
 BE (gO nd (ic hi) hx h hs hf) λH0 hs D σ H φ er _ n=>⟨⟨H0,hs,er⟩,λv H' s rv=>by
  obtain⟨a,rfl,np,q⟩:=rv
  exact n _ _ _ (kp _ _ _ φ) (er.S7 s np q) k⟩
theorem CJ{i:Nat}{x:Str}(nd:X.N.Nodup)(hi:sU x X.N 0=some i)(kp:Kept Φ i)(h:VM X Φ ρ e d eM)(k:VY X Φ rest (eM.set i (.d d)) R)(hx:Loc X.env.scope x:=by exact cm rfl)(hs:dF e (some (.Name x p2)) pos.line X.env=pure false:=by rfl)(hf:X.fn x=true\/X.env.scope.names.lookup x=some .local:=by first|exact .inl rfl|exact .inr rfl|assumption):VY X Φ (.Assign [.Name x p2] e pos::rest) ρ R:=
 BE (gO nd (ic hi) hx h hs hf) λH0 hs D σ H φ er _ n=>⟨H0,hs,φ,er,λv H' t e' rv=>n _ _ _ (kp _ _ _ φ) (e'.vT rv) k⟩
theorem G5{A B:List b9}{k:Bool}(hc:VT X ρ c k)(hk:k=true)(h:VY X Φ A ρ R):VY X Φ (.If c A B pos::rest) ρ R:=by
 subst hk;exact BE (j7 (u:=tV) hc h gz) λH0 hs D σ H φ er l n=>⟨⟨H0,hs,er⟩,λH' s=>uT ⟨H0,hs,φ,er.grow s,l⟩⟩
theorem G6{A:List b9}{k:Bool}(hc:VT X ρ c k)(hk:k=false)(h:VY X Φ rest ρ R):VY X Φ (.If c A [] pos::rest) ρ R:=by
 subst hk;exact BE (j7 (t:=tV) hc gz jN) λH0 hs D σ H φ er l n=>⟨⟨H0,hs,er⟩,λH' s=>qJ (n _ _ _ φ (er.grow s) h)⟩
theorem sJ{i:Nat}{x:Str}{Q:Out->Prop}(nd:X.N.Nodup)(hi:sU x X.N 0=some i)(h:VM X (λ_ _=>True) ρ e d eM)(k:VS X rest (eM.set i (.d d)) Q)(hx:Loc X.env.scope x:=by exact cm rfl)(hs:dF e (some (.Name x p2)) pos.line X.env=pure false:=by rfl)(hf:X.fn x=true\/X.env.scope.names.lookup x=some .local:=by first|exact .inl rfl|exact .inr rfl|assumption):VS X (.Assign [.Name x p2] e pos::rest) ρ Q:=
 lW (gO nd (ic hi) hx h hs hf) λH0 hs D σ H er l=>⟨H0,hs,trivial,er,λv H' t e' rv=>l.nx _ _ ⟨_,k,e'.vT rv⟩⟩
theorem E2{k:Nat}{f:Str}{ps:List Str}{Rl:List Sl->Sl->Prop}{e1 e2 e4:bc}{es:List bc}{d1 d2:aq}{ds xs:List aq}{p p3:Pos}(D:cK X.prog X.w X.K X.mg X.base k f ps (gr X.K Rl))(TX:iD k X.A)(h1:VE X ρ e1 (.d d1))(h2:VE X ρ e2 (.d d2))(h3:Zj X Φ ρ es ds eM)(h4:VE X eM e4 (.o xs))(h:Rl [.d d1,.d d2,.l ds,.l xs] (.d d))(hz:ds.length<=av)(hg:Gl X f:=by rfl)(qX:(f==("__debug__":Str))=false:=by decide)(s1:ao [e1,e2,.List es p3,e4] X.env=(false,eval e1 X.env)::ao [e2,.List es p3,e4] X.env:=by rfl)(s2:ao [e2,.List es p3,e4] X.env=(false,eval e2 X.env)::ao [.List es p3,e4] X.env:=by rfl)(s3:ao [.List es p3,e4] X.env=(false,eval (.List es p3) X.env)::ao [e4] X.env:=by rfl)(s4:ao [e4] X.env=(false,eval e4 X.env)::ao [] X.env:=by rfl)(kY:(cG pos (ao [e2,.List es p3,e4] X.env)).any (·.1)=false:=by rfl):VM X Φ ρ (.Call (.Name f p) [e1,e2,.List es p3,e4] [] pos) d eM:=
 PE.weak (iQ D TX hg (aO h1 (aO h2 (aO (tW h3) (aO h4 bD s4) s3) s2) s1) qX s1 kY) (by rintro σ H Q ⟨H0,hs,φ,er,q⟩;exact ⟨⟨H0,hs,er⟩,λv1 H1 t1 r1=>⟨⟨H0,hs,er.grow t1⟩,λv2 H2 t2 r2=>⟨H0,hs,φ,(er.grow t1).grow t2,λvs H3 t3 T1 r3=>⟨by rw[r3.length];exact hz,λa na=>⟨⟨H0,hs,T1.grow (bu na _)⟩,λv4 H5 t5 r5=>by
  have tu:bK H3 (upd H3 a (.lst vs)):=bu na _;have t35:bq X.K H3 H5:=bq.of_same (tu.trans t5);have t25:bq X.K H2 H5:=t3.trans t35;have t15:bq X.K H1 H5:=(bq.of_same t2).trans t25;have a1:Rep X.K H5 d1 v1:=Rep.mono t15 _ _ r1;have a2:Rep X.K H5 d2 v2:=Rep.mono t25 _ _ r2;have a3:sj X.K H5 a ds:=⟨vs,t5 _ _ aW,bB.mono t35 _ _ r3⟩;obtain⟨b,rfl,_,a4⟩:=r5
  exact⟨[.d d1,.d d2,.l ds,.l xs],.d d,.cons a1 (.cons a2 (.cons ⟨a,rfl,a3⟩ (.cons ⟨b,rfl,a4⟩ .nil))),h,λv H6 s6 r6=>q v H6 ((bq.of_same t1).trans (t15.trans (bq.of_same s6))) (((T1.grow tu).grow t5).grow s6) r6⟩⟩⟩⟩⟩⟩)
end
end L2
namespace Wk
open PySem L2 PySem.Spec PyProof.Rows
noncomputable def G7(K:aa):Sp:=λvs H Q _=>∃a ys c,vs=[.ref a,.int c]/\sj K H a (ys.map fP).reverse/\(∃m,m<=500000/\i0 m ys)/\∀u H',(∀b o,b≠a->H b=some o->H' b=some o)->sj K H' a ((ie c ys).2.map fP).reverse->Rep K H' (fP (ie c ys).1) u->Q u H'
noncomputable def M1:List Sl->Sl->Prop:=λas r=>∃cs:List Int,as=[.l (cs.map .int)]/\cs.length<=64/\r = .d (fP (fc cs))
noncomputable def vm(a:aj)(H:Hp):Hp->L2.St->Prop:=λH0 σ=>H0=xy (λb=>b=a) H/\σ[0]?=some (some (.ref a))
theorem vm.kept{a:aj}{H:Hp}{i:Nat}(h:i≠0):Kept (vm a H) i:=by rintro H0 σ v ⟨p,q⟩;exact ⟨p,by rw[jd,if_neg h];exact q⟩
theorem Kc{K:aa}{H:Hp}{N:List Str}{a:aj}{xs:List aq}{c:Int}(h:sj K H a xs):ER K (xy (λb=>b=a) H) [] ([.o xs,.d (.int c)]++eC (N.length - 2) .un) (start N [.ref a,.int c]) H:=by
 have e:xy (Mm [.o xs,.d (.int c)] [.ref a,.int c]) H=xy (λb=>b=a) H:=by
  have:(Mm [.o xs,.d (.int c)] [.ref a,.int c])=λb=>b=a:=by
   funext b;apply propext;refine⟨λ⟨i,ys,p,q⟩=>?_,λp=>⟨0,xs,rfl,by rw[p];rfl⟩⟩;match i,p,q with
   |0,p,q=>cases q;rfl
   |1,p,q=>cases p
  rw[this]
 rw[<-e];refine JS (as:=[.o xs,.d (.int c)]) (.cons ⟨a,rfl,h⟩ (.cons (Rep.int (K:=K) (H:=H) c) .nil)) (λr hr ys z=>?_) (λi j b ys zs n p q=>?_)
 ·subst z;simp at hr
 ·match i,j,p,q with
  |0,0,_,_=>exact absurd rfl n
  |0,1,_,q=>cases q
  |1,_,p,_=>cases p
end Wk
namespace L2
open PySem PySem.Spec PyProof.Rows
section
variable {X:Cx}{ρ:List Sl}{Φ:Hp->St->Prop}{e2:bc}{p p2 pos:Pos}
theorem PB{i k:Nat}{f x:Str}{ps:List Str}{ys:List Wk.BI}{c:Int}{m:Nat}(D:cK X.prog X.w X.K X.mg X.base k f ps (Wk.G7 X.K))(TX:iD k X.A)(hi:sU x X.N 0=some i)(hr:ρ[i]?=some (.o (ys.map Wk.fP).reverse))(hm:m<=500000)(hp:Wk.i0 m ys)(h2:VE X ρ e2 (.d (.int c)))(hv:AO X.env.scope x:=by first|exact cm rfl|exact cW (cm rfl)|exact cW (cW rfl))(hd:(x==("__debug__":Str))=false:=by decide)(l9:(x==("__classdict__":Str))=false:=by decide)(hg:Gl X f:=by rfl)(qX:(f==("__debug__":Str))=false:=by decide)(he:ao [.Name x p2,e2] X.env=(false,eval (.Name x p2) X.env)::ao [e2] X.env:=by rfl)(X3:ao [e2] X.env=(false,eval e2 X.env)::ao [] X.env:=by rfl)(kY:(cG pos (ao [e2] X.env)).any (·.1)=false:=by rfl):
  VM X Φ ρ (.Call (.Name f p) [.Name x p2,e2] [] pos) (Wk.fP (Wk.ie c ys).1) (ρ.set i (.o ((Wk.ie c ys).2.map Wk.fP).reverse)):=
 PE.weak (iQ D TX hg (aO (gN (ic hi) hv hd l9) (aO h2 bD X3) he) qX he kY) λσ H Q ⟨H0,hs,φ,er,q⟩=>by
  obtain⟨a,h1,h3,h4⟩:=er.own i _ hr;refine⟨_,h1,⟨H0,hs,er⟩,λv H1 s1 r1=>?_⟩;obtain rfl:=eK.cP r1;refine⟨a,ys,c,rfl,h3.mono s1,⟨m,hm,hp⟩,λu H2 off l2 ru=>?_⟩;have OW:=er.grow s1;have X4:=OW.QU hr h1 off l2;obtain⟨ws,g1,_⟩:=h3.mono s1;have tl:bq X.K H H2:=(bq.of_same s1).trans (SameBut.tup (p:=a) (λb o n e=>off b o n e) g1);exact q u H2 tl X4 ru
theorem pD{i k:Nat}{f x:Str}{ps:List Str}{ys:List Wk.BI}{c:Int}(D:cK X.prog X.w X.K X.mg X.base k f ps (Wk.sF X.K))(TX:iD k X.A)(hi:sU x X.N 0=some i)(hr:ρ[i]?=some (.o (ys.map Wk.fP).reverse))(h2:VE X ρ e2 (.d (.int c)))(hv:AO X.env.scope x:=by first|exact cm rfl|exact cW (cm rfl)|exact cW (cW rfl))(hd:(x==("__debug__":Str))=false:=by decide)(l9:(x==("__classdict__":Str))=false:=by decide)(hg:Gl X f:=by rfl)(qX:(f==("__debug__":Str))=false:=by decide)(he:ao [.Name x p2,e2] X.env=(false,eval (.Name x p2) X.env)::ao [e2] X.env:=by rfl)(X3:ao [e2] X.env=(false,eval e2 X.env)::ao [] X.env:=by rfl)(kY:(cG pos (ao [e2] X.env)).any (·.1)=false:=by rfl):
  VM X Φ ρ (.Call (.Name f p) [.Name x p2,e2] [] pos) (Wk.fP (Wk.j0 (Wk.dJ c) ys).1) (ρ.set i (.o ((Wk.j0 (Wk.dJ c) ys).2.map Wk.fP).reverse)):=by
 have h:=MT (Φ:=Φ) (p:=p) (p2:=p2) (pos:=pos) D TX hi hr h2 hv hd l9 hg qX he X3 kY;rw[Wk.TZ]at h;exact h
end
section
variable {X:Cx}{ρ:List Sl}{a:bc}{r:Sl}{p p2 p3 pos:Pos}{d:aq}{xs:List aq}
theorem BG{k j:Nat}{i:Int}{x:Str}{ps:List Str}{R:List Sl->Sl->Prop}(D:rB X.prog X.w X.K X.mg X.base k x ps (gr X.K R))(hr:iD k X.A)(ha:VE X ρ a (.d (.tuple xs)))(Ku:oZ xs i=some d)(h:R [.d d] r)(hg:Gl X x:=by rfl)(qX:(x==("__debug__":Str))=false:=by decide)(he:ao [.Subscript a (.Constant (.int i) j p3) p2] X.env=(false,eval (.Subscript a (.Constant (.int i) j p3) p2) X.env)::ao [] X.env:=by rfl)(kY:(cG pos (ao [] X.env)).any (·.1)=false:=by rfl)(hpx:nX (.Constant (.int i) j p3):=by exactλ_ _=>rfl):VE X ρ (.Call (.Name x p) [.Subscript a (.Constant (.int i) j p3) p2] [] pos) r:=by
 obtain⟨f,fd,G,b,kp,m⟩:=D;rintro pins s σ H Q I ⟨er,q⟩;refine jb (pU I hg m ?_ qX);refine mH (h₀:=X.base) I.ok.mod.Qe kp ?_ he kY;rw[he];show aH _ _ (spliced ((false,eval (.Subscript a (.Constant (.int i) j p3) p2) X.env)::cG pos (ao [] X.env))) _ _ s;refine fK ?_;refine Subscript_ (gb (ha pins s σ H _ I ⟨er,λv H1 s1 r1=>(⟨s1,r1⟩:bK H H1/\Rep X.K H1 (.tuple xs) v)⟩) λv s1 ⟨y,H1,I1,ry,t1,rr⟩=>wpAny_Constant_int ?_);obtain⟨pa,vs,rfl,hq,rs⟩:=Rep.fz rr;obtain⟨u,hu,ru⟩:∃u,oZ vs i=some u/\Rep X.K H1 d u:=by
  obtain⟨j,h1,h2,h3,h4,h5⟩:=nW Ku;obtain⟨z,hz,rz⟩:=rs.get h2;refine⟨z,?_,rz⟩;have hx:=Ku;unfold oZ at hx ⊢;rw[rs.length];cases q:Jn xs.length i with
  |none=>rw[q]at hx;cases hx
  |some k=>
   have hk:=(r8 q).1;rw[h1]at hk;cases hk;exact hz
 have ix:=dX (X:=X) a (.Constant (.int i) j p3) pins _ σ H1 (.ref pa) (.int i) v (.int i s1.toks) (λw H'=>w=u/\H'=H1) (I1.tok (s1.toks+1)) ry ⟨_,rfl⟩ ⟨pa,vs,i,u,rfl,rfl,hq,hu,rfl,rfl⟩ (hpx _ _);refine bO (jo (n:=1) (show 1<=s1.toks+1 by omega) ix) (λ w s2  zq0=>?_) λ_ _ z=>z.2;obtain ⟨tp,y2,H2,I2,r2,e2,e3⟩:=zq0;subst e2 e3;refine bO (jo tp (bD pos pins s2 σ H2 (λus H'=>us=[]/\H'=H2) I2 ⟨rfl,rfl⟩)) (λ us s3  zq0=>?_) λ_ _ z=>z.2;obtain ⟨tp3,vs3,H3,I3,r3,e4,e5⟩:=zq0;subst e4 e5;refine⟨I3.uA,Iv G hr b .nil K9 tp3 I3 (.cons r2 r3) ⟨[.d d],r,.cons ru .nil,h,λv4 H4 s4 r4=>q v4 H4 (t1.trans s4) (r4.since t1)⟩⟩
end
end L2
namespace Wk
open PySem L2 PySem.Spec PyProof.Rows
noncomputable def CL(K:aa)(vs:List (Key×ah))(o:Option (List Str))(y:Str):Prop:=match o with
 |some ds=>∃t,valueAt vs (.inr y:Key)=some (.ref t)/\∀H,fF K H t (ds.map V.str)
 |none=>valueAt vs (.inr y:Key)=none
theorem jM{K:aa}{vs:List (Key×ah)}{o:Option (List Str)}{x y:Str}{g:aj}{ds:List Str}(h:∀H,fF K H g (ds.map V.str))(r:CL K vs o y):CL K ((.inr x,.ref g)::vs) (if y=x then some ds else o) y:=by
 by_cases e:y=x
 ·subst e;rw[if_pos rfl];exact⟨g,by simp[valueAt],h⟩
 ·rw[if_neg e];have q:valueAt ((.inr x,.ref g)::vs) (.inr y:Key)=valueAt vs (.inr y):=by
   unfold valueAt;rw[List.find?_cons_of_neg];simp;exactλz=>e z.symm
  unfold CL at r ⊢;rw[q];exact r
theorem Ke{P:aR}{w:bH}{K:aa}{mg:Str->Option ah}{aF:aj}{nF:Nat}{h1 h2 h3 h4 h5 h6 h7 h8 h9 IA:Int}{u1 u2 u3 u4 u5 u6 u7 u8 u9 u10:Tok}{g1 g2 g3 g4 g5 g6 g7 g8 g9 g10:aj}(m:mg "FORMS"=some (.ref aF))(l:K.lookup aF=some ⟨.type "dict",none,.dict #[⟨h1,.str "list" u1,.ref g1⟩,⟨h2,.str "to" u2,.ref g2⟩,⟨h3,.str "add" u3,.ref g3⟩,⟨h4,.str "less" u4,.ref g4⟩,⟨h5,.str "if" u5,.ref g5⟩,⟨h6,.str "nil" u6,.ref g6⟩,⟨h7,.str "front" u7,.ref g7⟩,⟨h8,.str "case" u8,.ref g8⟩,⟨h9,.str "fun" u9,.ref g9⟩,⟨IA,.str "call" u10,.ref g10⟩] nF,#[]⟩)(e1:h1=oz w (.inr "list"))(e2:h2=oz w (.inr "to"))(e3:h3=oz w (.inr "add"))(e4:h4=oz w (.inr "less"))(e5:h5=oz w (.inr "if"))(e6:h6=oz w (.inr "nil"))(e7:h7=oz w (.inr "front"))(e8:h8=oz w (.inr "case"))(e9:h9=oz w (.inr "fun"))(e10:IA=oz w (.inr "call"))(s1:∀H,fF K H g1 [.str "kind"])(s2:∀H,fF K H g2 [.str "kind",.str "kind"])(s3:∀H,fF K H g3 [.str "part",.str "part"])(s4:∀H,fF K H g4 [.str "part",.str "part"])(s5:∀H,fF K H g5 [.str "part",.str "part",.str "part"])(s6:∀H,fF K H g6 [.str "kind"])(s7:∀H,fF K H g7 [.str "part",.str "part"])(s8:∀H,fF K H g8 [.str "kind",.str "part",.str "part",.str "name",.str "name",.str "part"])(s9:∀H,fF K H g9 [.str "name",.str "kind",.str "part"])(Zs:∀H,fF K H g10 [.str "part",.str "part"])(ns:(aF==sysModules)=false):JU P w K mg "FORMS" formOf:=by
 refine⟨aF,_,[(.inr "list",.ref g1),(.inr "to",.ref g2),(.inr "add",.ref g3),(.inr "less",.ref g4),(.inr "if",.ref g5),(.inr "nil",.ref g6),(.inr "front",.ref g7),(.inr "case",.ref g8),(.inr "fun",.ref g9),(.inr "call",.ref g10)],m,l,⟨_,_,⟨rfl,rfl,rfl⟩,rfl,λe he=>?_,?_,?_⟩,ns,λy=>?_⟩
 ·simp only[List.mem_toArray,bf,cM,or_false]at he;rcases he with rfl|rfl|rfl|rfl|rfl|rfl|rfl|rfl|rfl|rfl
  ·exact⟨.inr "list",dv "list" u1,e1⟩
  ·exact⟨.inr "to",dv "to" u2,e2⟩
  ·exact⟨.inr "add",dv "add" u3,e3⟩
  ·exact⟨.inr "less",dv "less" u4,e4⟩
  ·exact⟨.inr "if",dv "if" u5,e5⟩
  ·exact⟨.inr "nil",dv "nil" u6,e6⟩
  ·exact⟨.inr "front",dv "front" u7,e7⟩
  ·exact⟨.inr "case",dv "case" u8,e8⟩
  ·exact⟨.inr "fun",dv "fun" u9,e9⟩
  ·exact⟨.inr "call",dv "call" u10,e10⟩
 ·exact .cons (dv "list" u1) rfl (.cons (dv "to" u2) rfl (.cons (dv "add" u3) rfl (.cons (dv "less" u4) rfl (.cons (dv "if" u5) rfl (.cons (dv "nil" u6) rfl (.cons (dv "front" u7) rfl (.cons (dv "case" u8) rfl (.cons (dv "fun" u9) rfl (.cons (dv "call" u10) rfl (.nil))))))))))
 ·show([.inr "list",.inr "to",.inr "add",.inr "less",.inr "if",.inr "nil",.inr "front",.inr "case",.inr "fun",.inr "call"]:List Key).Nodup;decide
 ·exact jM s1 (jM s2 (jM s3 (jM s4 (jM s5 (jM s6 (jM s7 (jM s8 (jM s9 (jM Zs (show CL K [] none y from rfl))))))))))
theorem G8(l:Str):(toks l).map codes=ja (codes l):=by
 unfold toks;rw[vc];show oX _ ((gF _ ⟨#[32]⟩).map codes)=_;rw[lY];show oX _ (dw 32 (codes (bL _ ⟨#[41]⟩ _)))=_;rw[jL];show oX _ (dw 32 (oF 41 _ (codes (bL _ ⟨#[40]⟩ _))))=_;rw[jL];rfl
theorem M2(i:Int):(gE i).length=(if i<0 then 1 else 0) + (kI (i.natAbs+1) i.natAbs).length:=by
 rw[<-cN,iJ,aL,ay];have e:(iY i).length=(kI (i.natAbs+1) i.natAbs).length:=by unfold iY;simp
 rw[e];split<;>simp
theorem G9(x y:List Nat):dw 32 (x++32::y)=dw 32 x++dw 32 y:=by
 induction x with
 |nil=>simp[dw]
 |cons a x ih=>
  rw[cV,dw,dw];split
  ·rw[ih];rfl
  ·rw[ih];cases q:dw 32 x with
   |nil=>exact absurd q (v9 32 x)
   |cons w ws=>rfl
theorem wm(x y:List Nat):fH (x++32::y)=fH x++fH y:=by unfold fH;rw[G9,ki]
theorem uf(a r:List Nat):ja (a++32::r)=ja a++ja r:=by
 show fH (spread (a++([32]++r)))=_;rw[fb,fb,show spread [32]=[32]from by decide,eB,wm];rfl
theorem ug(a r:List Nat):ja (a++40::r)=ja a++[40]::ja r:=by
 show fH (spread (a++([40]++r)))=_;rw[fb,fb,show spread [40]=[32,40,32]from by decide];show fH (spread a++32::([40]++32::spread r))=_;rw[wm,lD _ (by decide) (by decide)];rfl
theorem uh(a r:List Nat):ja (a++41::r)=ja a++[41]::ja r:=by
 show fH (spread (a++([41]++r)))=_;rw[fb,fb,show spread [41]=[32,41,32]from by decide];show fH (spread a++32::([41]++32::spread r))=_;rw[wm,lD _ (by decide) (by decide)];rfl
noncomputable def Kf(c:Nat):Bool:=c==32||c==40||c==41
noncomputable def X6(p:Str):Bool:=match(codes p).getLast? with
 |none=>true
 |some c=>Kf c
noncomputable def X7(s:Str):Bool:=match(codes s).head? with
 |none=>true
 |some c=>Kf c
theorem BH{c:Nat}(h:Kf c=true):c=32\/c=40\/c=41:=by
 unfold Kf at h;simp at h;omega
theorem vn:ja []=[]:=by decide
theorem PD{a r:List Nat}(h:r=[]\/∃c s,r=c::s/\Kf c=true):ja (a++r)=ja a++ja r:=by
 rcases h with rfl|⟨c,s,rfl,h⟩
 ·rw[cf,vn,cf]
 ·rcases BH h with rfl|rfl|rfl
  ·rw[uf,Mv]
  ·rw[ug,ED]
  ·rw[uh,Bs]
theorem PF{p r:List Nat}(h:p=[]\/∃q c,p=q++[c]/\Kf c=true):ja (p++r)=ja p++ja r:=by
 rcases h with rfl|⟨q,c,rfl,h⟩
 ·rw[vn];rfl
 ·rw[bM,eB];rcases BH h with rfl|rfl|rfl
  ·rw[uf,uf,vn,cf]
  ·rw[ug,ug,vn,bM];rfl
  ·rw[uh,uh,vn,bM];rfl
theorem M3{p s:Str}{tp ts:List Str}{t:WT}(wf:t.wf)(hp:ja (codes p)=tp.map codes)(hs:ja (codes s)=ts.map codes)(bp:X6 p=true)(bs:X7 s=true):toks (p++aS t++s)=tp++(kc t++ts):=by
 apply oO;rw[G8,cy,cy,bM,PF,PD,Bu wf,hp,hs,bI,bI]
 ·unfold X7 at bs;cases q:codes s with
  |nil=>exact .inl rfl
  |cons c r=>rw[q]at bs;exact .inr ⟨c,r,rfl,bs⟩
 ·unfold X6 at bp;cases q:codes p with
  |nil=>exact .inl rfl
  |cons c r=>
   have hn:codes p≠[]:=by rw[q];simp
   rw[xP hn]at bp;rw[<-q];exact .inr ⟨(codes p).dropLast,(codes p).getLast hn,(yl hn).symm,bp⟩
theorem len_one:(aS (.num 1)).length=1:=by rw[mP];decide
theorem IJ(a b:WT):(aS (.add a b)).length=(aS a).length + (aS b).length+7:=by
 rw[lG];simp only[len_app];rw[show("(add ":Str).length=5 from by decide,show(" ":Str).length=1 from by decide,show(")":Str).length=1 from by decide];omega
end Wk
namespace L2
open PySem PySem.Spec PyProof.Rows
section
variable {X:Cx}{Φ:Hp->St->Prop}{E:XK}{ρ:List Sl}{e a b c tg iter:bc}{es:List bc}{r ra rb:Sl}{p pos p2 p3 AH:Pos}{d:aq}{ds xs:List aq}{rs:List Sl}{Q Q':Out->Prop}{rest:List b9}{st:b9}{o:Sl ⊕ aj}
noncomputable def BJ(X:Cx)(Φ:Hp->St->Prop)(ss:List b9)(ρ:List Sl)(Q:Out->Prop):Prop:=jB X ss (tXS X.K Φ ρ Q)
noncomputable def M4(X:Cx)(Φ:Hp->St->Prop)(ρ:List Sl)(e:bc)(o:Sl ⊕ aj):Prop:=og X e λσ H Q=>∃H0 hs,Φ H0 σ/\ER X.K H0 hs ρ σ H/\∀r,o = .inl r->∀v H',bK H H'->eK X.K H H' r v->Q v H'
noncomputable def tD(P:aR)(w:bH)(K:aa)(mg:Str->Option ah)(base:bS)(k:Nat)(x:Str)(ps:List Str)(sp:Sp):Prop:=
 ∃(f:aj)(fd:be),lg P w K mg base (Be P w base) k f fd ps sp/\Binds K fd ps []/\eX K (.ref f)=true/\mg x=some (.ref f)
theorem M5{t:TS}(h:EA X st t)(w:∀H0 hs D σ H,Φ H0 σ->ER X.K H0 hs ρ σ H->(DX X.K Φ H0 hs (Ew X Φ rest Q)).le D->t D σ H):BJ X Φ (st::rest) ρ Q:=by
 refine jB.weak (v8 (u:=λD σ H=>∃eM H0 hs,Φ H0 σ/\ER X.K H0 hs eM σ H/\(DX X.K Φ H0 hs Q).le D/\VX X Φ rest eM Q) h ?_) λD σ H ⟨H0,hs,φ,er,l⟩=>w H0 hs _ σ H φ er ⟨?_,λv H q=>l.rt v H q,λσ H q=>l.bk σ H q,λσ H q=>l.ct σ H q⟩
 ·rintro pins s σ H D I ⟨eM,H0,hs,φ,er,l,v⟩;exact v pins s σ H D I ⟨H0,hs,φ,er,l⟩
 ·rintro dI H' ⟨eM,q,XM,e⟩;exact⟨eM,H0,hs,XM,e,l,q⟩
theorem M6{i:Nat}{x:Str}(nd:X.N.Nodup)(hi:sU x X.N 0=some i)(kp:Kept Φ i)(h:M4 X Φ ρ e o)(ho:∀r,o = .inl r->∃d,r = .d d)(k:∀d,o = .inl (.d d)->VX X Φ rest (ρ.set i (.d d)) Q)(hx:Loc X.env.scope x:=by exact cm rfl)(hs:dF e (some (.Name x p2)) pos.line X.env=pure false:=by rfl)(hf:X.fn x=true\/X.env.scope.names.lookup x=some .local:=by first|exact .inl rfl|exact .inr rfl|assumption):BJ X Φ (.Assign [.Name x p2] e pos::rest) ρ Q:=
 M5 (CB nd (ic hi) hx h hs hf) λH0 hs D σ H φ er l=>⟨H0,hs,φ,er,λr z v H' s rv=>by
  obtain⟨d,rfl⟩:=ho r z
  exact l.nx _ _ ⟨_,k d z,kp _ _ _ φ,(er.grow s).vT rv⟩⟩
theorem Kg{k:Nat}{x:Str}{ps:List Str}{Rl:List Sl->Sl ⊕ aj->Prop}(R:sf X E)(D:tD X.prog X.w X.K X.mg X.base k x ps (AF X.K Rl))(hr:iD k X.A)(ha:VA X ρ (e::es) rs)(h:Rl (rs.map Sl.arg) o)(hE:∀C,o = .inr C->∀H0 σ,Φ H0 σ->∀H',bK H0 H'->E (.ref C) none H')(hg:Gl X x:=by rfl)(qX:(x==("__debug__":Str))=false:=by decide)(he:ao (e::es) X.env=(false,eval e X.env)::ao es X.env:=by rfl)(kY:(cG pos (ao es X.env)).any (·.1)=false:=by rfl):M4 X Φ ρ (.Call (.Name x p) (e::es) [] pos) o:=by
 obtain⟨f,fd,G,b,kp,m⟩:=D
 exact og.weak (EB G hr hg m kp b .nil R.passes ha qX he kY) (by rintro σ H Q ⟨H0,hs,φ,er,q⟩;exact ⟨⟨H0,hs,er⟩,λvs H1 s1 r1=>by
  show AF X.K Rl (vs++[]) H1 Q E;rw[cf]
  exact⟨rs.map Sl.arg,o,r1.arg,h,λr z v H2 s2 r2=>q r z v H2 (s1.trans s2) (r2.since s1),λC z H2 s2=>hE C z H0 σ φ H2 (er.same.trans (s1.trans s2))⟩⟩)
end
section
variable {P:aR}{w:bH}{K:aa}{mg:Str->Option ah}{base:bS}
theorem jP.T4{x qual:Str}{st:b9}{f:aj}{fd:be}{N ps:List Str}{k:Nat}{sp:Sp}(F:jP K x qual st f fd)(S:b5 N ps (aJ st))(len:∀vs H Q E,sp vs H Q E->vs.length=ps.length)(lU:∀(eR:ah)(A:cj)(outer:List Env)(s:ai)(H:Hp)(vs:List V)(Q:VK) (E:XK),iD k (A.deeper (envOfC qual (aJ st) s.heap.objs.size f eR))->sp vs H Q E->
   ∃t,jB (pW (Be P w base) P w K mg base N qual (aJ st) f eR A outer s H E) (eS st) t/\t {nx:=λ_ H'=>Q .ip H',rt:=Q} (start N vs) H):lg P w K mg base (Be P w base) (k+1) f fd ps sp:=by
 obtain⟨oc,od,kV,doc,pm,an,eR,ct,Jm,rfl,lk,l9⟩:=F.ex;exact Mu lk l9 S len λA outer s H vs Q E hr Av=>lU eR A outer s H vs Q E hr Av
theorem jP.Q1{x qual:Str}{st:b9}{f:aj}{fd:be}{N ps:List Str}{k:Nat}{R:List Sl->Sl ⊕ aj->Prop}(F:jP K x qual st f fd)(S:b5 N ps (aJ st))(len:∀as o,R as o->as.length=ps.length/\∀q∈as,∀xs,q≠.o xs)(lU:∀(eR:ah)(A:cj)(outer:List Env)(s:ai)(H:Hp)(E:XK)(as:List Sl) (o:Sl ⊕ aj),iD k (A.deeper (envOfC qual (aJ st) s.heap.objs.size f eR))->R as o->
   (∀C,o = .inr C->∀H0 (σ:St),H0=H->∀H',bK H0 H'->E (.ref C) none H')->
   BJ (pW (Be P w base) P w K mg base N qual (aJ st) f eR A outer s H E) (λH0 _=>H0=H) (eS st) (as++eC (N.length - as.length) .un) λt=>∃r,o = .inl r/\(t = .rt r\/(r = .d .none/\∃ρ,t = .nx ρ))):
  lg P w K mg base (Be P w base) (k+1) f fd ps (AF K R):=by
 refine F.T4 S (λvs H Q E h=>?_) (λeR A outer s H vs Q E hr h=>?_)
 ·obtain⟨as,o,h1,h2,_⟩:=h;rw[h1.length];exact(len as o h2).1
 obtain⟨as,o,h1,h2,q,qE⟩:=h;refine⟨_,lU eR A outer s H E as o hr h2 (λC z H0 σ e H' s'=>by subst e;exact qE C z H' s'),H,[],rfl,yW h1 (len as o h2).2,?_⟩;refine⟨λσ H' ⟨ρ,⟨r,zo,z⟩,_,e⟩=>?_,λv H' ⟨r',⟨r,zo,z⟩,e1,e2⟩=>?_,λσ H' ⟨ρ,⟨r,zo,z⟩,e⟩=>?_,λσ H' ⟨ρ,⟨r,zo,z⟩,e⟩=>?_⟩
 ·rcases z with z|⟨rfl,_⟩
  ·cases z
  ·exact q _ zo _ H' e.same eK.ip
 ·rcases z with z|⟨_,_,z⟩
  ·cases z;exact q _ zo v H' e1 e2
  ·cases z
 ·rcases z with z|⟨_,_,z⟩<;>cases z
 ·rcases z with z|⟨_,_,z⟩<;>cases z
end
end L2
namespace Wk
open PySem L2
end Wk
namespace L2
open PySem PySem.Spec PyProof.Rows
end L2
namespace Wk
open PySem L2 PySem.Spec PyProof.Rows
theorem Kh{cs:List Int}(h:cs.length<=64):m5 130000 (fc cs):=by
 obtain⟨h1,h2⟩:=sI cs cs.length;obtain⟨k,n,a,b,e⟩:=qm h1 (lS 0);have q:=CH a b;have l:=kJ (dJ 0) (eU cs cs.length);refine⟨?_,aX q.ln (by omega),aX q.rows (by omega),λr hr=>aX (q.path r hr) (by omega)⟩;obtain⟨t,a,b,c,d,e,f⟩:=q.ex;exact⟨t,a,b,c,d,e,aX f (by omega)⟩
end Wk
namespace L2
open PySem PySem.Spec PyProof.Rows
noncomputable abbrev CM(N:List Str)(sc scope:Scope)(x y:Str):Prop:=jQ N sc scope [x,y]
noncomputable abbrev Cx.E3(X:Cx)(scope:Scope)(cl:List (Str×aj))(x y:Str)(C:aj)(s0:ai)(H0:Hp)(fp:List aj)(pins:List (aj×Obj)):Cx:=X.mo scope cl [x,y] C s0 H0 fp pins
theorem mU.two{K:aa}{σ us:St}{a:aj}{v w:V}{H:Hp}{Q:St->Hp->Prop}(sq:fF K H a [v,w])(h:Q (some v::some w::σ) H)(hu:us.length=2):RY K 2 (Dz (nV 0) (Dz (nV 1) RX)) (.ref a) (us++σ) H λdI H2=>∃Le,Le.length=2/\dI=Le++σ/\Q dI H2:=
 match us,hu with|[_,_],_=>⟨a,[v,w],rfl,sq,rfl,v,[w],rfl,w,[],rfl,rfl,[some v,some w],rfl,rfl,h⟩
theorem jQ.pg2{X:Cx}{scope:Scope}{x y:Str}{kk:Nat}{tp px py:Pos}(hc:X.calm=true)(S:CM X.N X.env.scope scope x y)(cl:List (Str×aj))(C:aj)(s0:ai)(H0:Hp)(fp:List aj)(pins:List (aj×Obj)):PG (X.E3 scope cl x y C s0 H0 fp pins) (.Tuple [.Name x px,.Name y py] kk tp) (RY X.K 2 (Dz (nV 0) (Dz (nV 1) RX))):=by
 have h1:=(ny S.own).1;have h2:=(ny (ny S.own).2).1;exact yo hc (jI (i5 (i:=0) S.nd rfl (.inl (lookup_relabel_local h1)) (.inr (lookup_relabel_local h1))) (jI (i5 (i:=1) S.nd rfl (.inl (lookup_relabel_local h2)) (.inr (lookup_relabel_local h2))) uM))
section
variable {X:Cx}{ρ:List Sl}{iter Jw:bc}{pos p2:Pos}{rest:List b9}{Q:Out->Prop}
noncomputable def Q2(q:aq×aq):aq:=.tuple [q.1,q.2]
theorem E4{i:Nat}{x y z:Str}{kk:Nat}{tp px py pz:Pos}{elt:bc}{scope:Scope}{ps:List (aq×aq)}{g:aq×aq->aq}{ok:aq×aq->Bool}(nd:X.N.Nodup)(hc:X.calm=true)(S:CM X.N X.env.scope scope x y)(hz:sU z X.N 0=some i)(hi:VI X ρ (.Tuple [.Name x px,.Name y py] kk tp) iter (ps.map Q2))(hl:ps.length<=av)(he:∀a∈ps,ok a=true->∀cl C s0 H0 fp pins,VE (X.E3 scope cl x y C s0 H0 fp pins) (.d a.1 :: .d a.2::ρ.map Sl.arg) elt (.d (g a)))(ht:∀a∈ps,∀cl C s0 H0 fp pins,VT (X.E3 scope cl x y C s0 H0 fp pins) (.d a.1 :: .d a.2::ρ.map Sl.arg) Jw (ok a))(k:VS X rest (ρ.set i (.o ((ps.filter ok).map g))) Q)(hlo:X.env.scope.names.lookup z=some .local:=by rfl)(Gg:dF (.ListComp elt [⟨.Tuple [.Name x px,.Name y py] kk tp,iter,[Jw],0⟩] scope pos) (some (.Name z pz)) p2.line X.env=pure true:=by rfl)(hs:∀v,dn iter X.env v=pure v:=by intro _;rfl):VS X (.Assign [.Name z pz] (.ListComp elt [⟨.Tuple [.Name x px,.Name y py] kk tp,iter,[Jw],0⟩] scope pos) p2::rest) ρ Q:=by
 obtain⟨wi,pi,OU⟩:=hi
 refine lW (wV (te:=λσ H Q=>∃(a:aq×aq)(y':aq)(H0:Hp) (hs:List (V×Sl)),(∀cl C s0 H0 fp pins,VE (X.E3 scope cl x y C s0 H0 fp pins) (.d a.1 :: .d a.2::ρ.map Sl.arg) elt (.d y'))/\ER X.K H0 hs (.d a.1 :: .d a.2::ρ.map Sl.arg) σ H/\∀v H',bK H H'->Rep X.K H' y' v->Q v H')
  (tc:=λσ H Q=>∃(a:aq×aq)(b:Bool)(H0:Hp) (hs:List (V×Sl)),(∀cl C s0 H0 fp pins,VT (X.E3 scope cl x y C s0 H0 fp pins) (.d a.1 :: .d a.2::ρ.map Sl.arg) Jw b)/\ER X.K H0 hs (.d a.1 :: .d a.2::ρ.map Sl.arg) σ H/\∀H',bK H H'->Q b H') hc S nd (ic hz) hlo pi (S.pg2 hc) (λcl C s0 H0 fp pins=>HJ ?_) (λcl C s0 H0 fp pins=>?_) Gg hs) λH0 hs D σ H er l=>?_
 ·rintro j6 s σ H Q I ⟨a,y',OV,hs,ve,er,q⟩;exact ve cl C s0 H0 fp pins j6 s σ H Q I ⟨⟨OV,hs,er⟩,q⟩
 ·rintro j6 s σ H Q I ⟨a,y',OV,hs,ve,er,q⟩;exact ve cl C s0 H0 fp pins j6 s σ H Q I ⟨⟨OV,hs,er⟩,q⟩
 refine OU H0 hs σ H _ er λIt H1 h s1 hh sep TH=>?_;have OW:ER X.K H0 (h::hs) (ρ.map Sl.arg) σ H1:=(er.grow s1).args.hold hh λ_ _ i xs a q=>by
  exfalso;rw[aw]at q;cases q':ρ[i]? with
  |none=>rw[q']at q;cases q
  |some s=>rw[q']at q;cases s<;>cases q
 refine⟨λi m zs H=>m=ps.length - i/\i<=ps.length/\bK H1 H/\zs.length<=i/\ER X.K H0 (h::hs) (ρ.map Sl.arg) σ H/\bB X.K H (((ps.take i).filter ok).map g) zs,⟨_,rfl,dj _,bK.refl _,au _,OW,by rw[jn];exact .nil⟩,?_⟩;rintro i m zs H' ⟨rfl,hi,sm,OM,Ia,rp⟩;have hh:=Ia.held h aE;by_cases i9:i<ps.length
 ·refine .inr ⟨TH.go i H' hh (by rw[ay];exact i9),by omega,λv H2 y us hu=>?_⟩;obtain⟨sy,d,hd,rd⟩:=TH.xq i H' v H2 hh (by rw[ay];exact i9) y;rw[aw,ag i9]at hd;cases hd;have hm:ps[i]∈ps:=pQ i9;have tk:ps.take (i+1)=ps.take i++[ps[i]]:=by rw[ef,ag i9];rfl
  generalize ps[i]=d at rd hm tk;obtain⟨ta,vs,rfl,sq,OP⟩:=Rep.fz rd;obtain⟨v1,vs1,rfl,r1,OP⟩:=OP.split;obtain⟨v2,vs2,rfl,r2,OP⟩:=OP.split;rw[bB]at OP;subst OP;have X4:=(Ia.grow sy).comp r2;have T1:ER X.K H0 (h::hs) (.d d.1 :: .d d.2::ρ.map Sl.arg) (some v1::some v2::σ) H2:=ER.comp (ρ:=.d d.2::ρ) X4 r1;refine mU.two sq ⟨d,ok d,H0,h::hs,ht d hm,T1,λH3 s3=>?_⟩ hu;by_cases dS:ok d=true
  ·show ite (ok d=true) _ _;rw[if_pos dS];refine⟨λz H4=>bK H3 H4/\Rep X.K H4 (g d) z,λz H4 ⟨s4,r4⟩=>⟨ps.length - (i+1),by omega,rfl,i9,sm.trans (sy.trans (s3.trans s4)),by simp;omega,Ia.grow (sy.trans (s3.trans s4)),?_⟩,d,g d,H0,h::hs,he d hm dS,T1.grow s3,λz H4 s4 r4=>⟨s4,r4⟩⟩;rw[tk,ki,bI,ku dS];exact(bB.mono (bq.of_same (sy.trans (s3.trans s4))) _ _ rp).append (.one r4)
  ·show ite (ok d=true) _ _;rw[if_neg dS];refine⟨ps.length - (i+1),by omega,rfl,i9,sm.trans (sy.trans s3),by omega,Ia.grow (sy.trans s3),?_⟩;rw[tk,ki,bI,kr dS,List.filter_nil,gy,cf];exact bB.mono (bq.of_same (sy.trans s3)) _ _ rp
 ·have e:i=ps.length:=by omega
  subst e;refine .inl ⟨by have:=TH.stop H' hh;rwa[ay]at this,by omega,λp np=>?_⟩;rw[iC]at rp;have s2:=bu np (.lst zs);exact l.nx _ _ ⟨_,k,er.S7 ((s1.trans sm).trans s2) ((s1.trans sm).free np) ⟨zs,aW,bB.mono (bq.of_same s2) _ _ rp⟩⟩
end
end L2
namespace Wk
open PySem L2
noncomputable def m7:WT->List Nat
 |.lam ..=>[6]
 |.add ..=>[2,4]
 |.less ..=>[2,4]
 |.front ..=>[2,4]
 |.call ..=>[2,4]
 |.cond ..=>[2,4,6]
 |.case ..=>[4,6,12]
 |_=>[]
theorem Ki(t:WT):(m7 t).length=t.own.length:=by cases t<;>rfl
noncomputable def qL(t:WT)(i:Nat):Nat:=(m7 t).getD i 0
noncomputable def CN(t:WT)(i:Nat):List Pc:=(jK t).take (qL t i)
noncomputable def BK(t:WT)(i:Nat):Str:=nS "" (jA (CN t i))
theorem ju(t:WT)(i:Nat):codes (BK t i)=flat (jA (CN t i)):=lZ _
noncomputable def oP:WT->List Nat->Option WT
 |t,[]=>some t
 |t,i::p=>match t.own[i]? with
  |some u=>oP u p
  |none=>none
noncomputable def gZ:WT->List Nat->Nat
 |_,[]=>0
 |t,i::p=>(BK t i).length + (match t.own[i]? with
  |some u=>gZ u p
  |none=>0)
theorem M7(x:Str)(k:Kd)(b:WT):BK (.lam x k b) 0 = "(fun "++x ++ " "++mO k ++ " ":=cL (by
 simp only[cy,ju,fW,show codes "(fun "=codes "(fun"++codes " " from by decide]
 simp[CN,qL,m7,jK,bl,jA,Pc.tx,flat])
theorem vo{t a b:WT}{w w':Str}(h:t = .add a b/\w = "(add"/\w' = "(add "\/t = .less a b/\w = "(less"/\w' = "(less "\/t = .front a b/\w = "(front"/\w' = "(front "\/t = .call a b/\w = "(call"/\w' = "(call "):BK t 0=w'/\BK t 1=w'++aS a ++ " ":=by
 have key:∀{w w':Str}{t:WT},codes w'=codes w++codes " "->jK t=[.text w,bl,.part a,bl,.part b,.text ")"]->m7 t=[2,4]->BK t 0=w'/\BK t 1=w'++aS a ++ " ":=λ{w w' t} e1 e2 e3=>by
  constructor
  ·refine cL ?_;rw[ju,e1];simp[CN,qL,e3,e2,bl,jA,Pc.tx,flat]
  ·refine cL ?_;simp only[cy,ju,dh,e1];simp[CN,qL,e3,e2,bl,jA,Pc.tx,flat]
 rcases h with⟨rfl,rfl,rfl⟩|⟨rfl,rfl,rfl⟩|⟨rfl,rfl,rfl⟩|⟨rfl,rfl,rfl⟩
 ·exact key (by decide) rfl rfl
 ·exact key (by decide) rfl rfl
 ·exact key (by decide) rfl rfl
 ·exact key (by decide) rfl rfl
theorem IK(a b c:WT):BK (.cond a b c) 0 = "(if "/\BK (.cond a b c) 1 = "(if "++aS a ++ " "/\BK (.cond a b c) 2 = "(if "++aS a ++ " "++aS b ++ " ":=by
 have e:codes "(if "=codes "(if"++codes " ":=by decide
 refine⟨cL ?_,cL ?_,cL ?_⟩
 ·rw[ju,e];simp[CN,qL,m7,jK,bl,jA,Pc.tx,flat]
 ·simp only[cy,ju,dh,e];simp[CN,qL,m7,jK,bl,jA,Pc.tx,flat]
 ·simp only[cy,ju,dh,e];simp[CN,qL,m7,jK,bl,jA,Pc.tx,flat]
theorem IL(k:Kd)(x y:Str)(a b c:WT):BK (.case k x y a b c) 0 = "(case "++mO k ++ " "/\BK (.case k x y a b c) 1 = "(case "++mO k ++ " "++aS a ++ " "/\BK (.case k x y a b c) 2 = "(case "++mO k ++ " "++aS a ++ " "++aS b++(" "++x ++ " "++y ++ " "):=by
 have e:codes "(case "=codes "(case"++codes " ":=by decide
 refine⟨cL ?_,cL ?_,cL ?_⟩
 ·simp only[cy,ju,fW,e];simp[CN,qL,m7,jK,bl,jA,Pc.tx,flat]
 ·simp only[cy,ju,dh,fW,e];simp[CN,qL,m7,jK,bl,jA,Pc.tx,flat]
 ·simp only[cy,ju,dh,fW,e];simp[CN,qL,m7,jK,bl,jA,Pc.tx,flat]
noncomputable def mi(p:List Nat):List Int:=p.map λ(k:Nat)=>(k:Int)
structure M8(t:WT)(rows:List Rw):Prop where
 snd:∀r∈rows,∃p u,r.1=mi p/\oP t p=some u/\r.2.1=(gZ t p:Nat)/\r.2.2=((gZ t p + (aS u).length:Nat):Int)
 all:∀p u,oP t p=some u->∃r∈rows,r.1=mi p
structure RW(b:BI)(t:WT):Prop where
 e:b.e=dY t
 ln:b.ln=aS t
 rows:M8 t b.rows
theorem om{t:WT}{i:Nat}{p:List Nat}{u:WT}(h:oP t (i::p)=some u):∃v,t.own[i]?=some v/\oP v p=some u:=by
 rw[oP]at h;cases q:t.own[i]? with
 |none=>rw[q]at h;cases h
 |some v=>rw[q]at h;exact⟨v,rfl,h⟩
theorem qo{t:WT}{ones:List BI}{c8:List Str}(ts:List WT)(ho:t.own=ts)(hl:ones.length=ts.length)(hr:∀(i:Nat) b u,ones[i]?=some b->ts[i]?=some u->RW b u)(ha:∀i,i<ones.length->(k9 c8 ones i).length=(BK t i).length)(hlen:k9 c8 ones ones.length=aS t):
  M8 t (fJ c8 ones ones.length++[(([],0,((k9 c8 ones ones.length).length:Int)):Rw)]):=by
 subst ho;have key:∀n,n<=ones.length->(∀r∈fJ c8 ones n,∃p u,r.1=mi p/\oP t p=some u/\r.2.1=(gZ t p:Nat)/\r.2.2=((gZ t p + (aS u).length:Nat):Int))/\(∀i p u,i<n->oP t (i::p)=some u->∃r∈fJ c8 ones n,r.1=mi (i::p)):=by
  intro n;induction n with
  |zero=>intro _;exact⟨(λr hr=>nomatch hr),λi p u h=>absurd h (hV i)⟩
  |succ n ih=>
   intro hn;obtain⟨ih1,ih2⟩:=ih (by omega);have PH:=zt (ones:=ones) (i:=n) (by omega);have xE:t.own[n]?=some t.own[n]:=ag (by omega);have Zt:=(hr n _ _ PH xE).rows;have hah:=ha n (by omega);refine⟨λr IM=>?_,λi p u hi h=>?_⟩
   ·rw[fJ]at IM;rcases bj.mp IM with z|z
    ·exact ih1 r z
    ·obtain⟨r0,Wq,rfl⟩:=de.mp z;obtain⟨p,u,e1,e2,e3,e4⟩:=Zt.snd r0 Wq;refine⟨n::p,u,by simp[mh,mi,e1],by rw[oP,xE];exact e2,?_,?_⟩
     ·rw[gZ,xE];simp only[mh];rw[e3,hah];simp
     ·rw[gZ,xE];simp only[mh];rw[e4,hah];simp;omega
   ·rw[fJ];by_cases e:i=n
    ·subst e;obtain⟨v,hv,h2⟩:=om h;rw[xE]at hv;cases hv;obtain⟨r,vp,IP⟩:=Zt.all p u h2;exact⟨mh i (k9 c8 ones i).length r,az _ (de.mpr ⟨r,vp,rfl⟩),by simp[mh,mi,IP]⟩
    ·obtain⟨r,vp,IP⟩:=ih2 i p u (by omega) h;exact⟨r,bZ _ vp,IP⟩
 obtain⟨k1,k2⟩:=key ones.length (au _);refine⟨λr IM=>?_,λp u h=>?_⟩
 ·rcases bj.mp IM with z|z
  ·exact k1 r z
  ·rw[aM]at z;subst z;exact⟨[],t,rfl,rfl,rfl,by rw[hlen,gZ];simp⟩
 ·cases p with
  |nil=>exact⟨_,az _ (aM.mpr rfl),rfl⟩
  |cons i p=>
   obtain⟨v,hv,_⟩:=om h;have hi:i<t.own.length:=(ak.mp hv).1;obtain⟨r,vp,IP⟩:=k2 i p u (by omega) h;exact⟨r,bZ _ vp,IP⟩
theorem IQ(c:Int):RW (dJ c) (fX c):=by
 refine⟨rfl,rfl,λr hr=>?_,λp u h=>?_⟩
 ·simp only[dJ,aM]at hr;subst hr;exact⟨[],fX c,rfl,rfl,rfl,by rw[gZ];simp⟩
 ·have xE:(fX c).own=[]:=by unfold fX;(repeat' split)<;>rfl
  cases p with
  |nil=>exact⟨_,aM.mpr rfl,rfl⟩
  |cons i p=>obtain⟨v,hv,_⟩:=om h;rw[xE]at hv;cases hv
section
variable {a b c:BI}{ta tb tc:WT}
theorem ac9{a b:BI}{ta tb:WT}(ha:RW a ta)(hb:RW b tb):∀(i:Nat) o u,[a,b][i]?=some o->[ta,tb][i]?=some u->RW o u
 |0,o,u,h1,h2=>by cases h1;cases h2;exact ha
 |1,o,u,h1,h2=>by cases h1;cases h2;exact hb
 |i+2,o,u,h1,_=>by simp at h1
theorem get3{a b c:BI}{ta tb tc:WT}(ha:RW a ta)(hb:RW b tb)(hc:RW c tc):∀(i:Nat) o u,[a,b,c][i]?=some o->[ta,tb,tc][i]?=some u->RW o u
 |0,o,u,h1,h2=>by cases h1;cases h2;exact ha
 |1,o,u,h1,h2=>by cases h1;cases h2;exact hb
 |2,o,u,h1,h2=>by cases h1;cases h2;exact hc
 |i+3,o,u,h1,_=>by simp at h1
theorem T5{x:Str}{k:Kd}(ha:RW a ta):RW (MX x k a) (.lam x k ta):=by
 have hl:("(fun "++x ++ " "++mO k ++ " ")++a.ln ++ ")"=aS (.lam x k ta):=by rw[ha.ln,wg]
 refine⟨by show eG [_,_,.tuple [a.e]]=_;rw[ha.e];rfl,hl,qo (ones:=[a]) (c8:=["(fun "++x ++ " "++mO k ++ " ",")"]) [ta] rfl rfl (λi o u h1 h2=>?_) (λi hi=>?_) hl⟩
 ·cases i with
  |zero=>cases h1;cases h2;exact ha
  |succ i=>simp at h1
 ·cases i with
  |zero=>rw[M7];rfl
  |succ i=>simp at hi
theorem zB{w w':Str}{t:WT}{e0:Str}(ha:RW a ta)(hb:RW b tb)(ho:t.own=[ta,tb])(he:eG [.str e0,.tuple [],.tuple [dY ta,dY tb]]=dY t)(h:BK t 0=w'/\BK t 1=w'++aS ta ++ " ")(hl:w'++aS ta ++ " "++aS tb ++ ")"=aS t):RW (iR e0 [] [a,b] [w'," ",")"]) t:=by
 have JA:w'++a.ln ++ " "++b.ln ++ ")"=aS t:=by rw[ha.ln,hb.ln];exact hl
 refine⟨by show eG [_,_,.tuple [a.e,b.e]]=_;rw[ha.e,hb.e];exact he,JA,qo (ones:=[a,b]) (c8:=[w'," ",")"]) [ta,tb] ho rfl (ac9 ha hb) (λi hi=>?_) JA⟩;match i,hi with
 |0,_=>rw[h.1];rfl
 |1,_=>rw[h.2,<-ha.ln];rfl
 |i+2,hi=>exact absurd hi (by simp)
theorem CO(ha:RW a ta)(hb:RW b tb):RW (xD a b) (.add ta tb):=zB (w:="(add") ha hb rfl rfl (vo (w:="(add") (.inl ⟨rfl,rfl,rfl⟩)) (by rw[lG])
theorem X8(ha:RW a ta)(hb:RW b tb)(hc:RW c tc):RW (X5 a b c) (.cond ta tb tc):=by
 have hl : "(if "++a.ln ++ " "++b.ln ++ " "++c.ln ++ ")"=aS (.cond ta tb tc):=by rw[ha.ln,hb.ln,hc.ln,m3]
 obtain⟨h0,h1,h2⟩:=IK ta tb tc;refine⟨by show eG [_,_,.tuple [a.e,b.e,c.e]]=_;rw[ha.e,hb.e,hc.e];rfl,hl,qo (ones:=[a,b,c]) (c8:=["(if "," "," ",")"]) [ta,tb,tc] rfl rfl (get3 ha hb hc) (λi hi=>?_) hl⟩;match i,hi with
 |0,_=>rw[h0];rfl
 |1,_=>rw[h1,<-ha.ln];rfl
 |2,_=>rw[h2,<-ha.ln,<-hb.ln];rfl
 |i+3,hi=>exact absurd hi (by simp)
theorem PJ{k:Kd}{x y:Str}(ha:RW a ta)(hb:RW b tb)(hc:RW c tc):RW (EY k x y a b c) (.case k x y ta tb tc):=by
 have hl:("(case "++mO k ++ " ")++a.ln ++ " "++b.ln++(" "++x ++ " "++y ++ " ")++c.ln ++ ")"=aS (.case k x y ta tb tc):=by rw[ha.ln,hb.ln,hc.ln,m4]
 obtain⟨h0,h1,h2⟩:=IL k x y ta tb tc;refine⟨by show eG [_,_,.tuple [a.e,b.e,c.e]]=_;rw[ha.e,hb.e,hc.e];rfl,hl,qo (ones:=[a,b,c]) (c8:=["(case "++mO k ++ " "," "," "++x ++ " "++y ++ " ",")"]) [ta,tb,tc] rfl rfl (get3 ha hb hc) (λi hi=>?_) hl⟩;match i,hi with
 |0,_=>rw[h0];rfl
 |1,_=>rw[h1,<-ha.ln];rfl
 |2,_=>rw[h2,<-ha.ln,<-hb.ln];rfl
 |i+3,hi=>exact absurd hi (by simp)
end
theorem CP:∀{a b:Kd},eW a=eW b->a=b:=by
 have nt:("num":Str)≠"truth":=by decide
 intro a;induction a with
 |num=>intro b h;cases b with|num=>rfl|truth=>simp[eW]at h;exact absurd h nt|_=>simp[eW]at h
 |truth=>intro b h;cases b with|truth=>rfl|num=>simp[eW]at h;exact absurd h.symm nt|_=>simp[eW]at h
 |list k ih=>intro b h;cases b with|list m=>simp[eW]at h;rw[ih h]|_=>simp[eW]at h
 |to k m i1 i2=>intro b h;cases b with|to k' m'=>simp[eW]at h;rw[i1 h.1,i2 h.2]|_=>simp[eW]at h
end Wk
namespace L2
open PySem PySem.Spec PyProof.Rows
theorem fi.Q3{P:aR}{w:bH}{K:aa}{mg:Str->Option ah}{base:bS}{k:Nat}{f:aj}{fd:be}{ps:List Str}{sp Hy:Sp}(F:fi P w K mg base (Be P w base) k f fd ps sp)(h:∀vs H Q E,Hy vs H Q E->sp vs H Q (λ_ _ _=>False)):fi P w K mg base kx k f fd ps Hy:=by
 refine⟨λvs H Q E q=>F.len vs H Q _ (h vs H Q E q),λA outer s H args us vs Q E hr e0 hb r Av=>?_⟩;refine codeAny_mono (F.run A outer s H args us vs Q (λ_ _ _=>False) hr e0 hb r (h vs H Q E Av)) λr s' hq=>?_;cases r with
 |error e=>
  obtain⟨ea,cls,H',B,rfl,F',z⟩:=hq;exact z.elim
 |ok fl=>cases fl<;>exact hq
theorem SW.Q3{P:aR}{w:bH}{K:aa}{mg:Str->Option ah}{base:bS}{k:Nat}{x:Str}{ps:List Str}{sp Hy:Sp}(D:SW P w K mg base k x ps sp)(h:∀vs H Q E,Hy vs H Q E->sp vs H Q (λ_ _ _=>False)):cK P w K mg base k x ps Hy:=
 let⟨f,fd,F,r⟩:=D;⟨f,fd,F.Q3 h,r⟩
section
variable {X:Cx}{ρ:List Sl}{ss rest:List b9}{Q:Out->Prop}{e:bc}{pos p2:Pos}
theorem PK{i:Nat}{x:Str}{m n:Int}(nd:X.N.Nodup)(hi:sU x X.N 0=some i)(hr:ρ[i]?=some (.d (.int m)))(h:VE X ρ e (.d (.int n)))(k:VS X rest (ρ.set i (.d (.int (m + n)))) Q)(hx:Loc X.env.scope x:=by exact cm rfl)(hf:X.fn x=true\/X.env.scope.names.lookup x=some .local:=by first|exact .inl rfl|exact .inr rfl|assumption):VS X (.AugAssign (.Name x p2) .Add e pos::rest) ρ Q:=
 lW (RZ nd (ic hi) hx h R0 hf) λH0 hs D σ H er l=>by
  obtain⟨v,h1,h2⟩:=er.dat i _ hr;obtain rfl:=h2.cP;refine⟨_,h1,⟨H0,hs,er⟩,λy H' s rv=>?_⟩;obtain rfl:=eK.cP rv;exact⟨m,n,rfl,rfl,l.nx _ _ ⟨_,k,(er.grow s).vT (.int _)⟩⟩
theorem ER.lend{K:aa}{H0 H:Hp}{hs:List (V×Sl)}{σ:St}{i:Nat}{xs:List aq}(e:ER K H0 hs ρ σ H)(hi:ρ[i]?=some (.o xs)):ER K H0 hs (ρ.set i (.l xs)) σ H:=by
 refine⟨e.same,by rw[fq];exact e.len,λj x q=>?_,λj x q=>?_,λj x q=>?_,λj x q=>?_,λj k b us zs q1 q2 q3=>?_,λj k b us zs n q1 q2 q3=>?_,e.held,λj us b q1 q2=>?_⟩
 ·rcases cp q with⟨_,z,_⟩|⟨_,q⟩
  ·cases z
  ·exact e.dat j x q
 ·rcases cp q with⟨rfl,z,_⟩|⟨_,q⟩
  ·cases z;obtain⟨a,h1,h2,_⟩:=e.own i xs hi;exact⟨a,h1,h2⟩
  ·exact e.lst j x q
 ·rcases cp q with⟨_,z,_⟩|⟨_,q⟩
  ·cases z
  ·exact e.Kr j x q
 ·rcases cp q with⟨_,z,_⟩|⟨_,q⟩
  ·cases z
  ·exact e.own j x q
 ·rcases cp q1 with⟨_,z,_⟩|⟨n1,q1⟩
  ·cases z
  rcases cp q2 with⟨rfl,_,_⟩|⟨n2,q2⟩
  ·exact e.rj j i b us xs (dz n1) q1 hi q3
  ·exact e.sS j k b us zs q1 q2 q3
 ·rcases cp q1 with⟨_,z,_⟩|⟨n1,q1⟩
  ·cases z
  rcases cp q2 with⟨_,z,_⟩|⟨n2,q2⟩
  ·cases z
  exact e.rj j k b us zs n q1 q2 q3
 ·rcases cp q1 with⟨_,z,_⟩|⟨n1,q1⟩
  ·cases z
  exact e.sT j us b q1 q2
theorem PL{i:Nat}{xs:List aq}(hi:ρ[i]?=some (.o xs))(k:VS X ss (ρ.set i (.l xs)) Q):VS X ss ρ Q:=by
 rintro pins s σ H D I ⟨H0,hs,er,l⟩;exact k pins s σ _ D I ⟨H0,hs,er.lend hi,l⟩
end
end L2
namespace Wk
open PySem L2
noncomputable def wn:WT->Nat
 |.num _=>0
 |.truth _=>1
 |.nil _=>2
 |.name _=>3
 |.lam ..=>4
 |.add ..=>5
 |.less ..=>6
 |.front ..=>7
 |.call ..=>8
 |.cond ..=>9
 |.case ..=>10
noncomputable def ad0(w:Str):Nat:=if w = "num" then 0 else if w = "truth" then 1 else if w = "nil" then 2 else if w = "name" then 3 else if w = "fun" then 4 else if w = "add" then 5 else if w = "less" then 6 else if w = "front" then 7 else if w = "call" then 8 else if w = "if" then 9 else 10
theorem BL(t:WT):ad0 t.word=wn t:=by cases t<;>rfl
theorem CQ(t:WT):dY t = .tuple [.str t.word,.tuple t.marks,.tuple (t.own.map dY)]:=by cases t<;>rfl
theorem iy{a b:WT}(h:dY a=dY b):wn a=wn b/\a.marks=b.marks/\a.own.map dY=b.own.map dY:=by
 rw[CQ,CQ b]at h;simp only[PyData.tuple.injEq,FA,and_true,PyData.str.injEq]at h;exact⟨by rw[<-BL,<-BL b,h.1],h.2.1,h.2.2⟩
theorem IT{a:WT}:∀{b:WT},dY a=dY b->a=b:=by
 induction a with
 |num i=>intro b h;obtain⟨hn,hm,ho⟩:=iy h;cases b with
  |num j=>simp[WT.marks]at hm;rw[hm]
  |_=>simp[wn]at hn
 |truth i=>intro b h;obtain⟨hn,hm,ho⟩:=iy h;cases b with
  |truth j=>simp[WT.marks]at hm;rw[hm]
  |_=>simp[wn]at hn
 |nil k=>intro b h;obtain⟨hn,hm,ho⟩:=iy h;cases b with
  |nil m=>simp[WT.marks]at hm;rw[CP hm]
  |_=>simp[wn]at hn
 |name x=>intro b h;obtain⟨hn,hm,ho⟩:=iy h;cases b with
  |name y=>simp[WT.marks]at hm;rw[hm]
  |_=>simp[wn]at hn
 |lam x k c ih=>intro b h;obtain⟨hn,hm,ho⟩:=iy h;cases b with
  |lam y m d=>simp[WT.marks]at hm;simp[WT.own]at ho;rw[hm.1,CP hm.2,ih ho]
  |_=>simp[wn]at hn
 |add p q i1 i2=>intro b h;obtain⟨hn,hm,ho⟩:=iy h;cases b with
  |add p2 q2=>simp[WT.own]at ho;rw[i1 ho.1,i2 ho.2]
  |_=>simp[wn]at hn
 |less p q i1 i2=>intro b h;obtain⟨hn,hm,ho⟩:=iy h;cases b with
  |less p2 q2=>simp[WT.own]at ho;rw[i1 ho.1,i2 ho.2]
  |_=>simp[wn]at hn
 |front p q i1 i2=>intro b h;obtain⟨hn,hm,ho⟩:=iy h;cases b with
  |front p2 q2=>simp[WT.own]at ho;rw[i1 ho.1,i2 ho.2]
  |_=>simp[wn]at hn
 |call p q i1 i2=>intro b h;obtain⟨hn,hm,ho⟩:=iy h;cases b with
  |call p2 q2=>simp[WT.own]at ho;rw[i1 ho.1,i2 ho.2]
  |_=>simp[wn]at hn
 |cond p q r i1 i2 i3=>intro b h;obtain⟨hn,hm,ho⟩:=iy h;cases b with
  |cond p2 q2 r2=>simp[WT.own]at ho;rw[i1 ho.1,i2 ho.2.1,i3 ho.2.2]
  |_=>simp[wn]at hn
 |case k x y p q r i1 i2 i3=>intro b h;obtain⟨hn,hm,ho⟩:=iy h;cases b with
  |case k2 x2 y2 p2 q2 r2=>simp[WT.marks]at hm;simp[WT.own]at ho;rw[CP hm.1,hm.2.1,hm.2.2,i1 ho.1,i2 ho.2.1,i3 ho.2.2]
  |_=>simp[wn]at hn
noncomputable def Q4:List Sl->Sl->Prop:=λas r=>∃(t u:WT)(i:Nat),as=[.d (dY t),.d (.int (i:Int))]/\t.own[i]?=some u/\r = .d (dY u)
theorem PM(t:WT):(zx t).own=t.own.map zx:=by cases t<;>rfl
theorem T6{K:aa}{C:aj}{vs:List V}{H:Hp}{Q:VK}{E:XK}(h:gr K Q4 vs H Q E):QI K C vs H Q (λ_ _ _=>False):=by
 obtain⟨as,r,h1,⟨t,u,i,rfl,hu,rfl⟩,q⟩:=h;cases h1 with
 |cons a1 t1=>
  cases t1 with
  |cons a2 t2=>
   cases t2;obtain rfl:=fV.cP a2;refine⟨_,_,zx t,rfl,by rw[G3];exact a1,.inl ⟨i,zx u,rfl,by rw[PM,aw,hu];rfl,λw hw=>q w H (bK.refl H) ?_⟩⟩;rw[G3]at hw;exact hw
noncomputable def M9:List Sl->Sl->Prop:=λas r=>∃(t:WT)(i:Nat),as=[.d (dY t),.d (.int (i:Int))]/\t.ok/\i<t.own.length/\r = .o ((CN t i).map uC)
noncomputable def Na:List Sl->Sl->Prop:=λas r=>∃(t u:WT)(p:List Nat),as=[.d (dY t),.d (.tuple ((mi p).map .int))]/\oP t p=some u/\t.ok/\iA t<=1000000/\(aS t).length<=1000000/\r = .d (.tuple [.int (gZ t p:Nat),.int ((gZ t p + (aS u).length:Nat):Int)])
noncomputable def T7(t:WT):List (aq×aq):=((jK t).mapIdx λi p=>(eJ (i:Nat),uC p))
noncomputable def CU(q:aq×aq):Bool:=match q.2 with
 |.tuple (.str w::_)=>decide (w = "part")
 |_=>false
theorem Nb(t:WT):tq 0 ((jK t).map uC)=(T7 t).map Q2:=by cases t<;>rfl
theorem PN(t:WT):((T7 t).filter CU).map (λq=>q.1)=(m7 t).map λ(k:Nat)=>eJ (k:Int):=by cases t<;>rfl
theorem T8{t:WT}{q:aq×aq}(h:q∈T7 t):∃p,q.2=uC p:=by
 unfold T7 at h;rw[List.mem_mapIdx]at h;obtain⟨i,hi,rfl⟩:=h;exact⟨_,rfl⟩
noncomputable def pcW:Pc->Str
 |.text _=>"text"
 |.name _=>"name"
 |.kind _=>"kind"
 |.part _=>"part"
theorem X9(p:Pc):∃d,uC p = .tuple [.str (pcW p),d]:=by cases p<;>exact⟨_,rfl⟩
theorem PQ(t:WT)(i:Nat):qL t i<=(jK t).length:=by
 unfold qL;cases t<;>(rcases i with _|_|_|i<;>simp[m7,jK])
theorem Kj(ps:List Pc)(n:Nat):lC (ps.take n)<=lC ps:=by
 conv=>rhs;rw[<-Ft n ps,lX]
 omega
theorem Kk(ps:List Pc)(n:Nat):((jA (ps.take n)).map (·.length)).sum<=((jA ps).map (·.length)).sum:=by
 conv=>rhs;rw[<-Ft n ps,rA,bI,List.sum_append]
 omega
theorem sL{t u:WT}{i:Nat}(h:t.own[i]?=some u):(t.ok->u.ok)/\iA u<=iA t/\(BK t i).length + (aS u).length<=(aS t).length:=by
 cases t with
 |lam x k b=>
  match i,h with
  |0,h=>cases h;exact⟨id,by simp only[iA];omega,by rw[M7,wg];simp only[len_app];omega⟩
  |i+1,h=>simp[WT.own]at h
 |add a b=>
  obtain⟨h0,h1⟩:=vo (t:=.add a b) (w:="(add") (w':="(add ") (.inl ⟨rfl,rfl,rfl⟩);match i,h with
  |0,h=>cases h;exact⟨λo=>o.1,by simp only[iA];omega,by rw[h0,lG];simp only[len_app];omega⟩
  |1,h=>cases h;exact⟨λo=>o.2,by simp only[iA];omega,by rw[h1,lG];simp only[len_app];omega⟩
  |i+2,h=>simp[WT.own]at h
 |less a b=>
  obtain⟨h0,h1⟩:=vo (t:=.less a b) (w:="(less") (w':="(less ") (.inr (.inl ⟨rfl,rfl,rfl⟩));match i,h with
  |0,h=>cases h;exact⟨λo=>o.1,by simp only[iA];omega,by rw[h0,qk];simp only[len_app];omega⟩
  |1,h=>cases h;exact⟨λo=>o.2,by simp only[iA];omega,by rw[h1,qk];simp only[len_app];omega⟩
  |i+2,h=>simp[WT.own]at h
 |front a b=>
  obtain⟨h0,h1⟩:=vo (t:=.front a b) (w:="(front") (w':="(front ") (.inr (.inr (.inl ⟨rfl,rfl,rfl⟩)));match i,h with
  |0,h=>cases h;exact⟨λo=>o.1,by simp only[iA];omega,by rw[h0,oj];simp only[len_app];omega⟩
  |1,h=>cases h;exact⟨λo=>o.2,by simp only[iA];omega,by rw[h1,oj];simp only[len_app];omega⟩
  |i+2,h=>simp[WT.own]at h
 |call a b=>
  obtain⟨h0,h1⟩:=vo (t:=.call a b) (w:="(call") (w':="(call ") (.inr (.inr (.inr ⟨rfl,rfl,rfl⟩)));match i,h with
  |0,h=>cases h;exact⟨λo=>o.1,by simp only[iA];omega,by rw[h0,ql];simp only[len_app];omega⟩
  |1,h=>cases h;exact⟨λo=>o.2,by simp only[iA];omega,by rw[h1,ql];simp only[len_app];omega⟩
  |i+2,h=>simp[WT.own]at h
 |cond a b c=>
  obtain⟨h0,h1,h2⟩:=IK a b c;match i,h with
  |0,h=>cases h;exact⟨λo=>o.1,by simp only[iA];omega,by rw[h0,m3];simp only[len_app];omega⟩
  |1,h=>cases h;exact⟨λo=>o.2.1,by simp only[iA];omega,by rw[h1,m3];simp only[len_app];omega⟩
  |2,h=>cases h;exact⟨λo=>o.2.2,by simp only[iA];omega,by rw[h2,m3];simp only[len_app];omega⟩
  |i+3,h=>simp[WT.own]at h
 |case k x y a b c=>
  obtain⟨h0,h1,h2⟩:=IL k x y a b c;match i,h with
  |0,h=>cases h;exact⟨λo=>o.1,by simp only[iA];omega,by rw[h0,m4];simp only[len_app];omega⟩
  |1,h=>cases h;exact⟨λo=>o.2.1,by simp only[iA];omega,by rw[h1,m4];simp only[len_app];omega⟩
  |2,h=>cases h;exact⟨λo=>o.2.2,by simp only[iA];omega,by rw[h2,m4];simp only[len_app];omega⟩
  |i+3,h=>simp[WT.own]at h
 |_=>simp[WT.own]at h
theorem zC:∀{p:List Nat}{t u:WT},oP t p=some u->(t.ok->u.ok)/\iA u<=iA t/\gZ t p + (aS u).length<=(aS t).length
 |[],t,u,h=>by cases h;exact⟨id,au _,by simp[gZ]⟩
 |i::p,t,u,h=>by
  obtain⟨v,hv,h2⟩:=om h;obtain⟨a1,a2,a3⟩:=sL hv;obtain⟨b1,b2,b3⟩:=zC h2;refine⟨λo=>b1 (a1 o),by omega,?_⟩;rw[gZ,hv];dsimp only;omega
theorem IU:∀{p:List Nat}{t v u:WT}{i:Nat},oP t p=some v->v.own[i]?=some u->oP t (p++[i])=some u/\gZ t (p++[i])=gZ t p + (BK v i).length
 |[],t,v,u,i,h,hu=>by cases h;exact⟨by rw[eI,oP,hu];rfl,by rw[eI,gZ,gZ,hu];simp[gZ]⟩
 |k::p,t,v,u,i,h,hu=>by
  obtain⟨w,hw,h2⟩:=om h;obtain⟨a,b⟩:=IU h2 hu;rw[cV,oP,gZ,gZ,hw];dsimp only;exact⟨a,by rw[b];omega⟩
theorem IX{t u:WT}{p:List Nat}(h:oP t p=some u):∀i,i<p.length->∃v w,oP t (p.take i)=some v/\v.own[p.getD i 0]?=some w/\oP t (p.take (i+1))=some w:=by
 induction p generalizing t with
 |nil=>intro i hi;simp at hi
 |cons k p ih=>
  intro i hi;obtain⟨v,hv,h2⟩:=om h;cases i with
  |zero=>exact⟨t,v,rfl,hv,by simp only[jF,jn];rw[oP,hv];rfl⟩
  |succ i=>
   obtain⟨a,b,h3,h4,h5⟩:=ih h2 i (by simpa using hi);refine⟨a,b,by rw[jF,oP,hv];exact h3,by simpa using h4,by rw[jF,oP,hv];exact h5⟩
noncomputable def Hc:WT->Lb
 |.num i=>.num i
 |.truth b=>.truth b
 |.nil k=>.nil k
 |.name x=>.name x
 |.lam x k _=>.fn x k
 |.add ..=>.add
 |.less ..=>.less
 |.front ..=>.front
 |.call ..=>.call
 |.cond ..=>.OX
 |.case k h t _ _ _=>.case k h t
noncomputable def l6:WT->Tm
 |.num i=>.node (.num i) []
 |.truth b=>.node (.truth b) []
 |.nil k=>.node (.nil k) []
 |.name x=>.node (.name x) []
 |.lam x k b=>.node (.fn x k) [l6 b]
 |.add a b=>.node .add [l6 a,l6 b]
 |.less a b=>.node .less [l6 a,l6 b]
 |.front a b=>.node .front [l6 a,l6 b]
 |.call a b=>.node .call [l6 a,l6 b]
 |.cond a b c=>.node .OX [l6 a,l6 b,l6 c]
 |.case k h t a b c=>.node (.case k h t) [l6 a,l6 b,l6 c]
theorem CV(t:WT):l6 t = .node (Hc t) (t.own.map l6):=by cases t<;>rfl
theorem IY(t:WT):(l6 t).own=t.own.map l6:=by rw[CV];rfl
theorem IZ(t:WT):(l6 t).lO=Hc t:=by rw[CV];rfl
theorem T9(t:WT):ex (l6 t)=zx t:=by
 induction t<;>simp_all [l6,ex,Te,zx,Zh]
theorem Ua(t:WT):py (ex (l6 t))=dY t:=by rw[T9,G3]
theorem Nc(t:WT):2 * (l6 t).size<=iA t:=by
 induction t<;>simp_all [l6,c9.size,gS,iA]<;>omega
theorem Hd:∀(p:List Nat)(t:WT),(l6 t).se p=(oP t p).map l6
 |[],t=>by rw[kA];rfl
 |i::p,t=>by
  rw[ji,IY,aw,oP];cases q:t.own[i]? with
  |none=>rfl
  |some u=>exact Hd p u
theorem PR(t:WT):JM (l6 t):=by
 induction t with
 |num=>exact .mk rfl (λt h=>nomatch h)
 |truth=>exact .mk rfl (λt h=>nomatch h)
 |nil=>exact .mk rfl (λt h=>nomatch h)
 |name=>exact .mk rfl (λt h=>nomatch h)
 |lam x k b ih=>exact .mk rfl λt h=>by rw[aM.mp h];exact ih
 |add a b i1 i2=>exact .mk rfl (by simp only[cv];exact⟨i1,i2,nofun⟩)
 |less a b i1 i2=>exact .mk rfl (by simp only[cv];exact⟨i1,i2,nofun⟩)
 |front a b i1 i2=>exact .mk rfl (by simp only[cv];exact⟨i1,i2,nofun⟩)
 |call a b i1 i2=>exact .mk rfl (by simp only[cv];exact⟨i1,i2,nofun⟩)
 |cond a b c i1 i2 i3=>exact .mk rfl (by simp only[cv];exact⟨i1,i2,i3,nofun⟩)
 |case k h t a b c i1 i2 i3=>exact .mk rfl (by simp only[cv];exact⟨i1,i2,i3,nofun⟩)
noncomputable def KS:WT->Prop
 |.nil k=>c7 k<=74
 |.lam _ k b=>c7 k<=74/\KS b
 |.add a b=>KS a/\KS b
 |.less a b=>KS a/\KS b
 |.front a b=>KS a/\KS b
 |.call a b=>KS a/\KS b
 |.cond a b c=>KS a/\KS b/\KS c
 |.case k _ _ a b c=>c7 k<=74/\KS a/\KS b/\KS c
 |_=>True
noncomputable def jR:WT->Nat
 |.lam _ _ b=>jR b+1
 |.add a b=>jR a + jR b
 |.less a b=>jR a + jR b
 |.front a b=>jR a + jR b
 |.call a b=>jR a + jR b
 |.cond a b c=>jR a + jR b + jR c
 |.case _ _ _ a b c=>jR a + jR b + jR c
 |_=>0
theorem KS.lO{t:WT}(h:KS t):Td (Hc t)<=74:=by
 cases t with
 |nil k=>exact h
 |lam x k b=>exact h.1
 |case k x y a b c=>exact h.1
 |_=>simp[Hc,Td]
theorem KS.own{t u:WT}{i:Nat}(h:KS t)(hu:t.own[i]?=some u):KS u/\jR u<=jR t:=by
 cases t with
 |lam x k b=>match i,hu with|0,hu=>cases hu;exact⟨h.2,by simp only[jR];omega⟩|i+1,hu=>simp[WT.own]at hu
 |add a b=>match i,hu with|0,hu=>cases hu;exact⟨h.1,by simp only[jR];omega⟩|1,hu=>cases hu;exact⟨h.2,by simp only[jR];omega⟩|i+2,hu=>simp[WT.own]at hu
 |less a b=>match i,hu with|0,hu=>cases hu;exact⟨h.1,by simp only[jR];omega⟩|1,hu=>cases hu;exact⟨h.2,by simp only[jR];omega⟩|i+2,hu=>simp[WT.own]at hu
 |front a b=>match i,hu with|0,hu=>cases hu;exact⟨h.1,by simp only[jR];omega⟩|1,hu=>cases hu;exact⟨h.2,by simp only[jR];omega⟩|i+2,hu=>simp[WT.own]at hu
 |call a b=>match i,hu with|0,hu=>cases hu;exact⟨h.1,by simp only[jR];omega⟩|1,hu=>cases hu;exact⟨h.2,by simp only[jR];omega⟩|i+2,hu=>simp[WT.own]at hu
 |cond a b c=>match i,hu with|0,hu=>cases hu;exact⟨h.1,by simp only[jR];omega⟩|1,hu=>cases hu;exact⟨h.2.1,by simp only[jR];omega⟩|2,hu=>cases hu;exact⟨h.2.2,by simp only[jR];omega⟩|i+3,hu=>simp[WT.own]at hu
 |case k x y a b c=>match i,hu with|0,hu=>cases hu;exact⟨h.2.1,by simp only[jR];omega⟩|1,hu=>cases hu;exact⟨h.2.2.1,by simp only[jR];omega⟩|2,hu=>cases hu;exact⟨h.2.2.2,by simp only[jR];omega⟩|i+3,hu=>simp[WT.own]at hu
 |_=>simp[WT.own]at hu
noncomputable def Sm(sc:Sc):Prop:=∀y∈sc,c7 y.2<=75
theorem Nd{b:Lb}{i:Nat}{sc:Sc}(hb:Td b<=74)(h:Sm sc):Sm (ua b i sc):=by
 intro y hy;unfold ua at hy;split at hy
 ·rcases bj.mp hy with z|z
  ·exact h y z
  ·rw[aM]at z;subst z;exact aX (show c7 _<=74 from hb) (by decide)
 ·rename_i k x t;have hk:c7 k<=74:=hb;rcases bj.mp hy with z|z
  ·rcases bj.mp z with z|z
   ·exact h y z
   ·rw[aM]at z;subst z;exact aX hk (by decide)
  ·rw[aM]at z;subst z;show c7 k+1<=75;omega
 ·exact h y hy
theorem Ja{b:Lb}{sc:Sc}:∀{o:List Tm}{i:Nat}{ks:List Kd},Ai b sc i o = .ok ks->∀(j:Nat) k,ks[j]?=some k->∃u,o[j]?=some u/\ck (ua b (i + j) sc) u = .ok k
 |[],i,ks,h,j,k,hk=>by rw[lQ]at h;cases h;simp at hk
 |t::r,i,ks,h,j,k,hk=>by
  rw[gT]at h;cases h1:ck (ua b i sc) t with
  |bad n pl d f=>rw[h1]at h;cases h
  |ok k0=>
   rw[h1]at h;simp only at h;cases h2:Ai b sc (i+1) r with
   |bad n pl d f=>rw[h2]at h;cases h
   |ok ks0=>
    rw[h2]at h;cases h;cases j with
    |zero=>cases hk;exact⟨t,rfl,h1⟩
    |succ j=>
     obtain⟨u,a,c⟩:=Ja h2 j k (by simpa using hk);exact⟨u,by simpa using a,by rw[show i + (j+1)=i+1 + j from by omega];exact c⟩
theorem Ya{sc:Sc}{b:Lb}{o:List Tm}{k:Kd}(h:ck sc (.node b o) = .ok k):∃ks,Ai b sc 0 o = .ok ks/\eZ b ks sc=none/\k=j8 b ks sc:=by
 rw[kH]at h;cases h1:Ai b sc 0 o with
 |bad r pl d f=>rw[h1]at h;cases h
 |ok ks=>
  rw[h1]at h;simp only at h;cases h2:eZ b ks sc with
  |some br=>rw[h2]at h;cases h
  |none=>rw[h2]at h;cases h;exact⟨ks,rfl,h2,rfl⟩
theorem Ub(k:Kd):c7 (Kd.res k)<=c7 k:=by cases k<;>simp[Kd.res,c7];omega
theorem Uc:∀(t:WT),KS t->∀{sc:Sc},Sm sc->∀{k:Kd},ck sc (l6 t) = .ok k->c7 k<=76 * (jR t+1):=by
 intro t;induction h:iA t using qT generalizing t with
 |ind n ih=>
  intro hk sc hs k hc;subst h;rw[CV]at hc;obtain⟨ks,h1,h2,rfl⟩:=Ya hc;have get:∀(j:Nat) m,ks[j]?=some m->∃u,t.own[j]?=some u/\c7 m<=76 * (jR u+1):=λj m hm=>by
   obtain⟨v,a,c⟩:=Ja h1 j m hm;rw[aw]at a;cases q:t.own[j]? with
   |none=>rw[q]at a;cases a
   |some u=>
    rw[q]at a;cases a;have i9:iA u<iA t:=by
     obtain⟨_,b,_⟩:=sL q;rcases Nat.lt_or_eq_of_le b with z|z
     ·exact z
     ·exfalso;cases t<;>(rcases j with _|_|_|j<;>simp[WT.own]at q<;>subst q<;>simp only[iA]at z<;>omega)
    exact⟨u,rfl,ih (iA u) i9 u rfl (hk.own q).1 (Nd hk.lO hs) c⟩
  have getD:∀(j:Nat),c7 ((ks[j]?).getD .num)<=76 * (jR t+1):=λj=>by
   cases q:ks[j]? with
   |none=>simp[c7];omega
   |some m=>
    obtain⟨u,a,c⟩:=get j m q;have:=(hk.own a).2;simp only[Option.getD_some];have:76 * (jR u+1)<=76 * (jR t+1):=Nat.mul_le_mul_left _ (by omega);omega
  cases t with
  |num i=>simp[Hc,j8,c7];omega
  |truth b=>simp[Hc,j8,c7];omega
  |nil m=>have:c7 m<=74:=hk;simp only[Hc,j8,c7,jR];omega
  |name x=>
   show c7 ((look sc x).getD .num)<=_;cases q:look sc x with
   |none=>simp[c7];omega
   |some m=>obtain⟨y,hy,rfl⟩:=Md q;have:=hs y hy;simp only[Option.getD_some,jR];omega
  |lam x m b=>
   have:c7 m<=74:=hk.1;have hb:c7 ((ks[0]?).getD .num)<=76 * (jR b+1):=by
    cases q:ks[0]? with
    |none=>simp[c7];omega
    |some m'=>obtain⟨u,a,c⟩:=get 0 m' q;cases a;exact c
   show c7 (.to m ((ks[0]?).getD .num))<=76 * (jR b+1+1);simp only[c7];omega
  |add a b=>simp[Hc,j8,c7];omega
  |less a b=>simp[Hc,j8,c7];omega
  |front a b=>exact getD 1
  |call a b=>exact aX (Ub _) (getD 0)
  |cond a b c=>exact getD 1
  |case m x y a b c=>exact getD 1
theorem Nf:∀{p:List Nat}{t u:WT}{sc:Sc},oP t p=some u->KS t->Sm sc->KS u/\jR u<=jR t/\Sm (gD (l6 t) p sc)
 |[],t,u,sc,h,hk,hs=>by cases h;exact⟨hk,au _,by rw[pk];exact hs⟩
 |i::p,t,u,sc,h,hk,hs=>by
  obtain⟨v,hv,h2⟩:=om h;obtain⟨a1,a2⟩:=hk.own hv;obtain⟨b1,b2,b3⟩:=Nf (sc:=ua (Hc t) i sc) h2 a1 (Nd hk.lO hs);refine⟨b1,by omega,?_⟩;rw[pq (show(l6 t).own[i]?=some (l6 v)from by rw[IY,aw,hv];rfl),IZ];exact b3
theorem ad1{t:WT}(hk:KS t)(hf:jR t<=100)(hz:iA t<=400000):Me (l6 t) [] where
 ar:=PR t
 size:=by have:=Nc t;omega
 lO:=λp s hs=>by
  rw[Hd]at hs;cases q:oP t p with
  |none=>rw[q]at hs;cases hs
  |some u=>
   rw[q]at hs;cases hs;rw[IZ];exact aX (Nf (sc:=[]) q hk (λy hy=>nomatch hy)).1.lO (by decide)
 kinds:=λrows gd j x hx=>by
  obtain⟨s,a,_⟩:=gd j x hx;have h1:=O7 gd j x s hx a;have mW:=pY (l6 t) _ (aI a);rw[show((x.1,s):List Nat×Tm).1=x.1 from rfl,show((x.1,s):List Nat×Tm).2=s from rfl,Hd]at mW;cases q:oP t x.1 with
  |none=>rw[q]at mW;cases mW
  |some u=>
   rw[q]at mW;cases mW;obtain⟨b1,b2,b3⟩:=Nf (sc:=[]) q hk (λy hy=>nomatch hy);have:=Uc u b1 b3 h1;have:76 * (jR u+1)<=76 * 101:=Nat.mul_le_mul_left _ (by omega);omega
 scl:=by simp
noncomputable def wN(t:WT):Option Br:=(kG (l6 t) []).2
theorem CW(t:WT):wN t=match ck [] (l6 t)with
  |.ok _=>none
  |.bad _ pl d f=>some (pl,d,f):=by
 have h:=Mh (l6 t) [];unfold wN;cases q:ck [] (l6 t)with
 |ok k=>rw[q]at h;exact h.1
 |bad r pl d f=>rw[q]at h;exact h.1
theorem E5:∀{ds:List (Option Kd)} {ks:List Kd} {i:Nat} {x:Nat×Kd×Kd},gh i ds ks=some x->i<=x.1/\x.1<i + ks.length:=by
 intro ds;induction ds with
 |nil=>intro ks i x h;simp[gh]at h
 |cons d ds ih=>
  intro ks i x h;cases ks with
  |nil=>cases d<;>simp[gh]at h
  |cons k ks=>
   cases d with
   |none=>
    rw[gh]at h;have:=ih h;simp;omega
   |some m=>
    rw[gh]at h;split at h
    ·have:=ih h;simp;omega
    ·cases h;simp
theorem Kl{b:Lb}{ks:List Kd}{sc:Sc}{br:Br}(h:eZ b ks sc=some br):br.1=[]\/∃i,br.1=[i]/\i<ks.length:=by
 have kZ:∀{b:Lb}{ks:List Kd}{br:Br},mf b ks=some br->br.1=[]\/∃i,br.1=[i]/\i<ks.length:=λ{b ks br} h=>by
  unfold mf at h;cases q:gh 0 (kZ b ks) ks with
  |none=>rw[q]at h;cases h
  |some x=>rw[q]at h;cases h;exact .inr ⟨x.1,rfl,by have:=(E5 q).2;omega⟩
 unfold eZ at h;split at h
 ·split at h
  ·cases h
  ·cases h;exact .inl rfl
 ·split at h
  ·exact kZ h
  ·cases h;exact .inr ⟨0,rfl,by simp⟩
 ·exact kZ h
theorem Ud:∀(t:WT){sc:Sc}{r:Nat}{pl:List Nat}{d f:Option Kd},ck sc (l6 t) = .bad r pl d f->∃u,oP t pl=some u:=by
 intro t;induction h:iA t using qT generalizing t with
 |ind n ih=>
  intro sc r pl d f hc;subst h;rw[CV,kH]at hc;cases h1:Ai (Hc t) sc 0 (t.own.map l6)with
  |ok ks=>
   rw[h1]at hc;simp only at hc;cases h2:eZ (Hc t) ks sc with
   |none=>rw[h2]at hc;cases hc
   |some br=>
    rw[h2]at hc;cases hc;rcases Kl h2 with z|⟨i,z,hi⟩
    ·rw[z];exact⟨t,rfl⟩
    ·rw[Ii h1,ay]at hi;rw[z,oP,ag hi];exact⟨_,rfl⟩
  |bad n' We d' f'=>
   rw[h1]at hc;cases hc;have key:∀{o':List Tm}{i n':Nat},Ai (Hc t) sc i o' = .bad n' pl d f->∃j v Ue m JJ,pl=(i + j)::Ue/\o'[j]?=some v/\ck JJ v = .bad m Ue d f:=by
    intro o';induction o' with
    |nil=>intro i n' h;rw[lQ]at h;cases h
    |cons v r Lz=>
     intro i n' h;rw[gT]at h;cases h1:ck (ua (Hc t) i sc) v with
     |bad m Ue d0 f0=>
      rw[h1]at h;cases h;exact⟨0,v,Ue,m,_,rfl,rfl,h1⟩
     |ok k0=>
      rw[h1]at h;simp only at h;cases h2:Ai (Hc t) sc (i+1) r with
      |ok ks=>rw[h2]at h;cases h
      |bad n2 pl2 d2 f2=>
       rw[h2]at h;cases h;obtain⟨j,v',Ue,m,JJ,a1,a2,a3⟩:=Lz h2;exact⟨j+1,v',Ue,m,JJ,by rw[a1];congr 1;omega,by simpa using a2,a3⟩
   obtain⟨j,v,Ue,m,JJ,rfl,a2,a3⟩:=key h1;rw[jD];rw[aw]at a2;cases q:t.own[j]? with
   |none=>rw[q]at a2;cases a2
   |some u=>
    rw[q]at a2;cases a2;have i9:iA u<iA t:=by
     obtain⟨_,b,_⟩:=sL q;rcases Nat.lt_or_eq_of_le b with z|z
     ·exact z
     ·exfalso;cases t<;>(rcases j with _|_|_|j<;>simp[WT.own]at q<;>subst q<;>simp only[iA]at z<;>omega)
    rw[oP,q];exact ih (iA u) i9 u rfl a3
theorem CY{t:WT}{br:Br}(h:wN t=some br):∃u,oP t br.1=some u:=by
 rw[CW]at h;cases q:ck [] (l6 t)with
 |ok k=>rw[q]at h;cases h
 |bad r pl d f=>rw[q]at h;cases h;exact Ud t q
noncomputable def CZ:List Sl->Sl->Prop:=λas r=>∃t:WT,as=[.d (dY t),.l []]/\KS t/\jR t<=100/\iA t<=400000/\r = .d (Ks (wN t))
theorem E6{K:aa}{vs:List V}{H:Hp}{Q:VK}{E:XK}(h:gr K CZ vs H Q E):gr K Mf vs H Q E:=by
 obtain⟨as,r,h1,⟨t,rfl,h2,h3,h4,rfl⟩,q⟩:=h;exact⟨_,_,h1,⟨l6 t,[],by rw[Ua];rfl,ad1 h2 h3 h4,rfl⟩,q⟩
theorem Km(k:Kd):2 * c7 k<=Cy k:=by
 induction k with
 |num=>decide
 |truth=>decide
 |list k ih=>simp only[c7,Cy];omega
 |to a b i1 i2=>simp only[c7,Cy];omega
theorem zD(c:Int):c7 (eP c)<=74:=by have:=Km (eP c);have:=pC c;omega
noncomputable def BF(n:Nat)(b:BI):Prop:=∃t,RW b t/\KS t/\jR t<=n
theorem E7(c:Int):BF 0 (dJ c):=⟨fX c,IQ c,by unfold fX;(repeat' split)<;>first|trivial|exact zD _,by unfold fX;(repeat' split)<;>exact au _⟩
inductive vq:Nat->List BI->Prop where
 |nil {m:Nat}:vq m []
 |cons {k n m:Nat} {b:BI} {xs:List BI}:BF k b->vq n xs->k + n<=m->vq m (b::xs)
theorem PU{m j:Nat}{d:BI}{xs:List BI}(h:vq m xs)(hd:BF j d):∃k n,BF k (j0 d xs).1/\vq n (j0 d xs).2/\k + n<=m + j:=by
 cases h with
 |nil=>exact⟨j,0,hd,.nil,by omega⟩
 |cons h1 h2 h3=>exact⟨_,_,h1,h2,by omega⟩
theorem ad2{n m:Nat}{a b:BI}(ha:BF n a)(hb:BF m b):BF (n + m) (xD a b):=by
 obtain⟨t,t1,t2,t3⟩:=ha;obtain⟨u,u1,u2,u3⟩:=hb;exact⟨_,CO t1 u1,⟨t2,u2⟩,by simp only[jR];omega⟩
theorem opF(w:Int){n m:Nat}{a b:BI}(ha:BF n a)(hb:BF m b):BF (n + m) (Wt (IF w) a b):=by
 obtain⟨ta,t1,t2,t3⟩:=ha;obtain⟨tb,u1,u2,u3⟩:=hb;unfold IF Wt;split
 ·exact⟨.add ta tb,zB (w:="(add") (w':="(" ++ "add" ++ " ") t1 u1 rfl rfl (by rw[show("(" ++ "add" ++ " ":Str) = "(add " from by decide];exact vo (w:="(add") (.inl ⟨rfl,rfl,rfl⟩)) (by rw[lG,show("(" ++ "add" ++ " ":Str) = "(add " from by decide]),⟨t2,u2⟩,by simp only[jR];omega⟩
 ·split
  ·exact⟨.less ta tb,zB (w:="(less") (w':="(" ++ "less" ++ " ") t1 u1 rfl rfl (by rw[show("(" ++ "less" ++ " ":Str) = "(less " from by decide];exact vo (w:="(less") (.inr (.inl ⟨rfl,rfl,rfl⟩))) (by rw[qk,show("(" ++ "less" ++ " ":Str) = "(less " from by decide]),⟨t2,u2⟩,by simp only[jR];omega⟩
  ·split
   ·exact⟨.front ta tb,zB (w:="(front") (w':="(" ++ "front" ++ " ") t1 u1 rfl rfl (by rw[show("(" ++ "front" ++ " ":Str) = "(front " from by decide];exact vo (w:="(front") (.inr (.inr (.inl ⟨rfl,rfl,rfl⟩)))) (by rw[oj,show("(" ++ "front" ++ " ":Str) = "(front " from by decide]),⟨t2,u2⟩,by simp only[jR];omega⟩
   ·exact⟨.call ta tb,zB (w:="(call") (w':="(" ++ "call" ++ " ") t1 u1 rfl rfl (by rw[show("(" ++ "call" ++ " ":Str) = "(call " from by decide];exact vo (w:="(call") (.inr (.inr (.inr ⟨rfl,rfl,rfl⟩)))) (by rw[ql,show("(" ++ "call" ++ " ":Str) = "(call " from by decide]),⟨t2,u2⟩,by simp only[jR];omega⟩
theorem Yb(c:Int){m:Nat}{xs:List BI}(h:vq m xs):vq (m+1) ((ie c xs).1::(ie c xs).2):=by
 obtain⟨k1,n1,a1,p1,e1⟩:=PU h (E7 (c / 5));obtain⟨k2,n2,a2,p2,e2⟩:=PU p1 (E7 (c / 7));obtain⟨k3,n3,a3,p3,e3⟩:=PU p2 (E7 (c / 11));unfold ie;split
 ·obtain⟨t,t1,t2,t3⟩:=a1;exact .cons (k:=k1+1) ⟨_,T5 t1,⟨zD _,t2⟩,by simp only[jR];omega⟩ p1 (by omega)
 ·split
  ·exact .cons (opF _ a2 a1) p2 (by omega)
  ·obtain⟨t,t1,t2,t3⟩:=a1;obtain⟨u,u1,u2,u3⟩:=a2;obtain⟨v,v1,v2,v3⟩:=a3;split
   ·exact .cons (k:=k3 + k2 + k1) ⟨_,X8 v1 u1 t1,⟨v2,u2,t2⟩,by simp only[jR];omega⟩ p3 (by omega)
   ·exact .cons (k:=k3 + k2 + k1) ⟨_,PJ v1 u1 t1,⟨zD _,v2,u2,t2⟩,by simp only[jR];omega⟩ p3 (by omega)
theorem Ng(cs:List Int):∀i,vq i (eU cs i)
 |0=>.nil
 |i+1=>by
  rw[eU];split
  ·exact .cons (E7 _) (Ng cs i) (by omega)
  ·exact Yb _ (Ng cs i)
theorem Q5:∀{xs:List BI}{x:BI}{k m:Nat},BF k x->vq m xs->BF (k + m) (rJ x xs)
 |[],x,k,m,⟨t,t1,t2,t3⟩,_=>⟨t,t1,t2,by omega⟩
 |y::r,x,k,m,hx,h=>by
  cases h with
  |cons h1 h2 h3=>
   obtain⟨t,t1,t2,t3⟩:=Q5 (ad2 h1 hx) h2;exact⟨t,by rw[rJ];exact t1,t2,by omega⟩
theorem Ug{cs:List Int}(h:cs.length<=64):∃t,RW (fc cs) t/\t.wf/\t.ok/\iA t<=130000/\(aS t).length<=130000/\KS t/\jR t<=64:=by
 have go:=Kh h;obtain⟨t,e1,e2,t1,t2,t3,t4⟩:=go.ex;obtain⟨k,n,a,b,e⟩:=PU (Ng cs cs.length) (E7 0);obtain⟨u,u1,u2,u3⟩:=Q5 a b;have e:t=u:=IT (by rw[<-e1];exact u1.e);subst e;exact⟨t,u1,t1,t2,t4,by rw[<-e2];exact go.ln,u2,by omega⟩
inductive zE:WT->Prop where
 |num (i:Int):zE (.num i)
 |add {a b:WT}:zE a->zE b->zE (.add a b)
inductive m8:WT->List Nat->Prop where
 |truth:m8 (.truth true) []
 |name:m8 (.name "qq") []
 |left {a b:WT} {p:List Nat}:m8 a p->zE b->m8 (.add a b) (0::p)
 |right {a b:WT} {p:List Nat}:zE a->m8 b p->m8 (.add a b) (1::p)
noncomputable def fe(t:WT):BI:=⟨dY t,aS t,[([],0,((aS t).length:Int))]⟩
theorem zF{t:WT}(h:t.own=[]):RW (fe t) t:=by
 refine⟨rfl,rfl,λr hr=>?_,λp u h'=>?_⟩
 ·simp only[fe,aM]at hr;subst hr;exact⟨[],t,rfl,rfl,rfl,by rw[gZ];simp⟩
 ·cases p with
  |nil=>exact⟨_,aM.mpr rfl,rfl⟩
  |cons i p=>obtain⟨v,hv,_⟩:=om h';rw[h]at hv;cases hv
inductive PS:Bool->List BI->Prop where
 |nil:PS false []
 |plain {f:Bool} {b:BI} {xs:List BI} {t:WT}:RW b t->zE t->PS f xs->PS f (b::xs)
 |bad {b:BI} {xs:List BI} {t:WT} {p:List Nat}:RW b t->m8 t p->PS false xs->PS true (b::xs)
noncomputable def IS(f:Bool)(b:BI):Prop:=(f=false/\∃t,RW b t/\zE t)\/(f=true/\∃t p,RW b t/\m8 t p)
theorem Yc:fX 0 = .num (-5):=by
 unfold fX;rw[if_pos (by decide),show km 0=-5 from by symm]
theorem Yd{f:Bool}{xs:List BI}(h:PS f xs):∃f1 f2,IS f1 (j0 (dJ 0) xs).1/\PS f2 (j0 (dJ 0) xs).2/\(f=(f1||f2))/\(f1&&f2)=false:=by
 cases h with
 |nil=>exact⟨false,false,.inl ⟨rfl,_,IQ 0,by rw[Yc];exact .num _⟩,.nil,rfl,rfl⟩
 |plain h1 h2 h3=>exact⟨false,f,.inl ⟨rfl,_,h1,h2⟩,h3,by simp,rfl⟩
 |bad h1 h2 h3=>exact⟨true,false,.inr ⟨rfl,_,_,h1,h2⟩,h3,rfl,rfl⟩
theorem Q6{f f2:Bool}{b:BI}{xs:List BI}(h:IS f b)(hp:PS f2 xs)(hf:(f&&f2)=false):PS (f||f2) (b::xs):=by
 rcases h with⟨rfl,t,h1,h2⟩|⟨rfl,t,p,h1,h2⟩
 ·rw[uz];exact .plain h1 h2 hp
 ·have:f2=false:=by simpa using hf
  subst this;exact .bad h1 h2 hp
theorem Uh{f f2:Bool}{a b:BI}(ha:IS f a)(hb:IS f2 b)(hf:(f&&f2)=false):IS (f||f2) (xD a b):=by
 rcases ha with⟨rfl,t,h1,h2⟩|⟨rfl,t,p,h1,h2⟩
 ·rcases hb with⟨rfl,u,k1,k2⟩|⟨rfl,u,q,k1,k2⟩
  ·exact .inl ⟨rfl,_,CO h1 k1,.add h2 k2⟩
  ·exact .inr ⟨rfl,_,_,CO h1 k1,.right h2 k2⟩
 ·rcases hb with⟨rfl,u,k1,k2⟩|⟨rfl,u,q,k1,k2⟩
  ·exact .inr ⟨rfl,_,_,CO h1 k1,.left h2 k2⟩
  ·cases hf
theorem Nh:∀{xs:List BI}{x:BI}{f f2:Bool},IS f x->PS f2 xs->(f&&f2)=false->∃g,IS g (rJ x xs)
 |[],x,f,f2,h,_,_=>⟨f,h⟩
 |y::r,x,f,f2,h,hp,hf=>by
  rw[rJ];cases hp with
  |plain h1 h2 h3=>exact Nh (Uh (.inl ⟨rfl,_,h1,h2⟩) h (by simp)) h3 (by simpa using hf)
  |bad h1 h2 h3=>
   have:f=false:=by simpa using hf
   subst this;exact Nh (Uh (.inr ⟨rfl,_,_,h1,h2⟩) h rfl) h3 rfl
noncomputable def rK(cs:List Int)(i:Nat):Int:=(cs[i]?).getD 0
noncomputable def mE(c:Int):Int:=dE c 1061 200 - 100
noncomputable def i4(cs:List Int)(bad:Int)(i:Nat):WT:=if(i:Int)=bad then(if dE (rK cs i) 1063 2=1 then .name "qq" else .truth true)else .num (mE (rK cs i))
noncomputable def cR(cs:List Int)(bad:Int):Nat->List BI
 |0=>[]
 |i+1=>if(i:Int)=bad\/dE (rK cs i) 1069 2=0 then fe (i4 cs bad i)::cR cs bad i
  else xD (j0 (dJ 0) (cR cs bad i)).1 (fe (i4 cs bad i))::(j0 (dJ 0) (cR cs bad i)).2
noncomputable def C0(cs:List Int)(bad:Int):BI:=rJ (j0 (dJ 0) (cR cs bad cs.length)).1 (j0 (dJ 0) (cR cs bad cs.length)).2
theorem Ni(cs:List Int)(bad:Int)(i:Nat):IS (decide ((i:Int)=bad)) (fe (i4 cs bad i)):=by
 unfold i4;by_cases h:(i:Int)=bad
 ·rw[if_pos h,decide_eq_true h];split
  ·exact .inr ⟨rfl,_,_,zF rfl,.name⟩
  ·exact .inr ⟨rfl,_,_,zF rfl,.truth⟩
 ·rw[if_neg h,decide_eq_false h];exact .inl ⟨rfl,_,zF rfl,.num _⟩
theorem BM(cs:List Int){bad:Int}(hb:0<=bad):∀i:Nat,PS (decide (bad<(i:Int))) (cR cs bad i)
 |0=>by rw[show decide (bad<((0:Nat):Int))=false from decide_eq_false (by omega)];exact .nil
 |i+1=>by
  have ih:=BM cs hb i;have h1:=Ni cs bad i;have e:decide (bad<((i+1:Nat):Int))=(decide ((i:Int)=bad)||decide (bad<(i:Int))):=by
   by_cases z:(i:Int)=bad
   ·rw[decide_eq_true z];simp;omega
   ·rw[decide_eq_false z,uz];congr 1;apply propext;omega
  have ex:(decide ((i:Int)=bad)&&decide (bad<(i:Int)))=false:=by
   by_cases z:(i:Int)=bad
   ·rw[decide_eq_true z,B1];exact decide_eq_false (by omega)
   ·rw[decide_eq_false z];rfl
  rw[cR,e];split
  ·exact Q6 h1 ih ex
  ·rename_i hn;have z:¬(i:Int)=bad:=λz=>hn (.inl z);rw[decide_eq_false z]at h1 ⊢;obtain⟨f1,f2,a1,a2,a3,a4⟩:=Yd ih;have:=Q6 (Uh a1 h1 (by simp)) a2 (by simpa using a4);rw[uy]at this;rw[uz,a3];exact this
theorem Ye(cs:List Int){bad:Int}(hb:0<=bad):∃g,IS g (C0 cs bad):=by
 obtain⟨f1,f2,a1,a2,a3,a4⟩:=Yd (BM cs hb cs.length);exact Nh a1 a2 a4
theorem C1(c:Int):-100<=mE c/\mE c<100:=by
 have:=mX c 1061 (n:=200) (by decide);have:=mY c 1061 (n:=200) (by decide);unfold mE;omega
theorem wo{i:Int}(h:-100<=i/\i<100):xb i/\(gE i).length<=500:=by
 have hf:(kI (i.natAbs+1) i.natAbs).length<=3:=rH _ _ 2 (by omega);refine⟨by unfold xb;omega,?_⟩;rw[M2];split<;>omega
theorem Jb:ia "qq":=IC (by decide) (by decide) (by decide) (by decide)
theorem BN(cs:List Int)(bad:Int)(i:Nat):m5 500 (fe (i4 cs bad i)):=by
 have hl:(aS (i4 cs bad i)).length<=500/\(i4 cs bad i).wf/\(i4 cs bad i).ok/\(i4 cs bad i).Ak/\iA (i4 cs bad i)<=500:=by
  unfold i4;split
  ·split
   ·rw[mZ];exact⟨by decide,Jb,trivial,trivial,by simp[iA]⟩
   ·rw[kg];exact⟨by decide,trivial,trivial,trivial,by simp[iA]⟩
  ·obtain⟨a,b⟩:=wo (C1 (rK cs i));rw[mP];exact⟨b,trivial,a,trivial,by simp[iA]⟩
 obtain⟨h1,h2,h3,h4,h5⟩:=hl;exact⟨⟨_,rfl,rfl,h2,h3,h4,h5⟩,h1,by simp[fe],λr hr=>by simp only[fe,aM]at hr;subst hr;simp⟩
theorem qp(cs:List Int)(bad:Int):∀i:Nat,i0 (2000 * i) (cR cs bad i)/\(cR cs bad i).length<=i
 |0=>⟨.nil,by simp[cR]⟩
 |i+1=>by
  obtain⟨h1,h2⟩:=qp cs bad i;rw[cR];split
  ·exact⟨.cons (BN cs bad i) h1 (by omega),by rw[aY];omega⟩
  ·obtain⟨k,n,a,b,e⟩:=qm h1 (lS 0);have:=kJ (dJ 0) (cR cs bad i);exact⟨.cons (vk a (BN cs bad i)) b (by omega),by rw[aY];omega⟩
theorem Ui{cs:List Int}{bad:Int}(h:cs.length<=64):m5 130000 (C0 cs bad):=by
 obtain⟨h1,h2⟩:=qp cs bad cs.length;obtain⟨k,n,a,b,e⟩:=qm h1 (lS 0);have q:=CH a b;have l:=kJ (dJ 0) (cR cs bad cs.length);refine⟨?_,aX q.ln (by omega),aX q.rows (by omega),λr hr=>aX (q.path r hr) (by omega)⟩;obtain⟨t,a,b,c,d,e,f⟩:=q.ex;exact⟨t,a,b,c,d,e,aX f (by omega)⟩
theorem C3{t:WT}(h:zE t):ck [] (l6 t) = .ok .num:=by
 induction h with
 |num i=>exact Cv rfl
 |@add a b _ _ i1 i2=>
  show ck [] (.node .add [l6 a,l6 b])=_;rw[kH,gT,show ua .add 0 []=[]from rfl,i1,gT,show ua .add (0+1) []=[]from rfl,i2,lQ];rfl
theorem Uj{t:WT}{p:List Nat}(h:m8 t p):(t = .truth true/\p=[]/\ck [] (l6 t) = .ok .truth)\/∃r d f,ck [] (l6 t) = .bad r p d f:=by
 induction h with
 |truth=>exact .inl ⟨rfl,rfl,Cv rfl⟩
 |name=>exact .inr ⟨1,none,none,by show ck [] (.node (.name "qq") [])=_;rw[kH,lQ];rfl⟩
 |@left a b p ha hb ih=>
  refine .inr ?_;show ∃r d f,ck [] (.node .add [l6 a,l6 b])=_;rcases ih with⟨rfl,rfl,e⟩|⟨r,d,f,e⟩
  ·refine⟨1,some .num,some .truth,?_⟩;rw[kH,gT,show ua .add 0 []=[]from rfl,e,gT,show ua .add (0+1) []=[]from rfl,C3 hb,lQ];rfl
  ·refine⟨r + gS [l6 b]+1,d,f,?_⟩;rw[kH,gT,show ua .add 0 []=[]from rfl,e]
 |@right a b p ha hb ih=>
  refine .inr ?_;show ∃r d f,ck [] (.node .add [l6 a,l6 b])=_;rcases ih with⟨rfl,rfl,e⟩|⟨r,d,f,e⟩
  ·refine⟨1,some .num,some .truth,?_⟩;rw[kH,gT,show ua .add 0 []=[]from rfl,C3 ha,gT,show ua .add (0+1) []=[]from rfl,e,lQ];rfl
  ·refine⟨r + gS ([]:List Tm)+1,d,f,?_⟩;rw[kH,gT,show ua .add 0 []=[]from rfl,C3 ha,gT,show ua .add (0+1) []=[]from rfl,e]
noncomputable def stop(u:WT)(q:List Nat):Prop:=u.word = "name"\/(u.word = "truth"/\q≠[])
theorem ui{t:WT}(h:zE t):∀{q:List Nat}{u:WT},oP t q=some u->u.word≠"name"/\u.word≠"truth":=by
 induction h with
 |num i=>
  intro q u hu;cases q with
  |nil=>cases hu;exact⟨by show("num":Str)≠"name";decide,by show("num":Str)≠"truth";decide⟩
  |cons i q=>obtain⟨v,hv,_⟩:=om hu;simp[WT.own]at hv
 |@add a b _ _ i1 i2=>
  intro q u hu;cases q with
  |nil=>cases hu;exact⟨by show("add":Str)≠"name";decide,by show("add":Str)≠"truth";decide⟩
  |cons i q=>
   obtain⟨v,hv,h2⟩:=om hu;match i,hv with
   |0,hv=>cases hv;exact i1 h2
   |1,hv=>cases hv;exact i2 h2
   |i+2,hv=>simp[WT.own]at hv
theorem Nj{t:WT}{p:List Nat}(h:m8 t p):(∃u,oP t p=some u/\(u.word = "name"\/u.word = "truth"))/\∀{q:List Nat}{u:WT},oP t q=some u->(u.word = "name"\/u.word = "truth")->q=p:=by
 induction h with
 |truth=>
  refine⟨⟨_,rfl,.inr rfl⟩,λ{q u} hu _=>?_⟩;cases q with
  |nil=>rfl
  |cons i q=>obtain⟨v,hv,_⟩:=om hu;simp[WT.own]at hv
 |name=>
  refine⟨⟨_,rfl,.inl rfl⟩,λ{q u} hu _=>?_⟩;cases q with
  |nil=>rfl
  |cons i q=>obtain⟨v,hv,_⟩:=om hu;simp[WT.own]at hv
 |@left a b p ha hb ih=>
  obtain⟨⟨w,w1,w2⟩,k⟩:=ih;refine⟨⟨w,by rw[oP];exact w1,w2⟩,λ{q u} hu hw=>?_⟩;cases q with
  |nil=>cases hu;rcases hw with z|z<;>exact absurd z (by show ¬("add":Str)=_;decide)
  |cons i q=>
   obtain⟨v,hv,h2⟩:=om hu;match i,hv with
   |0,hv=>cases hv;rw[k h2 hw]
   |1,hv=>cases hv;obtain⟨n1,n2⟩:=ui hb h2;rcases hw with z|z;exact absurd z n1;exact absurd z n2
   |i+2,hv=>simp[WT.own]at hv
 |@right a b p ha hb ih=>
  obtain⟨⟨w,w1,w2⟩,k⟩:=ih;refine⟨⟨w,by rw[oP];exact w1,w2⟩,λ{q u} hu hw=>?_⟩;cases q with
  |nil=>cases hu;rcases hw with z|z<;>exact absurd z (by show ¬("add":Str)=_;decide)
  |cons i q=>
   obtain⟨v,hv,h2⟩:=om hu;match i,hv with
   |1,hv=>cases hv;rw[k h2 hw]
   |0,hv=>cases hv;obtain⟨n1,n2⟩:=ui ha h2;rcases hw with z|z;exact absurd z n1;exact absurd z n2
   |i+2,hv=>simp[WT.own]at hv
theorem Kn{g:Bool}{b:BI}(h:IS g b):∃t,RW b t/\KS t/\jR t<=100/\∀{q:List Nat}{u:WT},oP t q=some u->(stop u q↔∃br,wN t=some br/\br.1=q):=by
 have ks:∀{t:WT},zE t->KS t/\jR t=0:=λ{t} h=>by
  induction h with
  |num i=>exact⟨trivial,rfl⟩
  |add _ _ i1 i2=>exact⟨⟨i1.1,i2.1⟩,by simp only[jR];rw[i1.2,i2.2]⟩
 have kb:∀{t:WT}{p:List Nat},m8 t p->KS t/\jR t=0:=λ{t p} h=>by
  induction h with
  |truth=>exact⟨trivial,rfl⟩
  |name=>exact⟨trivial,rfl⟩
  |left _ hb ih=>exact⟨⟨ih.1,(ks hb).1⟩,by simp only[jR];rw[ih.2,(ks hb).2]⟩
  |right ha _ ih=>exact⟨⟨(ks ha).1,ih.1⟩,by simp only[jR];rw[ih.2,(ks ha).2]⟩
 rcases h with⟨_,t,h1,h2⟩|⟨_,t,p,h1,h2⟩
 ·refine⟨t,h1,(ks h2).1,by rw[(ks h2).2];omega,λ{q u} hu=>⟨λz=>?_,λ⟨br,z,_⟩=>?_⟩⟩
  ·obtain⟨n1,n2⟩:=ui h2 hu;rcases z with z|z
   ·exact absurd z n1
   ·exact absurd z.1 n2
  ·rw[CW,C3 h2]at z;cases z
 ·obtain⟨⟨w,w1,w2⟩,k⟩:=Nj h2;refine⟨t,h1,(kb h2).1,by rw[(kb h2).2];omega,λ{q u} hu=>?_⟩;rcases Uj h2 with⟨rfl,rfl,e⟩|⟨r,d,f,e⟩
  ·have hn:wN (.truth true)=none:=by rw[CW,e]
   rw[hn];refine⟨λz=>?_,by rintro ⟨br,z,_⟩;exact nomatch z⟩;have hq:=k hu (z.elim .inl λz=>.inr z.1);subst hq;cases hu;rcases z with z|z
   ·exact absurd z (by show ¬("truth":Str) = "name";decide)
   ·exact absurd rfl z.2
  ·have hs:wN t=some (p,d,f):=by rw[CW,e]
   rw[hs];refine⟨λz=>⟨_,rfl,(k hu (z.elim .inl λz=>.inr z.1)).symm⟩,λ⟨br,z,z2⟩=>?_⟩;cases z;replace z2:p=q:=z2;subst z2;rw[w1]at hu;cases hu;rcases w2 with z|z
   ·exact .inl z
   ·refine .inr ⟨z,λe0=>?_⟩;subst e0;cases h2 with
    |truth=>rw[show ck [] (l6 (.truth true)) = .ok .truth from Cv rfl]at e;cases e
    |name=>cases w1;exact absurd z (by show ¬("name":Str) = "truth";decide)
end Wk
namespace L2
open PySem PySem.Spec PyProof.Rows
theorem lg.Q3{P:aR}{w:bH}{K:aa}{mg:Str->Option ah}{base:bS}{k:Nat}{f:aj}{fd:be}{ps:List Str}{sp Hy:Sp}(F:lg P w K mg base (Be P w base) k f fd ps sp)(h:∀vs H Q E,Hy vs H Q E->sp vs H Q (λ_ _ _=>False)):lg P w K mg base kx k f fd ps Hy:=by
 refine⟨λvs H Q E q=>F.len vs H Q _ (h vs H Q E q),λA outer s H args us vs Q E hr tp e0 hb r Av=>?_⟩;refine codeAny_mono (F.run A outer s H args us vs Q (λ_ _ _=>False) hr tp e0 hb r (h vs H Q E Av)) λr s' hq=>?_;cases r with
 |error e=>
  obtain⟨ea,cls,H',B,rfl,F',z⟩:=hq;exact z.elim
 |ok fl=>cases fl<;>exact hq
theorem tD.Q3{P:aR}{w:bH}{K:aa}{mg:Str->Option ah}{base:bS}{k:Nat}{x:Str}{ps:List Str}{R:List Sl->Sl ⊕ aj->Prop}{R':List Sl->Sl->Prop}(D:tD P w K mg base k x ps (AF K R))(h:∀as r,R' as r->R as (.inl r)):rB P w K mg base k x ps (gr K R'):=
 let⟨f,fd,F,r⟩:=D
 ⟨f,fd,F.Q3 (by rintro vs H Q E ⟨as,r,h1,h2,q⟩;exact ⟨as,.inl r,h1,h _ _ h2,λr' z v H' s rv=>by cases z;exact q v H' s rv,λC z=>nomatch z⟩),r⟩
section
variable {X:Cx}{Φ:Hp->St->Prop}{ρ:List Sl}{e:bc}{es:List bc}{pos p p2:Pos}{rs:List Sl}{d:aq}{rest:List b9}{Q:Out->Prop}
theorem PV{i:Nat}{x:Str}(nd:X.N.Nodup)(hi:sU x X.N 0=some i)(kp:Kept Φ i)(h:Bq X ρ e (.d d))(k:VX X Φ rest (ρ.set i (.d d)) Q)(hx:Loc X.env.scope x:=by exact cm rfl)(hs:dF e (some (.Name x p2)) pos.line X.env=pure false:=by rfl)(hf:X.fn x=true\/X.env.scope.names.lookup x=some .local:=by first|exact .inl rfl|exact .inr rfl|assumption):BJ X Φ (.Assign [.Name x p2] e pos::rest) ρ Q:=
 M5 (CB nd (ic hi) hx h hs hf) λH0 hs D σ H φ er l=>⟨⟨H0,hs,er⟩,λv H' s rv=>l.nx _ _ ⟨_,k,kp _ _ _ φ,(er.grow s).vT rv⟩⟩
end
end L2
namespace Wk
open PySem L2 PySem.Spec PyProof.Rows
structure Uk(t:WT):Prop where
 wf:t.wf
 ok:t.ok
 wt:iA t<=400000
 ln:(aS t).length<=400000
 ks:KS t
 fn:jR t<=100
noncomputable def Nk:List Sl->Sl->Prop:=λas r=>∃(l:Str)(t:WT),as=[.d (.str l)]/\toks l=kc t/\t.wf/\t.ok/\l.length<=1000000/\r = .d (dY t)
noncomputable def Nl(C:aj):List Sl->Sl ⊕ aj->Prop:=λas o=>∃(l:Str)(t:WT),as=[.d (.str l)]/\toks l=kc t/\Uk t/\l.length<=1000000/\o=if aS t=l then .inl (.d (dY t))else .inr C
noncomputable def Nm(t:WT):aq:=match wN t with
 |none=>.none
 |some br=>match oP t br.1 with
  |some u=>.tuple [.int (gZ t br.1:Nat),.int ((gZ t br.1 + (aS u).length:Nat):Int)]
  |none=>.none
noncomputable def yf(C:aj):List Sl->Sl ⊕ aj->Prop:=λas o=>∃(l:Str)(t:WT),as=[.d (.str l)]/\toks l=kc t/\Uk t/\l.length<=1000000/\o=if aS t=l then .inl (.d (Nm t))else .inr C
noncomputable def He:List Sl->Sl->Prop:=λas r=>∃t:WT,as=[.d (.str (aS t))]/\Uk t/\r = .d (Nm t)
theorem BO{C:aj}:∀as r,He as r->yf C as (.inl r):=by rintro as r ⟨t,h1,h2,h3⟩;exact ⟨aS t,t,h1,JX h2.wf,h2,by have:=h2.ln;omega,by rw[if_pos rfl,h3]⟩
noncomputable def zG(l:Str):Str:="(add 1 "++l ++ " )"
theorem Nn{t:WT}(wf:t.wf):toks (zG (aS t))=kc (.add (.num 1) t):=by
 unfold zG;rw[M3 (tp:=["(","add","1"]) (ts:=[")"]) wf (by decide) (by decide) (by decide) (by decide)];simp[kc,S,show gE 1 = "1" from by decide]
theorem Np(t:WT):aS (.add (.num 1) t)≠zG (aS t):=λe=>by
 have h:=congrArg (·.length) e;simp only[IJ,len_one,zG,len_app]at h;rw[show("(add 1 ":Str).length=7 from by decide,show(" )":Str).length=2 from by decide]at h;omega
noncomputable def Ul:List Sl->Sl->Prop:=λas r=>∃a b:Int,as=[.d (.tuple [.int a,.int b]),.d (.tuple [.int a,.int b])]/\r = .d (.bool true)
noncomputable def Yf:List Sl->Sl->Prop:=λas r=>∃(cs:List Int)(bad:Int),as=[.l (cs.map .int),.d (.int bad)]/\cs.length<=64/\r = .d (fP (C0 cs bad))
noncomputable def Q7:List Sl->Sl->Prop:=λas r=>∃(b:BI)(t:WT),as=[.d (fP b)]/\RW b t/\(∀{q:List Nat}{u:WT},oP t q=some u->(stop u q↔∃br,wN t=some br/\br.1=q))/\r = .d (Nm t)
noncomputable def RPR:List Sl->Sl->Prop:=λas r=>∃(b:BI)(t:WT),as=[.d (fP b)]/\RW b t/\Uk t/\iA t<=200000/\(aS t).length<=200000/\r = .d (.bool true)
theorem C4{t u:WT}{br:Br}(h:wN t=some br)(hu:oP t br.1=some u):Nm t = .tuple [.int (gZ t br.1:Nat),.int ((gZ t br.1 + (aS u).length:Nat):Int)]:=by unfold Nm;rw[h];dsimp only;rw[hu]
theorem vt{t:WT}(h:wN t=none):Nm t = .none:=by unfold Nm;rw[h]
end Wk
namespace L2
open PySem PySem.Spec PyProof.Rows
section
variable {X:Cx}{ρ:List Sl}{e a b:bc}{p pos p3:Pos}{ta tb te:TE}{r:Sl}{rest:List b9}{Q:Out->Prop}
noncomputable def zH(X:Cx)(e:bc)(t:TE):Prop:=
 ∀(pins:List (aj×Obj)) (s:ai) (σ:St) (H:Hp) (Q:VK),Inv X pins σ H s->t σ H Q->aH (model X.prog X.w) X.A (eval e X.env) (λu s'=>1<=s'.toks/\EP X pins σ Q u s') X.xe s
theorem zH.weak{t t':TE}(h:zH X e t)(w:∀σ H Q,t' σ H Q->t σ H Q):zH X e t':=λpins s σ H Q I q=>h pins s σ H Q I (w σ H Q q)
theorem PX{x:Str}{j:Nat}:zH X (.Constant (.str x) j pos) (tC (.str x)):=λ_ s _ H _ I h=>nq ⟨show 1<=s.toks+1 by omega,.str x,H,I.tok _,⟨_,rfl⟩,h⟩
theorem Um{op:Operator}{r:R2}(ho:uB X (binaryOp op) r)(ha:zH X a ta)(hb:PE X b tb):zH X (.BinOp a op b pos) (V6 r ta tb):=by
 intro pins s σ H Q I h;refine wpAny_BinOp (bO (ha pins s σ H _ I h) (λ v s1  zq0=>?_) λ_ _ z=>z);obtain ⟨NW,x,H1,I1,r1,q1⟩:=zq0;refine bO (jo NW (hb pins s1 σ H1 _ I1 q1)) (λ u s2  zq0=>?_) λ_ _ z=>z.2;obtain ⟨tp2,y,H2,I2,r2,q2⟩:=zq0;exact bO (jo tp2 (ho pins s2 σ H2 x y v u Q I2 r1 r2 q2)) (λw s3 z=>z) λ_ _ z=>z.2
noncomputable def PY(X:Cx)(ρ:List Sl)(e:bc)(r:Sl):Prop:=zH X e (tR X.K ρ r)
theorem PZ{x:Str}{j:Nat}:PY X ρ (.Constant (.str x) j pos) (.d (.str x)):=zH.weak PX (by rintro σ H Q ⟨er,q⟩;exact q _ H (bK.refl H) eK.str)
theorem E8{i j:Str}(ha:PY X ρ a (.d (.str i)))(hb:VE X ρ b (.d (.str j)))(h:i.length + j.length<=av):PY X ρ (.BinOp a .Add b pos) (.d (.str (i++j))):=
 zH.weak (Um yw ha hb) (by rintro σ H Q ⟨er,q⟩;exact ⟨er,λx H1 s1 r1=>⟨dC er s1,λy H2 s2 r2=>⟨i,j,eK.cY r1,eK.cY r2,h,q _ H2 (s1.trans s2) eK.str⟩⟩⟩)
theorem Hf{k:Nat}{x:Str}{ps:List Str}{sp:Sp}{pins:List (aj×Obj)}{s:ai}{σ:St}{H:Hp}{Q:VK}{E:XK}(D:tD X.prog X.w X.K X.mg X.base k x ps sp)(hr:iD k X.A)(hg:Gl X x)(ha:zH X.Dy e te)(I:Inv X pins σ H s)(h:te σ H λv H1=>sp [v] H1 Q E)(qX:(x==("__debug__":Str))=false:=by decide)(he:ao [e] X.env=(false,eval e X.env)::ao [] X.env:=by rfl)(kY:(cG pos (ao [] X.env)).any (·.1)=false:=by rfl):
  aH (model X.prog X.w) X.A (eval (.Call (.Name x p) [e] [] pos) X.env) (EP X pins σ Q) (λe s'=>∃H1 s1,Inv X pins σ H1 s1/\Be X.prog X.w X.base X.stack H1 s1 E e s') s:=by
 obtain⟨f,fd,F,hb,hk,hm⟩:=D;refine jb (pU I hg hm ?_ qX);refine mH (h₀:=X.base) I.ok.mod.Qe hk ?_ he kY;rw[he];show aH _ _ (spliced ((false,eval e X.env)::cG pos (ao [] X.env))) _ _ s;refine fK (bO (ha pins s σ H _ (I.xp _) h) (λ u s1  zq0=>?_) λ_ _ z=>z.elim);obtain ⟨NW,v,H1,I1,r1,q1⟩:=zq0;refine bO (jo NW (bD (X:=X.Dy) pos pins s1 σ H1 (λus H'=>us=[]/\H'=H1) I1 ⟨rfl,rfl⟩)) (λ Yg s3  zq0=>?_) λ_ _ z=>z.2.elim;obtain ⟨tp3,vs3,H3,I3,r3,e4,e5⟩:=zq0;subst e4 e5;have I3:=I3.oA;have r4:cX [v] (u::Yg):=.cons r1 r3;have hl:(u::Yg).length=ps.length:=by rw[<-r4.length];exact F.len _ _ _ _ q1
 have hb1:=hb s3 (u::Yg) I3.uA (by rw[cf];exact hl);rw[cf]at hb1;refine⟨I3.uA,wpAny_call (codeAny_mono (F.run X.A X.stack s3 _ ⟨u::Yg,[]⟩ (u::Yg) [v] Q E hr tp3 I3.Si hb1 r4 q1) λr s' hq=>?_)⟩;cases r with
 |error e=>exact⟨_,s3,I3,hq⟩
 |ok fl=>
  cases fl with
  |ret u=>exact I3.after hq
  |next=>exact dM hq
  |brk=>exact dM hq
  |cont=>exact dM hq
theorem Nq{k:Nat}{x y:Str}{c:ah}{ps:List Str}{sp:Sp}{ts:TS}{Nr:b9}{E9:List b9}{pX np Uo KP:Pos}(b:X.Body)(D:tD X.prog X.w X.K X.mg X.base k x ps sp)(hr:iD k X.A)(hg:Gl X x)(ha:zH X.Dy e te)(hgy:Gl X y)(hy:X.mg y=some c)(hs:∀ea oe,qD (X.pZ ea oe) (Nr::E9) ts)(qX:(x==("__debug__":Str))=false:=by decide)(hdy:(y==("__debug__":Str))=false:=by decide)(he:ao [e] X.env=(false,eval e X.env)::ao [] X.env:=by rfl)(kY:(cG pos (ao [] X.env)).any (·.1)=false:=by rfl)(Gg:dF (.Call (.Name x p) [e] [] pos) none pX.line X.env=pure false:=by rfl):
  PS X (.Try [.Expr (.Call (.Name x p) [e] [] pos) pX] [.ExceptHandler (some (.Name y np)) none (Nr::E9) Uo] [] [] KP) (λD σ H=>te σ H λv H1=>sp [v] H1 (λ_ H2=>D.nx σ H2) λcls _ H2=>mL X.K cls c=some true/\ts D σ H2):=by
 intro pins s σ H D' I h;refine wpAny_Try_except (mG (wpAny_Expr_any (bO (Hf D hr hg ha I h qX he kY) (by rintro v s1 ⟨x1,H1,I1,r1,q1⟩;exact jl (jl ⟨σ,H1,I1,q1⟩)) ?_) I.quiet Gg));rintro e1 s1 ⟨H1,s0,I0,ea,cls,H2,B,rfl,F,hm,q⟩;obtain⟨a0,hfl⟩:=F.SV;have LG:=hfl;rw[b.Dk]at LG;have Ld:=I.ok.frames;rw[b.Dk]at Ld;refine wpAny_looks_onW Ld b.fr LG λh4 f4 Zu=>wpAny_landsW f4 λh5 f5 sm5=>?_;rw[<-b.Dk]at f5;have I5:Inv X pins σ H2 {s1 with heap:=h5}:=F.inv I0 f5.1 (Zu.trans sm5);obtain⟨o5,c5,p5⟩:=F.pinned I0 b f5;have LT:PySem.W.Looks (model X.prog X.w) h5 (typeOf (.ref ea)) cls:=by
  rw[<-c5];exact(PySem.W.Looks.ld p5.1).andThen .now
 refine wpAny_handleBy_cons (codeAny_handlers_test (pU (X:=X.pZ ea o5) (I5.pZ p5) hgy hy ((PySem.W.exm_one I5.uA LT hm).here ?_) hdy)) (by intro z;cases z);show codeAny _ _ _ _ _;refine codeAny_handlers_suite (lands_againW f5 λh6 f6 sm6=>?_);have I6:Inv X pins σ H2 {s1 with heap:=h6}:=F.inv I0 f6.1 ((Zu.trans sm5).trans sm6);obtain⟨o6,c6,p6⟩:=F.pinned I0 b f6;exact bO (hs ea o6 pins {s1 with heap:=h6} σ H2 D' (I6.pZ p6) q) (λf s2 z=>z.uncaught I.ok) λ_ _ z=>z.elim
theorem Nt{k:Nat}{x y:Str}{c:ah}{C:aj}{ps:List Str}{Rl:List Sl->Sl ⊕ aj->Prop}{d:aq}{Nr:b9}{E9:List b9}{pX np Uo KP:Pos}(b:X.Body)(D:tD X.prog X.w X.K X.mg X.base k x ps (AF X.K Rl))(hr:iD k X.A)(ha:PY X.Dy ρ e (.d d))(h:Rl [.d d] (.inr C))(hm:mL X.K (.ref C) c=some true)(hy:X.mg y=some c)(hs:∀ea oe,VS (X.pZ ea oe) (Nr::E9) ρ (wY X rest Q))(hg:Gl X x:=by rfl)(hgy:Gl X y:=by rfl)(qX:(x==("__debug__":Str))=false:=by decide)(hdy:(y==("__debug__":Str))=false:=by decide)(he:ao [e] X.env=(false,eval e X.env)::ao [] X.env:=by rfl)(kY:(cG pos (ao [] X.env)).any (·.1)=false:=by rfl)(Gg:dF (.Call (.Name x p) [e] [] pos) none pX.line X.env=pure false:=by rfl):
  VS X (.Try [.Expr (.Call (.Name x p) [e] [] pos) pX] [.ExceptHandler (some (.Name y np)) none (Nr::E9) Uo] [] [] KP::rest) ρ Q:=
 lW (Nq (ts:=Wj X.K ρ (wY X rest Q)) b D hr hg ha hgy hy hs qX hdy he kY Gg) λH0 hs D σ H er l=>⟨⟨H0,hs,er⟩,λv H1 s1 r1=>⟨[.d d],.inr C,.cons r1 .nil,h,(λr z=>nomatch z),λC' z H2 s2=>by cases z;exact⟨hm,H0,hs,er.grow (s1.trans s2),l⟩⟩⟩
end
end L2
namespace Wk
open PySem L2
theorem zI{t:WT}(h1:(aS t).length<=500)(h2:t.wf)(h3:t.ok)(h4:t.Ak)(h5:iA t<=500):m5 500 (fe t):=⟨⟨t,rfl,rfl,h2,h3,h4,h5⟩,h1,by simp[fe],λr hr=>by simp only[fe,aM]at hr;subst hr;simp⟩
theorem Up{wd:Str}{ms:List aq}{g:Str}{t:WT}(hb:m5 500 (fe t))(he:iR wd ms [] [g]=fe t):rG [.d (.str wd),.d (.tuple ms),.l [],.l [.str g]] (.d (fP (fe t))):=by
 rw[<-he];exact EX (ones:=[]) (c8:=[g]) rfl (by simp) (by rw[he];exact hb) (by decide) (λo ho=>nomatch ho)
def top(i:Nat):b9:=PySem.Challenge.pw_wellkind_k10_where_it_stands.main.body.getD i (.Pass ⟨0,0,0,0⟩)
abbrev rM:b9:=top 5
abbrev rN:b9:=top 6
abbrev zJ:b9:=top 10
abbrev lI:b9:=top 11
abbrev iK:b9:=top 12
abbrev jS:b9:=top 13
abbrev fY:b9:=top 14
abbrev kL:b9:=top 15
abbrev jT:b9:=top 16
abbrev qq:b9:=top 17
abbrev zK:b9:=top 20
abbrev C5:b9:=top 21
abbrev uj:b9:=top 22
abbrev uk:b9:=top 23
abbrev oq:b9:=top 24
abbrev gU:b9:=top 25
abbrev oQ:b9:=top 26
abbrev kM:b9:=top 27
abbrev m9:b9:=top 28
abbrev C6:b9:=top 32
abbrev um:b9:=top 33
abbrev rO:b9:=top 34
abbrev sM:b9:=top 35
abbrev qr:b9:=top 36
abbrev kO:b9:=top 37
abbrev qt:b9:=top 38
abbrev lJ:b9:=top 39
abbrev wq:b9:=top 40
abbrev qu:b9:=top 42
abbrev wu:b9:=top 43
abbrev jU:b9:=top 44
abbrev gW:b9:=top 45
abbrev nh:b9:=top 46
abbrev rP:b9:=top 47
abbrev qv:b9:=top 48
abbrev mj:b9:=top 49
abbrev qw:b9:=top 50
abbrev kQ:b9:=top 51
abbrev uo:b9:=top 52
abbrev j4:b9:=top 53
abbrev gX:b9:=top 54
abbrev uq:b9:=top 55
section
variable {P:aR}{w:bH}{K:aa}{mg:Str->Option ah}{base:bS}
seal VE VT VW VD VA VO VS VI VG
local macro_rules
 |`(tactic| left)=>`(tactic| first
  |exact tY
  |exact yR
  |exact XB
  |exact yS
  |exact bU rfl rfl
  |exact cF
  |exact bV
  |exact uZ
  |(apply mz;left)
  |(apply aQ;left;left;rfl)
  |(apply aA;left;left;rfl)
  |(apply dP;left;first|decide|exact fL rfl)
  |(apply gq;left;first|decide|exact fL rfl)
  |(apply dg;left;left;exact rfl;exactλ_ _=>rfl)
  |(apply gC;left;left;exact rfl;exact rfl;exactλ_ _=>rfl)
  |(apply bX;left;left)
  |(apply eL;left;left)
  |(apply yU;left;left)
  |(apply GB;left;left)
  |(apply rn;left;left)
  |(apply qb;left;left)
  |(apply qc;left)
  |(apply tZ;left;first|exact En|exact HV|exact HW)
  |(apply sk;left;first|exact En|exact HV|exact HW)
  |(apply i6;left;intro _;rfl)
  |(apply Co;left;exact rfl;intro _;rfl)
  |(apply gH;left;left)
  |(apply xZ;left;left)
  |(apply GO;left)
  |(apply ad3;left;left)
  |(apply ad4;left;left))
theorem Nu:b5 ["_law_found"] ["_law_found"] (aJ qu):=⟨rfl,rfl,rfl,by symm,rfl,by symm,by symm⟩
theorem Uq{f:aj}{fd:be}(F:jP K "_law_whole" "_law_whole" qu f fd)(B:Plain mg):fi P w K mg base kx 1 f fd ["_law_found"] (gr K XN):=by
 refine F.vz Nu (λas r h=>?_) (λeR A outer s H E as r hr h=>?_)
 ·obtain⟨v,rfl,_⟩:=h;exact⟨rfl,by simp⟩
 obtain⟨i,rfl,rfl⟩:=h;show VS _ _ [.d (.int i)] _;exact bR (GD (y9 B.isinstance B.int oy Ik (by rfl) (by left)) λ_=>GC (S9 (y9 B.isinstance B.bool PyProof.Rows.boot_bool Ik (Ce K) (by left)))) (.inl rfl)
theorem Ur:b5 ["_law_script","_law_k"] ["_law_script","_law_k"] (aJ wu):=⟨rfl,rfl,rfl,by symm,rfl,by symm,by symm⟩
theorem P0{f:aj}{fd:be}(F:jP K "_law_at" "_law_at" wu f fd)(B:Plain mg):fi P w K mg base kx 1 f fd ["_law_script","_law_k"] (gr K (XO K)):=by
 refine F.ok Ur (λvs H Q E h=>?_) (λeR A outer s H vs Q E hr h=>?_)
 ·obtain⟨as,r,h1,⟨ns,k,rfl,_⟩,_⟩:=h;rw[h1.length];rfl
 obtain⟨as,r,h1,⟨ns,k,rfl,rfl⟩,q⟩:=h;obtain⟨v,u,rfl,r1,r2⟩:=h1.two;obtain⟨a,rfl,Xi⟩:=r1;obtain rfl:=fV.cP r2;have hS:=Xi.sq;refine⟨_,cE (j7 (kz KL (pv 1) (gf eY rfl B.len eA (aO (pv 0) bD)) (gP _)) (di (iq (eO mw (pv 0) (pv 1) (λ_ _=>rfl)))) jN) (di (iq cS)),?_⟩;refine⟨_,rfl,_,rfl,a,_,rfl,.inl hS,_,_,rfl,rfl,_,rfl,Gc (λc=>?_) (λc=>?_)⟩
 ·have h1:(k:Int)<((ns.map V.int).length:Nat):=of_decide_eq_true c;rw[ay]at h1;have h2:k<ns.length:=by omega
  have e1:(ns.map V.int)[k]?=some (.int ns[k]):=by rw[aw,ag h2];rfl
  exact⟨_,rfl,_,rfl,a,_,_,_,rfl,rfl,hS,gp e1,q _ H (bK.refl H) (by rw[gK,ag h2];exact eK.int)⟩
 ·have h1:¬(k:Int)<((ns.map V.int).length:Nat):=λz=>c (decide_eq_true z);rw[ay]at h1;exact q _ H (bK.refl H) (by rw[gK,fB (by omega)];exact eK.int)
theorem zL:b5 ["number","left","figures","sign"] ["number"] (aJ oQ):=⟨rfl,rfl,rfl,by symm,rfl,by symm,by symm⟩
theorem Us{f:aj}{fd:be}(F:jP K "figures_of" "figures_of" oQ f fd)(B:Plain mg)(Ut:mg "abs"=none)(zM:mg "str"=none):fi P w K mg base kx 1 f fd ["number"] (gr K QW):=by
 refine F.vz zL (λas r h=>?_) (λeR A outer s H E as r hr h=>?_)
 ·obtain⟨i,rfl,_⟩:=h;exact⟨rfl,by simp⟩
 obtain⟨i,rfl,hn,rfl⟩:=h;have gG:av=16777216:=cU;unfold xb at hn;have dig:∀m:Nat,m % 10<10/\((m % 10:Nat):Int).natAbs.log2<1920:=λm=>by
  have h1:m % 10<10:=Nat.mod_lt _ (by decide);refine⟨h1,cH (Nat.log2_le_self _) ?_⟩;simp only[Int.natAbs_natCast];omega
 have ad5:∀m:Nat,(digit (m % 10)).length=1:=λm=>by
  have h1:m % 10<10:=Nat.mod_lt _ (by decide);generalize m % 10=d at h1;match d,h1 with
  |0,_=>decide|1,_=>decide|2,_=>decide|3,_=>decide|4,_=>decide|5,_=>decide|6,_=>decide|7,_=>decide|8,_=>decide|9,_=>decide
 show VS _ _ [.d (.int i),.un,.un,.un] _;refine cD zL.nd rfl (Tz Ut (by left)) ?_;refine jr zL.nd rfl (gq (aQ (d:=.str (digit (i.natAbs % 10))) (dm (yb (i:=((i.natAbs % 10:Nat):Int)) zM (dm (my (i:=(i.natAbs:Int)) (j:=10) (by left) (by left)) (by rw[Int.natCast_emod];rfl)) (dig _).2) rfl) cF)) ?_;refine vb bF (λm ρ=>∃(fs:List Nat)(fu:Nat),ρ=[.d (.int i),.d (.int (m:Int)),.o (fs.map λd=>.str (digit d)),.un]/\m<=fu/\fs++(if m<10 then[]else kI fu (m / 10))=kI (i.natAbs+1) i.natAbs) ⟨i.natAbs,[i.natAbs % 10],i.natAbs,rfl,au _,by rw[kI];rfl⟩ ?_;rintro m ρ ⟨fs,fu,rfl,hm,hf⟩;by_cases IA:m<10
 ·refine⟨false,bW (qb (by left) (by left)) (decide_eq_false (by omega)),(λz=>nomatch z),λ_=>?_⟩;rw[if_pos IA,cf]at hf;subst hf;refine cD zL.nd rfl (d:=.str (if i<0 then("-":Str)else "")) (QM (rn (by left) (by left)) (λz=>dm (r':=.d (.str (if i<0 then("-":Str)else ""))) (by left) (by rw[if_pos (of_decide_eq_true z)])) (λz=>dm (r':=.d (.str (if i<0 then("-":Str)else ""))) (by left) (by rw[if_neg (of_decide_eq_false z)]))) ?_;have Nv:∀l:List Nat,(∀d∈l,∃m,d=m % 10)->((l.map digit).map (·.length)).sum=l.length:=by
   intro l;induction l with
   |nil=>intro _;rfl
   |cons d l ih=>intro h;obtain⟨m,rfl⟩:=h d aE;simp only[bz,List.sum_cons,aY];rw[ih λx hx=>h x (aU _ hx),ad5];omega
  have Ga:∀f n,∀d∈kI f n,∃m,d=m % 10:=by
   intro f;induction f with
   |zero=>intro n d hd;cases hd
   |succ f ih=>
    intro n d hd;rw[kI]at hd;rcases bf.mp hd with rfl|hd
    ·exact⟨n,rfl⟩
    ·split at hd
     ·cases hd
     ·exact ih _ d hd
  generalize hfs:kI (i.natAbs+1) i.natAbs=fs at hn;have Q8:∀d∈fs,∃m,d=m % 10:=by rw[<-hfs];exact Ga _ _
  have hj:((fs.reverse.map digit).map (·.length)).sum + (fs.reverse.map digit).length * ("":Str).length<=16777216:=by
   rw[Nv _ (λd hd=>Q8 d (jz.mp hd)),cC,show("":Str).length=0 from by decide];omega
  refine bR (r:=.d (.str (gE i))) (dm (du (by left) (Ip (xs:=fs.reverse.map digit) (by left) (qe (p3:=⟨0,0,0,0⟩) rfl B.list B.reversed (by left) rfl) (by simp[Sl.Ml]) hj) ?_) (by unfold gE;rw[hfs])) (.inl rfl);have h1:(nS "" (fs.reverse.map digit)).length=fs.length:=by
   show(B0 "" (fs.reverse.map digit)).length=_;rw[size_glued,Nv _ (λd hd=>Q8 d (jz.mp hd)),cC,show("":Str).length=0 from by decide];omega
  have h2:(if i<0 then("-":Str)else "").length<=1:=by split<;>decide
  rw[h1,gG];omega
 ·refine⟨true,bW (qb (by left) (by left)) (decide_eq_true (by omega)),(λ_=>?_),(λz=>nomatch z)⟩;rw[if_neg IA]at hf;obtain⟨fu,rfl⟩:∃fu',fu=fu'+1:=⟨fu - 1,by omega⟩;refine cD zL.nd rfl (d:=.int ((m / 10:Nat):Int)) (dm (kD (i:=(m:Int)) (j:=10) (by left) (by left)) (by rw[Int.natCast_ediv];rfl)) ?_;have hlen:fs.length<=1000000:=by have:=congrArg oS hf;rw[aL]at this;omega
  refine fG rfl rfl (d:=.str (digit (m / 10 % 10))) (dm (yb (i:=((m / 10 % 10:Nat):Int)) zM (dm (my (i:=((m / 10:Nat):Int)) (j:=10) (by left) (by left)) (by rw[Int.natCast_emod];rfl)) (dig _).2) rfl) (by rw[ay,gG];omega) (cg ?_);refine⟨m / 10,by omega,fs++[m / 10 % 10],fu,by simp,by omega,?_⟩;rw[<-hf,kI,bM];rfl
theorem zN:b5 ["word","marks","own","marks_left","own_left","pieces","due"] ["word","marks","own"] (aJ m9):=⟨rfl,rfl,rfl,by symm,rfl,by symm,by symm⟩
theorem Uu{f:aj}{fd:be}(F:jP K "in_brackets" "in_brackets" m9 f fd)(B:Plain mg)(T:JU P w K mg "FORMS" formOf):fi P w K mg base kx 1 f fd ["word","marks","own"] (gr K TC):=by
 refine F.vz zN (λas r h=>?_) (λeR A outer s H E as r hr h=>?_)
 ·obtain⟨x,ms,os,ps,ds,rfl,_⟩:=h;exact⟨rfl,by simp⟩
 obtain⟨x,ms,os,ps,ds,rfl,hx,hf,ha,rfl⟩:=h;have gG:av=16777216:=cU;have WY:ds.length<=6:=by
  unfold formOf at hf
  repeat' split at hf
  all_goals first|(cases hf;decide)|cases hf
 show VS _ _ [.d (.str x),.d (.tuple ms),.d (.tuple os),.un,.un,.un,.un] _;refine jr zN.nd rfl (Eo B.list (by left)) ?_;refine jr zN.nd rfl (Eo B.list (by left)) ?_;refine jr zN.nd rfl (gq (aQ (dP (aQ (by left) (aQ (du (by left) (by left) (by rw[gG,show("(":Str).length=1 from by decide];omega)) cF))) cF)) ?_;refine kF bF rfl (GG (Pg T (by left) hf)) (js zN.nd rfl)
  (λi ρ=>∃(ml ol qs tl:List aq)(y:Sl),ρ=[.d (.str x),.d (.tuple ms),.d (.tuple os),.o ml,.o ol,.o qs,y]/\TB (ds.drop i) ml ol=some tl/\qs++tl=[.tuple [.str "text",.str ("("++x)]]++ps/\qs.length=1+2 * i) ⟨ms,os,_,ps,.un,rfl,ha,rfl,rfl⟩ ?_ ?_
 ·rintro i d ρ hd ⟨ml,ol,qs,tl,y,rfl,h1,h2,h3⟩;rw[aw]at hd;cases hq:ds[i]? with
  |none=>rw[hq]at hd;cases hd
  |some zc=>
   rw[hq]at hd;cases hd;have hi:i<ds.length:=(ak.mp hq).1;have e1:ds.drop i=zc::ds.drop (i+1):=by rw[dW hi];congr 1;exact(ak.mp hq).2
   rw[e1]at h1;unfold TB at h1;refine⟨_,rfl,?_⟩;show VS _ _ [.d (.str x),.d (.tuple ms),.d (.tuple os),.o ml,.o ol,.o qs,.d (.str zc)] _;refine fG rfl rfl (by left) (by rw[gG];omega) ?_;by_cases hp:zc = "part"
   ·rw[if_pos hp]at h1;cases ol with
    |nil=>cases h1
    |cons o ol=>
     obtain⟨t,ht,rfl⟩:=pN.mp h1;refine cz (bX (by left) (by left)) (decide_eq_true hp) ?_;refine zb rfl rfl rfl (Ir (by left) (Iq (d:=o) (xs:=ol) rfl rfl)) (by rw[gG];simp;omega) (cg (cg ⟨ml,ol,_,t,_,rfl,ht,?_,?_⟩))
     ·rw[<-h2];simp[vA]
     ·simp;omega
   ·rw[if_neg hp]at h1;cases ml with
    |nil=>cases h1
    |cons m ml=>
     obtain⟨t,ht,rfl⟩:=pN.mp h1;refine lA (bX (by left) (by left)) (decide_eq_false hp) ?_;refine zb rfl rfl rfl (Ir (by left) (Iq (d:=m) (xs:=ml) rfl rfl)) (by rw[gG];simp;omega) (cg (cg ⟨ml,ol,_,t,_,rfl,ht,?_,?_⟩))
     ·rw[<-h2];simp[vA]
     ·simp;omega
 ·rintro ρ ⟨ml,ol,qs,tl,y,rfl,h1,h2,h3⟩;rw[ay,pR]at h1;unfold TB at h1;cases h1;rw[cf]at h2;subst h2;rw[ay]at h3;refine fG rfl rfl (by left) (by rw[gG];omega) ?_;exact OT rfl rfl (.inl rfl)
theorem Uv:b5 ["kind"] ["kind"] (aJ kM):=⟨rfl,rfl,rfl,by symm,rfl,by symm,by symm⟩
theorem Uw{f:aj}{fd:be}(F:jP K "pieces_of_kind" "pieces_of_kind" kM f fd)(B:Plain mg)(DB:cK P w K mg base 1 "in_brackets" ["word","marks","own"] (gr K TC)):fi P w K mg base kx 2 f fd ["kind"] (gr K Ms):=by
 refine F.vz Uv (λas r h=>?_) (λeR A outer s H E as r hr h=>?_)
 ·obtain⟨k,rfl,_⟩:=h;exact⟨rfl,by simp⟩
 obtain⟨k,rfl,rfl⟩:=h;cases k with
 |num=>
  show VS _ _ [.d (.tuple [.str "num"])] _;exact cz (eL (n6 B.len (by left)) (by left)) rfl (bR (by left) (.inl rfl))
 |truth=>
  show VS _ _ [.d (.tuple [.str "truth"])] _;exact cz (eL (n6 B.len (by left)) (by left)) rfl (bR (by left) (.inl rfl))
 |list k=>
  show VS _ _ [.d (.tuple [.str "list",eW k])] _;exact bt (eL (n6 B.len (by left)) (by left)) rfl (bR (bG DB hr (aA (by left) (aA (LW (i:=some 1) (j:=none) (by left) (mz (by left)) uZ (by simp[HT.jw])) (aA (by left) bV))) ⟨"list",[eW k],[],[vA,.tuple [.str "kind",eW k]],["kind"],rfl,by decide,rfl,rfl,rfl⟩) (.inl rfl))
 |to a b=>
  show VS _ _ [.d (.tuple [.str "to",eW a,eW b])] _;exact bt (eL (n6 B.len (by left)) (by left)) rfl (bR (bG DB hr (aA (by left) (aA (LW (i:=some 1) (j:=none) (by left) (mz (by left)) uZ (by simp[HT.jw])) (aA (by left) bV))) ⟨"to",[eW a,eW b],[],[vA,.tuple [.str "kind",eW a],vA,.tuple [.str "kind",eW b]],["kind","kind"],rfl,by decide,rfl,rfl,rfl⟩) (.inl rfl))
theorem P4:b5 ["part"] ["part"] (aJ gU):=⟨rfl,rfl,rfl,by symm,rfl,by symm,by symm⟩
theorem P5{f:aj}{fd:be}(F:jP K "pieces_of_part" "pieces_of_part" gU f fd)(DF:cK P w K mg base 1 "figures_of" ["number"] (gr K QW))(DB:cK P w K mg base 1 "in_brackets" ["word","marks","own"] (gr K TC)):fi P w K mg base kx 2 f fd ["part"] (gr K GQ):=by
 refine F.vz P4 (λas r h=>?_) (λeR A outer s H E as r hr h=>?_)
 ·obtain⟨t,rfl,_⟩:=h;exact⟨rfl,by simp⟩
 obtain⟨t,rfl,ok,rfl⟩:=h;have brk:∀(x:Str)(ms os ps:List aq)(ds:List Str)(r:Sl),x.length<=100->x≠"num"->x≠"truth"->x≠"name"->formOf x=some ds->TB ds ms os=some ps->r = .o ([.tuple [.str "text",.str ("("++x)]]++ps++[.tuple [.str "text",.str ")"]])->
   VS (pW kx P w K mg base ["part"] "pieces_of_part" (aJ gU) f eR A outer s H E).Dy (eS gU) [.d (.tuple [.str x,.tuple ms,.tuple os])] λo=>o = .rt r\/(r = .d .none/\∃ρ,o = .nx ρ):=by
  intro x ms os ps ds r hl h1 h2 h3 hf ha IM;refine bt (bX (x:=x) (by left) (by left)) (decide_eq_false h1) ?_;refine bt (bX (x:=x) (by left) (by left)) (decide_eq_false h2) ?_;refine bt (bX (x:=x) (by left) (by left)) (decide_eq_false h3) ?_;exact bR (bG DB hr (aA (by left) (aA (by left) (aA (by left) bV))) ⟨x,ms,os,ps,ds,rfl,hl,hf,ha,IM⟩) (.inl rfl)
 cases t with
 |num i=>
  show VS _ _ [.d (.tuple [.str "num",.tuple [.int i],.tuple []])] _;exact cz (bX (x:="num") (by left) (by left)) (by decide) (bR (gq (aQ (dP (aQ (by left) (aQ (bG DF hr (aA (by left) bV) ⟨i,rfl,ok,rfl⟩) cF))) cF)) (.inl rfl))
 |truth b=>
  show VS _ _ [.d (.tuple [.str "truth",.tuple [.bool b],.tuple []])] _;refine bt (bX (x:="truth") (by left) (by left)) (by decide) ?_;refine cz (bX (x:="truth") (by left) (by left)) (by decide) ?_;refine bR (r:=.o ((jK (.truth b)).map uC)) (gq (aQ (dP (aQ (by left) (aQ (d:=.str (if b then "yes" else "no")) (QM (k:=b) (i6 (by left) (λ_=>rfl)) (λz=>by subst z;left) (λz=>by subst z;left)) cF))) cF)) (.inl rfl)
 |name x=>
  show VS _ _ [.d (.tuple [.str "name",.tuple [.str x],.tuple []])] _;refine bt (bX (x:="name") (by left) (by left)) (by decide) ?_;refine bt (bX (x:="name") (by left) (by left)) (by decide) ?_;refine cz (bX (x:="name") (by left) (by left)) (by decide) ?_;exact bR (by left) (.inl rfl)
 |nil k=>exact brk "nil" [eW k] [] [vA,.tuple [.str "kind",eW k]] ["kind"] _ (by decide) (by decide) (by decide) (by decide) rfl rfl rfl
 |lam x k b=>exact brk "fun" [.str x,eW k] [dY b] [vA,.tuple [.str "name",.str x],vA,.tuple [.str "kind",eW k],vA,.tuple [.str "part",dY b]] ["name","kind","part"] _ (by decide) (by decide) (by decide) (by decide) rfl rfl rfl
 |add a b=>exact brk "add" [] [dY a,dY b] [vA,.tuple [.str "part",dY a],vA,.tuple [.str "part",dY b]] ["part","part"] _ (by decide) (by decide) (by decide) (by decide) rfl rfl rfl
 |less a b=>exact brk "less" [] [dY a,dY b] [vA,.tuple [.str "part",dY a],vA,.tuple [.str "part",dY b]] ["part","part"] _ (by decide) (by decide) (by decide) (by decide) rfl rfl rfl
 |front a b=>exact brk "front" [] [dY a,dY b] [vA,.tuple [.str "part",dY a],vA,.tuple [.str "part",dY b]] ["part","part"] _ (by decide) (by decide) (by decide) (by decide) rfl rfl rfl
 |call a b=>exact brk "call" [] [dY a,dY b] [vA,.tuple [.str "part",dY a],vA,.tuple [.str "part",dY b]] ["part","part"] _ (by decide) (by decide) (by decide) (by decide) rfl rfl rfl
 |cond a b c=>exact brk "if" [] [dY a,dY b,dY c] [vA,.tuple [.str "part",dY a],vA,.tuple [.str "part",dY b],vA,.tuple [.str "part",dY c]] ["part","part","part"] _ (by decide) (by decide) (by decide) (by decide) rfl rfl rfl
 |case k x y a b c=>exact brk "case" [eW k,.str x,.str y] [dY a,dY b,dY c] [vA,.tuple [.str "kind",eW k],vA,.tuple [.str "part",dY a],vA,.tuple [.str "part",dY b],vA,.tuple [.str "name",.str x],vA,.tuple [.str "name",.str y],vA,.tuple [.str "part",dY c]] ["kind","part","part","name","name","part"] _ (by decide) (by decide) (by decide) (by decide) rfl rfl rfl
theorem C7:b5 ["pieces","texts","waiting","piece"] ["pieces"] (aJ uk):=⟨rfl,rfl,rfl,by symm,rfl,by symm,by symm⟩
theorem zO(qs:List Pc):qs.length<=lC qs:=by
 induction qs with
 |nil=>simp
 |cons p r ih=>
  have:1<=p.wt:=by
   cases p with
   |text s=>simp[Pc.wt]
   |name s=>simp[Pc.wt]
   |kind k=>have:=Im k;simp only[Pc.wt];omega
   |part t=>have:=Cz t;simp only[Pc.wt];omega
  simp only[aY,lC];omega
theorem Ux{f:aj}{fd:be}(F:jP K "spelled" "spelled" uk f fd)(B:Plain mg)(DK:cK P w K mg base 2 "pieces_of_kind" ["kind"] (gr K Ms))(DP:cK P w K mg base 2 "pieces_of_part" ["part"] (gr K GQ)):fi P w K mg base kx 3 f fd ["pieces"] (gr K GR):=by
 refine F.vz C7 (λas r h=>?_) (λeR A outer s H E as r hr h=>?_)
 ·obtain⟨ps,rfl,_⟩:=h;exact⟨rfl,by simp⟩
 obtain⟨ps,rfl,ok,hw,hz,rfl⟩:=h;have gG:av=16777216:=cU;show VS _ _ [.l (ps.map uC),.un,.un,.un] _;refine jr C7.nd rfl (by left) ?_;refine jr C7.nd rfl (qe (p3:=⟨0,0,0,0⟩) rfl B.list B.reversed (by left) rfl) ?_;refine vb bF (λm ρ=>∃(ts:List Str)(qs:List Pc)(y:Sl),m=lC qs/\ρ=[.l (ps.map uC),.o (ts.map .str),.o (qs.map uC).reverse,y]/\(∀p∈qs,p.ok)/\ts++jA qs=jA ps/\lC qs + ts.length<=1000000) ⟨_,[],ps,.un,rfl,rfl,ok,rfl,by simp;omega⟩ ?_;rintro m ρ ⟨ts,qs,y,rfl,rfl,ok',ht,hb⟩;cases qs with
 |nil=>
  refine⟨false,bW (Co (by left) rfl (λ_=>rfl)) (by rfl),(λz=>nomatch z),λ_=>?_⟩;rw[jA,cf]at ht;subst ht;exact bR (Ip (xs:=jA ps) (by left) (by left) rfl (by rw[show("":Str).length=0 from by decide];omega)) (.inl rfl)
 |cons q qs=>
  have hlen:=zO (q::qs);rw[aY]at hlen;rw[lC]at hb hlen;have okq:=ok' q aE;have Zv:∀p∈qs,p.ok:=λp hp=>ok' p (aU _ hp);refine⟨true,bW (Co (by left) rfl (λ_=>rfl)) (by simp),(λ_=>?_),(λz=>nomatch z)⟩;rw[bz,dD];refine Tb C7.nd rfl rfl rfl ?_;show VS _ _ [.l (ps.map uC),.o (ts.map .str),.o (qs.map uC).reverse,.d (uC q)] _;cases q with
  |text x=>
   show VS _ _ [.l (ps.map uC),.o (ts.map .str),.o (qs.map uC).reverse,.d (.tuple [.str "text",.str x])] _;refine lA (bX (x:="text") (by left) (by left)) (by decide) ?_;refine lA (bX (x:="text") (by left) (by left)) (by decide) ?_;refine fG rfl rfl (by left) (by rw[ay,gG];omega) (cg (cg (cg ⟨lC qs,by rw[lC,Pc.wt];omega,ts++[x],qs,.d (.tuple [.str "text",.str x]),rfl,by simp,Zv,?_,?_⟩)))
   ·rw[<-ht];simp[jA,Pc.tx]
   ·simp only[Pc.wt]at hb;simp;omega
  |name x=>
   show VS _ _ [.l (ps.map uC),.o (ts.map .str),.o (qs.map uC).reverse,.d (.tuple [.str "name",.str x])] _;refine lA (bX (x:="name") (by left) (by left)) (by decide) ?_;refine lA (bX (x:="name") (by left) (by left)) (by decide) ?_;refine fG rfl rfl (by left) (by rw[ay,gG];omega) (cg (cg (cg ⟨lC qs,by rw[lC,Pc.wt];omega,ts++[x],qs,.d (.tuple [.str "name",.str x]),rfl,by simp,Zv,?_,?_⟩)))
   ·rw[<-ht];simp[jA,Pc.tx]
   ·simp only[Pc.wt]at hb;simp;omega
  |kind k=>
   show VS _ _ [.l (ps.map uC),.o (ts.map .str),.o (qs.map uC).reverse,.d (.tuple [.str "kind",eW k])] _;have hk:=Im k;have Wp:=zO (AG k);simp only[Pc.wt]at hb hlen;refine lA (bX (x:="kind") (by left) (by left)) (by decide) ?_;refine cz (bX (x:="kind") (by left) (by left)) (by decide) ?_;refine Bj rfl rfl (qe (p3:=⟨0,0,0,0⟩) rfl B.list B.reversed (bG DK hr (aA (by left) bV) ⟨k,rfl,rfl⟩) rfl) rfl (by rw[cC,cC,ay,ay,gG];omega) (cg (cg (cg ⟨lC (AG k++qs),by rw[lX,lC,Pc.wt];omega,ts,AG k++qs,.d (.tuple [.str "kind",eW k]),rfl,by simp,λp hp=>?_,?_,?_⟩)))
   ·rcases bj.mp hp with hp|hp
    ·exact Ph k p hp
    ·exact Zv p hp
   ·rw[<-ht,rA,Pe];rfl
   ·rw[lX];omega
  |part t=>
   show VS _ _ [.l (ps.map uC),.o (ts.map .str),.o (qs.map uC).reverse,.d (.tuple [.str "part",dY t])] _;have hk:=Cz t;have Wp:=zO (jK t);simp only[Pc.wt]at hb hlen;refine cz (bX (x:="part") (by left) (by left)) (by decide) ?_;refine Bj rfl rfl (qe (p3:=⟨0,0,0,0⟩) rfl B.list B.reversed (bG DP hr (aA (by left) bV) ⟨t,rfl,okq,rfl⟩) rfl) rfl (by rw[cC,cC,ay,ay,gG];omega) (cg (cg ⟨lC (jK t++qs),by rw[lX,lC,Pc.wt];omega,ts,jK t++qs,.d (.tuple [.str "part",dY t]),rfl,by simp,λp hp=>?_,?_,?_⟩))
   ·rcases bj.mp hp with hp|hp
    ·exact Iu okq p hp
    ·exact Zv p hp
   ·rw[<-ht,rA,Io];rfl
   ·rw[lX];omega
theorem Uy:b5 ["expr"] ["expr"] (aJ zK):=⟨rfl,rfl,rfl,by symm,rfl,by symm,by symm⟩
theorem Uz{f:aj}{fd:be}(F:jP K "shown" "shown" zK f fd)(DS:cK P w K mg base 3 "spelled" ["pieces"] (gr K GR)):fi P w K mg base kx 4 f fd ["expr"] (gr K CA):=by
 refine F.vz Uy (λas r h=>?_) (λeR A outer s H E as r hr h=>?_)
 ·obtain⟨t,rfl,_⟩:=h;exact⟨rfl,by simp⟩
 obtain⟨t,rfl,ok,hw,hz,rfl⟩:=h;show VS _ _ [.d (dY t)] _;have e:jA [.part t]=j9 t:=by simp[jA,Pc.tx]
 exact bR (bG DS hr (aA (gq (aQ (by left) cF)) bV) ⟨[.part t],rfl,(λp hp=>by rw[aM]at hp;subst hp;exact ok),by simp[lC,Pc.wt];omega,by rw[e];exact hz,by rw[e];rfl⟩) (.inl rfl)
theorem UA:b5 ["word"] ["word"] (aJ uj):=⟨rfl,rfl,rfl,by symm,rfl,by symm,by symm⟩
theorem UB{f:aj}{fd:be}(F:jP K "form_of" "form_of" uj f fd)(T:JU P w K mg "FORMS" formOf):fi P w K mg base kx 1 f fd ["word"] (gr K MK):=by
 refine F.vz UA (λas r h=>?_) (λeR A outer s H E as r hr h=>?_)
 ·obtain⟨x,rfl,_⟩:=h;exact⟨rfl,by simp⟩
 obtain⟨x,rfl,rfl⟩:=h;show VS _ _ [.d (.str x)] _;exact bR (Pl T (by left)) (.inl rfl)
theorem UC:b5 ["token","signs"] ["token","signs"] (aJ kO):=⟨rfl,rfl,rfl,by symm,rfl,by symm,by symm⟩
theorem UD:oG ["token","signs"] (aJ kO) {kind:=.function,names:=[(".0",.local),("sign",.local),("signs",.free)],isGenerator:=false,isCoroutine:=false} "sign":=⟨rfl,by symm,by symm,rfl,by symm,by symm,by symm⟩
theorem UE{f:aj}{fd:be}(F:jP K "consists_of" "consists_of" kO f fd)(Ga:mg "all"=none):fi P w K mg base kx 1 f fd ["token","signs"] (gr K Q0):=by
 refine F.vz UC (λas r h=>?_) (λeR A outer s H E as r hr h=>?_)
 ·obtain⟨x,z,rfl,_⟩:=h;exact⟨rfl,by simp⟩
 obtain⟨x,z,rfl,hx,rfl⟩:=h;have gG:av=16777216:=cU;show VS _ _ [.d (.str x),.d (.str z)] _;refine bR (r:=.d (.bool (tw x z))) (dm (r:=.d (.bool ((!decide (x = ""))&&(codes x).all λc=>decide (c∈codes z)))) (GD (j:=!decide (x = "")) (k:=(codes x).all λc=>decide (c∈codes z)) (Pp (by left) (by left)) λ_=>GC (dm (TQ (bs:=(codes x).map λc=>decide (c∈codes z)) rfl Ga (Cq rfl UD (MB (by left)) (ys:=(codes x).map λc=>.bool (decide (c∈codes z))) (by simp[Mz]) (by rw[gG];simp[Mz,cN];omega) ?_) (by simp[Sl.cq])) (by rw[List.all_map];rfl))) rfl) (.inl rfl)
 ·intro i a y ha hy cl C s0 H0 fp pins;unfold Mz at ha;rw[aw]at ha hy;cases hc:(codes x)[i]? with
  |none=>rw[hc]at ha;cases ha
  |some c=>
   rw[hc]at ha hy;cases ha;cases hy;exact TL (bU rfl rfl) (bU rfl rfl)
theorem C8:b5 ["figures","number","figure"] ["figures"] (aJ qt):=⟨rfl,rfl,rfl,by symm,rfl,by symm,by symm⟩
theorem UG{f:aj}{fd:be}(F:jP K "number_of" "number_of" qt f fd)(hF:∃t,mg "FIGURES"=some (.str gJ t)):fi P w K mg base kx 1 f fd ["figures"] (gr K X0):=by
 refine F.vz C8 (λas r h=>?_) (λeR A outer s H E as r hr h=>?_)
 ·obtain⟨x,fs,rfl,_⟩:=h;exact⟨rfl,by simp⟩
 obtain⟨x,fs,rfl,hx,hf,rfl⟩:=h;obtain⟨tF,hF⟩:=hF;show VS _ _ [.d (.str x),.un,.un] _;refine cD C8.nd rfl (d:=.int 0) (by left) ?_;refine kF bF rfl (MB (by left)) (js C8.nd rfl) (λi ρ=>∃y,ρ=[.d (.str x),.d (.int (xB (fs.take i))),y]) ⟨.un,rfl⟩ ?_ ?_
 ·rintro i d ρ hd ⟨y,rfl⟩;unfold Mz at hd;rw[hx,fh,aw]at hd;cases hq:fs[i]? with
  |none=>rw[hq]at hd;cases hd
  |some k=>
   rw[hq]at hd;cases hd;have hk:=hf k (aI hq);refine⟨_,rfl,?_⟩;show VS _ _ [.d (.str x),.d (.int (xB (fs.take i))),.d (.str (sg (48 + k)))] _;refine cD C8.nd rfl (d:=.int (xB (fs.take (i+1)))) (dm (gH (p7 (by left) (by left) (.inr ⟨by decide,by decide⟩)) (MF (nZ (v:=.str gJ) rfl hF ⟨tF,rfl⟩ λ_=>.str _) (by left) (J5 hk))) ?_) (cg ⟨_,rfl⟩);rw[ef,hq,Option.toList,EK];simp
 ·rintro ρ ⟨y,rfl⟩;refine bR (r:=.d (.int (xB fs))) (dm (r:=.d (.int (xB (fs.take (Mz x).length)))) (by left) ?_) (.inl rfl);rw[dR];have:=congrArg oS hx;rw[ay]at this;simp[Mz];omega
theorem UH:b5 ["due","found"] ["due","found"] (aJ wq):=⟨rfl,rfl,rfl,by symm,rfl,by symm,by symm⟩
theorem UI{f:aj}{fd:be}(F:jP K "as_due" "as_due" wq f fd):fi P w K mg base kx 1 f fd ["due","found"] (gr K GW):=by
 refine F.vz UH (λas r h=>?_) (λeR A outer s H E as r hr h=>?_)
 ·obtain⟨zc,g,d,rfl,_⟩:=h;exact⟨rfl,by simp⟩
 obtain⟨zc,g,d,rfl,hd,rfl⟩:=h;cases g with
 |word x=>cases hd
 |kind k=>
  replace hd:(if zc = "kind" then some (eW k)else none)=some d:=hd;split at hd
  ·rename_i e;subst e;cases hd;show VS _ _ [.d (.str "kind"),.d (.tuple [.str "kind",eW k])] _;exact cz (bX (x:="kind") (by left) (by left)) (by decide) (bR (by left) (.inl rfl))
  ·cases hd
 |part t=>
  by_cases e0:zc = "part"
  ·subst e0;cases hd;show VS _ _ [.d (.str "part"),.d (.tuple [.str "part",dY t])] _;exact cz (bX (x:="part") (by left) (by left)) (by decide) (bR (by left) (.inl rfl))
  ·by_cases e1:zc = "name"
   ·subst e1;cases t with
    |name x=>
     cases hd;show VS _ _ [.d (.str "name"),.d (.tuple [.str "part",.tuple [.str "name",.tuple [.str x],.tuple []]])] _;refine bt (bX (x:="name") (by left) (by left)) (by decide) ?_;refine cz (k:=true) (hX (kE (bW (bX (x:="name") (by left) (by left)) (by decide)) (kE (bW (bX (x:="part") (by left) (by left)) (by decide)) (lP (bW (bX (x:="name") (by left) (by left)) (by decide)))))) rfl (bR (by left) (.inl rfl))
    |_=>cases hd
   ·exfalso;simp only[zj,if_neg e0,if_neg e1]at hd;cases hd
theorem Nw:b5 ["line","spread"] ["line"] (aJ sM):=⟨rfl,rfl,rfl,by symm,rfl,by symm,by symm⟩
theorem UJ:oG ["line","spread"] (aJ sM) {kind:=.function,names:=[(".0",.local),("token",.local)],isGenerator:=false,isCoroutine:=false} "token":=⟨rfl,by symm,by symm,rfl,by symm,by symm,by symm⟩
theorem UK{f:aj}{fd:be}(F:jP K "tokens" "tokens" sM f fd):lg P w K mg base kx 1 f fd ["line"] (gr K X1):=by
 refine F.ac5 Nw (λas r h=>?_) (λeR A outer s H E as r hr h=>?_)
 ·obtain⟨x,rfl,_⟩:=h;exact⟨rfl,by simp⟩
 obtain⟨l,rfl,hl,rfl⟩:=h;have gG:av=16777216:=cU;have l1:(bL l "(" " ( ").length<=3 * l.length:=ke (c:=40) (by decide);have l2:(bL (bL l "(" " ( ") ")" " ) ").length<=3 * (bL l "(" " ( ").length:=ke (c:=41) (by decide);have l3:=split_len (bL (bL l "(" " ( ") ")" " ) ") 32;show Iw _ _ [.d (.str l),.un] _;refine Pk Nw.nd rfl (d:=.str (bL (bL l "(" " ( ") ")" " ) ")) (xi (xi (VE.toPos (by left)) (by rw[show(" ( ":Str).length=3 from by decide];omega)) (by rw[show(" ) ":Str).length=3 from by decide];omega)) ?_;refine bR (r:=.o ((toks l).map .str)) (dm (Mx (g:=λd=>d) (ok:=λd=>match d with | .str y=>!decide (y = "")|_=>true) rfl UJ (Tc (ME (by left) (by left) (by decide) (by rw[gG];omega) (by rw[gG];exact aX l3 (by omega)) ?_)) (by rw[ay,gG];exact aX l3 (by omega)) ?_ ?_) ?_) (.inl rfl)
 ·rw[length_partsBetween,gG];have:=StrLaws.occ_length_le (bL (bL l "(" " ( ") ")" " ) ") " " 0 (bL (bL l "(" " ( ") ")" " ) ").length ((bL (bL l "(" " ( ") ")" " ) ").length+1);omega
 ·intro a ha _ cl C s0 H0 fp pins;exact bU rfl rfl
 ·intro a ha cl C s0 H0 fp pins;obtain⟨y,_,rfl⟩:=de.mp ha;exact yU (bU rfl rfl) yR
 ·unfold toks;rw[List.map_id',List.filter_map];congr 2;apply List.filter_congr;intro x hx;simp
theorem UL:b5 ["token"] ["token"] (aJ qr):=⟨rfl,rfl,rfl,by symm,rfl,by symm,by symm⟩
theorem UM{f:aj}{fd:be}(F:jP K "from_word" "from_word" qr f fd)(DF:cK P w K mg base 1 "form_of" ["word"] (gr K MK))(DC:cK P w K mg base 1 "consists_of" ["token","signs"] (gr K Q0))(DN:cK P w K mg base 1 "number_of" ["figures"] (gr K X0))(hL:∃t,mg "LETTERS"=some (.str gI t))(hF:∃t,mg "FIGURES"=some (.str gJ t)):fi P w K mg base kx 2 f fd ["token"] (gr K Bx):=by
 refine F.vz UL (λas r h=>?_) (λeR A outer s H E as r hr h=>?_)
 ·obtain⟨x,g,rfl,_⟩:=h;exact⟨rfl,by simp⟩
 obtain⟨x,g,rfl,hx,hw,rfl⟩:=h;obtain⟨tL,hL⟩:=hL;obtain⟨tF,hF⟩:=hF;have gG:av=16777216:=cU;show VS _ _ [.d (.str x)] _;cases hw with
 |num=>exact cz (k:=true) (hX (t7 (bW (bX (x:="num") (by left) (by left)) (by decide)))) rfl (bR (by left) (.inl rfl))
 |truth=>exact cz (k:=true) (hX (iw (bW (bX (x:="truth") (by left) (by left)) (by decide)) (hZ (bW (bX (x:="truth") (by left) (by left)) (by decide))))) rfl (bR (by left) (.inl rfl))
 |yes=>
  refine bt (k:=false) (hX (iw (bW (bX (x:="yes") (by left) (by left)) (by decide)) (hZ (bW (bX (x:="yes") (by left) (by left)) (by decide))))) rfl ?_;refine cz (k:=true) (hX (t7 (bW (bX (x:="yes") (by left) (by left)) (by decide)))) rfl ?_;exact bR (dP (aQ (by left) (aQ (dP (aQ (by left) (aQ (dP (aQ (d:=.bool true) (dm (Ij (x:="yes") (by left) (by left)) (by rfl)) cF)) (aQ (by left) cF)))) cF))) (.inl rfl)
 |no=>
  refine bt (k:=false) (hX (iw (bW (bX (x:="no") (by left) (by left)) (by decide)) (hZ (bW (bX (x:="no") (by left) (by left)) (by decide))))) rfl ?_;refine cz (k:=true) (hX (iw (bW (bX (x:="no") (by left) (by left)) (by decide)) (hZ (bW (bX (x:="no") (by left) (by left)) (by decide))))) rfl ?_;exact bR (dP (aQ (by left) (aQ (dP (aQ (by left) (aQ (dP (aQ (d:=.bool false) (dm (Ij (x:="no") (by left) (by left)) (by rfl)) cF)) (aQ (by left) cF)))) cF))) (.inl rfl)
 |@word _ ds hf=>
  have n1:x≠"num":=λe=>by subst e;cases hf
  have n2:x≠"truth":=λe=>by subst e;cases hf
  have n3:x≠"yes":=λe=>by subst e;cases hf
  have n4:x≠"no":=λe=>by subst e;cases hf
  refine bt (k:=false) (hX (iw (bW (bX (x:=x) (by left) (by left)) (decide_eq_false n1)) (hZ (bW (bX (x:=x) (by left) (by left)) (decide_eq_false n2))))) rfl ?_;refine bt (k:=false) (hX (iw (bW (bX (x:=x) (by left) (by left)) (decide_eq_false n3)) (hZ (bW (bX (x:=x) (by left) (by left)) (decide_eq_false n4))))) rfl ?_;refine cz (k:=true) (bW (sk (bG DF hr (aA (by left) bV) ⟨x,rfl,rfl⟩)) (by rw[hf];rfl)) rfl ?_;exact bR (by left) (.inl rfl)
 |name hn=>
  refine bt (k:=false) (hX (iw (bW (bX (x:=x) (by left) (by left)) (decide_eq_false hn.num)) (hZ (bW (bX (x:=x) (by left) (by left)) (decide_eq_false hn.truth))))) rfl ?_;refine bt (k:=false) (hX (iw (bW (bX (x:=x) (by left) (by left)) (decide_eq_false hn.yes)) (hZ (bW (bX (x:=x) (by left) (by left)) (decide_eq_false hn.no))))) rfl ?_;refine bt (k:=false) (bW (sk (bG DF hr (aA (by left) bV) ⟨x,rfl,rfl⟩)) (by rw[hn.ac6];rfl)) rfl ?_;refine cz (k:=true) (bW (i6 (bG DC hr (aA (by left) (aA (nZ (v:=.str gI) rfl hL ⟨tL,rfl⟩ λ_=>.str _) bV)) ⟨x,gI,rfl,hx,rfl⟩)) (GY hn)) rfl ?_;exact bR (by left) (.inl rfl)
 |@XX i ok=>
  refine bt (k:=false) (hX (iw (bW (bX (x:=gE i) (by left) (by left)) (decide_eq_false (i7 (show codes "num"=110::[117,109]from by decide) (by decide)))) (hZ (bW (bX (x:=gE i) (by left) (by left)) (decide_eq_false (i7 (show codes "truth"=116::[114,117,116,104]from by decide) (by decide))))))) rfl ?_;refine bt (k:=false) (hX (iw (bW (bX (x:=gE i) (by left) (by left)) (decide_eq_false (i7 (show codes "yes"=121::[101,115]from by decide) (by decide)))) (hZ (bW (bX (x:=gE i) (by left) (by left)) (decide_eq_false (i7 (show codes "no"=110::[111]from by decide) (by decide))))))) rfl ?_;refine bt (k:=false) (bW (sk (bG DF hr (aA (by left) bV) ⟨gE i,rfl,rfl⟩)) (by rw[EO];rfl)) rfl ?_;refine bt (k:=false) (bW (i6 (bG DC hr (aA (by left) (aA (nZ (v:=.str gI) rfl hL ⟨tL,rfl⟩ λ_=>.str _) bV)) ⟨gE i,gI,rfl,hx,rfl⟩)) (ue i)) rfl ?_;by_cases hi:i<0
  ·refine bt (k:=false) (bW (i6 (bG DC hr (aA (by left) (aA (nZ (v:=.str gJ) rfl hF ⟨tF,rfl⟩ λ_=>.str _) bV)) ⟨gE i,gJ,rfl,hx,rfl⟩)) (J6 hi)) rfl ?_;have hc:codes (gE i)=45::(iY i).map (48 + ·):=by rw[iJ,if_pos hi];rfl
   have S3:1<=(gE i).length:=by rw[<-cN,hc];simp
   have ht:codes (zi (gE i))=(iY i).map (48 + ·):=by rw[EI S3,hc];rfl
   have htl:(zi (gE i)).length<=10000000:=by rw[<-cN,ht,ay];have:=congrArg oS hc;rw[cN,aY,ay]at this;omega
   refine cz (k:=true) (hX (kE (bW (bX (x:="-") (Mr (z:=gE i) (i:=0) (by left) (by left) (by rw[gG];omega) ⟨45,by show oZ (codes (gE i)) ((0:Nat):Int)=some 45;rw[hc];exact gp rfl,by decide⟩) (by left)) (by decide)) (lP (bW (i6 (bG DC hr (aA (MG (z:=gE i) (by left) (by left) (by rw[gG];omega)) (aA (nZ (v:=.str gJ) rfl hF ⟨tF,rfl⟩ λ_=>.str _) bV)) ⟨zi (gE i),gJ,rfl,htl,rfl⟩)) (zm ht (lE i) (sx i)))))) rfl ?_;exact bR (dP (aQ (by left) (aQ (dP (aQ (by left) (aQ (dP (aQ (d:=.int i) (dm (GO (bG DN hr (aA (MG (z:=gE i) (by left) (by left) (by rw[gG];omega)) bV) ⟨zi (gE i),iY i,rfl,ht,lE i,rfl⟩)) (by rw[IB];congr 2;omega)) cF)) (aQ (by left) cF)))) cF))) (.inl rfl)
  ·have hc:codes (gE i)=(iY i).map (48 + ·):=by rw[iJ,if_neg hi];rfl
   refine cz (k:=true) (bW (i6 (bG DC hr (aA (by left) (aA (nZ (v:=.str gJ) rfl hF ⟨tF,rfl⟩ λ_=>.str _) bV)) ⟨gE i,gJ,rfl,hx,rfl⟩)) (zm hc (lE i) (sx i))) rfl ?_;exact bR (dP (aQ (by left) (aQ (dP (aQ (by left) (aQ (dP (aQ (d:=.int i) (dm (bG DN hr (aA (by left) bV) ⟨gE i,iY i,rfl,hc,lE i,rfl⟩) (by rw[IB];congr 2;omega)) cF)) (aQ (by left) cF)))) cF))) (.inl rfl)
theorem wx:b5 ["group","word","form","marks","own","due","found"] ["group"] (aJ lJ):=⟨rfl,rfl,rfl,by symm,rfl,by symm,by symm⟩
theorem UN{f:aj}{fd:be}(F:jP K "from_brackets" "from_brackets" lJ f fd)(B:Plain mg)(Nx:mg "tuple"=none)(P6:mg "zip"=none)(DF:cK P w K mg base 1 "form_of" ["word"] (gr K MK))(DA:cK P w K mg base 1 "as_due" ["due","found"] (gr K GW)):fi P w K mg base kx 2 f fd ["group"] (gr K EM):=by
 refine F.vz wx (λas r h=>?_) (λeR A outer s H E as r hr h=>?_)
 ·obtain⟨g,x,rfl,_⟩:=h;exact⟨rfl,by simp⟩
 obtain⟨g,x,rfl,hb,rfl⟩:=h;obtain⟨wd,ds,fs,MS,OS,rfl,hf,hl,hc,hd,h6⟩:=ML hb;have gG:av=16777216:=cU;show VS _ _ [.l (.tuple [.str "word",.str wd]::fs.map xj),.un,.un,.un,.un,.un,.un] _;refine bt (k:=false) (hX (iw (bW (qc (Co (by left) rfl)) rfl) (hZ (bW (yU (x:="word") (dg (xs:=[.str "word",.str wd]) (gC (d:=.tuple [.str "word",.str wd]) (xs:=.tuple [.str "word",.str wd]::fs.map xj) (i:=((0:Nat):Int)) (by left) (by left) rfl (gp rfl)) (by left) rfl) (by left)) (by decide))))) rfl ?_;refine cD wx.nd rfl (d:=.str wd) (dg (xs:=[.str "word",.str wd]) (gC (d:=.tuple [.str "word",.str wd]) (xs:=.tuple [.str "word",.str wd]::fs.map xj) (i:=((0:Nat):Int)) (by left) (by left) rfl (gp rfl)) (by left) rfl) ?_;refine cD wx.nd rfl (d:=.tuple (ds.map .str)) (dm (bG DF hr (aA (by left) bV) ⟨wd,rfl,rfl⟩) (by rw[hf];rfl)) ?_;refine bt (k:=false) (bW (GB (oa B.len (by left) rfl) (gH (n6 B.len (by left)) (by left))) (by simp[hl])) rfl ?_;refine jr wx.nd rfl (by left) ?_;refine jr wx.nd rfl (by left) ?_;have UO:cutD (.tuple [.str "word",.str wd]::fs.map xj) (some 1) none=fs.map xj:=by
  unfold cutD;rw[show HT.jw (eG [.str "word",.str wd]::fs.map xj).length 0 (some 1)=1 from by simp[HT.jw],show HT.jw (eG [.str "word",.str wd]::fs.map xj).length (eG [.str "word",.str wd]::fs.map xj).length none=fs.length+1 from by simp[HT.jw]];rw[List.drop_one,List.tail_cons];exact dR (by simp)
 have hlen:(qj (ds.map .str) (fs.map xj)).length=ds.length:=by simp[qj,hl]
 refine Po bF rfl (TU (xs:=ds.map .str) (ys:=fs.map xj) P6 (by left) (dm (LX (i:=some 1) (j:=none) (by left) (mz (by left)) uZ rfl) (by rw[UO])) (by simp[hl])) (HZ wx.nd rfl rfl rfl)
  (λi ρ=>∃(ms os:List aq)(tl:List aq×List aq)(y z:Sl),ρ=[.l (.tuple [.str "word",.str wd]::fs.map xj),.d (.str wd),.d (.tuple (ds.map .str)),.o ms,.o os,y,z]/\GX (ds.drop i) (fs.drop i)=some tl/\ms++tl.1=MS/\os++tl.2=OS/\ms.length<=i/\os.length<=i) ⟨[],[],(MS,OS),.un,.un,rfl,hc,rfl,rfl,au _,au _⟩ ?_ ?_
 ·rintro i d ρ hd ⟨ms,os,tl,y,z,rfl,h1,h2,h3,h4,h5⟩;have hi:i<ds.length:=by have:=(ak.mp hd).1;omega
  have hi2:i<fs.length:=by omega
  obtain⟨d1,tl1,e1,e2,e3⟩:=J3 hi hi2 h1;have e4:d = .tuple [.str ds[i],xj fs[i]]:=by
   unfold qj at hd;rw[aw,ag (by simp;omega)]at hd;simp at hd;exact hd.symm
  subst e4;refine⟨_,rfl,?_⟩;show VS _ _ [.l (.tuple [.str "word",.str wd]::fs.map xj),.d (.str wd),.d (.tuple (ds.map .str)),.o ms,.o os,.d (.str ds[i]),.d (xj fs[i])] _;by_cases hp:ds[i] = "part"
  ·rw[if_pos hp]at e3;subst e3;refine cz (bX (x:=ds[i]) (by left) (by left)) (decide_eq_true hp) ?_;exact fG rfl rfl (bG DA hr (aA (by left) (aA (by left) bV)) ⟨_,_,d1,rfl,e1,rfl⟩) (by rw[gG];omega) (cg (cg ⟨_,_,tl1,_,_,rfl,e2,h2,by rw[<-h3];simp,by omega,by simp;omega⟩))
  ·rw[if_neg hp]at e3;subst e3;refine lA (bX (x:=ds[i]) (by left) (by left)) (decide_eq_false hp) ?_;exact fG rfl rfl (bG DA hr (aA (by left) (aA (by left) bV)) ⟨_,_,d1,rfl,e1,rfl⟩) (by rw[gG];omega) (cg (cg ⟨_,_,tl1,_,_,rfl,e2,by rw[<-h2];simp,h3,by simp;omega,by omega⟩))
 ·rintro ρ ⟨ms,os,tl,y,z,rfl,h1,h2,h3,h4,h5⟩;rw[hlen]at h4 h5;rw[hlen,pR,hl,pR]at h1;cases h1;rw[cf]at h2 h3;subst h2 h3;rw[hd];by_cases hw:wd = "list"\/wd = "to"
  ·rw[if_pos hw];refine cz (k:=decide (wd = "list")||decide (wd = "to")) (hX (QL (bX (x:=wd) (by left) (by left)) λ_=>hZ (bX (x:=wd) (by left) (by left)))) (by simpa using hw) ?_;exact bR (dP (aQ (by left) (aQ (HU (dP (aQ (by left) cF)) (x9 Nx (by left) rfl) (by rw[gG];simp;omega)) cF))) (.inl rfl)
  ·rw[if_neg hw];refine bt (k:=decide (wd = "list")||decide (wd = "to")) (hX (QL (bX (x:=wd) (by left) (by left)) λ_=>hZ (bX (x:=wd) (by left) (by left)))) (by simpa using hw) ?_;exact bR (dP (aQ (by left) (aQ (dP (aQ (by left) (aQ (x9 Nx (by left) rfl) (aQ (x9 Nx (by left) rfl) cF)))) cF))) (.inl rfl)
theorem UP:b5 ["part","number"] ["part","number"] (aJ rN):=⟨rfl,rfl,rfl,by symm,rfl,by symm,by symm⟩
theorem UQ{f C:aj}{fd:be}(F:jP K "own_part" "own_part" rN f fd)(B:Plain mg)(c:Eg K mg "NoPart" C):fi P w K mg base (Be P w base) 1 f fd ["part","number"] (QI K C):=by
 refine F.okX UP (λvs H Q E h=>?_) (λeR A outer s H vs Q E hr h=>?_)
 ·obtain⟨v,k,t,rfl,_⟩:=h;rfl
 obtain⟨v,k,t,rfl,rt,h⟩:=h
 refine⟨_,cE (j7 (PW.pt (Hu (kz KL (pv 1) cS (gP _)) (FJ (kz WS (pv 1) (gf eY rfl B.len eA (aO (eO dX (pv 0) cS (λ_ _=>rfl)) bD)) (gP _)))))
   (di (Eh Cg c rfl (aO tU bD))) jN)
  (di (iq (eO dX (eO dX (pv 0) cS (λ_ _=>rfl)) (pv 1) (λ_ _=>rfl)))),?_⟩
 obtain⟨a1,b1,c1,ms,os,rfl,g1,g2,g3,g4,g5⟩:=uW rt;have Wu:os.length=t.own.length:=by rw[g5.length,ay]
 have one:([V.str ("the place leads nowhere":Str)]:List V).length<=1000:=by show(1:Nat)<=1000;decide
 refine⟨_,rfl,_,_,rfl,rfl,_,rfl,Gc (λc1=>?_) (λc1=>?_)⟩
 ·refine uT ⟨one,?_⟩;rcases h with⟨j,u,rfl,_⟩|⟨_,hE⟩
  ·have:((j:Int)<0):=of_decide_eq_true c1;omega
  ·exact hE
 have hk0:¬k<0:=of_decide_eq_false (vD.mpr c1);refine⟨_,rfl,_,rfl,a1,_,_,.ref _,rfl,rfl,g1,rfl,_,os,rfl,.inr g4,_,_,rfl,rfl,_,rfl,Gc (λc2=>?_) (λc2=>?_)⟩
 ·refine⟨one,?_⟩;rcases h with⟨j,u,rfl,hu,_⟩|⟨_,hE⟩
  ·have h2:((os.length:Nat):Int)<=(j:Int):=of_decide_eq_true c2;have h3:=(ak.mp hu).1;omega
  ·exact hE
 have hk1:¬((os.length:Nat):Int)<=k:=of_decide_eq_false (vD.mpr c2);rcases h with⟨j,u,rfl,hu,q⟩|⟨hb,_⟩
 ·obtain⟨v2,hv2,rv2⟩:=HM g5 hu;exact⟨_,rfl,a1,_,_,.ref _,rfl,rfl,g1,rfl,_,rfl,_,os,_,v2,rfl,rfl,g4,gp hv2,q v2 rv2⟩
 ·exfalso;rw[Wu]at hk1;omega
theorem pE:b5 ["expr","waiting","backwards","pair","number","own"] ["expr"] (aJ rM):=⟨rfl,rfl,rfl,by symm,rfl,by symm,by symm⟩
theorem Ko{f:aj}{fd:be}(F:jP K "in_order" "in_order" rM f fd)(B:Plain mg):fi P w K mg base kx 1 f fd ["expr"] (Ep K):=by
 refine F.ok pE (λvs H Q E h=>?_) (λeR A outer s H vs Q E hr h=>?_)
 ·obtain⟨v,e,rfl,_⟩:=h;rfl
 obtain⟨v,e,rfl,re,hz,q⟩:=h
 refine⟨_,cE (gO (i:=1) pE.nd rfl (cm rfl) (tW (aO (me (aO (@me _ _ _ _ _ bD) (aO (pv 0) bD))) bD)))
  (cE (gO (i:=2) pE.nd rfl (cm rfl) (tW bD))
  (cE (yp bF (uN (pv 1) (λ_=>rfl))
   (cE (gO (i:=3) pE.nd rfl (cm rfl) (vO bJ ft fw vP (pv 1)))
   (cE (mv (ph bJ eg eh lz (pv 2) (aO (pv 3) bD)))
   (di (vI bF rfl (Ll rfl B.enumerate (aO (eO dX (eO dX (pv 3) cS (λ_ _=>rfl)) cS (λ_ _=>rfl)) bD))
    (yo rfl (jI (i5 (i:=4) pE.nd rfl (cm rfl)) (jI (i5 (i:=5) pE.nd rfl (cm rfl)) uM)))
    (di (mv (ph bJ eg eh lz (pv 1) (aO (me (aO (DV rg (eO dX (pv 3) cS (λ_ _=>rfl)) (me (aO (pv 4) bD))) (aO (pv 5) bD))) bD)))))))))
  (di (iq (yG rfl rfl B.list rfl B.reversed (aO (pv 2) bD)))))),?_⟩
 refine⟨by show 0<=av;decide,λpa na=>⟨v,rfl,by show 2<=av;decide,λpb nb=>⟨by show 1<=av;decide,λwa nw=>?_⟩⟩⟩;have sA:=bu na (.tup []);have hpa:(upd H pa (.tup [])) pa=some (.tup []):=aW;generalize upd H pa (.tup [])=HA at sA hpa nb nw ⊢;have sB:=bu nb (.tup [.ref pa,v]);have hpb:(upd HA pb (.tup [.ref pa,v])) pb=some (.tup [.ref pa,v]):=aW;generalize upd HA pb (.tup [.ref pa,v])=HB at sB hpb nw ⊢;have sC:=bu nw (.lst [.ref pb]);have s1:bK H (upd HB wa (.lst [.ref pb])):=(sA.trans sB).trans sC;have Yh:(upd HB wa (.lst [.ref pb])) wa=some (.lst [.ref pb]):=aW;have Zw:jt K (upd HB wa (.lst [.ref pb])) [([],e)] [.ref pb]:=.one ⟨pb,pa,v,rfl,fF.of (sC _ _ hpb),sC _ _ (sB _ _ hpa),Rep.mono (bq.of_same s1) _ _ re⟩;have nwH:H wa=none:=(sA.trans sB).free nw;generalize upd HB wa (.lst [.ref pb])=H1 at s1 Yh Zw ⊢;refine⟨(by show 0<=av;decide),λb nb=>?_⟩;have s2:=bu nb (.lst []);have hwb:wa≠b:=cn Yh nb;have nbH:H b=none:=s1.free nb
 refine⟨λm σ H2=>∃st bs ws bv x3 x4 x5,m=total st/\σ=[some v,some (.ref wa),some (.ref b),x3,x4,x5]/\bK H H2/\H2 wa=some (.lst ws)/\H2 b=some (.lst bv)/\jt K H2 st.reverse ws/\jt K H2 bs bv/\bs++st.flatMap AA=e.post.reverse,
  ⟨_,[([],e)],[],_,[],none,none,none,rfl,rfl,s1.trans s2,s2 _ _ Yh,aW,Zw.ext (Ext.of_same s2),.nil,Jz e⟩,?_⟩
 rintro m σ H2 ⟨st,bs,ws,bv,x3,x4,x5,rfl,rfl,sm,hw,hbv,Q9,rb0,inv⟩;have Yi:bs.length + total st=e.size:=by
  have h1:=congrArg oS inv;rw[aL,cC,cZ]at h1;have h2:(st.flatMap AA).length=total st:=by
   clear inv h1 Q9;induction st with
   |nil=>rfl
   |cons x r ih=>rw[oW,aL,ih,jY];simp[AA,cZ]
  omega
 have SA:ws.length=st.length:=by rw[Q9.1,cC]
 have hbl:bv.length=bs.length:=rb0.1;have KG:=qF st;have xr:∀{n:Nat},n<=1000001->n<av:=λh=>cH h (by decide);refine⟨_,rfl,_,.inl ⟨ws,fU.of hw,rfl⟩,?_⟩;cases st with
 |nil=>
  have ew:ws=[]:=by cases ws with|nil=>rfl|cons _ _=>simp at SA
  subst ew;refine qJ ?_;refine⟨_,rfl,b,bv,rfl,fU.of hbv,λr nr=>?_⟩;have s3:=bu nr (.lst bv.reverse);refine q r _ _ (sm.trans s3) (sm.free nr) aW (jt.ext (Ext.of_same s3) ?_);have hr:=rb0.reverse;have e1:bs=e.post.reverse:=by simpa using inv
  rw[e1,sO]at hr;exact hr
 |cons x st=>
  obtain⟨p,t⟩:=x;rw[dD]at Q9;obtain⟨Al,xv,rfl,rwp,rx⟩:=Q9.snoc;have nonempty:(!(Al++[xv]).isEmpty)=true:=by simp
  rw[nonempty];refine uT ?_
  refine⟨λdI H'=>∃wQ bs ws bv x3 x4 x5,total wQ<total ((p,t)::st)/\dI=[some v,some (.ref wa),some (.ref b),x3,x4,x5]/\bK H H'/\H' wa=some (.lst ws)/\H' b=some (.lst bv)/\jt K H' wQ.reverse ws/\jt K H' bs bv/\bs++wQ.flatMap AA=e.post.reverse,
   (by rintro dI H' ⟨wQ,bs,ws,bv,y3,y4,y5,k1,k2,k3,k4,k5,k6,k7,k8⟩;exact ⟨_,k1,wQ,bs,ws,bv,y3,y4,y5,rfl,k2,k3,k4,k5,k6,k7,k8⟩),?_⟩
  refine⟨_,rfl,.inl ⟨rfl,_,fU.of hw⟩,wa,_,xv,rfl,rfl,hw,by simp,?_⟩;rw[hW];have b3:SameBut wa H2 (upd H2 wa (.lst Al)):=SameBut.upd _;have x3':Ext H2 (upd H2 wa (.lst Al)):=Ext.write hw _;have hb3:(upd H2 wa (.lst Al)) b=some (.lst bv):=b3 _ _ (dz hwb) hbv;rw[jY]at Yi KG;have htp:=t.size_pos;have af0:=qF st;simp only at Yi;refine⟨_,rfl,.inl ⟨rfl,_,fU.of hb3⟩,_,rfl,b,bv,xv,rfl,rfl,hb3,xr (by omega),?_⟩;have b4:SameBut b (upd H2 wa (.lst Al)) (upd (upd H2 wa (.lst Al)) b (.lst (bv++[xv]))):=SameBut.upd _;have x4':Ext (upd H2 wa (.lst Al)) (upd (upd H2 wa (.lst Al)) b (.lst (bv++[xv]))):=Ext.write hb3 _;generalize hH4:upd (upd H2 wa (.lst Al)) b (.lst (bv++[xv]))=H4 at b4 x4' ⊢;have xe4:Ext H2 H4:=λc o h1 h2=>x4' c o (x3' c o h1 h2) h2;have Zu:bK H H4:=rh (rh sm b3 nwH) b4 nbH;have hw4:H4 wa=some (.lst Al):=b4 _ _ hwb aW;have hb4:H4 b=some (.lst (bv++[xv])):=by rw[<-hH4];exact aW
  obtain⟨a,pu,tv,rfl,ga,gu,Ra⟩:=rx.ext xe4;obtain⟨a1,b1,c1,ms,os,rfl,g1,g2,g3,g4,g5⟩:=uW Ra;have Wu:os.length=t.own.length:=by rw[g5.length,ay]
  have htz:t.size=gS t.own+1:=yH t;have xE:=xw t.own;have kY:p.length<=1000000:=by
   have hm:(p,t)∈e.post.reverse:=by rw[<-inv,oW,HL];simp
   have:=yJ (pY e (p,t) (jz.mp hm));simp only at this;omega
  refine⟨_,rfl,a,_,_,.ref a1,rfl,rfl,ga,rfl,a1,_,_,.ref c1,rfl,rfl,g1,rfl,c1,os,rfl,g4,Ln (xs:=os) (λi σ H5=>∃NX x4 x5,σ=[some v,some (.ref wa),some (.ref b),some (.ref a),x4,x5]/\bK H H5/\Ext H4 H5/\H5 wa=some (.lst NX)/\H5 b=some (.lst (bv++[.ref a]))/\
    jt K H5 (st.reverse++kids p 0 (t.own.take i)) NX)
   ⟨Al,x4,x5,rfl,Zu,Ext.of_same (bK.refl _),hw4,hb4,by rw[jn,kids,cf];exact rwp.ext xe4⟩ (by rintro i σ H5 _ ⟨_,_,_,_,_,xe,_⟩;exact bq.oI xe _ _ g4) ?_ ?_⟩
  ·rintro i x σ H5 pn hi ⟨NX,y4,y5,rfl,s5,UR,hw5,hb5,Yj⟩ QH;have hit:i<t.own.length:=by rw[<-Wu];exact(ak.mp hi).1
   have FQ:t.own[i]?=some t.own[i]:=ag hit;obtain⟨xv2,Rb,rx2⟩:=HM g5 FQ;rw[hi]at Rb;cases Rb;have s6:=bu QH (.tup [.int i,x]);have Zx:Ext H4 (upd H5 pn (.tup [.int i,x])):=λc o h1 h2=>s6 _ _ (UR c o h1 h2);refine⟨pn,_,rfl,fF.of aW,rfl,_,_,rfl,_,_,rfl,rfl,?_⟩;have hw6:=s6 _ _ hw5;have Yk:=s6 _ _ hb5;generalize upd H5 pn (.tup [.int i,x])=H6 at s6 Zx hw6 Yk ⊢;have ga6:=bq.oI (K:=K) Zx _ _ ga;have US:=Zx _ _ gu (λ_ z=>nomatch z);have rx6:=Rep.mono (bq.oI Zx) _ _ rx2;have ae7:NX.length=st.length + i:=by
    rw[Yj.1,aL,cC];have:∀(r:List Ex)(k:Nat),(kids p k r).length=r.length:=by
     intro r;induction r with
     |nil=>intro k;rfl
     |cons y r ih=>intro k;rw[kids,aY,aY,ih]
    rw[this,gB];omega
   have ad6:((kP p).map kV).length=p.length:=by simp[kP]
   refine⟨_,rfl,.inl ⟨rfl,_,fU.of hw6⟩,_,rfl,a,_,_,_,rfl,rfl,ga6,rfl,_,rfl,by show 1<=av;decide,λpc nc=>?_⟩;have s7:=bu nc (.tup [.int i]);have Zc:(upd H6 pc (.tup [.int i])) pc=some (.tup [.int i]):=aW;generalize upd H6 pc (.tup [.int i])=H7 at s7 Zc ⊢;refine Ct (fF.of (s7 _ _ US)) Zc (by simp) (by rw[ad6];exact fj (xr (by simp;omega))) λpd H8 s8 hpd=>⟨x,rfl,by show 2<=av;decide,λpe ne=>?_⟩;have s9:=bu ne (.tup [.ref pd,x]);have Fw:(upd H8 pe (.tup [.ref pd,x])) pe=some (.tup [.ref pd,x]):=aW;have BP:=(s7.trans s8).trans s9;have Yl:=s9 _ _ hpd;generalize upd H8 pe (.tup [.ref pd,x])=H9 at s9 Fw BP Yl ⊢;have hw9:=BP _ _ hw6;refine⟨wa,NX,.ref pe,rfl,rfl,hw9,xr (by omega),?_⟩;have bA:SameBut wa H9 (upd H9 wa (.lst (NX++[.ref pe]))):=SameBut.upd _;have xA:Ext H9 (upd H9 wa (.lst (NX++[.ref pe]))):=Ext.write hw9 _;have x5A:Ext H5 (upd H9 wa (.lst (NX++[.ref pe]))):=λc o h1 h2=>xA c o (BP _ _ (s6 _ _ h1)) h2;refine⟨_,_,_,rfl,rh (s5.trans (s6.trans BP)) bA nwH,λc o h1 h2=>x5A c o (UR c o h1 h2) h2,aW,bA _ _ (dz hwb) (BP _ _ Yk),?_⟩;have ek:kids p 0 (t.own.take (i+1))=kids p 0 (t.own.take i)++[(p++[i],t.own[i])]:=by
    rw[ef,FQ];show kids p 0 (t.own.take i++[t.own[i]])=_;rw[Bc,gB,Nat.min_eq_left (by omega)];simp
   rw[ek,<-bM];refine(Yj.ext x5A).append (.one ⟨pe,pd,x,rfl,fF.of (xA _ _ Fw (λ_ z=>nomatch z)),?_,Rep.mono ((bq.of_same BP).trans (bq.oI xA)) _ _ rx6⟩);refine xA _ _ ?_ (λ_ z=>nomatch z);show H9 pd=some (.tup ((kP (p++[i])).map kV));rw[Yl];simp[kP,kV]
  ·rintro σ H5 ⟨NX,y4,y5,rfl,s5,UR,hw5,hb5,Yj⟩;rw[dR (by omega)]at Yj;refine⟨(kids p 0 t.own).reverse++st,bs++[(p,t)],NX,_,_,_,_,?_,rfl,s5,hw5,hb5,?_,?_,?_⟩
   ·rw[uX,AB,yI,jY];simp only;omega
   ·rw[tQ,sO];exact Yj
   ·exact(rb0.ext (λc o h1 h2=>UR c o (xe4 c o h1 h2) h2)).append (.one ⟨a,pu,_,rfl,bq.oI UR _ _ ga,UR _ _ gu (λ_ z=>nomatch z),Rep.mono (bq.oI UR) _ _ Ra⟩)
   ·rw[oW,HL]at inv;rw[List.flatMap_append,bM,<-inv];simp
theorem zP:b5 ["first","second","waiting","pair"] ["first","second"] (aJ qq):=⟨rfl,rfl,rfl,by symm,rfl,by symm,by symm⟩
theorem Jc{H:Hp}{k:Kd}{v:V}(h:Rep K H (eW k) v):∃a vs,v = .ref a/\fF K H a (.str (kw k)::vs)/\bB K H ((kC k).map eW) vs:=by
 rw[S6]at h;obtain⟨a,ws,rfl,hq,rp⟩:=h.fz;obtain⟨v1,r,rfl,e1,e2⟩:=rp.split;obtain rfl:=e1.cY;exact⟨a,r,rfl,hq,e2⟩
theorem Hg{H:Hp}{x:Kd×Kd}{v:V}(h:Rep K H (HP x) v):∃a u w,v = .ref a/\fF K H a [u,w]/\Rep K H (eW x.1) u/\Rep K H (eW x.2) w:=by
 obtain⟨a,vs,rfl,hq,rp⟩:=Rep.fz h;obtain⟨v1,r1,rfl,e1,rp⟩:=rp.split;obtain⟨v2,r2,rfl,e2,rp⟩:=rp.split;rw[bB]at rp;subst rp;exact⟨a,v1,v2,rfl,hq,e1,e2⟩
theorem ix0(x:V)(l:List V):oZ (x::l) 0=some x:=(show oZ (x::l) ((0:Nat):Int)=some x from gp rfl)
theorem Ym(x:V)(vs:List V):sQ (x::vs) (some 1) none=vs:=by
 unfold sQ;rw[show(1:Int)=((1:Nat):Int)from rfl,HT.B6,HT.KW];have e:min 1 (x::vs).length=1:=by simp
 rw[e,tK,List.drop_zero,dR (by simp)]
theorem Fb{H:Hp}:∀{ks ms:List Kd}{xs ys zs:List V},ks.length=ms.length->bB K H (ks.map eW) xs->bB K H (ms.map eW) ys->zs.length=ks.length->(∀(j:Nat) z,zs[j]?=some z->∃p x y,z=V.ref p/\fF K H p [x,y]/\xs[j]?=some x/\ys[j]?=some y)->bB K H ((ks.zip ms).map HP) zs
 |[],[],xs,ys,zs,_,_,_,hl,_=>by
  have e:zs=[]:=Dj.mp hl;subst e;exact .nil
 |[],_::_,_,_,_,h,_,_,_,_=>by simp at h
 |_::_,[],_,_,_,h,_,_,_,_=>by simp at h
 |k::ks,m::ms,xs,ys,[],_,_,_,hl,_=>by simp at hl
 |k::ks,m::ms,xs,ys,z::zs,h,rx,ry,hl,hp=>by
  rw[bz]at rx ry;obtain⟨x,OK,rfl,e1,e2⟩:=rx.split;obtain⟨y,Wh,rfl,f1,f2⟩:=ry.split;obtain⟨p,x1,y1,rfl,hq,g1,g2⟩:=hp 0 z rfl;have ex:x=x1:=by simpa using g1
  have ey:y=y1:=by simpa using g2
  subst ex ey;rw[List.zip_cons_cons,bz];refine .cons (.tuple hq (.cons e1 (.one f1))) (Fb (by simpa using h) e2 f2 (by simpa using hl) λj z hj=>?_);obtain⟨p',x',y',a1,a2,a3,a4⟩:=hp (j+1) z (by simpa using hj);exact⟨p',x',y',a1,a2,by simpa using a3,by simpa using a4⟩
theorem Ny{f:aj}{fd:be}(F:jP K "same_kind" "same_kind" qq f fd)(B:Plain mg)(B2:LN mg):fi P w K mg base kx 1 f fd ["first","second"] (yQ K):=by
 refine F.ok zP (λvs H Q E h=>?_) (λeR A outer s H vs Q E hr h=>?_)
 ·obtain⟨v,u,k,m,rfl,_⟩:=h;rfl
 obtain⟨v,u,k,m,rfl,rv,ru,hz,fin⟩:=h
 refine⟨_,cE (gO (i:=2) zP.nd rfl (cm rfl) OF)
  (cE (yp bF (uN (pv 2) (λ_=>rfl))
   (cE (gO (i:=3) zP.nd rfl (cm rfl) (vO bJ ft fw vP (pv 2)))
   (cE (j7 (kz AS (eO dX (eO dX (pv 3) cS (λ_ _=>rfl)) cS (λ_ _=>rfl)) (eO dX (eO dX (pv 3) cS (λ_ _=>rfl)) cS (λ_ _=>rfl)) (gP _)) (di (iq Kx)) jN)
   (di (mv (ph bJ Ae Af A4 (pv 2) (aO (vS rfl rfl B.list (LK rfl B2.zip (aO (pf FW (eO dX (pv 3) cS (λ_ _=>rfl)) (xU cS) xT) (aO (pf FW (eO dX (pv 3) cS (λ_ _=>rfl)) (xU cS) xT) bD)))) bD)))))))
  (di (iq Kx))),?_⟩
 refine⟨_,uU (Lx (uU (Gp 0 rfl rv) (uU (Gp 1 rfl ru) Gq))) Gq,by show 1<=1000;decide,λwa H1 ws1 nwa s1 Yh Zw=>?_⟩;have xr:∀{n:Nat},n<=100001->n<av:=λh=>cH h (by decide)
 refine⟨λc σ H2=>∃st ws x3,c=iH st/\σ=[some v,some u,some (.ref wa),x3]/\bK H H2/\H2 wa=some (.lst ws)/\bB K H2 (st.map HP) ws/\iH st<=100000/\((∀x∈st,x.1=x.2)↔k=m),
  ⟨_,[(k,m)],ws1,none,rfl,rfl,s1,Yh,Zw,by simp only[iH];omega,by simp⟩,?_⟩
 rintro c σ H2 ⟨st,ws,x3,rfl,rfl,s2,hw,Q9,hsz,inv⟩;have SA:ws.length=st.length:=by rw[Q9.length,ay]
 refine⟨_,rfl,_,.inl ⟨ws,fU.of hw,rfl⟩,?_⟩;rcases nY st with e0|⟨wQ,⟨k1,m1⟩,rfl⟩
 ·subst e0;have e:ws=[]:=Dj.mp (by rw[SA];rfl);subst e;refine qJ ?_;have:=fin H2 s2;rw[decide_eq_true (inv.mp (by simp))]at this;exact this
 rw[bI,List.map_singleton]at Q9;obtain⟨Al,xv,rfl,Zt,rx⟩:=Q9.snoc;have Yn:iH (wQ++[(k1,m1)])=iH wQ + (c7 k1 + c7 m1):=by rw[oH];simp only[iH];omega
 have tr:(!(Al++[xv]).isEmpty)=true:=by simp
 rw[tr];refine uT ?_
 refine⟨λdI H'=>∃yq Zy y3,iH yq<iH (wQ++[(k1,m1)])/\dI=[some v,some u,some (.ref wa),y3]/\bK H H'/\H' wa=some (.lst Zy)/\bB K H' (yq.map HP) Zy/\iH yq<=100000/\((∀x∈yq,x.1=x.2)↔k=m),
  λdI H' ⟨yq,Zy,y3,a1,a2,a3,a4,a5,a6,a7⟩=>⟨_,a1,yq,Zy,y3,rfl,a2,a3,a4,a5,a6,a7⟩,?_⟩
 refine⟨_,rfl,.inl ⟨rfl,_,fU.of hw⟩,wa,_,xv,rfl,rfl,hw,by simp,?_⟩;rw[hW];have b3:SameBut wa H2 (upd H2 wa (.lst Al)):=SameBut.upd _;have t3:=b3.tup (K:=K) hw;have s3:bK H (upd H2 wa (.lst Al)):=rh s2 b3 nwa;have h3:(upd H2 wa (.lst Al)) wa=some (.lst Al):=aW;generalize upd H2 wa (.lst Al)=H3 at b3 t3 s3 h3 ⊢;obtain⟨a,x,y,rfl,ga,rx1,ry1⟩:=Hg (Rep.mono t3 _ _ rx);have rw3:=bB.mono t3 _ _ Zt;obtain⟨ka,bh,rfl,gk,rk⟩:=Jc rx1;obtain⟨ma,UT,rfl,gm,rm⟩:=Jc ry1;refine⟨_,rfl,a,_,_,_,rfl,rfl,ga,rfl,ka,_,_,.str (kw k1),rfl,rfl,gk,ix0 _ _,_,rfl,a,_,_,_,rfl,rfl,ga,rfl,ma,_,_,.str (kw m1),rfl,rfl,gm,ix0 _ _,rfl,_,rfl,Gc (λc1=>?_) (λc1=>?_)⟩
 ·have Jx:¬kw k1=kw m1:=λe=>by
   rw[decide_eq_true (congrArg V.str e)]at c1;exact absurd c1 (by decide)
  have hkm:¬k=m:=λe=>by
   have:=inv.mpr e (k1,m1) (by simp);exact Jx (congrArg kw this)
  have:=fin H3 s3;rw[decide_eq_false hkm]at this;exact this
 ·have Zz:kw k1=kw m1:=by
   have c2:(!decide (V.str (kw k1)=V.str (kw m1)))=false:=vD.mpr c1;have c3:decide (V.str (kw k1)=V.str (kw m1))=true:=by simpa using c2
   exact V.str.inj (of_decide_eq_true c3)
  have Wp:=LV Zz;have lk:bh.length=(kC k1).length:=by rw[rk.length,ay]
  have lm:UT.length=(kC m1).length:=by rw[rm.length,ay]
  have NV:=Em Zz;have hkz:=yP ((kC k1).zip (kC m1));have af1:=yP wQ;have zl:((kC k1).zip (kC m1)).length=(kC k1).length:=by rw[qO,Wp,Nat.min_self]
  refine⟨_,rfl,.inl ⟨rfl,_,fU.of h3⟩,_,rfl,a,_,_,_,rfl,rfl,ga,rfl,_,rfl,ka,_,rfl,gk,?_,λp4 n4=>?_⟩
  ·rw[show(1:Int)=((1:Nat):Int)from rfl,HT.B6];intro z;have:=z.1;simp at this
  have s4:=bu n4 (.tup (sQ (.str (kw k1)::bh) (some 1) none));have h4:(upd H3 p4 (.tup (sQ (.str (kw k1)::bh) (some 1) none))) p4=some (.tup bh):=by rw[aW,Ym]
  generalize upd H3 p4 (.tup (sQ (.str (kw k1)::bh) (some 1) none))=H4 at s4 h4 ⊢;have t4:=bq.of_same (K:=K) s4;refine⟨_,rfl,a,_,_,_,rfl,rfl,t4 _ _ ga,rfl,_,rfl,ma,_,rfl,t4 _ _ gm,?_,λp5 n5=>?_⟩
  ·rw[show(1:Int)=((1:Nat):Int)from rfl,HT.B6];intro z;have:=z.1;simp at this
  have s5:=bu n5 (.tup (sQ (.str (kw m1)::UT) (some 1) none));have h5:(upd H4 p5 (.tup (sQ (.str (kw m1)::UT) (some 1) none))) p5=some (.tup UT):=by rw[aW,Ym]
  generalize upd H4 p5 (.tup (sQ (.str (kw m1)::UT) (some 1) none))=H5 at s5 h5 ⊢;have t5:=bq.of_same (K:=K) s5;have s35:=s4.trans s5;refine⟨p4,p5,bh,UT,rfl,fF.of (s5 _ _ h4),fF.of h5,?_⟩;refine LM (λ(i:Nat)(zs:List V)(H6:Hp)=>bK H5 H6/\zs.length=i/\∀(j:Nat)(z:V),zs[j]?=some z->∃(p:aj)(x y:V),z=V.ref p/\fF K H6 p [x,y]/\bh[j]?=some x/\UT[j]?=some y)
   (by rw[lk,lm,Wp]) (xr (by omega)) ⟨bK.refl _,rfl,λj z hj=>by simp at hj⟩ (λi zs H6 ⟨sm,hl,_⟩=>⟨fF.of (sm _ _ (s5 _ _ h4)),fF.of (sm _ _ h5),hl⟩) ?_ ?_
  ·rintro i zs H6 p x y ⟨sm,hl,hp⟩ hx hy np;have s6:=bu np (.tup [x,y]);refine⟨sm.trans s6,by rw[aL,hl];rfl,λj z hj=>?_⟩;by_cases i9:j<zs.length
   ·rw[aK i9]at hj;obtain⟨p',x',y',e1,e2,e3,e4⟩:=hp j z hj;exact⟨p',x',y',e1,bq.of_same (K:=K) s6 _ _ e2,e3,e4⟩
   ·rw[aP (by omega)]at hj;have e0:j=zs.length:=by
     rcases Nat.eq_or_lt_of_le (xH i9)with z|z
     ·exact z.symm
     ·rw[fB (by simp;omega)]at hj;cases hj
    rw[e0,nB]at hj;cases hj;rw[e0,hl];exact⟨p,x,y,rfl,fF.of aW,hx,hy⟩
  ·rintro zs H6 ⟨sm,hl,hp⟩ qd nqd;have s7:=bu nqd (.lst zs);have s37:=(s35.trans sm).trans s7;have Yo:(upd H6 qd (.lst zs)) wa=some (.lst Al):=s37 _ _ h3;have af2:Al.length=wQ.length:=by rw[rw3.length,ay]
   refine⟨wa,qd,Al,zs,rfl,rfl,Yo,aW,fj (xr (by omega)),?_⟩;have b8:SameBut wa (upd H6 qd (.lst zs)) (upd (upd H6 qd (.lst zs)) wa (.lst (Al++zs))):=SameBut.upd _;have t8:=b8.tup (K:=K) Yo;have t38:=(bq.of_same (K:=K) s37).trans t8;have t68:=(bq.of_same (K:=K) s7).trans t8;refine⟨wQ++(kC k1).zip (kC m1),_,_,by rw[Yn,oH];omega,rfl,rh (s3.trans s37) b8 nwa,aW,?_,by rw[oH];omega,?_⟩
   ·rw[bI];refine(bB.mono t38 _ _ rw3).append (Fb Wp (bB.mono t38 _ _ rk) (bB.mono t38 _ _ rm) (by rw[hl,lk]) λj z hj=>?_);obtain⟨p',x',y',e1,e2,e3,e4⟩:=hp j z hj;exact⟨p',x',y',e1,t68 _ _ e2,e3,e4⟩
   ·rw[<-inv];constructor
    ·intro h x hx;rcases bj.mp hx with hx|hx
     ·exact h x (bZ _ hx)
     ·rw[aM.mp hx];exact(HQ Zz).mp λz hz=>h z (az _ hz)
    ·intro h x hx;rcases bj.mp hx with hx|hx
     ·exact h x (bZ _ hx)
     ·exact(HQ Zz).mpr (h (k1,m1) (by simp)) x hx
theorem Hh:b5 ["part","number","known","inner"] ["part","number","known"] (aJ jS):=⟨rfl,rfl,rfl,by symm,rfl,by symm,by symm⟩
theorem Yp{H:Hp}{a p:aj}{sc:List (Str×Kd)}(h:wX K H a sc)(np:H p=none):∃bh,H a=some (.dK bh)/\bh.length<=sc.length/\(∀x,look sc x=none->iP bh (.inr x)=none)/\
  ∀x k,look sc x=some k->∃v,iP bh (.inr x)=some v/\Rep K (upd H p (.dK bh)) (eW k) v:=by
 obtain⟨bh,e,l,n,r⟩:=h.ex;exact⟨bh,e,l,n,λx k q=>let⟨v,h1,h2⟩:=r x k q;⟨v,h1,Rep.mono (bq.of_same (bu np _)) _ _ h2⟩⟩
theorem UU{f:aj}{fd:be}(F:jP K "scope_within" "scope_within" jS f fd)(zQ:mg "dict"=none):fi P w K mg base kx 1 f fd ["part","number","known"] (HR K):=by
 refine F.ok Hh (λvs H Q E h=>?_) (λeR A outer s H vs Q E hr h=>?_)
 ·obtain⟨v,a,t,i,sc,JJ,rfl,_⟩:=h;rfl
 obtain⟨v,a,t,i,sc,JJ,rfl,rt,Yq,hz,Dm,q⟩:=h;have hu:(A.deeper (fQ "scope_within" (aJ jS) s.heap.objs.size f eR)).units+1<cLine:=by have:=hr.units;omega
 refine⟨_,cE (j7 (kz yt (eO dX (pv 0) cS (λ_ _=>rfl)) tU (gP _))
   (cE (gO (i:=3) Hh.nd rfl (cm rfl) (jq yM rfl zQ mn (aO (pv 2) bD)))
   (cE (uS hu (pv 3) (eO dX (eO dX (pv 0) cS (λ_ _=>rfl)) cS (λ_ _=>rfl)) (eO dX (eO dX (pv 0) cS (λ_ _=>rfl)) cS (λ_ _=>rfl)) rfl)
   (di (iq (pv 3))))) jN)
  (cE (j7 (PW.pt (FK (kz yt (eO dX (pv 0) cS (λ_ _=>rfl)) tU (gP _)) (Ht (kz yt (pv 1) cS (gP _)))))
   (cE (gO (i:=3) Hh.nd rfl (cm rfl) (jq yM rfl zQ mn (aO (pv 2) bD)))
   (cE (uS hu (pv 3) (eO dX (eO dX (pv 0) cS (λ_ _=>rfl)) cS (λ_ _=>rfl)) (eO dX (eO dX (pv 0) cS (λ_ _=>rfl)) cS (λ_ _=>rfl)) rfl)
   (cE (uS hu (pv 3) (eO dX (eO dX (pv 0) cS (λ_ _=>rfl)) cS (λ_ _=>rfl)) SQ rfl)
   (di (iq (pv 3)))))) jN)
  (di (iq (pv 2)))),?_⟩
 obtain⟨a1,b1,c1,ms,os,rfl,g1,g2,g3,g4,g5⟩:=uW rt;refine⟨_,rfl,a1,_,_,.str t.lO.1,rfl,rfl,g1,rfl,rfl,_,rfl,Gc (λc=>?_) (λc=>?_)⟩
 ·have e0:t.lO.1 = "fun":=V.str.inj (of_decide_eq_true c);obtain⟨x,k,em,rfl⟩:=Dm.fn e0;rw[em]at g3;obtain⟨y1,r1,rfl,q1,g3⟩:=g3.split;obtain⟨y2,r2,rfl,q2,g3⟩:=g3.split;rw[bB]at g3;subst g3;obtain rfl:=q1.cY;obtain⟨bh,ea,el,en,er⟩:=Yq.ex;refine⟨_,rfl,a,bh,rfl,ea,λp np=>?_⟩;have s1:=bu np (.dK bh);have t1:=bq.of_same (K:=K) s1;refine⟨_,rfl,a1,_,_,_,rfl,rfl,t1 _ _ g1,rfl,b1,_,_,y2,rfl,rfl,t1 _ _ g2,rfl,_,rfl,_,rfl,a1,_,_,_,rfl,rfl,t1 _ _ g1,rfl,b1,_,_,.str x,rfl,rfl,t1 _ _ g2,rfl,p,_,rfl,yB.k (k:=.inr x) aW (cH el (cH hz (by decide))),?_⟩;refine⟨_,rfl,q p _ (λb o hb=>?_) (wX.put aW el en (λx k h=>let⟨v,h1,h2⟩:=er x k h;⟨v,h1,Rep.mono t1 _ _ h2⟩) (Rep.mono t1 _ _ q2))⟩;rw[bP (cn hb np),bP (cn hb np)];exact hb
 have n0:t.lO.1≠"fun":=λe=>by rw[e]at c;exact c (decide_eq_true rfl)
 refine⟨_,rfl,a1,_,_,.str t.lO.1,rfl,rfl,g1,rfl,rfl,_,rfl,Gc (λc2=>?_) (λc2=>?_)⟩
 ·have e0:t.lO.1 = "case":=V.str.inj (of_decide_eq_true c2);refine⟨_,rfl,rfl,_,rfl,Gc (λc3=>?_) (λc3=>?_)⟩
  ·have ei:i=2:=V.int.inj (of_decide_eq_true c3);obtain⟨k,h,tl,em,rfl⟩:=Dm.case e0 ei;rw[em]at g3;obtain⟨y1,r1,rfl,q1,g3⟩:=g3.split;obtain⟨y2,r2,rfl,q2,g3⟩:=g3.split;obtain⟨y3,r3,rfl,q3,g3⟩:=g3.split;rw[bB]at g3;subst g3;obtain rfl:=q2.cY;obtain rfl:=q3.cY;obtain⟨bh,ea,el,en,er⟩:=Yq.ex;refine⟨_,rfl,a,bh,rfl,ea,λp np=>?_⟩;have s1:=bu np (.dK bh);have t1:=bq.of_same (K:=K) s1;have S3:bh.length<av:=cH el (cH hz (by decide));refine⟨_,rfl,a1,_,_,_,rfl,rfl,t1 _ _ g1,rfl,b1,_,_,y1,rfl,rfl,t1 _ _ g2,rfl,_,rfl,_,rfl,a1,_,_,_,rfl,rfl,t1 _ _ g1,rfl,b1,_,_,.str h,rfl,rfl,t1 _ _ g2,rfl,p,_,rfl,yB.k (k:=.inr h) aW S3,?_⟩;have D1:=wX.put (K:=K) (y:=h) (k:=k) (v:=y1) (a:=p) aW el en (λx k h=>let⟨v,h1,h2⟩:=er x k h;⟨v,h1,Rep.mono t1 _ _ h2⟩) (Rep.mono t1 _ _ q1);have s2:bK H (upd (upd H p (.dK bh)) p (.dK (putK bh (.inr h) y1))):=λb o hb=>by rw[bP (cn hb np),bP (cn hb np)];exact hb
   generalize upd (upd H p (.dK bh)) p (.dK (putK bh (.inr h) y1))=H2 at D1 s2 ⊢;have t2:=bq.of_same (K:=K) s2;have rex:Rep K H2 (.tuple [.str t.lO.1,.tuple [eW k,.str h,.str tl],.tuple (t.own.map py)]) (.ref a1):=by rw[<-em,<-QA];exact Rep.mono t2 _ _ rt
   refine⟨_,Lx (uU SR (uU (Qz (Qz (Gp 0 rfl rex) Lw (show oZ _ ((1:Nat):Int)=some (eG [eW k,.str h,.str tl])from gp rfl) (λ_ _=>rfl)) Lw (show oZ _ ((0:Nat):Int)=some (eW k)from gp rfl) (λ_ _=>rfl)) Gq)),λv3 H3 s3 r3=>?_⟩;obtain⟨kv3,e3,l3,n3,T1⟩:=(D1.mono s3).ex;have t3:=t2.trans (bq.of_same s3);have np3:H p=none:=np;have hl3:kv3.length<av:=by rw[aL]at l3;simp at l3;exact cH l3 (cH (Nat.add_le_add_right hz 1) (by decide))
   refine⟨_,rfl,_,rfl,a1,_,_,_,rfl,rfl,t3 _ _ g1,rfl,b1,_,_,.str tl,rfl,rfl,t3 _ _ g2,rfl,p,_,rfl,yB.k (k:=.inr tl) e3 hl3,?_⟩;refine⟨_,rfl,q p _ (λb o hb=>?_) (wX.put e3 l3 n3 T1 (k:=.list k) (by show Rep K H3 (.tuple [.str "list",eW k]) v3;exact r3))⟩;rw[bP (cn hb np)];exact s3 _ _ (s2 _ _ hb)
  ·have ni:i≠2:=λe=>by rw[e]at c3;exact c3 (decide_eq_true rfl)
   obtain rfl:=Dm.other n0 λ_=>ni;exact⟨_,rfl,q a H (bK.refl H) Yq⟩
 ·have n1:t.lO.1≠"case":=λe=>by rw[e]at c2;exact c2 (decide_eq_true rfl)
  obtain rfl:=Dm.other n0 λe=>absurd e n1;exact⟨_,rfl,q a H (bK.refl H) Yq⟩
theorem UW:b5 ["part","own"] ["part","own"] (aJ kL):=⟨rfl,rfl,rfl,by symm,rfl,by symm,by symm⟩
theorem UX:oG ["part","own"] (aJ kL) (GJ kL 5) "kind":=⟨rfl,by symm,by symm,rfl,by symm,by symm,by symm⟩
theorem UY{f:aj}{fd:be}(F:jP K "due_kinds" "due_kinds" kL f fd)(C:yX K mg):fi P w K mg base kx 1 f fd ["part","own"] (gr K XF):=by
 refine F.vz UW (λas r h=>?_) (λeR A outer s H E as r hr h=>?_)
 ·obtain⟨b,o,ks,rfl,_⟩:=h;exact⟨rfl,by simp⟩
 obtain⟨b,o,ks,rfl,hl,hc,rfl⟩:=h;show VS _ _ [.d _,.l _] _;cases b with
 |add=>
  refine cz (dQ (by left) (by left) (by with_unfolding_all rfl)) (by rfl) ?_;exact bR (gq (aQ (vY C) (aQ (vY C) cF))) (.inl rfl)
 |less=>
  refine cz (dQ (by left) (by left) (by with_unfolding_all rfl)) (by rfl) ?_;exact bR (gq (aQ (vY C) (aQ (vY C) cF))) (.inl rfl)
 |OX=>
  obtain⟨k1,k2,k3,rfl⟩:=OZ hl;refine bt (dQ (by left) (by left) (by with_unfolding_all rfl)) (by rfl) ?_;refine cz (by left) (by rfl) ?_;exact bR (gq (aQ (yY C) (by left))) (.inl rfl)
 |front=>
  obtain⟨k1,k2,rfl⟩:=L9 hl;refine bt (dQ (by left) (by left) (by with_unfolding_all rfl)) (by rfl) ?_;refine bt (by left) (by rfl) ?_;refine cz (by left) (by rfl) ?_;exact bR (by left) (.inl rfl)
 |case k h t=>
  obtain⟨k1,k2,k3,rfl⟩:=OZ hl;refine bt (dQ (by left) (by left) (by with_unfolding_all rfl)) (by rfl) ?_;refine bt (by left) (by rfl) ?_;refine bt (by left) (by rfl) ?_;refine cz (by left) (by rfl) ?_;exact bR (by left) (.inl rfl)
 |call=>
  obtain⟨k1,k2,rfl⟩:=L9 hl;obtain⟨k,m,r,e⟩:=hc rfl;cases e;refine bt (dQ (by left) (by left) (by with_unfolding_all rfl)) (by rfl) ?_;refine bt (by left) (by rfl) ?_;refine bt (by left) (by rfl) ?_;refine bt (by left) (by rfl) ?_;refine cz (by left) (by rfl) ?_;exact bR (by left) (.inl rfl)
 |_=>
  refine bt (dQ (by left) (by left) (by with_unfolding_all rfl)) (by rfl) ?_;refine bt (by left) (by rfl) ?_;refine bt (by left) (by rfl) ?_;refine bt (by left) (by rfl) ?_;refine bt (by left) (by rfl) ?_;have hz:ks.length<=av:=aX (by rw[hl];exact fL rfl) (by decide:3<=av)
  exact bR (Cq (ys:=(ks.map λ_=>PyData.none)) rfl UX (HY rfl rfl) (by simp) (by simpa using hz) λi a y h1 h2 cl C s0 H0 fp pins=>by
   rw[aw]at h2;cases q:ks[i]? with
   |none=>rw[q]at h2;cases h2
   |some z=>rw[q]at h2;cases h2;exact yS) (.inl (by simp[kZ,nM]))
theorem UZ:b5 ["part","own","known"] ["part","own","known"] (aJ jT):=⟨rfl,rfl,rfl,by symm,rfl,by symm,by symm⟩
theorem U0{f:aj}{fd:be}(F:jP K "kind_by_rule" "kind_by_rule" jT f fd)(C:yX K mg):fi P w K mg base kx 1 f fd ["part","own","known"] (gr K (QQ K)):=by
 refine F.vz UZ (λas r h=>?_) (λeR A outer s H E as r hr h=>?_)
 ·obtain⟨b,o,ks,sc,rfl,_⟩:=h;exact⟨rfl,by simp⟩
 obtain⟨b,o,ks,sc,rfl,hl,hb,rfl⟩:=h;show VS _ _ [.d _,.l _,.h _] _;have hu:(A.deeper (fQ "kind_by_rule" (aJ jT) s.heap.objs.size f eR)).units+1<cLine:=HG hr;cases b with
 |num i=>exact cz (dQ (by left) (by left) (by with_unfolding_all rfl)) (by rfl) (bR (vY C) (.inl rfl))
 |add=>exact cz (dQ (by left) (by left) (by with_unfolding_all rfl)) (by rfl) (bR (vY C) (.inl rfl))
 |truth i=>
  refine bt (dQ (by left) (by left) (by with_unfolding_all rfl)) (by rfl) ?_;exact cz (dQ (by left) (by left) (by with_unfolding_all rfl)) (by rfl) (bR (yY C) (.inl rfl))
 |less=>
  refine bt (dQ (by left) (by left) (by with_unfolding_all rfl)) (by rfl) ?_;exact cz (dQ (by left) (by left) (by with_unfolding_all rfl)) (by rfl) (bR (yY C) (.inl rfl))
 |name x=>
  refine bt (dQ (by left) (by left) (by with_unfolding_all rfl)) (by rfl) ?_;refine bt (dQ (by left) (by left) (by with_unfolding_all rfl)) (by rfl) ?_;cases q:look sc x with
  |none=>simp[eZ,q]at hb
  |some k=>exact cz (by left) (by rfl) (bR (L6 hu (by left) (by left) q) (.inl (by simp[j8,q])))
 |nil k=>
  refine bt (dQ (by left) (by left) (by with_unfolding_all rfl)) (by rfl) ?_;refine bt (dQ (by left) (by left) (by with_unfolding_all rfl)) (by rfl) ?_;refine bt (by left) (by rfl) ?_;exact cz (by left) (by rfl) (bR (by left) (.inl rfl))
 |fn x k=>
  obtain⟨k1,rfl⟩:=ac2 hl;refine bt (dQ (by left) (by left) (by with_unfolding_all rfl)) (by rfl) ?_;refine bt (dQ (by left) (by left) (by with_unfolding_all rfl)) (by rfl) ?_;refine bt (by left) (by rfl) ?_;refine bt (by left) (by rfl) ?_;exact cz (by left) (by rfl) (bR (by left) (.inl rfl))
 |call=>
  obtain⟨k1,k2,rfl⟩:=L9 hl;cases k1 with
  |to k m=>
   refine bt (dQ (by left) (by left) (by with_unfolding_all rfl)) (by rfl) ?_;refine bt (dQ (by left) (by left) (by with_unfolding_all rfl)) (by rfl) ?_;refine bt (by left) (by rfl) ?_;refine bt (by left) (by rfl) ?_;refine bt (by left) (by rfl) ?_;exact cz (by left) (by rfl) (bR (by left) (.inl rfl))
  |_=>simp[eZ,Kd.arg]at hb
 |front=>
  obtain⟨k1,k2,rfl⟩:=L9 hl;refine bt (dQ (by left) (by left) (by with_unfolding_all rfl)) (by rfl) ?_;refine bt (dQ (by left) (by left) (by with_unfolding_all rfl)) (by rfl) ?_;refine bt (by left) (by rfl) ?_;refine bt (by left) (by rfl) ?_;refine bt (by left) (by rfl) ?_;refine bt (by left) (by rfl) ?_;exact bR (by left) (.inl rfl)
 |OX=>
  obtain⟨k1,k2,k3,rfl⟩:=OZ hl;refine bt (dQ (by left) (by left) (by with_unfolding_all rfl)) (by rfl) ?_;refine bt (dQ (by left) (by left) (by with_unfolding_all rfl)) (by rfl) ?_;refine bt (by left) (by rfl) ?_;refine bt (by left) (by rfl) ?_;refine bt (by left) (by rfl) ?_;refine bt (by left) (by rfl) ?_;exact bR (by left) (.inl rfl)
 |case k x y=>
  obtain⟨k1,k2,k3,rfl⟩:=OZ hl;refine bt (dQ (by left) (by left) (by with_unfolding_all rfl)) (by rfl) ?_;refine bt (dQ (by left) (by left) (by with_unfolding_all rfl)) (by rfl) ?_;refine bt (by left) (by rfl) ?_;refine bt (by left) (by rfl) ?_;refine bt (by left) (by rfl) ?_;refine bt (by left) (by rfl) ?_;exact bR (by left) (.inl rfl)
theorem Nz:b5 ["part","own","known","number","due"] ["part","own","known"] (aJ fY):=⟨rfl,rfl,rfl,by symm,rfl,by symm,by symm⟩
theorem U1{f:aj}{fd:be}(F:jP K "breach_of_rule" "breach_of_rule" fY f fd)(B:Plain mg)(DS:cK P w K mg base 1 "same_kind" ["first","second"] (gr K QP))(DD:cK P w K mg base 1 "due_kinds" ["part","own"] (gr K XF)):
  fi P w K mg base kx 2 f fd ["part","own","known"] (gr K (Ib K)):=by
 refine F.vz Nz (λas r h=>?_) (λeR A outer s H E as r hr h=>?_)
 ·obtain⟨b,o,ks,sc,rfl,_⟩:=h;exact⟨rfl,by simp⟩
 obtain⟨b,o,ks,sc,rfl,hl,NV,Wv,rfl⟩:=h;show VS _ _ [.d _,.l _,.h _,.un,.un] _;have hu:(A.deeper (fQ "breach_of_rule" (aJ fY) s.heap.objs.size f eR)).units+1<cLine:=HG hr;have loop:eZ b ks sc=mf b ks->(b = .call->∃k m r,ks = .to k m::r)->VS (pW kx P w K mg base ["part","own","known","number","due"] "breach_of_rule" (aJ fY) f eR A outer s H E).Dy (List.drop 2 (eS fY)) [.d (py (ex (.node b o))),.l (ks.map eW),.h (wZ K sc),.un,.un] λo=>o = .rt (.d (Ks (eZ b ks sc)))\/(Sl.d (Ks (eZ b ks sc)) = .d .none/\∃ρ,o = .nx ρ):=by
  intro hb hc;have hdl:=L8 hl;refine kF bF rfl (L4 B.enumerate (bG DD hr (aA (by left) (aA (by left) bV)) ⟨b,o,ks,rfl,hl,hc,rfl⟩)) (HZ Nz.nd rfl rfl rfl)
   (λi ρ=>∃x y,ρ=[.d (py (ex (.node b o))),.l (ks.map eW),.h (wZ K sc),x,y]/\gh i ((kZ b ks).drop i) (ks.drop i)=gh 0 (kZ b ks) ks) ⟨_,_,rfl,rfl⟩ ?_ ?_
  ·rintro i d eM hd ⟨x,y,rfl,hf⟩;have hi:i<(kZ b ks).length:=by
    have:=(ak.mp hd).1;rw[mM,ay]at this;exact this
   have hik:i<ks.length:=by omega
   have hgd:((kZ b ks).map nM)[i]?=some (nM (kZ b ks)[i]):=by rw[aw,ag hi];rfl
   rw[vW 0 _ i _ hgd,jD]at hd;cases hd;refine⟨_,rfl,?_⟩;have P7:(kZ b ks)[i]∈kZ b ks:=pQ hi;rw[dW hi,dW hik]at hf;have hkm:=NV _ (pQ hik);generalize (kZ b ks)[i]=od at hf P7 ⊢;have xE:oZ (ks.map eW) (i:Int)=some (eW ks[i]):=gp (by rw[aw,ag hik];rfl);generalize ks[i]=k at hf hkm xE;cases od with
   |none=>
    rw[gh]at hf;exact bt (hX (sr (bW (sk (by left)) (by rfl)))) rfl (cg ⟨_,_,rfl,hf⟩)
   |some m=>
    have hm:=GI NV Wv P7;rw[gh]at hf
    refine HX (hX (kE (bW (sk (ra:=.d (eW m)) (by left)) (by rw[Ti];rfl))
     (lP (qc (i6 (bG DS hr (aA (by left) (aA (gC (by left) (by left) rfl xE) bV)) ⟨m,k,rfl,by omega,rfl⟩)))))) (λh=>?_) (λh=>?_)
    ·have Jx:m≠k:=by simpa using h
     rw[if_neg Jx]at hf;refine bR (dP (aQ (by left) (aQ (by left) (aQ (gC (by left) (by left) rfl xE) cF)))) (.inl ?_);rw[hb,mf,<-hf];rfl
    ·have heq:m=k:=by simpa using h
     rw[if_pos heq]at hf;exact cg (cg ⟨_,_,rfl,hf⟩)
  ·rintro eM ⟨x,y,rfl,hf⟩;rw[mM,ay,kX (au _)]at hf;refine bR (by left) (.inl ?_);rw[hb,mf,<-hf];cases List.drop (kZ b ks).length ks<;>rfl
 cases b with
 |name x=>
  refine HX (hX (kE (bW (by left) (by rfl)) (lP (L7 hu (by left) (by left) (by with_unfolding_all rfl))))) (λh=>?_) (λh=>?_)
  ·refine bR (by left) (.inl ?_);have:(look sc x).isSome=false:=by simpa using h
   simp only[eZ,this];rfl
  ·have hs:(look sc x).isSome=true:=by simpa using h
   refine cg (bt (hX (sr (bW (by left) (by rfl)))) rfl (loop (vZ (λy e=>by cases e;exact hs) (λe=>nomatch e)) λe=>nomatch e))
 |call=>
  obtain⟨k1,k2,rfl⟩:=L9 hl;refine bt (hX (sr (bW (by left) (by rfl)))) rfl ?_;cases k1 with
  |to k m=>exact bt (hX (kE (bW (by left) (by rfl)) (lP (by left)))) (by rfl) (loop (vZ (λy e=>nomatch e) (λ_=>⟨k,m,_,rfl⟩)) λ_=>⟨k,m,_,rfl⟩)
  |num=>exact cz (hX (kE (bW (by left) (by rfl)) (lP (by left)))) (by rfl) (bR (by left) (.inl rfl))
  |truth=>exact cz (hX (kE (bW (by left) (by rfl)) (lP (by left)))) (by rfl) (bR (by left) (.inl rfl))
  |list k=>exact cz (hX (kE (bW (by left) (by rfl)) (lP (by left)))) (by rfl) (bR (by left) (.inl rfl))
 |_=>exact bt (hX (sr (bW (by left) (by rfl)))) rfl (bt (hX (sr (bW (by left) (by rfl)))) rfl (loop (vZ (λy e=>nomatch e) (λe=>nomatch e)) λe=>nomatch e))
theorem zR:b5 ["pairs","scope","scopes","place","part","number"] ["pairs","scope"] (aJ iK):=⟨rfl,rfl,rfl,by symm,rfl,by symm,by symm⟩
theorem U2{f:aj}{fd:be}(F:jP K "scopes_by_place" "scopes_by_place" iK f fd)(B:Plain mg)(zQ:mg "dict"=none)(DW:cK P w K mg base 1 "scope_within" ["part","number","known"] (HR K)):fi P w K mg base kx 2 f fd ["pairs","scope"] (Er K):=by
 refine F.ok zR (λvs H Q E h=>?_) (λeR A outer s H vs Q E hr h=>?_)
 ·obtain⟨r,q,ps,qs,e,sc,rfl,_⟩:=h;rfl
 obtain⟨r,q,ps,qs,e,sc,rfl,tok,hz,Wq,hps,hq0,hqs,Yq,fin⟩:=h;have hu:(A.deeper (fQ "scopes_by_place" (aJ iK) s.heap.objs.size f eR)).units+1<cLine:=HG hr
 refine⟨_,cE (gO (i:=2) zR.nd rfl (cm rfl) (LU hu (@me _ _ _ _ _ bD) (jq (Gx rfl) rfl zQ mn (aO (pv 1) bD))))
  (cE (vI bF rfl (SM rfl B.reversed (aO (pv 0) bD)) (yo rfl (jI (i5 (i:=3) zR.nd rfl (cm rfl)) (jI (i5 (i:=4) zR.nd rfl (cm rfl)) uM)))
   (di (vI bF rfl (vG rfl B.range (aO (gf eY rfl B.len eA (aO (eO dX (pv 4) cS (λ_ _=>rfl)) bD)) bD)) (i5 (i:=5) zR.nd rfl (cm rfl))
    (di (uS hu (pv 2) (DV rg (pv 3) (me (aO (pv 5) bD))) (iQ DW hr rfl (aO (pv 4) (aO (pv 5) (aO (uR hu (pv 2) (pv 3) (λ_ _=>rfl)) bD)))) rfl)))))
  (di (iq (pv 2)))),?_⟩
 have xr:∀{n:Nat},n<=1000001->n<av:=λh=>cH h (by decide);intro s0 n0;have s1:=bu n0 (.dT []);have Yn:(upd H s0 (.dT [])) s0=some (.dT []):=aW;generalize upd H s0 (.dT [])=H1 at s1 Yn ⊢;refine⟨by show 0<=av;decide,λp2 n2=>?_⟩;have s2:=bu n2 (.tup []);have Sw:(upd H1 p2 (.tup [])) p2=some (.tup []):=aW;generalize upd H1 p2 (.tup [])=H2 at s2 Sw ⊢;have s02:=s1.trans s2;obtain⟨dk,P,hdl,SD⟩:=xa (bB.mono (bq.of_same s02) _ _ hqs);refine⟨_,rfl,q,qs,dk,rfl,fU.of (s02 _ _ hq0),P,by omega,λp3 n3=>?_⟩;have s3:=bu n3 (.dK (mT [] dk));have Zd:wX K (upd H2 p3 (.dK (mT [] dk))) p3 sc:=wX.of aW (by have:=(SD [] [] Kt.nil).mono s3;rwa[eI]at this);generalize upd H2 p3 (.dK (mT [] dk))=H3 at s3 Zd ⊢;have s03:=s02.trans s3;refine⟨s3 _ _ (s2 _ _ Yn),p2,[],.ref p3,rfl,s3 _ _ Sw,?_⟩;have hs3:=s3 _ _ (s2 _ _ Yn);have hb4:∀b o,b≠s0->H3 b=some o->(upd H3 s0 (.dT (putK [] [] (.ref p3)))) b=some o:=λb o n h=>by rw[bP n];exact h
 have s4:bK H (upd H3 s0 (.dT (putK [] [] (.ref p3)))):=λb o h=>hb4 b o (cn h n0) (s03 b o h);have sc4:QR K (upd H3 s0 (.dT (putK [] [] (.ref p3)))) (putK [] (kP []) (.ref p3)) e sc (λp=>p=[]):=by
  intro p hp;subst hp;exact⟨p3,by rw[jJ,if_pos rfl],by rw[pk];exact Zd.GL hs3⟩
 have pr4:jt K (upd H3 s0 (.dT (putK [] [] (.ref p3)))) (ex e).post ps:=(hps.ext (Ext.of_same s03)).GL hs3;have hs4:(upd H3 s0 (.dT (putK [] [] (.ref p3)))) s0=some (.dT (putK [] (kP []) (.ref p3))):=aW;have hl4:(putK ([]:List (List Key×V)) (kP []) (.ref p3)).length<=1:=iF _ _ _;generalize upd H3 s0 (.dT (putK [] [] (.ref p3)))=H4 at s4 sc4 pr4 hs4 ⊢;have kY:ps.length=(ex e).post.length:=hps.1;have QH:(ex e).post.length=e.size:=by rw[cZ,Cr]
 refine⟨_,rfl,r,ps,rfl,fU.of (s4 _ _ Wq),OC (xs:=ps) (λi σ H5=>∃x3 x4 x5 bh,σ=[some (.ref r),some (.ref q),some (.ref s0),x3,x4,x5]/\bK H H5/\jt K H5 (ex e).post ps/\H5 s0=some (.dT bh)/\bh.length<=1+3 * i/\
   QR K H5 bh e sc (λp=>p=[]\/∃(j:Nat)(q:List Nat)(t:Tm)(k:Nat),j<i/\e.post.reverse[j]?=some (q,t)/\k<t.own.length/\p=q++[k]))
  ⟨none,none,none,_,rfl,s4,pr4,hs4,by omega,λp hp=>sc4 p (hp.elim id (by rintro ⟨j,_,_,_,h,_⟩;exact absurd h (hV _)))⟩ (by rintro i σ H5 _ ⟨_,_,_,_,_,sm,_⟩;exact fU.of (sm _ _ Wq)) ?_ ?_⟩
 ·rintro i x σ H5 hi hx ⟨x3,x4,x5,bh,rfl,s5,pr5,hs5,hl5,ZA⟩;obtain⟨xx,P8,prx⟩:=pr5.get hx;rw[ya,aw]at P8;have hpi:ps.length - 1 - i<e.post.length:=by rw[cZ];omega
  rw[ag hpi]at P8;have Fw:e.post[ps.length - 1 - i]?=some e.post[ps.length - 1 - i]:=ag hpi;generalize e.post[ps.length - 1 - i]=y at P8 Fw;obtain⟨q0,t0⟩:=y;cases P8;have mW:=pY e _ (aI Fw);simp only at mW;have P9:=tok.at mW;have af3:=yJ (e:=ex e) (t:=ex t0) (p:=q0) (by rw[QO,mW];rfl);have Zf:=Cr e;have ad7:e.post.reverse[i]?=some (q0,t0):=by
   rw[gL (by rw[cZ];omega),<-Fw];congr 1;rw[cZ];omega
  obtain⟨a,pu,tv,rfl,ga,gu,Ra⟩:=prx;obtain⟨a1,b1,c1,ms,os,rfl,g1,g2,g3,g4,g5⟩:=uW Ra;have Wu:os.length=t0.own.length:=by rw[g5.length,ay,GH,ay]
  have h03:t0.own.length<=3:=by rw[P9.len];exact QS _
  have up:∃b,iP bh (kP q0)=some (.ref b)/\wX K H5 b (gD e q0 sc):=by
   refine ZA q0 ?_;rcases nY q0 with z|⟨q1,k1,z⟩
   ·exact .inl z
   ·right;subst z;rw[uV]at mW;cases LL:e.se q1 with
    |none=>rw[LL]at mW;cases mW
    |some t1=>
     rw[LL]at mW;have Yr:t1.own[k1]?=some t0:=mW;obtain⟨i',j',lt,e1,e2⟩:=y8 LL Yr;have ej:j'=ps.length - 1 - i:=Ic e2 Fw rfl;have Gr:i'<e.post.length:=(ak.mp e1).1;rw[cZ]at Gr;refine⟨e.size - 1 - i',q1,t1,k1,by omega,?_,(ak.mp Yr).1,rfl⟩;rw[gL (by rw[cZ];omega),cZ,<-e1];congr 1;omega
  obtain⟨b0,hb0,hsd⟩:=up;refine⟨a,_,rfl,ga,rfl,_,_,rfl,_,_,rfl,rfl,?_⟩;refine⟨_,rfl,a1,_,_,.ref c1,rfl,rfl,g1,rfl,c1,os,rfl,.inr g4,os.length,rfl,by omega,by omega,?_⟩;rw[gc]
  refine Jk (λj σ H6=>∃x5 bh,σ=[some (.ref r),some (.ref q),some (.ref s0),some (.ref pu),some (.ref a1),x5]/\bK H H6/\jt K H6 (ex e).post ps/\H6 s0=some (.dT bh)/\bh.length<=1+3 * i + j/\H6 pu=some (.tup ((kP q0).map kV))/\Rep K H6 (py (ex t0)) (.ref a1)/\
    (∃b,iP bh (kP q0)=some (.ref b)/\wX K H6 b (gD e q0 sc))/\
    QR K H6 bh e sc (λp=>(p=[]\/∃(j:Nat)(q:List Nat)(t:Tm)(k:Nat),j<i/\e.post.reverse[j]?=some (q,t)/\k<t.own.length/\p=q++[k])\/∃k,k<j/\p=q0++[k]))
   ⟨x5,bh,rfl,s5,pr5,hs5,by omega,gu,Ra,⟨b0,hb0,hsd⟩,λp hp=>ZA p (hp.elim id (by rintro ⟨k,h,_⟩;exact absurd h (hV _)))⟩ ?_ ?_
  ·rintro j σ H6 hj ⟨y5,Ys,rfl,s6,pr6,ZC,ZD,US,rt6,⟨b6,Yk,sd6⟩,sc6⟩;rw[Int.zero_add];have hjt:t0.own[j]?=some t0.own[j]:=ag (by omega);have gG:=Mb (sc:=sc) (p:=q0) (e:=e);refine⟨_,rfl,_,rfl,_,rfl,_,rfl,s0,.ref b6,rfl,by rw[<-Yk];exact tX.t ZC US,.ref a1,b6,ex t0,(j:Int),gD e q0 sc,ua t0.lO j (gD e q0 sc),rfl,rt6,sd6,by omega,by rw[Tf];exact Tj t0.lO j _,λb7 H7 s7 sd7=>?_⟩;refine⟨_,rfl,_,rfl,_,rfl,by show 1<=av;decide,λp8 n8=>?_⟩;have s8:=bu n8 (.tup [.int j]);have Yt:(upd H7 p8 (.tup [.int j])) p8=some (.tup [.int j]):=aW;generalize upd H7 p8 (.tup [.int j])=H8 at s8 Yt ⊢;have s68:=s7.trans s8;refine Ct (fF.of (s68 _ _ US)) Yt (by simp) (by simp[kP];exact fj (xr (by omega))) λp9 H9 s9 hp9=>?_;have BP:=s68.trans s9;have Ww:H9 p9=some (.tup ((kP (q0++[j])).map kV)):=by rw[hp9];simp[kP,kV]
   have U3:=BP _ _ ZC;refine⟨s0,_,rfl,yB.t U3 Ww (xr (by omega)),?_⟩;have sd9:=sd7.mono (s8.trans s9);refine⟨_,_,rfl,λb o h=>?_,(pr6.ext (Ext.of_same BP)).GL U3,aW,?_,?_,Rep.mono (O1 U3) _ _ (Rep.mono (bq.of_same BP) _ _ rt6),?_,?_⟩
   ·rw[bP (cn h n0)];exact BP b o (s6 b o h)
   ·have:=iF Ys (kP (q0++[j])) (.ref b7);omega
   ·rw[bP (qV (BP _ _ US) U3 (by intro z;cases z))];exact BP _ _ US
   ·refine⟨b6,?_,(sd6.mono BP).GL U3⟩;rw[jJ,if_neg (λz=>by have:=congrArg oS (Cu z);simp at this)];exact Yk
   ·have e1:gD e (q0++[j]) sc=ua t0.lO j (gD e q0 sc):=vX mW hjt;have sc9:QR K (upd H9 s0 (.dT (putK Ys (kP (q0++[j])) (.ref b7)))) Ys e sc _:=λp hp=>let⟨b,h1,h2⟩:=sc6 p hp;⟨b,h1,(h2.mono BP).GL U3⟩;refine sc9.put (by rw[e1];exact sd9.GL U3) λp hp=>?_;rcases hp with hp|⟨k,hk,rfl⟩
    ·exact .inr (.inl hp)
    ·rcases pL.mp hk with hk|rfl
     ·exact .inr (.inr ⟨k,hk,rfl⟩)
     ·exact .inl rfl
  ·rintro σ H6 ⟨y5,Ys,rfl,s6,pr6,ZC,ZD,US,rt6,_,sc6⟩;refine⟨_,_,_,Ys,rfl,s6,pr6,ZC,by omega,λp hp=>sc6 p ?_⟩;rcases hp with hp|⟨j,q,t,k,hj,e1,e2,rfl⟩
   ·exact .inl (.inl hp)
   ·rcases pL.mp hj with hj|rfl
    ·exact .inl (.inr ⟨j,q,t,k,hj,e1,e2,rfl⟩)
    ·rw[ad7]at e1;cases e1;exact .inr ⟨k,by omega,rfl⟩
 ·rintro σ H5 ⟨x3,x4,x5,bh,rfl,s5,pr5,hs5,hl5,ZA⟩;refine⟨_,rfl,fin s0 H5 bh s5 n0 hs5 λp hp=>ZA p ?_⟩;rcases nY p with z|⟨q1,k1,z⟩
  ·exact .inl z
  ·right;subst z;rw[uV]at hp;cases LL:e.se q1 with
   |none=>rw[LL]at hp;cases hp
   |some t1=>
    rw[LL]at hp;have SF:(t1.own[k1]?).isSome=true:=hp;obtain⟨i',e1⟩:=Ma LL;have Gr:i'<e.post.length:=(ak.mp e1).1;rw[cZ]at Gr;refine⟨e.size - 1 - i',q1,t1,k1,by omega,?_,by simpa using SF,rfl⟩;rw[gL (by rw[cZ];omega),cZ,<-e1];congr 1;omega
theorem rQ:b5 ["expr","scope","pairs","scopes","kinds","place","part","own","breach"] ["expr","scope"] (aJ lI):=⟨rfl,rfl,rfl,by symm,rfl,by symm,by symm⟩
theorem U4:oG ["expr","scope","pairs","scopes","kinds","place","part","own","breach"] (aJ lI) (Et lI 3 0) "number":=⟨rfl,by symm,by symm,rfl,by symm,by symm,by symm⟩
theorem U5{f:aj}{fd:be}(F:jP K "checked" "checked" lI f fd)(B:Plain mg)(DO:cK P w K mg base 1 "in_order" ["expr"] (Ep K))(DS:cK P w K mg base 2 "scopes_by_place" ["pairs","scope"] (Er K))(DB:cK P w K mg base 2 "breach_of_rule" ["part","own","known"] (gr K (Ib K)))(DK:cK P w K mg base 1 "kind_by_rule" ["part","own","known"] (gr K (QQ K))):fi P w K mg base kx 3 f fd ["expr","scope"] (Bn K):=by
 refine F.ok rQ (λvs H Q E h=>?_) (λeR A outer s H vs Q E hr h=>?_)
 ·obtain⟨v,q,qs,e,sc,rfl,_⟩:=h;rfl
 obtain⟨v,q,qs,e,sc,rfl,U6,re,hq0,hqs,fin⟩:=h;have tok:=U6.ar;have hz:=U6.size;have ad8:=U6.scl;have hu:(A.deeper (fQ "checked" (aJ lI) s.heap.objs.size f eR)).units+1<cLine:=HG hr
 refine⟨_,cE (gO (i:=2) rQ.nd rfl (cm rfl) (iQ DO (hr.mono (by decide)) rfl (aO (pv 0) bD)))
  (cE (gO (i:=3) rQ.nd rfl (cm rfl) (iQ DS hr rfl (aO (pv 2) (aO (pv 1) bD))))
  (cE (gO (i:=4) rQ.nd rfl (by first|exact cm rfl|exact cW rfl) K5)
  (cE (vI bF rfl (xS (pv 2)) (yo rfl (jI (i5 (i:=5) rQ.nd rfl (by first|exact cm rfl|exact cW rfl)) (jI (i5 (i:=6) rQ.nd rfl (cm rfl)) uM)))
   (cE (Gh (i:=7) (te:=Qt (FI 5) (V6 (Cd K) (FI 6) (KQ (DY (FI 0) Sh)))) rfl U4 rQ.nd rfl rfl (vG rfl B.range (aO (gf eY rfl B.len eA (aO (eO dX (pv 6) cS (λ_ _=>rfl)) bD)) bD))
    (λcl C s0 H0 fp pins=>uR hu (pv 5) (DV rg (pv 6) (me (aO (pv 0) bD))) (λ_ _=>rfl)) rfl)
   (cE (gO (i:=8) rQ.nd rfl (cm rfl) (iQ DB hr rfl (aO (pv 6) (aO (pv 7) (aO (uR hu (pv 3) (pv 5) (λ_ _=>rfl)) bD)))))
   (cE (j7 (KC (N1 (pv 8))) (di (iq (me (aO (vS rfl rfl B.list (Bi (pv 4) ⟨rfl,rfl,rfl,rfl⟩)) (aO (me (aO (DV rg (pv 5) (eO dX (pv 8) cS (λ_ _=>rfl))) (aO (eO dX (pv 8) cS (λ_ _=>rfl)) (aO (eO dX (pv 8) cS (λ_ _=>rfl)) bD)))) bD))))) jN)
   (di (uS hu (pv 4) (pv 5) (iQ DK (hr.mono (by decide)) rfl (aO (pv 6) (aO (pv 7) (aO (uR hu (pv 3) (pv 5) (λ_ _=>rfl)) bD)))) rfl))))))
  (di (iq (me (aO (vS rfl rfl B.list (Bi (pv 4) ⟨rfl,rfl,rfl,rfl⟩)) (aO Ky bD)))))))),?_⟩
 have xr:∀{n:Nat},n<=1000001->n<av:=λh=>cH h (by decide);have Zf:=Cr e;refine⟨_,rfl,v,ex e,rfl,re,by omega,λpr H1 ps s1 n1 Wo pp1=>?_⟩;refine⟨_,rfl,_,rfl,pr,q,ps,qs,e,sc,rfl,tok,hz,Wo,pp1,s1 _ _ hq0,bB.mono (bq.of_same s1) _ _ hqs,ad8,λsp H2 skv s2 n2 NT ad9=>?_⟩;intro kd nk;have ZE:=s1.trans s2;have Sw:=s2 _ _ Wo;have pp2:=pp1.ext (Ext.of_same s2);have s3:=bu nk (.dT []);have hk3:(upd H2 kd (.dT [])) kd=some (.dT []):=aW;generalize upd H2 kd (.dT [])=H3 at s3 hk3 ⊢;have kY:ps.length=e.post.length:=by rw[pp2.1,ya,ay]
 have hpz:e.post.length=e.size:=cZ e
 refine⟨_,rfl,pr,rfl,⟨ps,fU.of (s3 _ _ Sw)⟩,DM (xs:=ps) (λi σ H5=>∃x5 x6 x7 x8 acc bh,σ=[some v,some (.ref q),some (.ref pr),some (.ref sp),some (.ref kd),x5,x6,x7,x8]/\bK H2 H5/\H5 kd=some (.dT bh)/\Dq K H5 acc bh/\Good e sc acc/\acc.length=i/\Dn e sc acc (e.post.drop i)=kG e sc)
  ⟨none,none,none,none,[],[],rfl,s3,hk3,Dq.nil,Good.nil,rfl,rfl⟩ (by rintro i σ H5 _ ⟨_,_,_,_,_,_,_,sm,_⟩;exact fU.of (sm _ _ Sw)) ?_ ?_⟩
 ·rintro i x σ H5 hx ⟨x5,x6,x7,x8,acc,bh,rfl,s5,Yu,Yv,gd,Yw,Eu⟩;obtain⟨xx,P8,prx⟩:=(pp2.ext (Ext.of_same s5)).get hx;rw[ya,aw]at P8;have hil:i<e.post.length:=by rw[<-kY];exact(ak.mp hx).1
  rw[ag hil]at P8;have Fw:e.post[i]?=some e.post[i]:=ag hil;have hdr:e.post.drop i=e.post[i]::e.post.drop (i+1):=dW hil;rw[hdr]at Eu;generalize e.post[i]=y at P8 Fw Eu;obtain⟨p,t⟩:=y;cases P8;have mW:=pY e _ (aI Fw);simp only at mW;have P9:=tok.at mW;have hps:=yJ (e:=ex e) (t:=ex t) (p:=p) (by rw[QO,mW];rfl);obtain⟨U7,Yx⟩:=gd.own (p:=p) (t:=t) (by rw[Yw];exact Fw);have nin:p∉acc.map (·.1):=by
   rw[gd.places,Yw];intro hm;obtain⟨j,hj⟩:=FE hm;rw[nK]at hj;by_cases i9:j<i
   ·rw[if_pos i9]at hj;have:=qW (qg e) hj (qh Fw);omega
   ·rw[if_neg i9]at hj;cases hj
  obtain⟨a,pu,tv,rfl,ga,gu,Ra⟩:=prx;obtain⟨a1,b1,c1,ms,os,rfl,g1,g2,g3,g4,g5⟩:=uW Ra;have Wu:os.length=t.own.length:=by rw[g5.length,ay,GH,ay]
  have h03:t.own.length<=3:=by rw[P9.len];exact QS _
  obtain⟨bs,hbs,sds⟩:=ad9 p (show(e.se p).isSome=true by rw[mW];rfl);have Yy:=s5 _ _ NT;refine⟨a,_,rfl,ga,rfl,_,_,rfl,_,_,rfl,rfl,?_⟩;refine⟨_,rfl,a1,_,_,.ref c1,rfl,rfl,g1,rfl,c1,os,rfl,.inr g4,os.length,rfl,by omega,by omega,?_⟩;rw[gc,Wu];refine Ge (λj ys H6=>bK H5 H6/\ys.length=j/\bB K H6 (((oM acc p t.own.length).map eW).take j) ys) ⟨bK.refl _,rfl,by rw[jn];exact .nil⟩ (λj ys H6 h=>h.2.1) (fj (xr (by omega))) ?_ ?_
  ·rintro j ys H6 hj ⟨s6,ZD,ZF⟩;rw[Int.zero_add];obtain⟨kj,j',vp,IP⟩:=Yx j hj;obtain⟨vj,hv1,hv2⟩:=(Yv.ext (bq.of_same s6)).get gd.nodup vp;refine⟨_,rfl,_,rfl,_,rfl,by show 1<=av;decide,λp8 n8=>?_⟩;have s8:=bu n8 (.tup [.int j]);have Yt:(upd H6 p8 (.tup [.int j])) p8=some (.tup [.int j]):=aW;generalize upd H6 p8 (.tup [.int j])=H8 at s8 Yt ⊢;refine Ct (fF.of (s8 _ _ (s6 _ _ gu))) Yt (by simp) (by simp[kP];exact fj (xr (by omega))) λp9 H9 s9 hp9=>?_;have BP:=s8.trans s9;have Ww:H9 p9=some (.tup ((kP (p++[j])).map kV)):=by rw[hp9];simp[kP,kV]
   refine⟨kd,vj,rfl,by rw[<-hv1];exact tX.t (BP _ _ (s6 _ _ Yu)) Ww,s6.trans BP,by simp[ZD],?_⟩;rw[ef,aw,IP];exact(bB.mono (bq.of_same BP) _ _ ZF).append (.one (Rep.mono (bq.of_same BP) _ _ hv2))
  ·rintro ys H6 ⟨s6,ZD,ZF⟩ ow now;rw[dR (by rw[ay,U7];exact au _)]at ZF;have s7:=bu now (.lst ys);have Yo:(upd H6 ow (.lst ys)) ow=some (.lst ys):=aW;generalize upd H6 ow (.lst ys)=H7 at s7 Yo ⊢;have Yz:=s6.trans s7;have rp7:=bB.mono (bq.of_same s7) _ _ ZF;have NV:∀k∈oM acc p t.own.length,c7 k<=10000:=by
    intro k hk;obtain⟨j,hj⟩:=FE hk;have hjl:j<t.own.length:=by rw[<-U7];exact(ak.mp hj).1
    obtain⟨kj,j',vp,IP⟩:=Yx j hjl;rw[hj]at IP;cases IP;exact U6.kinds acc gd j' _ vp
   have hlen:(oM acc p t.own.length).length=ar t.lO:=by rw[U7,P9.len]
   have Wv:=U6.lO p t mW;obtain⟨b,o⟩:=t;simp only[c9.lO]at hlen Wv;generalize U8:oM acc p (c9.node b o).own.length=ks at NV hlen rp7 Eu;have ae0:=sds.mono (s5.trans Yz);have hrd:∀{H8:Hp},bK H7 H8->mx K H8 [.d (py (ex (.node b o))),.l (ks.map eW),.h (wZ K (gD e p sc))] [.ref a1,.ref ow,.ref bs]:=λs8=>
    .cons (r:=.d (py (ex (.node b o)))) (Rep.mono (bq.of_same (Yz.trans s8)) _ _ Ra) (.cons (r:=.l (ks.map eW)) ⟨ow,rfl,ys,s8 _ _ Yo,bB.mono (bq.of_same s8) _ _ rp7⟩ (.cons (r:=.h (wZ K (gD e p sc))) ⟨bs,rfl,ae0.mono s8⟩ .nil))
   have Qa:Dn e sc acc ((p,.node b o)::e.post.drop (i+1))=match eZ b ks (gD e p sc)with
    |some br=>(acc,some (p++br.1,br.2))
    |none=>Dn e sc (acc++[(p,j8 b ks (gD e p sc))]) (e.post.drop (i+1)):=by rw[Dn,U8];rfl
   rw[Qa]at Eu;refine⟨_,rfl,_,rfl,_,rfl,_,rfl,sp,.ref bs,rfl,by rw[<-hbs];exact tX.t (Yz _ _ Yy) (Yz _ _ gu),_,_,hrd (bK.refl _),⟨b,o,ks,gD e p sc,rfl,hlen,NV,Wv,rfl⟩,λbv H8 s8 rb=>?_⟩;have ZG:Rep K H8 (Ks (eZ b ks (gD e p sc))) bv:=rb;have Rc:=Yz.trans s8;refine⟨_,rfl,_,rfl,?_⟩;have ZH:=O6 ZG;cases Rf:eZ b ks (gD e p sc)with
   |some br=>
    rw[Rf]at Eu ZG ZH;have hc:(!decide (bv=V.ip))=true:=by rw[ZH];rfl
    rw[hc];refine uT ?_;have kn8:=Yv.ext (bq.of_same (K:=K) Rc);have hk8:=Rc _ _ Yu;unfold RU;refine Bm (by rfl) hk8 kn8 (xr (by have:=gd.le;omega)) λL ns H9 ZI nL hL rL=>?_;have t9:=Ih (K:=K) ZI hk8;obtain⟨ba,bvs,rfl,hba,Rg⟩:=Rep.fz (Rep.mono t9 _ _ ZG);obtain⟨u0,r0,rfl,e0,Rg⟩:=Rg.split;obtain⟨u1,r1,rfl,e1,Rg⟩:=Rg.split;obtain⟨u2,r2,rfl,e2,Rg⟩:=Rg.split;rw[bB]at Rg;subst Rg;obtain⟨c0,rfl,hc0⟩:=OH e0;have gu9:fF K H9 pu ((kP p).map kV):=t9 _ _ (fF.of (Rc _ _ gu));have af4:br.1.length<=1:=GN Rf;refine⟨_,rfl,_,rfl,ba,_,_,.ref c0,rfl,rfl,hba,rfl,Eb gu9 hc0 (by simp[kP];exact fj (xr (by omega))) λcc H10 Zs YM=>?_⟩;have Rh:=bq.of_same (K:=K) Zs _ _ hba;refine⟨_,rfl,ba,_,_,u1,rfl,rfl,Rh,rfl,_,rfl,ba,_,_,u2,rfl,rfl,Rh,rfl,by show 3<=av;decide,λpt nt=>?_⟩;have s11:=bu nt (.tup [.ref cc,u1,u2]);have YA:(upd H10 pt (.tup [.ref cc,u1,u2])) pt=some (.tup [.ref cc,u1,u2]):=aW;generalize upd H10 pt (.tup [.ref cc,u1,u2])=H11 at s11 YA ⊢;refine⟨by show 2<=av;decide,λpz nz=>?_⟩;have Hi:=bu nz (.tup [.ref L,.ref pt]);have YB:=(Zs.trans s11).trans Hi;have U9:H2 L=none:=(s5.trans Rc).free nL;refine fin pz L ns (.ref pt) _ (λc o hc=>?_) (fF.of aW) (ZE.free U9) (YB _ _ hL) ?_ ?_
    ·have Dl:=ZE _ _ hc;exact YB _ _ (ZI _ _ (cn Dl nk) ((s5.trans Rc) _ _ Dl))
    ·rw[<-Eu];exact bB.mono (bq.of_same YB) _ _ rL
    ·rw[<-Eu];refine Rep.tuple (fF.of (Hi _ _ YA)) (.cons (Rep.mono (bq.of_same (s11.trans Hi)) _ _ (QB ?_)) (.cons (Rep.mono (bq.of_same YB) _ _ e1) (.one (Rep.mono (bq.of_same YB) _ _ e2))));rw[bI,<-XG];exact YM
   |none=>
    rw[Rf]at Eu ZG ZH;have hc:(!decide (bv=V.ip))=false:=by rw[ZH];rfl
    rw[hc];refine qJ ?_;refine⟨_,rfl,_,rfl,_,rfl,_,rfl,sp,.ref bs,rfl,by rw[<-hbs];exact tX.t (Rc _ _ Yy) (Rc _ _ gu),_,_,hrd s8,⟨b,o,ks,gD e p sc,rfl,hlen,Rf,rfl⟩,λkv H9 s9 rk=>?_⟩;have rk':Rep K H9 (eW (j8 b ks (gD e p sc))) kv:=rk;have ZJ:=Rc.trans s9;have Ww:=ZJ _ _ Yu;have kn9:=Yv.ext (bq.of_same (K:=K) ZJ);refine⟨_,rfl,_,rfl,kd,_,rfl,yB.t Ww (ZJ _ _ gu) (by rw[kn9.len];exact xr (by have:=gd.le;omega)),?_⟩;have NU:=gd.snoc (p:=p) (t:=.node b o) (by rw[Yw];exact Fw) (by show eZ b _ _=none;rw[U8];exact Rf);rw[U8]at NU;refine⟨_,_,_,_,_,_,rfl,λc o' hc=>?_,aW,(kn9.snoc nin rk').ext (O1 Ww),NU,by simp[Yw],Eu⟩;rw[bP (cn hc nk)];exact ZJ _ _ (s5 _ _ hc)
 ·rintro σ H5 ⟨x5,x6,x7,x8,acc,bh,rfl,s5,Yu,Yv,gd,Yw,Eu⟩;rw[kY,kX (au _)]at Eu;have Qa:(acc,(none:Option Br))=kG e sc:=Eu;dsimp only;unfold RU;refine Bm (by rfl) Yu Yv (xr (by have:=gd.le;omega)) λL ns H9 ZI nL hL rL=>?_;refine⟨by show 2<=av;decide,λpz nz=>?_⟩;have Hi:=bu nz (.tup [.ref L,.ip]);have U9:H2 L=none:=s5.free nL;refine fin pz L ns .ip _ (λc o hc=>?_) (fF.of aW) (ZE.free U9) (Hi _ _ hL) ?_ ?_
  ·have Dl:=ZE _ _ hc;exact Hi _ _ (ZI _ _ (cn Dl nk) (s5 _ _ Dl))
  ·rw[<-Qa];exact bB.mono (bq.of_same Hi) _ _ rL
  ·rw[<-Qa];exact Rep.ip
theorem NA:b5 ["expr","scope"] ["expr","scope"] (aJ zJ):=⟨rfl,rfl,rfl,by symm,rfl,by symm,by symm⟩
theorem NB{f:aj}{fd:be}(F:jP K "fault" "fault" zJ f fd)(DC:cK P w K mg base 3 "checked" ["expr","scope"] (Bn K)):fi P w K mg base kx 4 f fd ["expr","scope"] (gr K Mf):=by
 refine F.ok NA (λvs H Q E h=>?_) (λeR A outer s H vs Q E hr h=>?_)
 ·obtain⟨as,r,h1,⟨e,sc,rfl,_⟩,_⟩:=h;rw[h1.length];rfl
 obtain⟨as,r,h1,⟨e,sc,rfl,U6,rfl⟩,q⟩:=h;obtain⟨v,u,rfl,r1,r2⟩:=h1.two;obtain⟨qa,rfl,qs,hq,rq⟩:=r2;refine⟨_,di (iq (eO dX (iQ DC hr rfl (aO (pv 0) (aO (pv 1) bD))) cS (λ_ _=>rfl))),?_⟩;refine⟨_,rfl,_,rfl,v,qa,qs,e,sc,rfl,U6,r1,hq,rq,λa L ns fv H' s' sq nL hL rL rf=>?_⟩;exact⟨a,_,_,fv,rfl,rfl,sq,rfl,q _ H' s' rf⟩
theorem wy:b5 ["_law_word","_law_marks","_law_ones","_law_gaps","_law_line","_law_rows","_law_k","_law_row"] ["_law_word","_law_marks","_law_ones","_law_gaps"] (aJ jU):=⟨rfl,rfl,rfl,by symm,rfl,by symm,by symm⟩
theorem Va:oG ["_law_word","_law_marks","_law_ones","_law_gaps","_law_line","_law_rows","_law_k","_law_row"] (aJ jU) {kind:=.function,names:=[(".0",.local),("_law_one",.local)],isGenerator:=false,isCoroutine:=false} "_law_one":=⟨rfl,by symm,by symm,rfl,by symm,by symm,by symm⟩
theorem Vb{f:aj}{fd:be}(F:jP K "_law_built_up" "_law_built_up" jU f fd)(B:Plain mg)(Nx:mg "tuple"=none):fi P w K mg base kx 1 f fd ["_law_word","_law_marks","_law_ones","_law_gaps"] (gr K rG):=by
 refine F.vz wy (λas r h=>?_) (λeR A outer s H E as r hr h=>?_)
 ·obtain⟨wd,ms,ones,c8,rfl,_⟩:=h;exact⟨rfl,by simp⟩
 obtain⟨wd,ms,ones,c8,rfl,hg,h3,hz,hp,rfl⟩:=h;have gG:av=16777216:=cU;show VS _ _ [.d (.str wd),.d (.tuple ms),.l (ones.map fP),.l (c8.map .str),.un,.un,.un,.un] _;refine cD wy.nd rfl (d:=.str (zr c8 0)) (gC (xs:=c8.map .str) (i:=((0:Nat):Int)) (by left) (by left) rfl (gp (by rw[aw,ET (by omega)];rfl))) ?_;refine jr wy.nd rfl (by left) ?_;refine kF bF rfl (pj B.range (n:=ones.length) (dm (oa B.len (by left) rfl) (by rw[ay])) (by omega)) (js wy.nd rfl)
  (λi ρ=>∃y z:Sl,(∀xs,z≠.o xs)/\ρ=[.d (.str wd),.d (.tuple ms),.l (ones.map fP),.l (c8.map .str),.d (.str (k9 c8 ones i)),.o ((fJ c8 ones i).map fO),y,z]) ⟨.un,.un,(λ_ z=>nomatch z),rfl⟩ ?_ ?_
 ·rintro i d ρ hd ⟨y,z,nz,rfl⟩;have hi:i<ones.length:=by have:=(ak.mp hd).1;simpa[mB]using this
  obtain rfl:d = .int (i:Int):=by
   simp[mB,hi]at hd
   first|exact hd.symm|(rw[<-hd])
  refine⟨_,rfl,?_⟩;show VS _ _ [.d (.str wd),.d (.tuple ms),.l (ones.map fP),.l (c8.map .str),.d (.str (k9 c8 ones i)),.o ((fJ c8 ones i).map fO),.d (.int (i:Int)),z] _;have PH:oZ (ones.map fP) (i:Int)=some (fP (oneAt ones i)):=gp (by rw[aw,zt hi];rfl);have ae1:oZ (c8.map lr) (((i+1:Nat):Nat):Int)=some (.str (zr c8 (i+1))):=gp (by rw[aw,ET (by omega)];rfl);have P7:oneAt ones i∈ones:=aI (zt hi);obtain⟨z1,z2⟩:=hz (i+1) hi;obtain⟨z3,z4⟩:=hz i (by omega);refine kF bF rfl (CF (xs:=(oneAt ones i).rows.map fO) (dg (gC (xs:=ones.map fP) (by left) (by left) rfl PH) (by left) rfl)) (js wy.nd rfl)
   (λj ρ=>∃z:Sl,(∀xs,z≠.o xs)/\ρ=[.d (.str wd),.d (.tuple ms),.l (ones.map fP),.l (c8.map .str),.d (.str (k9 c8 ones i)),.o ((fJ c8 ones i++((oneAt ones i).rows.take j).map (mh i (k9 c8 ones i).length)).map fO),.d (.int (i:Int)),z]) ⟨z,nz,by simp⟩ ?_ ?_
  ·rintro j d ρ hd ⟨z',nz',rfl⟩;rw[aw]at hd;cases hq:(oneAt ones i).rows[j]? with
   |none=>rw[hq]at hd;cases hd
   |some A1=>
    rw[hq]at hd;cases hd;have kY:=hp _ P7 A1 (aI hq);have hj:j<(oneAt ones i).rows.length:=(ak.mp hq).1;have hlen:(fJ c8 ones (i+1)).length=(fJ c8 ones i).length + (oneAt ones i).rows.length:=by rw[fJ];simp
    refine⟨_,rfl,?_⟩;show VS _ _ [.d (.str wd),.d (.tuple ms),.l (ones.map fP),.l (c8.map .str),.d (.str (k9 c8 ones i)),.o ((fJ c8 ones i++((oneAt ones i).rows.take j).map (mh i (k9 c8 ones i).length)).map fO),.d (.int (i:Int)),.d (.tuple [.tuple (A1.1.map .int),.int A1.2.1,.int A1.2.2])] _;refine fG rfl rfl (d:=fO (mh i (k9 c8 ones i).length A1)) (dm (dP (aQ (HU (dP (aQ (by left) cF)) (by left) (by rw[gG];simp;omega)) (aQ (gH (va B.len (by left) (by rw[gG];omega)) (by left)) (aQ (gH (va B.len (by left) (by rw[gG];omega)) (by left)) cF)))) (by simp[fO,mh])) (by rw[gG];simp;omega) (cg ⟨.d (fO A1),(λ_ z=>nomatch z),?_⟩);rw[ef,hq];simp;rfl
  ·rintro ρ ⟨z',nz',rfl⟩;rw[ay,iC];have e1:(k9 c8 ones (i+1)).length=(k9 c8 ones i).length + (oneAt ones i).ln.length + (zr c8 (i+1)).length:=by rw[k9,<-cN,cy,cy,aL,aL,cN,cN,cN]
   have e2:(k9 c8 ones i++(oneAt ones i).ln).length=(k9 c8 ones i).length + (oneAt ones i).ln.length:=by rw[<-cN,cy,aL,cN,cN]
   refine cD wy.nd rfl (d:=.str (k9 c8 ones (i+1))) (du (du (by left) (dg (gC (xs:=ones.map fP) (by left) (by left) rfl PH) (by left) rfl) (by rw[gG];omega)) (gC (xs:=c8.map .str) (by left) (gH (by left) (by left)) rfl ae1) (by rw[gG,e2];omega)) (cg ⟨_,_,nz',rfl⟩)
 ·rintro ρ ⟨y,z,nz,rfl⟩;rw[show(mB 0 ones.length).length=ones.length from by simp[mB]];obtain⟨z3,z4⟩:=hz ones.length (au _);refine fG rfl rfl (d:=fO ([],0,(k9 c8 ones ones.length).length)) (dP (aQ (by left) (aQ (by left) (aQ (va B.len (by left) (by rw[gG];omega)) cF)))) (by rw[gG,ay];omega) ?_;refine J8 (i:=5) (xs:=(fJ c8 ones ones.length).map fO++[fO ([],0,(k9 c8 ones ones.length).length)]) rfl ?_;refine bR (r:=.d (fP (iR wd ms ones c8))) (dm (dP (aQ (dP (aQ (by left) (aQ (by left) (aQ (x9 Nx (Cq rfl Va (HY rfl rfl) (ys:=ones.map BI.e) (by simp) (by rw[gG];simp;omega) ?_) rfl) cF)))) (aQ (by left) (aQ (by left) cF)))) (by simp[fP,iR])) (.inl rfl);intro j a y' ha hy cl C s0 H0 fp pins;rw[aw]at ha hy;cases hq:ones[j]? with
  |none=>rw[hq]at ha;cases ha
  |some o=>
   rw[hq]at ha hy;cases ha;cases hy;exact dg (xs:=[o.e,.str o.ln,.list (o.rows.map fO)]) (bU rfl rfl) tY rfl
theorem j5:b5 ["_law_cell","_law_kind","_law_line","_law_k","_law_way","_law_other","_law_more"] ["_law_cell"] (aJ gW):=⟨rfl,rfl,rfl,by symm,rfl,by symm,by symm⟩
theorem Vc{f:aj}{fd:be}(F:jP K "_law_drawn_kind" "_law_drawn_kind" gW f fd)(B:Plain mg):fi P w K mg base kx 1 f fd ["_law_cell"] (gr K GZ):=by
 refine F.vz j5 (λas r h=>?_) (λeR A outer s H E as r hr h=>?_)
 ·obtain⟨c,rfl,_⟩:=h;exact⟨rfl,by simp⟩
 obtain⟨c,rfl,rfl⟩:=h;have gG:av=16777216:=cU;have l1:("(list ":Str).length=6:=by decide
 have l2:(")":Str).length=1:=by decide
 have l3:("(to ":Str).length=4:=by decide
 have l4:(" ":Str).length=1:=by decide
 have rest:VS (pW kx P w K mg base ["_law_cell","_law_kind","_law_line","_law_k","_law_way","_law_other","_law_more"] "_law_drawn_kind" (aJ gW) f eR A outer s H E).Dy ((eS gW).drop 3) [.d (.int c),.d (eW (tz c)),.d (.str (mO (tz c))),.un,.un,.un,.un] λo=>o = .rt (.d (.tuple [eW (eP c),.str (mO (eP c))]))\/((.d (.tuple [eW (eP c),.str (mO (eP c))]):Sl) = .d .none/\∃ρ,o = .nx ρ):=by
  have w0:=mX c 1013 (n:=8) (by decide);have w8:=mY c 1013 (n:=8) (by decide);have Ku:oZ [eJ 0,.int 1,.int 2,.int 3,.int 0,.int 1,.int 2,.int 8] (dE c 1013 8)=some (.int (kN c:Nat)):=by
   have:dE c 1013 8=0\/dE c 1013 8=1\/dE c 1013 8=2\/dE c 1013 8=3\/dE c 1013 8=4\/dE c 1013 8=5\/dE c 1013 8=6\/dE c 1013 8=7:=by omega
   unfold kN;rcases this with h|h|h|h|h|h|h|h<;>rw[h]<;>rfl
  have hn8:=EU c;refine kF bF rfl (pj B.range (n:=kN c) (gC (gq (by left)) (gw (by left)) rfl Ku) (by omega)) (js j5.nd rfl)
   (λi ρ=>∃a b d e:Sl,ρ=[.d (.int c),.d (eW (vg c i)),.d (.str (mO (vg c i))),a,b,d,e]) ⟨.un,.un,.un,.un,rfl⟩ ?_ ?_
  ·rintro i d ρ hd ⟨x1,x2,x3,x4,rfl⟩;have hi:i<kN c:=by have:=(ak.mp hd).1;simpa[mB]using this
   obtain rfl:d = .int (i:Int):=by
    simp[mB,hi]at hd
    first|exact hd.symm|(rw[<-hd])
   have hl:=yd c i;have ho:=zu (dE (c + i) 1087 4);refine⟨_,rfl,?_⟩;show VS _ _ [.d (.int c),.d (eW (vg c i)),.d (.str (mO (vg c i))),.d (.int (i:Int)),x2,x3,x4] _;have ek:vg c (i+1)=xm c i (vg c i):=rfl;by_cases h1:dE (c + i) 1019 2=0
   ·have e1:vg c (i+1) = .list (vg c i):=by rw[ek,xm,if_pos h1]
    refine cz (eL (x:=dE (c + i) 1019 2) (gw (gH (by left) (by left))) (by left)) (decide_eq_true h1) ?_;refine cD j5.nd rfl (d:=eW (vg c (i+1))) (dm (dP (aQ (by left) (aQ (by left) cF))) (by rw[e1];rfl)) ?_;refine cD j5.nd rfl (d:=.str (mO (vg c (i+1)))) (dm (du (du (by left) (by left) (by rw[gG,l1];omega)) (by left) (by rw[gG,len_app,l1,l2];omega)) (by rw[e1,vh])) (cg (cg ⟨_,_,_,_,rfl⟩))
   ·refine lA (eL (x:=dE (c + i) 1019 2) (gw (gH (by left) (by left))) (by left)) (decide_eq_false h1) ?_;refine cD j5.nd rfl (d:=.int (dE (c + i) 1087 4)) (gw (gH (by left) (by left))) ?_;have v0:=mX (c + i) 1087 (n:=4) (by decide);have v4:=mY (c + i) 1087 (n:=4) (by decide);have this:dE (c + i) 1087 4=0\/dE (c + i) 1087 4=1\/dE (c + i) 1087 4=2\/dE (c + i) 1087 4=3:=by omega
    have o1:oZ [eG [.str "num"],.tuple [.str "truth"],.tuple [.str "list",.tuple [.str "truth"]],.tuple [.str "to",.tuple [.str "num"],.tuple [.str "truth"]]] (dE (c + i) 1087 4)=some (eW (iZ (dE (c + i) 1087 4))):=by
     rcases this with h|h|h|h<;>rw[h]<;>rfl
    have o2:oZ [lr "num",.str "truth",.str "(list truth)",.str "(to num truth)"] (dE (c + i) 1087 4)=some (.str (mO (iZ (dE (c + i) 1087 4)))):=by
     rcases this with h|h|h|h<;>rw[h]
     ·rw[show iZ 0 = .num from rfl,sE];rfl
     ·rw[show iZ 1 = .truth from rfl,kf];rfl
     ·rw[show iZ 2 = .list .truth from rfl,vh,kf];rfl
     ·rw[show iZ 3 = .to .num .truth from rfl,wc,sE,kf];rfl
    refine cD j5.nd rfl (d:=eW (iZ (dE (c + i) 1087 4))) (gC (gq (by left)) (by left) rfl o1) ?_;refine cD j5.nd rfl (d:=.str (mO (iZ (dE (c + i) 1087 4)))) (gC (gq (by left)) (by left) rfl o2) ?_;by_cases h2:dE (c + i) 1091 2=0
    ·have e1:vg c (i+1) = .to (vg c i) (iZ (dE (c + i) 1087 4)):=by rw[ek,xm,if_neg h1,if_pos h2]
     refine cz (eL (x:=dE (c + i) 1091 2) (gw (gH (by left) (by left))) (by left)) (decide_eq_true h2) ?_;refine cD j5.nd rfl (d:=eW (vg c (i+1))) (dm (dP (aQ (by left) (aQ (by left) (aQ (by left) cF)))) (by rw[e1];rfl)) ?_;refine cD j5.nd rfl (d:=.str (mO (vg c (i+1)))) (dm (du (du (du (du (by left) (by left) (by rw[gG,l3];omega)) (by left) (by rw[gG,len_app,l3,l4];omega)) (by left) (by rw[gG,len_app,len_app,l3,l4];omega)) (by left) (by rw[gG,len_app,len_app,len_app,l2,l3,l4];omega)) (by rw[e1,wc])) (cg (cg (cg ⟨_,_,_,_,rfl⟩)))
    ·have e1:vg c (i+1) = .to (iZ (dE (c + i) 1087 4)) (vg c i):=by rw[ek,xm,if_neg h1,if_neg h2]
     refine lA (eL (x:=dE (c + i) 1091 2) (gw (gH (by left) (by left))) (by left)) (decide_eq_false h2) ?_;refine cD j5.nd rfl (d:=eW (vg c (i+1))) (dm (dP (aQ (by left) (aQ (by left) (aQ (by left) cF)))) (by rw[e1];rfl)) ?_;refine cD j5.nd rfl (d:=.str (mO (vg c (i+1)))) (dm (du (du (du (du (by left) (by left) (by rw[gG,l3];omega)) (by left) (by rw[gG,len_app,l3,l4];omega)) (by left) (by rw[gG,len_app,len_app,l3,l4];omega)) (by left) (by rw[gG,len_app,len_app,len_app,l2,l3,l4];omega)) (by rw[e1,wc])) (cg (cg (cg ⟨_,_,_,_,rfl⟩)))
  ·rintro ρ ⟨x1,x2,x3,x4,rfl⟩;rw[show(mB 0 (kN c)).length=kN c from by simp[mB]];exact bR (by left) (.inl rfl)
 show VS _ _ [.d (.int c),.un,.un,.un,.un,.un,.un] _;refine cD j5.nd rfl (d:=eW .num) (by left) ?_;refine cD j5.nd rfl (d:=.str "num") (by left) ?_;by_cases h0:dE c 1009 3=1
 ·refine cz (eL (x:=dE c 1009 3) (gw (by left)) (by left)) (decide_eq_true h0) ?_;refine cD j5.nd rfl (d:=eW .truth) (by left) ?_;refine cD j5.nd rfl (d:=.str "truth") (by left) (cg ?_);have e:tz c = .truth:=by unfold tz;rw[if_pos h0]
  rw[e,kf]at rest;exact rest
 ·refine lA (eL (x:=dE c 1009 3) (gw (by left)) (by left)) (decide_eq_false h0) (cg ?_);have e:tz c = .num:=by unfold tz;rw[if_neg h0]
  rw[e,sE]at rest;exact rest
theorem wz:b5 ["_law_cell","_law_some","_law_letters","_law_word","_law_k"] ["_law_cell"] (aJ nh):=⟨rfl,rfl,rfl,by symm,rfl,by symm,by symm⟩
theorem Vd{f:aj}{fd:be}(F:jP K "_law_word_by" "_law_word_by" nh f fd)(B:Plain mg):fi P w K mg base kx 1 f fd ["_law_cell"] (gr K CG):=by
 refine F.vz wz (λas r h=>?_) (λeR A outer s H E as r hr h=>?_)
 ·obtain⟨c,rfl,_⟩:=h;exact⟨rfl,by simp⟩
 obtain⟨c,rfl,rfl⟩:=h;have gG:av=16777216:=cU;show VS _ _ [.d (.int c),.un,.un,.un,.un] _;by_cases h0:dE c 1103 3=0
 ·refine cz (eL (x:=dE c 1103 3) (gw (by left)) (by left)) (decide_eq_true h0) ?_;refine jr wz.nd rfl (by left) ?_;have w0:=mX c 1109 (n:=8) (by decide);have w8:=mY c 1109 (n:=8) (by decide);have Ku:oZ [lr "x",.str "total",.str "note",.str "iffy",.str "number",.str "lists",.str "funny",.str "t"] (dE c 1109 8)=some (.str (EV (dE c 1109 8))):=by
   have:dE c 1109 8=0\/dE c 1109 8=1\/dE c 1109 8=2\/dE c 1109 8=3\/dE c 1109 8=4\/dE c 1109 8=5\/dE c 1109 8=6\/dE c 1109 8=7:=by omega
   rcases this with h|h|h|h|h|h|h|h<;>rw[h]<;>rfl
  exact bR (dm (gC (by left) (gw (by left)) rfl Ku) (by unfold eV;rw[if_pos h0])) (.inl rfl)
 ·refine bt (eL (x:=dE c 1103 3) (gw (by left)) (by left)) (decide_eq_false h0) ?_;refine cD wz.nd rfl (d:=.str gI) (by left) ?_;refine cD wz.nd rfl (d:=.str "q") (by left) ?_;have w0:=mX c 1117 (n:=9) (by decide);have w9:=mY c 1117 (n:=9) (by decide);refine kF bF rfl (pj B.range (n:=(dE c 1117 9).toNat) (dm (gw (by left)) (by rw[mQ w0])) (by omega)) (js wz.nd rfl)
   (λi ρ=>∃a:Sl,ρ=[.d (.int c),.un,.d (.str gI),.d (.str (MN c i)),a]) ⟨.un,rfl⟩ ?_ ?_
  ·rintro i d ρ hd ⟨x1,rfl⟩;obtain⟨hi,rfl⟩:=ye hd;refine⟨_,rfl,?_⟩;show VS _ _ [.d (.int c),.un,.d (.str gI),.d (.str (MN c i)),.d (.int (i:Int))] _;have hl:=ID c i;refine cD wz.nd rfl (d:=.str (MN c (i+1))) (du (i:=sg (97 + (dE (c+7 * i) 1123 26).toNat)) (Mr (z:=gI) (by left) (gw (gH (by left) (p7 (by left) (by left) (.inl ⟨by decide,by decide⟩)))) (by rw[gG];decide) ⟨_,G1 (mX _ _ (by decide)) (mY _ _ (by decide)),rfl⟩) (by left) (by rw[gG,hl,show(sg (97 + (dE (c+7 * i) 1123 26).toNat)).length=1 from rfl];omega)) (cg ⟨_,rfl⟩)
  ·rintro ρ ⟨x1,rfl⟩;exact bR (r:=.d (.str (eV c))) (dm (r:=.d (.str (MN c (mB 0 (dE c 1117 9).toNat).length))) (by left) (by unfold eV;rw[if_neg h0];simp[mB])) (.inl rfl)
theorem ur:b5 ["_law_cell","_law_way","_law_n","_law_sure","_law_pair","_law_name"] ["_law_cell"] (aJ rP):=⟨rfl,rfl,rfl,by symm,rfl,by symm,by symm⟩
theorem Ve{f:aj}{fd:be}(F:jP K "_law_leaf" "_law_leaf" rP f fd)(zM:mg "str"=none)(hint:mg "int"=none)(DB:cK P w K mg base 1 "_law_built_up" ["_law_word","_law_marks","_law_ones","_law_gaps"] (gr K rG))(DK:cK P w K mg base 1 "_law_drawn_kind" ["_law_cell"] (gr K GZ))(DN:cK P w K mg base 1 "_law_word_by" ["_law_cell"] (gr K CG)):fi P w K mg base kx 2 f fd ["_law_cell"] (gr K MR):=by
 refine F.vz ur (λas r h=>?_) (λeR A outer s H E as r hr h=>?_)
 ·obtain⟨c,rfl,_⟩:=h;exact⟨rfl,by simp⟩
 obtain⟨c,rfl,rfl⟩:=h;have gG:av=16777216:=cU;have w0:=mX c 1021 (n:=4) (by decide);have w4:=mY c 1021 (n:=4) (by decide);show VS _ _ [.d (.int c),.un,.un,.un,.un,.un] _;refine cD ur.nd rfl (d:=.int (dE c 1021 4)) (gw (by left)) ?_
 have ZK:∀(wd:Str)(ms:List aq)(g:Str),g.length<=1000000->rG [.d (.str wd),.d (.tuple ms),.l [],.l [.str g]] (.d (fP (iR wd ms [] [g]))):=λwd ms g hg=>⟨wd,ms,[],[g],rfl,rfl,by simp,λi hi=>by
  obtain rfl:i=0:=by simpa using hi
  exact⟨hg,by simp[fJ]⟩,by simp,rfl⟩
 by_cases h0:dE c 1021 4=0
 ·refine cz (eL (x:=dE c 1021 4) (by left) (by left)) (decide_eq_true h0) ?_;refine cD ur.nd rfl (d:=.int (c / 4 % 1000000000000000000000 - 5)) (xZ (my (kD (by left) (by left)) (by left)) (by left)) ?_;have u0:=mX c 1097 (n:=3) (by decide);have u3:=mY c 1097 (n:=3) (by decide);have Ku:oZ [eJ 1,.int (-1),.int (10 ^ 70)] (dE c 1097 3)=some (.int (if dE c 1097 3=0 then 1 else if dE c 1097 3=1 then -1 else 10 ^ 70)):=by
   have:dE c 1097 3=0\/dE c 1097 3=1\/dE c 1097 3=2:=by omega
   rcases this with h|h|h<;>rw[h]<;>rfl
  have hx1:0<=c / 4 % 1000000000000000000000:=mJ _ (by decide);have Rb:c / 4 % 1000000000000000000000<1000000000000000000000:=nU _ (by decide);have e:fX c = .num (km c):=by rw[fX,if_pos h0]
  have hmul:IntMulOk (c / 4 % 1000000000000000000000 - 5) (if dE c 1097 3=0 then 1 else if dE c 1097 3=1 then -1 else 10 ^ 70):=by
   refine G2 ?_ ?_
   ·generalize c / 4 % 1000000000000000000000=x at hx1 Rb;exact ib (show(x - 5).natAbs<1000000000000000000001 by omega) (by symm)
   ·split
    ·symm
    ·split<;>symm
  refine cD ur.nd rfl (d:=.int (km c)) (Pu (by left) (gC (gq (aQ (by left) (aQ (GO (by left)) (aQ (d:=.int (10 ^ 70)) (Pd hint (du (yR (x:="1")) (O0 (z:="0") (n:=70) (by left) (by left) (by decide) (by decide) (by decide) (by decide)) (by symm)) (by symm) (by symm)) cF)))) (gw (by left)) rfl Ku) hmul) ?_;have Vf:(km c).natAbs.log2<1920:=by
   by_cases hz:(km c).natAbs=0
   ·rw[hz];decide
   ·exact ib ((Nat.log2_lt hz).mpr (vi c)) (by decide)
  have hln:(gE (km c)).length<=1000000:=Py c;refine bR (dm (bG DB hr (rs:=[.d (.str "num"),.d (.tuple [.int (km c)]),.o [],.o [.str (gE (km c))]]) (aA (by left) (aA (by left) (aA (by left) (aA (gq (aQ (dm (yb zM (by left) Vf) (by rw[EW])) cF)) bV)))) (ZK "num" [.int (km c)] (gE (km c)) hln)) ?_) (.inl rfl);unfold dJ;rw[e,mP];rfl
 ·refine bt (eL (x:=dE c 1021 4) (by left) (by left)) (decide_eq_false h0) ?_;by_cases h1:dE c 1021 4=1
  ·refine cz (eL (x:=dE c 1021 4) (by left) (by left)) (decide_eq_true h1) ?_;refine cD ur.nd rfl (d:=.bool (decide (dE c 1033 2=0))) (Tx (gw (by left)) (by left)) ?_;have Ku:oZ [lr "no",.str "yes"] (if decide (dE c 1033 2=0)then 1 else 0)=some (.str (aS (fX c))):=by
    rw[fX,if_neg h0,if_pos h1,kg];cases decide (dE c 1033 2=0)<;>rfl
   refine bR (dm (bG DB hr (rs:=[.d (.str "truth"),.d (.tuple [.bool (decide (dE c 1033 2=0))]),.o [],.o [.str (aS (fX c))]]) (aA (by left) (aA (by left) (aA (by left) (aA (gq (aQ (d:=.str (aS (fX c))) (gC (gq (by left)) (Pw hint (by left)) rfl Ku) cF)) bV)))) (ZK "truth" [.bool (decide (dE c 1033 2=0))] (aS (fX c)) ?_)) ?_) (.inl rfl)
   ·rw[fX,if_neg h0,if_pos h1,kg];cases decide (dE c 1033 2=0)<;>decide
   ·show Sl.d (fP ⟨.tuple [.str "truth",.tuple [.bool (decide (dE c 1033 2=0))],.tuple []],aS (fX c),[([],0,_)]⟩)=_;unfold dJ;rw[show dY (fX c) = .tuple [.str "truth",.tuple [.bool (decide (dE c 1033 2=0))],.tuple []]from by rw[fX,if_neg h0,if_pos h1];rfl];rfl
  ·refine bt (eL (x:=dE c 1021 4) (by left) (by left)) (decide_eq_false h1) ?_;by_cases h2:dE c 1021 4=2
   ·refine cz (eL (x:=dE c 1021 4) (by left) (by left)) (decide_eq_true h2) ?_;have hk:(mO (eP (c / 4))).length<=165:=by have:=yd (c / 4) (kN (c / 4));have:=EU (c / 4);unfold eP;omega
    have e1:("(nil ":Str).length=5:=by decide
    have e2:(")":Str).length=1:=by decide
    refine cD ur.nd rfl (d:=.tuple [eW (eP (c / 4)),.str (mO (eP (c / 4)))]) (bG DK hr (aA (kD (by left) (by left)) bV) ⟨c / 4,rfl,rfl⟩) ?_;refine bR (dm (bG DB hr (rs:=[.d (.str "nil"),.d (.tuple [eW (eP (c / 4))]),.o [],.o [.str ("(nil "++mO (eP (c / 4)) ++ ")")]]) (aA (by left) (aA (by left) (aA (by left) (aA (gq (aQ (du (du (by left) (by left) (by rw[gG,e1];omega)) (by left) (by rw[gG,len_app,e1,e2];omega)) cF)) bV)))) (ZK "nil" [eW (eP (c / 4))] ("(nil "++mO (eP (c / 4)) ++ ")") ?_)) ?_) (.inl rfl)
    ·rw[len_app,len_app,e1,e2];omega
    ·have e:fX c = .nil (eP (c / 4)):=by rw[fX,if_neg h0,if_neg h1,if_pos h2]
     unfold dJ;rw[e,BC];rfl
   ·refine bt (eL (x:=dE c 1021 4) (by left) (by left)) (decide_eq_false h2) ?_;refine cD ur.nd rfl (d:=.str (eV c)) (bG DN hr (aA (by left) bV) ⟨c,rfl,rfl⟩) ?_;refine bR (dm (bG DB hr (rs:=[.d (.str "name"),.d (.tuple [.str (eV c)]),.o [],.o [.str (eV c)]]) (aA (by left) (aA (by left) (aA (by left) (aA (by left) bV)))) (ZK "name" [.str (eV c)] (eV c) (by have:=lF c;omega))) ?_) (.inl rfl);have e:fX c = .name (eV c):=by rw[fX,if_neg h0,if_neg h1,if_neg h2]
    unfold dJ;rw[e,mZ];rfl
theorem Vg:b5 ["_law_pile","_law_cell"] ["_law_pile","_law_cell"] (aJ qv):=⟨rfl,rfl,rfl,by symm,rfl,by symm,by symm⟩
theorem Vh{f:aj}{fd:be}(F:jP K "_law_taken" "_law_taken" qv f fd)(B:Plain mg)(DL:cK P w K mg base 2 "_law_leaf" ["_law_cell"] (gr K MR)):fi P w K mg base kx 3 f fd ["_law_pile","_law_cell"] (sF K):=by
 refine F.ok Vg (λvs H Q E h=>?_) (λeR A outer s H vs Q E hr h=>?_)
 ·obtain⟨a,xs,c,rfl,_⟩:=h;rfl
 obtain⟨a,xs,c,rfl,⟨vs,hv,rv⟩,q⟩:=h;refine⟨_,cE (j7 (kz Qn (gf eY rfl B.len eA (aO (pv 0) bD)) cS (gP _)) (di (iq (vO bJ ft fw vP (pv 0)))) jN) (di (iq (iQ DL hr rfl (aO (pv 1) bD)))),?_⟩;have hl:=rv.length;rw[cC]at hl;cases xs with
 |nil=>
  have e0:vs=[]:=List.eq_nil_of_length_eq_zero hl;subst e0;refine⟨_,rfl,a,_,rfl,.inl (fU.of hv),_,_,rfl,rfl,false,rfl,qJ ?_⟩;exact⟨_,rfl,[.d (.int c)],.d (fP (dJ c)),.cons (Rep.int (K:=K) (H:=H) c) .nil,⟨c,rfl,rfl⟩,λv H' s' r'=>q v H' (λb o _ e=>s' b o e) (sj.mono s' ⟨_,hv,rv⟩) r'⟩
 |cons x r=>
  refine⟨_,rfl,a,_,rfl,.inl (fU.of hv),_,_,rfl,rfl,true,by rw[hl];simp,uT ?_⟩;rw[dD]at rv;obtain⟨ws,u,rfl,h5,h6⟩:=rv.snoc;refine⟨_,rfl,.inl ⟨rfl,_,fU.of hv⟩,a,_,u,rfl,rfl,hv,by simp,?_⟩;rw[hW];have tl:bq K H (upd H a (.lst ws)):=(SameBut.upd _).tup hv;exact q u _ (λb o n e=>by rw[bP n];exact e) ⟨ws,aW,bB.mono tl _ _ h5⟩ (Rep.mono tl _ _ h6)
theorem mm:b5 ["_law_pile","_law_cell","_law_way","_law_pair","_law_name","_law_one","_law_gaps","_law_two","_law_word","_law_three","_law_tail","_law_marks"] ["_law_pile","_law_cell"] (aJ mj):=⟨rfl,rfl,rfl,by symm,rfl,by symm,by symm⟩
theorem Vi{f:aj}{fd:be}(F:jP K "_law_combined" "_law_combined" mj f fd)(B:Plain mg)(DK:cK P w K mg base 1 "_law_drawn_kind" ["_law_cell"] (gr K GZ))(DN:cK P w K mg base 1 "_law_word_by" ["_law_cell"] (gr K CG))(DT:cK P w K mg base 3 "_law_taken" ["_law_pile","_law_cell"] (sF K))(DB:cK P w K mg base 1 "_law_built_up" ["_law_word","_law_marks","_law_ones","_law_gaps"] (gr K rG)):fi P w K mg base kx 4 f fd ["_law_pile","_law_cell"] (G7 K):=by
 refine F.ok mm (λvs H Q E h=>?_) (λeR A outer s H vs Q E hr h=>?_)
 ·obtain⟨a,ys,c,rfl,_⟩:=h;rfl
 obtain⟨a,ys,c,rfl,hl,⟨m,hm,hp⟩,q⟩:=h;obtain⟨k1,k2,k3,n1,n2,n3,a1,b1,a2,b2,a3,b3,e1,e2,e3⟩:=BD c hp;have gG:av=16777216:=cU;have lw:=lF (c / 3);have lv:=lF (c / 7);have lk:=sH (c / 12);have q1:("(fun ":Str).length=5:=by decide
 have q2:(")":Str).length=1:=by decide
 have q3:(" ":Str).length=1:=by decide
 have q4:("(case ":Str).length=6:=by decide
 have q5:("(":Str).length=1:=by decide
 have vp:=hr.mono (j:=1) (by decide);have w0:=mX c 1039 (n:=8) (by decide);have w8:=mY c 1039 (n:=8) (by decide)
 refine⟨tYS K (vm a H) [.o (ys.map fP).reverse,.d (.int c),.un,.un,.un,.un,.un,.un,.un,.un,.un,.un] (λρ d=>ρ[0]?=some (.o ((ie c ys).2.map fP).reverse)/\d=fP (ie c ys).1),?_,xy (λb=>b=a) H,[],⟨rfl,rfl⟩,Kc (N:=["_law_pile","_law_cell","_law_way","_law_pair","_law_name","_law_one","_law_gaps","_law_two","_law_word","_law_three","_law_tail","_law_marks"]) (c:=c) hl,by
   rintro v H' ⟨σ,ρ,d,⟨r0,rd⟩,⟨_,s0⟩,er,rv⟩;subst rd;obtain⟨a',g1,g2,_⟩:=er.own 0 _ r0;rw[s0]at g1;cases g1
   exact q v H' (λb o n e=>er.same b o (Pb (λz=>n z) e)) g2 rv⟩
 show VY _ _ _ _ _;refine wj mm.nd rfl (vm.kept (by decide)) (d:=.int (4 + dE c 1039 8)) (gH (by left) (gw (by left))) ?_;refine wj mm.nd rfl (vm.kept (by decide)) (d:=.tuple [eW (eP (c / 12)),.str (mO (eP (c / 12)))]) (bG DK vp (aA (kD (by left) (by left)) bV) ⟨c / 12,rfl,rfl⟩) ?_;refine wj mm.nd rfl (vm.kept (by decide)) (d:=.str (eV (c / 3))) (bG DN vp (aA (kD (by left) (by left)) bV) ⟨c / 3,rfl,rfl⟩) ?_;refine CJ mm.nd rfl (vm.kept (by decide)) (pD (ys:=ys) (c:=c / 5) DT hr rfl rfl (kD (by left) (by left))) ?_;by_cases h6:4 + dE c 1039 8<6
 ·have ec:ie c ys=(MX (eV (c / 3)) (eP (c / 12)) (kK c ys).1,(kK c ys).2):=by unfold ie;rw[if_pos h6]
  have bo:=IH (jZ (c / 3)) lw lk (pB (c / 12)) (pC (c / 12)) a1;refine G5 (rn (x:=4 + dE c 1039 8) (by left) (by left)) (decide_eq_true h6) ?_;refine II mm.nd rfl (vm.kept (by decide)) (xs:=[.str ("(fun "++eV (c / 3) ++ " "++mO (eP (c / 12)) ++ " "),.str ")"]) (gq (aQ (du (du (du (du (by left) (by left) (by rw[gG];simp only[len_app,q1,q3];omega)) (by left) (by rw[gG];simp only[len_app,q1,q3];omega)) (by left) (by rw[gG];simp only[len_app,q1,q3];omega)) (by left) (by rw[gG];simp only[len_app,q1,q3];omega)) (aQ (by left) cF))) ?_;refine CI (d:=fP (MX (eV (c / 3)) (eP (c / 12)) (kK c ys).1)) (bG DB vp (rs:=[.d (.str "fun"),.d (.tuple [.str (eV (c / 3)),eW (eP (c / 12))]),.o [fP (kK c ys).1],.l [.str ("(fun "++eV (c / 3) ++ " "++mO (eP (c / 12)) ++ " "),.str ")"]]) (aA (by left) (aA (by left) (aA (by left) (aA (by left) bV)))) (EX (ones:=[(kK c ys).1]) (c8:=["(fun "++eV (c / 3) ++ " "++mO (eP (c / 12)) ++ " ",")"]) rfl (by simp) bo (by omega) (λo ho=>⟨k1,by omega,by rw[aM]at ho;subst ho;exact a1⟩))) ?_;rw[ec];exact⟨rfl,rfl⟩
 refine G6 (rn (x:=4 + dE c 1039 8) (by left) (by left)) (decide_eq_false h6) ?_;refine CJ mm.nd rfl (vm.kept (by decide)) (pD (ys:=(kK c ys).2) (c:=c / 7) DT hr rfl rfl (kD (by left) (by left))) ?_;by_cases IA:4 + dE c 1039 8<10
 ·have ec:ie c ys=(Wt (IF (4 + dE c 1039 8 - 6)) (mD c ys).1 (kK c ys).1,(mD c ys).2):=by unfold ie;rw[if_neg h6,if_pos IA]
  have bo:=MY (4 + dE c 1039 8 - 6) a2 a1;have Ku:oZ [lr "add",.str "less",.str "front",.str "call"] (4 + dE c 1039 8 - 6)=some (.str (IF (4 + dE c 1039 8 - 6))):=by
   have:4 + dE c 1039 8 - 6=0\/4 + dE c 1039 8 - 6=1\/4 + dE c 1039 8 - 6=2\/4 + dE c 1039 8 - 6=3:=by omega
   rcases this with h|h|h|h<;>rw[h]<;>rfl
  have lo:(IF (4 + dE c 1039 8 - 6)).length<=5:=by unfold IF;(repeat' split)<;>decide
  refine G5 (rn (x:=4 + dE c 1039 8) (by left) (by left)) (decide_eq_true IA) ?_;refine wj mm.nd rfl (vm.kept (by decide)) (d:=.str (IF (4 + dE c 1039 8 - 6))) (gC (gq (by left)) (xZ (by left) (by left)) rfl Ku) ?_
  refine CI (d:=fP (Wt (IF (4 + dE c 1039 8 - 6)) (mD c ys).1 (kK c ys).1)) (bG DB vp (rs:=[.d (.str (IF (4 + dE c 1039 8 - 6))),.d (.tuple []),.o [fP (mD c ys).1,fP (kK c ys).1],.o [.str ("("++IF (4 + dE c 1039 8 - 6) ++ " "),.str " ",.str ")"]]) (aA (by left) (aA (by left) (aA (by left) (aA (gq (aQ (du (du (by left) (by left) (by rw[gG];simp only[len_app,q5,q3];omega)) (by left) (by rw[gG];simp only[len_app,q5,q3];omega)) (aQ (by left) (aQ (by left) cF)))) bV)))) (EX (ones:=[(mD c ys).1,(kK c ys).1]) (c8:=["("++IF (4 + dE c 1039 8 - 6) ++ " "," ",")"]) rfl (by simp) bo (by omega) (λo ho=>by
   simp only[bf,cM,or_false]at ho;rcases ho with rfl|rfl
   ·exact⟨k2,by omega,a2⟩
   ·exact⟨k1,by omega,a1⟩))) ?_
  rw[ec];exact⟨rfl,rfl⟩
 refine G6 (rn (x:=4 + dE c 1039 8) (by left) (by left)) (decide_eq_false IA) ?_;refine CJ mm.nd rfl (vm.kept (by decide)) (pD (ys:=(mD c ys).2) (c:=c / 11) DT hr rfl rfl (kD (by left) (by left))) ?_;have YC:∀o∈[(qK c ys).1,(mD c ys).1,(kK c ys).1],∃k,k<=1000000/\m5 k o:=λo ho=>by
  simp only[bf,cM,or_false]at ho;rcases ho with rfl|rfl|rfl
  ·exact⟨k3,by omega,a3⟩
  ·exact⟨k2,by omega,a2⟩
  ·exact⟨k1,by omega,a1⟩
 by_cases ZL:4 + dE c 1039 8=10
 ·have ec:ie c ys=(X5 (qK c ys).1 (mD c ys).1 (kK c ys).1,(qK c ys).2):=by unfold ie;rw[if_neg h6,if_neg IA,if_pos ZL]
  have bo:=MZ a3 a2 a1;refine G5 (eL (x:=4 + dE c 1039 8) (by left) (by left)) (decide_eq_true ZL) ?_;refine CI (d:=fP (X5 (qK c ys).1 (mD c ys).1 (kK c ys).1)) (bG DB vp (rs:=[.d (.str "if"),.d (.tuple []),.o [fP (qK c ys).1,fP (mD c ys).1,fP (kK c ys).1],.o [.str "(if ",.str " ",.str " ",.str ")"]]) (aA (by left) (aA (by left) (aA (by left) (aA (by left) bV)))) (EX (ones:=[(qK c ys).1,(mD c ys).1,(kK c ys).1]) (c8:=["(if "," "," ",")"]) rfl (by simp) bo (by omega) YC)) ?_;rw[ec];exact⟨rfl,rfl⟩
 refine G6 (eL (x:=4 + dE c 1039 8) (by left) (by left)) (decide_eq_false ZL) ?_;have ec:ie c ys=(EY (eP (c / 12)) (eV (c / 3)) (eV (c / 7)) (qK c ys).1 (mD c ys).1 (kK c ys).1,(qK c ys).2):=by unfold ie;rw[if_neg h6,if_neg IA,if_neg ZL]
 have bo:=EZ (jZ (c / 3)) (jZ (c / 7)) lw lv lk (pB (c / 12)) (pC (c / 12)) a3 a2 a1;refine wj mm.nd rfl (vm.kept (by decide)) (d:=.str (eV (c / 7))) (bG DN vp (aA (kD (by left) (by left)) bV) ⟨c / 7,rfl,rfl⟩) ?_;refine II mm.nd rfl (vm.kept (by decide)) (xs:=[.str ("(case "++mO (eP (c / 12)) ++ " "),.str " ",.str (" "++eV (c / 3) ++ " "++eV (c / 7) ++ " "),.str ")"]) (gq (aQ (du (du (by left) (by left) (by rw[gG];simp only[len_app,q4,q3];omega)) (by left) (by rw[gG];simp only[len_app,q4,q3];omega)) (aQ (by left) (aQ (du (du (du (du (by left) (by left) (by rw[gG];simp only[len_app,q3];omega)) (by left) (by rw[gG];simp only[len_app,q3];omega)) (by left) (by rw[gG];simp only[len_app,q3];omega)) (by left) (by rw[gG];simp only[len_app,q3];omega)) (aQ (by left) cF))))) ?_;refine wj mm.nd rfl (vm.kept (by decide)) (d:=.tuple [eW (eP (c / 12)),.str (eV (c / 3)),.str (eV (c / 7))]) (by left) ?_;refine CI (d:=fP (EY (eP (c / 12)) (eV (c / 3)) (eV (c / 7)) (qK c ys).1 (mD c ys).1 (kK c ys).1)) (bG DB vp (rs:=[.d (.str "case"),.d (.tuple [eW (eP (c / 12)),.str (eV (c / 3)),.str (eV (c / 7))]),.o [fP (qK c ys).1,fP (mD c ys).1,fP (kK c ys).1],.l [.str ("(case "++mO (eP (c / 12)) ++ " "),.str " ",.str (" "++eV (c / 3) ++ " "++eV (c / 7) ++ " "),.str ")"]]) (aA (by left) (aA (by left) (aA (by left) (aA (by left) bV)))) (EX (ones:=[(qK c ys).1,(mD c ys).1,(kK c ys).1]) (c8:=["(case "++mO (eP (c / 12)) ++ " "," "," "++eV (c / 3) ++ " "++eV (c / 7) ++ " ",")"]) rfl (by simp) bo (by omega) YC)) ?_;rw[ec];exact⟨rfl,rfl⟩
theorem uu:b5 ["_law_cells","_law_pile","_law_k","_law_cell","_law_made","_law_item"] ["_law_cells"] (aJ qw):=⟨rfl,rfl,rfl,by symm,rfl,by symm,by symm⟩
theorem Vj{f:aj}{fd:be}(F:jP K "_law_grown" "_law_grown" qw f fd)(B:Plain mg)(DL:cK P w K mg base 2 "_law_leaf" ["_law_cell"] (gr K MR))(DT:cK P w K mg base 3 "_law_taken" ["_law_pile","_law_cell"] (sF K))(DC:cK P w K mg base 4 "_law_combined" ["_law_pile","_law_cell"] (G7 K))(DB:cK P w K mg base 1 "_law_built_up" ["_law_word","_law_marks","_law_ones","_law_gaps"] (gr K rG)):fi P w K mg base kx 5 f fd ["_law_cells"] (gr K M1):=by
 refine F.vz uu (λas r h=>?_) (λeR A outer s H E as r hr h=>?_)
 ·obtain⟨cs,rfl,_⟩:=h;exact⟨rfl,by simp⟩
 obtain⟨cs,rfl,hc,rfl⟩:=h;have gG:av=16777216:=cU;show VS _ _ [.l (cs.map .int),.un,.un,.un,.un,.un] _;refine jr uu.nd rfl (xs:=[]) (by left) ?_;refine kF bF rfl (pj B.range (n:=cs.length) (dm (oa B.len (by left) rfl) (by rw[ay])) (by omega)) (js uu.nd rfl)
  (λi ρ=>∃x y z:Sl,(∀xs,z≠.o xs)/\ρ=[.l (cs.map .int),.o ((eU cs i).map fP).reverse,x,y,z,.un]) ⟨.un,.un,.un,(λ_ z=>nomatch z),rfl⟩ ?_ ?_
 ·rintro i d ρ hd ⟨x,y,z,nz,rfl⟩;obtain⟨hi,rfl⟩:=ye hd;obtain⟨po,pl⟩:=sI cs i;refine⟨_,rfl,?_⟩;have Qx:cs[i]?=some cs[i]:=ag hi;have wO:cellAt cs i=cs[i]+7 * (i:Int):=by unfold cellAt;rw[Qx];rfl
  show VS _ _ [.l (cs.map .int),.o ((eU cs i).map fP).reverse,.d (.int (i:Int)),y,z,.un] _;refine cD uu.nd rfl (d:=.int (cellAt cs i)) (dm (gH (gC (xs:=cs.map .int) (d:=.int cs[i]) (by left) (by left) rfl (gp (by rw[aw,Qx];rfl))) (p7 (by left) (by left) (.inl ⟨by decide,by decide⟩))) (by rw[wO])) ?_;by_cases h4:dE (cellAt cs i) 1051 12<4
  ·have ep:eU cs (i+1)=dJ (cellAt cs i / 12)::eU cs i:=by rw[eU,if_pos h4]
   refine cz (rn (x:=dE (cellAt cs i) 1051 12) (gw (by left)) (by left)) (decide_eq_true h4) ?_;refine fG rfl rfl (d:=fP (dJ (cellAt cs i / 12))) (bG DL (hr.mono (by decide)) (aA (kD (by left) (by left)) bV) ⟨_,rfl,rfl⟩) (by rw[gG];simp;omega) (cg (cg ⟨.d (.int (i:Int)),.d (.int (cellAt cs i)),z,nz,?_⟩));rw[ep];simp
  ·have ep:eU cs (i+1)=(ie (cellAt cs i) (eU cs i)).1::(ie (cellAt cs i) (eU cs i)).2:=by rw[eU,if_neg h4]
   have cl:=E1 (cellAt cs i) (eU cs i);refine lA (rn (x:=dE (cellAt cs i) 1051 12) (gw (by left)) (by left)) (decide_eq_false h4) ?_;refine sJ uu.nd rfl (PB (ys:=eU cs i) (c:=cellAt cs i) DC hr rfl rfl (by omega) po (by left)) ?_;refine fG rfl rfl (d:=fP (ie (cellAt cs i) (eU cs i)).1) (by left) (by rw[gG];simp;omega) (cg (cg ⟨.d (.int (i:Int)),.d (.int (cellAt cs i)),.d (fP (ie (cellAt cs i) (eU cs i)).1),(λ_ z=>nomatch z),?_⟩));rw[ep];simp
 ·rintro ρ ⟨x,y,z,nz,rfl⟩;rw[show(mB 0 cs.length).length=cs.length from by simp[mB]];obtain⟨po,pl⟩:=sI cs cs.length;obtain⟨k0,n0,a0,b0,e0⟩:=qm po (lS 0);have l0:=kJ (dJ 0) (eU cs cs.length);refine sJ uu.nd rfl (pD (ys:=eU cs cs.length) (c:=0) DT (hr.mono (by decide)) rfl rfl (by left)) ?_;refine vb bF (λm ρ=>∃(xs:List BI)(x:BI)(p q t:Sl)(k n:Nat),m=xs.length/\(∀xs,t≠.o xs)/\m5 k x/\i0 n xs/\k + n+20 * xs.length<=200000/\rJ x xs=fc cs/\ρ=[.l (cs.map .int),.o (xs.map fP).reverse,p,q,t,.d (fP x)])
   ⟨_,(j0 (dJ 0) (eU cs cs.length)).2,(j0 (dJ 0) (eU cs cs.length)).1,x,y,z,k0,n0,rfl,nz,a0,b0,by omega,rfl,rfl⟩ ?_
  rintro m eM ⟨xs,x,p,q,t,k,n,rfl,nt,bx,pn,hz,hg,rfl⟩;cases xs with
  |nil=>
   refine⟨false,bW (qb (y:=0) (oa B.len (by left) rfl) (by left)) (by simp),(λz=>nomatch z),λ_=>?_⟩;refine bR (dm (r':=.d (fP (fc cs))) (bU rfl rfl) (by rw[<-hg];rfl)) (.inl rfl)
  |cons b xs=>
   cases pn with
   |cons h1 h2 h3=>
    rename_i kb nb;refine⟨true,bW (qb (y:=0) (oa B.len (by left) rfl) (by left)) (by simp),λ_=>?_,(λz=>nomatch z)⟩;have bo:=vk h1 bx
    refine sJ (d:=fP (xD b x)) uu.nd rfl (E2 (ds:=[fP b,fP x]) (xs:=[.str "(add ",.str " ",.str ")"]) DB (hr.mono (by decide)) (by left) (by left) (su (Mn (xs:=(xs.map fP).reverse) (d:=fP b) rfl (by simp)) (su (QV (d:=fP x) (bU rfl rfl)) Il)) (by left) (EX (ones:=[b,x]) (c8:=["(add "," ",")"]) rfl (by simp) bo (by omega) (λo ho=>by
     simp only[bf,cM,or_false]at ho;rcases ho with rfl|rfl
     ·exact⟨kb,by omega,h1⟩
     ·exact⟨k,by omega,bx⟩)) (by rw[gG];simp)) (cg ?_)
    refine⟨xs.length,by simp,xs,xD b x,p,q,t,_,_,rfl,nt,bo,h2,by simp at hz;omega,hg,rfl⟩
theorem Hj:b5 ["part","number","pieces","own"] ["part","number"] (aJ oq):=⟨rfl,rfl,rfl,by symm,rfl,by symm,by symm⟩
theorem Vk:CM ["part","number","pieces","own"] (aJ oq) {kind:=.function,names:=[(".0",.local),("index",.local),("piece",.local)],isGenerator:=false,isCoroutine:=false} "index" "piece":=⟨rfl,by symm,by symm,rfl,by symm,by symm,by symm⟩
theorem Vl{f:aj}{fd:be}(F:jP K "ahead_of" "ahead_of" oq f fd)(B:Plain mg)(DP:cK P w K mg base 2 "pieces_of_part" ["part"] (gr K GQ)):fi P w K mg base kx 3 f fd ["part","number"] (gr K M9):=by
 refine F.vz Hj (λas r h=>?_) (λeR A outer s H E as r hr h=>?_)
 ·obtain⟨t,i,rfl,_⟩:=h;exact⟨rfl,by simp⟩
 obtain⟨t,i,rfl,ok,hi,rfl⟩:=h;have gG:av=16777216:=cU;have hw:(jK t).length<=14:=by cases t<;>simp[jK]
 have hle:(T7 t).length<=av:=by rw[gG];unfold T7;rw[List.length_mapIdx];omega
 show VS _ _ [.d (dY t),.d (.int (i:Int)),.un,.un] _;refine jr Hj.nd rfl (xs:=(jK t).map uC) (bG DP hr (aA (by left) bV) ⟨t,rfl,ok,rfl⟩) ?_;refine PL (i:=2) (xs:=(jK t).map uC) rfl ?_;refine E4 (ps:=T7 t) (g:=λq=>q.1) (ok:=CU) Hj.nd rfl Vk rfl (by rw[<-Nb];exact L5 B.enumerate rfl rfl) hle (λa ha dS cl C s0 H0 fp pins=>bU rfl rfl) (λa ha cl C s0 H0 fp pins=>?_) ?_
 ·obtain⟨p,hp⟩:=T8 ha;obtain⟨d,hd⟩:=X9 p;have e:CU a=decide (pcW p = "part"):=by unfold CU;rw[hp,hd]
  rw[e,hp,hd];exact bX (dg (xs:=[.str (pcW p),d]) (bU rfl rfl) tY rfl) yR
 rw[PN];have Lk:i<(m7 t).length:=by rw[Ki];exact hi
 have mW:oZ ((m7 t).map λ(k:Nat)=>eJ (k:Int)) (i:Int)=some (.int (qL t i:Nat)):=gp (by
  rw[aw,ag Lk];unfold qL;rw[gK,ag Lk]
  rfl)
 have UO:cutD ((jK t).map uC) none (some (qL t i:Nat))=(CN t i).map uC:=by
  have:=PQ t i;unfold cutD CN;rw[List.map_take];simp[HT.jw];congr 1;split<;>omega
 refine bR (r:=.o ((CN t i).map uC)) (dm (LX (xs:=(jK t).map uC) (i:=none) (j:=some (qL t i:Nat)) (by left) uZ (mz (gC (xs:=(m7 t).map λ(k:Nat)=>eJ (k:Int)) (by left) (by left) rfl mW)) rfl) (by rw[UO])) (.inl rfl)
theorem uv:b5 ["expr","place","start","part","number","below"] ["expr","place"] (aJ C5):=⟨rfl,rfl,rfl,by symm,rfl,by symm,by symm⟩
theorem Vm{f:aj}{fd:be}(F:jP K "span" "span" C5 f fd)(B:Plain mg)(DO:cK P w K mg base 1 "own_part" ["part","number"] (gr K Q4))(DS:cK P w K mg base 3 "spelled" ["pieces"] (gr K GR))(DA:cK P w K mg base 3 "ahead_of" ["part","number"] (gr K M9))(DH:cK P w K mg base 4 "shown" ["expr"] (gr K CA)):fi P w K mg base kx 5 f fd ["expr","place"] (gr K Na):=by
 refine F.vz uv (λas r h=>?_) (λeR A outer s H E as r hr h=>?_)
 ·obtain⟨t,u,p,rfl,_⟩:=h;exact⟨rfl,by simp⟩
 obtain⟨t,u,p,rfl,mW,ok,hw,hl,rfl⟩:=h;have gG:av=16777216:=cU;have kY:((mi p).map eJ).length=p.length:=by simp[mi]
 show VS _ _ [.d (dY t),.d (.tuple ((mi p).map .int)),.un,.un,.un,.un] _;refine cD uv.nd rfl (d:=.int ((0:Nat):Int)) (by left) ?_;refine cD uv.nd rfl (d:=dY t) (by left) ?_;refine kF bF rfl (GG (xs:=(mi p).map .int) (by left)) (js uv.nd rfl)
  (λi ρ=>∃(v:WT)(y z:Sl),oP t (p.take i)=some v/\(∀xs,z≠.o xs)/\ρ=[.d (dY t),.d (.tuple ((mi p).map .int)),.d (.int (gZ t (p.take i):Nat)),.d (dY v),y,z]) ⟨t,.un,.un,rfl,(λ_ z=>nomatch z),rfl⟩ ?_ ?_
 ·rintro i d ρ hd ⟨v,y,z,hv,nz,rfl⟩;have hi:i<p.length:=by have:=(ak.mp hd).1;omega
  obtain⟨v',x,YD,hx,Rb⟩:=IX mW i hi;rw[hv]at YD;cases YD;have hn:p.getD i 0=p[i]:=by rw[gK,ag hi];rfl
  rw[hn]at hx;obtain rfl:d = .int (p[i]:Nat):=by
   unfold mi at hd;rw[fh,aw,ag hi]at hd;simp at hd;exact hd.symm
  obtain⟨a1,a2,a3⟩:=zC hv;obtain⟨b1,b2,b3⟩:=sL hx;have hio:p[i]<v.own.length:=(ak.mp hx).1;have FQ:p.take (i+1)=p.take i++[p[i]]:=by rw[ef,ag hi];rfl
  obtain⟨_,KG⟩:=IU hv hx;have hwp:=Cz v;have YA:=Kj (jK v) (qL v p[i]);have i9:=Kk (jK v) (qL v p[i]);have Wv:=zy v;rw[Io,Wv]at i9;refine⟨_,rfl,?_⟩;show VS _ _ [.d (dY t),.d (.tuple ((mi p).map .int)),.d (.int (gZ t (p.take i):Nat)),.d (dY v),.d (.int (p[i]:Nat)),z] _;refine cD uv.nd rfl (d:=dY x) (bG DO (hr.mono (by decide)) (aA (by left) (aA (by left) bV)) ⟨v,x,p[i],rfl,hx,rfl⟩) ?_;refine PK uv.nd rfl rfl (n:=((BK v p[i]).length:Nat)) (va B.len (bG DS (hr.mono (by decide)) (rs:=[.o ((CN v p[i]).map uC)]) (aA (bG DA (hr.mono (by decide)) (aA (by left) (aA (by left) bV)) ⟨v,p[i],rfl,a1 ok,hio,rfl⟩) bV) ⟨CN v p[i],rfl,λq hq=>Iu (a1 ok) q (FC hq),by unfold CN;omega,by unfold CN;omega,rfl⟩) (by rw[gG];show(BK v p[i]).length<=_;omega)) ?_;refine cD uv.nd rfl (d:=dY x) (by left) (cg ⟨x,.d (.int (p[i]:Nat)),.d (dY x),Rb,(λ_ z=>nomatch z),?_⟩);rw[FQ,KG];simp
 ·rintro ρ ⟨v,y,z,hv,nz,rfl⟩;rw[kY,iC]at hv ⊢;rw[mW]at hv;cases hv;obtain⟨a1,a2,a3⟩:=zC mW;exact bR (dm (dP (aQ (by left) (aQ (gH (by left) (va B.len (bG DH hr (aA (by left) bV) ⟨u,rfl,a1 ok,by omega,by rw[zy];omega,rfl⟩) (by rw[gG];omega))) cF))) (by simp)) (.inl rfl)
theorem C9:b5 ["line","groups","token","group"] ["line"] (aJ rO):=⟨rfl,rfl,rfl,by symm,rfl,by symm,by symm⟩
theorem Qb{f:aj}{fd:be}(F:jP K "gathered" "gathered" rO f fd)(B:Plain mg)(DT:rB P w K mg base 1 "tokens" ["line"] (gr K X1))(DW:cK P w K mg base 2 "from_word" ["token"] (gr K Bx))(DB:cK P w K mg base 2 "from_brackets" ["group"] (gr K EM))(DA:cK P w K mg base 1 "as_due" ["due","found"] (gr K GW)):lg P w K mg base kx 3 f fd ["line"] (gr K Nk):=by
 refine F.QY C9 (λvs H Q E h=>?_) (λeR A outer s H vs Q E hr h=>?_)
 ·obtain⟨as,r,h1,⟨l,t,rfl,_⟩,_⟩:=h;rw[h1.length];rfl
 obtain⟨as,r,h1,⟨l,t,rfl,FQ,wf,ok,hz,rfl⟩,q⟩:=h;have gG:av=16777216:=cU;refine⟨_,JV (gO C9.nd (i:=1) rfl (.inl rfl) (tW (aO (tW bD) bD))) (v8 (Pj (tb:=X2 K l) bF rfl (Mt (EC DT (hr.mono (by decide)) (ρ:=[.d (.str l),.un,.un,.un]) (aA (bU rfl rfl) bV) ⟨l,rfl,hz,rfl⟩)) (i5 C9.nd (i:=2) rfl (.inl rfl)) ?_) (cE (j7 (PW.pt (Hu (kz AS (gf eY rfl B.len eA (aO (gN (i:=1) rfl (.inl rfl)) bD)) cS rfl) (FJ (kz AS (gf eY rfl B.len eA (aO (eO mw (gN (i:=1) rfl (.inl rfl)) cS (λ_ _=>rfl)) bD)) cS rfl)))) gz jN) (di (iq (iQ DA (hr.mono (by decide)) rfl (aO tU (aO (eO mw (eO mw (gN (i:=1) rfl (.inl rfl)) cS (λ_ _=>rfl)) cS (λ_ _=>rfl)) bD))))))),?_⟩
 ·rintro pins s1 σ H1 D I ⟨H0,T,ts,lo,g,tok,lo',g',st,htl,hlo,hlen,⟨G,as,Dr,h0,h1,x⟩,h2,k⟩;cases st with
  |Zr=>
   refine qD.use (di (j7 (VT.pt (bW (bX (x:="(") (y:="(") (ρ:=[.d (.str l),.un,.d (.str "("),.un]) (by left) (by left)) (by decide:decide (("(":Str) = "(")=true))) (di (mv (ph bJ eg eh lz (gN (i:=1) rfl (.inl rfl)) (aO (tW bD) bD)))) gz)) I ?_;refine⟨⟨_,_,wb Dr h0 h2⟩,λH2 s2=>uT ?_⟩;have x2:=x.grow s2;refine⟨_,h1,.inl ⟨rfl,_,fU.of x2.Fx⟩,by rw[gG];simp,λp np=>?_⟩;have x3:=x2.grow (bu np (.lst []));refine⟨G,_,_,rfl,rfl,x3.Fx,by rw[ay,x.len,gG];simp;omega,?_⟩;refine k _ _ ⟨G,as++[p],Dr,h0,h1,?_⟩;have:=x2.push np;rw[bI]at this;exact this
  |@cls lo g h f' hb=>
   refine qD.use (di (j7 (VT.pt (bW (bX (x:=")") (y:="(") (ρ:=[.d (.str l),.un,.d (.str ")"),.un]) (by left) (by left)) (by decide:decide ((")":Str) = "(")=false))) gz (di (j7 (VT.pt (bW (bX (x:=")") (y:=")") (ρ:=[.d (.str l),.un,.d (.str ")"),.un]) (by left) (by left)) (by decide:decide ((")":Str) = ")")=true)))
    (cE (gO C9.nd (i:=3) rfl (.inl rfl) (vO bJ ft fw vP (gN (i:=1) rfl (.inl rfl)))) (cE (j7 (KD (uN (gN (i:=1) rfl (.inl rfl)) (λ_=>rfl))) gz jN)
     (di (mv (ph bJ eg eh lz (eO mw (gN (i:=1) rfl (.inl rfl)) (KI FO cS) (λ_ _=>rfl)) (aO (VE.pe (bG DB hr (ρ:=[.d (.str l),.un,.un,.l (g.map xj)]) (aA (by left) bV) ⟨g,f',rfl,hb,rfl⟩)) bD)))))) gz)))) I ?_
   refine⟨⟨_,_,wb Dr h0 h2⟩,λH2 s2=>qJ ⟨⟨_,_,wb Dr h0 h2⟩,λH3 s3=>uT ?_⟩⟩;have x2:=x.grow (s2.trans s3);obtain⟨xC,a,rfl,JA,_,na⟩:=x2.last;obtain⟨x3,la⟩:=x2.pop;obtain⟨YE,b,rfl,V8,⟨vs,hb',IM⟩,nb⟩:=x3.last;refine⟨_,h1,.inl ⟨rfl,_,fU.of x2.Fx⟩,G,_,.ref a,rfl,rfl,x2.Fx,by simp,?_⟩;have e1:(((YE++[b])++[a]).map V.ref).dropLast=(YE++[b]).map V.ref:=by rw[bI,List.map_singleton,hW]
   rw[e1];have k1:(σ.set 3 (some (V.ref a)))[1]?=some (some (.ref G)):=by rw[hU (by decide)];exact h1
   have k0:(σ.set 3 (some (V.ref a)))[0]?=some (some (.str l)):=by rw[hU (by decide)];exact h0
   have k3:(σ.set 3 (some (V.ref a)))[3]?=some (some (.ref a)):=by rw[kT (by rw[Dr];decide)]
   have kl:(σ.set 3 (some (V.ref a))).length=4:=by rw[fq];exact Dr
   refine⟨_,k1,_,.inl ⟨_,fU.of x3.Fx,rfl⟩,?_⟩;show ite ((!(!((YE++[b]).map V.ref).isEmpty))=true) _ _;rw[show(!(!((YE++[b]).map V.ref).isEmpty))=false from by simp];refine qJ ?_;refine⟨_,k1,1,rfl,G,_,(-1),.ref b,rfl,rfl,fU.of x3.Fx,?_,.inl ⟨rfl,_,fU.of hb'⟩,⟨_,_,TV kl k0 k3 la⟩,λv H4 s4 rv=>?_⟩
   ·rw[bI];exact D0 _ _
   ·have x4:=x3.grow s4;have hgl:=hlen h (by simp);refine⟨b,vs,v,rfl,rfl,s4 _ _ hb',by rw[IM.length,ay,gG];omega,?_⟩;exact k _ _ ⟨G,YE++[b],kl,k0,k1,x4.add (s4 _ _ hb') (bB.mono (bq.of_same s4) _ _ IM) rv⟩
  |@XY lo g tok f' n1 n2 hw=>
   refine qD.use (di (j7 (VT.pt (bW (bX (x:=tok) (y:="(") (ρ:=[.d (.str l),.un,.d (.str tok),.un]) (by left) (by left)) (decide_eq_false n1))) gz (di (j7 (VT.pt (bW (bX (x:=tok) (y:=")") (ρ:=[.d (.str l),.un,.d (.str tok),.un]) (by left) (by left)) (decide_eq_false n2))) gz (di (mv (ph bJ eg eh lz (eO mw (gN (i:=1) rfl (.inl rfl)) (KI FO cS) (λ_ _=>rfl)) (aO (VE.pe (bG DW hr (ρ:=[.d (.str l),.un,.d (.str tok),.un]) (aA (by left) bV) ⟨tok,f',rfl,htl,hw,rfl⟩)) bD)))))))) I ?_;refine⟨⟨_,_,wb Dr h0 h2⟩,λH2 s2=>qJ ⟨⟨_,_,wb Dr h0 h2⟩,λH3 s3=>qJ ?_⟩⟩;have x2:=x.grow (s2.trans s3);obtain⟨xC,a,rfl,JA,⟨vs,ha,IM⟩,na⟩:=x2.last;refine⟨_,h1,1,rfl,G,_,(-1),.ref a,rfl,rfl,fU.of x2.Fx,?_,.inl ⟨rfl,_,fU.of ha⟩,⟨_,_,wb Dr h0 h2⟩,λv H4 s4 rv=>?_⟩
   ·rw[bI];exact D0 _ _
   ·have x3:=x2.grow s4;have hgl:=hlen g (by simp);refine⟨a,vs,v,rfl,rfl,s4 _ _ ha,by rw[IM.length,ay,gG];omega,?_⟩;exact k _ _ ⟨G,xC++[a],Dr,h0,h1,x3.add (s4 _ _ ha) (bB.mono (bq.of_same s4) _ _ IM) rv⟩
 ·have hvs:vs=[.str l]:=by
   obtain⟨v,rfl,r1⟩:=mx.one h1;rw[fV.cY r1]
  subst hvs;refine⟨by rw[gG];simp,λp np=>⟨by rw[gG];simp,λG nG=>?_⟩⟩;have pG:p≠G:=λz=>by rw[z,aW]at nG;cases nG
  have sG:bK H (upd (upd H p (.lst [])) G (.lst [.ref p])):=(bu np _).trans (bu nG _);refine⟨⟨_,_,Pq rfl rfl⟩,λv H1 s1 rv=>?_⟩;obtain⟨T,rfl,nT,ws,hT,rT⟩:=rv;obtain rfl:=v7 rT;refine⟨T,rfl,⟨_,fU.of hT⟩,?_⟩;have Tp:T≠p:=λz=>by rw[z,bP pG,aW]at nT;cases nT
  have TG:T≠G:=λz=>by rw[z,aW]at nT;cases nT
  refine DM (xs:=(toks l).map V.str) (λi σ H'=>∃lo g,sW lo g ((kc t).drop i) [] [.part t]/\lo.length<=i/\(∀h∈lo++[g],h.length<=i)/\GSt K H T ((toks l).map V.str) (lo++[g]) l σ H') ?_ ?_ ?_ ?_
  ·refine⟨[],[],MJ wf ok,au _,by simp,G,[p],rfl,rfl,rfl,sG.trans s1,(bu np _).free nG,s1 _ _ aW,rfl,λi a g h1 h2=>?_,by simp,by simpa using dz pG,by simpa using Tp,TG,hT⟩;cases i with
   |zero=>
    cases h1;cases h2;exact⟨⟨[],s1 _ _ (by rw[bP pG];exact aW),.nil⟩,np⟩
   |succ i=>simp at h1
  ·rintro i σ H' _ ⟨lo,g,_,_,_,G,as,_,_,_,x⟩;exact fU.of x.tok
  ·rintro i v σ H' hv ⟨lo,g,run,l1,l2,G,as,Dr,k0,k1,x⟩;rw[aw]at hv;cases hq:(toks l)[i]? with
   |none=>rw[hq]at hv;cases hv
   |some tok=>
    rw[hq]at hv;cases hv;have hm:=aI hq;have hbl:=J4 hm;have hn:=MM l;have i9:i<(toks l).length:=(ak.mp hq).1;rw[FQ]at hq;have hi:i<(kc t).length:=(ak.mp hq).1;have e1:(kc t).drop i=tok::(kc t).drop (i+1):=by rw[dW hi];congr 1;exact(ak.mp hq).2
    rw[e1]at run;cases run with
    |@cons _ _ _ lo1 g1 _ _ _ st run'=>
     refine⟨H,T,_,lo,g,tok,lo1,g1,st,by omega,by omega,λh hh=>by have:=l2 h hh;omega,⟨G,as,by rw[fq];exact Dr,by rw[hU (by decide)];exact k0,by rw[hU (by decide)];exact k1,x⟩,by rw[kT (by rw[Dr];decide)],λdI XA gst=>⟨lo1,g1,run',?_,?_,gst⟩⟩
     ·cases st with
      |Zr=>simp;omega
      |cls _=>simp at l1;omega
      |XY=>omega
     ·cases st with
      |Zr=>
       intro h hh;rcases bj.mp hh with z|z
       ·have:=l2 h z;omega
       ·rw[aM]at z;subst z;simp
      |@cls lo g h' f' hb=>
       intro h hh;rcases bj.mp hh with z|z
       ·have:=l2 h (bZ _ (bZ _ z));omega
       ·rw[aM]at z;subst z;have:=l2 h' (bZ _ (az _ (by simp)));simp;omega
      |@XY lo g x' f' _ _ _=>
       intro h hh;rcases bj.mp hh with z|z
       ·have:=l2 h (bZ _ z);omega
       ·rw[aM]at z;subst z;have:=l2 g (az _ (by simp));simp;omega
  ·rintro σ H' ⟨lo,g,run,l1,l2,G,as,Dr,k0,k1,x⟩;rw[ay,FQ,pR]at run;cases run;obtain⟨xC,a,rfl,JA,⟨vs,ha,IM⟩,na⟩:=x.last;cases xC with
   |cons _ _=>simp at JA
   |nil=>
    obtain⟨v,vs',rfl,rv,re⟩:=IM.split;obtain rfl:vs'=[]:=by
     have:=re.length;cases vs' with
     |nil=>rfl
     |cons _ _=>simp at this
    refine⟨_,k1,G,_,rfl,.inl (fU.of x.Fx),rfl,_,rfl,qJ ?_⟩;refine⟨_,k1,G,_,0,.ref a,rfl,rfl,fU.of x.Fx,rfl,a,_,rfl,.inl (fU.of ha),rfl,_,rfl,qJ ?_⟩;refine⟨_,k1,G,_,0,.ref a,rfl,rfl,fU.of x.Fx,rfl,a,_,0,v,rfl,rfl,fU.of ha,rfl,?_⟩;refine⟨[.d (.str "part"),.d (xj (.part t))],.d (dY t),.cons (Rep.str (K:=K) (H:=H') "part") (.cons rv .nil),⟨"part",.part t,dY t,rfl,rfl,rfl⟩,λu XA s' r'=>q u XA (x.same.trans s') r'⟩
theorem NC:b5 ["line","expr"] ["line"] (aJ C6):=⟨rfl,rfl,rfl,by symm,rfl,by symm,by symm⟩
theorem Qc{f C:aj}{fd:be}(F:jP K "read" "read" C6 f fd)(cx:Eg K mg "NoLine" C)(DG:rB P w K mg base 3 "gathered" ["line"] (gr K Nk))(DS:cK P w K mg base 4 "shown" ["expr"] (gr K CA)):lg P w K mg base (Be P w base) 5 f fd ["line"] (AF K (Nl C)):=by
 refine F.Q1 NC (λas o h=>?_) (λeR A outer s H E as o hr h hE=>?_)
 ·obtain⟨l,t,rfl,_⟩:=h;exact⟨rfl,by simp⟩
 obtain⟨l,t,rfl,FQ,bg,hl,ho⟩:=h;have hln:=bg.ln;have hwt:=bg.wt;have Nv:((j9 t).map (·.length)).sum<=16777216:=by rw[zy];omega
 show BJ _ _ _ [.d (.str l),.un] _;refine PV (d:=dY t) NC.nd rfl (λ_ _ _ z=>z) (EC DG (hr.mono (by decide)) (aA (by left) bV) ⟨l,t,rfl,FQ,bg.wf,bg.ok,hl,rfl⟩) ?_;by_cases e:aS t=l
 ·rw[if_pos e]at ho;refine Mp (k:=false) (bW (yU (x:=aS t) (y:=l) (bG DS hr (aA (by left) bV) ⟨t,rfl,bg.ok,by omega,Nv,rfl⟩) (by left)) (by simp[e])) rfl ?_;exact GP (by left) ⟨_,ho,.inl rfl⟩
 ·rw[if_neg e]at ho;refine Mq (k:=true) (bW (yU (x:=aS t) (y:=l) (bG DS hr (aA (by left) bV) ⟨t,rfl,bg.ok,by omega,Nv,rfl⟩) (by left)) (by simp[e])) rfl ?_;exact Mk Cg cx (hE C ho)
theorem Hk:b5 ["line","expr","told"] ["line"] (aJ um):=⟨rfl,rfl,rfl,by symm,rfl,by symm,by symm⟩
theorem Vn{f C:aj}{fd:be}(F:jP K "pointed" "pointed" um f fd)(DR:tD P w K mg base 5 "read" ["line"] (AF K (Nl C)))(DF:cK P w K mg base 4 "fault" ["expr","scope"] (gr K CZ))(DS:cK P w K mg base 5 "span" ["expr","place"] (gr K Na)):lg P w K mg base (Be P w base) 6 f fd ["line"] (AF K (yf C)):=by
 refine F.Q1 Hk (λas o h=>?_) (λeR A outer s H E as o hr h hE=>?_)
 ·obtain⟨l,t,rfl,_⟩:=h;exact⟨rfl,by simp⟩
 obtain⟨l,t,rfl,FQ,bg,hl,ho⟩:=h;have hln:=bg.ln;have hwt:=bg.wt;show BJ _ _ _ [.d (.str l),.un,.un] _;refine M6 (o:=if aS t=l then .inl (.d (dY t))else .inr C) Hk.nd rfl (λ_ _ _ z=>z) (Kg Cg DR hr (aA (by left) bV) ⟨l,t,rfl,FQ,bg,hl,rfl⟩ (λC' z=>?_)) (λr z=>?_) (λd z=>?_)
 ·by_cases e:aS t=l
  ·rw[if_pos e]at z;cases z
  ·rw[if_neg e]at z ho;cases z;exact hE C ho
 ·by_cases e:aS t=l
  ·rw[if_pos e]at z;cases z;exact⟨_,rfl⟩
  ·rw[if_neg e]at z;cases z
 ·by_cases e:aS t=l
  ·rw[if_pos e]at z ho;cases z;refine Ts Hk.nd rfl (λ_ _ _ z=>z) (d:=Ks (wN t)) (bG DF (hr.mono (by decide)) (rs:=[.d (dY t),.o []]) (aA (by left) (aA (gq cF) bV)) ⟨t,rfl,bg.ks,bg.fn,hwt,rfl⟩) ?_;cases hf:wN t with
   |none=>
    rw[vt hf]at ho;exact Mq (k:=true) (tZ (ra:=.d .none) (by left)) rfl (GP (by left) ⟨_,ho,.inl rfl⟩)
   |some br=>
    obtain⟨u,hu⟩:=CY hf;rw[C4 hf hu]at ho;refine Mp (k:=false) (bW (tZ (ra:=.d (.tuple [xW br.1,nM br.2.1,nM br.2.2])) (by left)) rfl) rfl ?_;exact GP (bG DS hr (rs:=[.d (dY t),.d (.tuple ((mi br.1).map .int))]) (aA (by left) (aA (dm (dg (xs:=[xW br.1,nM br.2.1,nM br.2.2]) (bU rfl rfl) (by left) rfl) (by simp[xW,mi])) bV)) ⟨t,u,br.1,rfl,hu,bg.ok,by omega,by omega,rfl⟩) ⟨_,ho,.inl rfl⟩
  ·rw[if_neg e]at z;cases z
theorem Vo:b5 ["_law_found","_law_due"] ["_law_found","_law_due"] (aJ kQ):=⟨rfl,rfl,rfl,by symm,rfl,by symm,by symm⟩
theorem ND(K:aa):gA K (.type "tuple") (.type "tuple")=some true:=by first|rfl|kernel_rfl
theorem Vp{f:aj}{fd:be}(F:jP K "_law_stretch" "_law_stretch" kQ f fd)(B:Plain mg)(DW:cK P w K mg base 1 "_law_whole" ["_law_found"] (gr K XN)):fi P w K mg base kx 2 f fd ["_law_found","_law_due"] (gr K Ul):=by
 refine F.vz Vo (λas r h=>?_) (λeR A outer s H E as r hr h=>?_)
 ·obtain⟨a,b,rfl,_⟩:=h;exact⟨rfl,by simp⟩
 obtain⟨a,b,rfl,rfl⟩:=h;have hu:(A.deeper (fQ "_law_stretch" (aJ kQ) s.heap.objs.size f eR)).units+2<cLine:=by have:=hr.un;omega
 have can:ky (.tuple [.int a,.int b])=true:=rfl;have deep:BY (.tuple [.int a,.int b])<=2:=by simp[BY,qB]
 show VS _ _ [.d (.tuple [.int a,.int b]),.d (.tuple [.int a,.int b])] _;refine bt (k:=false) (hX (iw (bW (qc (i6 (JK B.isinstance B.tuple PyProof.Rows.boot_tuple (by left) rfl (ND K)))) (by rfl)) (hZ (bW (GB (n6 (xs:=[.int a,.int b]) B.len (by left)) (by left)) (by rfl))))) rfl ?_;refine bt (k:=false) (hX (iw (bW (qc (i6 (bG DW hr (aA (by left) bV) ⟨a,rfl,rfl⟩))) (by rfl)) (hZ (bW (qc (i6 (bG DW hr (aA (by left) bV) ⟨b,rfl,rfl⟩))) (by rfl))))) rfl ?_;exact bR (dm (S8 (n:=2) hu (by left) (by left) rfl rfl can can (.inl deep)) (by rw[SeqAt.eqv_refl _ can])) (.inl rfl)
theorem oR:b5 ["_law_cells","_law_bad","_law_pile","_law_k","_law_n","_law_one","_law_two","_law_item"] ["_law_cells","_law_bad"] (aJ uo):=⟨rfl,rfl,rfl,by symm,rfl,by symm,by symm⟩
theorem Vq{f:aj}{fd:be}(F:jP K "_law_sum" "_law_sum" uo f fd)(B:Plain mg)(zM:mg "str"=none)(DT:cK P w K mg base 3 "_law_taken" ["_law_pile","_law_cell"] (sF K))(DB:cK P w K mg base 1 "_law_built_up" ["_law_word","_law_marks","_law_ones","_law_gaps"] (gr K rG)):fi P w K mg base kx 4 f fd ["_law_cells","_law_bad"] (gr K Yf):=by
 refine F.vz oR (λas r h=>?_) (λeR A outer s H E as r hr h=>?_)
 ·obtain⟨cs,bad,rfl,_⟩:=h;exact⟨rfl,by simp⟩
 obtain⟨cs,bad,rfl,hc,rfl⟩:=h;have gG:av=16777216:=cU;have vp:=hr.mono (j:=1) (by decide);have eN:∀n:Int,iR "num" [.int n] [] [gE n]=fe (.num n):=λn=>by unfold fe;rw[mP];rfl
 have eT:iR "truth" [.bool true] [] ["yes"]=fe (.truth true):=by unfold fe;rw[kg];rfl
 have eQ:iR "name" [.str "qq"] [] ["qq"]=fe (.name "qq"):=by unfold fe;rw[mZ];rfl
 have bT:m5 500 (fe (.truth true)):=zI (by rw[kg];decide) trivial trivial trivial (by simp[iA]);have bQ:m5 500 (fe (.name "qq")):=zI (by rw[mZ];decide) Jb trivial trivial (by simp[iA]);show VS _ _ [.l (cs.map .int),.d (.int bad),.un,.un,.un,.un,.un,.un] _;refine jr oR.nd rfl (xs:=[]) (by left) ?_;refine kF bF rfl (pj B.range (n:=cs.length) (dm (oa B.len (by left) rfl) (by rw[ay])) (by omega)) (js oR.nd rfl)
  (λi ρ=>∃x y o1 o2:Sl,(∀xs,o1≠.o xs)/\(∀xs,o2≠.o xs)/\ρ=[.l (cs.map .int),.d (.int bad),.o ((cR cs bad i).map fP).reverse,x,y,o1,o2,.un]) ⟨.un,.un,.un,.un,(λ_ z=>nomatch z),(λ_ z=>nomatch z),rfl⟩ ?_ ?_
 ·rintro i d ρ hd ⟨x,y,o1,o2,n1,n2,rfl⟩;obtain⟨hi,rfl⟩:=ye hd;obtain⟨po,pl⟩:=qp cs bad i;have Qx:cs[i]?=some cs[i]:=ag hi;have wO:rK cs i=cs[i]:=by unfold rK;rw[Qx];rfl
  have mW:oZ (cs.map eJ) (i:Int)=some (.int (rK cs i)):=gp (by rw[aw,Qx,wO];rfl);have hlen:((cR cs bad i).map fP).reverse.length<av:=by rw[gG];simp;omega
  obtain⟨nk,nl⟩:=wo (C1 (rK cs i));have bN:m5 500 (fe (.num (mE (rK cs i)))):=zI (by rw[mP];exact nl) trivial nk trivial (by simp[iA]);have Vf:(mE (rK cs i)).natAbs.log2<1920:=by
   have:=C1 (rK cs i);by_cases hz:(mE (rK cs i)).natAbs=0
   ·rw[hz];decide
   ·exact ib ((Nat.log2_lt hz (k:=7)).mpr (by omega)) (by decide)
  refine⟨_,rfl,?_⟩;show VS _ _ [.l (cs.map .int),.d (.int bad),.o ((cR cs bad i).map fP).reverse,.d (.int (i:Int)),y,o1,o2,.un] _;refine cD oR.nd rfl (d:=.int (mE (rK cs i))) (xZ (gw (gC (xs:=cs.map .int) (by left) (by left) rfl mW)) (by left)) ?_;refine cD oR.nd rfl (d:=fP (fe (.num (mE (rK cs i))))) (bG DB vp (rs:=[.d (.str "num"),.d (.tuple [.int (mE (rK cs i))]),.o [],.o [.str (gE (mE (rK cs i)))]]) (aA (by left) (aA (by left) (aA (by left) (aA (gq (aQ (dm (yb zM (by left) Vf) (by rw[EW])) cF)) bV)))) (Up bN (eN _))) ?_;by_cases hb:(i:Int)=bad
  ·have ep:∀{t:WT},i4 cs bad i=t->cR cs bad (i+1)=fe t::cR cs bad i:=λ{t} ht=>by rw[cR,if_pos (.inl hb),ht]
   refine cz (eL (x:=(i:Int)) (by left) (by left)) (decide_eq_true hb) ?_;refine cD oR.nd rfl (d:=fP (fe (.truth true))) (bG DB vp (rs:=[.d (.str "truth"),.d (.tuple [.bool true]),.o [],.o [.str "yes"]]) (aA (by left) (aA (by left) (aA (by left) (aA (by left) bV)))) (Up bT eT)) ?_;by_cases h2:dE (rK cs i) 1063 2=1
   ·have ep:=ep (show i4 cs bad i = .name "qq" by unfold i4;rw[if_pos hb,if_pos h2]);refine cz (eL (x:=dE (rK cs i) 1063 2) (gw (gC (xs:=cs.map .int) (by left) (by left) rfl mW)) (by left)) (decide_eq_true h2) ?_;refine cD oR.nd rfl (d:=fP (fe (.name "qq"))) (bG DB vp (rs:=[.d (.str "name"),.d (.tuple [.str "qq"]),.o [],.o [.str "qq"]]) (aA (by left) (aA (by left) (aA (by left) (aA (by left) bV)))) (Up bQ eQ)) (cg (cg ?_));refine cz (k:=true) (hX (t7 (bW (eL (x:=(i:Int)) (by left) (by left)) (decide_eq_true hb)))) rfl ?_;refine fG rfl rfl (d:=fP (fe (.name "qq"))) (by left) hlen (cg (cg ⟨.d (.int (i:Int)),.d (.int (mE (rK cs i))),.d (fP (fe (.name "qq"))),o2,(λ_ z=>nomatch z),n2,?_⟩));rw[ep];simp
   ·have ep:=ep (show i4 cs bad i = .truth true by unfold i4;rw[if_pos hb,if_neg h2]);refine bt (eL (x:=dE (rK cs i) 1063 2) (gw (gC (xs:=cs.map .int) (by left) (by left) rfl mW)) (by left)) (decide_eq_false h2) (cg ?_);refine cz (k:=true) (hX (t7 (bW (eL (x:=(i:Int)) (by left) (by left)) (decide_eq_true hb)))) rfl ?_;refine fG rfl rfl (d:=fP (fe (.truth true))) (by left) hlen (cg (cg ⟨.d (.int (i:Int)),.d (.int (mE (rK cs i))),.d (fP (fe (.truth true))),o2,(λ_ z=>nomatch z),n2,?_⟩));rw[ep];simp
  ·have e1:i4 cs bad i = .num (mE (rK cs i)):=by unfold i4;rw[if_neg hb]
   refine bt (eL (x:=(i:Int)) (by left) (by left)) (decide_eq_false hb) ?_;by_cases h3:dE (rK cs i) 1069 2=0
   ·have ep:cR cs bad (i+1)=fe (.num (mE (rK cs i)))::cR cs bad i:=by rw[cR,if_pos (.inr h3),e1]
    refine cz (k:=true) (hX (iw (bW (eL (x:=(i:Int)) (by left) (by left)) (decide_eq_false hb)) (hZ (bW (eL (x:=dE (rK cs i) 1069 2) (gw (gC (xs:=cs.map .int) (by left) (by left) rfl mW)) (by left)) (decide_eq_true h3))))) rfl ?_;refine fG rfl rfl (d:=fP (fe (.num (mE (rK cs i))))) (by left) hlen (cg (cg ⟨.d (.int (i:Int)),.d (.int (mE (rK cs i))),.d (fP (fe (.num (mE (rK cs i))))),o2,(λ_ z=>nomatch z),n2,?_⟩));rw[ep];simp
   ·have ep:cR cs bad (i+1)=xD (j0 (dJ 0) (cR cs bad i)).1 (fe (.num (mE (rK cs i))))::(j0 (dJ 0) (cR cs bad i)).2:=by rw[cR,if_neg (λz=>z.elim hb h3),e1]
    obtain⟨k0,n0,a0,b0,e0⟩:=qm po (lS 0);have l0:=kJ (dJ 0) (cR cs bad i);refine lA (k:=false) (hX (iw (bW (eL (x:=(i:Int)) (by left) (by left)) (decide_eq_false hb)) (hZ (bW (eL (x:=dE (rK cs i) 1069 2) (gw (gC (xs:=cs.map .int) (by left) (by left) rfl mW)) (by left)) (decide_eq_false h3))))) rfl ?_;refine sJ oR.nd rfl (pD (ys:=cR cs bad i) (c:=0) DT hr rfl rfl (by left)) ?_
    refine fG rfl rfl (d:=fP (xD (j0 (dJ 0) (cR cs bad i)).1 (fe (.num (mE (rK cs i)))))) (bG DB vp (rs:=[.d (.str "add"),.d (.tuple []),.o [fP (j0 (dJ 0) (cR cs bad i)).1,fP (fe (.num (mE (rK cs i))))],.o [.str "(add ",.str " ",.str ")"]]) (aA (by left) (aA (by left) (aA (by left) (aA (by left) bV)))) (EX (ones:=[(j0 (dJ 0) (cR cs bad i)).1,fe (.num (mE (rK cs i)))]) (c8:=["(add "," ",")"]) rfl (by simp) (vk a0 bN) (by omega) (λo ho=>by
     simp only[bf,cM,or_false]at ho;rcases ho with rfl|rfl
     ·exact⟨k0,by omega,a0⟩
     ·exact⟨500,by decide,bN⟩))) (by rw[gG];simp;omega) (cg (cg ⟨.d (.int (i:Int)),.d (.int (mE (rK cs i))),.d (fP (fe (.num (mE (rK cs i))))),.d (fP (j0 (dJ 0) (cR cs bad i)).1),(λ_ z=>nomatch z),(λ_ z=>nomatch z),?_⟩))
    rw[ep];simp
 ·rintro ρ ⟨x,y,o1,o2,n1,n2,rfl⟩;rw[show(mB 0 cs.length).length=cs.length from by simp[mB]];obtain⟨po,pl⟩:=qp cs bad cs.length;obtain⟨k0,n0,a0,b0,e0⟩:=qm po (lS 0);have l0:=kJ (dJ 0) (cR cs bad cs.length);refine sJ oR.nd rfl (pD (ys:=cR cs bad cs.length) (c:=0) DT hr rfl rfl (by left)) ?_;refine vb bF (λm ρ=>∃(xs:List BI)(x:BI)(p q t v:Sl)(k n:Nat),m=xs.length/\(∀xs,t≠.o xs)/\(∀xs,v≠.o xs)/\m5 k x/\i0 n xs/\k + n+20 * xs.length<=200000/\rJ x xs=C0 cs bad/\ρ=[.l (cs.map .int),.d (.int bad),.o (xs.map fP).reverse,p,q,t,v,.d (fP x)])
   ⟨_,(j0 (dJ 0) (cR cs bad cs.length)).2,(j0 (dJ 0) (cR cs bad cs.length)).1,x,y,o1,o2,k0,n0,rfl,n1,n2,a0,b0,by omega,rfl,rfl⟩ ?_
  rintro m eM ⟨xs,x,p,q,t,v,k,n,rfl,nt,nv,bx,pn,hz,hg,rfl⟩;cases xs with
  |nil=>
   refine⟨false,bW (qb (y:=0) (oa B.len (by left) rfl) (by left)) (by simp),(λz=>nomatch z),λ_=>?_⟩;refine bR (dm (r':=.d (fP (C0 cs bad))) (bU rfl rfl) (by rw[<-hg];rfl)) (.inl rfl)
  |cons b xs=>
   cases pn with
   |cons h1 h2 h3=>
    rename_i kb nb;refine⟨true,bW (qb (y:=0) (oa B.len (by left) rfl) (by left)) (by simp),λ_=>?_,(λz=>nomatch z)⟩;have bo:=vk h1 bx
    refine sJ (d:=fP (xD b x)) oR.nd rfl (E2 (ds:=[fP b,fP x]) (xs:=[.str "(add ",.str " ",.str ")"]) DB vp (by left) (by left) (su (Mn (xs:=(xs.map fP).reverse) (d:=fP b) rfl (by simp)) (su (QV (d:=fP x) (bU rfl rfl)) Il)) (by left) (EX (ones:=[b,x]) (c8:=["(add "," ",")"]) rfl (by simp) bo (by omega) (λo ho=>by
     simp only[bf,cM,or_false]at ho;rcases ho with rfl|rfl
     ·exact⟨kb,by omega,h1⟩
     ·exact⟨k,by omega,bx⟩)) (by rw[gG];simp)) (cg ?_)
    refine⟨xs.length,by simp,xs,xD b x,p,q,t,v,_,_,rfl,nt,nv,bo,h2,by simp at hz;omega,hg,rfl⟩
theorem zS:b5 ["_law_item","_law_row","_law_part","_law_k"] ["_law_item"] (aJ j4):=⟨rfl,rfl,rfl,by symm,rfl,by symm,by symm⟩
theorem Vr{f:aj}{fd:be}(F:jP K "_law_bad_stretch" "_law_bad_stretch" j4 f fd)(B:Plain mg):fi P w K mg base kx 1 f fd ["_law_item"] (gr K Q7):=by
 refine F.vz zS (λas r h=>?_) (λeR A outer s H E as r hr h=>?_)
 ·obtain⟨b,t,rfl,_⟩:=h;exact⟨rfl,by simp⟩
 obtain⟨b,t,rfl,Hl,KG,rfl⟩:=h;have eb:fP b = .tuple [dY t,.str (aS t),.list (b.rows.map fO)]:=by rw[fP,Hl.e,Hl.ln]
 rw[eb];show VS _ _ [.d (.tuple [dY t,.str (aS t),.list (b.rows.map fO)]),.un,.un,.un] _;refine kF bF rfl (CF (xs:=b.rows.map fO) (dg (xs:=[dY t,.str (aS t),.list (b.rows.map fO)]) (bU rfl rfl) (by left) rfl)) (js zS.nd rfl)
  (λi ρ=>∃x y z:Sl,ρ=[.d (.tuple [dY t,.str (aS t),.list (b.rows.map fO)]),x,y,z]/\∀(j:Nat) r p u,j<i->b.rows[j]?=some r->r.1=mi p->oP t p=some u->¬stop u p) ⟨.un,.un,.un,rfl,λj r p u hj=>absurd hj (hV j)⟩ ?_ ?_
 ·rintro i d ρ hd ⟨x,y,z,rfl,KZ⟩;rw[aw]at hd;cases hq:b.rows[i]? with
  |none=>rw[hq]at hd;cases hd
  |some r=>
   rw[hq]at hd;cases hd;obtain⟨p,u,r1,hu,r2,r3⟩:=Hl.rows.snd r (aI hq);have er:fO r = .tuple [.tuple ((mi p).map .int),.int (gZ t p:Nat),.int ((gZ t p + (aS u).length:Nat):Int)]:=by rw[fO,r1,r2,r3]
   have kY:((mi p).map eJ).length=p.length:=by simp[mi]
   refine⟨_,rfl,?_⟩;rw[er];show VS _ _ [.d (.tuple [dY t,.str (aS t),.list (b.rows.map fO)]),.d (.tuple [.tuple ((mi p).map .int),.int (gZ t p:Nat),.int ((gZ t p + (aS u).length:Nat):Int)]),y,z] _;refine cD zS.nd rfl (d:=dY t) (dg (xs:=[dY t,.str (aS t),.list (b.rows.map fO)]) (bU rfl rfl) (by left) rfl) ?_;refine kF bF rfl (GG (xs:=(mi p).map .int) (dg (xs:=[.tuple ((mi p).map .int),.int (gZ t p:Nat),.int ((gZ t p + (aS u).length:Nat):Int)]) (bU rfl rfl) (by left) rfl)) (js zS.nd rfl)
    (λj ρ=>∃(v:WT)(z:Sl),oP t (p.take j)=some v/\ρ=[.d (.tuple [dY t,.str (aS t),.list (b.rows.map fO)]),.d (.tuple [.tuple ((mi p).map .int),.int (gZ t p:Nat),.int ((gZ t p + (aS u).length:Nat):Int)]),.d (dY v),z]) ⟨t,z,rfl,rfl⟩ ?_ ?_
   ·rintro j d ρ Jh ⟨v,z,hv,rfl⟩;have hj:j<p.length:=by have:=(ak.mp Jh).1;omega
    obtain⟨v',x',YD,hx,Rb⟩:=IX hu j hj;rw[hv]at YD;cases YD;rw[show p.getD j 0=p[j]from by rw[gK,ag hj];rfl]at hx;obtain rfl:d = .int (p[j]:Nat):=by
     unfold mi at Jh;rw[fh,aw,ag hj]at Jh;simp at Jh;exact Jh.symm
    refine⟨_,rfl,?_⟩;rw[CQ v];exact cD zS.nd rfl (d:=dY x') (dg (xs:=v.own.map dY) (dg (xs:=[.str v.word,.tuple v.marks,.tuple (v.own.map dY)]) (bU rfl rfl) (by left) rfl) (bU rfl rfl) (gp (by rw[aw,hx];rfl))) (cg ⟨x',.d (.int (p[j]:Nat)),Rb,rfl⟩)
   ·rintro ρ ⟨v,z,hv,rfl⟩;rw[kY,iC,hu]at hv;cases hv;rw[CQ u];have hlp:∀{k:Int},k=(p.length:Nat)->decide ((0:Int)<k)=decide (p≠[]):=λ{k} e=>by
     subst e;cases p with
     |nil=>rfl
     |cons a p=>simp
    by_cases hs:stop u p
    ·obtain⟨br,hf,Rf⟩:=(KG hu).mp hs;have YA:Nm t = .tuple [.int (gZ t p:Nat),.int ((gZ t p + (aS u).length:Nat):Int)]:=by rw[<-Rf];exact C4 hf (by rw[Rf];exact hu)
     rw[YA];rcases hs with hs|hs
     ·refine cz (k:=true) (hX (t7 (bW (bX (x:=u.word) (dg (xs:=[.str u.word,.tuple u.marks,.tuple (u.own.map dY)]) (bU rfl rfl) (by left) rfl) (by left)) (decide_eq_true hs)))) rfl ?_;exact bR (dP (aQ (dg (xs:=[.tuple ((mi p).map .int),.int (gZ t p:Nat),.int ((gZ t p + (aS u).length:Nat):Int)]) (bU rfl rfl) (by left) rfl) (aQ (dg (xs:=[.tuple ((mi p).map .int),.int (gZ t p:Nat),.int ((gZ t p + (aS u).length:Nat):Int)]) (bU rfl rfl) (by left) rfl) cF))) (.inl rfl)
     ·have hnn:u.word≠"name":=λz=>by rw[hs.1]at z;exact absurd z (by decide)
      refine cz (k:=true) (hX (iw ?_ (hZ (hX (kE ?_ (lP ?_)))))) rfl ?_
      ·exact bW (bX (x:=u.word) (dg (xs:=[.str u.word,.tuple u.marks,.tuple (u.own.map dY)]) (bU rfl rfl) (by left) rfl) (by left)) (decide_eq_false hnn)
      ·exact bW (bX (x:=u.word) (dg (xs:=[.str u.word,.tuple u.marks,.tuple (u.own.map dY)]) (bU rfl rfl) (by left) rfl) (by left)) (decide_eq_true hs.1)
      ·exact bW (qb (y:=0) (n6 (xs:=(mi p).map .int) B.len (dg (xs:=[.tuple ((mi p).map .int),.int (gZ t p:Nat),.int ((gZ t p + (aS u).length:Nat):Int)]) (bU rfl rfl) (by left) rfl)) (by left)) (by rw[hlp (by rw[kY])];exact decide_eq_true hs.2)
      exact bR (dP (aQ (dg (xs:=[.tuple ((mi p).map .int),.int (gZ t p:Nat),.int ((gZ t p + (aS u).length:Nat):Int)]) (bU rfl rfl) (by left) rfl) (aQ (dg (xs:=[.tuple ((mi p).map .int),.int (gZ t p:Nat),.int ((gZ t p + (aS u).length:Nat):Int)]) (bU rfl rfl) (by left) rfl) cF))) (.inl rfl)
    ·have hn1:u.word≠"name":=λz=>hs (.inl z);have more:∀(j:Nat) r p u,j<i+1->b.rows[j]?=some r->r.1=mi p->oP t p=some u->¬stop u p:=λj r' p' u' hj h1 h2 h3=>by
      by_cases e:j=i
      ·subst e;rw[hq]at h1;cases h1;rw[r1]at h2;have:p=p':=by
        have:=congrArg (List.map Int.toNat) h2;simpa[mi,kh]using this
       subst this;rw[hu]at h3;cases h3;exact hs
      ·exact KZ j r' p' u' (by omega) h1 h2 h3
     by_cases ht:u.word = "truth"
     ·have hp0:p=[]:=Classical.byContradiction λz=>hs (.inr ⟨ht,z⟩);refine bt (k:=false) (hX (iw ?_ (hZ (hX (kE ?_ (lP ?_)))))) rfl ?_
      ·exact bW (bX (x:=u.word) (dg (xs:=[.str u.word,.tuple u.marks,.tuple (u.own.map dY)]) (bU rfl rfl) (by left) rfl) (by left)) (decide_eq_false hn1)
      ·exact bW (bX (x:=u.word) (dg (xs:=[.str u.word,.tuple u.marks,.tuple (u.own.map dY)]) (bU rfl rfl) (by left) rfl) (by left)) (decide_eq_true ht)
      ·exact bW (qb (y:=0) (n6 (xs:=(mi p).map .int) B.len (dg (xs:=[.tuple ((mi p).map .int),.int (gZ t p:Nat),.int ((gZ t p + (aS u).length:Nat):Int)]) (bU rfl rfl) (by left) rfl)) (by left)) (by rw[hlp (by rw[kY])];exact decide_eq_false (λz=>z hp0))
      exact cg ⟨_,_,_,rfl,more⟩
     ·refine bt (k:=false) (hX (iw ?_ (hZ (hX (sr ?_))))) rfl ?_
      ·exact bW (bX (x:=u.word) (dg (xs:=[.str u.word,.tuple u.marks,.tuple (u.own.map dY)]) (bU rfl rfl) (by left) rfl) (by left)) (decide_eq_false hn1)
      ·exact bW (bX (x:=u.word) (dg (xs:=[.str u.word,.tuple u.marks,.tuple (u.own.map dY)]) (bU rfl rfl) (by left) rfl) (by left)) (decide_eq_false ht)
      exact cg ⟨_,_,_,rfl,more⟩
 ·rintro ρ ⟨x,y,z,rfl,KZ⟩;rw[ay]at KZ;have hf:wN t=none:=by
   cases q:wN t with
   |none=>rfl
   |some br=>
    exfalso;obtain⟨u,hu⟩:=CY q;obtain⟨r,vp,IP⟩:=Hl.rows.all br.1 u hu;obtain⟨j,hj⟩:=lN.mp vp;exact KZ j r br.1 u (ak.mp hj).1 hj IP hu ((KG hu).mpr ⟨br,q,rfl⟩)
  rw[vt hf];exact bR (by left) (.inl rfl)
theorem wA:b5 ["_law_item","_law_refused","_law_found","_law_due","_law_row"] ["_law_item"] (aJ gX):=⟨rfl,rfl,rfl,by symm,rfl,by symm,by symm⟩
theorem Vs{f C CK:aj}{fd:be}(F:jP K "_law_pointed_right" "_law_pointed_right" gX f fd)(mK:mg "KindError"=some (.ref CK))(xK:mL K (.ref C) (.ref CK)=some true)(DP:tD P w K mg base 6 "pointed" ["line"] (AF K (yf C)))(DF:cK P w K mg base 4 "fault" ["expr","scope"] (gr K CZ))(DS:cK P w K mg base 2 "_law_stretch" ["_law_found","_law_due"] (gr K Ul)):fi P w K mg base kx 7 f fd ["_law_item"] (gr K RPR):=by
 have DQ:rB P w K mg base 6 "pointed" ["line"] (gr K He):=DP.Q3 BO;refine F.vz wA (λas r h=>?_) (λeR A outer s H E as r hr h=>?_)
 ·obtain⟨b,t,rfl,_⟩:=h;exact⟨rfl,by simp⟩
 obtain⟨b,t,rfl,Hl,bg,hw2,V8,rfl⟩:=h;have gG:av=16777216:=cU;have eb:fP b = .tuple [dY t,.str (aS t),.list (b.rows.map fO)]:=by rw[fP,Hl.e,Hl.ln]
 have hu1:(A.deeper (fQ "_law_pointed_right" (aJ gX) s.heap.objs.size f eR)).units+1<cLine:=by have:=hr.un;omega
 have q1:("(add 1 ":Str).length=7:=by decide
 have q2:(" )":Str).length=2:=by decide
 have bgA:Uk (.add (.num 1) t):=⟨⟨trivial,bg.wf⟩,⟨(wo (i:=1) (by decide)).1,bg.ok⟩,by simp only[iA];omega,by rw[IJ,len_one];omega,⟨trivial,bg.ks⟩,by have:=bg.fn;simp only[jR];omega⟩;rw[eb];show VS _ _ [.d (.tuple [dY t,.str (aS t),.list (b.rows.map fO)]),.un,.un,.un,.un] _;refine cD wA.nd rfl (d:=.bool false) (by left) ?_;refine Nt (d:=.str (zG (aS t))) (C:=C) ⟨rfl,rfl,rfl⟩ DP hr (E8 (E8 PZ (dg (xs:=[dY t,.str (aS t),.list (b.rows.map fO)]) (bU rfl rfl) tY rfl) (by rw[gG,q1];omega)) yR (by rw[gG,len_app,q1,q2];omega)) ⟨zG (aS t),_,rfl,Nn bg.wf,bgA,by unfold zG;rw[len_app,len_app,q1,q2];omega,by rw[if_neg (Np t)]⟩ xK mK (λea oe=>?_);refine cD wA.nd rfl (d:=.bool true) (by left) (cg ?_);refine cD wA.nd rfl (d:=Nm t) (BG DQ hr (xs:=[dY t,.str (aS t),.list (b.rows.map fO)]) (bU rfl rfl) (d:=.str (aS t)) (by rfl) ⟨t,rfl,bg,rfl⟩) ?_;refine cD wA.nd rfl (d:=Ks (wN t)) (bG DF (hr.mono (by decide)) (rs:=[.d (dY t),.o []]) (aA (dg (xs:=[dY t,.str (aS t),.list (b.rows.map fO)]) (bU rfl rfl) (by left) rfl) (aA (gq cF) bV)) ⟨t,rfl,bg.ks,bg.fn,bg.wt,rfl⟩) ?_;cases hf:wN t with
 |none=>
  rw[vt hf];refine cz (k:=true) (hX (t7 (bW (tZ (ra:=.d .none) (by left)) rfl))) rfl ?_;exact bR (dm (GD (j:=true) (k:=true) (by left) λ_=>GC (dm (Mj (ra:=.d .none) (by left)) rfl)) rfl) (.inl rfl)
 |some br=>
  obtain⟨u,hu⟩:=CY hf;rw[C4 hf hu];have eD:Ks (some br) = .tuple [.tuple ((mi br.1).map .int),nM br.2.1,nM br.2.2]:=by simp[Ks,xW,mi]
  rw[eD];refine bt (k:=false) (hX (iw (bW (tZ (ra:=.d (.tuple [.tuple ((mi br.1).map .int),nM br.2.1,nM br.2.2])) (by left)) rfl) (hZ (bW (qc (i6 (k:=true) (by left) (λ_=>rfl))) rfl)))) rfl ?_;refine kF bF rfl (CF (xs:=b.rows.map fO) (dg (xs:=[dY t,.str (aS t),.list (b.rows.map fO)]) (bU rfl rfl) (by left) rfl)) (js wA.nd rfl)
   (λi ρ=>∃x:Sl,ρ=[.d (.tuple [dY t,.str (aS t),.list (b.rows.map fO)]),.d (.bool true),.d (.tuple [.int (gZ t br.1:Nat),.int ((gZ t br.1 + (aS u).length:Nat):Int)]),.d (.tuple [.tuple ((mi br.1).map .int),nM br.2.1,nM br.2.2]),x]/\∀(j:Nat) r,j<i->b.rows[j]?=some r->r.1≠mi br.1) ⟨.un,rfl,λj r hj=>absurd hj (hV j)⟩ ?_ ?_
  ·rintro i d ρ hd ⟨x,rfl,KZ⟩;rw[aw]at hd;cases hq:b.rows[i]? with
   |none=>rw[hq]at hd;cases hd
   |some r=>
    rw[hq]at hd;cases hd;obtain⟨p,v,r1,hv,r2,r3⟩:=Hl.rows.snd r (aI hq);have er:fO r = .tuple [xW p,.int (gZ t p:Nat),.int ((gZ t p + (aS v).length:Nat):Int)]:=by rw[fO,r1,r2,r3];simp[xW,mi]
    have eq2:eG ((mi br.1).map .int)=xW br.1:=by simp[xW,mi]
    refine⟨_,rfl,?_⟩;rw[er,eq2];show VS _ _ [.d (.tuple [dY t,.str (aS t),.list (b.rows.map fO)]),.d (.bool true),.d (.tuple [.int (gZ t br.1:Nat),.int ((gZ t br.1 + (aS u).length:Nat):Int)]),.d (.tuple [xW br.1,nM br.2.1,nM br.2.2]),.d (.tuple [xW p,.int (gZ t p:Nat),.int ((gZ t p + (aS v).length:Nat):Int)])] _;by_cases e:p=br.1
    ·subst e;rw[hu]at hv;cases hv;refine cz (k:=true) (bW (LY (n:=1) hu1 (dg (xs:=[xW br.1,.int (gZ t br.1:Nat),.int ((gZ t br.1 + (aS u).length:Nat):Int)]) (bU rfl rfl) (by left) rfl) (dg (xs:=[xW br.1,nM br.2.1,nM br.2.2]) (bU rfl rfl) (by left) rfl) rfl rfl (xX br.1) (xX br.1) (.inl (Bd br.1))) (by rw[LA];simp)) rfl ?_;exact bR (bG DS (hr.mono (by decide)) (rs:=[.d (.tuple [.int (gZ t br.1:Nat),.int ((gZ t br.1 + (aS u).length:Nat):Int)]),.d (.tuple [.int (gZ t br.1:Nat),.int ((gZ t br.1 + (aS u).length:Nat):Int)])]) (aA (bU rfl rfl) (aA (dP (aQ (dg (xs:=[xW br.1,.int (gZ t br.1:Nat),.int ((gZ t br.1 + (aS u).length:Nat):Int)]) (bU rfl rfl) (by left) rfl) (aQ (dg (xs:=[xW br.1,.int (gZ t br.1:Nat),.int ((gZ t br.1 + (aS u).length:Nat):Int)]) (bU rfl rfl) (by left) rfl) cF))) bV)) ⟨_,_,rfl,rfl⟩) (.inl rfl)
    ·refine bt (k:=false) (bW (LY (n:=1) hu1 (dg (xs:=[xW p,.int (gZ t p:Nat),.int ((gZ t p + (aS v).length:Nat):Int)]) (bU rfl rfl) (by left) rfl) (dg (xs:=[xW br.1,nM br.2.1,nM br.2.2]) (bU rfl rfl) (by left) rfl) rfl rfl (xX p) (xX br.1) (.inl (Bd p))) (by rw[LA];simp[e])) rfl (cg ⟨_,rfl,λj r' hj h1=>?_⟩);by_cases ej:j=i
     ·subst ej;rw[hq]at h1;cases h1;rw[r1];intro z;refine e ?_;have:=congrArg (List.map Int.toNat) z;simpa[mi,kh]using this
     ·exact KZ j r' (by omega) h1
  ·rintro ρ ⟨x,rfl,KZ⟩;exfalso;rw[ay]at KZ;obtain⟨r,vp,IP⟩:=Hl.rows.all br.1 u hu;obtain⟨j,hj⟩:=lN.mp vp;exact KZ j r (ak.mp hj).1 hj IP
theorem rR:b5 ["_law_script","_law_item","_law_rows","_law_k","_law_row","_law_due","_law_found"] ["_law_script"] (aJ uq):=⟨rfl,rfl,rfl,by symm,rfl,by symm,by symm⟩
theorem Vt{f C:aj}{fd:be}(F:jP K "law" "law" uq f fd)(B:Plain mg)(DG:cK P w K mg base 5 "_law_grown" ["_law_cells"] (gr K M1))(DA:cK P w K mg base 1 "_law_at" ["_law_script","_law_k"] (gr K (XO K)))(DN:cK P w K mg base 5 "span" ["expr","place"] (gr K Na))(DS:cK P w K mg base 2 "_law_stretch" ["_law_found","_law_due"] (gr K Ul))(DQ:cK P w K mg base 7 "_law_pointed_right" ["_law_item"] (gr K RPR))(DU:cK P w K mg base 4 "_law_sum" ["_law_cells","_law_bad"] (gr K Yf))(DB:cK P w K mg base 1 "_law_bad_stretch" ["_law_item"] (gr K Q7))(DP:tD P w K mg base 6 "pointed" ["line"] (AF K (yf C))):fi P w K mg base kx 9 f fd ["_law_script"] (gr K (Mg K)):=by
 have DO:rB P w K mg base 6 "pointed" ["line"] (gr K He):=DP.Q3 BO;refine F.vz rR (λas r h=>?_) (λeR A outer s H E as r hr h=>?_)
 ·obtain⟨ns,rfl,_⟩:=h;exact⟨rfl,by simp⟩
 obtain⟨ns,rfl,Ju,rfl⟩:=h;show VS _ _ [.h (lB K ns),.un,.un,.un,.un,.un,.un] _;obtain⟨cs,Sq,YY,_⟩:=JQ ns (some 1) (some 64);have hc:cs.length<=64:=by omega
 obtain⟨t,Hl,t1,t2,t3,t4,t5,t6⟩:=Ug hc;have eb:fP (fc cs) = .tuple [dY t,.str (aS t),.list ((fc cs).rows.map fO)]:=by rw[fP,Hl.e,Hl.ln]
 have Jx:0<(fc cs).rows.length:=by
  obtain⟨r,vp,_⟩:=Hl.rows.all [] t rfl;exact List.length_pos_of_mem vp
 refine cD rR.nd rfl (d:=fP (fc cs)) (bG DG (hr.mono (by decide)) (rs:=[.o (cs.map .int)]) (aA (dm (r':=.o (cs.map .int)) (Ez (ns:=ns) (by left) (mz (by left)) (mz (by left))) (by rw[Sq])) bV) ⟨cs,rfl,hc,rfl⟩) ?_;rw[eb];refine cD rR.nd rfl (d:=.list ((fc cs).rows.map fO)) (dg (xs:=[dY t,.str (aS t),.list ((fc cs).rows.map fO)]) (bU rfl rfl) (by left) rfl) ?_;refine kF bF rfl (pj B.range (n:=3) (by left) (by decide)) (js rR.nd rfl)
  (λi ρ=>∃x y:Sl,ρ=[.h (lB K ns),.d (.tuple [dY t,.str (aS t),.list ((fc cs).rows.map fO)]),.d (.list ((fc cs).rows.map fO)),x,y,.un,.un]) ⟨.un,.un,rfl⟩ ?_ ?_
 ·rintro i d ρ hd ⟨x,y,rfl⟩;obtain⟨hi,rfl⟩:=ye hd;refine⟨_,rfl,?_⟩;have hlen:(((fc cs).rows.map fO).length:Nat)=(fc cs).rows.length:=by simp
  have l9:R9 (ns.getD 0 0) (1+8 * (i:Int)):=by
   rcases(show i=0\/i=1\/i=2 by omega)with rfl|rfl|rfl<;>exact⟨by decide,by decide⟩
  have Ej:=mJ ((ns.getD 0 0 / (1+8 * (i:Int)) + (i:Int)) * 48271 % 1091) (b:=(((fc cs).rows.map fO).length:Nat)) (by rw[hlen];omega);have SU:=nU ((ns.getD 0 0 / (1+8 * (i:Int)) + (i:Int)) * 48271 % 1091) (b:=(((fc cs).rows.map fO).length:Nat)) (by rw[hlen];omega);obtain⟨z,hz⟩:∃z:Nat,(ns.getD 0 0 / (1+8 * (i:Int)) + (i:Int)) * 48271 % 1091 % (((fc cs).rows.map fO).length:Nat)=(z:Int):=⟨_,(mQ Ej).symm⟩;rw[hz,hlen]at SU;have OM:z<(fc cs).rows.length:=by omega
  obtain⟨p,u,r1,hu,r2,r3⟩:=Hl.rows.snd _ (pQ OM);have er:fO (fc cs).rows[z] = .tuple [.tuple ((mi p).map .int),.int (gZ t p:Nat),.int ((gZ t p + (aS u).length:Nat):Int)]:=by rw[fO,r1,r2,r3]
  have mW:oZ ((fc cs).rows.map fO) ((ns.getD 0 0 / (1+8 * (i:Int)) + (i:Int)) * 48271 % 1091 % (((fc cs).rows.map fO).length:Nat))=some (.tuple [.tuple ((mi p).map .int),.int (gZ t p:Nat),.int ((gZ t p + (aS u).length:Nat):Int)]):=by
   rw[hz];exact gp (by rw[aw,ag OM,<-er];rfl)
  show VS _ _ [.h (lB K ns),.d (.tuple [dY t,.str (aS t),.list ((fc cs).rows.map fO)]),.d (.list ((fc cs).rows.map fO)),.d (.int (i:Int)),y,.un,.un] _;refine cD rR.nd rfl (d:=.tuple [.tuple ((mi p).map .int),.int (gZ t p:Nat),.int ((gZ t p + (aS u).length:Nat):Int)]) (Tu (xs:=(fc cs).rows.map fO) (bU rfl rfl) (my (my (p7 (gH (kD (bG DA (hr.mono (by decide)) (aA (by left) (aA (by left) bV)) ⟨ns,0,rfl,rfl⟩) (gH (by left) (p7 (by left) (by left) (.inl ⟨by decide,by decide⟩))) l9) (by left)) (by left) (.inr ⟨by decide,by decide⟩)) (by left)) (O9 (xs:=(fc cs).rows.map fO) B.len (bU rfl rfl) rfl) (by rw[hlen];omega)) rfl mW) ?_;refine bt (k:=false) (bW (qc (i6 (bG DS (hr.mono (by decide)) (rs:=[.d (.tuple [.int (gZ t p:Nat),.int ((gZ t p + (aS u).length:Nat):Int)]),.d (.tuple [.int (gZ t p:Nat),.int ((gZ t p + (aS u).length:Nat):Int)])]) (aA (bG DN (hr.mono (by decide)) (rs:=[.d (dY t),.d (.tuple ((mi p).map .int))]) (aA (dg (xs:=[dY t,.str (aS t),.list ((fc cs).rows.map fO)]) (bU rfl rfl) (by left) rfl) (aA (dg (xs:=[.tuple ((mi p).map .int),.int (gZ t p:Nat),.int ((gZ t p + (aS u).length:Nat):Int)]) (bU rfl rfl) (by left) rfl) bV)) ⟨t,u,p,rfl,hu,t2,by omega,by omega,rfl⟩) (aA (dP (aQ (dg (xs:=[.tuple ((mi p).map .int),.int (gZ t p:Nat),.int ((gZ t p + (aS u).length:Nat):Int)]) (bU rfl rfl) (by left) rfl) (aQ (dg (xs:=[.tuple ((mi p).map .int),.int (gZ t p:Nat),.int ((gZ t p + (aS u).length:Nat):Int)]) (bU rfl rfl) (by left) rfl) cF))) bV)) ⟨_,_,rfl,rfl⟩))) rfl) rfl (cg ⟨_,_,rfl⟩)
 ·rintro ρ ⟨x,y,rfl⟩;have bg:Uk t:=⟨t1,t2,by omega,by omega,t5,by omega⟩;refine bt (k:=false) (bW (qc (i6 (bG DQ (hr.mono (by decide)) (rs:=[.d (fP (fc cs))]) (aA (dm (bU rfl rfl) (by rw[eb])) bV) ⟨fc cs,t,rfl,Hl,bg,by omega,by omega,rfl⟩))) rfl) rfl ?_;have hb0:0<=ns.getD 0 0 * 48271 % 1087 % ((ns.length:Nat)+3):=mJ _ (by omega);obtain⟨g,hg⟩:=Ye cs hb0;obtain⟨v,ZM,v1,v2,v3⟩:=Kn hg;have so:=Ui (cs:=cs) (bad:=ns.getD 0 0 * 48271 % 1087 % ((ns.length:Nat)+3)) hc;obtain⟨v',e1,e2,w1,w2,w3,w4⟩:=so.ex;have evv:v'=v:=IT (by rw[<-e1];exact ZM.e);subst evv;have hvl:(aS v').length<=130000:=by rw[<-e2];exact so.ln
  have bgv:Uk v':=⟨w1,w2,by omega,by omega,v1,v2⟩;have ebs:fP (C0 cs (ns.getD 0 0 * 48271 % 1087 % ((ns.length:Nat)+3))) = .tuple [dY v',.str (aS v'),.list ((C0 cs (ns.getD 0 0 * 48271 % 1087 % ((ns.length:Nat)+3))).rows.map fO)]:=by rw[fP,ZM.e,ZM.ln]
  refine cD rR.nd rfl (d:=fP (C0 cs (ns.getD 0 0 * 48271 % 1087 % ((ns.length:Nat)+3)))) (bG DU (hr.mono (by decide)) (rs:=[.o (cs.map .int),.d (.int (ns.getD 0 0 * 48271 % 1087 % ((ns.length:Nat)+3)))]) (aA (dm (r':=.o (cs.map .int)) (Ez (ns:=ns) (by left) (mz (by left)) (mz (by left))) (by rw[Sq])) (aA (my (my (p7 (bG DA (hr.mono (by decide)) (aA (by left) (aA (by left) bV)) ⟨ns,0,rfl,rfl⟩) (by left) (.inr ⟨by decide,by decide⟩)) (by left)) (gH (JP (ns:=ns) B.len (by left)) (by left)) (by omega)) bV)) ⟨cs,_,rfl,hc,rfl⟩) ?_;refine cD rR.nd rfl (d:=Nm v') (bG DB (hr.mono (by decide)) (aA (bU rfl rfl) bV) ⟨_,v',rfl,ZM,v3,rfl⟩) ?_;rw[ebs];refine cD rR.nd rfl (d:=Nm v') (BG DO (hr.mono (by decide)) (xs:=[dY v',.str (aS v'),.list ((C0 cs (ns.getD 0 0 * 48271 % 1087 % ((ns.length:Nat)+3))).rows.map fO)]) (bU rfl rfl) (d:=.str (aS v')) (by rfl) ⟨v',rfl,bgv,rfl⟩) ?_;cases hf:wN v' with
  |none=>
   rw[vt hf];exact cz (k:=true) (tZ (ra:=.d .none) (by left)) rfl (bR (dm (Mj (ra:=.d .none) (by left)) rfl) (.inl rfl))
  |some br=>
   obtain⟨u,hu⟩:=CY hf;rw[C4 hf hu];refine bt (k:=false) (bW (tZ (ra:=.d (.tuple [.int (gZ v' br.1:Nat),.int ((gZ v' br.1 + (aS u).length:Nat):Int)])) (by left)) rfl) rfl ?_;exact bR (bG DS (hr.mono (by decide)) (aA (bU rfl rfl) (aA (bU rfl rfl) bV)) ⟨_,_,rfl,rfl⟩) (.inl rfl)
end
noncomputable def lK(K:aa)(x:Str)(st:b9)(f:aj):Prop:=cu K bC x=some (some (.ref f))/\∃oc kV dc pm cd ct od an sl,
  K.lookup f=some ⟨oc,od,.func (dA x x (jO st) (eS st) (aJ st) .none kV dc pm an cd ct),sl⟩/\ko K cd x=true/\eX K (.ref f)=true
noncomputable def DQ(P:aR)(w:bH)(K:aa)(mg:Str->Option ah)(base:bS)(x:Str)(ps:List Str)(f:aj)(fd:be):Prop:=Binds K fd ps []/\eX K (.ref f)=true/\mg x=some (.ref f)
section
variable {P:aR}{w:bH}{K:aa}{mg:Str->Option ah}{base h:bS}{x:Str}{ps:List Str}{f:aj}{fd:be}{k:Nat}{sp:Sp}{st:b9}
theorem lK.mk{oc kV dc pm cd ct:ah}{od an:Option aj}{sl:Array (Option ah)}(a:cu K bC x=some (some (.ref f)))(l:K.lookup f=some ⟨oc,od,.func (dA x x (jO st) (eS st) (aJ st) .none kV dc pm an cd ct),sl⟩)(c:ko K cd x=true)(k:eX K (.ref f)=true):lK K x st f:=⟨a,_,_,_,_,_,_,_,_,_,l,c,k⟩
theorem lK.q(d:lK K x st f)(X:K.In h)(G:h.Ns bC mg)(ps:List Str)(P:aR)(w:bH)(base:bS)(hb:∀(kV doc pm:ah)(an:Option aj)(eR ct:ah)(us:List ah),us.length=ps.length->bindArgs (dA x x (jO st) (eS st) (aJ st) .none kV doc pm an eR ct) ⟨us,[]⟩=pure (ps.zip us)):∃fd,jP K x x st f fd/\DQ P w K mg base x ps f fd:=by
 obtain⟨a,_,_,_,_,_,_,_,_,_,l,c,k⟩:=d;exact⟨_,Gb l c k,(Gb l c k).binds hb,k,gn X G a⟩
theorem lK.q1(d:lK K x st f)(X:K.In h)(G:h.Ns bC mg)(P:aR)(w:bH)(base:bS)(p0:Str)(hb:∀kV doc pm an eR ct u0,bindArgs (dA x x (jO st) (eS st) (aJ st) .none kV doc pm an eR ct) ⟨[u0],[]⟩=pure [(p0,u0)]:=by intros;rfl):∃fd,jP K x x st f fd/\DQ P w K mg base x [p0] f fd:=
 d.q X G _ P w base λ_ _ _ _ _ _ us hl=>by
  rcases us with _|⟨u0,_|⟨_,_⟩⟩<;>first|(cases hl;done)|exact hb _ _ _ _ _ _ u0
theorem lK.q2(d:lK K x st f)(X:K.In h)(G:h.Ns bC mg)(P:aR)(w:bH)(base:bS)(p0 p1:Str)(hb:∀kV doc pm an eR ct u0 u1,bindArgs (dA x x (jO st) (eS st) (aJ st) .none kV doc pm an eR ct) ⟨[u0,u1],[]⟩=pure [(p0,u0),(p1,u1)]:=by intros;rfl):∃fd,jP K x x st f fd/\DQ P w K mg base x [p0,p1] f fd:=
 d.q X G _ P w base λ_ _ _ _ _ _ us hl=>by
  rcases us with _|⟨u0,_|⟨u1,_|⟨_,_⟩⟩⟩<;>first|(cases hl;done)|exact hb _ _ _ _ _ _ u0 u1
theorem lK.q3(d:lK K x st f)(X:K.In h)(G:h.Ns bC mg)(P:aR)(w:bH)(base:bS)(p0 p1 p2:Str)(hb:∀kV doc pm an eR ct u0 u1 u2,bindArgs (dA x x (jO st) (eS st) (aJ st) .none kV doc pm an eR ct) ⟨[u0,u1,u2],[]⟩=pure [(p0,u0),(p1,u1),(p2,u2)]:=by intros;rfl):∃fd,jP K x x st f fd/\DQ P w K mg base x [p0,p1,p2] f fd:=
 d.q X G _ P w base λ_ _ _ _ _ _ us hl=>by
  rcases us with _|⟨u0,_|⟨u1,_|⟨u2,_|⟨_,_⟩⟩⟩⟩<;>first|(cases hl;done)|exact hb _ _ _ _ _ _ u0 u1 u2
theorem lK.q4(d:lK K x st f)(X:K.In h)(G:h.Ns bC mg)(P:aR)(w:bH)(base:bS)(p0 p1 p2 p3:Str)(hb:∀kV doc pm an eR ct u0 u1 u2 u3,bindArgs (dA x x (jO st) (eS st) (aJ st) .none kV doc pm an eR ct) ⟨[u0,u1,u2,u3],[]⟩=pure [(p0,u0),(p1,u1),(p2,u2),(p3,u3)]:=by intros;rfl):∃fd,jP K x x st f fd/\DQ P w K mg base x [p0,p1,p2,p3] f fd:=
 d.q X G _ P w base λ_ _ _ _ _ _ us hl=>by
  rcases us with _|⟨u0,_|⟨u1,_|⟨u2,_|⟨u3,_|⟨_,_⟩⟩⟩⟩⟩<;>first|(cases hl;done)|exact hb _ _ _ _ _ _ u0 u1 u2 u3
theorem DQ.oo(q:DQ P w K mg base x ps f fd)(o:fi P w K mg base kx k f fd ps sp):cK P w K mg base k x ps sp:=⟨_,_,o,q⟩
theorem DQ.op(q:DQ P w K mg base x ps f fd)(o:lg P w K mg base kx k f fd ps sp):rB P w K mg base k x ps sp:=⟨_,_,o,q⟩
theorem DQ.ox(q:DQ P w K mg base x ps f fd)(o:fi P w K mg base (Be P w base) k f fd ps sp):SW P w K mg base k x ps sp:=⟨_,_,o,q⟩
theorem DQ.oxp(q:DQ P w K mg base x ps f fd)(o:lg P w K mg base (Be P w base) k f fd ps sp):tD P w K mg base k x ps sp:=⟨_,_,o,q⟩
end
theorem all_mk{l:wI}{w:bH}{K:aa}{h:bS}{mg:Str->Option ah}{fa f1 f2 f3 f4 f5 f6 f7 f8 f9 f10 f11 f12 f13 f14 f15 f16 f17 f18 f19 f20 f21 f22 f23 f24 f25 f26 f27 f28 f29 f30 f31 f32 f33 f34 f35 f36 f37 f38 f39 f40 f41 f42:aj}(X:K.In h)(G:h.Ns bC mg)(hfa:mg "law"=some (.ref fa))(d1:lK K "in_order" rM f1)(d2:lK K "own_part" rN f2)(d3:lK K "fault" zJ f3)(d4:lK K "checked" lI f4)(d5:lK K "scopes_by_place" iK f5)(d6:lK K "scope_within" jS f6)(d7:lK K "breach_of_rule" fY f7)(d8:lK K "due_kinds" kL f8)(d9:lK K "kind_by_rule" jT f9)(d10:lK K "same_kind" qq f10)(d11:lK K "shown" zK f11)(d12:lK K "span" C5 f12)(d13:lK K "form_of" uj f13)(d14:lK K "spelled" uk f14)(d15:lK K "ahead_of" oq f15)(d16:lK K "pieces_of_part" gU f16)(d17:lK K "figures_of" oQ f17)(d18:lK K "pieces_of_kind" kM f18)(d19:lK K "in_brackets" m9 f19)(d20:lK K "read" C6 f20)(d21:lK K "pointed" um f21)(d22:lK K "gathered" rO f22)(d23:lK K "tokens" sM f23)(d24:lK K "from_word" qr f24)(d25:lK K "consists_of" kO f25)(d26:lK K "number_of" qt f26)(d27:lK K "from_brackets" lJ f27)(d28:lK K "as_due" wq f28)(d29:lK K "_law_whole" qu f29)(d30:lK K "_law_at" wu f30)(d31:lK K "_law_built_up" jU f31)(d32:lK K "_law_drawn_kind" gW f32)(d33:lK K "_law_word_by" nh f33)(d34:lK K "_law_leaf" rP f34)(d35:lK K "_law_taken" qv f35)(d36:lK K "_law_combined" mj f36)(d37:lK K "_law_grown" qw f37)(d38:lK K "_law_stretch" kQ f38)(d39:lK K "_law_sum" uo f39)(d40:lK K "_law_bad_stretch" j4 f40)(d41:lK K "_law_pointed_right" gX f41)(d42:lK K "law" uq f42)(z0:cu K bC "len"=some none)(z1:cu K bC "list"=some none)(z2:cu K bC "tuple"=some none)(z3:cu K bC "int"=some none)(z4:cu K bC "bool"=some none)(z5:cu K bC "range"=some none)(z6:cu K bC "enumerate"=some none)(z7:cu K bC "reversed"=some none)(z8:cu K bC "isinstance"=some none){aF:aj}{nF:Nat}{hF1 hF2 hF3 hF4 hF5 hF6 hF7 hF8 hF9 YF:Int}{uF1 uF2 uF3 uF4 uF5 uF6 uF7 uF8 uF9 ae2:Tok}{gF1 gF2 gF3 gF4 gF5 gF6 gF7 gF8 gF9 Vu:aj}{tL tG:Tok}{dF1:Option aj}{mF1:Nat}{sF1:Array (Option ah)}{Ri:Tok}{dF2:Option aj}{mF2:Nat}{sF2:Array (Option ah)}{Rj Rk:Tok}{dF3:Option aj}{mF3:Nat}{sF3:Array (Option ah)}{Rm Rn:Tok}{dF4:Option aj}{mF4:Nat}{sF4:Array (Option ah)}{Ro Rp:Tok}{dF5:Option aj}{mF5:Nat}{sF5:Array (Option ah)}{Rq Rr Rt:Tok}{dF6:Option aj}{mF6:Nat}{sF6:Array (Option ah)}{Ru:Tok}{dF7:Option aj}{mF7:Nat}{sF7:Array (Option ah)}{Rv Rx:Tok}{dF8:Option aj}{mF8:Nat}{sF8:Array (Option ah)}{Ry RA RB RC RD RE:Tok}{dF9:Option aj}{mF9:Nat}{sF9:Array (Option ah)}{RF RG RH:Tok}{ae3:Option aj}{ae4:Nat}{ae5:Array (Option ah)}{NF NG:Tok}{nj:aj}{zT rS:aj}{aN aT:aj}{dN dT:Option aj}{tN tT:Tok}{nN nT:Nat}{slN slT:Array (Option ah)}(NH:cu K bC "str"=some none)(NI:cu K bC "abs"=some none)(NJ:cu K bC "all"=some none)(NK:cu K bC "zip"=some none)(qx:cu K bC "ValueError"=some none)(c_F:cu K bC "FORMS"=some (some (.ref aF)))(l_F:K.lookup aF=some ⟨.type "dict",none,.dict #[⟨hF1,.str "list" uF1,.ref gF1⟩,⟨hF2,.str "to" uF2,.ref gF2⟩,⟨hF3,.str "add" uF3,.ref gF3⟩,⟨hF4,.str "less" uF4,.ref gF4⟩,⟨hF5,.str "if" uF5,.ref gF5⟩,⟨hF6,.str "nil" uF6,.ref gF6⟩,⟨hF7,.str "front" uF7,.ref gF7⟩,⟨hF8,.str "case" uF8,.ref gF8⟩,⟨hF9,.str "fun" uF9,.ref gF9⟩,⟨YF,.str "call" ae2,.ref Vu⟩] nF,#[]⟩)(Vv:hF1=oz w (.inr "list"))(Vw:K.lookup gF1=some ⟨.type "tuple",dF1,.seq #[.str "kind" Ri] mF1,sF1⟩)(Vx:hF2=oz w (.inr "to"))(Vy:K.lookup gF2=some ⟨.type "tuple",dF2,.seq #[.str "kind" Rj,.str "kind" Rk] mF2,sF2⟩)(Vz:hF3=oz w (.inr "add"))(VB:K.lookup gF3=some ⟨.type "tuple",dF3,.seq #[.str "part" Rm,.str "part" Rn] mF3,sF3⟩)(VC:hF4=oz w (.inr "less"))(VF:K.lookup gF4=some ⟨.type "tuple",dF4,.seq #[.str "part" Ro,.str "part" Rp] mF4,sF4⟩)(VH:hF5=oz w (.inr "if"))(VJ:K.lookup gF5=some ⟨.type "tuple",dF5,.seq #[.str "part" Rq,.str "part" Rr,.str "part" Rt] mF5,sF5⟩)(VL:hF6=oz w (.inr "nil"))(VN:K.lookup gF6=some ⟨.type "tuple",dF6,.seq #[.str "kind" Ru] mF6,sF6⟩)(VP:hF7=oz w (.inr "front"))(VQ:K.lookup gF7=some ⟨.type "tuple",dF7,.seq #[.str "part" Rv,.str "part" Rx] mF7,sF7⟩)(VR:hF8=oz w (.inr "case"))(VU:K.lookup gF8=some ⟨.type "tuple",dF8,.seq #[.str "kind" Ry,.str "part" RA,.str "part" RB,.str "name" RC,.str "name" RD,.str "part" RE] mF8,sF8⟩)(VZ:hF9=oz w (.inr "fun"))(V0:K.lookup gF9=some ⟨.type "tuple",dF9,.seq #[.str "name" RF,.str "kind" RG,.str "part" RH] mF9,sF9⟩)(NL:YF=oz w (.inr "call"))(NM:K.lookup Vu=some ⟨.type "tuple",ae3,.seq #[.str "part" NF,.str "part" NG] ae4,ae5⟩)(n_F:(aF==sysModules)=false)(c_L:cu K bC "LETTERS"=some (some (.str gI tL)))(c_G:cu K bC "FIGURES"=some (some (.str gJ tG)))(zU:cu K bC "NoLine"=some (some (.ref nj)))(Dc:sP K nj [.type "ValueError",.type "Exception",.type "BaseException",.type "object"] "ValueError.__new__"=true)(YG:mL K (.ref nj) (.ref nj)=some true)(zV:cu K bC "NoPart"=some (some (.ref zT)))(Dd:sP K zT [.type "ValueError",.type "Exception",.type "BaseException",.type "object"] "ValueError.__new__"=true)(rV:cu K bC "KindError"=some (some (.ref rS)))(V1:mL K (.ref nj) (.ref rS)=some true)(Hm:cu K bC "dict"=some none)(NN:cu K bC "NUM"=some (some (.ref aN)))(De:cu K bC "TRUTH"=some (some (.ref aT)))(NO:K.lookup aN=some ⟨.type "tuple",dN,.seq #[.str "num" tN] nN,slN⟩)(Df:K.lookup aT=some ⟨.type "tuple",dT,.seq #[.str "truth" tT] nT,slT⟩): ∃fd:be,(∀(s:ai)(v:ah),BindsTo s fd ⟨[v],[]⟩ [("_law_script",v)])/\∀base:bS,K.In base->base.Ns bC mg->fi l.prog w K mg base kx 9 fa fd ["_law_script"] (gr K (Mg K)):=by
 obtain⟨a0,_,kV0,dc0,pm0,cd0,ct0,_,an0,_,l0,c0,k0⟩:=d42;cases hfa.symm.trans (gn X G a0);have F42:=Gb (st:=uq) l0 c0 k0;have B:Plain mg:=⟨cA X G z0,cA X G z1,cA X G z2,cA X G z3,cA X G z4,cA X G z5,cA X G z6,cA X G z7,cA X G z8⟩;have sq1:∀H,fF K H gF1 [.str "kind"]:=λH=>.inr ⟨_,_,_,Vw,rfl,rfl,by show 1<=av;decide,.cons ⟨Ri,rfl⟩ (.nil)⟩;have sq2:∀H,fF K H gF2 [.str "kind",.str "kind"]:=λH=>.inr ⟨_,_,_,Vy,rfl,rfl,by show 2<=av;decide,.cons ⟨Rj,rfl⟩ (.cons ⟨Rk,rfl⟩ (.nil))⟩;have sq3:∀H,fF K H gF3 [.str "part",.str "part"]:=λH=>.inr ⟨_,_,_,VB,rfl,rfl,by show 2<=av;decide,.cons ⟨Rm,rfl⟩ (.cons ⟨Rn,rfl⟩ (.nil))⟩;have sq4:∀H,fF K H gF4 [.str "part",.str "part"]:=λH=>.inr ⟨_,_,_,VF,rfl,rfl,by show 2<=av;decide,.cons ⟨Ro,rfl⟩ (.cons ⟨Rp,rfl⟩ (.nil))⟩;have sq5:∀H,fF K H gF5 [.str "part",.str "part",.str "part"]:=λH=>.inr ⟨_,_,_,VJ,rfl,rfl,by show 3<=av;decide,.cons ⟨Rq,rfl⟩ (.cons ⟨Rr,rfl⟩ (.cons ⟨Rt,rfl⟩ (.nil)))⟩;have sq6:∀H,fF K H gF6 [.str "kind"]:=λH=>.inr ⟨_,_,_,VN,rfl,rfl,by show 1<=av;decide,.cons ⟨Ru,rfl⟩ (.nil)⟩;have sq7:∀H,fF K H gF7 [.str "part",.str "part"]:=λH=>.inr ⟨_,_,_,VQ,rfl,rfl,by show 2<=av;decide,.cons ⟨Rv,rfl⟩ (.cons ⟨Rx,rfl⟩ (.nil))⟩;have sq8:∀H,fF K H gF8 [.str "kind",.str "part",.str "part",.str "name",.str "name",.str "part"]:=λH=>.inr ⟨_,_,_,VU,rfl,rfl,by show 6<=av;decide,.cons ⟨Ry,rfl⟩ (.cons ⟨RA,rfl⟩ (.cons ⟨RB,rfl⟩ (.cons ⟨RC,rfl⟩ (.cons ⟨RD,rfl⟩ (.cons ⟨RE,rfl⟩ (.nil))))))⟩;have sq9:∀H,fF K H gF9 [.str "name",.str "kind",.str "part"]:=λH=>.inr ⟨_,_,_,V0,rfl,rfl,by show 3<=av;decide,.cons ⟨RF,rfl⟩ (.cons ⟨RG,rfl⟩ (.cons ⟨RH,rfl⟩ (.nil)))⟩;have ae6:∀H,fF K H Vu [.str "part",.str "part"]:=λH=>.inr ⟨_,_,_,NM,rfl,rfl,by show 2<=av;decide,.cons ⟨NF,rfl⟩ (.cons ⟨NG,rfl⟩ (.nil))⟩;have T:JU l.prog w K mg "FORMS" formOf:=Ke (gn X G c_F) l_F Vv Vx Vz VC VH VL VP VR VZ NL sq1 sq2 sq3 sq4 sq5 sq6 sq7 sq8 sq9 ae6 n_F;have hL:∃t,mg "LETTERS"=some (.str gI t):=⟨tL,gn X G c_L⟩;have hF:∃t,mg "FIGURES"=some (.str gJ t):=⟨tG,gn X G c_G⟩;have zM:mg "str"=none:=cA X G NH;have Ut:mg "abs"=none:=cA X G NI;have Ga:mg "all"=none:=cA X G NJ;have P6:mg "zip"=none:=cA X G NK;have hve:mg "ValueError"=none:=cA X G qx;have B2:LN mg:=⟨P6,zM,hve⟩;have mNL:mg "NoLine"=some (.ref nj):=gn X G zU;have cxN:Eg K mg "NoLine" nj:=⟨mNL,Dc⟩;have cxP:Eg K mg "NoPart" zT:=⟨gn X G zV,Dd⟩;have mKE:mg "KindError"=some (.ref rS):=gn X G rV;have zQ:mg "dict"=none:=cA X G Hm;have C:yX K mg:=⟨⟨aN,gn X G NN,λH=>Rep.tuple (vs:=[.str "num"]) (.inr ⟨_,_,_,NO,rfl,rfl,by show 1<=av;decide,.cons ⟨tN,rfl⟩ .nil⟩) (.one (.str _))⟩,⟨aT,gn X G De,λH=>Rep.tuple (vs:=[.str "truth"]) (.inr ⟨_,_,_,Df,rfl,rfl,by show 1<=av;decide,.cons ⟨tT,rfl⟩ .nil⟩) (.one (.str _))⟩⟩;refine⟨dA "law" "law" (jO uq) (eS uq) (aJ uq) .none kV0 dc0 pm0 an0 cd0 ct0,λs v=>.of_eq rfl,λbase _ _=>?_⟩;obtain⟨_,F1,q1⟩:=d1.q1 X G l.prog w base "expr";obtain⟨_,F2,q2⟩:=d2.q2 X G l.prog w base "part" "number";obtain⟨_,F3,q3⟩:=d3.q2 X G l.prog w base "expr" "scope";obtain⟨_,F4,q4⟩:=d4.q2 X G l.prog w base "expr" "scope";obtain⟨_,F5,q5⟩:=d5.q2 X G l.prog w base "pairs" "scope";obtain⟨_,F6,q6⟩:=d6.q3 X G l.prog w base "part" "number" "known";obtain⟨_,F7,q7⟩:=d7.q3 X G l.prog w base "part" "own" "known";obtain⟨_,F8,q8⟩:=d8.q2 X G l.prog w base "part" "own";obtain⟨_,F9,q9⟩:=d9.q3 X G l.prog w base "part" "own" "known";obtain⟨_,F10,q10⟩:=d10.q2 X G l.prog w base "first" "second";obtain⟨_,F11,q11⟩:=d11.q1 X G l.prog w base "expr";obtain⟨_,F12,q12⟩:=d12.q2 X G l.prog w base "expr" "place";obtain⟨_,F13,q13⟩:=d13.q1 X G l.prog w base "word";obtain⟨_,F14,q14⟩:=d14.q1 X G l.prog w base "pieces";obtain⟨_,F15,q15⟩:=d15.q2 X G l.prog w base "part" "number";obtain⟨_,F16,q16⟩:=d16.q1 X G l.prog w base "part";obtain⟨_,F17,q17⟩:=d17.q1 X G l.prog w base "number";obtain⟨_,F18,q18⟩:=d18.q1 X G l.prog w base "kind";obtain⟨_,F19,q19⟩:=d19.q3 X G l.prog w base "word" "marks" "own";obtain⟨_,F20,q20⟩:=d20.q1 X G l.prog w base "line";obtain⟨_,F21,q21⟩:=d21.q1 X G l.prog w base "line";obtain⟨_,F22,q22⟩:=d22.q1 X G l.prog w base "line";obtain⟨_,F23,q23⟩:=d23.q1 X G l.prog w base "line";obtain⟨_,F24,q24⟩:=d24.q1 X G l.prog w base "token";obtain⟨_,F25,q25⟩:=d25.q2 X G l.prog w base "token" "signs";obtain⟨_,F26,q26⟩:=d26.q1 X G l.prog w base "figures";obtain⟨_,F27,q27⟩:=d27.q1 X G l.prog w base "group";obtain⟨_,F28,q28⟩:=d28.q2 X G l.prog w base "due" "found";obtain⟨_,F29,q29⟩:=d29.q1 X G l.prog w base "_law_found";obtain⟨_,F30,q30⟩:=d30.q2 X G l.prog w base "_law_script" "_law_k";obtain⟨_,F31,q31⟩:=d31.q4 X G l.prog w base "_law_word" "_law_marks" "_law_ones" "_law_gaps";obtain⟨_,F32,q32⟩:=d32.q1 X G l.prog w base "_law_cell";obtain⟨_,F33,q33⟩:=d33.q1 X G l.prog w base "_law_cell";obtain⟨_,F34,q34⟩:=d34.q1 X G l.prog w base "_law_cell";obtain⟨_,F35,q35⟩:=d35.q2 X G l.prog w base "_law_pile" "_law_cell";obtain⟨_,F36,q36⟩:=d36.q2 X G l.prog w base "_law_pile" "_law_cell";obtain⟨_,F37,q37⟩:=d37.q1 X G l.prog w base "_law_cells";obtain⟨_,F38,q38⟩:=d38.q2 X G l.prog w base "_law_found" "_law_due";obtain⟨_,F39,q39⟩:=d39.q2 X G l.prog w base "_law_cells" "_law_bad";obtain⟨_,F40,q40⟩:=d40.q1 X G l.prog w base "_law_item";obtain⟨_,F41,q41⟩:=d41.q1 X G l.prog w base "_law_item";have Dg:=q17.oo (Us F17 B Ut zM);have tE:=q19.oo (Uu F19 B T);have wB:=q18.oo (Uw F18 B tE);have pF:=q16.oo (P5 F16 Dg tE);have BQ:=q14.oo (Ux F14 B wB pF);have Jd:=q11.oo (Uz F11 BQ);have BR:=q13.oo (UB F13 T);have AJ:=q25.oo (UE F25 Ga);have Fc:=q26.oo (UG F26 hF);have Fe:=q28.oo (UI F28);have NP:=q23.op (UK F23);have Ff:=q24.oo (UM F24 BR AJ Fc hL hF);have xF:=q27.oo (UN F27 B B.tuple P6 BR Fe);have Hn:=q22.op (Qb F22 B NP Ff xF Fe);have V2:=q20.oxp (Qc F20 cxN Hn Jd);have Ho:=q2.ox (UQ F2 B cxP);have Hq:=q15.oo (Vl F15 B pF);have NQ:=q12.oo (Vm F12 B (Ho.Q3 λ_ _ _ _=>T6) BQ Hq Jd);have Hr:=q1.oo (Ko F1 B);have Fg:=q10.oo (Ny F10 B B2);have zW:=q6.oo (UU F6 zQ);have vv:=q5.oo (U2 F5 B zQ zW);have Fh:=q8.oo (UY F8 C);have zX:=q9.oo (U0 F9 C);have wC:=q7.oo (U1 F7 B (Fg.imp λ_ _ _ _=>Tg) Fh);have Kp:=q4.oo (U5 F4 B Hr vv wC zX);have Je:=q3.oo (NB F3 Kp);have BS:=q21.oxp (Vn F21 V2 (Je.imp λ_ _ _ _=>E6) NQ);have Fi:=q29.oo (Uq F29 B);have NR:=q30.oo (P0 F30 B);have kR:=q31.oo (Vb F31 B B.tuple);have pH:=q32.oo (Vc F32 B);have tH:=q33.oo (Vd F33 B);have zY:=q34.oo (Ve F34 zM B.int kR pH tH);have rW:=q35.oo (Vh F35 B zY);have zZ:=q36.oo (Vi F36 B pH tH rW kR);have Fj:=q37.oo (Vj F37 B zY rW zZ kR);have tI:=q38.oo (Vp F38 B Fi);have Kq:=q39.oo (Vq F39 B zM rW kR);have vw:=q40.oo (Vr F40 B);have sX:=q41.oo (Vs F41 mKE V1 BS (Je.imp λ_ _ _ _=>E6) tI);exact Vt F42 B Fj NR NQ tI sX Kq vw BS
theorem walk{l:wI}{q:aR}{loose:List Str}{XP:(Str->Option ah)->bS->Prop}{YP:bH->bS->Prop}{d:DefRec}{K:Params->aa}(hn:l.most=some 63)(W4:d.params.defaults=[])(hY:∀(w:bH)(h:bS),YP w h->(K w.params).In h)(F:∀(w:bH)(mg:Str->Option ah)(fa:aj)(h:bS),(K w.params).In h->h.Ns bC mg->mg d.name=some (.ref fa)->
   ∃fd:be,(∀(s:ai)(u:ah),BindsTo s fd ⟨[u],[]⟩ [("_law_script",u)])/\∀base:bS,(K w.params).In base->base.Ns bC mg->fi l.prog w (K w.params) mg base kx 9 fa fd ["_law_script"] (gr (K w.params) (Mg (K w.params)))):
  PySem.W.WalkO q loose XP YP l.row.toRowW d [] (λf vs=>PySem.call f vs):=
 L2.Oq (n:=63) (k:=9) (x:="_law_script") (CX:=λ_=>kx) (sp:=λw=>gr (K w.params) (Mg (K w.params))) hn (by decide) W4 ⟨rfl,by decide,by decide⟩ hY F (λ_ _ a ns hl ho hS=>To hl ho hS) λ_ _ _ _ _ z=>z
end Wk
namespace PySem.W.Fast
def tw7547830758969900678:=0
def tw8239941403552128065:=0
def tw7137620696171234763:=0
def tw18412954899801926966:=0
def tw15114755965663354185:=0
def tw13923668522677671645:=0
def tw15356261866039833221:=0
def tw4442787306649261416:=0
def tw2362636331714630890:=0
def tw4853387190903944017:=0
def tw6149632637970512856:=0
def tw2485582958167625564:=0
def tw4426357740763040058:=0
def tw15700526220040200955:=0
def tw11064092721474806325:=0
def tw6988176901385181131:=0
def tw13744199738280640841:=0
def tw8422695680644040886:=0
def tw7569996675876789305:=0
def tw18185584061293263020:=0
def tw16820852104279993263:=0
def tw2852982057504782498:=0
def tw15649866597158717547:=0
def tw15285509263025124205:=0
def tw12267764485941347722:=0
def tw13294019979153689467:=0
def tw8374081980115393606:=0
def tw18029770664270717395:=0
def tw11378815995936458783:=0
def tw10734034114787588783:=0
def tw5683483650286973145:=0
def tw17240856442231660501:=0
def tw11243623741294443322:=0
def tw10672677929488335644:=0
def tw6582400488287406802:=0
def tw1741047297030311622:=0
def tw11455077975747823048:=0
def tw8485101124952712343:=0
def tw840883916848649755:=0
def tw8443131287184111675:=0
def tw11503215582652136291:=0
def tw5687043221485092768:=0
def tw1520515653388078290:=0
def tw13542540166358756631:=0
def tw13326907190663573577:=0
def tw9108442414033893923:=0
def tw5021553819720164231:=0
def tw3344475732997415022:=0
def tw11066066624357997326:=0
def tw10104046062469505140:=0
def tw1470991779360338958:=0
def tw879273383304669113:=0
def tw11921887944525116296:=0
def tw17961674798358731998:=0
def tw12566416944161646183:=0
def tw11835029987825037884:=0
def tw11839039160261746504:=0
def tw4654532256786557371:=0
def tw13182071097392219986:=0
def tw5364421562911625389:=0
def tw12090550596685121547:=0
def tw1309913665417025196:=0
def tw14805170340316935112:=0
def tw5314397787937504497:=0
def tw7853464375819249620:=0
def tw3670744027353049062:=0
def tw686837082775808441:=0
def tw1023504341502170524:=0
def tw5675536814499105334:=0
def tw11637984180050544462:=0
def tw1813575975436235160:=0
def tw7276931501048573186:=0
def tw739226869835842971:=0
def tw5133013848436249802:=0
def tw6343911619059581445:=0
def tw703496656852937253:=0
def tw8421405524679927431:=0
def tw11885437960771969868:=0
def tw4829255751680454684:=0
def tw10650697956906491661:=0
def tw9535329749435117480:=0
def tw7215763619284858157:=0
def tw4686211486122144298:=0
def tw8052335128798996296:=0
def tw14022971816540597690:=0
def tw8393508370428917883:=0
def tw4698013444854601730:=0
def tw4543610701390573897:=0
def tw8784980878803020226:=0
def tw11785375236175940098:=0
def tw4010014054755734290:=0
def tw17752937775736216506:=0
def tw1040322872210725997:=0
def tw9718979273449401152:=0
def tw4170771582404322746:=0
def tw9265541183470933314:=0
def tw239199466968171190:=0
def tw6697788864815988283:=0
def tw14917365814112636167:=0
def tw15717703333971951455:=0
def tw10494657053467758137:=0
def tw12768848627936634161:=0
def tw3680574631380523928:=0
end PySem.W.Fast
open PySem PySem.W PyProof.Rows
set_option maxRecDepth 100000 in
set_option maxHeartbeats 0 in
theorem PySem.Challenge.cw_wellkind_k10_where_it_stands_holds : PySem.Challenge.rw_wellkind_k10_where_it_stands.Holds := by
  w_on; o_law; k_head; (case hw => w_witness2)
  k_fill
  refine Wk.walk (l := PySem.Challenge.rw_wellkind_k10_where_it_stands) rfl rfl (fun w h Y => PySem.W.kIn_of Y) ?F
  case F =>
    intro w mg fa h KX G SD
    refine' Wk.all_mk KX G SD ?d1 ?d2 ?d3 ?d4 ?d5 ?d6 ?d7 ?d8 ?d9 ?d10 ?d11 ?d12 ?d13 ?d14 ?d15 ?d16 ?d17 ?d18 ?d19 ?d20 ?d21 ?d22 ?d23 ?d24 ?d25 ?d26 ?d27 ?d28 ?d29 ?d30 ?d31 ?d32 ?d33 ?d34 ?d35 ?d36 ?d37 ?d38 ?d39 ?d40 ?d41 ?d42 ?z0 ?z1 ?z2 ?z3 ?z4 ?z5 ?z6 ?z7 ?z8 ?NH ?NI ?NJ ?NK ?qx ?c_F ?l_F ?Vv ?Vw ?Vx ?Vy ?Vz ?VB ?VC ?VF ?VH ?VJ ?VL ?VN ?VP ?VQ ?VR ?VU ?VZ ?V0 ?NL ?NM ?n_F ?c_L ?c_G ?zU ?Dc ?YG ?zV ?Dd ?rV ?V1 ?Hm ?NN ?De ?NO ?Df
    (case d1 | d2 | d3 | d4 | d5 | d6 | d7 | d8 | d9 | d10 | d11 | d12 | d13 | d14 | d15 | d16 | d17 | d18 | d19 | d20 | d21 | d22 | d23 | d24 | d25 | d26 | d27 | d28 | d29 | d30 | d31 | d32 | d33 | d34 | d35 | d36 | d37 | d38 | d39 | d40 | d41 | d42 => refine' Wk.lK.mk ?a ?l ?c ?k; case a | l | c | k => k_is)
    (case z0 | z1 | z2 | z3 | z4 | z5 | z6 | z7 | z8 | NH | NI | NJ | NK | qx | c_F | l_F | Vv | Vw | Vx | Vy | Vz | VB | VC | VF | VH | VJ | VL | VN | VP | VQ | VR | VU | VZ | V0 | NL | NM | n_F | c_L | c_G | zU | Dc | YG | zV | Dd | rV | V1 | Hm | NN | De | NO | Df => first | k_is | rfl | kernel_rfl | decide +kernel)
