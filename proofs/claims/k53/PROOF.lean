import PyProof.Rows.All
import KE.KDictSum
import KE.KIsAll
import KE.KLam
import KE.KNestM
import KE.KRevIter
import KE.KSortTup
import KE.KUnpack
import KE.LcSums
import PySem.Challenge.RW_rankpouch_k53_halves_bounds
set_option Elab.async false
set_option linter.all false
set_option maxRecDepth 100000
set_option compiler.extract_closed false
set_option genSizeOf false
set_option bootstrap.genMatcherCode false
noncomputable section
open PySem renaming wpAny_bind->aI,wpAny_pure->bC,wpAny_mono->oB,wpAny_newObj_type->qD,sizeLine_eq->qH,wpAny_holding->sT,wpAny_call_entry->sU,wpAny_rule->vH,wpAny_ite_false->vI,codeAny_mono->yN,wpAny_setField_rec->zJ,wpAny_setState_of->BL,wpAny_field->BN,wpAny_askSetting->BO,wpAny_setEntries_of->FP,wpAny_passesOwn->FQ,wpAny_callSpecial?_slot->FR,wpAny_attempt->FT,codeAny_builtin->IS,wpAny_truthy_bool->KJ,wpAny_loadPart_at->KL,wpAny_fieldsOf->KN,wpAny_execs_nil->RO,wpAny_Call_Name_kw->RP,plainId_quiet->TN,wpAny_ite_true->ZQ,wpAny_isInstance->ZR,fits_of_scanBound->Jr,codeAny_call_builtin->ab4
open PyProof.Rows renaming wpS_bind->bJ,wpS_pure->dB,wpS_mono->oA,wpS_forRange->qC,wpS_get->xG,boot_max->AO,boot_isinstance->AQ,wpS_modify->FN,get?_update_seq->VV,slot_tuple_getitem->adZ,callWith_type1->ad0,boot_int->ad1
open Ne renaming symm->cQ
open List renaming getElem?_eq_some_iff->cR,map_cons->dJ,mem_cons->dY,length_cons->eB,getElem?_set_ne->eP,length_append->fJ,getElem?_set_self->fP,getElem?_eq_getElem->gM,size_toArray->hW,mem_append->hX,append_assoc->iH,mem_cons_of_mem->iP,getElem?_append_left->jA,getElem?_map->jH,mem_of_getElem?->jP,length_map->jQ,mem_singleton->kL,mem_append_right->lD,set_set->lO,mem_append_left->mD,mem_map->oU,append_nil->pY,getElem?_append_right->qS,take_append_drop->sI,map_map->tN,map_append->tO,sum_cons->vC,pairwise_append->vD,cons_append->vE,nodup_cons->wZ,length_take->xA,length_set->xB,length_nil->xC,filterMap_cons->xD,getElem_of_mem->yX,getElem?_eq_none->yY,not_mem_nil->BA,perm_append_comm->EV,map_nil->EW,find?_cons->EX,ext_getElem?->EY,lookup_cons->JN,getElem?_take->JO,drop_eq_getElem_cons->JP,all_eq_true->JQ,take_sublist->QB,nil_append->QC,map_congr_left->QD,length_drop->QE,any_cons->QF,take_of_length_le->YI,take_add_one->YJ,nodup_append->YK,length_singleton->YL,take_zero->Oj,of_mem_zip->Ol,mem_singleton_self->Om,mem_of_mem_take->Oo,length_eq_zero_iff->Oq,getElem_mem->Ot,getElem_drop->Ou,filter_cons->Ov,eq_nil_of_length_eq_zero->Ow,any_eq_true->Ox,all_cons->Oy,singleton_append->aeH,set_cons_zero->aeI,set_cons_succ->aeJ,replicate_succ->aeK,mem_or_eq_of_mem_set->aeL,length_replicate->aeM,getElem?_drop->aeN,flatten_cons->aeO,filterMap_map->aeP
open PySem.Heap renaming lt_size->eI,get?_push_of_some->eK,get?_push_size->iQ,get?_update_other->sJ,size_push->JV,get?_update_self->QS
open _root_ renaming if_true->fI,if_false->gC,decide_eq_false->nD,getElem?_pos->oP,beq_iff_eq->uW,and_true->uZ,beq_eq_false_iff_ne->wO,decide_eq_true->yM,decide_true->EA,decide_eq_true_eq->EB,or_false->GY,decide_false->IQ,decide_eq_false_iff_not->OM,of_decide_eq_true->Ep
open Nat renaming ne_of_lt->fX,lt_of_lt_of_le->lN,le_trans->nW,le_refl->rK,zero_le->AW,le_succ->AX,zero_add->ET,lt_or_ge->JH,ne_of_gt->PX,pow_succ->YC,lt_succ_self->YD,lt_succ_of_lt->YE,le_of_not_lt->Nu
open Array renaming length_toList->gO,getElem?_toList->nF,toList_push->FK,getElem?_eq_some_iff->RJ,toList_extract->ZK,perm_iff_toList_perm->ZL,getElem?_eq_getElem->Qx,toList_append->afA,getElem?_eq_none_iff->afB
open Option.some renaming injEq->iZ,inj->nV
open Bool renaming false_eq_true->kD,and_eq_true->lF,not_eq_true'->ZJ,false_ne_true->ae8
open List.cons renaming injEq->nX
open Int renaming eq_ofNat_of_zero_le->oV,le_refl->tP,mul_assoc->vF,toNat_natCast->zA,one_mul->JU,zero_add->QL,mul_add->QM,le_of_lt->QN,emod_nonneg->QO,emod_lt_of_pos->QP,mul_le_mul_of_nonneg_left->YO
open PySem.W renaming mg_none_of->qZ
open Prod.mk renaming injEq->wU
open Option renaming map_eq_some_iff->AV,bind_eq_some_iff->JG,map_some->PV
open List.Perm renaming refl->EZ,append_left->JR
open Classical renaming choose_spec->FJ
open PySem.Around renaming under_plainId->ZM
open PyProof.Rows.F renaming plain_set_update_loop->ad2,entry_set_update_loop->aH3
open PySem.F renaming typeOf_object_class->ae0
open PySem.Calls renaming evalArgs_plain->ae3,call_function_entry->ae4,callWith_builtin->ae5
open Option renaming some->ak,none->aq
open _root_ renaming List->ao,Option->av,Int->az,Nat->a4,Array->a6,if_pos->a7,if_neg->ba,Bool->bh,absurd->b4,String->cj,False->ck,congrArg->cz,StateT->c3,Decidable->c8,ForInStep->dr
open PySem renaming Value->ar,Shared->aw,Addr->ay,mainGlobals->a5,Str->a9,sizeLine->bc,starEach->bf,Program->bg,model->bq,World->br,Around->bu,Stmt->bw,Expr->bx,Heap->bz,compareOp->b8,SetTable->b9,eval->cb,sliceBounds->cg,assignEach->cn,Obj->cp,backTo->cv,binaryOp->cx,FuncData->cy,intKind->c1,excClassObj->c4,OsState->c6,bootBuiltins->c9,Scope->da,foldedSetIterable->de,attributeBase->df,Pos->dg,NameKind->dh,keywordEach->dn,sysModules->dq,treeTable->du,rawInt->dw,holding->dy,firstArgMember->dz,scanBound->d7,Model->ec,pyNext->ee,behindInMarks->eh,bindArgs->ei,swapsWith->e4
open Bool renaming false->au,true->ax
open PyProof.Rows renaming Keyed->a8,SortSt->bo,arrOf->bp,pendingOf->b6,elem'->cm,seqObj->cq,IntsAre->cw,wpS_pure->c5,envOfC->c7,SortKind->dj,failedOf->dk,firstMet->dm,reverseSlice'->ek,sortedHeap->ew,step_dedup->ez
open PySem.W renaming Frag->bj,findIn->b5,subIn->b7,nsIn->cu,kia_one->d0,boot_heap->d8,behindTheImports->ea,SharedT->et,kitOne->eu,emptyDict->e7
theorem oIr{α:Sort _}{a:α}{q:Prop}:a=a\/q:=Or.inl rfl
theorem dH{α β j:Sort _}{f:α->β->j}:∀x y,f x y=f x y:=λ_ _=>rfl
theorem dC{n:a4}:n<=n:=rK n
theorem iLr{n:az}:n<=n:=tP n
theorem vU{α:Type _}{a:α}{l:ao α}:a∈a::l:=List.mem_cons_self ..
theorem CP{n:a4}:0<=n:=AW n
open PySem.W (Frag Looks OpenLaw callWith_K cellsFrom_some codeIn emptyDict excIn findIn fnOf hasDictIn instObj isFn keepIn kia_one kitAny kitOne lookIn looks_findIn looks_subIn makesIn methodCall_KW methodObj mg_of mroIn nsIn plainGet plainGet_of specialIn subIn takerIn takesIn)
namespace L2
open PySem PySem.Spec PyProof.Rows
abbrev Key:=Sum az a9
noncomputable def HM:Key->ar->bh
 |.inl k,v=>Value.isInt k v
 |.inr x,v=>Value.isStrOf x v
noncomputable def auH(w:br):Key->az
 |.inl k=>hashInt k
 |.inr x=>hashStr w x
theorem uN:∀{k:Key} {v:ar},HM k v=ax->(∃i t,k=Sum.inl i/\v=Value.int i t)\/(∃x t,k=Sum.inr x/\v=Value.str x t)
 |.inl i,v,h=>by
  obtain⟨t,e⟩:=Value.isInt_shape (k:=i) (v:=v) h;exact .inl ⟨i,t,rfl,e⟩
 |.inr x,v,h=>by
  obtain⟨t,e⟩:=Value.isStrOf_shape (x:=x) (v:=v) h;exact .inr ⟨x,t,rfl,e⟩
theorem auG(i:az)(t:Tok):HM (.inl i) (.int i t)=ax:=by simp[HM,Value.isInt]
theorem auF(x:a9)(t:Tok):HM (.inr x) (.str x t)=ax:=by simp[HM,Value.isStrOf]
theorem auE(a b:az):decide ((Sum.inl a:Key)=Sum.inl b)=(a==b):=by
 by_cases e:a=b
 ·subst e;simp
 ·have h:¬(Sum.inl a:Key)=Sum.inl b:=λq=>e (Sum.inl.inj q);rw[nD h];exact(wO.mpr e).symm
theorem auB(a b:a9):decide ((Sum.inr a:Key)=Sum.inr b)=decide (a=b):=by
 by_cases e:a=b
 ·subst e;simp
 ·have h:¬(Sum.inr a:Key)=Sum.inr b:=λq=>e (Sum.inr.inj q);rw[nD h,nD e]
theorem auD(a:az)(b:a9):decide ((Sum.inl a:Key)=Sum.inr b)=au:=nD (λq=>nomatch q)
theorem auC(a:a9)(b:az):decide ((Sum.inr a:Key)=Sum.inl b)=au:=nD (λq=>nomatch q)
def mK(prog:bg)(w:br):PySem.KeyKind prog w Key where
 is:=HM
 hash:=auH w
 inj:=λv a b ha hb=>by
  rcases uN ha with⟨i,t,rfl,rfl⟩|⟨x,t,rfl,rfl⟩
  ·rcases uN hb with⟨j,u,rfl,e⟩|⟨y,u,rfl,e⟩
   ·injection e with e1 _;rw[e1]
   ·exact nomatch e
  ·rcases uN hb with⟨j,u,rfl,e⟩|⟨y,u,rfl,e⟩
   ·exact nomatch e
   ·injection e with e1 _;rw[e1]
 byValue:=λk v h=>by
  rcases uN h with⟨i,t,rfl,rfl⟩|⟨x,t,rfl,rfl⟩ <;> rfl
 pyHash:=λhv h=>by
  rcases uN hv with⟨i,t,rfl,rfl⟩|⟨x,t,rfl,rfl⟩
  ·exact wpAny_pyHash_int h
  ·exact wpAny_pyHash_str h
 eqBool:=λq hv h=>by
  rcases uN q with⟨i,t,rfl,rfl⟩|⟨x,t,rfl,rfl⟩
  ·rcases uN hv with⟨j,u,rfl,rfl⟩|⟨y,u,rfl,rfl⟩
   ·rw[auE]at h;exact wpAny_eqBool_int h
   ·rw[auD]at h;exact SeqAt.EqAt.int_str i t y u _ _ _ _ h
  ·rcases uN hv with⟨j,u,rfl,rfl⟩|⟨y,u,rfl,rfl⟩
   ·rw[auC]at h;exact SeqAt.EqAt.str_int x t j u _ _ _ _ h
   ·rw[auB]at h;exact wpAny_eqBool_str h
 «strs»:=λk x t v h=>by
  rcases uN h with⟨i,u,rfl,e⟩|⟨y,u,rfl,e⟩
  ·exact nomatch e
  ·injection e with e1 _;subst e1;cases v <;> rfl
theorem as3(prog:bg)(w:br)(i:az)(t:Tok):(mK prog w).is (.inl i) (.int i t)=ax:=auG i t
theorem as2(prog:bg)(w:br)(x:a9)(t:Tok):(mK prog w).is (.inr x) (.str x t)=ax:=auF x t
inductive V where
 |bQ|bl (b:bh)|int (i:az)|str (x:a9)|WT (b:a6 UInt8)|DU (b:UInt64)|ref (a:ay)|ty (n:cj)
 deriving DecidableEq
def RelV:V->ar->Prop
 |.bQ,u=>u=Value.none
 |.bl b,u=>u=Value.bool b
 |.int i,u=>∃t,u=Value.int i t
 |.str x,u=>∃t,u=Value.str x t
 |.WT b,u=>∃t,u=Value.bytes b t
 |.DU b,u=>∃t,u=Value.float b t
 |.ref a,u=>u=Value.ref a
 |.ty n,u=>u=Value.type n
abbrev Vals:ao V->ao ar->Prop:=Paired RelV
theorem Vals.length{xs:ao V}{us:ao ar}(r:Vals xs us):xs.length=us.length:=Paired.length r
theorem Vals.get:∀{xs:ao V} {us:ao ar} {i:a4} {x:V},Vals xs us->xs[i]?=ak x->∃u,us[i]?=ak u/\RelV x u
 |_,_,_,_,.nil,e=>by simp at e
 |_,_,0,_,.cons r _,e=>by simp at e;subst e;exact⟨_,rfl,r⟩
 |_,_,i+1,x,.cons _ t,e=>by
  obtain⟨u,h1,h2⟩:=Vals.get (i:=i) (x:=x) t (by simpa using e);exact⟨u,by simpa using h1,h2⟩
theorem Vals.set{x:V}{u:ar}(r:RelV x u):∀{xs:ao V} {us:ao ar} (i:a4),Vals xs us->Vals (xs.set i x) (us.set i u)
 |_,_,_,.nil => .nil
 |_,_,0,.cons _ t => .cons r t
 |_,_,i+1,.cons q t => .cons q (Vals.set r i t)
theorem Vals.append:∀{xs ys:ao V} {us ws:ao ar},Vals xs us->Vals ys ws->Vals (xs++ys) (us++ws)
 |_,_,_,_,.nil,s=>s
 |_,_,_,_,.cons r t,s => .cons r (Vals.append t s)
theorem Vals.take:∀{xs:ao V} {us:ao ar} (n:a4),Vals xs us->Vals (xs.take n) (us.take n)
 |_,_,0,_ => .nil
 |_,_,_+1,.nil => .nil
 |_,_,n+1,.cons r t => .cons r (Vals.take n t)
theorem Vals.drop:∀{xs:ao V} {us:ao ar} (n:a4),Vals xs us->Vals (xs.drop n) (us.drop n)
 |_,_,0,r=>r
 |_,_,_+1,.nil => .nil
 |_,_,n+1,.cons _ t=>Vals.drop n t
def nU:av V->av ar->Prop
 |some v,ak u=>RelV v u
 |none,aq=>True
 |_,_=>ck
def KV{κ:Type}:ao (κ×V)->ao (κ×ar)->Prop:=Paired λ(p:κ×V) (q:κ×ar)=>p.1=q.1/\RelV p.2 q.2
noncomputable def kV:Key->V
 |.inl i => .int i
 |.inr x => .str x
inductive HO where
 |lst (xs:ao V)
 |tup (xs:ao V)
 |dK (kvs:ao (Key×V))|dT (kvs:ao (ao Key×V))
 |set (S:az->bh) (n:a4)
 |ins (C dx:ay) (fs:ao (a9×V))
 |own (x:ay)
 |xd (fs:ao (a9×V))
 |met (f x:ay)
 |TB (lo hi:az)
 |iC (o:cp) (u:HO)
 |xK (ps:a6 ar)
 |ext (φ:bz->Prop)
abbrev Hp:=ay->av HO
noncomputable def upd(H:Hp)(a:ay)(o:HO):Hp:=λb=>if b=a then ak o else H b
theorem gV{H:Hp}{a:ay}{o:HO}:upd H a o a=ak o:=by unfold upd;rw[a7 rfl]
theorem bX{H:Hp}{a b:ay}{o:HO}(h:b≠a):upd H a o b=H b:=by unfold upd;rw[ba h]
theorem ME{H:Hp}{a b:ay}{o u:HO}(h:H a=ak o)(h':H b=ak u)(d:o≠u):a≠b:=by
 intro e;subst e;rw[h]at h';exact d (nV h')
theorem mI{H:Hp}{a b:ay}{o:HO}(h:H a=ak o)(h':H b=aq):a≠b:=by
 intro e;subst e;rw[h]at h';cases h'
section
variable(P:bg)(w:br)
def iG(H:Hp)(h:bz)(a:ay):HO->Prop
 | .lst xs=>xs.length<=bc/\∃(j:ao ar) (n:a4),Vals xs j/\h.get? a=ak {cls:=.type "list",data:=.seq j.toArray n}
 |.tup xs=>xs.length<=bc/\∃j:ao ar,Vals xs j/\IsTup h a j.toArray
 |.dK kvs=>kvs.length<=bc/\(a==dq)=au/\∃vs,KV kvs vs/\h.DictOf (mK P w) a vs
 |.dT kvs=>kvs.length<=bc/\(a==dq)=au/\∃xs:ao (ao Key×ay×ar),
   Paired (λ(p:ao Key×V) (q:ao Key×ay×ar)=>p.1=q.1/\H q.2.1=ak (.tup (p.1.map kV))/\RelV p.2 q.2.2) kvs xs /\
   ∃o es ep,h.get? a=ak o/\o.ExactDict/\o.data=.dict es ep/\es.toList=xs.map (entryOfKey (tupleKind (mK P w)))/\(xs.map (·.1)).Nodup
 |.set S n=>h.SetOf (c1 P w) a S n
 |.ins C dx fs=>H dx=ak (.own a)/\fs.length<=1000/\dx≠a/\h.get? a=ak (instObj C dx) /\
   ∃mA,h.Ns1 dx mA/\(∀f,nU (fs.lookup f) (mA f))/\PySem.Within mA (fs.map (·.1))
 |.own _=>∃o,h.get? a=ak o
 |.xd fs=>∃mA,h.Ns1 a mA/\∀f,nU (fs.lookup f) (mA f)
 | .TB lo hi=>∃t u v,h.get? a=ak {cls:=.type "range",data:=.fields #[.int lo t,.int hi u,.int 1 v]}
 |.iC o u=>h.get? a=ak o/\iG H h a u
 |.xK ps=>h.get? a=ak {cls:=.none,data:=.fields ps}
 |.met f x=>h.get? a=ak (methodObj (.ref f) (.ref x))
 |.ext z=>z h/\(∃o,h.get? a=ak o)/\∀h1 h2:bz,z h1->(∀o,h1.get? a=ak o->h2.get? a=ak o)->z h2
def fQ(H:Hp)(h:bz):Prop:=∀a o,H a=ak o->iG P w H h a o
end
section
variable{P:bg}{w:br}{H H':Hp}{h h':bz}{a:ay}{o:HO}
theorem iG.lt(x:iG P w H h a o):a<h.objs.size:=by
 cases o with
 |lst xs=>obtain⟨_,_,_,_,e⟩:=x;exact eI e
 |tup xs=>obtain⟨_,_,_,p⟩:=x;exact p.lt
 |dK j=>obtain⟨_,_,_,_,o,_,_,e,_⟩:=x;exact eI e
 |dT j=>obtain⟨_,_,_,_,o,_,_,e,_⟩:=x;exact eI e
 |set S n=>obtain⟨o,_,_,_,e,_⟩:=x;exact eI e
 |ins C B fs=>obtain⟨_,_,_,e,_⟩:=x;exact eI e
 |own y=>obtain⟨_,e⟩:=x;exact eI e
 |xd fs=>obtain⟨_,⟨_,_,_,e,_⟩,_⟩:=x;exact eI e
 |TB lo hi=>obtain⟨_,_,_,e⟩:=x;exact eI e
 |iC ob u=>obtain⟨e,_⟩:=x;exact eI e
 |xK z=>exact eI (show h.get? a=ak _ from x)
 |met f y=>exact eI (show h.get? a=ak _ from x)
 |ext q=>obtain⟨_,⟨_,e⟩,_⟩:=x;exact eI e
theorem Paired.Fj{α β:Type}{F G:α->β->Prop}:∀{q:ao α} {j:ao β},Paired F q j->(∀a b,F a b->G a b)->Paired G q j
 |_,_,.nil,_ => .nil
 |_,_,.cons r t,f => .cons (f _ _ r) (Paired.Fj t f)
theorem iG.qX(x:iG P w H h a o)(k:∀b u,(b=a\/H b=ak (.own a))->h.get? b=ak u->h'.get? b=ak u)
  (s:∀b,H b=ak (.own a)->H' b=ak (.own a)) (m:∀b xs,H b=ak (.tup xs)->H' b=ak (.tup xs)):iG P w H' h' a o:=by
 induction o with
 |lst xs=>obtain⟨z,g,n,r,e⟩:=x;exact⟨z,g,n,r,k _ _ (.inl rfl) e⟩
 |tup xs=>obtain⟨z,g,r,ob,e,c⟩:=x;exact⟨z,g,r,ob,k _ _ (.inl rfl) e,c⟩
 |dK U=>obtain⟨z,y,l,r,ob,es,j,e,c⟩:=x;exact⟨z,y,l,r,ob,es,j,k _ _ (.inl rfl) e,c⟩
 |dT U =>
  obtain⟨z,y,xs,r,ob,es,j,e,c⟩:=x;exact⟨z,y,xs,Paired.Fj r λp q z=>⟨z.1,m _ _ z.2.1,z.2.2⟩,ob,es,j,k _ _ (.inl rfl) e,c⟩
 |set S n=>obtain⟨ob,es,j,t,e,c⟩:=x;exact⟨ob,es,j,t,k _ _ (.inl rfl) e,c⟩
 |ins C E fs =>
  obtain⟨d,z,ne,e,L,⟨B,es,j,A,c⟩,r⟩:=x;exact⟨s _ d,z,ne,k _ _ (.inl rfl) e,L,⟨B,es,j,k _ _ (.inr d) A,c⟩,r⟩
 |own y=>obtain⟨ob,e⟩:=x;exact⟨ob,k _ _ (.inl rfl) e⟩
 |xd fs=>obtain⟨L,⟨B,es,j,e,c⟩,r⟩:=x;exact⟨L,⟨B,es,j,k _ _ (.inl rfl) e,c⟩,r⟩
 |TB lo hi=>obtain⟨t,u,v,e⟩:=x;exact⟨t,u,v,k _ _ (.inl rfl) e⟩
 |iC ob u ih=>obtain⟨e,q⟩:=x;exact⟨k _ _ (.inl rfl) e,ih q⟩
 |xK i =>
  have e:h.get? a=ak {cls:=.none,data:=.fields i}:=x;show h'.get? a=ak {cls:=.none,data:=.fields i};exact k a _ (.inl rfl) e
 |met f y =>
  have e:h.get? a=ak (methodObj (.ref f) (.ref y)):=x;show h'.get? a=ak (methodObj (.ref f) (.ref y));exact k a _ (.inl rfl) e
 |ext D=>obtain⟨p,⟨o,e⟩,st⟩:=x;exact⟨st _ _ p λo q=>k _ _ (.inl rfl) q,⟨o,k _ _ (.inl rfl) e⟩,st⟩
theorem fQ.lt(x:fQ P w H h)(e:H a=ak o):a<h.objs.size:=(x a o e).lt
theorem fQ.fresh(x:fQ P w H h)(e:h.objs.size<=a):H a=aq:=by
 cases q:H a with
 |none=>rfl
 |some u=>exact b4 (lN (x.lt q) e) (Nat.lt_irrefl _)
theorem fQ.kept(x:fQ P w H h)(k:∀b u,h.get? b=ak u->h'.get? b=ak u):fQ P w H h':=λa o e =>
 (x a o e).qX (λb u _ q=>k b u q) (λ_ q=>q) λ_ _ q=>q
theorem fQ.laid(x:fQ P w H h)(k:∀b u,h.get? b=ak u->h'.get? b=ak u)(j:h.objs.size<=a)(new:iG P w (upd H a o) h' a o):fQ P w (upd H a o) h':=λb u e=>by
 have hn:=x.fresh j
 by_cases hb:b=a
 ·subst hb;rw[gV]at e;cases e;exact new
 ·rw[bX hb]at e;exact(x b u e).qX (λc v _ q=>k c v q) (λc q=>by rw[bX (mI q hn)];exact q) λc xs q=>by rw[bX (mI q hn)];exact q
end
def Rd(H:Hp)(a:ay)(u:HO):Prop:=H a=ak u\/∃o,H a=ak (.iC o u)
theorem Rd.ok{P:bg}{w:br}{H:Hp}{h:bz}{a:ay}{u:HO}(r:Rd H a u)(x:fQ P w H h):iG P w H h a u:=by
 rcases r with r|⟨o,r⟩
 ·exact x a u r
 ·obtain⟨_,q⟩:=x a _ r;exact q
def PY:av HO->Prop
 |some (.lst _)=>True
 |some (.dK _)=>True
 |some (.dT _)=>True
 |some (.set _ _)=>True
 |some (.ins _ _ _)=>True
 |some (.ext _)=>True
 |_=>ck
section
variable{P:bg}{w:br}{H:Hp}{h h':bz}{x e:ay}{o':HO}
theorem fQ.write(ok:fQ P w H h)(j:PY (H x))(he:e=x\/H e=ak (.own x))(k:∀b u,b≠e->h.get? b=ak u->h'.get? b=ak u)(f:∃u,h'.get? e=ak u)
  (new:iG P w (upd H x o') h' x o'):fQ P w (upd H x o') h':=λb u q=>by
 have d:∀c y,H c=ak (.own y)->c≠x:=λc y r z=>by subst z;rw[r]at j;exact j
 have U:∀c xs,H c=ak (.tup xs)->c≠x:=λc xs r z=>by subst z;rw[r]at j;exact j
 by_cases hb:b=x
 ·subst hb;rw[gV]at q;cases q;exact new
 ·rw[bX hb]at q
  by_cases L:b=e
  ·have a:H b=ak (.own x):=by
    rcases he with z|z
    ·exact b4 (L.trans z) hb
    ·rw[L];exact z
   rw[q]at a;cases a;obtain⟨v,hv⟩:=f;exact⟨v,by rw[L];exact hv⟩
  ·refine(ok b u q).qX (λc v B r=>k c v ?_ r) (λc r=>by rw[bX (d c b r)];exact r) λc xs r=>by rw[bX (U c xs r)];exact r
   rcases B with rfl|B
   ·exact L
   ·rintro rfl
    rcases he with z|z
    ·exact d c b B z
    ·rw[B]at z;cases z;exact hb rfl
end
structure Un(fs ex:ao ay)(H H':Hp)(h h':bz):Prop where
 keep:∀b o,h.get? b=ak o->H b=aq->b∉fs->b∉ex->h'.get? b=ak o
 slot:∀b o,h.get? b=ak o->H b=aq->b∈fs->b∉ex->∃sl,h'.get? b=ak {o with slots:=sl}
 free:∀b o,h.get? b=ak o->H b=aq->b∉ex->H' b=aq
 there:∀b o,h.get? b=ak o->b∉ex->∃o',h'.get? b=ak o'
 oF:∀b xs,H b=ak (.tup xs)->H' b=ak (.tup xs)
 nQ:∀b o u,H b=ak (.iC o u)->H' b=ak (.iC o u)
 oG:∀b ps,H b=ak (.xK ps)->∃more,H' b=ak (.xK (ps++more))
section
variable{fs nP ex ex':ao ay}{H H1 H2:Hp}{h h1 h2 h':bz}{a x e:ay}{o:HO}
theorem Un.any(u:Un fs ex H H1 h h1){b:ay}{ob:cp}(q:h.get? b=ak ob)(n:H b=aq)(j:b∉ex):∃sl,h1.get? b=ak {ob with slots:=sl}:=by
 by_cases hb:b∈fs
 ·exact u.slot b ob q n hb j
 ·exact⟨ob.slots,u.keep b ob q n hb j⟩
theorem Un.trans(a:Un fs ex H H1 h h1)(b:Un fs ex H1 H2 h1 h2):Un fs ex H H2 h h2 where
 keep:=λc ob q n z j=>b.keep c ob (a.keep c ob q n z j) (a.free c ob q n j) z j
 slot:=λc ob q n z j=>by
  obtain⟨sl,e1⟩:=a.slot c ob q n z j;obtain⟨f,L⟩:=b.slot c _ e1 (a.free c ob q n j) z j;exact⟨f,L⟩
 free:=λc ob q n j=>by
  obtain⟨B,e1⟩:=a.there c ob q j;exact b.free c B e1 (a.free c ob q n j) j
 there:=λc ob q j=>by
  obtain⟨B,e1⟩:=a.there c ob q j;exact b.there c B e1 j
 oF:=λc xs q=>b.oF c xs (a.oF c xs q)
 nQ:=λc ob xs q=>b.nQ c ob xs (a.nQ c ob xs q)
 oG:=λc U q=>by
  obtain⟨e,e1⟩:=a.oG c U q;obtain⟨d,L⟩:=b.oG c _ e1;exact⟨e++d,by rw[L,Array.append_assoc]⟩
theorem Un.kept(k:∀b u,h.get? b=ak u->h'.get? b=ak u):Un fs ex H H h h' :=
 ⟨λb ob q _ _ _=>k b ob q,λb ob q _ _ _=>⟨ob.slots,k b ob q⟩,λ_ _ _ n _=>n,λb ob q _=>⟨ob,k b ob q⟩,λ_ _ q=>q,λ_ _ _ q=>q,λ_ j q=>⟨#[],by rw[q];simp⟩⟩
theorem Un.refl:Un fs ex H H h h:=Un.kept λ_ _ q=>q
theorem Un.laid(k:∀b u,h.get? b=ak u->h'.get? b=ak u)(j:h.objs.size<=a)(hn:H a=aq):Un fs ex H (upd H a o) h h' where
 keep:=λb u q _ _ _=>k b u q
 slot:=λb u q _ _ _=>⟨u.slots,k b u q⟩
 free:=λb u q n _=>by rw[bX (fX (lN (eI q) j))];exact n
 there:=λb u q _=>⟨u,k b u q⟩
 oF:=λb xs q=>by rw[bX (mI q hn)];exact q
 nQ:=λb u xs q=>by rw[bX (mI q hn)];exact q
 oG:=λb z q=>⟨#[],by rw[bX (mI q hn),q];simp⟩
theorem Un.write(j:PY (H x))(he:e=x\/H e=ak (.own x))(k:∀b u,b≠e->h.get? b=ak u->h'.get? b=ak u)(U:∃u,h'.get? e=ak u):Un fs ex H (upd H x o) h h':=by
 have B:∀b,H b=aq->b≠x:=λb n z=>by subst z;rw[n]at j;exact j
 have hb:∀b,H b=aq->b≠e:=λb n z=>by
  subst z
  rcases he with r|r
  ·exact B b n r
  ·rw[n]at r;cases r
 have hm:∀b u,H b=ak u->¬PY (ak u)->b≠x:=λb u q nm z=>by subst z;rw[q]at j;exact nm j
 refine⟨λb u q n _ _=>k b u (hb b n) q,λb u q n _ _=>⟨u.slots,k b u (hb b n) q⟩,λb u q n _=>by rw[bX (B b n)];exact n,λb u q _=>?_,
  λb xs q=>by rw[bX (hm b _ q λz=>z)];exact q,λb u xs q=>by rw[bX (hm b _ q λz=>z)];exact q,λb a q=>⟨#[],by rw[bX (hm b _ q λz=>z),q];simp⟩⟩
 by_cases L:b=e
 ·subst L;exact U
 ·exact⟨u,k b u L q⟩
end
noncomputable def SG(h:bz)(H:Hp):ao ay:=(List.range h.objs.size).filter λa=>(H a).isSome
def yB(h:bz)(H:Hp):bz:=PySem.W.hideAll h (SG h H)
theorem ayB(h:bz)(H:Hp):(yB h H).objs.size=h.objs.size:=PySem.W.hideAll_size _ _
theorem ayC{h:bz}{H:Hp}{b:ay}{o:cp}(e:h.get? b=ak o)(n:H b=aq):(yB h H).get? b=ak o :=
 PySem.W.hideAll_get _ e λhm=>by
  have q:(H b).isSome=ax:=(List.mem_filter.mp hm).2;rw[n]at q;simp at q
theorem arC{h:bz}{H:Hp}{b:ay}{o:cp}(e:(yB h H).get? b=ak o):h.get? b=ak o/\H b=aq:=by
 have j:h.get? b=ak o:=PySem.W.of_hideAll (SG h H) e;refine⟨j,?_⟩;cases q:H b with
 |none=>rfl
 |some x =>
  have hm:b∈SG h H:=List.mem_filter.mpr ⟨List.mem_range.mpr (eI j),by simp[q]⟩;have z:(yB h H).get? b=aq:=PySem.W.hideAll_none (SG h H) hm;rw[z]at e;cases e
structure Mod(K:bj)(mg:a9->av ar)(base:bz):Prop where
 zY:K.In base
 glob:base.Ns a5 mg
 blt:∃mb,base.Ns builtinsNs mb/\∀x:a9,x≠"__name__"->mb x=c9 x
 nolimit:base.NoLimit
structure Cx where
 prog:bg
 w:br
 K:bj
 mg:a9->av ar
 base:bz
 A:bu
 N:ao a9
 s₀:aw
 H₀:Hp
 env:Env
 outer:ao Env
 stack:ao Env
 ex:ao ay
 fn:a9->bh
 calm:bh
 pn:ao (ay×cp)
 xe:ar->aw->Prop
noncomputable def jF(l:ao Env):ao ay:=l.filterMap (·.frame)
abbrev Cx.fs(X:Cx):ao ay:=jF X.outer
def PK(j:da)(x:a9):Prop:=j.names.lookup x=ak .local\/j.names.lookup x=ak .cell\/j.names.lookup x=ak .free
def Loc(j:da)(x:a9):Prop:=j.names.lookup x=ak .local\/j.names.lookup x=ak .cell
def Look(env:Env)(h:bz)(m:a9->av ar)(x:a9)(u:ar):Prop :=
 (env.kindOf x=ak .local/\m x=ak u)\/((env.kindOf x=ak .cell\/env.kindOf x=ak .free)/\∃c,env.cells.lookup x=ak c/\h.IsCell c (ak u))
structure Cx.Ok(X:Cx):Prop where
 mod:Mod X.K X.mg X.base
 kind:X.env.scope.kind=.function
 glob:X.env.globals=a5
 blt:X.env.builtins=builtinsNs
 above:X.s₀.heap.objs.size<=X.env.locals
 inj:∀x y c,X.env.cells.lookup x=ak c->X.env.cells.lookup y=ak c->x=y
 has:∀x,(X.env.kindOf x=ak .cell\/X.env.kindOf x=ak .free)->∃c,X.env.cells.lookup x=ak c
 EG:∀x c,X.fn x=ax->X.env.cells.lookup x=ak c->X.s₀.heap.objs.size<=c
 hd:X.calm=ax->X.A.handled=aq
 frames:X.A.frames=ak X.stack
 sW:X.stack=X.outer\/(X.stack=X.env::X.outer/\X.env.frame=ak X.env.locals)
 DX:∀b∈X.ex,b≠X.env.locals/\∀x c,X.env.cells.lookup x=ak c->c≠b
 bs:∀b o,X.base.get? b=ak o->X.s₀.heap.get? b=ak o/\X.H₀ b=aq
 rX:X.base.objs.size<=X.s₀.heap.objs.size
 xT:∀b o,X.base.get? b=ak o->b∉X.ex
 AM:∀b∈X.ex,b∉X.fs
 pS:X.s₀.heap.FunFrames X.base X.outer
 uT:∀b∈X.fs,X.H₀ b=aq
structure Inv(X:Cx)(aa:ao (ay×cp))(J:ao (av V))(H:Hp)(s:aw):Prop where
 ok:X.Ok
 os:s.os=X.s₀.os
 bare:AllBare s.gens
 base:Un X.fs X.ex X.H₀ H X.s₀.heap s.heap
 loc:∃m,s.heap.Ns X.env.locals m/\∀(i:a4) (x:a9) (v:V),X.N[i]?=ak x->J[i]?=ak (ak v)->PK X.env.scope x->∃u,RelV v u/\Look X.env s.heap m x u
 cell:∀x c,X.env.cells.lookup x=ak c->∃v,s.heap.IsCell c v
 free:H X.env.locals=aq
 mP:∀x c,X.env.cells.lookup x=ak c->H c=aq
 pin:∀p∈X.pn++aa,s.heap.get? p.1=ak p.2/\H p.1=aq/\p.1≠X.env.locals/\p.1∉X.fs/\∀v,p.2.data≠.cell v
 aL:fQ X.prog X.w H s.heap
 len:J.length=X.N.length
section
variable{X:Cx}{aa:ao (ay×cp)}{J:ao (av V)}{H H':Hp}{s:aw}{h':bz}
theorem Cx.Ok.ar2(ok:X.Ok){b:ay}{o:cp}(e:X.base.get? b=ak o):b∉X.fs:=λhb=>by
 have:=(ok.pS.mem hb).1;rw[e]at this;cases this
theorem Inv.bs(I:Inv X aa J H s):∀b o,X.base.get? b=ak o->s.heap.get? b=ak o/\H b=aq:=λb o e =>
 ⟨I.base.keep b o (I.ok.bs b o e).1 (I.ok.bs b o e).2 (I.ok.ar2 e) (I.ok.xT b o e),I.base.free b o (I.ok.bs b o e).1 (I.ok.bs b o e).2 (I.ok.xT b o e)⟩
theorem Inv.bk(I:Inv X aa J H s):∀b o,X.base.get? b=ak o->s.heap.get? b=ak o:=λb o e=>(I.bs b o e).1
theorem Inv.mod(I:Inv X aa J H s):Mod X.K X.mg X.base:=I.ok.mod
theorem Inv.gG(I:Inv X aa J H s):X.K.In s.heap:=I.ok.mod.zY.keeps I.bk
theorem Inv.nolimit(I:Inv X aa J H s):s.heap.NoLimit:=I.ok.mod.nolimit.keeps I.bk
theorem Inv.lt(I:Inv X aa J H s):X.env.locals<s.heap.objs.size:=let ⟨_,hn,_⟩:=I.loc;hn.lt
theorem Inv.sz(I:Inv X aa J H s):X.s₀.heap.objs.size<=s.heap.objs.size:=nW I.ok.above (Nat.le_of_lt I.lt)
theorem Inv.ar0(I:Inv X aa J H s){a:ay}(h:s.heap.objs.size<=a):a∉X.fs:=λhb=>by
 obtain⟨_,o,j,_⟩:=I.ok.pS.mem hb;exact b4 (lN (eI j) (nW I.sz h)) (Nat.lt_irrefl _)
theorem Inv.uV(I:Inv X aa J H s):∀x c,X.env.cells.lookup x=ak c->c≠X.env.locals:=λx c e z=>by
 obtain⟨v,o,j,hd⟩:=I.cell x c e;obtain⟨m,⟨L,es,U,q,B,_⟩,_⟩:=I.loc;rw[z,q]at j;cases j;rw[B]at hd;cases hd
theorem Inv.pS(I:Inv X aa J H s):s.heap.FunFrames X.base X.outer:=by
 have all:∀(l:ao Env),(∀b∈jF l,b∈X.fs)->X.s₀.heap.FunFrames X.base l->s.heap.FunFrames X.base l:=by
  intro l
  induction l with
  |nil=>intro _ _;trivial
  |cons env r ih =>
   intro q hl;obtain⟨U,⟨L,o,hf,hn,B,hd⟩,hr⟩:=hl;have j:L∈X.fs:=q L (by unfold jF;rw[List.filterMap_cons,hf];exact List.mem_cons_self);obtain⟨sl,e⟩:=I.base.slot L o B (I.ok.uT L j) j λz=>I.ok.AM L z j;exact⟨U,⟨L,_,hf,hn,e,hd⟩,ih (λb hb=>q b (by unfold jF;rw[List.filterMap_cons,hf];exact List.mem_cons_of_mem _ hb)) hr⟩
 exact all X.outer (λ_ hb=>hb) I.ok.pS
theorem Inv.stack(I:Inv X aa J H s):s.heap.FunFrames X.base X.stack:=by
 rcases I.ok.sW with e|⟨e,hf⟩
 ·rw[e];exact I.pS
 ·rw[e];obtain⟨m,hn,_⟩:=I.loc;refine .cons (by rw[I.ok.kind];decide) hf hn ?_ I.pS;exact Heap.get?_none_of_le (nW I.ok.rX I.ok.above)
theorem Inv.LI(I:Inv X aa J H s):∀b∈jF X.stack,b∈X.env.locals::X.fs:=λb hb=>by
 rcases I.ok.sW with e|⟨e,hf⟩
 ·rw[e]at hb;exact iP _ hb
 ·rw[e]at hb;unfold jF at hb;rw[xD,hf]at hb;exact hb
theorem Inv.Bg(I:Inv X aa J H s):∀b∈jF X.stack,H b=aq:=λb hb=>by
 rcases dY.mp (I.LI b hb)with e|hb
 ·rw[e];exact I.free
 ·obtain⟨_,o,j,_⟩:=I.ok.pS.mem hb;exact I.base.free b o j (I.ok.uT b hb) λz=>I.ok.AM b z hb
theorem Inv.step{g':a6 GenState}{t':a4}{d':Drawn}{ch:ao ay}(I:Inv X aa J H s)
  (L:∀b∈ch,(b∈X.ex\/X.s₀.heap.objs.size<=b)/\b≠X.env.locals/\(∀x c,X.env.cells.lookup x=ak c->c≠b)/\∀p∈X.pn++aa,p.1≠b)
  (keep:∀b o,b≠X.env.locals->b∉X.fs->b∉ch->s.heap.get? b=ak o->H b=aq->h'.get? b=ak o)
  (slot:∀b o,b≠X.env.locals->b∈X.fs->b∉ch->s.heap.get? b=ak o->H b=aq->∃sl,h'.get? b=ak {o with slots:=sl}) (free:∀b o,b∉ch->s.heap.get? b=ak o->H b=aq->H' b=aq)
  (there:∀b o,b∉ch->s.heap.get? b=ak o->∃o',h'.get? b=ak o')
  (oF:∀b xs,H b=ak (.tup xs)->H' b=ak (.tup xs)) (nQ:∀b o u,H b=ak (.iC o u)->H' b=ak (.iC o u)) (oG:∀b ps,H b=ak (.xK ps)->∃more,H' b=ak (.xK (ps++more)))
  (ns:∀m,s.heap.Ns X.env.locals m->h'.Ns X.env.locals m) (aL:fQ X.prog X.w H' h') (D:AllBare g') :
  Inv X aa J H' {s with heap:=h',gens:=g',drawn:=d',toks:=t' }:=by
 have y:∀b o,X.s₀.heap.get? b=ak o->b≠X.env.locals:=λb o e=>fX (lN (eI e) I.ok.above);have f:∀b o,X.s₀.heap.get? b=ak o->b∉X.ex->b∉ch:=λb o e j hb=>by
  rcases(L b hb).1 with z|z
  ·exact j z
  ·exact b4 (lN (eI e) z) (Nat.lt_irrefl _)
 have cellK:∀x c,X.env.cells.lookup x=ak c->∀v,s.heap.IsCell c v->h'.IsCell c v:=λx c e v ⟨o,B,hd⟩=>by
  have a:c∉ch:=λz=>(L c z).2.2.1 x c e rfl
  by_cases t:c∈X.fs
  ·obtain⟨sl,q⟩:=slot c o (I.uV x c e) t a B (I.mP x c e);exact⟨_,q,hd⟩
  ·exact⟨o,keep c o (I.uV x c e) t a B (I.mP x c e),hd⟩
 refine⟨I.ok,I.os,D,⟨λb o e n hb j=>?_,λb o e n hb j=>?_,λb o e n j=>?_,λb o e j=>?_,λb xs e=>oF b xs (I.base.oF b xs e),λb o xs e=>nQ b o xs (I.base.nQ b o xs e),λb ps e=>?_⟩,?_,λx c e=>?_,?_,λx c e=>?_,λp h=>?_,aL,I.len⟩
 ·exact keep b o (y b o e) hb (f b o e j) (I.base.keep b o e n hb j) (I.base.free b o e n j)
 ·obtain⟨sl,e1⟩:=I.base.slot b o e n hb j;obtain⟨F,U⟩:=slot b _ (y b o e) hb (f b o e j) e1 (I.base.free b o e n j);exact⟨F,U⟩
 ·obtain⟨o',e1⟩:=I.base.there b o e j;exact free b o' (f b o e j) e1 (I.base.free b o e n j)
 ·obtain⟨o',e1⟩:=I.base.there b o e j;exact there b o' (f b o e j) e1
 ·obtain⟨C,e1⟩:=I.base.oG b ps e;obtain⟨A,U⟩:=oG b _ e1;exact⟨C++A,by rw[U,Array.append_assoc]⟩
 ·obtain⟨m,hn,hl⟩:=I.loc;refine⟨m,ns m hn,λi x v e1 U E=>?_⟩;obtain⟨u,r,l⟩:=hl i x v e1 U E;refine⟨u,r,?_⟩
  rcases l with l|⟨k,c,e,z⟩
  ·exact .inl l
  ·exact .inr ⟨k,c,e,cellK x c e _ z⟩
 ·obtain⟨v,z⟩:=I.cell x c e;exact⟨v,cellK x c e v z⟩
 ·obtain⟨m,⟨o,_,_,B,_⟩,_⟩:=I.loc;exact free _ o (λz=>(L _ z).2.1 rfl) B I.free
 ·obtain⟨v,o,B,hd⟩:=I.cell x c e;exact free c o (λz=>(L c z).2.2.1 x c e rfl) B (I.mP x c e)
 ·obtain⟨e,n,ne,g,d⟩:=I.pin p h;have a:p.1∉ch:=λz=>(L p.1 z).2.2.2 p h rfl;exact⟨keep p.1 p.2 ne g a e n,free p.1 p.2 a e n,ne,g,d⟩
theorem Inv.un{t':a4}(I:Inv X aa J H s)(u:Un X.fs [] H H' s.heap h')(aL:fQ X.prog X.w H' h'):Inv X aa J H' {s with heap:=h',toks:=t' }:=by
 obtain⟨m,⟨o,es,d,q,r⟩,_⟩:=id I.loc;obtain⟨sl,L⟩:=u.any q I.free (by simp);exact I.step (g':=s.gens) (d':=s.drawn) (ch:=[]) (λ_ z=>nomatch z) (λb o _ hb _ e n=>u.keep b o e n hb (by simp)) (λb o _ hb _ e n=>u.slot b o e n hb (by simp)) (λb o _ e n=>u.free b o e n (by simp)) (λb o _ e=>u.there b o e (by simp)) u.oF u.nQ u.oG (λc hm=>by
  obtain⟨a,fG,U,j,B⟩:=hm;rw[q]at j;cases j;exact⟨_,fG,U,L,B⟩) aL I.bare
theorem Inv.call{g':a6 GenState}{t':a4}{d':Drawn}{ch:ao ay}(I:Inv X aa J H s)(u:Un (jF X.stack) ch H H' s.heap h')(aL:fQ X.prog X.w H' h')(d:AllBare g')
  (B:∀b∈ch,(b∈X.ex\/X.s₀.heap.objs.size<=b)/\b≠X.env.locals/\(∀x c,X.env.cells.lookup x=ak c->c≠b)/\∀p∈X.pn++aa,p.1≠b) :
  Inv X aa J H' {s with heap:=h',gens:=g',drawn:=d',toks:=t' }:=by
 obtain⟨m,⟨o,es,i,U,r⟩,_⟩:=id I.loc;obtain⟨sl,q⟩:=u.any U I.free λz=>(B _ z).2.1 rfl;exact I.step (ch:=ch) B (λb o q hb j e n=>u.keep b o e n (λz=>(dY.mp (I.LI b z)).elim q hb) j) (λb o _ _ j e n=>u.any e n j) (λb o j e n=>u.free b o e n j) (λb o j e=>u.there b o e j) u.oF u.nQ u.oG (λh hm=>by
  obtain⟨g,fG,f,L,a⟩:=hm;rw[U]at L;cases L;exact⟨_,fG,f,q,a⟩) aL d
theorem Inv.turned{t':a4}{it:ay}(I:Inv X aa J H s)(k:∀b o,b≠it->s.heap.get? b=ak o->h'.get? b=ak o)(hn:H it=aq)(B:it≠X.env.locals)
  (h1:it∈X.ex\/X.s₀.heap.objs.size<=it) (h2:∀x c,X.env.cells.lookup x=ak c->c≠it) (a:∀p∈X.pn++aa,p.1≠it):Inv X aa J H {s with heap:=h',toks:=t' }:=by
 have L:∀b u,H b=ak u->b≠it:=λb u e z=>by rw[z,hn]at e;cases e
 refine I.step (g':=s.gens) (d':=s.drawn) (ch:=[it]) (λb hb=>?_) (λb o _ _ j e _=>k b o (λz=>j (by simp[z])) e) (λb o _ _ j e _=>⟨o.slots,k b o (λz=>j (by simp[z])) e⟩) (λ_ _ _ _ n=>n)
  (λb o j e=>⟨o,k b o (λz=>j (by simp[z])) e⟩) (λ_ _ e=>e) (λ_ _ _ e=>e) (λb f e=>⟨#[],by rw[e];simp⟩) (λm hm=>?_) (λb u e=>?_) I.bare
 ·have e:b=it:=by simpa using hb
  subst e;exact⟨h1,B,h2,a⟩
 ·obtain⟨o,es,d,U,r⟩:=hm;exact⟨o,es,d,k _ o (cQ B) U,r⟩
 ·refine(I.aL b u e).qX (λc v j q=>k c v ?_ q) (λ_ q=>q) λ_ _ q=>q
  rcases j with z|z
  ·rw[z];exact L b u e
  ·exact L c _ z
theorem Inv.tok(I:Inv X aa J H s)(t:a4):Inv X aa J H {s with toks:=t}:=I.un (h':=s.heap) (t':=t) Un.refl I.aL
theorem Inv.kept{t':a4}(I:Inv X aa J H s)(k:∀b u,s.heap.get? b=ak u->h'.get? b=ak u):Inv X aa J H {s with heap:=h',toks:=t' }:=I.un (Un.kept k) (I.aL.kept k)
theorem Inv.laid{a:ay}{o:HO}{t':a4}(I:Inv X aa J H s)(k:∀b u,s.heap.get? b=ak u->h'.get? b=ak u)(j:s.heap.objs.size<=a)(new:iG X.prog X.w (upd H a o) h' a o) :
  Inv X aa J (upd H a o) {s with heap:=h',toks:=t' }:=I.un (Un.laid k j (I.aL.fresh j)) (I.aL.laid k j new)
theorem Inv.write{x e:ay}{o:HO}{t':a4}(I:Inv X aa J H s)(j:PY (H x))(he:e=x\/H e=ak (.own x))(k:∀b u,b≠e->s.heap.get? b=ak u->h'.get? b=ak u)(q:∃u,h'.get? e=ak u)
  (new:iG X.prog X.w (upd H x o) h' x o):Inv X aa J (upd H x o) {s with heap:=h',toks:=t' }:=I.un (Un.write j he k q) (I.aL.write j he k q new)
theorem Inv.Ei{j:ao (ay×cp)}(I:Inv X aa J H s)(h:∀p∈j,s.heap.get? p.1=ak p.2/\H p.1=aq/\p.1≠X.env.locals/\p.1∉X.fs/\∀v,p.2.data≠.cell v):Inv X j J H s :=
 ⟨I.ok,I.os,I.bare,I.base,I.loc,I.cell,I.free,I.mP,λp q=>(hX.mp q).elim (λz=>I.pin p (mD _ z)) (h p),I.aL,I.len⟩
theorem Ew{N:ao a9}(q:N.Nodup){i j:a4}{x:a9}(a:N[i]?=ak x)(b:N[j]?=ak x):i=j:=by
 obtain⟨h1,e1⟩:=cR.mp a;obtain⟨h2,z⟩:=cR.mp b;exact(List.getElem_inj q).mp (e1.trans z.symm)
theorem ajU{M:ec}{A:bu}{E:ar->aw->Prop}{i:a4}{x:a9}{v:V}{u:ar}{Q:Unit->aw->Prop}(I:Inv X aa J H s)(hN:X.N.Nodup)(hi:X.N[i]?=ak x)(U:Loc X.env.scope x)(r:RelV v u)
  (h:∀s',Inv X aa (J.set i (ak v)) H s'->(∃a,Heap.SameBut a s.heap s'.heap/\(a=X.env.locals\/X.env.cells.lookup x=ak a))->Q () s') (hf:X.fn x=ax\/X.env.scope.names.lookup x=ak .local:=by first|exact .inl rfl|exact .inr rfl|assumption):wpAny M A (storeName X.env x u) Q E s:=by
 obtain⟨m,hn,hl⟩:=id I.loc;have Ij:(X.env.scope.kind == .class||(X.env.scope.kind == .module&&X.env.locals != X.env.globals))=au:=by rw[I.ok.kind];rfl
 have NC:i<J.length:=by rw[I.len];exact(cR.mp hi).1
 have uV:=I.uV;have tracked:∀{a:ay} {h':bz},(∃o,s.heap.get? a=ak o/\H a=aq)->Heap.SameBut a s.heap h'->fQ X.prog X.w H h':=λ{a h'} ha B b ob e=>by
  obtain⟨_,_,NG⟩:=ha;refine(I.aL b ob e).qX (λc C L q=>(B.2 c ?_).trans q) (λ_ q=>q) λ_ _ q=>q;rintro rfl
  rcases L with rfl|L
  ·rw[NG]at e;cases e
  ·rw[NG]at L;cases L
 rcases U with g|g
 ·refine wpAny_storeName_local g hn (λh' Hl B=>?_) Ij;obtain⟨oL,_,_,rS,_⟩:=id hn;refine h _ ⟨I.ok,I.os,I.bare,⟨λb o e n hb U=>?_,λb o e n hb U=>?_,I.base.free,λb o e U=>?_,I.base.oF,I.base.nQ,I.base.oG⟩,⟨_,Hl,λj y F e1 f T=>?_⟩,λy c e=>?_,I.free,I.mP,λp S=>?_,tracked ⟨oL,rS,I.free⟩ B,by simpa using I.len⟩ ⟨_,B,.inl rfl⟩
  ·exact(B.2 b (fX (lN (eI e) I.ok.above))).trans (I.base.keep b o e n hb U)
  ·obtain⟨sl,e1⟩:=I.base.slot b o e n hb U;exact⟨sl,(B.2 b (fX (lN (eI e) I.ok.above))).trans e1⟩
  ·obtain⟨P,e1⟩:=I.base.there b o e U;exact⟨P,(B.2 b (fX (lN (eI e) I.ok.above))).trans e1⟩
  ·by_cases l:j=i
   ·subst l;rw[hi]at e1;cases e1;rw[fP NC]at f;cases f;exact⟨u,r,.inl ⟨g,by simp⟩⟩
   ·rw[eP (cQ l)]at f;obtain⟨G,K,q⟩:=hl j y F e1 f T;refine⟨G,K,?_⟩
    rcases q with⟨k,e⟩|⟨k,c,e,z⟩
    ·refine .inl ⟨k,?_⟩;have:y≠x:=λe=>l (Ew hN e1 (e ▸ hi));simp[this,e]
    ·exact .inr ⟨k,c,e,z.sameBut B (uV y c e)⟩
  ·obtain⟨C,z⟩:=I.cell y c e;exact⟨C,z.sameBut B (uV y c e)⟩
  ·obtain⟨e,n,ne,R,d⟩:=I.pin p S;exact⟨(B.2 p.1 ne).trans e,n,ne,R,d⟩
 ·have Ib:X.fn x=ax:=by
   rcases hf with z|z
   ·exact z
   ·rw[z]at g;cases g
  obtain⟨c,L⟩:=I.ok.has x (.inl g);obtain⟨C,z⟩:=I.cell x c L;refine wpAny_storeName_cell I.ok.kind g L z (λh' IE B=>?_);obtain⟨oc,Zu,W⟩:=id z;refine h {s with heap:=h' } ⟨I.ok,I.os,I.bare,⟨λb o e n hb U=>?_,λb o e n hb U=>?_,I.base.free,λb o e U=>?_,I.base.oF,I.base.nQ,I.base.oG⟩,⟨m,hn.sameBut B (cQ (uV x c L)),λj y F e1 f T=>?_⟩,λy D e=>?_,I.free,I.mP,λp S=>?_,tracked ⟨oc,Zu,I.mP x c L⟩ B,by simpa using I.len⟩ ⟨c,B,.inr L⟩
  ·exact(B.2 b (fX (lN (eI e) (I.ok.EG x c Ib L)))).trans (I.base.keep b o e n hb U)
  ·obtain⟨sl,e1⟩:=I.base.slot b o e n hb U;exact⟨sl,(B.2 b (fX (lN (eI e) (I.ok.EG x c Ib L)))).trans e1⟩
  ·obtain⟨P,e1⟩:=I.base.there b o e U;exact⟨P,(B.2 b (fX (lN (eI e) (I.ok.EG x c Ib L)))).trans e1⟩
  ·by_cases l:j=i
   ·subst l;rw[hi]at e1;cases e1;rw[fP NC]at f;cases f;exact⟨u,r,.inr ⟨.inl g,c,L,IE⟩⟩
   ·rw[eP (cQ l)]at f;obtain⟨G,K,q⟩:=hl j y F e1 f T;refine⟨G,K,?_⟩
    rcases q with q|⟨k,D,e,z'⟩
    ·exact .inl q
    ·refine .inr ⟨k,D,e,z'.sameBut B ?_⟩;rintro rfl;exact l (Ew hN e1 (I.ok.inj _ _ _ e L ▸ hi))
  ·by_cases t:D=c
   ·subst t;exact⟨_,IE⟩
   ·obtain⟨w2,z2⟩:=I.cell y D e;exact⟨w2,z2.sameBut B t⟩
  ·obtain⟨e,n,ne,R,d⟩:=I.pin p S;refine⟨(B.2 p.1 ?_).trans e,n,ne,R,d⟩;intro q;rw[q,Zu]at e;have q':oc=p.2:=nV e;exact d C (by rw[<-q'];exact W)
theorem LH{M:ec}{A:bu}{E:ar->aw->Prop}{i:a4}{x:a9}{v:V}{u:ar}{Q:Unit->aw->Prop}(I:Inv X aa J H s)(z:X.N.Nodup)(hi:X.N[i]?=ak x)(j:Loc X.env.scope x)(r:RelV v u)
  (h:∀s',Inv X aa (J.set i (ak v)) H s'->Q () s') (q:X.fn x=ax\/X.env.scope.names.lookup x=ak .local:=by first|exact .inl rfl|exact .inr rfl|assumption):wpAny M A (storeName X.env x u) Q E s :=
 ajU I z hi j r (λs' B _=>h s' B) q
theorem Inv.WR{s':aw}{ch:ao ay}(I:Inv X aa J H s)(z:s'.os=s.os)(u:Un (jF X.stack) ch H H' s.heap s'.heap)(aL:fQ X.prog X.w H' s'.heap)(B:AllBare s'.gens)
  (j:∀b∈ch,(b∈X.ex\/X.s₀.heap.objs.size<=b)/\b≠X.env.locals/\(∀x c,X.env.cells.lookup x=ak c->c≠b)/\∀p∈X.pn++aa,p.1≠b):Inv X aa J H' s':=by
 obtain⟨h',g',d',t',q⟩:=s';have e:q=s.os:=z;subst e;exact I.call (g':=g') (t':=t') (d':=d') u aL B j
end
abbrev XK:=ar->av ay->Hp->Prop
abbrev St:=ao (av V)
abbrev VK:=V->Hp->Prop
abbrev TE:=St->Hp->VK->Prop
abbrev TT:=St->Hp->(bh->Hp->Prop)->Prop
abbrev TA:=St->Hp->(ao V->Hp->Prop)->Prop
structure Ends where
 nx:St->Hp->Prop
 rt:VK
 bk:St->Hp->Prop:=λ_ _=>ck
 ct:St->Hp->Prop:=λ_ _=>ck
abbrev TS:=Ends->St->Hp->Prop
def EP(X:Cx)(aa:ao (ay×cp))(J:St)(Q:VK)(u:ar)(s':aw):Prop:=∃v H',Inv X aa J H' s'/\RelV v u/\Q v H'
def TP(X:Cx)(aa:ao (ay×cp))(J:St)(Q:bh->Hp->Prop)(b:bh)(s':aw):Prop:=∃H',Inv X aa J H' s'/\Q b H'
def AP(X:Cx)(aa:ao (ay×cp))(J:St)(Q:ao V->Hp->Prop)(us:ao ar)(s':aw):Prop:=∃vs H',Inv X aa J H' s'/\Vals vs us/\Q vs H'
def SP(X:Cx)(aa:ao (ay×cp))(D:Ends)(f:Flow)(s':aw):Prop :=
 match f with
 |.next=>∃j H',Inv X aa j H' s'/\D.nx j H'
 |.brk=>∃j H',Inv X aa j H' s'/\D.bk j H'
 |.cont=>∃j H',Inv X aa j H' s'/\D.ct j H'
 |.ret u=>∃v j H',Inv X aa j H' s'/\RelV v u/\D.rt v H'
def PE(X:Cx)(e:bx)(t:TE):Prop :=
 ∀(aa:ao (ay×cp)) (s:aw) (J:St) (H:Hp) (Q:VK),Inv X aa J H s->t J H Q->wpAny (bq X.prog X.w) X.A (cb e X.env) (EP X aa J Q) X.xe s
def PT(X:Cx)(e:bx)(t:TT):Prop :=
 ∀(aa:ao (ay×cp)) (s:aw) (J:St) (H:Hp) (Q:bh->Hp->Prop),Inv X aa J H s->t J H Q->wpAny (bq X.prog X.w) X.A (isTrue e X.env (cb e X.env)) (TP X aa J Q) X.xe s
def PW(X:Cx)(e:bx)(t:TT):Prop :=
 ∀(whole:Sem ar) (aa:ao (ay×cp)) (s:aw) (J:St) (H:Hp) (Q:bh->Hp->Prop),Inv X aa J H s->t J H Q->wpAny (bq X.prog X.w) X.A (isTrue e X.env whole) (TP X aa J Q) X.xe s
theorem PW.pt{X:Cx}{e:bx}{t:TT}(h:PW X e t):PT X e t:=h _
def PA(X:Cx)(es:ao bx)(t:TA):Prop :=
 ∀(pos:dg) (aa:ao (ay×cp)) (s:aw) (J:St) (H:Hp) (Q:ao V->Hp->Prop),Inv X aa J H s->t J H Q->wpAny (bq X.prog X.w) X.A (spliced (cv pos (bf es X.env))) (AP X aa J Q) X.xe s
def PS(X:Cx)(st:bw)(t:TS):Prop :=
 ∀(aa:ao (ay×cp)) (s:aw) (J:St) (H:Hp) (D:Ends),Inv X aa J H s->t D J H->wpAny (bq X.prog X.w) X.A (exec st X.env) (SP X aa D) X.xe s
def pX(X:Cx)(st:ao bw)(t:TS):Prop :=
 ∀(aa:ao (ay×cp)) (s:aw) (J:St) (H:Hp) (D:Ends),Inv X aa J H s->t D J H->wpAny (bq X.prog X.w) X.A (execs st X.env) (SP X aa D) X.xe s
theorem bM{α:Type}{t:Sem α}{Q j:α->aw->Prop}{M:ec}{A:bu}{E:ar->aw->Prop}{s:aw}(h:wpAny M A t Q E s)(q:∀a s,Q a s->j a s):wpAny M A t j E s:=oB h q λ_ _ x=>x
section
variable{X:Cx}
def Av(i:a4):TE:=λJ H Q=>∃v,J[i]?=ak (ak v)/\Q v H
def tC(v:V):TE:=λ_ H Q=>Q v H
theorem Wx{i:a4}{x:a9}{pos:dg}(L:X.N[i]?=ak x)(hv:PK X.env.scope x)(hd:(x==("__debug__" : a9))=au:=by decide)(B:(x==("__classdict__" : a9))=au:=by decide):PE X (.Name x pos) (Av i):=by
 intro aa s J H Q I h;obtain⟨v,e,h⟩:=h;obtain⟨m,hn,hl⟩:=I.loc;obtain⟨u,r,l⟩:=hl i x v L e hv;have fin:EP X aa J Q u s:=⟨v,H,I,r,h⟩
 rcases l with⟨j,hm⟩|⟨j,c,q,z⟩
 ·exact wpAny_Name (wpAny_loadName_local I.ok.kind j hn hm fin) hd
 ·rcases j with j|j
  ·exact wpAny_Name (wpAny_loadName_cell I.ok.kind j q z fin) hd
  ·exact wpAny_Name (wpAny_loadName_free I.ok.kind j q z fin B) hd
theorem apZ{i j pos}:PE X (.Constant (.int i) j pos) (tC (.int i)):=λ_ _ _ H _ I h=>wpAny_Constant_int ⟨.int i,H,I.tok _,⟨_,rfl⟩,h⟩
theorem ap9{b j pos}:PE X (.Constant (.bool b) j pos) (tC (.bl b)):=λ_ _ _ H _ I h=>Constant_bool ⟨.bl b,H,I,rfl,h⟩
theorem apS{j pos}:PE X (.Constant .none j pos) (tC .bQ):=λ_ _ _ H _ I h=>Constant_none ⟨.bQ,H,I,rfl,h⟩
theorem apM{x j pos}:PE X (.Constant (.str x) j pos) (tC (.str x)):=λ_ _ _ H _ I h=>Calls.Constant_str ⟨.str x,H,I.tok _,⟨_,rfl⟩,h⟩
def Gl(X:Cx)(x:a9):Prop:=X.env.kindOf x=ak .globalImplicit
theorem HL{E:ar->aw->Prop}{aa:ao (ay×cp)}{s:aw}{J:St}{H:Hp}{x:a9}{u:ar}{pos:dg}{Q:ar->aw->Prop}(I:Inv X aa J H s)(j:Gl X x)(hm:X.mg x=ak u)(h:Q u s)
  (hd:(x==("__debug__" : a9))=au:=by decide):wpAny (bq X.prog X.w) X.A (cb (.Name x pos) X.env) Q E s :=
 Calls.Name_function_global I.ok.kind j (Calls.loadGlobal_global (by rw[I.ok.glob];exact I.mod.glob.keeps I.bk) hm h) hd
theorem MN{E:ar->aw->Prop}{aa:ao (ay×cp)}{s:aw}{J:St}{H:Hp}{x:a9}{u:ar}{pos:dg}{Q:ar->aw->Prop}(I:Inv X aa J H s)(j:Gl X x)(hm:X.mg x=aq)(hv:c9 x=ak u)(h:Q u s)
  (hn:x≠"__name__":=by decide) (hd:(x==("__debug__" : a9))=au:=by decide):wpAny (bq X.prog X.w) X.A (cb (.Name x pos) X.env) Q E s:=by
 obtain⟨mb,h1,h2⟩:=I.mod.blt;exact Calls.Name_function_global I.ok.kind j (Calls.loadGlobal_builtin (by rw[I.ok.glob];exact I.mod.glob.keeps I.bk) hm (by rw[I.ok.blt];exact h1.keeps I.bk) ((h2 x hn).trans hv) h) hd
theorem Wy{x:a9}{v:V}{u:ar}{pos:dg}(j:Gl X x)(hm:X.mg x=ak u)(r:RelV v u)(hd:(x==("__debug__" : a9))=au:=by decide):PE X (.Name x pos) (tC v) :=
 λ_ _ _ H _ I h=>HL I j hm ⟨v,H,I,r,h⟩ hd
theorem ap8{x:a9}{v:V}{u:ar}{pos:dg}(j:Gl X x)(hm:X.mg x=aq)(hv:c9 x=ak u)(r:RelV v u)(hn:x≠"__name__":=by decide)(hd:(x==("__debug__" : a9))=au:=by decide):PE X (.Name x pos) (tC v) :=
 λ_ _ _ H _ I h=>MN I j hm hv ⟨v,H,I,r,h⟩ hn hd
variable{a b:bx}{ta tb:TE}{pos:dg}
def tB(t:TE):TT:=λJ H Q=>t J H λx H1=>∃c,x=.bl c/\Q c H1
theorem an8{e:bx}{t:TE}(h:PE X e t)(he:∀whole,isTrue e X.env whole=(do let v<-whole;standAt e.pos;dy [v] (truthy v)):=by intro _;rfl):PT X e (tB t):=by
 intro aa s J H Q I B;refine isTrue_plain (bM (h aa s J H _ I B) λv a ⟨x,U,L,j,z⟩=>?_) (he _);obtain⟨d,rfl,q⟩:=z;cases j;exact KJ ⟨U,L,q⟩
variable{tA Ug:TT}{rest:ao bx}
def tOr(t u:TT):TT:=λJ H Q=>t J H λc H1=>if c=ax then Q ax H1 else u J H1 Q
def aiC(t:TT):TT:=λJ H Q=>t J H λc H1=>Q (!c) H1
theorem pw_or1(ha:PT X a tA):PW X (.BoolOp .Or [a] pos) tA:=by
 intro j aa s J H Q I h;refine isTrue_or (bM (ha aa s J H Q I h) λc q e=>?_);cases c with
 |false=>exact isTrue_or_nil e
 |true=>exact e
theorem pw_or(ha:PT X a tA)(hb:PW X (.BoolOp .Or (b::rest) pos) Ug):PW X (.BoolOp .Or (a::b::rest) pos) (tOr tA Ug):=by
 intro B aa s J H Q I h;refine isTrue_or (bM (ha aa s J H _ I h) λc L ⟨z,q,j⟩=>?_);cases c with
 |true=>exact⟨z,q,j⟩
 |false=>exact hb B aa L J z Q q j
theorem an9(ha:PT X a tA):PT X (.UnaryOp .Not a pos) (aiC tA):=by
 intro aa s J H Q I h;exact isTrue_not (ha aa s J H (λc j=>Q (!c) j) I h)
def aiR(ta tb:TE):TE:=λJ H Q=>ta J H λx H1=>∃c,x=.bl c/\if c=ax then tb J H1 Q else Q (.bl au) H1
def aiB(ta:TE):TE:=λJ H Q=>ta J H λx H1=>∃c,x=.bl c/\Q (.bl (!c)) H1
theorem apQ{j}{t:TE}(h:PE X a t):PE X (.BoolOp j [a] pos) t:=λaa s J H Q I q=>BoolOp_one (h aa s J H Q I q)
theorem aqB(ha:PE X a ta)(hb:PE X (.BoolOp .And (b::rest) pos) tb):PE X (.BoolOp .And (a::b::rest) pos) (aiR ta tb):=by
 intro aa s J H Q I h;refine BoolOp_and (bM (ha aa s J H _ I h) λv B ⟨x,z,q,L,j⟩=>?_);obtain⟨c,rfl,j⟩:=j;cases L;refine KJ ?_;cases c with
 |true=>exact hb aa B J z Q q j
 |false=>exact⟨.bl au,z,q,rfl,j⟩
theorem apR(ha:PE X a ta):PE X (.UnaryOp .Not a pos) (aiB ta):=by
 intro aa s J H Q I h;refine UnaryOp_ (bM (ha aa s J H _ I h) λv L ⟨x,B,z,q,j⟩=>?_);obtain⟨c,rfl,j⟩:=j;cases q;exact not_of (KJ ⟨.bl (!c),B,z,rfl,j⟩)
end
def fH(K:bj)(H:Hp)(a:ay)(xs:ao V):Prop :=
 Rd H a (.lst xs) \/
  ∃(o:cp) (j:a6 ar) (n:a4),K.lookup a=ak o/\o.cls=.type "list"/\o.dict=aq/\o.data=.seq j n/\j.size<=bc/\Vals xs j.toList
def iY(K:bj)(H:Hp)(a:ay)(xs:ao V):Prop :=
 Rd H a (.tup xs) \/
  ∃(o:cp) (j:a6 ar) (n:a4),K.lookup a=ak o/\o.cls=.type "tuple"/\o.data=.seq j n/\j.size<=bc/\Vals xs j.toList
noncomputable def aHQ:ar->av V
 |.none=>ak .bQ
 |.bool b=>ak (.bl b)
 |.int i _=>ak (.int i)
 |.str x _=>ak (.str x)
 |.bytes b _=>ak (.WT b)
 |.float b _=>ak (.DU b)
 |.ref a=>ak (.ref a)
 |.type n=>ak (.ty n)
 |_=>aq
theorem RelV.abs{x:V}{u:ar}(r:RelV x u):aHQ u=ak x:=by
 cases x with
 |bQ=>cases r;rfl
 |bl _=>cases r;rfl
 |int _=>obtain⟨t,rfl⟩:=r;rfl
 |str _=>obtain⟨t,rfl⟩:=r;rfl
 |WT _=>obtain⟨t,rfl⟩:=r;rfl
 |DU _=>obtain⟨t,rfl⟩:=r;rfl
 |ref _=>cases r;rfl
 |ty _=>cases r;rfl
theorem RelV.inj{x y:V}{u:ar}(r:RelV x u)(q:RelV y u):x=y:=nV (r.abs.symm.trans q.abs)
theorem Vals.inj:∀{xs ys:ao V} {us:ao ar},Vals xs us->Vals ys us->xs=ys
 |_,_,_,.nil,.nil=>rfl
 |_,_,_,.cons r t,.cons q j=>by rw[r.inj q,Vals.inj t j]
section
variable{X:Cx}{aa:ao (ay×cp)}{J:St}{H:Hp}{s:aw}{a:ay}{xs ys:ao V}
theorem fH.of{K:bj}(h:H a=ak (.lst xs)):fH K H a xs:=.inl (.inl h)
theorem iY.of{K:bj}(h:H a=ak (.tup xs)):iY K H a xs:=.inl (.inl h)
theorem Inv.list(I:Inv X aa J H s)(h:fH X.K H a xs):∃j:ao ar,Vals xs j/\PlainL s.heap a j.toArray/\xs.length<=bc:=by
 rcases h with h|⟨o,j,n,B,L,hd,q,U,r⟩
 ·obtain⟨z,j,n,r,e⟩:=h.ok I.aL;exact⟨j,r,⟨_,n,e,rfl,rfl,rfl⟩,z⟩
 ·refine⟨j.toList,r,⟨o,n,I.gG a o B,L,hd,by simpa using q⟩,?_⟩;have e:=r.length;simp only[gO]at e;omega
theorem Inv.tuple(I:Inv X aa J H s)(h:iY X.K H a xs):∃j:ao ar,Vals xs j/\IsTup s.heap a j.toArray/\xs.length<=bc:=by
 rcases h with h|⟨o,j,n,B,L,q,U,r⟩
 ·obtain⟨z,j,r,p⟩:=h.ok I.aL;exact⟨j,r,p,z⟩
 ·refine⟨j.toList,r,⟨o,I.gG a o B,L,n,by simpa using q⟩,?_⟩;have e:=r.length;simp only[gO]at e;omega
theorem Inv.Yl(I:Inv X aa J H s)(h:fH X.K H a xs)(h':fH X.K H a ys):xs=ys:=by
 obtain⟨L,r,⟨o,n,e,_,_,d⟩,_⟩:=I.list h;obtain⟨j,z,⟨U,b,q,_,_,d'⟩,_⟩:=I.list h';rw[e]at q;cases q;rw[d]at d';injection d' with B _;have:L=j:=by simpa using cz Array.toList B
 subst this;exact r.inj z
theorem Inv.ahK(I:Inv X aa J H s)(h:iY X.K H a xs)(h':iY X.K H a ys):xs=ys:=by
 obtain⟨L,r,⟨o,e,_,n,d⟩,_⟩:=I.tuple h;obtain⟨j,z,⟨U,q,_,b,d'⟩,_⟩:=I.tuple h';rw[e]at q;cases q;rw[d]at d';injection d' with B _;have:L=j:=by simpa using cz Array.toList B
 subst this;exact r.inj z
end
noncomputable abbrev Cx.nG(X:Cx)(E:ar->aw->Prop):Cx:={X with xe:=E}
abbrev Cx.uJ(X:Cx):Cx:=X.nG λ_ _=>ck
theorem Cx.Ok.nG{X:Cx}(ok:X.Ok)(E:ar->aw->Prop):(X.nG E).Ok :=
 ⟨ok.mod,ok.kind,ok.glob,ok.blt,ok.above,ok.inj,ok.has,ok.EG,ok.hd,ok.frames,ok.sW,ok.DX,ok.bs,ok.rX,ok.xT,ok.AM,ok.pS,ok.uT⟩
theorem Cx.Ok.uB{X:Cx}{E:ar->aw->Prop}(ok:(X.nG E).Ok):X.Ok :=
 ⟨ok.mod,ok.kind,ok.glob,ok.blt,ok.above,ok.inj,ok.has,ok.EG,ok.hd,ok.frames,ok.sW,ok.DX,ok.bs,ok.rX,ok.xT,ok.AM,ok.pS,ok.uT⟩
section
variable{X:Cx}{aa:ao (ay×cp)}{J:St}{H:Hp}{s:aw}{E:ar->aw->Prop}
theorem Inv.nG(I:Inv X aa J H s)(E:ar->aw->Prop):Inv (X.nG E) aa J H s:=⟨I.ok.nG E,I.os,I.bare,I.base,I.loc,I.cell,I.free,I.mP,I.pin,I.aL,I.len⟩
theorem Inv.uB(I:Inv (X.nG E) aa J H s):Inv X aa J H s:=⟨I.ok.uB,I.os,I.bare,I.base,I.loc,I.cell,I.free,I.mP,I.pin,I.aL,I.len⟩
theorem SP.uB{D:Ends}{f:Flow}{s':aw}(h:SP (X.nG E) aa D f s'):SP X aa D f s':=by
 cases f with
 |next=>obtain⟨j,z,I,q⟩:=h;exact⟨j,z,I.uB,q⟩
 |brk=>obtain⟨j,z,I,q⟩:=h;exact⟨j,z,I.uB,q⟩
 |cont=>obtain⟨j,z,I,q⟩:=h;exact⟨j,z,I.uB,q⟩
 |ret u=>obtain⟨v,j,z,I,r,q⟩:=h;exact⟨v,j,z,I.uB,r,q⟩
end
section
variable{X:Cx}{st:bw}{rest:ao bw}{t u:TS}{e:bx}{te:TE}{pos:dg}
def aiE:TS:=λD J H=>D.nx J H
def Aw(t u:TS):TS:=λD J H=>t {D with nx:=u D} J H
theorem aoC:pX X [] aiE:=λ_ _ J H _ I h=>RO ⟨J,H,I,h⟩
theorem aoD(h1:PS X st t)(h2:pX X rest u):pX X (st::rest) (Aw t u):=by
 intro aa s J H D I h;refine wpAny_execs_cons (bM (h1 aa s J H {D with nx:=u D} I h) λf z q=>?_);cases f with
 |next =>
  obtain⟨j,L,B,q⟩:=q;exact h2 aa z j L D B q
 |ret v=>exact q
 |brk=>exact q
 |cont=>exact q
theorem aoB(h1:PS X st t):pX X [st] t:=by
 intro aa s J H D I h;refine wpAny_execs_cons (bM (h1 aa s J H D I h) λf j q=>?_);cases f with
 |next=>exact RO q
 |ret v=>exact q
 |brk=>exact q
 |cont=>exact q
theorem Inv.quiet{aa:ao (ay×cp)}{J:St}{H:Hp}{s:aw}(I:Inv X aa J H s):interactive X.env=au:=by simp[interactive,I.ok.kind]
def aiK(te:TE):TS:=λD J H=>te J H λ_ H1=>D.nx J H1
theorem aoO(he:PE X e te)(q:e4 e aq pos.line X.env=pure au:=by rfl):PS X (.Expr e pos) (aiK te):=by
 intro aa s J H D I h;exact wpAny_Expr_any (bM (he aa s J H _ I h) λv L ⟨x,B,z,U,j⟩=>⟨J,B,z,j⟩) I.quiet q
def ah7(te:TE):TS:=λD J H=>te J H D.rt
theorem aoI(he:PE X e te):PS X (.Return (ak e) pos) (ah7 te):=by
 intro aa s J H D I h;exact wpAny_Return_some (bM (he aa s J H _ I h) λv L ⟨x,B,z,j,q⟩=>⟨x,J,B,z,j,q⟩)
def aiI(c:TT)(t u:TS):TS:=λD J H=>c J H λb H1=>if b=ax then t D J H1 else u D J H1
theorem aoL{c:bx}{a b:ao bw}{tc:TT}(L:PT X c tc)(ha:pX X a t)(hb:pX X b u):PS X (.If c a b pos) (aiI tc t u):=by
 intro aa s J H D I h;refine wpAny_If (bM (L aa s J H _ I h) λd j ⟨B,z,q⟩=>?_);cases d with
 |true=>exact ha aa j J B D z q
 |false=>exact hb aa j J B D z q
def aiF:TS:=λ_ _ _=>ck
theorem aoK:PS X st aiF:=λ_ _ _ _ _ _ h=>h.elim
end
abbrev TG:=V->St->Hp->(St->Hp->Prop)->Prop
abbrev wQ:=ao V->St->Hp->(St->Hp->Prop)->Prop
def PG(X:Cx)(target:bx)(t:TG):Prop :=
 ∀(aa:ao (ay×cp)) (s:aw) (J:St) (H:Hp) (v:V) (u:ar) (Q:St->Hp->Prop),Inv X aa J H s->RelV v u->t v J H Q ->
  wpAny (bq X.prog X.w) X.A (assign target X.env u) (λ_ s'=>∃j H',Inv X aa j H' s'/\Q j H') X.xe s
def JE(X:Cx)(ts:ao bx)(t:wQ):Prop :=
 ∀(aa:ao (ay×cp)) (s:aw) (J:St) (H:Hp) (vs:ao V) (us:ao ar) (Q:St->Hp->Prop),Inv X aa J H s->Vals vs us->t vs J H Q ->
  wpAny (bq X.prog X.w) X.A (assignInOrder ((cn ts X.env).map (·.2)) us) (λ_ s'=>∃j H',Inv X aa j H' s'/\Q j H') X.xe s
abbrev Np:=V->V->V->Hp->(Hp->Prop)->Prop
def ad4(X:Cx)(t:Np):Prop :=
 ∀(aa:ao (ay×cp)) (s:aw) (J:St) (H:Hp) (o i v:V) (ov j u:ar) (Q:Hp->Prop),Inv X aa J H s->RelV o ov->RelV i j->RelV v u->t o i v H Q ->
  wpAny (bq X.prog X.w) X.A (setItem ov j u) (λ_ s'=>∃H',Inv X aa J H' s'/\Q H') X.xe s
abbrev XZ:=V->V->Hp->VK->Prop
def PIp(X:Cx)(j:Operator)(t:XZ):Prop :=
 ∀(aa:ao (ay×cp)) (s:aw) (J:St) (H:Hp) (x y:V) (v u:ar) (Q:VK),Inv X aa J H s->RelV x v->RelV y u->t x y H Q ->
  wpAny (bq X.prog X.w) X.A (inplaceOp j v u) (EP X aa J Q) X.xe s
section
variable{X:Cx}{pos:dg}
def abC(i:a4):TG:=λv J H Q=>Q (J.set i (ak v)) H
theorem apJ{i:a4}{x:a9}(z:X.N.Nodup)(hi:X.N[i]?=ak x)(j:Loc X.env.scope x)(q:X.fn x=ax\/X.env.scope.names.lookup x=ak .local:=by first|exact .inl rfl|exact .inr rfl|assumption):PG X (.Name x pos) (abC i):=by
 intro aa s J H v u Q I r h;exact wpAny_assign_Name (LH I z hi j r (λs' B=>⟨_,H,B,h⟩) q)
def aBM:wQ:=λvs J H Q=>vs=[]/\Q J H
def aBQ(t:TG)(u:wQ):wQ:=λvs J H Q=>∃v r,vs=v::r/\t v J H λj H'=>u r j H' Q
theorem apF:JE X [] aBM:=by
 intro aa s J H j q Q I r h;obtain⟨e,h⟩:=h;subst e;cases r;exact assignInOrder_nil ⟨J,H,I,h⟩
theorem apG{e:bx}{es:ao bx}{t:TG}{u:wQ}(h1:PG X e t)(h2:JE X es u)
  (L:(cn (e::es) X.env).map (·.2)=assign e X.env::(cn es X.env).map (·.2):=by rfl):JE X (e::es) (aBQ t u):=by
 intro aa s J H b d Q I r h;obtain⟨v,c,e1,h⟩:=h;subst e1;cases r with
 |cons r z =>
  rw[L];refine assignInOrder_cons (bM (h1 aa s J H _ _ _ I r h) λ_ q ⟨j,a,U,B⟩=>?_);exact h2 aa q j a _ _ Q U z B
def aBL(K:bj)(n:a4)(t:wQ):TG:=λv J H Q=>∃a xs,v=.ref a/\iY K H a xs/\xs.length=n/\t xs J H Q
theorem apH{es:ao bx}{k:a4}{t:wQ}{n:a4}(d:X.calm=ax)(h:JE X es t)
  (hn:(cn es X.env).length=n:=by rfl) (B:(cn es X.env).findIdx? (·.1)=aq:=by rfl):PG X (.Tuple es k pos) (aBL X.K n t):=by
 intro aa s J H v u Q I r j;obtain⟨a,z,e1,c,hl,j⟩:=j;subst e1;cases r;obtain⟨i,q,U,g⟩:=I.tuple c;refine assign_Tuple_tuple (I.ok.hd d) U (by simp[hn,<-hl,q.length]) B λh' L=>?_;have f:Inv X aa J H {s with heap:=h' }:=I.kept (t':=s.toks) λb o e=>L b o (fX (eI e)) e;exact h aa _ J H z _ Q f (by simpa using q) j
noncomputable def fU(to j:TE)(t:Np):TG:=λv J H Q=>to J H λo H1=>j J H1 λi H2=>t o i v H2 λq=>Q J q
theorem apI{o i:bx}{to q:TE}{t:Np}(d:PE X o to)(hi:PE X i q)(c:ad4 X t)
  (ha:∀v,assign (.Subscript o i pos) X.env v=(do
   let ov<-dy [v] (cb o X.env)
   let j<-dy [v,ov] (cb i X.env)
   standAt pos
   dy [v,ov,j] (setItem ov j v)
   release [v,ov,j] []):=by intro _;rfl):PG X (.Subscript o i pos) (fU to q t):=by
 intro aa s J H v u Q I r h;rw[ha];refine aI (sT (bM (d aa s J H _ I h) λov z ⟨x,m,g,L,b⟩=>?_));refine aI (sT (bM (hi aa z J m _ g b) λj s2 ⟨y,l,f,B,a⟩=>?_));refine aI (wpAny_standAt (aI (sT (bM (c aa s2 J l x y v ov j u _ f L B r a) λ_ n ⟨k,e,U⟩=>?_))));exact wpAny_release ⟨J,k,e,U⟩
def Bb(te:TE)(g:TG):TS:=λD J H=>te J H λx H1=>g x J H1 D.nx
theorem aoR{tg e:bx}{te:TE}{g:TG}(he:PE X e te)(a:PG X tg g)(U:swapsWithSole [tg] e pos.line X.env=pure au:=by rfl)(L:swappedStores [tg] e X.env=pure aq:=by rfl)
  (h1:(cn [tg] X.env).map (·.2)=[assign tg X.env]:=by rfl):PS X (.Assign [tg] e pos) (Bb te g):=by
 intro aa s J H D I h;refine wpAny_Assign_stores (bM (he aa s J H _ I h) λv j ⟨x,c,b,z,B⟩=>?_) U L;rw[h1];exact bM (a aa j J c x v _ b z B) λ_ s2 q=>q
theorem aoH{i:a4}{x:a9}{e:bx}{te:TE}{pos':dg}(U:X.N.Nodup)(hi:X.N[i]?=ak x)(z:Loc X.env.scope x)(he:PE X e te)(B:e4 e (ak (.Name x pos')) pos.line X.env=pure au:=by rfl)(L:X.fn x=ax\/X.env.scope.names.lookup x=ak .local:=by first|exact .inl rfl|exact .inr rfl|assumption) :
  PS X (.Assign [.Name x pos'] e pos) (Bb te (abC i)):=by
 intro aa s J H D I h;refine wpAny_Assign_Name (bM (he aa s J H _ I h) λv d ⟨y,c,b,j,q⟩=>?_) B;exact LH b U hi z j (λs2 a=>⟨_,c,a,q⟩) L
def aiQ(i:a4)(te:TE)(j:XZ):TS:=λD J H=>∃x,J[i]?=ak (ak x)/\te J H λy H1=>j x y H1 λz H2=>D.nx (J.set i (ak z)) H2
theorem aoQ{i:a4}{x:a9}{e:bx}{te:TE}{L:Operator}{a:XZ}{pos':dg}(C:X.N.Nodup)(hi:X.N[i]?=ak x)(U:Loc X.env.scope x)(he:PE X e te)(o:PIp X L a)(p:X.fn x=ax\/X.env.scope.names.lookup x=ak .local:=by first|exact .inl rfl|exact .inr rfl|assumption) :
  PS X (.AugAssign (.Name x pos') L e pos) (aiQ i te a):=by
 intro aa s J H D I h;obtain⟨v,e1,h⟩:=h;obtain⟨m,hn,hl⟩:=I.loc;have B:PK X.env.scope x:=by rcases U with k|k;exact .inl k;exact .inr (.inl k)
 obtain⟨u,r,l⟩:=hl i x v hi e1 B;refine wpAny_AugAssign_Name ?_;have go:wpAny (bq X.prog X.w) X.A (cb e X.env) (λw s₂=>wpAny (bq X.prog X.w) X.A (inplaceOp L u w) (λr q=>wpAny (bq X.prog X.w) X.A (storeName X.env x r) (λ_=>SP X aa D .next) X.xe q) X.xe s₂) X.xe s:=by
  refine bM (he aa s J H _ I h) λw b ⟨y,P,K,f,n⟩=>?_;refine bM (o aa b J P v y u w _ K r f n) λz s2 ⟨Q,M,G,d,g⟩=>?_;exact LH G C hi U d (λR F=>⟨_,M,F,g⟩) p
 rcases l with⟨j,hm⟩|⟨j,c,t,E⟩
 ·exact wpAny_loadName_local I.ok.kind j hn hm go
 ·rcases j with j|j
  ·exact wpAny_loadName_cell I.ok.kind j t E go
  ·rcases U with k|k
   ·have:X.env.scope.names.lookup x=ak .free:=j;rw[k]at this;cases this
   ·have:X.env.scope.names.lookup x=ak .free:=j;rw[k]at this;cases this
def ipI(f:az->az->az):XZ:=λx y H Q=>∃i j,x=.int i/\y=.int j/\Q (.int (f i j)) H
theorem awD:PIp X .Add (ipI λi j=>i+j):=by
 intro aa s J H x y v u Q I B z h;obtain⟨i,j,e1,L,q⟩:=h;subst e1;subst L;obtain⟨t,rfl⟩:=B;obtain⟨U,rfl⟩:=z;exact iadd_int ⟨.int _,H,I.tok _,⟨_,rfl⟩,q⟩
def Tv(c:TT)(tb:TS):TS:=λD J H=>∃W:a4->St->Hp->Prop,(∃m,W m J H)/\∀m J H,W m J H ->
 c J H λb H1=>if b=ax then ∃N:St->Hp->Prop,(∀j H',N j H'->∃q,q<m/\W q j H')/\tb {D with nx:=N,ct:=N,bk:=D.nx} J H1 else D.nx J H1
theorem aoF{c:bx}{body:ao bw}{tc:TT}{tb:TS}(g:PassesOwn (bq X.prog X.w) X.A X.env X.xe)(x:PT X c tc)(hb:pX X body tb):PS X (.While c body [] pos) (Tv tc tb):=by
 intro aa s J H D I h;obtain⟨W,⟨u,r⟩,turn⟩:=h;refine wpAny_While (codeAny_whileLoop (λn s'=>∃z o,Inv X aa z o s'/\W n z o) ?_ u ⟨J,H,I,r⟩);rintro n t ⟨q,m,y,p⟩;refine FQ g (bM (x aa t q m _ y (turn n q m p)) λb s2 ⟨l,k,U⟩=>?_);cases b with
 |true =>
  obtain⟨N,i,U⟩:=U;rw[a7 rfl];refine FQ g (bM (hb aa s2 q l _ k U) λf C L=>?_);cases f with
  |next =>
   obtain⟨j,B,e,n3⟩:=L;obtain⟨d,hm,a⟩:=i j B n3;exact⟨d,hm,j,B,e,a⟩
  |cont =>
   obtain⟨j,B,e,n3⟩:=L;obtain⟨d,hm,a⟩:=i j B n3;exact⟨d,hm,j,B,e,a⟩
  |brk=>exact L
  |ret v=>exact L
 |false =>
  rw[ba ae8];exact RO ⟨q,l,k,U⟩
end
structure It where
 go:a4->Hp->Prop
 BJ:a4->Hp->V->Hp->Prop
 stop:a4->Hp->Prop
def rL(X:Cx)(aa:ao (ay×cp))(H:Hp)(b:ay):Prop :=
 H b=aq/\b≠X.env.locals/\b∉X.fs/\(b∈X.ex\/X.s₀.heap.objs.size<=b)/\(∀x c,X.env.cells.lookup x=ak c->c≠b)/\∀p∈X.pn++aa,p.1≠b
theorem Inv.yI{X:Cx}{aa:ao (ay×cp)}{J:St}{H H':Hp}{s:aw}{b:ay}(I:Inv X aa J H s)(hb:s.heap.objs.size<=b)(hn:H' b=aq):rL X aa H' b:=by
 refine⟨hn,PX (lN I.lt hb),I.ar0 hb,.inr (nW I.sz hb),λx c e z=>?_,λp j z=>?_⟩
 ·obtain⟨v,q⟩:=I.cell x c e;exact b4 (lN q.lt (by rw[z];exact hb)) (Nat.lt_irrefl _)
 ·exact b4 (lN (eI (I.pin p j).1) (by rw[z];exact hb)) (Nat.lt_irrefl _)
structure Turn(P:bg)(w:br)(K:bj)(tg:bx)(σ:It)(fp:ao ay)(it:ay)(tn:a4->bz->Prop):Prop where
 mem:it∈fp
 obj:∀i h,tn i h->∀b∈fp,∃o,h.get? b=ak o/\∀v,o.data≠.cell v
 keep:∀i h h',tn i h->(∀b∈fp,∀o,h.get? b=ak o->h'.get? b=ak o)->tn i h'
 item:∀(X:Cx),X.prog=P->X.w=w->X.K=K->X.calm=ax->∀(i:a4) (aa:ao (ay×cp)) (s:aw) (J:St) (H:Hp) (E:ar->aw->Prop),Inv X aa J H s->(∀b∈fp,rL X aa H b)->tn i s.heap->σ.go i H ->
  wpAny (bq P w) X.A (ee (.ref it)) (λr s1=>∃u,r=ak u /\
   wpAny (bq P w) X.A (letOwnedTupleGo tg (.ref it) u) (λ_ s2=>∃x H',Inv X aa J H' s2/\RelV x u/\σ.BJ i H x H'/\tn (i+1) s2.heap/\∀b∈fp,H' b=aq) E s1) E s
 done:∀(X:Cx),X.prog=P->X.w=w->X.K=K->X.calm=ax->∀(i:a4) (aa:ao (ay×cp)) (s:aw) (J:St) (H:Hp) (E:ar->aw->Prop),Inv X aa J H s->(∀b∈fp,rL X aa H b)->tn i s.heap->σ.stop i H ->
  wpAny (bq P w) X.A (ee (.ref it)) (λr s1=>r=aq/\Inv X aa J H s1) E s
 self:∀(A:bu) (i:a4) (s:aw) (Q:ar->aw->Prop) (E:ar->aw->Prop),tn i s.heap->Q (.ref it) s->wpAny (bq P w) A (pyIter (.ref it)) Q E s
abbrev TI:=St->Hp->(It->Hp->Prop)->Prop
def PIE(X:Cx)(aa:ao (ay×cp))(J:St)(tg:bx)(R:It->Hp->Prop)(q:ar)(s2:aw):Prop :=
 ∃(it:ay) (fp:ao ay) (j:a4->bz->Prop) (σ:It) (H':Hp),q=.ref it/\Inv X aa J H' s2/\Turn X.prog X.w X.K tg σ fp it j/\j 0 s2.heap/\(∀b∈fp,rL X aa H' b)/\R σ H'
def PI(X:Cx)(tg iter:bx)(j:TI):Prop :=
 ∀(aa:ao (ay×cp)) (s:aw) (J:St) (H:Hp) (R:It->Hp->Prop),Inv X aa J H s->j J H R ->
  wpAny (bq X.prog X.w) X.A (cb iter X.env) (λv q=>wpAny (bq X.prog X.w) X.A (pyIter v) (PIE X aa J tg R) X.xe q) X.xe s
theorem Jb{M:ec}{A:bu}{E:ar->aw->Prop}{s:aw}{tg:bx}{it:ay}{u:ar}{o:cp}{n:cj}{vs:a6 ar}{Q:Unit->aw->Prop}(q:s.heap.get? it=ak o)(z:o.cls=.type n)(hd:o.data=.fields vs)
  (hn:["enumerate", "zip", "dict_itemiterator", "dict_reverseitemiterator", "odict_iterator", "itertools.zip_longest", "itertools.pairwise"].contains n=au) (j:Q () s):wpAny M A (letOwnedTupleGo tg (.ref it) u) Q E s:=by
 unfold letOwnedTupleGo;cases tg <;> first
  |exact bC j
  | (cases u <;> first
    |exact bC j
    | (refine aI (wpAny_load q ?_)
       rw[z,hd];show wpAny M A (if(["enumerate", "zip", "dict_itemiterator", "dict_reverseitemiterator", "odict_iterator", "itertools.zip_longest", "itertools.pairwise"].contains n&&vs[0]? == ak (dw _))=ax then _ else _) Q E s;rw[ba (by intro h;rw[hn,Bool.false_and]at h;cases h)];exact bC j))
noncomputable def Pd(K:bj)(a:ay):It :=
 ⟨λi H=>∃xs x,fH K H a xs/\xs[i]?=ak x,λi H x H'=>H'=H/\∀xs,fH K H a xs->xs[i]?=ak x,λi H=>∃xs,fH K H a xs/\xs.length<=i⟩
noncomputable def Pc(K:bj)(a:ay):It :=
 ⟨λi H=>∃xs x,iY K H a xs/\xs[i]?=ak x,λi H x H'=>H'=H/\∀xs,iY K H a xs->xs[i]?=ak x,λi H=>∃xs,iY K H a xs/\xs.length<=i⟩
noncomputable def YM(lo:az)(n:a4):It:=⟨λi _=>i<n,λi H x H'=>H'=H/\x=.int (lo+i),λi _=>n<=i⟩
theorem ahF{P:bg}{w:br}{K:bj}{tg:bx}(a it:ay):Turn P w K tg (Pd K a) [it] it (λi h=>h.IsListIter it a i)where
 mem:=by simp
 obj:=λi h st b hb=>by
  have e:b=it:=by simpa using hb
  subst e;obtain⟨o,e,c,d⟩:=st;exact⟨o,e,λv z=>by rw[d]at z;cases z⟩
 keep:=λi h h' st k=>st.at λo e=>k it (by simp) o e
 item:=by
  intro X g U l A i aa s J H E I q st f;subst g U l;obtain⟨D,x,j,L⟩:=f;obtain⟨R,B,p,G⟩:=I.list j;obtain⟨u,N,F⟩:=B.get L;obtain⟨y,t,f2,r,n,m⟩:=q it (by simp);refine wpAny_pyNext_list_item st p.isList (x:=u) (by simpa using N) λh' C sb=>?_;have S:Inv X aa J H {s with heap:=h' }:=I.turned (t':=s.toks) (λb o hb e=>(sb.2 b hb).trans e) y t r n m;obtain⟨o,e,c,d⟩:=id C;exact⟨u,rfl,Jb (s:={s with heap:=h' }) e c d (by decide) ⟨x,H,S,F,⟨rfl,λT M=>by rw[I.Yl M j];exact L⟩,C,λb hb=>(q b hb).1⟩⟩
 done:=by
  intro X g U l A i aa s J H E I q st f;subst g U l;obtain⟨D,j,L⟩:=f;obtain⟨R,B,p,G⟩:=I.list j;obtain⟨y,t,f2,r,n,m⟩:=q it (by simp);have hl:=B.length;exact wpAny_pyNext_list_end (I.ok.hd A) st p.isList (by simp;omega) λh' Q=>⟨rfl,I.turned (t':=s.toks) (λb o hb e=>Q b o hb e) y t r n m⟩
 self:=λ_ _ _ _ _ st h=>wpAny_pyIter_listiter st h
theorem ahD{P:bg}{w:br}{K:bj}{tg:bx}(a it:ay):Turn P w K tg (Pc K a) [it] it (λi h=>h.IsTupleIter it a i)where
 mem:=by simp
 obj:=λi h st b hb=>by
  have e:b=it:=by simpa using hb
  subst e;obtain⟨o,e,c,d⟩:=st;exact⟨o,e,λv z=>by rw[d]at z;cases z⟩
 keep:=λi h h' st k=>st.at λo e=>k it (by simp) o e
 item:=by
  intro X g U l C i aa s J H E I q st f;subst g U l;obtain⟨F,x,j,L⟩:=f;obtain⟨A,B,p,M⟩:=I.tuple j;obtain⟨u,Q,G⟩:=B.get L;obtain⟨y,t,f2,r,n,m⟩:=q it (by simp);refine wpAny_pyNext_tuple_item st (show s.heap.IsTuple a A.toArray from p) (x:=u) (by simpa using Q) λh' D sb=>?_;have S:Inv X aa J H {s with heap:=h' }:=I.turned (t':=s.toks) (λb o hb e=>(sb.2 b hb).trans e) y t r n m;obtain⟨o,e,c,d⟩:=id D;exact⟨u,rfl,Jb (s:={s with heap:=h' }) e c d (by decide) ⟨x,H,S,G,⟨rfl,λT N=>by rw[I.ahK N j];exact L⟩,D,λb hb=>(q b hb).1⟩⟩
 done:=by
  intro X g U l C i aa s J H E I q st f;subst g U l;obtain⟨F,j,L⟩:=f;obtain⟨A,B,p,M⟩:=I.tuple j;obtain⟨y,t,f2,r,n,m⟩:=q it (by simp);have hl:=B.length;exact wpAny_pyNext_tuple_end (I.ok.hd C) st (show s.heap.IsTuple a A.toArray from p) (by simp;omega) λh' R=>⟨rfl,I.turned (t':=s.toks) (λb o hb e=>R b o hb e) y t r n m⟩
 self:=λ_ _ _ _ _ st h=>wpAny_pyIter_tupleiter st h
theorem ahE{P:bg}{w:br}{K:bj}{tg:bx}(it:ay)(lo:az)(n:a4):Turn P w K tg (YM lo n) [it] it (λi h=>IsRangeIter h it (lo+(i:a4)*1) ((n:az)-(i:a4)) 1)where
 mem:=by simp
 obj:=λi h st b hb=>by
  have e:b=it:=by simpa using hb
  subst e;exact⟨_,st,λv z=>by
   have p:Data.fields _=Data.cell v:=z;cases p⟩
 keep:=λi h h' st k=>k it (by simp) _ st
 item:=by
  intro X U q a L i aa s J H E I j st B;subst U q a;obtain⟨l,g,f2,f,d,c⟩:=j it (by simp);have W:=Walks.range (prog:=X.prog) (w:=X.w) (I.ok.hd L) it lo 1 n;refine W.item i s _ _ B st λv h' tk hv m r=>?_;obtain⟨t,rfl⟩:=hv;have x:Inv X aa J H {s with heap:=h',toks:=tk}:=I.turned (λb o hb e=>r b o (by simpa using hb) e) l g f d c;refine⟨_,rfl,Jb (s:={s with heap:=h',toks:=tk}) (n := "range_iterator") m rfl rfl (by decide) ⟨.int (lo+i),H,x,⟨t,?_⟩,⟨rfl,rfl⟩,m,λb hb=>(j b hb).1⟩⟩;rw[Int.mul_one]
 done:=by
  intro X U q a L i aa s J H E I j st B;subst U q a;obtain⟨l,g,f2,f,d,c⟩:=j it (by simp);exact wpAny_pyNext_range_end (I.ok.hd L) st (by have:n<=i:=B;omega) λh' u=>⟨rfl,I.turned (t':=s.toks) (λb o hb e=>u b o hb e) l g f d c⟩
 self:=λ_ _ _ _ _ st h=>wpAny_pyIter_rangeiter st h
section
variable{X:Cx}{tg:bx}
theorem amW{aa:ao (ay×cp)}{J:St}{H:Hp}{s:aw}{R:It->Hp->Prop}{E:ar->aw->Prop}{lo hi:az}{t u v:Tok}{tk:a4}(I:Inv X aa J H s)(h1 : -(2 ^ 62)<=lo)(h2:lo<2 ^ 62)(B : -(2 ^ 62)<=hi)(z:hi<2 ^ 62)
  (q:R (YM lo (hi-lo).toNat) H):wpAny (bq X.prog X.w) X.A (pyIter (.ref s.heap.objs.size)) (PIE X aa J tg R) E {s with heap:=s.heap.push {cls:=.type "range",data:=.fields #[.int lo t,.int hi u,.int 1 v]},toks:=tk}:=by
 refine wpAny_pyIter_range (IsRange.new ..) (small_one h1 h2 B z) ?_;have j:Inv X aa J H {s with heap:=s.heap.push {cls:=.type "range",data:=.fields #[.int lo t,.int hi u,.int 1 v]},toks:=tk}:=I.kept λb o e=>eK _ e;refine⟨(s.heap.push {cls:=.type "range",data:=.fields #[.int lo t,.int hi u,.int 1 v]}).objs.size,[(s.heap.push {cls:=.type "range",data:=.fields #[.int lo t,.int hi u,.int 1 v]}).objs.size],_,_,H,rfl,
  j.kept (t':=tk) λb o e=>eK _ e,ahE _ lo (hi-lo).toNat,?_,λb hb=>?_,q⟩
 ·have e1:lo+((0:a4):az)*1=lo:=by simp
  have L:(((hi-lo).toNat:a4):az)-((0:a4):az)=Builtin.Range.rangeSize lo hi 1:=by rw[rangeSize_one];split <;> omega
  show IsRangeIter _ _ (lo+((0:a4):az)*1) ((((hi-lo).toNat:a4):az)-((0:a4):az)) 1;rw[e1,L];exact iQ _ rfl
 ·have e:b=(s.heap.push {cls:=.type "range",data:=.fields #[.int lo t,.int hi u,.int 1 v]}).objs.size:=by simpa using hb
  subst e;exact j.yI dC (j.aL.fresh dC)
def awU(ta:TA):TI:=λJ H R=>ta J H λvs H1=>∃j:az,vs=[.int j]/\-(2 ^ 62)<=j/\j<2 ^ 62/\R (YM 0 j.toNat) H1
theorem ao9{a:bx}{ta:TA}{p pos:dg}(c:Gl X "range")(hm:X.mg "range" = aq)(ha:PA X [a] ta)(b:bf [a] X.env=[(au,cb a X.env)]:=by rfl):PI X tg (.Call (.Name "range" p) [a] [] pos) (awU ta):=by
 intro aa s J H R I h;refine Call_ (MN I c hm boot_range (ad0 (bM (ha pos aa s J H _ I h) λg i ⟨f,k,d,L,z⟩=>?_) b rfl));obtain⟨j,e,z,U,q⟩:=z;subst e;cases L with
 |cons r B =>
  cases B;obtain⟨t,rfl⟩:=r;exact call_range_1 (amW d (by omega) (by omega) z U (by simpa using q))
def Ub(B:TI)(g:TG)(tb:TS):TS:=λD J H=>B J H λσ H1=>∃W:a4->a4->St->Hp->Prop,(∃m,W 0 m J H1)/\∀i m J H,W i m J H ->
 (σ.stop i H/\D.nx J H)\/(σ.go i H/\∃N:St->Hp->Prop,(∀j H',N j H'->∃z,z<m/\W (i+1) z j H')/\∀x H',σ.BJ i H x H'->g x J H' λq H2=>tb {D with nx:=N,ct:=N,bk:=D.nx} q H2)
noncomputable def LQ(fp:ao ay)(h:bz):ao (ay×cp):=fp.filterMap λb=>(h.get? b).map λo=>(b,o)
theorem UG{fp:ao ay}{h:bz}{b:ay}{o:cp}(hb:b∈fp)(e:h.get? b=ak o):(b,o)∈LQ fp h:=List.mem_filterMap.mpr ⟨b,hb,by rw[e];rfl⟩
theorem arB{fp:ao ay}{h:bz}{p:ay×cp}(j:p∈LQ fp h):p.1∈fp/\h.get? p.1=ak p.2:=by
 obtain⟨b,hb,e⟩:=List.mem_filterMap.mp j;cases q:h.get? b with
 |none=>rw[q]at e;cases e
 |some o =>
  rw[q]at e;have z:(b,o)=p:=nV e;subst z;exact⟨hb,q⟩
theorem Inv.pinned{aa:ao (ay×cp)}{J:St}{H:Hp}{s:aw}{fp:ao ay}(I:Inv X aa J H s)(hf:∀b∈fp,rL X aa H b)(B:∀b∈fp,∃o,s.heap.get? b=ak o/\∀v,o.data≠.cell v):Inv X (aa++LQ fp s.heap) J H s :=
 I.Ei λp q=>(hX.mp q).elim (λz=>I.pin p (lD _ z)) λz=>by
  obtain⟨hb,e⟩:=arB z;obtain⟨f0,f1,f2,_⟩:=hf p.1 hb;obtain⟨o,j,d⟩:=B p.1 hb;rw[e]at j;cases j;exact⟨e,f0,f1,f2,d⟩
theorem Inv.SA{aa pl:ao (ay×cp)}{J:St}{H:Hp}{s:aw}(I:Inv X (aa++pl) J H s):Inv X aa J H s:=I.Ei λp j=>I.pin p (lD _ (mD _ j))
theorem aoM{iter:bx}{body:ao bw}{K:TI}{g:TG}{tb:TS}{pos:dg}(k:PassesOwn (bq X.prog X.w) X.A X.env X.xe)(S:X.calm=ax)(hi:PI X tg iter K)(hg:PG X tg g)(hb:pX X body tb)
  (hs:∀x,de iter X.env x=pure x:=by intro _;rfl):PS X (.For tg iter body [] pos) (Ub K g tb):=by
 intro aa s J H D I h;refine wpAny_For (bM (hi aa s J H _ I h) λv s1 h1=>bM h1 λGr s2 h2=>?_) hs;obtain⟨it,p,M,σ,H2,e,I2,T,hZ,f2,W,⟨m0,w0⟩,turn⟩:=h2;subst e;have F:∀{U:Hp},(∀b∈p,U b=aq)->∀b∈p,rL X aa U b:=λhn b hb=>⟨hn b hb,(f2 b hb).2⟩
 refine codeAny_forLoop_any (λn s'=>∃i z U,Inv X aa z U s'/\M i s'.heap/\(∀b∈p,U b=aq)/\W i n z U) ?_ m0 ⟨0,J,H2,I2,hZ,λb hb=>(f2 b hb).1,w0⟩;rintro n Q ⟨i,q,t,V,R,l,w3⟩
 rcases turn i n q t w3 with⟨stop,qn⟩|⟨go,N,hN,step⟩
 ·refine FQ k (bM (T.done X rfl rfl rfl S i aa Q q t X.xe V (F l) R stop) λr s4 ⟨hr,I4⟩=>?_);subst hr;exact RO ⟨q,t,I4,qn⟩
 ·refine FQ k (bM (T.item X rfl rfl rfl S i aa Q q t X.xe V (F l) R go) λr s4 ⟨u,hr,h4⟩=>?_);subst hr;refine FQ k (bM h4 λ_ P zz=>?_);obtain⟨x,H5,I5,r5,y5,G,WC⟩:=zz;have E:=I5.pinned (F WC) (T.obj _ _ G);refine FQ k (bM (hg _ P q H5 x u _ E r5 (step x H5 y5)) λ_ s6 ⟨y,H6,I6,q6⟩=>?_);refine FQ k (bM (hb _ s6 y H6 _ I6 q6) λf C a=>?_);have again:∀{j:St} {L:Hp},Inv X (aa++LQ p P.heap) j L C->N j L->∃m,m<n/\∃i z U,Inv X aa z U C/\M i C.heap/\(∀b∈p,U b=aq)/\W i m z U:=λ{j L} B c=>by
   obtain⟨m',hm,w7⟩:=hN j L c;refine⟨m',hm,i+1,j,L,B.SA,T.keep _ _ _ G λb hb o e=>(B.pin (b,o) (lD _ (lD _ (UG hb e)))).1,λb hb=>?_,w7⟩;obtain⟨o,e,d⟩:=T.obj _ _ G b hb;exact(B.pin (b,o) (lD _ (lD _ (UG hb e)))).2.1
  cases f with
  |next=>obtain⟨j,L,B,c⟩:=a;exact again B c
  |cont=>obtain⟨j,L,B,c⟩:=a;exact again B c
  |brk=>obtain⟨j,L,B,a⟩:=a;exact⟨j,L,B.SA,a⟩
  |ret v=>obtain⟨x7,j,L,B,r7,a⟩:=a;exact⟨x7,j,L,B.SA,r7,a⟩
end
abbrev R2:=V->V->Hp->VK->Prop
def iF(X:Cx)(f:ar->ar->Sem ar)(r:R2):Prop :=
 ∀(aa:ao (ay×cp)) (s:aw) (J:St) (H:Hp) (x y:V) (v u:ar) (Q:VK),Inv X aa J H s->RelV x v->RelV y u->r x y H Q ->
  wpAny (bq X.prog X.w) X.A (f v u) (EP X aa J Q) X.xe s
def oX(X:Cx)(f:ar)(r:ao V->Hp->VK->Prop):Prop :=
 ∀(aa:ao (ay×cp)) (s:aw) (J:St) (H:Hp) (xs:ao V) (us:ao ar) (Q:VK),Inv X aa J H s->Vals xs us->r xs H Q ->
  wpAny (bq X.prog X.w) X.A (call f us) (EP X aa J Q) X.xe s
def LG(r:R2)(ta tb:TE):TE:=λJ H Q=>ta J H λx H1=>tb J H1 λy H2=>r x y H2 Q
def rI(C:az->az->Prop)(g:az->az->V):R2:=λx y H Q=>∃i j,x=.int i/\y=.int j/\C i j/\Q (g i j) H
def xP(g:az->az->V):R2:=λx y H Q=>∃i j,x=.int i/\y=.int j/\Q (g i j) H
section
variable{X:Cx}{a b c:bx}{ta tb tc:TE}{pos:dg}
theorem Ks(ha:PE X a ta)(hb:PE X b tb){aa:ao (ay×cp)}{s:aw}{J:St}{H:Hp}{R:V->V->Hp->Prop}(I:Inv X aa J H s)
  (h:ta J H λx H1=>tb J H1 λy H2=>R x y H2) {Q:ar->aw->Prop} {f:ar->ar->Sem ar}
  (U:∀v u s2 x y H2,Inv X aa J H2 s2->RelV x v->RelV y u->R x y H2->wpAny (bq X.prog X.w) X.A (f v u) Q X.xe s2) :
  wpAny (bq X.prog X.w) X.A (cb a X.env) (λv s₁=>wpAny (bq X.prog X.w) X.A (cb b X.env) (λu s₂=>wpAny (bq X.prog X.w) X.A (f v u) Q X.xe s₂) X.xe s₁) X.xe s:=by
 refine bM (ha aa s J H _ I h) λv j ⟨x,H1,d,z,L⟩=>?_;refine bM (hb aa j J H1 _ d L) λu s2 ⟨y,H2,c,q,B⟩=>?_;exact U v u s2 x y H2 c z q B
theorem apP{j:Operator}{r:R2}(L:iF X (cx j) r)(ha:PE X a ta)(hb:PE X b tb):PE X (.BinOp a j b pos) (LG r ta tb):=by
 intro aa s J H Q I h;exact wpAny_BinOp (Ks ha hb I h λv u s2 x y c U B z q=>L aa s2 J c x y v u Q U B z q)
theorem LW{f:ar->ar->Sem ar}{C:az->az->Prop}{g:az->az->az}
  (rule:∀(i j:az) (t u:Tok) (s:aw) (Q:ar->aw->Prop) (E:ar->aw->Prop),C i j->Q (.int (g i j) s.toks) {s with toks:=s.toks+1}->wpAny (bq X.prog X.w) X.A (f (.int i t) (.int j u)) Q E s) :
  iF X f (rI C λi j => .int (g i j)):=by
 intro aa s J H x y v u Q I L B h;obtain⟨i,j,rfl,rfl,U,q⟩:=h;obtain⟨t,rfl⟩:=L;obtain⟨z,rfl⟩:=B;exact rule i j t z s _ _ U ⟨.int (g i j),H,I.tok _,⟨_,rfl⟩,q⟩
theorem Xi{f:ar->ar->Sem ar}{g:az->az->az}
  (rule:∀(i j:az) (t u:Tok) (s:aw) (Q:ar->aw->Prop) (E:ar->aw->Prop),Q (.int (g i j) s.toks) {s with toks:=s.toks+1}->wpAny (bq X.prog X.w) X.A (f (.int i t) (.int j u)) Q E s) :
  iF X f (xP λi j => .int (g i j)):=by
 intro aa s J H x y v u Q I L B h;obtain⟨i,j,rfl,rfl,q⟩:=h;obtain⟨t,rfl⟩:=L;obtain⟨z,rfl⟩:=B;exact rule i j t z s _ _ ⟨.int (g i j),H,I.tok _,⟨_,rfl⟩,q⟩
theorem TV{f:ar->ar->Sem ar}{g:az->az->bh}
  (rule:∀(i j:az) (t u:Tok) (s:aw) (Q:ar->aw->Prop) (E:ar->aw->Prop),Q (.bool (g i j)) s->wpAny (bq X.prog X.w) X.A (f (.int i t) (.int j u)) Q E s) :
  iF X f (xP λi j => .bl (g i j)):=by
 intro aa s J H x y v u Q I L B h;obtain⟨i,j,rfl,rfl,q⟩:=h;obtain⟨t,rfl⟩:=L;obtain⟨z,rfl⟩:=B;exact rule i j t z s _ _ ⟨.bl (g i j),H,I,rfl,q⟩
def qB(i j:az):Prop:=0<j/\j<1073741824
def sQ(i j:az):Prop:=0<=j/\j<=1000000/\i.natAbs<2 ^ 64
def mF(i j:az):Prop:=(-(2 ^ 64)<i/\i<2 ^ 64)\/(-(2 ^ 64)<j/\j<2 ^ 64)
theorem mF.ok{i j:az}(h:mF i j):IntMulOk i j:=by
 rcases h with⟨h1,h2⟩|⟨h1,h2⟩
 ·exact .of_left (intBits_le_64 h1 h2)
 ·exact .of_right (intBits_le_64 h1 h2)
theorem aqZ:iF X (cx .Add) (xP λi j => .int (i+j)):=Xi λ_ _ _ _ _ _ _ q=>add_int q
theorem aqK:iF X (cx .Sub) (xP λi j => .int (i-j)):=Xi λ_ _ _ _ _ _ _ q=>sub_int q
theorem aqP:iF X (cx .Mult) (rI mF λi j => .int (i*j)):=LW λ_ _ _ _ _ _ _ z q=>mul_int q z.ok
theorem aqV:iF X (cx .FloorDiv) (rI qB λi j => .int (i/j)):=LW λi j _ _ _ _ _ z q=>by
 have h1:(0:az)<j:=z.1;have h2:j<1073741824:=z.2;exact floordiv_int (by omega) (by rw[Int.fdiv_eq_ediv_of_nonneg i (by omega)];exact q) (.inl (PyProof.noPylong_small (by omega)))
theorem aqQ:iF X (cx .Mod) (rI (λ_ j=>0<j) λi j => .int (i%j)):=LW λi j _ _ _ _ _ z q=>by
 have h1:(0:az)<j:=z;exact mod_int' (by omega) (by rw[Int.fmod_eq_emod_of_nonneg i (by omega)];exact q)
theorem aqM:iF X (cx .Pow) (rI sQ λi j => .int (i ^ j.toNat)):=LW λ_ _ _ _ _ _ _ z q=>pow_int_small z.1 z.2.1 z.2.2 q
theorem aqL:iF X (cx .LShift) (rI sQ λi j => .int (i*2 ^ j.toNat)):=LW λ_ _ _ _ _ _ _ z q=>lshift_int_small z.1 z.2.1 z.2.2 q
theorem aqR:iF X (b8 .Lt) (xP λi j => .bl (decide (i<j))):=TV λ_ _ _ _ _ _ _ q=>lt_int q
theorem aqS:iF X (b8 .LtE) (xP λi j => .bl (decide (i<=j))):=TV λ_ _ _ _ _ _ _ q=>le_int q
theorem aqT:iF X (b8 .Gt) (xP λi j => .bl (decide (j<i))):=TV λ_ _ _ _ _ _ _ q=>gt_int q
theorem aqU:iF X (b8 .GtE) (xP λi j => .bl (decide (j<=i))):=TV λ_ _ _ _ _ _ _ q=>ge_int q
theorem iF.or{f:ar->ar->Sem ar}{r B:R2}(h:iF X f r)(h':iF X f B):iF X f (λx y H Q=>r x y H Q\/B x y H Q):=by
 intro aa s J H x y v u Q I z j q
 rcases q with q|q
 ·exact h aa s J H x y v u Q I z j q
 ·exact h' aa s J H x y v u Q I z j q
theorem fD(b:bx){j:CmpOp}(h:j≠.In:=by decide)(h2:j≠.NotIn:=by decide):eh j b=au:=by
 have e1:(j==CmpOp.In)=au:=by cases j <;> first|rfl|exact b4 rfl h
 have q:(j==CmpOp.NotIn)=au:=by cases j <;> first|rfl|exact b4 rfl h2
 cases b <;> simp[eh,e1,q]
theorem ap5{j:CmpOp}{r:R2}(L:iF X (b8 j) r)(ha:PE X a ta)(hb:PE X b tb)(hm:eh j b=au):PE X (.Compare a [j] [b] pos) (LG r ta tb):=by
 intro aa s J H Q I h;exact wpAny_Compare1 (Ks ha hb I h λv u s2 x y c U B z q=>L aa s2 J c x y v u Q U B z q) hm
def Tx(t:TE):TT:=λJ H Q=>t J H λx H'=>∃k,x=.bl k/\Q k H'
theorem aoA{j:CmpOp}{r:R2}(i:iF X (b8 j) r)(ha:PE X a ta)(hb:PE X b tb)(hm:eh j b=au):PT X (.Compare a [j] [b] pos) (Tx (LG r ta tb)):=by
 intro aa s J H Q I h;refine wpAny_isTrue_Compare1 (bM (ha aa s J H _ I h) λv q ⟨x,t,n,U,g⟩=>bM (hb aa q J t _ n g) λu s2 ⟨y,p,m,L,f⟩ =>
  bM (i aa s2 J p x y v u _ m U L f) λc w ⟨z,o,l,B,k,e,d⟩=>?_) hm
 subst e;cases B;exact KJ ⟨o,l,d⟩
theorem MM:(bc:a4)<2 ^ 63:=by rw[qH];decide
theorem vals1{x:V}{us:ao ar}(r:Vals [x] us):∃u,us=[u]/\RelV x u:=by
 cases r with
 |cons q j=>cases j;exact⟨_,rfl,q⟩
theorem vals2{x y:V}{us:ao ar}(r:Vals [x,y] us):∃u j,us=[u,j]/\RelV x u/\RelV y j:=by
 cases r with
 |cons L B =>
  cases B with
  |cons z q=>cases q;exact⟨_,_,rfl,L,z⟩
theorem aFO(B:X.calm=ax):oX X (.builtin "max") (λxs H Q=>∃i j,xs=[.int i,.int j]/\Q (.int (if j>i then j else i)) H):=by
 intro aa s J H xs U Q I r h;obtain⟨i,j,rfl,q⟩:=h;obtain⟨u,L,rfl,⟨t,rfl⟩,⟨a,rfl⟩⟩:=vals2 r;refine max_two_ints (I.ok.hd B) λh' tk k=>⟨_,H,I.kept k,?_,q⟩
 by_cases z:j>i
 ·rw[a7 z,a7 z];exact⟨_,rfl⟩
 ·rw[ba z,ba z];exact⟨_,rfl⟩
theorem aFN(B:X.calm=ax):oX X (.builtin "min") (λxs H Q=>∃i j,xs=[.int i,.int j]/\Q (.int (if j<i then j else i)) H):=by
 intro aa s J H xs U Q I r h;obtain⟨i,j,rfl,q⟩:=h;obtain⟨u,L,rfl,⟨t,rfl⟩,⟨a,rfl⟩⟩:=vals2 r;refine min_two_ints (I.ok.hd B) λh' tk k=>⟨_,H,I.kept k,?_,q⟩
 by_cases z:j<i
 ·rw[a7 z,a7 z];exact⟨_,rfl⟩
 ·rw[ba z,ba z];exact⟨_,rfl⟩
theorem aFU:oX X (.type "int") (λxs H Q=>(∃i,xs=[.int i]/\Q (.int i) H)\/∃k,xs=[.bl k]/\Q (.int (if k then 1 else 0)) H):=by
 intro aa s J H xs z Q I r h
 rcases h with⟨i,rfl,q⟩|⟨k,rfl,q⟩
 ·obtain⟨u,rfl,t,rfl⟩:=vals1 r;exact call_int_int ⟨.int i,H,I,⟨_,rfl⟩,q⟩
 ·obtain⟨u,rfl,j⟩:=vals1 r;cases j;exact call_int_bool ⟨.int (if k then 1 else 0),H,I.tok _,⟨_,rfl⟩,q⟩
end
structure ER(h:bz)(x dx C:ay)(mA:a9->av ar):Prop where
 obj:h.get? x=ak (instObj C dx)
 ns:h.Ns1 dx mA
 ne:dx≠x
theorem atL{h:bz}{dx:ay}{mA:a9->av ar}(n:h.Ns1 dx mA):∃od,h.get? dx=ak od/\∀name,lookIn name od=ak (mA name):=by
 obtain⟨o,es,c,L,hd,U,_,hm⟩:=n;refine⟨o,L,λname=>?_⟩;have e:=hm name;unfold nsFind findBy at e;rw[<-Array.find?_toList]at e;unfold lookIn;rw[hd];dsimp only;split
 ·rename_i y q;rw[q]at e;exact cz ak e
 ·rename_i q;rw[q]at e;have a:es.toList.any (·.refKey)=au:=by
   rw[List.any_eq_false];intro y B;obtain⟨z,t,j⟩:=U y (Array.mem_toList_iff.mp B);simp[DictEntry.refKey,j]
  have b:¬es.toList.any (·.refKey)=ax:=by rw[a];exact ae8
  rw[ba b];exact cz ak e
theorem ER.look{h:bz}{x dx C:ay}{mA:a9->av ar}(I:ER h x dx C mA):∃od,PySem.W.InstAt h x (instObj C dx) C (ak od)/\∀name,lookIn name od=ak (mA name) :=
 let ⟨od,j,hl⟩:=atL I.ns
 ⟨od,⟨I.obj,rfl,rfl,j⟩,hl⟩
section
variable{prog:bg}{w:br}{A:bu}{E:ar->aw->Prop}{s:aw}{K:bj}{x dx C f:ay}{mA:a9->av ar}{name:a9}{v:ar}
theorem get_map{expr:bh}{Q:ar->aw->Prop}(X:K.In s.heap)(I:ER s.heap x dx C mA)(j:plainGet K C name=ax)(hh:hasDictIn K C=ax)
  (ha:b5 K (.ref C) name=ak aq) (hv:mA name=ak v) (q:PySem.W.handedIn v=ax) (h:Q v {s with toks:=s.toks+1}) :
  wpAny (bq prog w) A (getAttr (.ref x) name expr) Q E s:=by
 obtain⟨z,σ,hl⟩:=I.look;exact PySem.W.get_value X σ (plainGet_of j).1 (PySem.W.findObj_own hh ha rfl (by rw[hl,hv])) q h
theorem aA8{pl:Sem bh}{Q:ar×ao ar->aw->Prop}(X:K.In s.heap)(I:ER s.heap x dx C mA)(j:plainGet K C name=ax)
  (B:b5 K (.ref C) name=ak (ak (.ref f))) (z:isFn K (.ref f)=ax) (hv:mA name=aq) (h:Q (.ref f,[.ref x]) s) :
  wpAny (bq prog w) A (getMethod (.ref x) name pl) Q E s:=by
 obtain⟨q,σ,hl⟩:=I.look;exact PySem.W.method_fn X σ (plainGet_of j).1 (plainGet_of j).2 B (uW.mp z) (by show(lookIn name q).map (·.isSome)=ak au;rw[hl,hv];rfl) h
theorem akR{ns:ao a9}{Q:Unit->aw->Prop}(X:K.In s.heap)(I:ER s.heap x dx C mA)
  (e:b5 K (.ref C) "__setattr__" = ak (ak (.builtin "object.__setattr__"))) (f:PySem.W.plainOver K C=ax) (d:takerIn K C name=ak aq) (hh:hasDictIn K C=ax)
  (c:PySem.Within mA ns) (hsz:ns.length<=bc)
  (h:∀h',ER h' x dx C (λy=>if y=name then ak v else mA y)->Heap.SameBut dx s.heap h'->Q () {s with heap:=h',toks:=s.toks+2}) :
  wpAny (bq prog w) A (setAttr (.ref x) name v) Q E s:=by
 obtain⟨m,σ,hl⟩:=I.look;refine PySem.W.set_plain X σ e (PySem.W.osa_open (s:={s with toks:=s.toks+1}) (r:=aq) X σ f d λb=>?_);obtain⟨o,g,l⟩:=PySem.W.any_some hh;have U:s.heap.get? x=ak ⟨.ref C,ak dx,.plain,#[]⟩:=I.obj;refine aI (bC (aI (aI (wpAny_loadPart U (aI (PySem.W.Looks.here (s:={s with toks:=s.toks+1}) (PySem.W.looks_clsIn X g) ?_))))));rw[l];refine bC (a:=ak dx) (aI (bC (aI ?_)));refine wpAny_nsSet1 (s:={s with toks:=s.toks+1}) I.ns λh' B L=>?_;obtain⟨n,i,k,j,q,z⟩:=B.count (PySem.Within.cons name v c);refine aI (wpAny_lookBehind j (by rw[q];exact pastItsLine_dict (nW z (by rw[eB];omega))) ?_);exact bC (h _ ⟨(L.2 _ (cQ I.ne)).trans I.obj,B,I.ne⟩ L)
theorem as9{R:Result->aw->Prop}{vs:ao ar}{kw:ao (a9×ar)}(X:K.In s.heap)(hm:makesIn K C=ax)
  (hi:b5 K (.ref C) "__init__" = ak (ak (.ref f))) (j:PySem.W.typeIn K (.ref f)=ak (.type "function"))
  (h:codeAny (bq prog w) (A.under (.builtin "type.__call__" ⟨.ref C::vs,kw⟩)) (.call (.ref f) ⟨.ref (s.heap.objs.size+1)::vs,kw⟩) (PySem.W.InitBack (s.heap.objs.size+1) R)
   {s with heap:=(s.heap.push e7).push (instObj C s.heap.objs.size)}) :
  codeAny (bq prog w) A (.call (.ref C) ⟨vs,kw⟩) R s:=by
 obtain⟨hh,g,d,t,os⟩:=s;exact PySem.W.make_core (PySem.W.makes_of X hm) (looks_findIn X hi) (λself=>PySem.W.bind_fn X self j) (.inl rfl) h
end
noncomputable def jK(f:a9)(v:V):ao (a9×V)->ao (a9×V)
 |[]=>[(f,v)]
 |(g,x)::r=>if g=f then(g,v)::r else(g,x)::jK f v r
theorem Yj(f g:a9)(v:V):∀fs:ao (a9×V),(jK f v fs).lookup g=if g=f then ak v else fs.lookup g
 |[]=>by
  show List.lookup g [(f,v)]=_
  by_cases h:g=f
  ·have hb:(g==f)=ax:=uW.mpr h;simp only[List.lookup,hb,a7 h]
  ·have hb:(g==f)=au:=wO.mpr h;simp only[List.lookup,hb,ba h]
 |(k,x)::r=>by
  have ih:=Yj f g v r;rw[show jK f v ((k,x)::r)=(if k=f then(k,v)::r else(k,x)::jK f v r)from rfl]
  by_cases j:k=f
  ·rw[a7 j]
   by_cases h:g=k
   ·have hb:(g==k)=ax:=uW.mpr h;simp only[List.lookup,hb,a7 (h.trans j)]
   ·have hb:(g==k)=au:=wO.mpr h;simp only[List.lookup,hb,ba (λe:g=f=>h (e.trans j.symm))]
  ·rw[ba j]
   by_cases h:g=k
   ·have hb:(g==k)=ax:=uW.mpr h;simp only[List.lookup,hb,ba (λe:g=f=>j (h.symm.trans e))]
   ·have hb:(g==k)=au:=wO.mpr h;simp only[List.lookup,hb];exact ih
theorem Gi(f:a9)(v:V):∀fs:ao (a9×V),f∈(jK f v fs).map (·.1)/\∀g,g∈fs.map (·.1)->g∈(jK f v fs).map (·.1)
 |[]=>⟨by simp[jK],λg h=>by simp at h⟩
 |(k,x)::r=>by
  obtain⟨z,q⟩:=Gi f v r;rw[show jK f v ((k,x)::r)=(if k=f then(k,v)::r else(k,x)::jK f v r)from rfl]
  by_cases j:k=f
  ·rw[a7 j];subst j;exact⟨by simp,λg h=>by simpa using h⟩
  ·rw[ba j];refine⟨?_,λg h=>?_⟩
   ·rw[dJ];exact iP _ z
   ·rw[dJ]at h ⊢
    rcases dY.mp h with e|e
    ·exact dY.mpr (.inl e)
    ·exact iP _ (q g e)
theorem Yp(f:a9)(v:V):∀fs:ao (a9×V),(jK f v fs).length<=fs.length+1
 |[]=>by simp[jK]
 |(k,x)::r=>by
  have ih:=Yp f v r;rw[show jK f v ((k,x)::r)=(if k=f then(k,v)::r else(k,x)::jK f v r)from rfl]
  by_cases j:k=f
  ·rw[a7 j,eB,eB];omega
  ·rw[ba j,eB,eB];omega
theorem nU.some_of{v:V}{o:av ar}(r:nU (ak v) o):∃u,o=ak u/\RelV v u:=by
 cases o with
 |none=>exact(show ck from r).elim
 |some u=>exact⟨u,rfl,r⟩
theorem nU.none_of{o:av ar}(r:nU aq o):o=aq:=by
 cases o with
 |none=>rfl
 |some u=>exact(show ck from r).elim
theorem aaU{v:V}{u:ar}(r:RelV v u):PySem.W.handedIn u=ax:=by
 cases v with
 |bQ=>cases(show u=Value.none from r);rfl
 |bl b=>cases(show u=Value.bool b from r);rfl
 |int i=>obtain⟨t,e⟩:=(show ∃t,u=Value.int i t from r);cases e;rfl
 |str x=>obtain⟨t,e⟩:=(show ∃t,u=Value.str x t from r);cases e;rfl
 |WT b=>obtain⟨t,e⟩:=(show ∃t,u=Value.bytes b t from r);cases e;rfl
 |DU b=>obtain⟨t,e⟩:=(show ∃t,u=Value.float b t from r);cases e;rfl
 |ref a=>cases(show u=Value.ref a from r);rfl
 |ty n=>cases(show u=Value.type n from r);rfl
section
variable{P:bg}{w:br}{H H':Hp}{h h':bz}{a C dx:ay}{fs nP:ao (a9×V)}
theorem UT(aL:fQ P w H h)(e:H a=ak (.ins C dx fs)):∃mA,ER h a dx C mA/\(∀f,nU (fs.lookup f) (mA f))/\PySem.Within mA (fs.map (·.1))/\fs.length<=1000/\H dx=ak (.own a):=by
 obtain⟨d,z,ne,ob,mA,n,r,q⟩:=(show iG P w H h a (.ins C dx fs)from aL a _ e);exact⟨mA,⟨ob,n,ne⟩,r,q,z,d⟩
end
structure nE(K:bj)(C:ay):Prop where
 pg:plainGet K C Str.empty=ax
 hd:hasDictIn K C=ax
 po:PySem.W.plainOver K C=ax
 sa:b5 K (.ref C) "__setattr__" = ak (ak (.builtin "object.__setattr__"))
theorem nE.get{K:bj}{C:ay}(c:nE K C)(f:a9):plainGet K C f=ax:=c.pg
def ES(K:bj)(C:ay)(f:a9):Prop:=b5 K (.ref C) f=ak aq
theorem ES.ah2{K:bj}{C:ay}{f:a9}(n:ES K C f):takerIn K C f=ak aq:=by
 unfold takerIn;rw[show b5 K (.ref C) f=ak aq from n];rfl
structure Meth(K:bj)(C:ay)(m:a9)(f:ay):Prop where
 at_:b5 K (.ref C) m=ak (ak (.ref f))
 fn:isFn K (.ref f)=ax
 kp:keepIn K (.ref f)=ax
section
variable{X:Cx}{aa:ao (ay×cp)}{J:St}{H:Hp}{s:aw}{a C dx:ay}{fs:ao (a9×V)}{f:a9}{v:V}{A:bu}{E:ar->aw->Prop}
theorem aA7{b:bh}{Q:ar->aw->Prop}(I:Inv X aa J H s)(e:H a=ak (.ins C dx fs))(c:nE X.K C)(n:ES X.K C f)(l:fs.lookup f=ak v)
  (h:∀u s',Inv X aa J H s'->RelV v u->Q u s'):wpAny (bq X.prog X.w) A (getAttr (.ref a) f b) Q E s:=by
 obtain⟨q,ι,r,_,_,_⟩:=UT I.aL e;obtain⟨u,z,j⟩:=nU.some_of (v:=v) (o:=q f) (by rw[<-l];exact r f);exact get_map I.gG ι (c.get f) c.hd n z (aaU j) (h u _ (I.tok _) j)
theorem aa8{m:a9}{g:ay}{pl:Sem bh}{Q:ar×ao ar->aw->Prop}(I:Inv X aa J H s)(e:H a=ak (.ins C dx fs))(c:nE X.K C)(k:Meth X.K C m g)(l:fs.lookup m=aq)
  (h:Q (.ref g,[.ref a]) s):wpAny (bq X.prog X.w) A (getMethod (.ref a) m pl) Q E s:=by
 obtain⟨j,ι,r,_,_,_⟩:=UT I.aL e;have hn:j m=aq:=nU.none_of (by rw[<-l];exact r m);exact aA8 I.gG ι (c.get m) k.at_ k.fn hn h
theorem akP{y:V}{u:ar}{Q:Unit->aw->Prop}(I:Inv X aa J H s)(e:H a=ak (.ins C dx fs))(c:nE X.K C)(n:ES X.K C f)(hl:fs.length<1000)(d:RelV y u)
  (h:∀s',Inv X aa J (upd H a (.ins C dx (jK f y fs))) s'->Q () s'):wpAny (bq X.prog X.w) A (setAttr (.ref a) f u) Q E s:=by
 obtain⟨L,ι,r,B,_,U⟩:=UT I.aL e;have i:(fs.map (·.1)).length<=bc:=by rw[jQ,qH];omega
 refine akR I.gG ι c.sa c.po n.ah2 c.hd B i λh' j sb=>h _ ?_;have hd:∃o,h'.get? dx=ak o:=let ⟨o,_,_,l,_⟩:=j.ns; ⟨o,l⟩;refine I.write (x:=a) (e:=dx) (by rw[e];exact True.intro) (.inr U) (λb q hb z=>(sb.2 b hb).trans z) hd ?_;refine⟨by rw[bX ι.ne];exact U,?_,ι.ne,j.obj,_,j.ns,λg=>?_,λg k=>?_⟩
 ·have:=Yp f y fs;omega
 ·show nU ((jK f y fs).lookup g) (if g=f then ak u else L g);rw[Yj]
  by_cases q:g=f
  ·rw[a7 q,a7 q];exact d
  ·rw[ba q,ba q];exact r g
 ·by_cases q:g=f
  ·rw[q];exact(Gi f y fs).1
  ·refine(Gi f y fs).2 g (B g λz=>k ?_);show(if g=f then ak u else L g)=aq;rw[ba q];exact z
theorem Inv.made(I:Inv X aa J H s):Inv X aa J (upd (upd H s.heap.objs.size (.own (s.heap.objs.size+1))) (s.heap.objs.size+1) (.ins C s.heap.objs.size []))
  {s with heap:=(s.heap.push e7).push (instObj C s.heap.objs.size)}:=by
 have e1:(s.heap.push e7).get? s.heap.objs.size=ak e7:=iQ s.heap rfl;have B:((s.heap.push e7).push (instObj C s.heap.objs.size)).get? (s.heap.objs.size+1)=ak (instObj C s.heap.objs.size):=by
  have:=iQ (s.heap.push e7) (o:=instObj C s.heap.objs.size) rfl;rwa[JV]at this
 have z:(s.heap.push e7).Ns s.heap.objs.size (λ_=>aq):=⟨e7,#[],_,e1,rfl,(λe he=>b4 he (by simp)),λ_=>rfl⟩;have L:=I.laid (a:=s.heap.objs.size) (o:=.own (s.heap.objs.size+1)) (h':=s.heap.push e7) (t':=s.toks) (λb u q=>eK _ q) dC ⟨_,e1⟩;refine L.laid (a:=s.heap.objs.size+1) (o:=.ins C s.heap.objs.size []) (t':=s.toks) (λb u q=>eK _ q) (Nat.le_of_eq (JV _ _)) ?_;have ne:s.heap.objs.size≠s.heap.objs.size+1:=fX (YD _);refine⟨by rw[bX ne,gV],AW _,ne,B,λ_=>aq,(Heap.Ns1.of_empty z).at λo q=>eK _ q,λ_=>True.intro,λy j=>b4 rfl j⟩
theorem aHC{prog:bg}{w:br}{env:Env}{e:bx}{f:a9}{pos:dg}{s:aw}{Q:ar->aw->Prop}(hb:df e f env (cb e env)=cb e env)
  (h:wpAny (bq prog w) A (cb e env) (λo s₁=>wpAny (bq prog w) A (getAttr o f ax) Q E s₁) E s):wpAny (bq prog w) A (cb (.Attribute e f pos) env) Q E s :=
 Attribute_any_ h (by rw[arm_eval_Attribute,hb])
end
def aiJ(K:bj)(ta:TE)(f:a9):TE:=λJ H Q=>ta J H λx H1=>∃a C dx fs v,x=.ref a/\H1 a=ak (.ins C dx fs)/\nE K C/\ES K C f/\fs.lookup f=ak v/\Q v H1
def amH(K:bj)(ta tv:TE)(f:a9):TS:=λD J H=>tv J H λy H1=>ta J H1 λx H2=>∃a C dx fs,x=.ref a/\H2 a=ak (.ins C dx fs)/\nE K C/\ES K C f/\fs.length<1000 /\
 D.nx J (upd H2 a (.ins C dx (jK f y fs)))
section
variable{X:Cx}{o e value:bx}{f:a9}{pos pos' ahP:dg}{ta tv:TE}
theorem ap0(he:PE X e ta)(hb:df e f X.env (cb e X.env)=cb e X.env):PE X (.Attribute e f pos) (aiJ X.K ta f):=by
 intro aa s J H Q I h;refine aHC hb (bM (he aa s J H _ I h) λu g zz=>?_);obtain⟨x,b,U,j,a,C,i,fs,v,ex,B,c,n,l,q⟩:=zz;subst ex;obtain rfl:u=Value.ref a:=j;exact aA7 U B c n l λd s2 L z=>⟨v,b,L,z,q⟩
theorem aoN(ha:PE X o ta)(hv:PE X value tv)(b:e4 value (ak (.Attribute o f pos')) pos.line X.env=pure au):PS X (.Assign [.Attribute o f pos'] value pos) (amH X.K ta tv f):=by
 intro aa s J H D I h;refine plainObj_wpAny_Assign_Attribute (bM (hv aa s J H _ I h) λu j ⟨y,k,i,z,q⟩=>bM (ha aa j J k _ i q) λU s2 zz=>?_) b;obtain⟨x,r,g,B,a,C,p,fs,ex,d,c,n,l,L⟩:=zz;subst ex;obtain rfl:U=Value.ref a:=B;exact akP g d c n l z λm e=>⟨J,_,e,L⟩
end
section
variable{X:Cx}{aa:ao (ay×cp)}{J:St}{H:Hp}{s:aw}{A:bu}{E:ar->aw->Prop}{Q:ar->aw->Prop}{c:ar}{b:bh}
inductive rG(K:bj)(H:Hp):V->ar->Prop where
 | bQ:rG K H .bQ (.type "NoneType")
 | bl (x:bh):rG K H (.bl x) (.type "bool")
 | int (i:az):rG K H (.int i) (.type "int")
 | str (x:a9):rG K H (.str x) (.type "str")
 | DU (x:UInt64):rG K H (.DU x) (.type "float")
 | lst {a:ay} {xs:ao V} (e:H a=ak (.lst xs)):rG K H (.ref a) (.type "list")
 | iC {a:ay} {o:cp} {xs:ao V} (e:H a=ak (.iC o (.lst xs))):rG K H (.ref a) (.type "list")
 | tup {a:ay} {xs:ao V} (e:H a=ak (.tup xs)):rG K H (.ref a) (.type "tuple")
 | dK {a:ay} {kvs:ao (Key×V)} (e:H a=ak (.dK kvs)):rG K H (.ref a) (.type "dict")
 | dT {a:ay} {kvs:ao (ao Key×V)} (e:H a=ak (.dT kvs)):rG K H (.ref a) (.type "dict")
 | ins {a C dx:ay} {fs:ao (a9×V)} (e:H a=ak (.ins C dx fs)) (cl:nE K C) (ha:b5 K (.ref C) "__class__" = ak (ak (.builtin "object.__class__")))
   (hn:specialIn K (.builtin "object.__class__") "__get__" = ak (ak (.builtin "getset_descriptor.__get__"))) (Zl:takesIn K (.builtin "object.__class__")=ak ax)
   (hm:mroIn K C (.type "object")=ak ax):rG K H (.ref a) (.ref C)
theorem av9{x:V}{u t:ar}(I:Inv X aa J H s)(j:RelV x u)(ty:rG X.K H x t)(e:eu X.K t c=ak b)(h:∀tk,Q (.bool b) {s with toks:=tk}) :
  wpAny (bq X.prog X.w) A (call (.builtin "isinstance") [u,c]) Q E s:=by
 cases ty with
 |bQ=>cases(show u=Value.none from j);exact d0 PySem.W.kitx_none I.gG True.intro e (λz=>nomatch z) h
 |bl y=>cases(show u=Value.bool y from j);exact d0 PySem.W.kitx_bool I.gG True.intro e (λz=>nomatch z) h
 |int i=>obtain⟨t,q⟩:=(show ∃t,u=Value.int i t from j);cases q;exact d0 PySem.W.kitx_int I.gG True.intro e (λz=>nomatch z) h
 |str y=>obtain⟨t,q⟩:=(show ∃t,u=Value.str y t from j);cases q;exact d0 PySem.W.kitx_str I.gG True.intro e (λz=>nomatch z) h
 |DU y=>obtain⟨t,q⟩:=(show ∃t,u=Value.float y t from j);cases q;exact d0 PySem.W.kitx_float I.gG True.intro e (λz=>nomatch z) h
 | @lst a U B =>
  cases(show u=Value.ref a from j);obtain⟨_,_,n,_,h1⟩:=(show iG X.prog X.w H s.heap a (.lst U)from I.aL a _ B);exact d0 PySem.W.kitx_list I.gG ⟨_,h1,rfl⟩ e (λz=>nomatch z) h
 | @iC a ob U B =>
  cases(show u=Value.ref a from j);obtain⟨_,_,_,n,_,h1⟩:=(show iG X.prog X.w H s.heap a (.iC ob (.lst U))from I.aL a _ B);exact d0 PySem.W.kitx_list I.gG ⟨_,h1,rfl⟩ e (λz=>nomatch z) h
 | @tup a U B =>
  cases(show u=Value.ref a from j);obtain⟨_,_,_,p⟩:=(show iG X.prog X.w H s.heap a (.tup U)from I.aL a _ B);obtain⟨o,h1,h2,_⟩:=p;exact d0 PySem.W.kitx_tuple I.gG ⟨o,h1,h2⟩ e (λz=>nomatch z) h
 | @dK a L B =>
  cases(show u=Value.ref a from j);obtain⟨_,_,g,_,p⟩:=(show iG X.prog X.w H s.heap a (.dK L)from I.aL a _ B);obtain⟨o,es,d,h1,h2,_⟩:=p;exact d0 PySem.W.kitx_dict I.gG ⟨o,h1,h2.1⟩ e (λz=>nomatch z) h
 | @dT a L B =>
  cases(show u=Value.ref a from j);obtain⟨_,_,U,_,o,es,d,h1,h2,_⟩:=(show iG X.prog X.w H s.heap a (.dT L)from I.aL a _ B);exact d0 PySem.W.kitx_dict I.gG ⟨o,h1,h2.1⟩ e (λz=>nomatch z) h
 | @ins a C m fs B cl ha hn f hm =>
  cases(show u=Value.ref a from j);obtain⟨l,ι,_⟩:=UT I.aL B;obtain⟨k,σ,_⟩:=ι.look;exact d0 (PySem.W.kitx_own (cl.get _) cl.hd ha hn f hm) I.gG σ e (λz=>nomatch z) h
end
structure dP(k:a4)(A:bu):Prop where
 hd:A.handled=aq
 dp:A.depth+3*k+5<recursionLimit
 un:A.units+16*k+200<cLine
theorem dP.mono{j k:a4}{A:bu}(r:dP k A)(h:j<=k):dP j A:=⟨r.hd,by have:=r.dp;omega,by have:=r.un;omega⟩
theorem dP.deeper{k:a4}{A:bu}(r:dP (k+1) A)(env:Env):dP k (A.deeper env) :=
 ⟨r.hd,by have:=r.dp;show A.depth+1+3*k+5<_;omega,by have:=r.un;show A.units+3+16*k+200<_;omega⟩
theorem atA{A:bu}{C:ay}{us:ao ar}{kw:ao (a9×ar)}:(A.under (.builtin "type.__call__" ⟨.ref C::us,kw⟩)).depth=A.depth+1:=by
 first|rfl|simp[Around.under,Code.weight,Code.isCreation,Code.isGuard,Code.isCaller,Code.frames,Code.isFrame,guardIds]
theorem as8{A:bu}{C:ay}{us:ao ar}{kw:ao (a9×ar)}:(A.under (.builtin "type.__call__" ⟨.ref C::us,kw⟩)).units=A.units+1:=by
 first|rfl|simp[Around.under,Code.cUnits,Code.frames,Code.isFrame]
theorem dP.make{k:a4}{A:bu}(r:dP (k+1) A)(C:ay)(us:ao ar)(kw:ao (a9×ar)):dP k (A.under (.builtin "type.__call__" ⟨.ref C::us,kw⟩)) :=
 ⟨r.hd,by have:=r.dp;rw[atA];omega,by have:=r.un;rw[as8];omega⟩
theorem dP.depth{k:a4}{A:bu}(r:dP k A):A.depth<recursionLimit:=by have:=r.dp;omega
theorem dP.units{k:a4}{A:bu}(r:dP k A):A.units+64<cLine:=by have:=r.un;omega
def Ua:TA:=λ_ H Q=>Q [] H
def aiO(ta:TE)(j:TA):TA:=λJ H Q=>ta J H λx H1=>j J H1 λxs H2=>Q (x::xs) H2
section
variable{X:Cx}{e:bx}{es:ao bx}{te:TE}{t:TA}{pos:dg}
theorem TQ:PA X [] Ua:=λ_ _ _ _ H Q I h=>Calls.spliced_nil ⟨[],H,I,.nil,h⟩
theorem TR(ha:PE X e te)(hr:PA X es t)(a:bf (e::es) X.env=(au,cb e X.env)::bf es X.env:=by rfl):PA X (e::es) (aiO te t):=by
 intro pos aa s J H Q I h;rw[a];show wpAny _ _ (spliced ((au,cb e X.env)::cv pos (bf es X.env))) _ _ s;refine Calls.spliced_cons (bM (ha aa s J H _ I h) λu q ⟨x,f,c,B,U⟩=>?_);exact bM (hr pos aa q J f _ c U) λg s2 ⟨j,d,b,z,L⟩=>⟨x::j,d,b,.cons B z,L⟩
def ah4(t:TA):TE:=λJ H Q=>t J H λxs H1=>xs.length<=bc/\∀p,H1 p=aq->Q (.ref p) (upd H1 p (.tup xs))
def aiH(t:TA):TE:=λJ H Q=>t J H λxs H1=>xs.length<=bc/\∀p,H1 p=aq->Q (.ref p) (upd H1 p (.lst xs))
theorem apL{a}(h:PA X es t):PE X (.Tuple es a pos) (ah4 t):=by
 intro aa s J H Q I d;refine wpAny_Tuple_spliced (bM (h pos aa s J H _ I d) λc j ⟨U,L,B,r,z,q⟩=>⟨by rw[<-r.length];exact z,?_⟩);have f:L j.heap.objs.size=aq:=B.aL.fresh dC;refine⟨.ref j.heap.objs.size,upd L j.heap.objs.size (.tup U),B.laid (t':=j.toks) (λb u e=>eK _ e) dC ?_,rfl,q _ f⟩;exact⟨z,c,r,⟨_,iQ _ rfl,rfl,_,rfl⟩⟩
theorem apW(h:PA X es t):PE X (.List es pos) (aiH t):=by
 intro aa s J H Q I c;refine wpAny_List_spliced (bM (h pos aa s J H _ I c) λa j ⟨U,L,B,r,z,q⟩=>⟨by rw[<-r.length];exact z,?_⟩);have d:L j.heap.objs.size=aq:=B.aL.fresh dC;refine⟨.ref j.heap.objs.size,upd L j.heap.objs.size (.lst U),B.laid (t':=j.toks) (λb u e=>eK _ e) dC ?_,rfl,q _ d⟩;exact⟨z,a,0,r,iQ _ rfl⟩
end
abbrev Sp:=ao V->Hp->VK->XK->Prop
abbrev pZ:=ao Env->Hp->aw->XK->ar->aw->Prop
structure FH(P:bg)(w:br)(K:bj)(mg:a9->av ar)(base:bz)(A:bu)(outer:ao Env)(s:aw)(H:Hp):Prop where
 frames:A.frames=ak outer
 mod:Mod K mg base
 bs:∀b o,base.get? b=ak o->s.heap.get? b=ak o/\H b=aq
 rX:base.objs.size<=s.heap.objs.size
 pS:s.heap.FunFrames base outer
 uT:∀b∈jF outer,H b=aq
 aL:fQ P w H s.heap
 bare:AllBare s.gens
def CE(outer:ao Env)(P:bg)(w:br)(H:Hp)(s:aw)(Q:VK)(u:ar)(s':aw):Prop :=
 ∃v H',s'.os=s.os/\AllBare s'.gens/\Un (jF outer) [] H H' s.heap s'.heap/\fQ P w H' s'.heap/\RelV v u/\Q v H'
def CR(CX:pZ)(outer:ao Env)(P:bg)(w:br)(H:Hp)(s:aw)(Q:VK)(E:XK)(r:Result)(s':aw):Prop :=
 match r with
 |.ok (.ret u)=>CE outer P w H s Q u s'
 |.ok _=>ck
 |.error e=>CX outer H s E e s'
structure jR(P:bg)(w:br)(K:bj)(mg:a9->av ar)(base:bz)(CX:pZ)(k:a4)(f:ay)(fd:cy)(ps:ao a9)(sp:Sp):Prop where
 len:∀vs H Q E,sp vs H Q E->vs.length=ps.length
 run:∀(A:bu) (outer:ao Env) (s:aw) (H:Hp) (args:Args) (us:ao ar) (vs:ao V) (Q:VK) (E:XK),dP k A->FH P w K mg base A outer s H->BindsTo s fd args (ps.zip us)->Vals vs us->sp vs H Q E ->
  codeAny (bq P w) A (.call (.ref f) args) (CR CX outer P w H s Q E) s
theorem jR.imp{P:bg}{w:br}{K:bj}{mg:a9->av ar}{base:bz}{CX:pZ}{k:a4}{f:ay}{fd:cy}{ps:ao a9}{sp j:Sp}(F:jR P w K mg base CX k f fd ps sp)
  (h:∀vs H Q E,j vs H Q E->sp vs H Q E):jR P w K mg base CX k f fd ps j :=
 ⟨λvs H Q E q=>F.len vs H Q E (h _ _ _ _ q),λA outer s H args us vs Q E hr he hb hv z=>F.run A outer s H args us vs Q E hr he hb hv (h _ _ _ _ z)⟩
theorem FH.make{P:bg}{w:br}{K:bj}{mg:a9->av ar}{base:bz}{A:bu}{outer:ao Env}{s:aw}{H:Hp}(e:FH P w K mg base A outer s H)(C:ay)(us:ao ar)(kw:ao (a9×ar)) :
  FH P w K mg base (A.under (.builtin "type.__call__" ⟨.ref C::us,kw⟩)) outer s H:=⟨by first|exact e.frames|(simpa[Around.under,Code.envs,Code.isFrame,pushEnvs]using e.frames),e.mod,e.bs,e.rX,e.pS,e.uT,e.aL,e.bare⟩
section
variable{X:Cx}{aa:ao (ay×cp)}{J:St}{H:Hp}{s s':aw}
theorem Inv.yK(I:Inv X aa J H s):FH X.prog X.w X.K X.mg X.base X.A X.stack s H :=
 ⟨I.ok.frames,I.ok.mod,I.bs,nW I.ok.rX I.sz,I.stack,I.Bg,I.aL,I.bare⟩
theorem Inv.after{Q:VK}{u:ar}(I:Inv X aa J H s)(h:CE X.stack X.prog X.w H s Q u s'):EP X aa J Q u s':=by
 obtain⟨v,j,os,bare,un,aL,r,q⟩:=h;obtain⟨hh,g,d,t,Eo⟩:=s';obtain rfl:Eo=s.os:=os;exact⟨v,j,I.call (h':=hh) (g':=g) (d':=d) (t':=t) (ch:=[]) un aL bare (λb z=>b4 z (by simp)),r,q⟩
end
def aiG(C:ay)(sp:Sp)(dvs:ao V)(E:XK)(t:TA):TE:=λJ H Q=>t J H λvs H1=>∀x dx,H1 x=aq->H1 dx=aq->dx≠x ->
 sp (.ref x::(vs++dvs)) (upd (upd H1 dx (.own x)) x (.ins C dx [])) (λv H2=>v=.bQ/\Q (.ref x) H2) E
def Binds(K:bj)(fd:cy)(ps:ao a9)(ds:ao ar):Prop :=
 ∀(s:aw) (us:ao ar),K.In s.heap->(us++ds).length=ps.length->BindsTo s fd ⟨us,[]⟩ (ps.zip (us++ds))
theorem Binds.all{K:bj}{fd:cy}{ps:ao a9}(h:∀us:ao ar,us.length=ps.length->ei fd ⟨us,[]⟩=pure (ps.zip us)):Binds K fd ps []:=λs us _ hl=>by
 rw[pY]at hl ⊢;exact .of_eq (h us hl)
def Passes(CX:pZ)(X:Cx)(E:XK):Prop:=∀(aa:ao (ay×cp)) (J:St) (H:Hp) (s:aw) (e:ar) (s':aw),Inv X aa J H s->CX X.stack H s E e s'->X.xe e s'
section
variable{X:Cx}{CX:pZ}{k:a4}{f C:ay}{fd:cy}{ps:ao a9}{sp:Sp}{dvs:ao V}{ds:ao ar}{E:XK}{x m:a9}{p pos ag:dg}{e o:bx}{es:ao bx}{ta:TE}{t:TA}
structure Mk(K:bj)(C f:ay):Prop where
 makes:makesIn K C=ax
 init:b5 K (.ref C) "__init__" = ak (ak (.ref f))
 fn:isFn K (.ref f)=ax
 kp:keepIn K (.ref C)=ax
theorem amP{aa:ao (ay×cp)}{J:St}{H:Hp}{s:aw}{Q:VK}{us:ao ar}{vs:ao V}(M:Mk X.K C f)(F:jR X.prog X.w X.K X.mg X.base CX k f fd ps sp)(hr:dP (k+1) X.A)(hb:Binds X.K fd ps ds)(hd:Vals dvs ds)
  (a:Passes CX X E) (I:Inv X aa J H s) (r:Vals vs us)
  (h:∀x dx,H x=aq->H dx=aq->dx≠x->sp (.ref x::(vs++dvs)) (upd (upd H dx (.own x)) x (.ins C dx [])) (λv H2=>v=.bQ/\Q (.ref x) H2) E) :
  wpAny (bq X.prog X.w) X.A (call (.ref C) us) (EP X aa J Q) X.xe s:=by
 have B:=h (s.heap.objs.size+1) s.heap.objs.size (I.aL.fresh (AX _)) (I.aL.fresh dC) (fX (YD _));have q:=Inv.made (C:=C) I;have z:Vals (V.ref (s.heap.objs.size+1)::(vs++dvs)) (Value.ref (s.heap.objs.size+1)::(us++ds)):=.cons rfl (r.append hd);have hl:(Value.ref (s.heap.objs.size+1)::us++ds).length=ps.length:=by
  have e:=z.length;rw[F.len _ _ _ _ B]at e;exact e.symm
 refine wpAny_call (as9 (f:=f) I.gG M.makes M.init (uW.mp M.fn) (yN (F.run _ X.stack _ _ ⟨Value.ref (s.heap.objs.size+1)::us,[]⟩ (Value.ref (s.heap.objs.size+1)::(us++ds)) _ _ E (hr.make C us [])
  (q.yK.make C us []) (hb _ (Value.ref (s.heap.objs.size+1)::us) q.gG hl) z B) λr s' j=>?_))
 cases r with
 |error e=>exact a aa J _ _ e s' q j
 |ok fl =>
  cases fl with
  |ret u =>
   obtain⟨v,d,c,L,b,U⟩:=q.after j;subst b;exact⟨L,⟨V.ref (s.heap.objs.size+1),d,c,rfl,U⟩⟩
  |next=>exact False.elim j
  |brk=>exact False.elim j
  |cont=>exact False.elim j
theorem apV(M:Mk X.K C f)(F:jR X.prog X.w X.K X.mg X.base CX k f fd ps sp)(hr:dP (k+1) X.A)(B:Gl X x)(hm:X.mg x=ak (.ref C))(hb:Binds X.K fd ps ds)(hd:Vals dvs ds)(z:Passes CX X E)
  (ha:PA X (e::es) t) (L:(x==("__debug__" : a9))=au:=by decide) (he:bf (e::es) X.env=(au,cb e X.env)::bf es X.env:=by rfl) (U:(cv pos (bf es X.env)).any (·.1)=au:=by rfl) :
  PE X (.Call (.Name x p) (e::es) [] pos) (aiG C sp dvs E t):=by
 intro aa s J H Q I h;refine RP (HL I B hm ?_ L);refine callWith_K (h₀:=X.base) I.ok.mod.zY M.kp (bM (ha pos aa s J H _ I h) λb c ⟨a,d,j,r,q⟩=>⟨j.gG,?_⟩) he U;exact amP M F hr hb hd z j r q
end
structure cE(N P:ao a9)(sc:da):Prop where
 kind:sc.kind=.function
 co:sc.isCoroutine=au
 gen:sc.isGenerator=au
 nd:N.Nodup
 pre:N.take P.length=P
 par:∀x∈P,sc.names.lookup x=ak .local\/sc.names.lookup x=ak .cell
 ar1:∀y∈sc.names,y.2≠.free
theorem acL{kindOf:a9->av dh}{x:a9}:∀{binds:ao (a9×ar)} {m:a9->av ar},(∀v,(x,v)∉binds)->bindL kindOf binds m x=m x
 |[],_,_=>rfl
 |(n,v)::r,m,h=>by
  unfold bindL;rw[acL λw j=>h w (iP _ j)];split
  ·have:x≠n:=by rintro rfl;exact h v List.mem_cons_self
   simp[this]
  ·rfl
theorem acN{kindOf:a9->av dh}{x:a9}:∀{binds:ao (a9×ar)} {m:a9->av ar},(∀v,(x,v)∉binds)->bindC kindOf binds m x=m x
 |[],_,_=>rfl
 |(n,v)::r,m,h=>by
  unfold bindC;rw[acN λw j=>h w (iP _ j)];split
  ·rfl
  ·have:x≠n:=by rintro rfl;exact h v List.mem_cons_self
   simp[this]
theorem acM{kindOf:a9->av dh}{x:a9}{v:ar}:∀{P:ao a9} {vs:ao ar} {i:a4} {m:a9->av ar},P.Nodup->P[i]?=ak x->vs[i]?=ak v->kindOf x=ak .local ->
  bindL kindOf (P.zip vs) m x=ak v
 |[],_,_,_,_,h,_,_=>by simp at h
 |_::_,[],_,_,_,_,h,_=>by simp at h
 |p::P,w::vs,0,m,nd,h1,h2,j=>by
  simp at h1 h2;subst h1;subst h2;show bindL kindOf ((p,w)::P.zip vs) m p=_;unfold bindL;rw[acL λv hv=>(wZ.mp nd).1 (Ol hv).1,a7 j];simp
 |p::P,w::vs,i+1,m,nd,h1,h2,j=>by
  show bindL kindOf ((p,w)::P.zip vs) m x=_;unfold bindL;exact acM (i:=i) (wZ.mp nd).2 (by simpa using h1) (by simpa using h2) j
theorem acO{kindOf:a9->av dh}{x:a9}{v:ar}:∀{P:ao a9} {vs:ao ar} {i:a4} {m:a9->av ar},P.Nodup->P[i]?=ak x->vs[i]?=ak v->kindOf x≠ak .local ->
  bindC kindOf (P.zip vs) m x=ak v
 |[],_,_,_,_,h,_,_=>by simp at h
 |_::_,[],_,_,_,_,h,_=>by simp at h
 |p::P,w::vs,0,m,nd,h1,h2,j=>by
  simp at h1 h2;subst h1;subst h2;show bindC kindOf ((p,w)::P.zip vs) m p=_;unfold bindC;rw[acN λv hv=>(wZ.mp nd).1 (Ol hv).1,ba j];simp
 |p::P,w::vs,i+1,m,nd,h1,h2,j=>by
  show bindC kindOf ((p,w)::P.zip vs) m x=_;unfold bindC;exact acO (i:=i) (wZ.mp nd).2 (by simpa using h1) (by simpa using h2) j
noncomputable def start(N:ao a9)(vs:ao V):St:=vs.map ak++List.replicate (N.length-vs.length) aq
noncomputable def oR(CX:pZ)(P:bg)(w:br)(K:bj)(mg:a9->av ar)(base:bz)(N:ao a9)(af:a9)(scope:da)(f:ay)(j:ar)(A:bu)(outer:ao Env)(s:aw)(H:Hp)(E:XK):Cx where
 prog:=P
 w:=w
 K:=K
 mg:=mg
 base:=base
 A:=A.deeper (c7 af scope s.heap.objs.size f j)
 N:=N
 s₀:=s
 H₀:=H
 env:=c7 af scope s.heap.objs.size f j
 outer:=outer
 stack:=c7 af scope s.heap.objs.size f j::outer
 ex:=[]
 calm:=ax
 fn:=λ_=>ax
 pn:=[]
 xe:=λe s'=>wpAny (bq P w) (A.deeper (c7 af scope s.heap.objs.size f j)) (leaving (c7 af scope s.heap.objs.size f j) e) (λ_ q=>CX outer H s E e q) (λz q=>CX outer H s E z q) s'
theorem acF{j:da}{n:a4}{x:a9}(h:j.names.lookup x=ak .cell):∃c,(cellsFrom n j.names []).lookup x=ak c:=by
 have q:=cellsFrom_some j.names n [] (.inl h);exact Option.isSome_iff_exists.mp q
theorem Zd{CX:pZ}{P:bg}{w:br}{K:bj}{mg:a9->av ar}{base:bz}{N ps:ao a9}{af:a9}{scope:da}{f:ay}{L:ar}{A:bu}{outer:ao Env}{s d:aw}{H:Hp}{E:XK}{us:ao ar}{vs:ao V}
  (S:cE N ps scope) (hd:A.handled=aq) (e0:FH P w K mg base A outer s H) (hl:vs.length=ps.length) (r:Vals vs us)
  (x:InCallC s s.heap.objs.size (bindL (c7 af scope s.heap.objs.size f L).kindOf (ps.zip us) λ_=>aq) (cellsFrom (s.heap.objs.size+1) scope.names []) (bindC (c7 af scope s.heap.objs.size f L).kindOf (ps.zip us) λ_=>aq) d) :
  Inv (oR CX P w K mg base N af scope f L A outer s H E) [] (start N vs) H d:=by
 have C:ps.length<=N.length:=by have:=cz List.length S.pre;rw[xA]at this;omega
 obtain⟨h1,tk,rfl,l⟩:=x.done;have U:∀b:ay,b∉(oR CX P w K mg base N af scope f L A outer s H E).ex:=λb z=>b4 (show b∈([]:ao ay)from z) (by simp);refine⟨⟨e0.mod,S.kind,rfl,rfl,rK _,λy z c h1 h2=>?_,λy j=>?_,λy c _ h=>?_,λ_=>hd,Around.frames_deeper e0.frames,.inr ⟨rfl,rfl⟩,λb z=>b4 z (U b),e0.bs,e0.rX,λb _ _=>U b,λb z=>b4 z (U b),e0.pS,e0.uT⟩,
  rfl,e0.bare,Un.kept l,⟨_,x.toInCall.ns,λi y v h1 h2 t=>?_⟩,λy c h=>⟨_,x.cell y c h⟩,e0.aL.fresh dC,λy c h=>?_,λp B=>b4 (show p∈([]:ao (ay×cp))from B) (by simp),e0.aL.kept l,?_⟩
 ·exact name_of_addr x.apart (PySem.mem_of_lookup h1) (PySem.mem_of_lookup h2)
 ·have j:scope.names.lookup y=ak .cell\/scope.names.lookup y=ak .free:=j
  rcases j with j|j
  ·exact acF j
  ·exact b4 rfl (S.ar1 _ (PySem.mem_of_lookup j))
 ·exact Nat.le_of_lt (x.above y c (PySem.mem_of_lookup h))
 ·have hi:i<vs.length:=by
   unfold start at h2
   by_cases hi:i<vs.length
   ·exact hi
   ·rw[qS (by simpa using hi)]at h2;rw[List.getElem?_replicate]at h2;split at h2 <;> cases h2
  have ha:vs[i]?=ak v:=by
   unfold start at h2;rw[jA (by simpa using hi),jH]at h2;cases e:vs[i]? with
   |none=>rw[e]at h2;cases h2
   |some a=>rw[e]at h2;cases h2;rfl
  obtain⟨u,g,o⟩:=r.get ha;have B:ps[i]?=ak y:=by
   rw[<-S.pre,List.getElem?_take_of_lt (by omega)];exact h1
  have m:ps.Nodup:=by rw[<-S.pre];exact S.nd.sublist (QB _ _)
  refine⟨u,o,?_⟩
  rcases S.par y (jP B)with k|k
  ·exact .inl ⟨k,acM m B g k⟩
  ·obtain⟨c,e⟩:=acF (n:=s.heap.objs.size+1) k;refine .inr ⟨.inl k,c,e,?_⟩;have q:=x.cell y c e;rw[acO m B g (by show scope.names.lookup y≠_;rw[k];decide)]at q;exact q
 ·exact e0.aL.fresh (Nat.le_of_lt (x.above y c (PySem.mem_of_lookup h)))
 ·unfold start;show _=N.length;rw[fJ,jQ,aeM];omega
theorem Jp{CX:pZ}{P:bg}{w:br}{K:bj}{mg:a9->av ar}{base:bz}{k:a4}{f:ay}{name af:a9}{params:Arguments}{body:ao bw}{scope:da}{d kV doc a z ct l:ar}{g od:av ay}
  {D:a6 (av ar)} {N ps:ao a9} {sp:Sp} (m:K.lookup f=ak ⟨l,od,.func (fnOf name af params body scope d kV doc a g z ct),D⟩) (p:codeIn K z af=ax) (S:cE N ps scope)
  (len:∀vs H Q E,sp vs H Q E->vs.length=ps.length)
  (C:∀(A:bu) (outer:ao Env) (s:aw) (H:Hp) (vs:ao V) (Q:VK) (E:XK),dP k (A.deeper (c7 af scope s.heap.objs.size f z))->sp vs H Q E ->
   ∃t,pX (oR CX P w K mg base N af scope f z A outer s H E) body t/\t {nx:=λ_ H'=>Q .bQ H',rt:=Q} (start N vs) H) :
  jR P w K mg base CX (k+1) f (fnOf name af params body scope d kV doc a g z ct) ps sp:=by
 refine⟨len,λA outer s H args i vs Q E hr e0 hb r c=>?_⟩;have hl:=len _ _ _ _ c;have h:K.In s.heap:=e0.mod.zY.keeps λb o e=>(e0.bs b o e).1;have lim:s.heap.NoLimit:=e0.mod.nolimit.keeps λb o e=>(e0.bs b o e).1;have R:∀y∈ps.zip i,scope.names.lookup y.1=ak .local\/(scope.names.lookup y.1=ak .cell/\((cellsFrom (s.heap.objs.size+1) scope.names []).lookup y.1).isSome=ax):=λ⟨n,v⟩ F=>by
  rcases S.par n (Ol F).1 with q|q
  ·exact .inl q
  ·exact .inr ⟨q,cellsFrom_some _ _ _ (.inl q)⟩
 refine codeAny_call_function hr.depth (h _ _ m) rfl S.co S.gen rfl (PySem.W.codeRec_of h p) (hb _ _ _ _ ?_);refine wpAny_newFunctionEnv_cells S.kind R λenv he U x=>?_;subst he;refine⟨lim.keeps x.toInCall.keep,codeAny_func ?_⟩;obtain⟨t,G,M⟩:=C A outer s H vs Q E (hr.deeper _) c;have I:Inv (oR CX P w K mg base N af scope f z A outer s H E) [] (start N vs) H U:=Zd S hr.hd e0 hl r x;refine oB (G [] U (start N vs) H _ I M) (λfl s' B=>?_) λe s' B=>B;have fin:∀{j:St} {H':Hp} {v:V} {u:ar},Inv (oR CX P w K mg base N af scope f z A outer s H E) [] j H' s'->RelV v u->Q v H'->CE outer P w H s Q u s' :=
  λ{j H' v u} σ L q=>⟨v,H',σ.os,σ.bare,σ.base,σ.aL,L,q⟩
 cases fl with
 |ret u =>
  obtain⟨v,j,H',σ,L,q⟩:=B;exact fin σ L q
 |next =>
  obtain⟨j,H',σ,q⟩:=B;exact fin (v:=V.bQ) (u:=Value.none) σ rfl q
 |brk =>
  obtain⟨_,_,_,q⟩:=B;exact False.elim q
 |cont =>
  obtain⟨_,_,_,q⟩:=B;exact False.elim q
section
variable{X:Cx}{x:a9}{p pos:dg}{e:bx}{es:ao bx}{t:TA}{id T:cj}{r:ao V->Hp->VK->Prop}
def Ba(r:ao V->Hp->VK->Prop)(t:TA):TE:=λJ H Q=>t J H λvs H1=>r vs H1 Q
theorem Xa(a:oX X (.builtin id) r)(U:Gl X x)(hm:X.mg x=aq)(hv:c9 x=ak (.builtin id))(ha:PA X (e::es) t)(hn:x≠"__name__":=by decide)(b:(x==("__debug__" : a9))=au:=by decide)
  (he:bf (e::es) X.env=(au,cb e X.env)::bf es X.env:=by rfl) (c:(cv pos (bf es X.env)).any (·.1)=au:=by rfl):PE X (.Call (.Name x p) (e::es) [] pos) (Ba r t):=by
 intro aa s J H Q I h;refine RP (MN I U hm hv ?_ hn b);exact PyProof.Rows.callWith_builtin1 (bM (ha pos aa s J H _ I h) λq z ⟨j,f,d,B,L⟩=>a aa z J f j q Q d B L) he c
theorem Wz(a:oX X (.type T) r)(U:Gl X x)(hm:X.mg x=aq)(hv:c9 x=ak (.type T))(ha:PA X (e::es) t)(hn:x≠"__name__":=by decide)(b:(x==("__debug__" : a9))=au:=by decide)
  (he:bf (e::es) X.env=(au,cb e X.env)::bf es X.env:=by rfl) (c:(cv pos (bf es X.env)).any (·.1)=au:=by rfl):PE X (.Call (.Name x p) (e::es) [] pos) (Ba r t):=by
 intro aa s J H Q I h;refine RP (MN I U hm hv ?_ hn b);exact ad0 (bM (ha pos aa s J H _ I h) λq z ⟨j,f,d,B,L⟩=>a aa z J f j q Q d B L) he c
end
end L2
namespace HT
open PySem PyProof.Rows
section
variable{prog:bg}{w:br}{A:bu}{E:ar->aw->Prop}{s:aw}
theorem aFF{t b:ay}{vs j:ao ar}{Q:ar->aw->Prop}(g:IsTup s.heap t vs.toArray)(hb:IsTup s.heap b j.toArray)(hv:vs≠[])
  (h1:j=[]->Q (.ref t) s) (h2:j≠[]->Q (.ref s.heap.objs.size) {s with heap:=s.heap.push {cls:=.type "tuple",data:=.seq (vs++j).toArray} })
  (hsz:vs.length+j.length<=bc):wpAny (bq prog w) A (cx .Add (.ref t) (.ref b)) Q E s:=by
 obtain⟨⟨cls,c,data,sl⟩,L,a,n,hd⟩:=id g;obtain⟨⟨h,q,data2,f⟩,z,d,U,hd2⟩:=id hb;simp only at a hd d hd2;subst a hd d hd2;have e:vs.toArray++j.toArray=(vs++j).toArray:=by simp
 by_cases B:j=[]
 ·exact concat_meets ⟨_,L,rfl⟩ ⟨_,z,rfl⟩ noFill_tuple_add seq_tuple_add PySem.F.slot_tuple_add PySem.F.entry_tuple_add (PySem.F.args_tuple_add_2 _ _)
   (tuple_addW1 t b vs.toArray j.toArray n U c q sl f (by simpa using hv) (by simp[B])) ⟨L,z,h1 B⟩
 ·refine concat_meets ⟨_,L,rfl⟩ ⟨_,z,rfl⟩ noFill_tuple_add seq_tuple_add PySem.F.slot_tuple_add PySem.F.entry_tuple_add (PySem.F.args_tuple_add_2 _ _)
   (tuple_addW2 t b vs.toArray j.toArray n U c q sl f (by simpa using hv) (by simpa using B) (by rw[hW,hW];exact hsz)) ⟨L,z,?_⟩
  rw[e];exact h2 B
noncomputable def dE(n d:a4):av az->a4
 |none=>d
 |some v=>if v<0 then(v+(n:az)).toNat else min v.toNat n
theorem amE(n d:a4):dE n d aq=d:=rfl
theorem amF(n d k:a4):dE n d (ak (k:az))=min k n:=by
 show(if(k:az)<0 then((k:az)+(n:az)).toNat else min (k:az).toNat n)=min k n;rw[ba (by omega),zA]
theorem amG(n d:a4)(hd:d<=n)(o:av az):dE n d o<=n:=by
 cases o with
 |none=>exact hd
 |some v =>
  show(if v<0 then(v+(n:az)).toNat else min v.toNat n)<=n
  by_cases hv:v<0
  ·rw[a7 hv];omega
  ·rw[ba hv];exact Nat.min_le_right _ _
theorem ab8(v:az)(n d:a4):(if v<0 then max (v+(n:az)) 0 else min v (n:az))=((dE n d (ak v):a4):az):=by
 show(if v<0 then max (v+(n:az)) 0 else min v (n:az))=(((if v<0 then(v+(n:az)).toNat else min v.toNat n):a4):az)
 by_cases hv:v<0
 ·simp only[a7 hv];omega
 ·simp only[ba hv];omega
theorem aHK(lo hi:av az)(n:a4):Builtin.Slice.sliceAdjust lo hi 1 (n:az)=(((dE n 0 lo:a4):az),((dE n n hi:a4):az)):=by
 have h1:¬((1:az)<0):=by omega
 unfold Builtin.Slice.sliceAdjust;simp only[h1,gC];refine Prod.ext ?_ ?_
 ·cases lo with
  |none=>rfl
  |some v=>exact ab8 v n 0
 ·cases hi with
  |none=>rfl
  |some v=>exact ab8 v n n
theorem aoY(i j:a4):Builtin.Slice.slicePlaces (i:az) (j:az) 1=j-i:=by
 unfold Builtin.Slice.slicePlaces;have h1:(1:az)>0:=by omega
 simp only[h1,fI,Int.ediv_one];split <;> omega
theorem Uy{v:ar}{o:av az}{Q:av az->aw->Prop}(p:IsPart v o)(h:Q o s):wpAny (bq prog w) A (Builtin.Slice.slicePartIndex v) Q E s:=by
 cases p with
 |none=>exact slicePart_none h
 |int i t=>exact slicePart_int h
theorem akC{sl:ay}{q j:ar}{lo hi:av az}{n:a4}{Q:az×az×a4->aw->Prop}(U:s.heap.IsSliceOf sl q j .none)(pl:IsPart q lo)(L:IsPart j hi)
  (h:Q (((dE n 0 lo:a4):az),1,dE n n hi-dE n 0 lo) s):wpAny (bq prog w) A (Builtin.Slice.sliceApplied (.ref sl) (pure (n:az))) Q E s:=by
 obtain⟨os,B,a,z⟩:=id U;unfold Builtin.Slice.sliceApplied Builtin.Slice.sliceFields;refine aI (aI (BN B z (x:=q) rfl (aI (BN B z (x:=j) rfl (aI (BN B z (x:=.none) rfl (bC ?_)))))));refine aI (slicePart_none ?_);show wpAny _ _ (if((1:az)==0)=ax then _ else _) _ _ s;rw[ba (by decide)];refine aI (Uy pl (aI (Uy L (aI (bC ?_)))));show wpAny _ _ (match Builtin.Slice.sliceAdjust lo hi 1 (n:az)with|(lo,hi)=>pure (lo,(1:az),Builtin.Slice.slicePlaces lo hi 1)) _ _ s;rw[aHK lo hi n];show wpAny _ _ (pure (((dE n 0 lo:a4):az),(1:az),Builtin.Slice.slicePlaces ((dE n 0 lo:a4):az) ((dE n n hi:a4):az) 1)) _ _ s;rw[aoY];exact bC h
theorem ao2(xs:a6 ar)(i k:a4):((List.range k).filterMap λ(m:a4)=>xs[((i:az)+(m:az)*1).toNat]?).toArray=((xs.toList.drop i).take k).toArray:=by
 have e:(λ(m:a4)=>xs[((i:az)+(m:az)*1).toNat]?)=λm=>xs[i+m]?:=by
  funext m;have:((i:az)+(m:az)*1).toNat=i+m:=by omega
  rw[this]
 rw[e];have:=pick_run xs i k;rw[aeP]at this;have j:((λx=>xs[x]?) ∘ λx=>i+x)=λm=>xs[i+m]?:=rfl;rw[j]at this;rw[this]
theorem aA9{t sl:ay}{items:a6 ar}{a U:ar}{lo hi:av az}{Q:ar->aw->Prop}(j:IsTup s.heap t items)(b:s.heap.IsSliceOf sl a U .none)(pl:IsPart a lo)(d:IsPart U hi)
  (f:¬(dE items.size 0 lo=0/\dE items.size items.size hi=items.size))
  (h:Q (.ref s.heap.objs.size) {s with heap:=s.heap.push {cls:=.type "tuple",data:=.seq ((items.toList.drop (dE items.size 0 lo)).take (dE items.size items.size hi-dE items.size 0 lo)).toArray} })
  (hsz:items.size<=bc):wpAny (bq prog w) A (getItem (.ref t) (.ref sl)) Q E s:=by
 have z:sizeOk (.seq ((items.toList.drop (dE items.size 0 lo)).take (dE items.size items.size hi-dE items.size 0 lo)).toArray):=by
  show((items.toList.drop (dE items.size 0 lo)).take (dE items.size items.size hi-dE items.size 0 lo)).toArray.size<=bc;rw[hW,xA,QE,gO];omega
 have l:dE items.size items.size hi<=items.size:=amG _ _ dC hi;obtain⟨os,e,B,k⟩:=id b;have L:s.TypeIs (.ref sl) "slice":=⟨os,e,B⟩;unfold getItem
 try with_reducible refine sT ?_
 first|refine aI (bC ?_)|skip
 refine aI (wpAny_sequenceKey j.typeIs (by decide) ?_);refine aI (FR (name:=Str.ofString "__getitem__") j.typeIs adZ
  (sU adZ j.typeIs entry_tuple_getitem ?_ (args_tuple_getitem _ _)))
 show wpAny _ _ (Builtin.Tuple.tupleItemsOf (.ref t) >>= _) _ _ s;refine aI (tupleItemsOf_ j ?_);refine aI (wpAny_typeOf L ?_);rw[a7 (by decide)];refine aI (akC b pl d ?_);have c:¬((((dE items.size 0 lo:a4):az)==0&&(1:az)==1&&(dE items.size items.size hi-dE items.size 0 lo)==items.size)=ax):=by
  intro q;rw[lF,lF]at q;have i:((dE items.size 0 lo:a4):az)=0:=eq_of_beq q.1.1;have g:dE items.size items.size hi-dE items.size 0 lo=items.size:=eq_of_beq q.2;exact f ⟨by omega,by omega⟩
 show wpAny _ _ (if(((dE items.size 0 lo:a4):az)==0&&(1:az)==1&&(dE items.size items.size hi-dE items.size 0 lo)==items.size)=ax then _ else _) _ _ s;rw[ba c,ao2]
 first
  |exact aI (m:=Builtin.Tuple.tupleExact _) (qD (bC ⟨_,rfl,bC h⟩) z)
  |exact aI (m:=Builtin.Tuple.tupleExact _) (qD (aI (bC (bC ⟨_,rfl,bC h⟩))) z)
  |exact aI (aI (m:=Builtin.Tuple.tupleExact _) (qD (bC (bC ⟨_,rfl,bC h⟩)) z))
  |exact aI (aI (m:=Builtin.Tuple.tupleExact _) (qD (bC ⟨_,rfl,bC h⟩) z))
end
end HT
namespace L2
open PySem PySem.Spec PyProof.Rows
abbrev TO:=St->Hp->(av az->Hp->Prop)->Prop
def PO(X:Cx)(e:av bx)(t:TO):Prop :=
 ∀(aa:ao (ay×cp)) (s:aw) (J:St) (H:Hp) (Q:av az->Hp->Prop),Inv X aa J H s->t J H Q ->
  wpAny (bq X.prog X.w) X.A (evalPart e X.env) (λu s'=>∃o H',Inv X aa J H' s'/\IsPart u o/\Q o H') X.xe s
def aiD:TO:=λ_ H Q=>Q aq H
def ah9(t:TE):TO:=λJ H Q=>t J H λx H1=>∃i,x=.int i/\Q (ak i) H1
theorem intsAre_of{ns:ao az}:∀{us:ao ar},Vals (ns.map V.int) us->cw us ns:=by
 induction ns with
 |nil=>intro us r;rw[EW]at r;cases r;exact .nil
 |cons n ns ih =>
  intro us r;rw[dJ]at r;cases r with
  |cons q j =>
   obtain⟨t,e⟩:=q;subst e;exact .cons n t (ih j)
section
variable{X:Cx}{e:bx}{te:TE}{lo hi:av bx}{tl th:TO}{pos p2:dg}
theorem aoW:PO X aq aiD:=by
 intro aa s J H Q I h;rw[evalPart_none];exact bC ⟨aq,H,I,.none,h⟩
theorem aoV(h:PE X e te):PO X (ak e) (ah9 te):=by
 intro aa s J H Q I B;rw[evalPart_some];refine bM (h aa s J H _ I B) λu a ⟨x,U,L,j,z⟩=>?_;obtain⟨i,rfl,q⟩:=z;obtain⟨t,rfl⟩:=j;exact⟨ak i,U,L,.int i t,q⟩
def EN(X:Cx)(r:V->av az->av az->Hp->VK->Prop):Prop :=
 ∀(aa:ao (ay×cp)) (s:aw) (J:St) (H:Hp) (x:V) (v q j:ar) (lo hi:av az) (sl:ay) (Q:VK),Inv X aa J H s->RelV x v->s.heap.IsSliceOf sl q j .none->IsPart q lo->IsPart j hi->r x lo hi H Q ->
  ∃T id,typeLookup (.type T) "__getitem__" = pure (ak (.builtin id))/\s.TypeIs v T/\wpAny (bq X.prog X.w) X.A (getItem v (.ref sl)) (EP X aa J Q) X.xe s
theorem EN.or{r L:V->av az->av az->Hp->VK->Prop}(h:EN X r)(h':EN X L):EN X (λx lo hi H Q=>r x lo hi H Q\/L x lo hi H Q):=by
 intro aa s J H x v z j lo hi sl Q I B a U pu q
 rcases q with q|q
 ·exact h aa s J H x v z j lo hi sl Q I B a U pu q
 ·exact h' aa s J H x v z j lo hi sl Q I B a U pu q
def tSl(r:V->av az->av az->Hp->VK->Prop)(te:TE)(tl th:TO):TE:=λJ H Q=>te J H λx H1=>tl J H1 λl H2=>th J H2 λu j=>r x l u j Q
theorem apO{r:V->av az->av az->Hp->VK->Prop}(hr:EN X r)(he:PE X e te)(hl:PO X lo tl)(k:PO X hi th):PE X (.Subscript e (.Slice lo hi aq p2) pos) (tSl r te tl th):=by
 intro aa s J H Q I h;refine Subscript_ (bM (he aa s J H _ I h) λv U ⟨x,D,y,a,f⟩=>?_);refine wpAny_Slice (bM (hl aa U J D _ y f) λB s2 ⟨l,C,t,i,d⟩=>bM (k aa s2 J C _ t d) λz j ⟨u,L,p,g,c⟩=>?_);rw[evalPart_none];refine bC ?_;have o:Inv X aa J L {j with heap:=j.heap.push {cls:=.type "slice",data:=.fields #[B,z,.none]} }:=p.kept (t':=j.toks) λb ob q=>eK _ q;obtain⟨T,id,hT,m,n⟩:=hr aa {j with heap:=j.heap.push {cls:=.type "slice",data:=.fields #[B,z,.none]} } J L x v B z l u j.heap.objs.size Q o a (Heap.IsSliceOf.new ..) i g c;show wpAny (bq X.prog X.w) X.A (subscriptTail e (.Slice lo hi aq p2) v (.ref j.heap.objs.size)) (EP X aa J Q) X.xe {j with heap:=j.heap.push {cls:=.type "slice",data:=.fields #[B,z,.none]} };exact tail_any (ops:=[.ref j.heap.objs.size,v]) m hT n (by with_unfolding_all rfl)
def AN(xs:ao V)(lo hi:av az):ao V:=(xs.drop (HT.dE xs.length 0 lo)).take (HT.dE xs.length xs.length hi-HT.dE xs.length 0 lo)
theorem ab3(xs:ao V)(lo hi:av az):(AN xs lo hi).length<=xs.length:=by
 unfold AN;rw[xA,QE];omega
def amX(K:bj):V->av az->av az->Hp->VK->Prop:=λx lo hi H Q=>∃a xs,x=.ref a/\iY K H a xs /\
 ¬(HT.dE xs.length 0 lo=0/\HT.dE xs.length xs.length hi=xs.length)/\∀p,H p=aq->Q (.ref p) (upd H p (.tup (AN xs lo hi)))
theorem akD:EN X (amX X.K):=by
 intro aa s J H x v k i lo hi sl Q I L f c U h;obtain⟨a,j,rfl,d,e,q⟩:=h;cases L;obtain⟨g,r,B,z⟩:=I.tuple d;have hlen:g.toArray.size=j.length:=by rw[hW];exact r.length.symm
 refine⟨"tuple",_,adZ.lookup,B.typeIs,?_⟩;refine HT.aA9 B f c U (by rw[hlen];exact e) ?_ (by rw[hlen];exact z);rw[hlen];refine⟨.ref s.heap.objs.size,_,I.laid (t':=s.toks) (o:=.tup (AN j lo hi)) (λb ob q=>eK _ q) dC ?_,rfl,q _ (I.aL.fresh dC)⟩;exact⟨nW (ab3 j lo hi) z,_,(r.drop (HT.dE j.length 0 lo)).take (HT.dE j.length j.length hi-HT.dE j.length 0 lo),IsTup.new _ _⟩
def am2(K:bj):R2:=λx y H Q=>∃a b xs ys,x=.ref a/\y=.ref b/\iY K H a xs/\iY K H b ys/\xs≠[]/\xs.length+ys.length<=bc /\
 (ys=[]->Q (.ref a) H)/\(ys≠[]->∀p,H p=aq->Q (.ref p) (upd H p (.tup (xs++ys))))
theorem Vals.Ey{xs:ao V}{us:ao ar}(r:Vals xs us):us=[]<->xs=[]:=by
 cases r with
 |nil=>simp
 |cons _ _=>simp
theorem aqX:iF X (cx .Add) (am2 X.K):=by
 intro aa s J H x y v u Q I e d h;obtain⟨a,b,c,U,rfl,rfl,ha,hb,k,L,g,f⟩:=h;cases e;cases d;obtain⟨m,B,i,_⟩:=I.tuple ha;obtain⟨l,j,p2,_⟩:=I.tuple hb;refine HT.aFF i p2 (λz=>k (B.Ey.mp z)) (λz=>⟨.ref a,H,I,rfl,g (j.Ey.mp z)⟩) (λz=>?_) (by rw[<-B.length,<-j.length];exact L);refine⟨.ref s.heap.objs.size,_,I.laid (t':=s.toks) (o:=.tup (c++U)) (λb ob q=>eK _ q) dC ?_,rfl,f (λw=>z (j.Ey.mpr w)) _ (I.aL.fresh dC)⟩;exact⟨by rw[fJ];exact L,_,B.append j,IsTup.new _ _⟩
end
noncomputable def oJ(n:a4)(i:az):av a4:=if 0<=i then(if i<n then ak i.toNat else aq)else if -(n:az)<=i then ak (i+n).toNat else aq
def iE{α:Type}(xs:ao α)(i:az):av α:=(oJ xs.length i).bind λj=>xs[j]?
theorem Yz{n:a4}{i:az}{j:a4}(h:oJ n i=ak j):seqIndex? i n=ak j/\j<n/\-(n:az)<=i/\i<n:=by
 unfold oJ at h
 by_cases q:0<=i
 ·rw[a7 q]at h
  by_cases h1:i<n
  ·rw[a7 h1]at h;have e:i.toNat=j:=nV h;exact⟨by rw[seqIndex_of q h1,e],by omega,by omega,h1⟩
  ·rw[ba h1]at h;cases h
 ·rw[ba q]at h
  by_cases h1 : -(n:az)<=i
  ·rw[a7 h1]at h;have e:(i+n).toNat=j:=nV h;exact⟨by rw[seqIndex_neg (by omega) h1,e],by omega,h1,by omega⟩
  ·rw[ba h1]at h;cases h
theorem Mr{α:Type}{xs:ao α}{i:az}{v:α}(h:iE xs i=ak v):∃j,seqIndex? i xs.length=ak j/\xs[j]?=ak v/\j<xs.length/\-(xs.length:az)<=i/\i<xs.length:=by
 unfold iE at h;cases e:oJ xs.length i with
 |none=>rw[e]at h;cases h
 |some j =>
  rw[e]at h;obtain⟨h1,h2,z,q⟩:=Yz e;exact⟨j,h1,h,h2,z,q⟩
def ad3(b:bx):Prop:=∀o i,subscripted b au o i=operate [o,i] (getItem o i)
def yZ(X:Cx)(r:R2):Prop :=
 ∀(value slice:bx) (aa:ao (ay×cp)) (s:aw) (J:St) (H:Hp) (x y:V) (v u:ar) (Q:VK),Inv X aa J H s->RelV x v->RelV y u->r x y H Q ->
  subscripted slice au v u=operate [v,u] (getItem v u)->wpAny (bq X.prog X.w) X.A (subscriptTail value slice v u) (EP X aa J Q) X.xe s
def MtR(X:Cx)(id:cj)(r:V->ao V->Hp->VK->Prop):Prop :=
 ∀(aa:ao (ay×cp)) (s:aw) (J:St) (H:Hp) (x:V) (xs:ao V) (v:ar) (us:ao ar) (Q:VK),Inv X aa J H s->RelV x v->Vals xs us->r x xs H Q ->
  wpAny (bq X.prog X.w) X.A (call (.builtin id) (v::us)) (EP X aa J Q) X.xe s
section
variable{X:Cx}{a b:bx}{ta tb:TE}{pos:dg}
theorem yZ.or{r B:R2}(h:yZ X r)(h':yZ X B):yZ X (λx y H Q=>r x y H Q\/B x y H Q):=by
 intro value slice aa s J H x y v u Q I z j q L
 rcases q with q|q
 ·exact h value slice aa s J H x y v u Q I z j q L
 ·exact h' value slice aa s J H x y v u Q I z j q L
theorem apY{r:R2}(hr:yZ X r)(ha:PE X a ta)(hb:PE X b tb)(B:ad3 b):PE X (.Subscript a b pos) (LG r ta tb):=by
 intro aa s J H Q I h;exact Subscript_ (Ks ha hb I h λv u s2 x y U L z j q=>hr a b aa s2 J U x y v u Q L z j q (B _ _))
def Vz(K:bj):R2:=λx y H Q=>∃p xs i v,x=.ref p/\y=.int i/\fH K H p xs/\iE xs i=ak v/\Q v H
def Vx(K:bj):R2:=λx y H Q=>∃p xs i v,x=.ref p/\y=.int i/\iY K H p xs/\iE xs i=ak v/\Q v H
def Vy:R2:=λx y H Q=>∃z i c,x=.str z/\y=.int i/\z.length<=bc/\iE z.cps.toList i=ak c/\Q (.str ⟨#[c]⟩) H
theorem avY:yZ X (Vz X.K):=by
 intro value slice aa s J H x y v u Q I e d h U;obtain⟨p,m,i,z,rfl,rfl,f,he,q⟩:=h;cases e;obtain⟨t,rfl⟩:=d;obtain⟨l,r,B,n⟩:=I.list f;obtain⟨j,h1,h2,o,k,g⟩:=Mr he;obtain⟨w,b,c⟩:=r.get h2;have hl:=r.length;have hn:=MM;have fin:EP X aa J Q w s:=⟨z,H,I,c,q⟩
 by_cases a:0<=i
 ·have L:i.toNat=j:=by
   rw[seqIndex_of a g]at h1;exact nV h1
  exact item_listR B.isList a (by omega) (by rw[L];simpa using b) fin U
 ·have L:(i+(l.toArray.size:az)).toNat=j:=by
   rw[seqIndex_neg (by omega) k]at h1;rw[hW,<-hl];exact nV h1
  exact subscriptTail_builtinR (x:=w) B.isList.typeIs slot_list_getitem.lookup
   (wpAny_getItem_list_neg (Q:=λr s'=>r=w/\EP X aa J Q r s') B.isList (by omega) (by rw[hW] <;> omega) (by omega) (by rw[L];simpa using b) ⟨rfl,fin⟩) U
theorem avV:yZ X (Vx X.K):=by
 intro value slice aa s J H x y v u Q I a U h b;obtain⟨p,e,i,z,rfl,rfl,c,he,q⟩:=h;cases a;obtain⟨t,rfl⟩:=U;obtain⟨m,r,B,f⟩:=I.tuple c;obtain⟨j,h1,h2,l,k,g⟩:=Mr he;obtain⟨w,d,L⟩:=r.get h2;have hl:=r.length;have hn:=MM;have fin:EP X aa J Q w s:=⟨z,H,I,L,q⟩;exact subscriptTail_builtinR (x:=w) B.typeIs slot_tuple_getitem.lookup
  (getItem_tuple (j:=j) (Q:=λr s'=>r=w/\EP X aa J Q r s') B (by omega) (by omega) (by rw[hW,<-hl];exact h1) (by simpa using d) ⟨rfl,fin⟩) b
theorem avW:yZ X Vy:=by
 intro value slice aa s J H x y v u Q I L B h U;obtain⟨z,i,c,rfl,rfl,f,he,q⟩:=h;obtain⟨t,rfl⟩:=L;obtain⟨e,rfl⟩:=B;obtain⟨j,h1,h2,g,b,a⟩:=Mr he;have hl:z.cps.toList.length=z.length:=by simp[Str.length]
 rw[hl]at h1 b a;have hn:=MM;exact tail_any (typeIs_str s z t) slot_str_getitem.lookup (getItem_str (c:=c) (by
  have e1:decide (i < -(2 ^ 63:az))=au:=nD (by omega);have d:decide (i>=2 ^ 63)=au:=nD (by omega);rw[e1,d,Bool.or_false]) (by rw[h1];simpa using h2) ⟨.str ⟨#[c]⟩,H,I.tok _,⟨_,rfl⟩,q⟩) U
def rIx(K:bj):R2:=λx y H Q=>Vz K x y H Q\/Vx K x y H Q\/Vy x y H Q
theorem avX:yZ X (rIx X.K):=avY.or (avV.or avW)
theorem as7(q:ao ar)(n j:a4)(u:ar):Obj.mapSeq (·.setIfInBounds j u) {cls:=.type "list",data:=.seq q.toArray n}={cls:=.type "list",data:=.seq (q.set j u).toArray n}:=by
 simp[Obj.mapSeq]
theorem Inv.lst{aa:ao (ay×cp)}{J:St}{H:Hp}{s:aw}{p:ay}{xs:ao V}(I:Inv X aa J H s)(h:H p=ak (.lst xs)) :
  ∃(j:ao ar) (n:a4),Vals xs j/\s.heap.get? p=ak {cls:=.type "list",data:=.seq j.toArray n}/\xs.length<=bc:=by
 obtain⟨z,j,n,r,e⟩:=I.aL p _ h;exact⟨j,n,r,e,z⟩
theorem Inv.atE{aa:ao (ay×cp)}{J:St}{H:Hp}{s:aw}{p:ay}{xs ys:ao V}{z its':ao ar}{n j:a4}{f:cp->cp}(I:Inv X aa J H s)(h:H p=ak (.lst xs))
  (B:s.heap.get? p=ak {cls:=.type "list",data:=.seq z.toArray n}) (hf:f {cls:=.type "list",data:=.seq z.toArray n}={cls:=.type "list",data:=.seq its'.toArray j}) (r:Vals ys its') (hz:ys.length<=bc) (t:a4) :
  Inv X aa J (upd H p (.lst ys)) {s with heap:=s.heap.update p f,toks:=t}:=by
 have e:(s.heap.update p f).get? p=ak {cls:=.type "list",data:=.seq its'.toArray j}:=by
  rw[QS f B (by rw[hf] <;> rfl),hf]
 refine I.write (x:=p) (e:=p) (by rw[h];trivial) (.inl rfl) (λb u hb q=>(sJ _ _ (cQ hb)).trans q) ⟨_,e⟩ ?_;exact⟨hz,its',j,r,e⟩
def amZ:V->V->V->Hp->(Hp->Prop)->Prop:=λo i v H Q=>∃p xs k j,o=.ref p/\i=.int k/\H p=ak (.lst xs)/\oJ xs.length k=ak j/\Q (upd H p (.lst (xs.set j v)))
theorem set_list:ad4 X amZ:=by
 intro aa s J H o i v x y u Q I g l f h;obtain⟨p,e,k,j,rfl,rfl,L,w,q⟩:=h;cases g;obtain⟨t,rfl⟩:=l;obtain⟨c,n,r,z,m⟩:=I.lst L;obtain⟨h1,h2,a,U⟩:=Yz w;have hl:=r.length;have hn:=MM;have d:Inv X aa J (upd H p (.lst (e.set j v))) {s with heap:=s.heap.update p (Obj.mapSeq (·.setIfInBounds j u))} :=
  I.atE L z (as7 c n j u) (r.set f j) (by rw[xB];exact m) s.toks
 by_cases b:0<=k
 ·have B:k.toNat=j:=by
   rw[seqIndex_of b U]at h1;exact nV h1
  exact PySem.W.ki_setAt z b (by omega) (by rw[hW,<-hl];exact U) (by rw[B];exact⟨_,d,q⟩)
 ·have B:(k+(c.toArray.size:az)).toNat=j:=by
   rw[seqIndex_neg (by omega) a]at h1;rw[hW,<-hl];exact nV h1
  exact PySem.W.ki_setBack z (by omega) (by rw[hW,<-hl];exact a) (by omega) (by rw[B];exact⟨_,d,q⟩)
theorem akA(lo hi:av az)(n:a4):(cg lo hi aq n).1=((HT.dE n 0 lo:a4):az)/\(cg lo hi aq n).2.1=((HT.dE n n hi:a4):az)/\(cg lo hi aq n).2.2=1:=by
 refine⟨?_,?_,rfl⟩
 ·cases lo with
  |none=>simp[cg,HT.dE]
  |some i =>
   simp only[cg,HT.dE,Option.getD_none,show(1:az)>0 by decide,fI]
   by_cases h:i<0
   ·simp only[h,fI] <;> omega
   ·simp only[h,gC] <;> omega
 ·cases hi with
  |none=>simp[cg,HT.dE]
  |some i =>
   simp only[cg,HT.dE,Option.getD_none,show(1:az)>0 by decide,fI]
   by_cases h:i<0
   ·simp only[h,fI] <;> omega
   ·simp only[h,gC] <;> omega
theorem akB(j:ao ar)(lo hi:av az):slicePick j.toArray lo hi aq=((j.drop (HT.dE j.length 0 lo)).take (HT.dE j.length j.length hi-HT.dE j.length 0 lo)).toArray:=by
 obtain⟨h1,h2,q⟩:=akA lo hi j.toArray.size;unfold slicePick;rw[h1,h2,q];simp only[sliceRange_one,pick_run,hW] <;> rfl
def amY(K:bj):V->av az->av az->Hp->VK->Prop:=λx lo hi H Q=>∃a xs,x=.ref a/\fH K H a xs/\∀p,H p=aq->Q (.ref p) (upd H p (.lst (AN xs lo hi)))
theorem akE:EN X (amY X.K):=by
 intro aa s J H x v g f lo hi sl Q I B e U L h;obtain⟨a,j,rfl,d,q⟩:=h;cases B;obtain⟨i,r,z,c⟩:=I.list d;have hlen:=r.length;refine⟨"list",_,slot_list_getitem.lookup,z.isList.typeIs,?_⟩;refine wpAny_getItem_list_slice z.isList e U L .none (by simp) ?_ (by rw[hW] <;> omega);rw[akB,<-hlen];refine⟨.ref s.heap.objs.size,_,I.laid (t':=s.toks) (o:=.lst (AN j lo hi)) (λb ob q=>eK _ q) dC ?_,rfl,q _ (I.aL.fresh dC)⟩;exact⟨nW (ab3 j lo hi) c,_,0,(r.drop (HT.dE j.length 0 lo)).take (HT.dE j.length j.length hi-HT.dE j.length 0 lo),iQ _ rfl⟩
theorem aFQ:oX X (.builtin "len") (λxs H Q=>∃p ys,xs=[.ref p]/\(fH X.K H p ys\/iY X.K H p ys)/\Q (.int ys.length) H):=by
 intro aa s J H xs b Q I r h;obtain⟨p,ys,rfl,j,q⟩:=h;obtain⟨u,rfl,L⟩:=vals1 r;cases L;have hn:=MM
 rcases j with j|j
 ·obtain⟨a,z,B,U⟩:=I.list j;have hlen:=z.length;exact Calls.call_len_list B.isList (by simp only[hW] <;> omega) ⟨.int ys.length,H,I.tok _,⟨s.toks+1,by rw[hW,hlen]⟩,q⟩
 ·obtain⟨a,z,B,U⟩:=I.tuple j;have hlen:=z.length;exact len_tuple B (by simp only[hW] <;> omega) ⟨.int ys.length,H,I.tok _,⟨s.toks+1,by rw[hW,hlen]⟩,q⟩
theorem aFP:oX X (.type "list") (λxs H Q=>∃p ys,xs=[.ref p]/\(fH X.K H p ys\/iY X.K H p ys)/\∀l,H l=aq->Q (.ref l) (upd H l (.lst ys))):=by
 intro aa s J H xs i Q I r h;obtain⟨p,ys,rfl,U,q⟩:=h;obtain⟨u,rfl,g⟩:=vals1 r;cases g;have fin:∀(j:ao ar),Vals ys j->ys.length<=bc->∀(h':bz) (B:a4),(∀b f,s.heap.get? b=ak f->h'.get? b=ak f) ->
   h'.get? s.heap.objs.size=ak {cls:=.type "list",dict:=aq,data:=.seq j.toArray B,slots:=#[]}->EP X aa J Q (.ref s.heap.objs.size) {s with heap:=h' }:=λj z L h' B kp e =>
  ⟨.ref s.heap.objs.size,_,I.laid (t':=s.toks) kp dC (show iG X.prog X.w _ h' _ (.lst ys)from⟨L,j,B,z,e⟩),rfl,q _ (I.aL.fresh dC)⟩
 rcases U with U|U
 ·obtain⟨j,z,a,L⟩:=I.list U;have hlen:=z.length;obtain⟨o,c,d,n,hd⟩:=a.isList;exact call_list_seq p (.inl rfl) c d hd (λh' B kp e=>fin j z L h' B kp e) (by simp only[hW] <;> omega)
 ·obtain⟨j,z,a,L⟩:=I.tuple U;have hlen:=z.length;obtain⟨o,c,d,n,hd⟩:=a;exact call_list_seq p (.inr rfl) c d hd (λh' B kp e=>fin j z L h' B kp e) (by simp only[hW] <;> omega)
def Al(K:bj)(T:cj)(x:V)(H:Hp):Prop:=match x with
 |.str _=>T = "str"
 |.int _=>T = "int"
 | .ref p=>(T = "list"/\∃xs,fH K H p xs)\/(T = "tuple"/\∃o,K.lookup p=ak o/\o.cls=.type "tuple"/\o.dict=aq) \/
   (T = "dict"/\((∃kvs,H p=ak (.dK kvs))\/∃kvs,H p=ak (.dT kvs)))\/(T = "set"/\∃S n,H p=ak (.set S n))
 |_=>ck
theorem ahA{aa:ao (ay×cp)}{J:St}{H:Hp}{s:aw}{T:cj}{x:V}{v:ar}(I:Inv X aa J H s)(r:RelV x v)(ty:Al X.K T x H) :
  s.TypeIs v T/\∀a,v=.ref a->∃ob,s.heap.get? a=ak ob/\ob.dict=aq:=by
 cases x with
 |str z =>
  obtain⟨t,rfl⟩:=r;cases(show T = "str" from ty);exact⟨typeIs_str s z t,λ_ e=>nomatch e⟩
 |int i =>
  obtain⟨t,rfl⟩:=r;cases(show T = "int" from ty);exact⟨typeIs_int s i t,λ_ e=>nomatch e⟩
 |ref p =>
  cases r
  rcases ty with⟨rfl,d,U⟩|⟨rfl,o,j,b,hd⟩|⟨rfl,j⟩|⟨rfl,S,n,j⟩
  ·obtain⟨f,_,L,_⟩:=I.list U;refine⟨L.isList.typeIs,λa e=>?_⟩;cases e;obtain⟨o,n,e,c,hd,_⟩:=L;exact⟨o,e,hd⟩
  ·refine⟨⟨o,I.gG p o j,b⟩,λa e=>?_⟩;cases e;exact⟨o,I.gG _ o j,hd⟩
  ·have z:∃o,s.heap.get? p=ak o/\o.ExactDict:=by
    rcases j with⟨q,j⟩|⟨q,j⟩
    ·obtain⟨_,_,_,_,o,_,_,e,ex,_⟩:=I.aL p _ j;exact⟨o,e,ex⟩
    ·obtain⟨_,_,_,_,o,_,_,e,ex,_⟩:=I.aL p _ j;exact⟨o,e,ex⟩
   obtain⟨o,e,ex⟩:=z;refine⟨⟨o,e,ex.1⟩,λa B=>?_⟩;cases B;exact⟨o,e,ex.2.1⟩
  ·obtain⟨o,_,_,_,e,ex,_⟩:=I.aL p _ j;refine⟨⟨o,e,ex.1⟩,λa B=>?_⟩;cases B;exact⟨o,e,ex.2.1⟩
 |_=>exact False.elim ty
def tBM(K:bj)(T:cj)(r:V->ao V->Hp->VK->Prop)(to:TE)(t:TA):TE:=λJ H Q=>to J H λx H1=>Al K T x H1/\t J H1 λxs H2=>r x xs H2 Q
variable{o e:bx}{es:ao bx}{to:TE}{t:TA}{name:a9}{ag jZ:dg}{T id:cj}{r:V->ao V->Hp->VK->Prop}
theorem ap7(pa:PlainAttrs T)(slot:Slot T name id)(p:typeOf (.builtin id)=pure (.type "method_descriptor"))(hm:MtR X id r)(g:PE X o to)(ha:PA X (e::es) t)
  (B:df o name X.env (cb o X.env)=cb o X.env:=by rfl)
  (i:((cv jZ (bf (e::es) X.env)).all (λx=>!x.1)&&(backToKw jZ (dn [] X.env)).all (λx=>x.1.isSome)
   && decide ((e::es).length+([]:ao Keyword).length+(if([]:ao Keyword).isEmpty then 0 else 1)<30))=ax:=by rfl)
  (u:(ag.endLine==jZ.line)=ax:=by rfl) (f:bf (e::es) X.env=(au,cb e X.env)::bf es X.env:=by rfl) (l:(cv jZ (bf es X.env)).any (·.1)=au:=by rfl) :
  PE X (.Call (.Attribute o name ag) (e::es) [] jZ) (tBM X.K T r to t):=by
 intro aa s J H Q I h;refine wpAny_Call_method_late B i u rfl (bM (g aa s J H _ I h) λv a ⟨x,n,z,j,ty,d⟩=>?_);obtain⟨h1,h2⟩:=ahA z j ty;refine⟨T,id,pa,slot,p,h1,h2,?_⟩;have q:=ha jZ aa a J n _ z d;rw[f]at q ⊢;refine ae5 (by show(au||(cv jZ (bf es X.env)).any (·.1))=au;rw[l] <;> rfl) (ae3 ?_);exact bM q λU s2 ⟨L,m,k,b,c⟩=>hm aa s2 J m x L v U Q k j b c
end
def MtM(X:Cx)(id:cj)(r:V->ao V->Hp->VK->Prop):Prop :=
 ∀(aa:ao (ay×cp)) (s:aw) (J:St) (H:Hp) (x:V) (xs:ao V) (v:ar) (us:ao ar) (Q:VK),Inv X aa J H s->RelV x v->Vals xs us->r x xs H Q ->
  wpAny (bq X.prog X.w) X.A (call (.builtin id) (v::us)) (EP X aa J Q) X.xe s
theorem Vals.one:∀{x:V} {us:ao ar},Vals [x] us->∃u,us=[u]/\RelV x u
 |_,_,.cons r .nil=>⟨_,rfl,r⟩
section
variable{X:Cx}{aa:ao (ay×cp)}{J:St}{H:Hp}{s:aw}{l b:ay}{xs ys zs:ao V}
theorem Inv.Fl{j its':ao ar}{n:a4}{f:a6 ar->a6 ar}{t':a4}(I:Inv X aa J H s)(B:H l=ak (.lst xs))
  (e:s.heap.get? l=ak {cls:=.type "list",data:=.seq j.toArray n}) (hf:f j.toArray=its'.toArray) (hv:Vals ys its') (hz:ys.length<=bc) :
  Inv X aa J (upd H l (.lst ys)) {s with heap:=s.heap.update l (Obj.mapSeq f),toks:=t' }:=by
 have q:=PySem.IsL.update e f;rw[hf]at q;refine I.write (x:=l) (e:=l) (by rw[B];exact trivial) (.inl rfl) (λL u hb z=>(sJ s.heap (Obj.mapSeq f) (cQ hb)).trans z) ⟨_,q⟩ ?_;exact⟨hz,its',_,hv,q⟩
theorem Inv.atN{j:ao ar}{t':a4}(I:Inv X aa J H s)(hv:Vals ys j)(hz:ys.length<=bc) :
  Inv X aa J (upd H s.heap.objs.size (.lst ys)) {s with heap:=s.heap.push {cls:=.type "list",data:=.seq j.toArray},toks:=t' } :=
 I.laid (λ_ _ q=>eK _ q) dC ⟨hz,j,0,hv,iQ _ rfl⟩
theorem Inv.fresh(I:Inv X aa J H s):H s.heap.objs.size=aq:=I.aL.fresh dC
theorem Inv.HJ(I:Inv X aa J H s)(q:H l=ak (.lst xs)):xs.length<=bc/\∃(j:ao ar) (n:a4),Vals xs j/\xs.length=j.length/\s.heap.get? l=ak {cls:=.type "list",data:=.seq j.toArray n}:=by
 obtain⟨z,j,n,r,e⟩:=I.aL l _ q;exact⟨z,j,n,r,r.length,e⟩
theorem arX{n:a4}(h:n<=bc):Builtin.List.listTooLong n=au:=by
 unfold Builtin.List.listTooLong;exact nD (by omega)
end
section
variable{X:Cx}
def Wc:V->ao V->Hp->VK->Prop:=λx vs H Q=>∃l xs y,x=.ref l/\vs=[y]/\H l=ak (.lst xs)/\xs.length<bc/\Q .bQ (upd H l (.lst (xs++[y])))
theorem Xs:MtM X "list.append" Wc:=by
 intro aa s J H x c v d Q I L U h;obtain⟨l,b,y,rfl,rfl,j,f,q⟩:=h;cases L;obtain⟨u,rfl,a⟩:=U.one;obtain⟨z,B,n,r,hl,e⟩:=I.HJ j;refine call_meets F.slot_list_append ⟨_,e,rfl⟩ F.entry_list_append (F.args_list_append_2 _ _) (PySem.list_append l B.toArray n u (by rw[hW];omega)) ⟨e,?_⟩;refine⟨.bQ,_,I.Fl (its':=B++[u]) j e (by simp) (r.append (.cons a .nil)) ?_,rfl,q⟩;rw[fJ,YL];omega
def Wa:V->ao V->Hp->VK->Prop:=λx vs H Q=>∃l b xs zs,x=.ref l/\vs=[.ref b]/\H l=ak (.lst xs)/\H b=ak (.lst zs)/\xs.length+zs.length<=bc/\Q .bQ (upd H l (.lst (xs++zs)))
theorem as0:MtM X "list.extend" Wa:=by
 intro aa s J H x w v y Q I c d h;obtain⟨l,b,t,o,rfl,rfl,a,k,A,q⟩:=h;cases c;obtain⟨u,rfl,f⟩:=d.one;cases f;obtain⟨z,j,n,r,hl,e⟩:=I.HJ a;obtain⟨p,B,i,g,C,m⟩:=I.HJ k;have L:j.toArray.size+B.toArray.size<=bc:=by rw[hW,hW];omega
 have U:¬(!j.toArray.isEmpty&&Builtin.List.listTooLong (j.toArray.size+B.toArray.size))=ax:=by
  rw[arX L,Bool.and_false];exact ae8
 refine call_meets F.slot_list_extend ⟨_,e,rfl⟩ F.entry_list_extend (F.args_list_extend_2 _ _)
  (AutoSeq1.list_extend_list_list_0 l j.toArray n b B.toArray i U (by rw[hW];omega) (by omega)) ⟨e,m,?_⟩
 refine⟨.bQ,_,I.Fl (its':=j++B) a e (by simp) (r.append g) ?_,rfl,q⟩;rw[fJ];omega
def Wb:R2:=λx y H Q=>∃l b xs zs,x=.ref l/\y=.ref b/\H l=ak (.lst xs)/\H b=ak (.lst zs)/\xs.length+zs.length<=bc/\∀p,H p=aq->Q (.ref p) (upd H p (.lst (xs++zs)))
theorem aqY:iF X (cx .Add) Wb:=by
 intro aa s J H x y v u Q I U L h;obtain⟨l,b,m,i,rfl,rfl,c,d,p,q⟩:=h;cases U;cases L;obtain⟨z,B,n,r,hl,e⟩:=I.HJ c;obtain⟨k,j,o,a,t,g⟩:=I.HJ d;refine PySem.P.add_list e g ?_ (by rw[hW,hW];omega);have f:B.toArray++j.toArray=(B++j).toArray:=by simp
 rw[f];exact⟨.ref _,_,I.atN (t':=s.toks) (r.append a) (by rw[fJ];omega),rfl,q _ I.fresh⟩
end
section
variable{κ:Type} [DecidableEq κ]
noncomputable def nH(kvs:ao (κ×V))(k:κ):av V:=(kvs.find? λj=>decide (j.1=k)).map (·.2)
noncomputable def putK(kvs:ao (κ×V))(k:κ)(v:V):ao (κ×V) :=
 if(kvs.any λj=>decide (j.1=k))=ax then kvs.map (λj=>if j.1=k then(j.1,v)else j)else kvs++[(k,v)]
theorem Ab{p:κ×V}{r:ao (κ×V)}{k:κ}(e:p.1=k):nH (p::r) k=ak p.2:=by simp[nH,EX,e]
theorem Ac{p:κ×V}{r:ao (κ×V)}{k:κ}(e:¬p.1=k):nH (p::r) k=nH r k:=by simp[nH,EX,e]
theorem Sy(k:κ):∀kvs:ao (κ×V),(kvs.any λj=>decide (j.1=k))=(nH kvs k).isSome
 |[]=>rfl
 |p::r=>by
  rw[QF]
  by_cases e:p.1=k
  ·simp only[Ab e,yM e,Bool.true_or,Option.isSome_some]
  ·rw[Ac e,nD e,Bool.false_or];exact Sy k r
theorem Yo(kvs:ao (κ×V))(k:κ)(v:V):(putK kvs k v).length<=kvs.length+1:=by
 unfold putK;split
 ·rw[jQ];omega
 ·rw[fJ,eB,xC];omega
theorem nU.awC{o:av V}{u:av ar}(r:nU o u):o.isSome=u.isSome:=by
 cases o with
 |none=>cases u with
  |none=>rfl
  |some _=>exact(show ck from r).elim
 |some _=>cases u with
  |none=>exact(show ck from r).elim
  |some _=>rfl
theorem nU.getD{o:av V}{u:av ar}{d:V}{d':ar}(r:nU o u)(j:RelV d d'):RelV (o.getD d) (u.getD d'):=by
 cases o with
 |none=>cases u with
  |none=>exact j
  |some _=>exact(show ck from r).elim
 |some _=>cases u with
  |none=>exact(show ck from r).elim
  |some _=>exact r
theorem KV.val{kvs:ao (κ×V)}{vs:ao (κ×ar)}(r:KV kvs vs)(k:κ):nU (nH kvs k) (valueAt vs k):=by
 unfold KV at r
 induction r with
 |nil=>exact True.intro
 | @cons p q L j h t ih =>
  obtain⟨h1,h2⟩:=h
  by_cases e:p.1=k
  ·have B:q.1=k:=h1.symm.trans e;have b:valueAt (q::j) k=ak q.2:=by simp[valueAt,EX,B]
   rw[Ab e,b];exact h2
  ·have B:¬q.1=k:=λz=>e (h1.trans z);have b:valueAt (q::j) k=valueAt j k:=by simp[valueAt,EX,B]
   rw[Ac e,b];exact ih
theorem KV.any{kvs:ao (κ×V)}{vs:ao (κ×ar)}(r:KV kvs vs)(k:κ):(kvs.any λj=>decide (j.1=k))=vs.any λj=>decide (j.1=k):=by
 unfold KV at r
 induction r with
 |nil=>rfl
 |cons h t ih=>rw[QF,QF,ih,h.1]
theorem KV.Dy{kvs:ao (κ×V)}{vs:ao (κ×ar)}(r:KV kvs vs)(k:κ){y:V}{u:ar}(B:RelV y u) :
  KV (kvs.map λj=>if j.1=k then(j.1,y)else j) (vs.map λj=>if j.1=k then(j.1,u)else j):=by
 unfold KV at r ⊢
 induction r with
 |nil=>exact .nil
 | @cons p q U L h t ih =>
  rw[dJ,dJ];refine .cons ?_ ih;obtain⟨h1,h2⟩:=h
  by_cases e:p.1=k
  ·rw[a7 e,a7 (h1.symm.trans e)];exact⟨h1,B⟩
  ·rw[ba e,ba (λz=>e (h1.trans z))];exact⟨h1,h2⟩
theorem KV.put{kvs:ao (κ×V)}{vs:ao (κ×ar)}(r:KV kvs vs)(k:κ){y:V}{u:ar}(j:RelV y u):KV (putK kvs k y) (stored vs k u):=by
 unfold putK stored;rw[r.any k]
 by_cases e:(vs.any λq=>decide (q.1=k))=ax
 ·rw[a7 e,a7 e];exact r.Dy k j
 ·rw[ba e,ba e];exact Paired.snoc r ⟨rfl,j⟩
theorem KV.keys{kvs:ao (κ×V)}{vs:ao (κ×ar)}(r:KV kvs vs):kvs.map (·.1)=vs.map (·.1):=by
 unfold KV at r
 induction r with
 |nil=>rfl
 |cons h t ih=>rw[dJ,dJ,ih,h.1]
theorem KV.length{kvs:ao (κ×V)}{vs:ao (κ×ar)}(r:KV kvs vs):kvs.length=vs.length:=Paired.length r
end
theorem UR{P:bg}{w:br}{k:Key}{u:ar}(r:RelV (kV k) u):(mK P w).is k u=ax:=by
 cases k with
 |inl i=>obtain⟨t,e⟩:=(show ∃t,u=Value.int i t from r);subst e;exact as3 P w i t
 |inr x=>obtain⟨t,e⟩:=(show ∃t,u=Value.str x t from r);subst e;exact as2 P w x t
theorem Za{P:bg}{w:br}:∀{ks:ao Key} {us:ao ar},Vals (ks.map kV) us->ItemsAre (mK P w) ks us
 |[],_,r=>by rw[EW]at r;cases r;exact .nil
 |k::ks,_,r=>by
  rw[dJ]at r;cases r with
  |cons h t=>exact .cons (UR h) (Za t)
abbrev KT(H:Hp):ao (ao Key×V)->ao (ao Key×ay×ar)->Prop:=Paired λp q=>p.1=q.1/\H q.2.1=ak (.tup (p.1.map kV))/\RelV p.2 q.2.2
theorem KT.val{H:Hp}{kvs:ao (ao Key×V)}{xs:ao (ao Key×ay×ar)}(r:KT H kvs xs)(k:ao Key):nU (nH kvs k) ((atKey xs k).map (·.2)):=by
 induction r with
 |nil=>exact True.intro
 | @cons p q L j h t ih =>
  obtain⟨h1,_,h2⟩:=h
  by_cases e:p.1=k
  ·have B:q.1=k:=h1.symm.trans e;have b:atKey (q::j) k=ak q.2:=by simp[atKey,EX,B]
   rw[Ab e,b];exact h2
  ·have B:¬q.1=k:=λz=>e (h1.trans z);have b:atKey (q::j) k=atKey j k:=by simp[atKey,EX,B]
   rw[Ac e,b];exact ih
theorem KT.Dy{H:Hp}{kvs:ao (ao Key×V)}{xs:ao (ao Key×ay×ar)}(r:KT H kvs xs)(k:ao Key){y:V}{u:ar}(B:RelV y u) :
  KT H (kvs.map λj=>if j.1=k then(j.1,y)else j) (xs.map (putAt k u)):=by
 induction r with
 |nil=>exact .nil
 | @cons p q a U h t ih =>
  rw[dJ,dJ];refine .cons ?_ ih;obtain⟨h1,h2,L⟩:=h;unfold putAt
  by_cases e:p.1=k
  ·rw[a7 e,a7 (h1.symm.trans e)];exact⟨h1,h2,B⟩
  ·rw[ba e,ba (λz=>e (h1.trans z))];exact⟨h1,h2,L⟩
theorem KT.put{H:Hp}{kvs:ao (ao Key×V)}{xs:ao (ao Key×ay×ar)}(r:KT H kvs xs)(k:ao Key){b:ay}{y:V}{u:ar}(hb:H b=ak (.tup (k.map kV)))(j:RelV y u) :
  KT H (putK kvs k y) (storedH xs k b u):=by
 have e:(kvs.any λz=>decide (z.1=k))=(atKey xs k).isSome:=by
  rw[Sy,(r.val k).awC,Option.isSome_map]
 unfold putK storedH;rw[e]
 by_cases q:(atKey xs k).isSome=ax
 ·rw[a7 q,a7 q];exact r.Dy k j
 ·rw[ba q,ba q];exact Paired.snoc r ⟨rfl,hb,j⟩
theorem KT.keeps{H H':Hp}{kvs:ao (ao Key×V)}{xs:ao (ao Key×ay×ar)}(r:KT H kvs xs)(j:∀b ys,H b=ak (.tup ys)->H' b=ak (.tup ys)):KT H' kvs xs :=
 Paired.Fj r λ_ _ z=>⟨z.1,j _ _ z.2.1,z.2.2⟩
section
variable{P:bg}{w:br}{H:Hp}{h:bz}{a:ay}
theorem Vu{u:HO}(ok:fQ P w H h)(e:Rd H a u):iG P w H h a u:=e.ok ok
theorem OJ{kvs:ao (Key×V)}(ok:fQ P w H h)(e:Rd H a (.dK kvs)):kvs.length<=bc/\(a==dq)=au/\∃vs,KV kvs vs/\h.DictOf (mK P w) a vs :=
 show iG P w H h a (.dK kvs)from Vu ok e
theorem Kb{kvs:ao (Key×V)}(ok:fQ P w H h)(e:H a=ak (.dK kvs)):kvs.length<=bc/\(a==dq)=au/\∃vs,KV kvs vs/\h.DictOf (mK P w) a vs:=OJ ok (.inl e)
theorem UQ{ks:ao Key}(ok:fQ P w H h)(e:H a=ak (.tup (ks.map kV))):(tupleKind (mK P w)).is h ks a:=by
 obtain⟨_,q,r,o,h1,h2,n,j⟩:=(show iG P w H h a (.tup (ks.map kV))from ok a _ e);exact⟨o,q.toArray,n,h1,h2,j,by simpa using Za r⟩
theorem OH{kvs:ao (ao Key×V)}(ok:fQ P w H h)(e:Rd H a (.dT kvs)):kvs.length<=bc/\(a==dq)=au /\
  ∃xs,KT H kvs xs/\h.DictOfH (tupleKind (mK P w)) a xs:=by
 obtain⟨z,y,xs,r,o,es,c,h1,h2,b,U,L⟩:=(show iG P w H h a (.dT kvs)from Vu ok e);refine⟨z,y,xs,r,o,es,c,h1,h2,b,U,λx j=>?_,L⟩;have all:∀{l:ao (ao Key×V)} {m:ao (ao Key×ay×ar)},KT H l m->∀x∈m,(tupleKind (mK P w)).is h x.1 x.2.1:=by
  intro l m q
  induction q with
  |nil=>intro x j;exact nomatch j
  | @cons p q f d B t ih =>
   intro x j
   rcases dY.mp j with e|j
   ·subst e;exact UQ ok (by rw[<-B.1];exact B.2.1)
   ·exact ih x j
 exact all r x j
theorem aCL{kvs:ao (ao Key×V)}(ok:fQ P w H h)(e:H a=ak (.dT kvs)):kvs.length<=bc/\(a==dq)=au /\
  ∃xs,KT H kvs xs/\h.DictOfH (tupleKind (mK P w)) a xs:=OH ok (.inl e)
end
def zG(H:Hp)(a:ay)(y:V)(r:av V):Prop :=
 (∃kvs k,Rd H a (.dK kvs)/\y=kV k/\r=nH kvs k)\/∃kvs k b,Rd H a (.dT kvs)/\y=.ref b/\H b=ak (.tup (k.map kV))/\r=nH kvs k
def RI(H:Hp)(a:ay)(y v:V)(H':Hp):Prop :=
 (∃kvs k,H a=ak (.dK kvs)/\y=kV k/\kvs.length<bc/\H'=upd H a (.dK (putK kvs k v))) \/
 ∃kvs k b,H a=ak (.dT kvs)/\y=.ref b/\H b=ak (.tup (k.map kV))/\kvs.length<bc/\H'=upd H a (.dT (putK kvs k v))
theorem zG.k{H:Hp}{a:ay}{kvs:ao (Key×V)}{k:Key}(e:H a=ak (.dK kvs)):zG H a (kV k) (nH kvs k):=.inl ⟨kvs,k,.inl e,rfl,rfl⟩
theorem RI.k{H:Hp}{a:ay}{kvs:ao (Key×V)}{k:Key}{v:V}(e:H a=ak (.dK kvs))(hl:kvs.length<bc):RI H a (kV k) v (upd H a (.dK (putK kvs k v))):=.inl ⟨kvs,k,e,rfl,hl,rfl⟩
section
variable{X:Cx}{aa:ao (ay×cp)}{J:St}{H:Hp}{s:aw}{a:ay}{y v:V}{u r:ar}{o:av V}{A:bu}{E:ar->aw->Prop}
theorem Inv.big(I:Inv X aa J H s):dq<s.heap.objs.size:=by
 have h:a5<s.heap.objs.size:=(I.mod.glob.keeps I.bk).lt;exact Nat.lt_trans (by decide) h
theorem aC9{Q:ar->aw->Prop}(n:A.units+1<cLine)(I:Inv X aa J H s)(g:zG H a y (ak v))(f:RelV y u)(h:∀j s',Inv X aa J H s'->RelV v j->Q j s') :
  wpAny (bq X.prog X.w) A (getItem (.ref a) u) Q E s:=by
 rcases g with⟨B,k,e,c,l⟩|⟨B,k,b,e,c,t,l⟩
 ·subst c;obtain⟨z,hd,m,rel,d⟩:=OJ I.aL e;obtain⟨j,L,q⟩:=nU.some_of (v:=v) (o:=valueAt m k) (by rw[l];exact rel.val k);exact wpAny_getItem_of (UR f) d.mapOf L (h j _ (I.tok _) q)
 ·subst c;cases(show u=Value.ref b from f);obtain⟨z,hd,i,rel,d⟩:=OH I.aL e;obtain⟨j,L,q⟩:=nU.some_of (v:=v) (o:=(atKey i k).map (·.2)) (by rw[l];exact rel.val k);obtain⟨p,r,U⟩:=AV.mp L;refine wpAny_getItem_heap (tupleKind_room_in1 n) (UQ I.aL t) d r ?_;rw[U];exact h j _ (I.tok _) q
theorem ab0{h':bz}{t':a4}{ob:HO}(I:Inv X aa J H s)(j:PY (H a))(B:Heap.SameBut a s.heap h')(he:∃q,h'.get? a=ak q)(new:iG X.prog X.w (upd H a ob) h' a ob) :
  Inv X aa J (upd H a ob) {s with heap:=h',toks:=t' } :=
 I.write (x:=a) (e:=a) j (.inl rfl) (λb q hb z=>(B.2 b hb).trans z) he new
theorem aCN{P:bg}{w:br}{H':Hp}{h':bz}{kvs:ao (Key×V)}{vs:ao (Key×ar)}(z:kvs.length<=bc)(hd:(a==dq)=au)(rel:KV kvs vs)(dd:h'.DictOf (mK P w) a vs) :
  iG P w H' h' a (.dK kvs):=⟨z,hd,vs,rel,dd⟩
theorem aC4{H':Hp}{Q:Unit->aw->Prop}(D:A.units+1<cLine)(I:Inv X aa J H s)(g:RI H a y v H')(n:RelV y u)(o:RelV v r)(h:∀s',Inv X aa J H' s'->Q () s') :
  wpAny (bq X.prog X.w) A (setItem (.ref a) u r) Q E s:=by
 rcases g with⟨j,k,e,f,l,i⟩|⟨j,k,b,e,f,t,l,i⟩
 ·subst f i;obtain⟨z,hd,C,rel,m⟩:=Kb I.aL e;have U:C.length<=bc:=by rw[<-rel.length];exact z
  have hl:(putK j k v).length<=bc:=by have:=Yo j k v;omega
  refine wpAny_setItem_pairs (hsz:=U) (UR n) m λh' L d=>h _ ?_;have he:∃q,h'.get? a=ak q:=let ⟨q,_,_,B,_⟩:=L; ⟨q,B⟩;exact ab0 I (by rw[e];exact True.intro) d he (aCN hl hd (rel.put k o) L)
 ·subst f i;cases(show u=Value.ref b from n);obtain⟨z,hd,x,rel,m⟩:=aCL I.aL e;have U:x.length<=bc:=by rw[<-Paired.length rel];exact z
  have hl:(putK j k v).length<=bc:=by have:=Yo j k v;omega
  refine wpAny_setItem_heap (hsz:=U) (tupleKind_room_in1 D) (UQ I.aL t) m λh' L d=>h _ ?_;obtain⟨q,es,M,B,h2,K,G,_,F⟩:=L;refine ab0 I (by rw[e];exact True.intro) d ⟨q,B⟩ ⟨hl,hd,_,(rel.put k t o).keeps λc N p=>?_,q,es,M,B,h2,K,G,F⟩;rw[bX (ME p e (λz=>nomatch z))];exact p
end
def Nt(i:bx):Prop:=∀ov j,subscripted i au ov j=operate [ov,j] (getItem ov j)
theorem ajT{prog:bg}{w:br}{A:bu}{E:ar->aw->Prop}{s:aw}{env:Env}{value slice:bx}{pos:dg}{T id:cj}{Q:ar->aw->Prop}
  (hl:typeLookup (.type T) "__getitem__" = pure (ak (.builtin id))) (L:Nt slice)
  (h:wpAny (bq prog w) A (cb value env) (λo s₁=>wpAny (bq prog w) A (cb slice env) (λi s₂=>s₂.TypeIs o T/\wpAny (bq prog w) A (getItem o i) Q E s₂) E s₁) E s) :
  wpAny (bq prog w) A (cb (.Subscript value slice pos) env) Q E s:=by
 refine Subscript_ (oB h (λo s₁ B=>oB B (λi s₂ j=>?_) λ_ _ x=>x) λ_ _ x=>x);obtain⟨hT,j⟩:=j;unfold subscriptTail;refine aI ?_;rw[getitemInPython_of_ne hT.not_modules];refine aI (wpAny_specialOf hT hl ?_);have fin:wpAny (bq prog w) A (subscripted slice au o i) (λr q=>wpAny (bq prog w) A (letTemporaryGo value o r >>= λ_=>pure r) Q E q) E s₂:=by
  rw[L o i];exact wpAny_operating (oB j (λr q z=>aI (wpAny_letTemporaryGo (bC z))) λ_ _ x=>x)
 first
  |exact bC (aI fin)
  |exact aI (bC (aI fin))
  |exact aI fin
theorem aCQ{X:Cx}{aa:ao (ay×cp)}{J:St}{H:Hp}{s:aw}{a:ay}{y:V}{o:av V}(I:Inv X aa J H s)(g:zG H a y o):s.TypeIs (.ref a) "dict":=by
 rcases g with⟨j,k,e,_,_⟩|⟨j,k,b,e,_,_,_⟩
 ·obtain⟨_,_,B,_,q⟩:=OJ I.aL e;exact q.typeIs
 ·obtain⟨_,_,z,_,q⟩:=OH I.aL e;exact q.typeIs
def aiN(td ty:TE):TE:=λJ H Q=>td J H λx H1=>ty J H1 λy H2=>∃a v,x=.ref a/\zG H2 a y (ak v)/\Q v H2
def amI(td ty tv:TE):TS:=λD J H=>tv J H λv H1=>td J H1 λx H2=>ty J H2 λy q=>∃a j,x=.ref a/\RI q a y v j/\D.nx J j
section
variable{X:Cx}{o i e value:bx}{pos pos' ahP:dg}{td ty tv:TE}
theorem ap3(c:X.A.units+1<cLine)(e:PE X o td)(hi:PE X i ty)(d:Nt i):PE X (.Subscript o i pos) (aiN td ty):=by
 intro aa s J H Q I h;refine ajT PySem.F.slot_dict_getitem.lookup d (bM (e aa s J H _ I h) λu z ⟨x,m,k,L,b⟩=>bM (hi aa z J m _ k b) λr s2 zz=>?_);obtain⟨y,l,j,B,a,v,ex,g,U⟩:=zz;subst ex;obtain rfl:u=Value.ref a:=L;exact⟨aCQ j g,aC9 c j g B λn p f q=>⟨v,l,f,q,U⟩⟩
theorem aoP(c:X.A.units+1<cLine)(e:PE X o td)(hi:PE X i ty)(hv:PE X value tv)(d:e4 value (ak (.Subscript o i pos')) pos.line X.env=pure au) :
  PS X (.Assign [.Subscript o i pos'] value pos) (amI td ty tv):=by
 intro aa s J H D I h;refine wpAny_Assign_Subscript (bM (hv aa s J H _ I h) λr j ⟨v,t,m,B,b⟩=>bM (e aa j J t _ m b) λu s2 ⟨x,p,l,z,U⟩=>bM (hi aa s2 J p _ l U) λE C zz=>?_) d;obtain⟨y,F,k,q,a,n,ex,g,L⟩:=zz;subst ex;obtain rfl:u=Value.ref a:=z;exact aC4 c k g q B λw f=>⟨J,n,f,L⟩
end
theorem aCO{P:bg}{w:br}{H:Hp}(h:bz)(hb:dq<h.objs.size):iG P w H (h.push {cls:=.type "dict",data:=.dict #[]}) h.objs.size (.dK []) :=
 ⟨AW _,wO.mpr (cQ (fX hb)),[],.nil,Heap.DictOf.new h⟩
def aiL:TE:=λ_ H Q=>∀p,H p=aq->Q (.ref p) (upd H p (.dK []))
section
variable{X:Cx}{pos:dg}
theorem ap1:PE X (.Dict [] [] pos) aiL:=λaa s J H Q I h =>
 wpAny_Dict_empty ⟨.ref s.heap.objs.size,_,I.laid (a:=s.heap.objs.size) (o:=.dK []) (t':=s.toks) (λ_ _ q=>eK _ q) dC (aCO s.heap I.big),rfl,h _ (I.aL.fresh dC)⟩
end
structure M2(X:Cx)(o:bx)(m:a9)(ag:dg)(e f:bx)(jZ:dg):Prop where
 base:df o m X.env (cb o X.env)=cb o X.env
 few:((cv jZ (bf [e,f] X.env)).all (λx=>!x.1)&&(backToKw jZ (dn [] X.env)).all (λx=>x.1.isSome)
  && decide (([e,f]:ao bx).length+([]:ao Keyword).length+(if([]:ao Keyword).isEmpty then 0 else 1)<30))=ax
 line:(ag.endLine==jZ.line)=ax
 trees:cv jZ (bf [e,f] X.env)=[(au,cb e X.env),(au,cb f X.env)]
def IsD(H:Hp)(a:ay):Prop:=(∃kvs,Rd H a (.dK kvs))\/∃kvs,Rd H a (.dT kvs)
theorem Zb{X:Cx}{aa:ao (ay×cp)}{J:St}{H:Hp}{s:aw}{a:ay}(I:Inv X aa J H s)(d:IsD H a) :
  s.TypeIs (.ref a) "dict"/\(∀b,Value.ref a=.ref b->∃ob,s.heap.get? b=ak ob/\ob.dict=aq)/\(a==dq)=au:=by
 rcases d with⟨z,e⟩|⟨z,e⟩
 ·obtain⟨_,hd,L,_,j⟩:=OJ I.aL e;refine⟨j.typeIs,λb q=>?_,hd⟩;cases q;obtain⟨ob,_,_,h1,h2,_⟩:=j;exact⟨ob,h1,h2.2.1⟩
 ·obtain⟨_,hd,B,_,j⟩:=OH I.aL e;refine⟨j.typeIs,λb q=>?_,hd⟩;cases q;obtain⟨ob,_,_,h1,h2,_⟩:=j;exact⟨ob,h1,h2.2.1⟩
section
variable{X:Cx}{aa:ao (ay×cp)}{J:St}{H:Hp}{s:aw}{a:ay}{y d:V}{u r:ar}{o:av V}{A:bu}{E:ar->aw->Prop}
theorem aDA{Q:ar->aw->Prop}(i:A.units+1<cLine)(I:Inv X aa J H s)(g:zG H a y o)(U:RelV y u)(c:RelV d r)(h:∀L s',Inv X aa J H s'->RelV (o.getD d) L->Q L s') :
  wpAny (bq X.prog X.w) A (call (.builtin "dict.get") [.ref a,u,r]) Q E s:=by
 rcases g with⟨q,k,e,B,l⟩|⟨q,k,b,e,B,m,l⟩
 ·subst B;obtain⟨z,hd,n,rel,j⟩:=OJ I.aL e;refine call_meetsIn PySem.F.slot_dict_get j.typeIs PySem.F.entry_dict_get (PySem.F.args_dict_get_3 _ _ _) (meets_dict_get_default (mK X.prog X.w) a (UR U) hd r) ⟨_,j.mapOf,h _ _ (I.tok _) ?_⟩;rw[l];exact(rel.val k).getD c
 ·subst B;cases(show u=Value.ref b from U);obtain⟨z,hd,f,rel,j⟩:=OH I.aL e;refine call_meetsIn PySem.F.slot_dict_get j.typeIs PySem.F.entry_dict_get (PySem.F.args_dict_get_3 _ _ _) (meetsH_dict_get_default (tupleKind (mK X.prog X.w)) a b hd r) ⟨tupleKind_room_in1 i,k,f,UQ I.aL m,j,h _ _ (I.tok _) ?_⟩;rw[l];exact(rel.val k).getD c
end
def aiM(td ty tx:TE):TE:=λJ H Q=>td J H λx H1=>∃a,x=.ref a/\IsD H1 a/\ty J H1 λy H2=>tx J H2 λz j=>∃o,zG j a y o/\Q (o.getD z) j
section
variable{X:Cx}{o e f:bx}{ag jZ:dg}{td ty tx:TE}
theorem ap2(p:X.A.units+1<cLine)(r:PE X o td)(he:PE X e ty)(t:PE X f tx)(m:M2 X o "get" ag e f jZ):PE X (.Call (.Attribute o "get" ag) [e,f] [] jZ) (aiM td ty tx):=by
 intro aa s J H Q I h;refine wpAny_Call_method m.base m.few m.line PySem.F.plainAttrs_dict PySem.F.slot_dict_get PySem.F.type_dict_get (bM (r aa s J H _ I h) λu U zz=>?_);obtain⟨x,G,j,i,a,ex,d,n⟩:=zz;subst ex;obtain rfl:u=Value.ref a:=i;obtain⟨L,B,_⟩:=Zb j d;refine⟨L,B,?_⟩;rw[m.trees];refine ae5 rfl (ae3 (Calls.spliced_cons (bM (he aa U J G _ j n) λR s2 ⟨y,E,C,c,l⟩ =>
  Calls.spliced_cons (bM (t aa s2 J E _ C l) λS N ⟨z,D,w,b,P,g,k⟩=>Calls.spliced_nil ?_))))
 exact aDA p w g c b λK M v q=>⟨_,D,v,q,k⟩
end
end L2
namespace Att
open PySem PySem.W PySem.Calls PyProof.Rows
theorem awF{P:Params}{h:bz}:∀(ns:ao az) (vs:ao ar),WellAll P h vs (ns.map WData.int)->cw vs ns:=by
 intro ns
 induction ns with
 |nil =>
  intro vs w;rw[EW]at w;cases w;exact .nil
 |cons n ns ih =>
  intro vs w;rw[dJ]at w;cases w with
  |cons a b =>
   cases a;exact .cons _ _ (ih _ b)
theorem akZ{l:OpenLaw}{n:a4}(hn:l.most=ak n){P:Params}{h:bz}{args:ao WData}{vals:ao ar}
  (L:l.row.toRowW.claim.pre args=ax) (k:WellAll P h vals args) :
  ∃a vs ns,vals=[Value.ref a]/\args=[WData.list (ns.map WData.int)]/\h.get? a=ak {cls:=.type "list",data:=.seq vs.toArray}/\cw vs ns/\ns.length<=n:=by
 have i:WShape.hasAll [] args [.list .int]=ax:=(pre_splitW L).1;have B:l.pre.holds [] {args:=args}=ax:=(pre_splitW L).2;obtain⟨d,r,rfl,h1,h2⟩:=hasAllW_cons i;obtain rfl:=hasAllW_nil h2;obtain⟨m,rfl,g⟩:=hasW_list h1;obtain⟨ns,rfl⟩:=items_int g;have hlen:ns.length<=n:=by
  unfold OpenLaw.pre at B;have z:(WTm.not (.lt (.lit (.int (n:az))) (.len (.arg 0)))).holds [] {args:=[.list (ns.map .int)]}=ax:=by
   have z:=(holds_andW B).1;rw[hn]at z;exact z
  have j:=condW_of z (w_not (w_lt w_lit (w_len_list (w_arg rfl))));rw[jQ]at j;refine Nu λq=>?_;have e:(n:az)<((ns.length:a4):az):=by omega
  first
   |(rw[yM e]at j;exact b4 j (by decide))
   |(simp at j;omega)
 cases k with
 |cons b U =>
  cases U;cases b with
  |list f c=>exact⟨_,_,ns,rfl,rfl,f,awF ns _ c,hlen⟩
theorem aoT(l:OpenLaw)(args:ao WData):l.row.toRowW.claim.post args (.bool ax) args=ax :=
 postW_of (r:=l.row.toRowW) (X:=(ax==ax))
  (show WShape.has [] (.bool ax) .bool=ax by first|rfl|decide|simp[WShape.has,WShape.arms,WShape.armsAll])
  (show(WTm.eq .res (.lit (.bool ax))).value [] {args:=args,res:=ak (.bool ax),after:=args}=ak (.bool (ax==ax))from w_eq_bool (w_res rfl) w_lit) rfl
theorem aHD{l:OpenLaw}{n:a4}{q:bg}{loose:ao a9}{XP:(a9->av ar)->bz->Prop}{YP:br->bz->Prop}{d:DefRec}
  (hn:l.most=ak n) (m:d.params.defaults=[])
  (call:∀(w:br) (s₀ s₁:aw) (mg mb:a9->av ar) (fa:ay) (o:cp) (z j doc:ar) (a:ay) (vs:ao ar) (ns:ao az),
   Ground q loose [] XP w s₀ mg mb s₁.heap->YP w s₁.heap ->
   s₁.heap.get? fa=ak o->o.data=.func (docDef d.name d.params d.body d.scope z j doc)->s₁.heap.CodeRec j d.name->mg d.name=ak (.ref fa) ->
   s₁.heap.get? a=ak {cls:=.type "list",data:=.seq vs.toArray}->cw vs ns->ns.length<=n->s₁.gens=#[] ->
   codeAny (bq l.prog w) callerA (.call (.ref fa) ⟨[.ref a],[]⟩) (λr s'=>r=.ok (.ret (.bool ax))/\OldK s₁.heap s'.heap/\s'.os=s₁.os/\AllBare s'.gens) s₁) :
  WalkO q loose XP YP l.row.toRowW d [] (λf vs=>PySem.call f vs):=by
 intro w s₀ s₁ mg mb G ρ fa o z j doc i kV c hd L B p e args vals x u k U s v;obtain rfl:i=.none:=Dflts.none B m;obtain rfl:kV=.none:=Dflts.noKw B;obtain⟨a,vs,ns,rfl,rfl,t,hints,hlen⟩:=akZ hn u s;refine enter_call (yN (call w s₀ s₁ mg mb fa o z j doc a vs ns G ρ c (fd_plain hd) L p t hints hlen e) λr s' b=>?_);obtain⟨rfl,h2,h,g⟩:=b;exact⟨.inl ⟨.bool ax,.bool ax,[],rfl,λ_=>rfl,.bool ax,aoT l _,λ_=>⟨List.Pairwise.nil,λ_ hm=>(nomatch hm)⟩⟩,h2,h,g⟩
section
variable{prog:bg}{w:br}{A:bu}{E:ar->aw->Prop}{s:aw}{K:bj}
noncomputable def ledger(h:bz)(L d:ay):ao (ay×cp):=(List.range h.objs.size).filterMap λa=>if a=L\/a=d then aq else(h.get? a).map λo=>(a,o)
end
end Att
namespace L2
open PySem PySem.Spec PyProof.Rows
theorem RV:∀{vs:ao ar} {ns:ao az},cw vs ns->Vals (ns.map V.int) vs
 |_,_,.nil => .nil
 |_,_,.cons n t h => .cons ⟨t,rfl⟩ (RV h)
def Nq(H:Hp):Prop:=∀b,H b=aq\/∃o xs,H b=ak (.iC o (.lst xs))
theorem at1{P:bg}{w:br}{K:bj}{mg mb:a9->av ar}{CX:pZ}{k:a4}{fa a:ay}{fd:cy}{x:a9}{sp:Sp}{s₁:aw}{vs:ao ar}{ns:ao az}
  (D:K.In s₁.heap) (E:s₁.heap.Ns a5 mg) (hb:s₁.heap.Ns builtinsNs mb) (g:∀x:a9,x≠"__name__"->mb x=c9 x) (p:s₁.heap.NoLimit) (R:s₁.gens=#[])
  (ha:s₁.heap.get? a=ak {cls:=.type "list",data:=.seq vs.toArray}) (hi:cw vs ns) (hl:ns.length<=bc) (hr:dP k callerA)
  (F:∀base:bz,K.In base->base.Ns a5 mg->jR P w K mg base CX k fa fd [x] sp) (l:∀(s:aw) (u:ar),BindsTo s fd ⟨[u],[]⟩ [(x,u)])
  (Q:∀H:Hp,Nq H->fH K H a (ns.map V.int)->sp [.ref a] H (λv _=>v=.bl ax) λ_ _ _=>ck)
  (Iv:∀H e s',CX [] H s₁ (λ_ _ _=>ck) e s'->ck) :
  codeAny (bq P w) callerA (.call (.ref fa) ⟨[.ref a],[]⟩) (λr s'=>r=.ok (.ret (.bool ax))/\OldK s₁.heap s'.heap/\s'.os=s₁.os/\AllBare s'.gens) s₁:=by
 have y:=RV hi;have t:=hi.length;have core:∀H:Hp,Nq H->fH K H a (ns.map V.int)->fQ P w H s₁.heap->(∀b,H b≠aq->b=a)->(H a≠aq->K.lookup a=aq) ->
   codeAny (bq P w) callerA (.call (.ref fa) ⟨[.ref a],[]⟩) (λr s'=>r=.ok (.ret (.bool ax))/\OldK s₁.heap s'.heap/\s'.os=s₁.os/\AllBare s'.gens) s₁:=by
  intro H A hS aL C T;have U:∀{b:ay} {o:cp},s₁.heap.get? b=ak o->H b=aq->(yB s₁.heap H).get? b=ak o:=λe n=>ayC e n;have X:∀{b:ay} {o:cp} {es:a6 DictEntry} {L:a4},s₁.heap.get? b=ak o->o.data=.dict es L->H b=aq:=λ{b o es L} e d=>by
   cases q:H b with
   |none=>rfl
   |some u =>
    have i:b=a:=C b (by rw[q];simp);subst i;rw[ha]at e;cases e;have d':Data.seq vs.toArray _=Data.dict es L:=d;cases d'
  have c:∀{b:ay} {m:a9->av ar},s₁.heap.Ns b m->(yB s₁.heap H).Ns b m:=λ{b m} ⟨o,es,L,e,d,r⟩=>⟨o,es,L,U e (X e d),d,r⟩
  have B:K.In (yB s₁.heap H):=λb o e=>U (D b o e) (by
   cases q:H b with
   |none=>rfl
   |some u =>
    have i:b=a:=C b (by rw[q];simp);subst i;rw[T (by rw[q];simp)]at e;cases e)
  have S:Mod K mg (yB s₁.heap H):=⟨B,c E,⟨mb,c hb,g⟩,let ⟨N,h1,h2⟩:=p; ⟨N,c h1,h2⟩⟩;have e0:FH P w K mg (yB s₁.heap H) callerA [] s₁ H:=⟨rfl,S,λb o e=>arC e,Nat.le_of_eq (ayB _ _),trivial,λb hb=>b4 (show b∈([]:ao ay)from hb) (by simp),aL,.of_eq R⟩;refine yN ((F _ B (c E)).run callerA [] s₁ H ⟨[.ref a],[]⟩ [.ref a] [.ref a] _ _ hr e0 (l s₁ (.ref a)) (.cons rfl .nil) (Q H A hS)) λr s' h=>?_;cases r with
  |error e=>exact(Iv H e s' h).elim
  |ok fl =>
   cases fl with
   |next=>exact False.elim h
   |brk=>exact False.elim h
   |cont=>exact False.elim h
   |ret u =>
    obtain⟨v,H',os,bare,un,Hf,I,q⟩:=h;have M:v=.bl ax:=q;subst M;obtain rfl:u=Value.bool ax:=I;refine⟨rfl,OldK.of_keep λb o e=>?_,os,bare⟩;cases q:H b with
    |none=>exact un.keep b o e q (by intro z;exact b4 (show b∈([]:ao ay)from z) (by simp)) (by simp)
    |some u =>
     rcases A b with z|⟨ob,xs,z⟩
     ·rw[q]at z;cases z
     ·have G:=un.nQ b ob _ z;obtain⟨e1,_⟩:=aL b _ z;obtain⟨W,_⟩:=Hf b _ G;rw[e]at e1;cases e1;exact W
 cases f:K.lookup a with
 |some o =>
  have e:=D a o f;rw[ha]at e;cases e;refine core (λ_=>aq) (λ_ => .inl rfl) (.inr ⟨_,vs.toArray,_,f,rfl,rfl,rfl,by rw[hW,t];exact hl,by simpa using y⟩) (λb u z=>by have j:(aq:av HO)=ak u:=z;cases j) (λb z=>b4 rfl z) λz=>b4 rfl z
 |none =>
  refine core (λb=>if b=a then ak (.iC {cls:=.type "list",data:=.seq vs.toArray} (.lst (ns.map V.int)))else aq) (λb=>?_) (.inl (.inr ⟨{cls:=.type "list",data:=.seq vs.toArray},a7 rfl⟩)) (λb u z=>?_) (λb z=>?_) λ_=>f
  ·by_cases hb:b=a
   ·exact .inr ⟨_,_,a7 hb⟩
   ·exact .inl (ba hb)
  ·by_cases hb:b=a
   ·have j:=(a7 hb).symm.trans z;cases j;subst hb;exact⟨ha,by rw[jQ];exact hl,vs,_,y,ha⟩
   ·have j:=(ba hb).symm.trans z;cases j
  ·by_cases hb:b=a
   ·exact hb
   ·exact b4 (ba hb) z
theorem af7{l:OpenLaw}{n k:a4}{q:bg}{loose:ao a9}{XP:(a9->av ar)->bz->Prop}{YP:br->bz->Prop}{d:DefRec}{K:Params->bj}{CX:br->pZ}{sp:br->Sp}{x:a9}
  (hn:l.most=ak n) (z:n<=bc) (m:d.params.defaults=[]) (hr:dP k callerA)
  (U:∀(w:br) (h:bz),YP w h->(K w.params).In h)
  (F:∀(w:br) (mg:a9->av ar) (fa:ay) (h:bz),(K w.params).In h->h.Ns a5 mg->mg d.name=ak (.ref fa) ->
   ∃fd:cy,(∀(s:aw) (u:ar),BindsTo s fd ⟨[u],[]⟩ [(x,u)]) /\
    ∀base:bz,(K w.params).In base->base.Ns a5 mg->jR l.prog w (K w.params) mg base (CX w) k fa fd [x] (sp w))
  (B:∀(w:br) (H:Hp) (a:ay) (ns:ao az),ns.length<=n->Nq H->fH (K w.params) H a (ns.map V.int)->sp w [.ref a] H (λv _=>v=.bl ax) λ_ _ _=>ck)
  (r:∀(w:br) (H:Hp) (s:aw) (e:ar) (s':aw),CX w [] H s (λ_ _ _=>ck) e s'->ck) :
  PySem.W.WalkO q loose XP YP l.row.toRowW d [] (λf vs=>PySem.call f vs):=by
 refine Att.aHD hn m λw s₀ s₁ mg mb fa o y D doc a vs ns G ρ C hd A p t hints hlen L=>?_;have j:=U w _ ρ;obtain⟨fd,hb,i⟩:=F w mg fa _ j G.T.g p;exact at1 j G.T.g G.T.b G.T.builtins G.T.nolimit L t hints (nW hlen z) hr i hb (λH c hS=>B w H a ns hlen c hS) λH e s'=>r w H s₁ e s'
noncomputable def inClass(s:bw)(j:a4):bw:=match s with
 |.ClassDef _ _ _ body _ _ _ _ _ _ _=>body.getD j (.Pass ⟨0,0,0,0⟩)
 |_ => .Pass ⟨0,0,0,0⟩
noncomputable def lL(s:bw):Arguments:=match s with
 |.FunctionDef _ a _ _ _ _ _ _ _ _=>a
 |_=>{posonlyargs:=[],args:=[],vararg:=aq,kwonlyargs:=[],kw_defaults:=[],kwarg:=aq,defaults:=[]}
noncomputable def fV(s:bw):ao bw:=match s with
 |.FunctionDef _ _ b _ _ _ _ _ _ _=>b
 |_=>[]
noncomputable def bB(s:bw):da:=match s with
 |.FunctionDef _ _ _ _ _ _ j _ _ _=>j
 |_=>{kind:=.function,names:=[],isGenerator:=au,isCoroutine:=au}
abbrev zH:pZ:=λ_ _ _ _ _ _=>ck
abbrev E0:XK:=λ_ _ _=>ck
theorem aqD{X:Cx}:Passes zH X E0:=λ_ _ _ _ _ _ _ h=>h.elim
structure tQ(K:bj)(x af:a9)(st:bw)(f:ay)(fd:cy):Prop where
 ex:∃(oc:ar) (od:av ay) (kV doc pm:ar) (an:av ay) (aZ ct:ar) (jL:a6 (av ar)),
  fd=fnOf x af (lL st) (fV st) (bB st) .none kV doc pm an aZ ct/\K.lookup f=ak ⟨oc,od,.func fd,jL⟩/\codeIn K aZ af=ax
 kp:keepIn K (.ref f)=ax
section
variable{P:bg}{w:br}{K:bj}{mg:a9->av ar}{base:bz}
theorem tQ.binds{x af:a9}{st:bw}{f:ay}{fd:cy}{ps:ao a9}(F:tQ K x af st f fd)
  (h:∀(kV doc pm:ar) (an:av ay) (j ct:ar) (us:ao ar),us.length=ps.length->ei (fnOf x af (lL st) (fV st) (bB st) .none kV doc pm an j ct) ⟨us,[]⟩=pure (ps.zip us)):Binds K fd ps []:=by
 obtain⟨z,q,kV,doc,pm,an,j,ct,U,rfl,B,L⟩:=F.ex;exact .all (h kV doc pm an j ct)
theorem OA{x af:a9}{st:bw}{f:ay}{B:ar}{od z:av ay}{L:a6 (av ar)}{kV doc q j ct:ar}(l:K.lookup f=ak ⟨B,od,.func (fnOf x af (lL st) (fV st) (bB st) .none kV doc q z j ct),L⟩)
  (c:codeIn K j af=ax) (k:keepIn K (.ref f)=ax):tQ K x af st f (fnOf x af (lL st) (fV st) (bB st) .none kV doc q z j ct):=⟨⟨B,od,kV,doc,q,z,j,ct,L,rfl,l,c⟩,k⟩
end
def nT(H H':Hp):Prop:=∀b o,H b=ak o->H' b=ak o
theorem nT.refl(H:Hp):nT H H:=λ_ _ h=>h
theorem nT.trans{H H1 H2:Hp}(a:nT H H1)(b:nT H1 H2):nT H H2:=λc o h=>b c o (a c o h)
theorem nT.seq{K:bj}{H H':Hp}{a:ay}{xs:ao V}(e:nT H H')(h:fH K H a xs):fH K H' a xs:=by
 rcases h with(h|⟨o,h⟩)|h
 ·exact .inl (.inl (e _ _ h))
 ·exact .inl (.inr ⟨o,e _ _ h⟩)
 ·exact .inr h
theorem Kk(env:Env):∀(names:ao (a9×dh)) (cs:ao (a9×ay)),(∀y∈names,y.2=.free->∃c,env.cells.lookup y.1=ak c) ->
  ∃cl,(forIn names cs (λ(x:a9×dh) (cs:ao (a9×ay))=>(match x with|(name,kind)=>if(kind==NameKind.free)=ax then(do let c<-cellOf env name;pure (ForInStep.yield ((name,c)::cs)))else pure (ForInStep.yield cs))):Sem (ao (a9×ay)))=pure cl /\
   (∀x c,cl.lookup x=ak c->cs.lookup x=ak c\/env.cells.lookup x=ak c)/\(∀y∈names,y.2=.free->∃c,cl.lookup y.1=ak c)/\(∀x c,cs.lookup x=ak c->∃c',cl.lookup x=ak c')
 |[],cs,_=>⟨cs,rfl,λ_ _ h => .inl h,λ_ h=>(nomatch h),λ_ c h=>⟨c,h⟩⟩
 |(n,k)::r,cs,h=>by
  by_cases a:k=.free
  ·subst a;obtain⟨c,b⟩:=h (n,.free) vU rfl;obtain⟨cl,e,h1,h2,B⟩:=Kk env r ((n,c)::cs) λy j=>h y (iP _ j);refine⟨cl,?_,λx d hd=>?_,λy j U=>?_,λx d hd=>?_⟩
   ·rw[List.forIn_cons];simp only[beq_self_eq_true,fI,cellOf,b,pure_bind];exact e
   ·rcases h1 x d hd with q|q
    ·rw[JN]at q;split at q
     ·rename_i L;have f:x=n:=by simpa using L
      subst f;exact .inr (b.trans q)
     ·exact .inl q
    ·exact .inr q
   ·rcases dY.mp j with z|z
    ·subst z;exact B n c (by simp)
    ·exact h2 y z U
   ·by_cases L:x=n
    ·subst L;exact B x c (by simp)
    ·have hb:(x==n)=au:=by simpa using L
     exact B x d (by rw[JN,hb];exact hd)
  ·obtain⟨cl,e,h1,h2,B⟩:=Kk env r cs λy j=>h y (iP _ j);have hb:(k==NameKind.free)=au:=by simpa using a
   refine⟨cl,?_,h1,λy j U=>?_,B⟩
   ·rw[List.forIn_cons];simp only[hb,kD,gC,pure_bind];exact e
   ·rcases dY.mp j with z|z
    ·subst z;exact b4 U a
    ·exact h2 y z U
theorem aE2{scope:da}{env:Env}(h:∀y∈scope.names,y.2=.free->∃c,env.cells.lookup y.1=ak c) :
  ∃cl,closureFor scope env=pure cl/\(∀x c,cl.lookup x=ak c->env.cells.lookup x=ak c)/\∀y∈scope.names,y.2=.free->∃c,cl.lookup y.1=ak c:=by
 obtain⟨cl,e,h1,h2,_⟩:=Kk env scope.names [] h;refine⟨cl,?_,λx c j=>(h1 x c j).resolve_left (by simp),h2⟩;unfold closureFor;refine Eq.trans (cz (λm=>m >>= λq=>pure q) e) ?_;rfl
section
variable{prog:bg}{w:br}{A:bu}{R:Result->aw->Prop}{s:aw}
theorem aEP{elt target iter:bx}{ifs:ao bx}{scope:da}{pos:dg}{it acc:ar}{env:Env}(I:a4->aw->Prop)
  (turn:∀n s,I n s->wpAny (bq prog w) A (ee it) (λr s₁=>match r with
   |none=>R (.ok .next) s₁
   | some v=>wpAny (bq prog w) A (letOwnedTupleGo target it v) (λ_ e=>wpAny (bq prog w) A (assign target env v) (λ_ s₂ =>
     wpAny (bq prog w) A (forIn ifs ax λc r=>if r=ax then do let ok<-isTrue c env (cb c env);pure (ForInStep.yield ok)else pure (ForInStep.yield r)) (λok j =>
      if ok=ax then wpAny (bq prog w) A (cb elt env) (λx z =>
       wpAny (bq prog w) A (call (.builtin "list.append") [acc,x]) (λ_ q=>∃m,m<n/\I m q) (λ_ _=>ck) z) (λ_ _=>ck) j
      else ∃m,m<n/\I m j) (λ_ _=>ck) s₂) (λ_ _=>ck) e) (λ_ _=>ck) s₁) (λ_ _=>ck) s)
  (n:a4) (h:I n s) :
  codeAny (bq prog w) A (.compLoop (.ListComp elt [⟨target,iter,ifs,0⟩] scope pos) 0 it acc env) R s:=by
 refine codeAny_loop rfl I (λn s f=>?_) n h;show wpAny _ A ((compTurn (.ListComp elt [⟨target,iter,ifs,0⟩] scope pos) 0 it acc env).onRaise (λx=>do noteFrame x env;theTreesLotGoes x)) _ _ s;refine wpAny_noted ?_;rw[compTurn_list];refine aI (wpAny_standAt (aI (oB (turn n s f) (λr s₁ L=>?_) λ_ _ h'=>h'.elim)));cases r with
 |none=>exact bC L
 |some v =>
  refine aI (oB L (λ_ e U=>?_) λ_ _ h'=>h'.elim);refine aI (oB U (λ_ s₂ d=>aI (oB d (λok j B=>?_) λ_ _ h'=>h'.elim)) λ_ _ h'=>h'.elim);cases ok with
  |false=>exact bC ⟨rfl,B⟩
  |true =>
   exact aI (aI (oB B (λx z b=>aI (oB b (λ_ q a=>bC (bC ⟨rfl,a⟩)) λ_ _ h'=>h'.elim)) λ_ _ h'=>h'.elim))
end
def JD(X:Cx)(ifs:ao bx)(t:TT):Prop :=
 ∀(aa:ao (ay×cp)) (s:aw) (J:St) (H:Hp) (Q:bh->Hp->Prop),Inv X aa J H s->t J H Q ->
  wpAny (bq X.prog X.w) X.A (forIn ifs ax λc r=>if r=ax then do let ok<-isTrue c X.env (cb c X.env);pure (ForInStep.yield ok)else pure (ForInStep.yield r)) (TP X aa J Q) X.xe s
def ah3:TT:=λ_ H Q=>Q ax H
theorem ao1{X:Cx}:JD X [] ah3:=λ_ _ _ H _ I h=>wpAny_tests_nil ⟨H,I,h⟩
theorem ao0{X:Cx}{c:bx}{t:TT}(h:PT X c t):JD X [c] t:=λaa s J H Q I q=>wpAny_tests_one (h aa s J H Q I q)
noncomputable def kH(X:Cx)(scope:da)(ls:ao a9)(js:ao a4)(cl:ao (a9×ay))(C:ay)(s:aw)(H:Hp)(fp:ao ay):Cx :=
 {X with N:=ls++js.map (λj=>X.N.getD j Str.empty),s₀:=s,H₀:=H,env:=compEnvC scope cl C X.env,outer:=X.stack,ex:=fp,fn:=λ_=>au,xe:=λ_ _=>ck}
noncomputable def zX(ls:ao a9)(js:ao a4)(J:St):St:=ls.map (λ_=>aq)++js.map (λj=>(J[j]?).join)
noncomputable def gk(env:Env)(n:a9)(k:dh):dh:=if(k==NameKind.free&&env.scope.kind == .function&&env.kindOf n==ak .cell)=ax then .cell else k
theorem Vt(env:Env)(names:ao (a9×dh)):(names.map λ(n,k)=>if(k==NameKind.free&&env.scope.kind == .function&&env.kindOf n==ak .cell)then(n,NameKind.cell)else(n,k))=names.map λp=>(p.1,gk env p.1 p.2):=by
 refine QD λp _=>?_;obtain⟨n,k⟩:=p;show(if(k==NameKind.free&&env.scope.kind == .function&&env.kindOf n==ak .cell)=ax then(n,NameKind.cell)else(n,k))=(n,gk env n k);unfold gk;split <;> rfl
theorem Fn(env:Env)(x:a9):∀names:ao (a9×dh),(names.map λp=>(p.1,gk env p.1 p.2)).lookup x=(names.lookup x).map (gk env x)
 |[]=>rfl
 |(n,k)::r=>by
  rw[dJ];cases j:x==n with
  |true =>
   have e:x=n:=by simpa using j
   subst e;rw[JN,JN];simp
  |false =>
   rw[JN,JN];simp only[j];exact Fn env x r
theorem lookup_mem{x:a9}{k:dh}:∀{names:ao (a9×dh)},names.lookup x=ak k->(x,k)∈names
 |[],h=>by simp at h
 |(n,q)::r,h=>by
  rw[JN]at h;cases j:x==n with
  |true =>
   have e:x=n:=by simpa using j
   subst e;simp only[beq_self_eq_true]at h;cases h;exact List.mem_cons_self ..
  |false =>
   simp only[j]at h;exact iP _ (lookup_mem h)
theorem Fo{env:Env}{names:ao (a9×dh)}{x:a9}(h:names.lookup x=ak .free) :
  (names.map λ(n,k)=>if(k==NameKind.free&&env.scope.kind == .function&&env.kindOf n==ak .cell)then(n,NameKind.cell)else(n,k)).lookup x=ak .cell \/
  (names.map λ(n,k)=>if(k==NameKind.free&&env.scope.kind == .function&&env.kindOf n==ak .cell)then(n,NameKind.cell)else(n,k)).lookup x=ak .free:=by
 rw[Vt,Fn,h];show ak (gk env x .free)=ak .cell\/ak (gk env x .free)=ak .free;unfold gk;split
 ·exact .inl rfl
 ·exact .inr rfl
theorem Dz{env:Env}{names:ao (a9×dh)}{x:a9}(B:∀y∈names,y.2≠.cell)
  (h:(names.map λ(n,k)=>if(k==NameKind.free&&env.scope.kind == .function&&env.kindOf n==ak .cell)then(n,NameKind.cell)else(n,k)).lookup x=ak .cell \/
   (names.map λ(n,k)=>if(k==NameKind.free&&env.scope.kind == .function&&env.kindOf n==ak .cell)then(n,NameKind.cell)else(n,k)).lookup x=ak .free):(x,NameKind.free)∈names:=by
 rw[Vt,Fn]at h;cases e:names.lookup x with
 |none=>rw[e]at h;rcases h with h|h <;> cases h
 |some k =>
  have hm:=lookup_mem e
  by_cases j:k=.free
  ·rw[j]at hm;exact hm
  ·rw[e]at h;have q:gk env x k=k:=by
    unfold gk;have hb:(k==NameKind.free)=au:=by simpa using j
    rw[hb];rfl
   have h':gk env x k=.cell\/gk env x k=.free:=h.imp (λz=>nV z) λz=>nV z;rw[q]at h'
   rcases h' with z|z
   ·exact b4 z (B _ hm)
   ·exact b4 z j
structure BB(X:Cx)(scope:da)(ls:ao a9)(js:ao a4):Prop where
 kind:scope.kind=.function
 cell:∀y∈scope.names,y.2≠.cell
 names:∀y∈scope.names,y.2=.local->scope.names.lookup y.1=ak .local
 free:∀y∈scope.names,y.2=.free->X.env.kindOf y.1=ak .cell\/X.env.kindOf y.1=ak .free
 cap:∀j∈js,∃x,X.N[j]?=ak x/\scope.names.lookup x=ak .free
section
variable{X:Cx}{aa:ao (ay×cp)}{J:St}{H:Hp}{s:aw}
theorem atZ{scope:da}{ls:ao a9}{js:ao a4}{cl:ao (a9×ay)}{C:ay}{fp:ao ay}(L:BB X scope ls js)(I:Inv X aa J H s)
  (h1:∀x c,cl.lookup x=ak c->X.env.cells.lookup x=ak c) (h2:∀y∈scope.names,y.2=.free->∃c,cl.lookup y.1=ak c)
  {s':aw} {H':Hp} (q:s'.heap.objs.size<=C) (bs:∀b o,X.base.get? b=ak o->s'.heap.get? b=ak o/\H' b=aq) (rX:X.base.objs.size<=s'.heap.objs.size)
  (pS:s'.heap.FunFrames X.base X.stack) (uT:∀b∈jF X.stack,H' b=aq)
  (DX:∀b∈fp,b≠C/\∀x c,X.env.cells.lookup x=ak c->c≠b) (xT:∀b o,X.base.get? b=ak o->b∉fp) (AM:∀b∈fp,b∉jF X.stack) :
  (kH X scope ls js cl C s' H' fp).Ok where
 mod:=I.ok.mod
 kind:=L.kind
 glob:=I.ok.glob
 blt:=I.ok.blt
 above:=q
 inj:=λx y c a b=>I.ok.inj x y c (h1 x c a) (h1 y c b)
 has:=λx j=>h2 (x,.free) (Dz (env:=X.env) L.cell j) rfl
 EG:=λx c z=>by cases z
 hd:=I.ok.hd
 frames:=I.ok.frames
 sW:=.inl rfl
 DX:=λb hb=>⟨(DX b hb).1,λx c e=>(DX b hb).2 x c (h1 x c e)⟩
 bs:=bs
 rX:=rX
 xT:=xT
 AM:=AM
 pS:=pS
 uT:=uT
theorem atX{ls:ao a9}{js:ao a4}{i:a4}{v:V}(h:(zX ls js J)[i]?=ak (ak v)):∃k j,i=ls.length+k/\js[k]?=ak j/\J[j]?=ak (ak v):=by
 unfold zX at h
 by_cases hi:i<ls.length
 ·rw[jA (by simpa using hi),jH]at h;cases e:ls[i]? with
  |none=>rw[e]at h;cases h
  |some y=>rw[e]at h;cases h
 ·rw[qS (by simpa using Nu hi),jH,jQ]at h;cases e:js[i-ls.length]? with
  |none=>rw[e]at h;cases h
  |some j =>
   rw[e]at h;refine⟨i-ls.length,j,by omega,e,?_⟩;have h':(J[j]?).join=ak v:=nV h;cases q:J[j]? with
   |none=>rw[q]at h';cases h'
   |some o =>
    rw[q]at h';exact cz ak h'
def LcR(ls:ao a9)(js:ao a4)(g:TG)(tc:TT)(te:TE)(J:St)(Q:VK)(σ:It)(H1:Hp):Prop:=∀D,H1 D=aq ->
 ∃W:a4->a4->St->Hp->Prop,(∃m,W 0 m (zX ls js J) (upd H1 D (.lst [])))/\∀i m z H',W i m z H' ->
  (σ.stop i H'/\Q (.ref D) H')\/(σ.go i H'/\∃N:St->Hp->Prop,(∀q H2,N q H2->∃B,B<m/\W (i+1) B q H2) /\
   ∀x H2,σ.BJ i H' x H2->g x z H2 λj a=>tc j a λc U=>if c=ax then te j U λy L=>∃ys,L D=ak (.lst ys)/\ys.length<bc/\N j (upd L D (.lst (ys++[y])))else N j U)
def Ay(ls:ao a9)(js:ao a4)(j:TI)(g:TG)(tc:TT)(te:TE):TE:=λJ H Q=>j J H (LcR ls js g tc te J Q)
theorem atW{elt tg iter:bx}{ifs:ao bx}{scope:da}{pos aoS:dg}{ls:ao a9}{js:ao a4}{wi:TI}{g:TG}{tc:TT}{te:TE}{use:av (ar->Sem Unit)}{R:ar->aw->Prop}{Q:V->Hp->Prop}(hc:X.calm=ax)(L:BB X scope ls js)(hi:PI X tg iter wi)
  (hb:∀cl C s H fp,PG (kH X scope ls js cl C s H fp) tg g/\JD (kH X scope ls js cl C s H fp) ifs tc/\PE (kH X scope ls js cl C s H fp) elt te)
  (hs:∀x,de iter X.env x=pure x) (I:Inv X aa J H s) (h:Ay ls js wi g tc te J H Q)
  (fin:∀d C K M m,Inv X aa J K M->rL X aa K C->M.heap.Ns C m->Q (.ref d) K->compPost (bq X.prog X.w) X.A X.xe use R (.ref d) C (.ok .next) M) :
  wpAny (bq X.prog X.w) X.A (comprehension (.ListComp elt [⟨tg,iter,ifs,0⟩] scope pos) scope X.env aoS (newList []) au (cb iter X.env) use) R X.xe s:=by
 obtain⟨cl,lI,kJ,dD⟩:=aE2 (scope:=scope) (env:=X.env) λy P hf=>I.ok.has y.1 (L.free y P hf);refine wpAny_comprehension_free rfl hs lI L.kind L.names (bM (hi aa s J H _ I h) λv s1 h1=>bM h1 λGr s2 h2=>?_);obtain⟨it,fp,tn,σ,a,e,I2,T,hZ,f2,h2⟩:=h2;subst e;refine qD (wpAny_newFunctionEnv L.cell (by intro y P;simp at P) (λU Hi Gy=>?_) L.kind);dsimp only at Hi Gy ⊢;generalize Iu:s2.heap.push {cls:=.type "list",dict:=aq,data:=.seq ([]:ao ar).toArray}=B at Hi Gy ⊢;have hCz:B.objs.size=s2.heap.objs.size+1:=by rw[<-Iu,JV]
 have hD0:a s2.heap.objs.size=aq:=I2.aL.fresh dC;have Iw:a B.objs.size=aq:=I2.aL.fresh (by omega);have hDC:s2.heap.objs.size≠B.objs.size:=by omega
 have aAL:B.get? s2.heap.objs.size=ak {cls:=.type "list",dict:=aq,data:=.seq ([]:ao ar).toArray}:=by rw[<-Iu];exact iQ _ rfl
 have Gn:∀b o,s2.heap.get? b=ak o->B.get? b=ak o:=λb o e=>by rw[<-Iu];exact eK _ e
 have f:Inv X aa J (upd a s2.heap.objs.size (.lst [])) {s2 with heap:=B,toks:=s2.toks} :=
  I2.laid (t':=s2.toks) Gn dC (show iG X.prog X.w _ B _ (.lst [])from⟨by simp,[],0,.nil,aAL⟩)
 have Gp:∀b o,B.get? b=ak o->U.get? b=ak o:=λb o e=>(Gy.2 b (fX (eI e))).trans (eK _ e);have I4:Inv X aa J (upd a s2.heap.objs.size (.lst [])) {s2 with heap:=U,toks:=s2.toks+0}:=f.kept (h':=U) (t':=s2.toks+0) Gp;generalize hT:(a,(⟨tg,iter,ifs,0⟩:Comprehension))=avU;clear hT avU;have Jn:∀b∈fp,b<s2.heap.objs.size:=λb hb=>by
  obtain⟨o,e,_⟩:=T.obj 0 _ hZ b hb;exact eI e
 have fpD:s2.heap.objs.size∉fp:=λz=>Nat.lt_irrefl _ (Jn _ z);have fpC:∀b∈fp,b≠B.objs.size:=λb hb=>fX (by rw[hCz];exact YE (Jn b hb));have okC:(kH X scope ls js cl B.objs.size {s2 with heap:=B} (upd a s2.heap.objs.size (.lst [])) fp).Ok:=by
  refine atZ L f kJ dD dC f.bs (nW f.ok.rX f.sz) f.stack f.Bg (λb hb=>⟨fpC b hb,(f2 b hb).2.2.2.2.1⟩) (λb o e hb=>?_) (λb hb z=>?_)
  ·rcases(f2 b hb).2.2.2.1 with q|q
   ·exact I2.ok.xT b o e q
   ·exact b4 (lN (eI (I2.ok.bs b o e).1) q) (Nat.lt_irrefl _)
  ·rcases dY.mp (f.LI b z)with q|q
   ·exact(f2 b hb).2.1 q
   ·exact(f2 b hb).2.2.1 q
 have IC:Inv (kH X scope ls js cl B.objs.size {s2 with heap:=B} (upd a s2.heap.objs.size (.lst [])) fp) [] (zX ls js J) (upd a s2.heap.objs.size (.lst [])) {s2 with heap:=U,toks:=s2.toks+0}:=by
  refine⟨okC,rfl,I4.bare,Un.kept Gp,⟨_,Hi,λi x v e1 e2 e3=>?_⟩,λx c e=>I4.cell x c (kJ x c e),?_,λx c e=>I4.mP x c (kJ x c e),λp hp=>?_,I4.aL,?_⟩
  ·obtain⟨k,j,oN,hj,hσ⟩:=atX e2;obtain⟨y,P,Gv⟩:=L.cap j (jP hj);have hxy:x=y:=by
    have e1':(ls++js.map (λj=>X.N.getD j Str.empty))[i]?=ak x:=e1;rw[oN,qS (Nat.le_add_right ..),Nat.add_sub_cancel_left,jH,hj]at e1';have aCK:X.N.getD j Str.empty=x:=nV e1';rw[<-aCK,List.getD_eq_getElem?_getD,P];rfl
   subst hxy;have hkf:X.env.kindOf x=ak .cell\/X.env.kindOf x=ak .free:=by
    have hm:(x,NameKind.free)∈scope.names:=by
     have q:=Dz (env:=X.env) L.cell (Fo (env:=X.env) Gv);exact q
    exact L.free _ hm rfl
   obtain⟨m,hn,hl⟩:=I4.loc;obtain⟨u,r,l⟩:=hl j x v P hσ (hkf.elim (λz => .inr (.inl z)) λz => .inr (.inr z));refine⟨u,r,.inr ⟨Fo (env:=X.env) Gv,?_⟩⟩
   rcases l with⟨kl,_⟩|⟨_,c,IE,z⟩
   ·rcases hkf with q|q
    ·rw[q]at kl;cases kl
    ·rw[q]at kl;cases kl
   ·have hm:(x,NameKind.free)∈scope.names:=Dz (env:=X.env) L.cell (Fo (env:=X.env) Gv);obtain⟨c',aaP⟩:=dD _ hm rfl;have:=kJ _ _ aaP;rw[IE]at this;cases this;exact⟨c,aaP,z⟩
  ·show upd a s2.heap.objs.size (.lst []) B.objs.size=aq;rw[bX (cQ hDC)];exact Iw
  ·have HW:p∈X.pn:=by simpa[kH]using hp
   obtain⟨e,n,ne,nf,d⟩:=I4.pin p (mD _ HW);obtain⟨e3,_⟩:=f.pin p (mD _ HW);refine⟨e,n,?_,λz=>?_,d⟩
   ·exact fX (eI e3)
   ·rcases dY.mp (f.LI p.1 z)with q|q
    ·exact ne q
    ·exact nf q
  ·simp[zX,kH]
 obtain⟨hbG,hbI,hbE⟩:=hb cl B.objs.size {s2 with heap:=B} (upd a s2.heap.objs.size (.lst [])) fp;obtain⟨W,⟨m0,w0⟩,turn⟩:=h2 s2.heap.objs.size hD0;have Uq:tn 0 U:=T.keep _ _ _ hZ λb hb o e=>Gp b o (Gn b o e);have iC:∀{E:Hp},(∀b∈fp,E b=aq)->∀b∈fp,rL (kH X scope ls js cl B.objs.size {s2 with heap:=B} (upd a s2.heap.objs.size (.lst [])) fp) [] E b:=λhn b hb=>by
  refine⟨hn b hb,fpC b hb,λz=>?_,.inl hb,λx c e=>(f2 b hb).2.2.2.2.1 x c (kJ x c e),λp hp=>?_⟩
  ·rcases dY.mp (f.LI b z)with q|q
   ·exact(f2 b hb).2.1 q
   ·exact(f2 b hb).2.2.1 q
  ·have HW:p∈X.pn:=by simpa[kH]using hp
   exact(f2 b hb).2.2.2.2.2 p (mD _ HW)
 have fr0:∀b∈fp,(upd a s2.heap.objs.size (.lst [])) b=aq:=λb hb=>by
  rw[bX (show b≠s2.heap.objs.size from fX (Jn b hb))];exact(f2 b hb).1
 have loop:∀s4:aw,s4={s2 with heap:=U,toks:=s2.toks+0} ->
   codeAny (bq X.prog X.w) X.A (.compLoop (.ListComp elt [⟨tg,iter,ifs,0⟩] scope pos) 0 (.ref it) (.ref s2.heap.objs.size) (compEnvC scope cl B.objs.size X.env))
    (compPost (bq X.prog X.w) X.A X.xe use R (.ref s2.heap.objs.size) B.objs.size) s4:=by
  rintro s4 rfl;refine aEP (λn s'=>∃i D E,Inv (kH X scope ls js cl B.objs.size {s2 with heap:=B} (upd a s2.heap.objs.size (.lst [])) fp) [] D E s'/\tn i s'.heap/\(∀b∈fp,E b=aq)/\W i n D E) ?_ m0 ⟨0,_,_,IC,Uq,fr0,w0⟩;rintro n s5 ⟨i,G,K,I5,BY,WC,w5⟩
  rcases turn i n G K w5 with⟨stop,qn⟩|⟨go,N,hN,step⟩
  ·refine bM (T.done (kH X scope ls js cl B.objs.size {s2 with heap:=B} (upd a s2.heap.objs.size (.lst [])) fp) rfl rfl rfl hc i [] s5 G K _ I5 (iC WC) BY stop) λr M ⟨hr,S⟩=>?_;subst hr;obtain⟨m6,hn6,_⟩:=S.loc;have un1:Un (jF X.stack) fp (upd a s2.heap.objs.size (.lst [])) K B M.heap:=S.base;have un:=(Un.laid Gn dC hD0).trans un1;exact fin _ _ _ _ _ (I2.WR (s':=M) (ch:=fp) S.os un S.aL S.bare λb hb=>⟨(f2 b hb).2.2.2.1,(f2 b hb).2.1,(f2 b hb).2.2.2.2.1,(f2 b hb).2.2.2.2.2⟩) (f.yI dC S.free) hn6 qn
  ·refine bM (T.item (kH X scope ls js cl B.objs.size {s2 with heap:=B} (upd a s2.heap.objs.size (.lst [])) fp) rfl rfl rfl hc i [] s5 G K _ I5 (iC WC) BY go) λr M ⟨u,hr,h6⟩=>?_;subst hr;refine bM h6 λ_ s7 zz=>?_;obtain⟨x,H7,I7,r7,y7,Bk,fr7⟩:=zz;have I7':=I7.pinned (iC fr7) (T.obj _ _ Bk);refine bM (hbG _ s7 G H7 x u _ I7' r7 (step x H7 y7)) λ_ s8 ⟨J8,H8,I8,q8⟩=>?_;refine bM (hbI _ s8 J8 H8 _ I8 q8) λok s9 ⟨H9,I9,q9⟩=>?_;have again:∀{t:St} {Ha:Hp} {sa:aw},Inv (kH X scope ls js cl B.objs.size {s2 with heap:=B} (upd a s2.heap.objs.size (.lst [])) fp) ([]++LQ fp s7.heap) t Ha sa->N t Ha ->
     ∃m,m<n/\∃i D E,Inv (kH X scope ls js cl B.objs.size {s2 with heap:=B} (upd a s2.heap.objs.size (.lst [])) fp) [] D E sa/\tn i sa.heap/\(∀b∈fp,E b=aq)/\W i m D E:=λ{t Ha sa} Ia na=>by
    obtain⟨m',hm,wa⟩:=hN t Ha na;refine⟨m',hm,i+1,t,Ha,Ia.SA,T.keep _ _ _ Bk λb hb o e=>(Ia.pin (b,o) (lD _ (lD _ (UG hb e)))).1,λb hb=>?_,wa⟩;obtain⟨o,e,d⟩:=T.obj _ _ Bk b hb;exact(Ia.pin (b,o) (lD _ (lD _ (UG hb e)))).2.1
   cases ok with
   |false=>exact again I9 q9
   |true =>
    refine bM (hbE _ s9 J8 H9 _ I9 q9) λy s10 zz=>?_;obtain⟨z,H10,I10,r10,ys,hD,cZ,nn⟩:=zz;obtain⟨zz,aT,k,r,hl,e⟩:=I10.HJ hD;refine call_meets F.slot_list_append ⟨_,e,rfl⟩ F.entry_list_append (F.args_list_append_2 _ _) (PySem.list_append s2.heap.objs.size aT.toArray k y (by rw[hW];omega)) ⟨e,?_⟩;refine again (I10.Fl (its':=aT++[y]) (t':=s10.toks) hD e ?_ (r.append (.cons r10 .nil)) ?_) nn
    ·simp
    ·simp;omega
 exact codeAny_compStart_list (loop _ rfl) (T.self _ 0 _ _ _ Uq (loop _ rfl))
theorem Inv.back{C:ay}{h':bz}(I:Inv X aa J H s)(f:rL X aa H C)(j:Heap.SameBut C s.heap h'):Inv X aa J H {s with heap:=h' }:=by
 have ne1:∀b,b∉[C]->b≠C:=λb hb z=>hb (by rw[z];exact Om _);have B:Un (jF X.stack) [C] H H s.heap h':=⟨λb o e n a x=>(j.2 b (ne1 b x)).trans e,λb o e n a x=>⟨o.slots,(j.2 b (ne1 b x)).trans e⟩,λ_ _ _ n _=>n,λb o e x=>⟨o,(j.2 b (ne1 b x)).trans e⟩,λ_ _ q=>q,λ_ _ _ q=>q,λ_ d q=>⟨#[],by rw[q];simp⟩⟩;have U:fQ X.prog X.w H h':=λb o e=>by
  refine(I.aL b o e).qX (λc u L q=>(j.2 c ?_).trans q) (λ_ q=>q) λ_ _ q=>q;rintro rfl
  rcases L with z|z
  ·subst z;rw[f.1]at e;cases e
  ·rw[f.1]at z;cases z
 exact I.WR (s':={s with heap:=h' }) (ch:=[C]) rfl B U I.bare λb hb=>by
  rw[kL.mp hb];exact⟨f.2.2.2.1,f.2.1,f.2.2.2.2.1,f.2.2.2.2.2⟩
theorem apX{elt tg iter:bx}{ifs:ao bx}{scope:da}{pos:dg}{ls:ao a9}{js:ao a4}{j:TI}{g:TG}{tc:TT}{te:TE}(U:X.calm=ax)(L:BB X scope ls js)(hi:PI X tg iter j)
  (hb:∀cl C s H fp,PG (kH X scope ls js cl C s H fp) tg g/\JD (kH X scope ls js cl C s H fp) ifs tc/\PE (kH X scope ls js cl C s H fp) elt te)
  (B:∀x,de iter X.env x=pure x:=by intro _;rfl):PE X (.ListComp elt [⟨tg,iter,ifs,0⟩] scope pos) (Ay ls js j g tc te):=by
 intro aa s J H Q I h;rw[eval_ListComp];exact atW U L hi hb B I h λd C b c m a f hn q=>⟨m,hn,λh' z=>⟨.ref d,b,a.back f z,rfl,q⟩⟩
end
section
variable{X:Cx}
theorem aFH(d:X.calm=ax):oX X (.builtin "sum") (λxs H Q=>∃(a:ay) (ns:ao az),xs=[.ref a]/\fH X.K H a (ns.map V.int)/\Q (.int ns.sum) H):=by
 intro aa s J H xs f Q I r h;obtain⟨a,ns,rfl,b,q⟩:=h;obtain⟨u,rfl,L⟩:=vals1 r;cases L;obtain⟨j,B,U,g⟩:=I.list b;have hi:cw j ns:=intsAre_of B;obtain⟨xs,z⟩:=hi.allInts.items;have hl:s.heap.IsList a (intItems xs):=z ▸ U.isList;refine sum_intListG (I.ok.hd d) hl λh' tk t' c=>?_;have e:preSum (numAt xs) xs.size=ns.sum:=by
  rw[preSum_eq,YI (by simp),<-nums_intItems,<-z,show j.toArray.toList=j from rfl,hi.numsOf]
 exact⟨.int ns.sum,H,I.kept (t':=tk) c,⟨t',by rw[e]⟩,q⟩
theorem aFR:oX X (.builtin "isinstance") (λxs H Q=>∃x n t b,xs=[x,.ty n]/\rG X.K H x t/\eu X.K t (.type n)=ak b/\Q (.bl b) H):=by
 intro aa s J H xs B Q I r h;obtain⟨x,n,t,b,rfl,ty,e,q⟩:=h;obtain⟨u,v,rfl,z,j⟩:=vals2 r;cases j;exact av9 I z ty e λtk=>⟨.bl b,H,I.tok tk,rfl,q⟩
end
inductive Dt where
 |int (i:az)|bl (b:bh)|str (x:a9)|bQ|tup (ds:ao Dt)|lst (ds:ao Dt)
def Den(K:bj)(H:Hp):a4->V->Dt->Prop
 |_,v,.int j=>v=.int j
 |_,v,.bl b=>v=.bl b
 |_,v,.str x=>v=.str x
 |_,v,.bQ=>v=.bQ
 |0,_,.tup _=>ck
 |0,_,.lst _=>ck
 |n+1,v,.tup ds=>∃a xs,v=.ref a/\iY K H a xs/\Paired (Den K H n) xs ds
 |n+1,v,.lst ds=>∃a xs,v=.ref a/\fH K H a xs/\Paired (Den K H n) xs ds
structure HasFn(K:bj)(mg:a9->av ar)(x:a9)(st:bw):Prop where
 ex:∃f fd,mg x=ak (.ref f)/\tQ K x x st f fd
theorem iU{K:bj}{h:bz}{mg:a9->av ar}{x:a9}{st:bw}{f:ay}{z:ar}{od L:av ay}{B:a6 (av ar)}{kV doc q j ct:ar}(X:K.In h)(G:h.Ns a5 mg)
  (a:cu K a5 x=ak (ak (.ref f))) (l:K.lookup f=ak ⟨z,od,.func (fnOf x x (lL st) (fV st) (bB st) .none kV doc q L j ct),B⟩)
  (c:codeIn K j x=ax) (k:keepIn K (.ref f)=ax):HasFn K mg x st:=⟨⟨f,_,mg_of X G a,OA l c k⟩⟩
structure Def(P:bg)(w:br)(K:bj)(mg:a9->av ar)(base:bz)(x:a9)(k:a4)(ps:ao a9)(sp:Sp):Prop where
 ex:∃f fd,jR P w K mg base zH k f fd ps sp/\mg x=ak (.ref f)/\keepIn K (.ref f)=ax/\Binds K fd ps []
theorem nT.new{H:Hp}{p:ay}{o:HO}(h:H p=aq):nT H (upd H p o):=λb u e=>by rw[bX (mI e h)];exact e
def aJE(K:bj)(H:Hp)(v:V)(ns:ao az):Prop:=∃p,v=.ref p/\iY K H p (ns.map V.int)
def Rows(K:bj)(H:Hp)(xs:ao V)(rs:ao (ao az)):Prop:=Paired (aJE K H) xs rs
def aH0(h₀ h:bz)(H:Hp)(x:ay)(vs:a6 ar):Prop :=
 ∃T j ts,vs[1]?=ak (.ref T)/\T≠x/\h₀.get? T=aq/\H T=aq/\h.get? T=ak j/\j.data=.fields ts/\3<ts.size
def mE(h₀ h:bz)(H:Hp)(x:ay)(cls:ar)(dx:av ay)(tb:bh):Prop :=
 h₀.get? x=aq/\H x=aq/\∃oe vs,h.get? x=ak oe/\oe.cls=cls/\oe.dict=dx/\oe.data=.fields vs/\1<vs.size/\((tb=au/\vs[1]?=ak .none)\/aH0 h₀ h H x vs)
theorem mE.any{h₀ h:bz}{H:Hp}{x:ay}{cls:ar}{dx:av ay}{tb:bh}(e:mE h₀ h H x cls dx tb):mE h₀ h H x cls dx au:=by
 obtain⟨a,b,q,j,f,d,c,U,L,B⟩:=e;exact⟨a,b,q,j,f,d,c,U,L,B.imp (λz=>⟨rfl,z.2⟩) id⟩
structure mQ(X:Cx):Prop where
 sW:X.stack=X.env::X.outer
 OB:X.env.frame=ak X.env.locals
 pn:X.pn=[]
theorem mQ.mem{X:Cx}(t:mQ X){b:ay}:b∈jF X.stack<->b=X.env.locals\/b∈X.fs:=by
 rw[t.sW];unfold jF;rw[xD,t.OB];exact dY
section
variable{X:Cx}{J:St}{H:Hp}{s:aw}
theorem Inv.Eb{h':bz}{ch:ao ay}(I:Inv X [] J H s)(t:mQ X)(a:∀b∈ch,X.s₀.heap.get? b=aq/\H b=aq/\∃o vs,s.heap.get? b=ak o/\o.data=.fields vs)
  (keep:∀b o,b∉jF X.stack->b∉ch->s.heap.get? b=ak o->h'.get? b=ak o) (slot:∀b o,b∈jF X.stack->s.heap.get? b=ak o->∃sl,h'.get? b=ak {o with slots:=sl}) :
  Inv X [] J H {s with heap:=h' }:=by
 have A:∀c v,s.heap.IsCell c v->c∉ch:=λc v ⟨o,B,hd⟩ j=>by
  obtain⟨_,_,g,vs,e,d⟩:=a c j;rw[B]at e;cases e;rw[hd]at d;cases d
 have any:∀b o,b∉ch->s.heap.get? b=ak o->∃sl,h'.get? b=ak {o with slots:=sl}:=λb o j e=>by
  by_cases hb:b∈jF X.stack
  ·exact slot b o hb e
  ·exact⟨o.slots,keep b o hb j e⟩
 have cellK:∀c v,s.heap.IsCell c v->h'.IsCell c v:=λc v z=>by
  obtain⟨o,B,hd⟩:=id z;obtain⟨sl,e⟩:=any c o (A c v z) B;exact⟨_,e,hd⟩
 have old:∀b o,X.s₀.heap.get? b=ak o->b≠X.env.locals/\b∉ch:=λb o e =>
  ⟨fX (lN (eI e) I.ok.above),λj=>by rw[(a b j).1]at e;cases e⟩
 have h:∀b,b≠X.env.locals->b∉X.fs->b∉jF X.stack:=λb h1 h2 z=>(t.mem.mp z).elim h1 h2;refine⟨I.ok,I.os,I.bare,⟨λb o e n hb L=>?_,λb o e n hb L=>?_,I.base.free,λb o e L=>?_,I.base.oF,I.base.nQ,I.base.oG⟩,?_,λx c e=>?_,I.free,I.mP,λp C=>?_,λb u e=>?_,I.len⟩
 ·exact keep b o (h b (old b o e).1 hb) (old b o e).2 (I.base.keep b o e n hb L)
 ·obtain⟨sl,e1⟩:=I.base.slot b o e n hb L;obtain⟨K,U⟩:=any b _ (old b o e).2 e1;exact⟨K,U⟩
 ·obtain⟨g,e1⟩:=I.base.there b o e L;obtain⟨sl,U⟩:=any b g (old b o e).2 e1;exact⟨_,U⟩
 ·obtain⟨m,hn,hl⟩:=I.loc;obtain⟨o,es,E,B,hd,r⟩:=id hn;have w:X.env.locals∉ch:=λj=>by
   obtain⟨_,_,g,vs,e,d⟩:=a _ j;rw[B]at e;cases e;rw[hd]at d;cases d
  obtain⟨sl,e⟩:=any _ o w B;refine⟨m,⟨_,es,E,e,hd,r⟩,λi x v e1 U G=>?_⟩;obtain⟨u,D,l⟩:=hl i x v e1 U G;refine⟨u,D,?_⟩
  rcases l with l|⟨k,c,F,z⟩
  ·exact .inl l
  ·exact .inr ⟨k,c,F,cellK c _ z⟩
 ·obtain⟨v,z⟩:=I.cell x c e;exact⟨v,cellK c v z⟩
 ·rw[t.pn]at C;simp at C
 ·refine(I.aL b u e).qX (λc v j q=>keep c v ?_ ?_ q) (λ_ q=>q) λ_ _ q=>q
  ·intro z;have f:=I.Bg c z
   rcases j with y|y
   ·rw[y,e]at f;cases f
   ·rw[y]at f;cases f
  ·intro z;have f:=(a c z).2.1
   rcases j with y|y
   ·rw[y,e]at f;cases f
   ·rw[y]at f;cases f
variable{M:ec}{E:ar->aw->Prop}{x:ay}{cls:ar}{dx:av ay}
theorem mE.UA(I:Inv X [] J H s){b:ay}{o:cp}{vs:a6 ar}(e:s.heap.get? b=ak o)(d:o.data=.fields vs):b∉jF X.stack:=λhm=>by
 obtain⟨_,z,q,j⟩:=I.stack.mem hm;rw[e]at q;cases q;exact j vs d
theorem abU(I:Inv X [] J H s)(t:mQ X){oe:cp}{vs:a6 ar}{head:ar}{g:bh}{Q:Unit->aw->Prop}(l:X.s₀.heap.get? x=aq)(m:H x=aq)(he:s.heap.get? x=ak oe)(hd:oe.data=.fields vs)(hsz:1<vs.size)
  (q:∀h',Inv X [] J H {s with heap:=h' }->mE X.s₀.heap h' H x oe.cls oe.dict ax->Q () {s with heap:=h' }) :
  wpAny M X.A (do let a<-frameOf X.env;let pl<-entryPlaceOf X.env.locals g;let b<-EntryCells.newEntry head a .none (dw X.env.locals) .none pl;setField (.ref x) 1 b) Q E s:=by
 have F:X.A.frames=ak (X.env::X.outer):=by rw[<-t.sW];exact I.ok.frames
 have hl:s.heap.FunFrames X.base (X.env::X.outer):=by rw[<-t.sW];exact I.stack
 have jM:x∉jF X.stack:=mE.UA I he hd;have i:(X.env::X.outer).filterMap (·.frame)=jF X.stack:=by rw[t.sW];rfl
 refine aI (wpAny_frameOf_fun F hl t.OB λh1 j=>aI (wpAny_entryPlaceOf λpl w=>?_));rw[i]at j;unfold EntryCells.newEntry;unfold newFields;refine aI (qD ?_ (w.sizeOk5 _ _ _ _ _));have r:h1.get? x=ak oe:=(j.2.1 x jM).trans he;generalize p:({cls:=.type "traceback",dict:=aq,data:=.fields ([head,.ref X.env.locals,.none,dw X.env.locals,.none]++(if pl.isEmpty then List.replicate 6 Value.none else pl)).toArray}:cp)=to;have U:∃B,to.data=.fields B/\3<B.size:=⟨_,by rw[<-p],by simp only[hW,fJ,eB,xC];omega⟩;have L:to.isFreed=au:=by rw[<-p];rfl
 have n:(h1.push to).get? x=ak oe:=eK _ r;have k:h1.objs.size≠x:=PX (eI r);refine wpAny_setField n hd hsz ?_;have u:=Obj.data_mapFields hd (·.setIfInBounds 1 (Value.ref h1.objs.size));have f:=QS (Obj.mapFields (·.setIfInBounds 1 (Value.ref h1.objs.size))) n (Obj.isFreed_of_fields u);have h:=(sJ (h1.push to) (Obj.mapFields (·.setIfInBounds 1 (Value.ref h1.objs.size))) (cQ k)).trans (iQ h1 L);have kp:∀b o,b≠x->h1.get? b=ak o->((h1.push to).update x (Obj.mapFields (·.setIfInBounds 1 (Value.ref h1.objs.size)))).get? b=ak o:=λb o hb e =>
  (sJ _ _ (cQ hb)).trans (eK _ e)
 have G:X.s₀.heap.get? h1.objs.size=aq:=by
  cases e:X.s₀.heap.get? h1.objs.size with
  |none=>rfl
  |some o =>
   have h2:=lN (eI e) I.sz;rw[j.1]at h2;exact b4 h2 (Nat.lt_irrefl _)
 have K:H h1.objs.size=aq:=by rw[j.1];exact I.aL.fresh dC
 refine q _ (I.Eb t (ch:=[x]) (λb hb=>?_) (λb o hb v e=>?_) λb o hb e=>?_) ⟨l,m,_,_,f,Obj.cls_mapFields _ _,?_,u,by simpa using hsz,.inr ⟨h1.objs.size,to,?_⟩⟩
 ·rw[kL.mp hb];exact⟨l,m,oe,vs,he,hd⟩
 ·exact kp b o (λz=>v (by rw[z];exact kL.mpr rfl)) ((j.2.1 b hb).trans e)
 ·obtain⟨sl,e1⟩:=j.2.2 b o e;exact⟨sl,kp b _ (λz=>jM (z ▸ hb)) e1⟩
 ·obtain⟨c,d,y,sl⟩:=oe;cases y <;> rfl
 ·obtain⟨B,D,C⟩:=U;exact⟨B,by simp[hsz],k,G,K,h,D,C⟩
theorem Eu(I:Inv X [] J H s)(t:mQ X){tb:bh}{Q:Unit->aw->Prop}(e:mE X.s₀.heap s.heap H x cls dx tb)
  (q:∀h',Inv X [] J H {s with heap:=h' }->mE X.s₀.heap h' H x cls dx ax->Q () {s with heap:=h' }):wpAny M X.A (noteFrame (.ref x) X.env) Q E s:=by
 obtain⟨U,c,n,m,he,rfl,rfl,hd,j,r⟩:=id e;unfold noteFrame;simp only[t.OB]
 rcases r with⟨_,h1⟩|⟨T,i,L,h1,h,k,l,hT,B,f⟩
 ·refine aI (BN he hd h1 ?_);rw[ba (by decide)];exact abU I t U c he hd j q
 ·refine aI (BN he hd h1 ?_);rw[a7 (show(Value.ref T != Value.none)=ax from by simp)];obtain⟨a,d⟩:∃a,L[3]?=ak a:=⟨L[3],Qx f⟩;refine aI (BN hT B d ?_)
  by_cases hb:(a==dw X.env.locals)=ax
  ·rw[a7 hb];exact bC (q s.heap I ⟨U,c,n,m,he,rfl,rfl,hd,j,.inr ⟨T,i,L,h1,h,k,l,hT,B,f⟩⟩)
  ·rw[ba hb];refine aI (wpAny_setField hT B f ?_);have g:∀b,b≠T->(s.heap.update T (Obj.mapFields (·.setIfInBounds 3 Value.none))).get? b=s.heap.get? b:=λb hb=>sJ _ _ (cQ hb);have u:T∉jF X.stack:=mE.UA I hT B;have v:Inv X [] J H {s with heap:=s.heap.update T (Obj.mapFields (·.setIfInBounds 3 Value.none))}:=I.Eb t (ch:=[T]) (λb hb=>by
    rw[kL.mp hb];exact⟨k,l,i,L,hT,B⟩) (λb o _ p e=>(g b (λz=>p (by rw[z];exact kL.mpr rfl))).trans e) λb o hb e=>⟨o.slots,(g b (λz=>u (z ▸ hb))).trans e⟩
   exact abU v t U c ((g x (cQ h)).trans he) hd j q
theorem WD{A:bu}(I:Inv X [] J H s)(t:mQ X){fo:av ay}{Q:Unit->aw->Prop}(e:mE X.s₀.heap s.heap H x cls dx ax)
  (q:∀h',Inv X [] J H {s with heap:=h' }->mE X.s₀.heap h' H x cls dx ax->Q () {s with heap:=h' }):wpAny M A (setFlight (.ref x) fo) Q E s:=by
 obtain⟨k,l,n,i,he,rfl,rfl,hd,B,u⟩:=id e
 rcases u with⟨z,_⟩|⟨T,p,m,h1,U,g,h,hT,j,a⟩
 ·cases z
 unfold setFlight;refine aI (BN he hd h1 ?_);rw[a7 (show(Value.ref T != Value.none)=ax from by simp)];refine wpAny_setField hT j a ?_;generalize (fo.elim Value.none λf=>dw f)=c;have L:∀b,b≠T->(s.heap.update T (Obj.mapFields (·.setIfInBounds 3 c))).get? b=s.heap.get? b:=λb hb=>sJ _ _ (cQ hb);have v:T∉jF X.stack:=mE.UA I hT j;have d:=Obj.data_mapFields j (·.setIfInBounds 3 c);refine q _ (I.Eb t (ch:=[T]) (λb hb=>?_) (λb o _ r e=>(L b (λz=>r (by rw[z];exact kL.mpr rfl))).trans e) λb o hb e=>⟨o.slots,(L b (λz=>v (z ▸ hb))).trans e⟩)
  ⟨k,l,n,i,(L x (cQ U)).trans he,rfl,rfl,hd,B,.inr ⟨T,_,_,h1,U,g,h,QS _ hT (Obj.isFreed_of_fields d),d,by simpa using a⟩⟩
 rw[kL.mp hb];exact⟨g,h,p,m,hT,j⟩
end
abbrev WX:=St->ar->av ay->Hp->Prop
def XE(X:Cx)(W:WX):ar->aw->Prop:=λe s'=>∃J H' x cls dx,e=.ref x/\Inv X [] J H' s'/\mE X.s₀.heap s'.heap H' x cls dx au/\W J cls dx H'
section
variable{X:Cx}
theorem aqC(t:mQ X){W:WX}:PassesOwn (bq X.prog X.w) X.A X.env (XE X W):=by
 rintro e s' ⟨J,c,x,cls,L,rfl,I,ex,w⟩;unfold notedBy;refine Eu I t ex λh1 b e1=>?_;unfold cameBackBy;obtain⟨g,i,l,f,he,n,p,hd,q,U⟩:=id e1
 rcases U with⟨z,_⟩|⟨T,m,k,j,d,r,s,hT,h,o⟩
 ·cases z
 refine aI (BN he hd j ?_);rw[ba (show ¬((Value.ref T==Value.none)=ax)from by simp)];exact WD b t e1 λh2 a B=>⟨J,c,x,cls,L,rfl,a,B.any,w⟩
def qA(P:bg)(w:br):pZ:=λouter H s E e s'=>∃x cls dx H',e=.ref x/\s'.os=s.os/\AllBare s'.gens/\Un (jF outer) [] H H' s.heap s'.heap/\fQ P w H' s'.heap/\mE s.heap s'.heap H' x cls dx ax/\E cls dx H'
end
structure nS(X:Cx)(W:WX):Prop where
 top:mQ X
 ex:X.ex=[]
 to:∀e s',XE X W e s'->X.xe e s'
 passes:PassesOwn (bq X.prog X.w) X.A X.env X.xe
theorem nS.of{X:Cx}(t:mQ X)(j:X.ex=[])(W:WX):nS (X.nG (XE X W)) W where
 top:=⟨t.sW,t.OB,t.pn⟩
 ex:=j
 to:=λe s' ⟨J,z,x,cls,q,a,I,b,c⟩=>⟨J,z,x,cls,q,a,I.uB,b,c⟩
 passes:=aqC t
theorem Inv.Ej{X:Cx}{aa:ao (ay×cp)}{J:St}{H:Hp}{s:aw}(I:Inv X aa J H s):Inv X [] J H s:=I.Ei λp j=>b4 j (by simp)
theorem Inv.first{X:Cx}{aa:ao (ay×cp)}{J:St}{H:Hp}{s:aw}(I:Inv X aa J H s)(q:X.ex=[]){b:ay}(h:s.heap.get? b=aq):X.s₀.heap.get? b=aq:=by
 cases e:X.s₀.heap.get? b with
 |none=>rfl
 |some o =>
  obtain⟨z,j⟩:=I.base.there b o e (by rw[q];simp);rw[h]at j;cases j
theorem mE.first{X:Cx}{aa:ao (ay×cp)}{J:St}{H H':Hp}{s:aw}{h':bz}{x:ay}{cls:ar}{dx:av ay}{tb:bh}(I:Inv X aa J H s)(j:X.ex=[])(e:mE s.heap h' H' x cls dx tb) :
  mE X.s₀.heap h' H' x cls dx tb:=by
 obtain⟨a,b,B,q,p,o,n,m,l,k⟩:=e;refine⟨I.first j a,b,B,q,p,o,n,m,l,k.imp id λ⟨T,L,z,i,h,g,f,d,c,U⟩=>⟨T,L,z,i,h,I.first j g,f,d,c,U⟩⟩
theorem iG.at{P:bg}{w:br}{H:Hp}{h:bz}{a:ay}{o:HO}(x:iG P w H h a o):∃ob,h.get? a=ak ob:=by
 cases o with
 |lst xs=>obtain⟨_,_,_,_,e⟩:=x;exact⟨_,e⟩
 |tup xs=>obtain⟨_,_,_,_,e,_⟩:=x;exact⟨_,e⟩
 |dK j=>obtain⟨_,_,_,_,o,_,_,e,_⟩:=x;exact⟨_,e⟩
 |dT j=>obtain⟨_,_,_,_,o,_,_,e,_⟩:=x;exact⟨_,e⟩
 |set S n=>obtain⟨o,_,_,_,e,_⟩:=x;exact⟨_,e⟩
 |ins C B fs=>obtain⟨_,_,_,e,_⟩:=x;exact⟨_,e⟩
 |own y=>exact x
 |xd fs=>obtain⟨_,⟨_,_,_,e,_⟩,_⟩:=x;exact⟨_,e⟩
 |TB lo hi=>obtain⟨_,_,_,e⟩:=x;exact⟨_,e⟩
 |iC ob u=>obtain⟨e,_⟩:=x;exact⟨_,e⟩
 |xK z=>exact⟨_,show h.get? a=ak _ from x⟩
 |met f y=>exact⟨_,show h.get? a=ak _ from x⟩
 |ext q=>obtain⟨_,e,_⟩:=x;exact e
theorem fQ.arY{P:bg}{w:br}{H:Hp}{h:bz}{a:ay}(x:fQ P w H h)(e:h.get? a=aq):H a=aq:=by
 cases q:H a with
 |none=>rfl
 |some o =>
  obtain⟨ob,j⟩:=(x a o q).at;rw[e]at j;cases j
section
variable{P:bg}{w:br}{K:bj}{mg:a9->av ar}{base:bz}
abbrev rF(P:bg)(w:br)(K:bj)(mg:a9->av ar)(base:bz)(N:ao a9)(af:a9)(scope:da)(f:ay)(j:ar)(A:bu)(outer:ao Env)(s:aw)(H:Hp)(E:XK):Cx :=
 (oR (qA P w) P w K mg base N af scope f j A outer s H E).nG (XE (oR (qA P w) P w K mg base N af scope f j A outer s H E) λ_=>E)
theorem SH{CX:pZ}{N:ao a9}{af:a9}{scope:da}{f:ay}{j:ar}{A:bu}{outer:ao Env}{s:aw}{H:Hp}{E:XK}:mQ (oR CX P w K mg base N af scope f j A outer s H E):=⟨rfl,rfl,rfl⟩
theorem bA{N:ao a9}{af:a9}{scope:da}{f:ay}{j:ar}{A:bu}{outer:ao Env}{s:aw}{H:Hp}{E:XK}:nS (rF P w K mg base N af scope f j A outer s H E) (λ_=>E):=nS.of SH rfl _
theorem Fy{N:ao a9}{af:a9}{scope:da}{f:ay}{z:ar}{A:bu}{outer:ao Env}{s:aw}{H:Hp}{E:XK}{st:ao bw}{t:TS}(h:pX (rF P w K mg base N af scope f z A outer s H E) st t) :
  pX (oR (qA P w) P w K mg base N af scope f z A outer s H E) st t:=by
 intro aa L J k D I a;refine oB (h aa L J k D (I.nG _) a) (λ_ _ q=>q.uB) λe s' U=>?_;obtain⟨B,l,x,cls,d,rfl,i,ex,q⟩:=U;show wpAny _ _ (leaving _ _) _ _ _;unfold leaving;refine aI (Eu (E:=λc m=>qA P w outer H s E c m) i SH ex λh1 g e1=>?_);refine WD g SH e1 λh2 j b=>?_;exact⟨x,cls,d,l,rfl,j.os,j.bare,j.base,j.aL,b,q⟩
structure ae2(P:bg)(w:br)(K:bj)(mg:a9->av ar)(base:bz)(x:a9)(k:a4)(ps:ao a9)(sp:Sp):Prop where
 ex:∃f fd,jR P w K mg base (qA P w) k f fd ps sp/\mg x=ak (.ref f)/\keepIn K (.ref f)=ax/\Binds K fd ps []
end
section
variable{X:Cx}{W:WX}{x:a9}{p pos np jZ:dg}{e:bx}{es:ao bx}{t:TA}
def Ue(sp:Sp)(W:WX)(t:TA):TE:=λJ H Q=>t J H λvs H1=>sp vs H1 Q λcls dx H'=>W J cls dx H'
theorem ap4{k:a4}{ps:ao a9}{sp:Sp}(T:nS X W)(D:ae2 X.prog X.w X.K X.mg X.base x k ps sp)(hr:dP k X.A)(l:Gl X x)(ha:PA X (e::es) t)
  (m:(x==("__debug__" : a9))=au:=by decide) (he:bf (e::es) X.env=(au,cb e X.env)::bf es X.env:=by rfl) (n:(cv pos (bf es X.env)).any (·.1)=au:=by rfl) :
  PE X (.Call (.Name x p) (e::es) [] pos) (Ue sp W t):=by
 obtain⟨f,E,F,hm,i,hb⟩:=D.ex;intro aa s J H Q I h;refine RP (HL I l hm ?_ m);refine callWith_K (h₀:=X.base) I.ok.mod.zY i (bM (ha pos aa s J H _ I h) λL U ⟨d,y,j,r,q⟩=>⟨j.gG,?_⟩) he n;have hl:L.length=ps.length:=by rw[<-r.length];exact F.len _ _ _ _ q
 have c:=hb U L j.gG (by rw[pY];exact hl);rw[pY]at c;refine wpAny_call (yN (F.run X.A X.stack U y ⟨L,[]⟩ L d Q _ hr j.yK c r q) λr s' B=>?_);cases r with
 |error G =>
  obtain⟨a,cls,o,C,rfl,os,bare,un,aL,ex,g⟩:=B;have v:=(j.WR os un aL bare (λb z=>b4 z (by simp))).Ej;exact T.to _ _ ⟨J,C,a,cls,o,rfl,v,(ex.first j T.ex).any,g⟩
 |ok fl =>
  cases fl with
  |ret u=>exact j.after B
  |next=>exact False.elim B
  |brk=>exact False.elim B
  |cont=>exact False.elim B
noncomputable abbrev Ko:ao ar:=[.type "ValueError",.type "Exception",.type "BaseException",.type "object"]
structure PU(K:bj)(C:ay):Prop where
 inK:excIn K C Ko "ValueError.__new__" = ax
theorem PU.obj{K:bj}{C:ay}(ι:PU K C){h:bz}(X:K.In h):∃bm N nm q bs hdct sn sub ab col dd k0 k1 k2 k3 k5 z,h.get? C=ak (c4 nm q C N bs bm hdct sn sub ab col dd k0 k1 k2 k3 k5 "ValueError.__new__")/\h.Ns N z/\z "__init__" = aq/\OwnTail h Ko bm:=by
 have q:=ι.inK;unfold excIn at q;split at q
 ·rename_i dd cd sl c;split at q
  ·rename_i d bm k0 k1 k2 k3 n k5 hm B;simp only[lF,uW,ZJ]at q;obtain⟨⟨⟨⟨⟨rfl,rfl⟩,j⟩,b⟩,aL⟩,L⟩:=q;obtain⟨nm,bs,mro,ns,U,hd,sn,sub,ab,col,del⟩:=cd;dsimp only at hm j aL L;subst hm j;have a:sl=#[k0,k1,k2,k3,ak (.builtin "ValueError.__new__"),k5]:=by
    obtain⟨l⟩:=sl;simp only at B;rw[B]
   subst a;exact⟨bm,ns,nm,U,bs,hd,sn,sub,ab,col,dd,k0,k1,k2,k3,k5,_,X _ _ c,.of_isNs (PySem.W.isNs_of_in X aL),PySem.W.nsMap_none_of_in X aL L,PySem.W.tail_of_in X b⟩
  ·cases q
 ·cases q
def ah8(W:WX)(C:ay)(t:TA):TS:=λ_ J H=>t J H λvs H1=>vs.length<=bc/\W J (.ref C) aq H1
theorem aoJ{C:ay}(T:nS X W)(i:X.calm=ax)(ι:PU X.K C)(g:Gl X x)(hm:X.mg x=ak (.ref C))(ha:PA X (e::es) t)
  (k:(x==("__debug__" : a9))=au:=by decide) (he:bf (e::es) X.env=(au,cb e X.env)::bf es X.env:=by rfl) (o:(cv jZ (bf (e::es) X.env)).any (·.1)=au:=by rfl) :
  PS X (.Raise (ak (.Call (.Name x np) (e::es) [] jZ)) aq pos) (ah8 W C t):=by
 intro aa s J H D I h;obtain⟨bm,N,nm,q,bs,hdct,sn,sub,ab,col,dd,k0,k1,k2,k3,k5,y,n,l,p,hT⟩:=ι.obj I.ok.mod.zY;have L:bm.contains (.type "BaseException")=ax:=hT.hasType (by decide);refine wpAny_Raise_call_subT (nm:=nm) (q:=q) (N:=N) (bs:=bs) (hdct:=hdct) (sn:=sn) (sub:=sub) (ab:=ab) (col:=col) (dd:=dd) (k0:=k0) (k1:=k1) (k2:=k2) (k3:=k3) (k5:=k5) PySem.F.excBase_ValueError L (I.ok.hd i) o p (HL I g hm ⟨rfl,?_⟩ k);rw[he];refine ae3 ?_;have z:=ha jZ aa s J H _ I h;rw[he]at z;refine bM z λv U ⟨u,B,j,r,c,b⟩=>⟨rfl,by rw[<-r.length];exact c,j.bk _ _ n,l.keeps j.bk,hT.keeps j.bk,λh' a M=>?_⟩
 obtain⟨w,f,d,_⟩:=M.there;have m:B a=aq:=j.aL.arY M.new;refine T.to _ _ ⟨J,B,a,.ref C,aq,rfl,(j.kept (t':=U.toks) M.keeps).Ej,⟨j.first T.ex M.new,m,_,_,f,rfl,rfl,rfl,by simp,.inl ⟨rfl,rfl⟩⟩,b⟩
end
structure XC(K:bj)(C:ay):Prop where
 ob:∃nm q N bs bm hdct sn sub ab col dd k0 k1 k2 k3 k5,K.lookup C=ak (c4 nm q C N bs bm hdct sn sub ab col dd k0 k1 k2 k3 k5 "ValueError.__new__")
 ga:b5 K (.ref C) "__getattribute__" = ak (ak (.builtin "BaseException.__getattribute__"))
 gt:b5 K (.ref C) "__getattr__" = ak aq
 cl:b5 K (.ref C) "__class__" = ak (ak (.builtin "object.__class__"))
 be:b7 K (.ref C) (.type "BaseException")=ak ax
 oj:b7 K (.ref C) (.type "object")=ak ax
section
variable{prog:bg}{w:br}{A:bu}{E:ar->aw->Prop}{h:bz}{g:a6 GenState}{d:Drawn}{t:a4}{os:c6}{a:ay}{o:cp}{K:bj}{C:ay}
theorem afG{R:Result->aw->Prop}(c:XC K C)(X:K.In h)(q:h.get? a=ak o)(z:o.cls=.ref C)(B:R (.ok (.ret (.ref C))) ⟨h,g,d,t,os⟩) :
  codeAny (bq prog w) A (.call (.builtin "getset_descriptor.__get__") ⟨[.builtin "object.__class__",.ref a,.ref C],[]⟩) R ⟨h,g,d,t,os⟩:=by
 have j:(⟨h,g,d,t,os⟩:aw).TypeIs (.builtin "object.__class__") "getset_descriptor":=ae0;have L:Looks (bq prog w) h (isSubtype (.ref C) (.type (".".intercalate ("object.__class__".cutAt '.').dropLast))) ax:=by
  rw[F.owner_object_class];exact looks_subIn X c.oj
 refine ab4 F.slot_gs_get.plain F.entry_gs_get (F.slot_gs_get.check _ _ _ _ _ _ _ _ j (F.args_gs_get _ _ _) ?_)
 repeat (any_goals (first|assumption|(with_reducible refine KL q ?_;rw[z])|with_reducible refine L.at ?_|wp_step))
 refine⟨Code.quiet_builtin _ (by decide +kernel),IS F.entry_object_class ?_⟩
 repeat (any_goals (first|assumption|(with_reducible refine KL q ?_;rw[z])|wp_step))
theorem afH{tk:Tok}{Q:Fin->aw->Prop}(c:XC K C)(X:K.In h)(j:h.get? a=ak o)(q:o.cls=.ref C)(L:Q (.done (.ret (.ref C))) ⟨h,g,d,t,os⟩) :
  wpAny (bq prog w) A (Builtin.«object.__getattribute__» ⟨[.ref a,.str "__class__" tk],[]⟩) Q E ⟨h,g,d,t,os⟩:=by
 have z:(⟨h,g,d,t,os⟩:aw).TypeIs (.builtin "object.__class__") "getset_descriptor":=ae0;have e:=ae0;have b:=F.slot_gs_get.lookup;have U:=F.slot_gs_set.lookup;have B:=looks_findIn (M:=bq prog w) X c.cl
 repeat (any_goals (first|assumption|(with_reducible refine KL j ?_;rw[q])|with_reducible refine B.at ?_|wp_step))
 refine afG c X j q ?_
 repeat (any_goals (first|assumption|wp_step))
theorem afI{M:ec}{j:ar}{Q:Unit->aw->Prop}(c:XC K C)(X:K.In h)(q:h.get? a=ak o)(b:o.cls=.ref C)(B:Q () ⟨h,g,d,t,os⟩) :
  wpAny M A (checkBuiltinCall "BaseException.__getattribute__" ⟨[.ref a,j],[]⟩) Q E ⟨h,g,d,t,os⟩:=by
 have L:Looks M h (isInstance (.ref a) (.type "BaseException")) ax:=by
  refine PySem.W.Looks.andThen (a:=.ref C) ?_ (looks_subIn X c.be);rw[<-b];exact(PySem.W.Looks.ld q).andThen .now
 have U:builtinKind "BaseException.__getattribute__" = ak .slot:=by decide +kernel
 have z:splitId "BaseException.__getattribute__" = ak ("BaseException", "__getattribute__"):=by decide +kernel
 have ha:=F.args_bexc_ga (.ref a) j;exact PySem.W.check_slot (i := "BaseException.__getattribute__") (owner := "BaseException") (n := "__getattribute__") (self:=.ref a) (rest:=[j]) (kw:=[]) (s:=⟨h,g,d,t,os⟩) U z L ha B
theorem afJ{tk:Tok}{fill expr:bh}{Q:ar->aw->Prop}(c:XC K C)(X:K.In h)(q:h.get? a=ak o)(z:o.cls=.ref C)(b:Q (.ref C) ⟨h,g,d,t,os⟩) :
  wpAny (bq prog w) A (getAttrBy (.ref a) (.str "__class__" tk) fill expr) Q E ⟨h,g,d,t,os⟩:=by
 have e:=PySem.F.excAttr_ValueError.ga.bind (.ref a);have U:(expr&&onTheHeap (Value.builtin "BaseException.__getattribute__"))=au:=by cases expr <;> rfl
 have j:(Value.builtin "BaseException.__getattribute__" == Value.builtin "object.__getattribute__")=au:=by decide +kernel
 have B:(onTheHeap (Value.ref C)&&Value.builtin "BaseException.__getattribute__" == Value.builtin "object.__getattribute__")=au:=by rw[j];rfl
 have L:=looks_findIn (M:=bq prog w) X c.ga;have L2:=looks_findIn (M:=bq prog w) X c.gt
 repeat (any_goals (first|assumption|(with_reducible refine KL q ?_;rw[z])|with_reducible refine L.at ?_|with_reducible refine L2.at ?_|wp_step))
 refine ab4 PySem.F.excAttr_ValueError.ga.plain F.entry_bexc_ga (afI c X q z (afH c X q z ?_))
 repeat (any_goals (first|assumption|wp_step))
theorem afK{Q:av ar->aw->Prop}(c:XC K C)(X:K.In h)(j:h.get? a=ak o)(q:o.cls=.ref C)(z:Q (ak (.ref C)) ⟨h,g,d,t+1,os⟩) :
  wpAny (bq prog w) A (getAttr? (.ref a) "__class__") Q E ⟨h,g,d,t,os⟩:=by
 unfold getAttr? getAttrBy?
 repeat (any_goals (first|assumption|with_reducible apply afJ c X j q|wp_step))
end
section
variable{K:bj}{C D x:ay}{oe:cp}{b:bh}
theorem XC.get(c:XC K C):∃cd,PySem.W.clsIn K C=ak cd/\cd.mro.isEmpty=au/\cd.mro.contains (.ref C)=ax/\PySem.W.typeIn K (.ref C)=ak (.type "type"):=by
 obtain⟨nm,q,N,bs,bm,j,sn,sub,z,col,b,k0,a,U,L,B,e⟩:=c.ob;refine⟨{name:=nm,bases:=bs,mro:=.ref C::bm,ns:=N,qualname:=q,hasDict:=j,slotNames:=sn,subclasses:=sub,abstract:=z,collection:=col,hasDel:=au},?_,rfl,?_,?_⟩
 ·unfold PySem.W.clsIn;rw[e]
 ·simp
 ·show(K.lookup C).map (·.cls)=_;rw[e];rfl
theorem XC.isType(c:XC K C){M:ec}{h:bz}(X:K.In h):Looks M h (PySem.isType (.ref C)) ax:=by
 obtain⟨nm,q,N,bs,bm,j,sn,sub,b,col,a,k0,U,L,B,z,e⟩:=c.ob;intro g d f s' k q;unfold PySem.isType loadHead;exact aI (wpAny_loadPart (k _ _ (X _ _ e)) (bC q))
theorem at6(c:XC K D)(L:oe.cls=.ref D):PySem.W.KitX K (.ref x) (.ref D) (λh=>h.get? x=ak oe)where
 ty:=λM h _ p=>L ▸ (PySem.W.Looks.ld p).andThen .now
 it:=λ_ _ X _=>c.isType X
 ne:=λh tp b v n sl X j=>by
  obtain⟨i,q,N,bs,bm,B,f,sub,u,col,b,k0,r,o,m,l,e⟩:=c.ob;refine Bool.eq_false_iff.mpr λq=>?_;have a:D=tp:=Value.ref.inj (uW.mp q);subst a;have z:=nV ((X _ _ e).symm.trans j);have U:=cz Obj.data z;cases U
 ca:=λ{_ _ _ _ _ s} X p k=>by obtain⟨h,g,d,t,os⟩:=s;exact afK c X p L k
theorem at8(L:XC K D)(U:XC K C)(s:b7 K (.ref D) (.ref C)=ak b):eu K (.ref D) (.ref C)=ak b:=by
 unfold eu;split
 ·rename_i q;have e:D=C:=Value.ref.inj (uW.mp q);subst e;obtain⟨B,h1,h2,z,_⟩:=L.get;change mroIn K D (.ref D)=ak b at s;unfold mroIn at s;rw[h1]at s;simp only[Option.bind_some,h2,z]at s;simpa using s
 ·obtain⟨B,h1,_,_,j⟩:=U.get;unfold PySem.W.kitCls;simp only[h1,j];exact s
theorem at7{T:cj}(s:b7 K (.ref D) (.type T)=ak b)(hT:PySem.W.kitMeta T=ax):eu K (.ref D) (.type T)=ak b:=by
 unfold eu;rw[ba (by simp)];unfold PySem.W.kitCls;simp only[hT];exact s
theorem auA:PySem.W.kitMeta "ValueError" = ax:=by kernel_rfl
end
noncomputable def Cx.rW(X:Cx)(x:ay)(oe:cp):Cx:={X with A:=X.A.mark (ak (.ref x)),calm:=au,pn:=X.pn++[(x,oe)],xe:=λ_ _=>ck}
theorem Cx.Ok.rW{X:Cx}(ok:X.Ok)(x:ay)(oe:cp):(X.rW x oe).Ok :=
 ⟨ok.mod,ok.kind,ok.glob,ok.blt,ok.above,ok.inj,ok.has,ok.EG,λh=>Bool.noConfusion h,ok.frames,ok.sW,ok.DX,ok.bs,ok.rX,ok.xT,ok.AM,ok.pS,ok.uT⟩
section
variable{X:Cx}{J:St}{H:Hp}{s:aw}{x:ay}{oe:cp}
theorem Inv.rW(I:Inv X [] J H s)(p:s.heap.get? x=ak oe/\H x=aq/\x≠X.env.locals/\x∉X.fs/\∀v,oe.data≠.cell v):Inv (X.rW x oe) [] J H s :=
 ⟨I.ok.rW x oe,I.os,I.bare,I.base,I.loc,I.cell,I.free,I.mP,λq j=>by
  have j:q∈(X.pn++[(x,oe)])++[]:=j;rw[pY]at j
  rcases hX.mp j with z|z
  ·exact I.pin q (mD _ z)
  ·rw[kL.mp z];exact p,I.aL,I.len⟩
theorem Inv.uncaught(ok:X.Ok)(I:Inv (X.rW x oe) [] J H s):Inv X [] J H s :=
 ⟨ok,I.os,I.bare,I.base,I.loc,I.cell,I.free,I.mP,λq j=>I.pin q (by
  rw[pY]at j ⊢;exact mD _ j),I.aL,I.len⟩
theorem mE.pin{cls:ar}{dx:av ay}{tb:bh}(I:Inv X [] J H s)(t:mQ X)(e:mE X.s₀.heap s.heap H x cls dx tb):∃oe vs,oe.cls=cls/\oe.dict=dx/\oe.data=.fields vs/\s.heap.get? x=ak oe/\H x=aq/\x≠X.env.locals/\x∉X.fs/\∀v,oe.data≠.cell v:=by
 obtain⟨_,q,oe,vs,he,B,L,hd,_⟩:=e;have j:=mE.UA I he hd;exact⟨oe,vs,B,L,hd,he,q,λz=>j (t.mem.mpr (.inl z)),λz=>j (t.mem.mpr (.inr z)),λv z=>by rw[hd]at z;cases z⟩
def am1(K:bj)(x:ay)(cls:ar):ao V->Hp->VK->Prop:=λxs H Q=>∃D,cls=.ref D/\XC K D /\
 ((∃C b,xs=[.ref x,.ref C]/\eu K cls (.ref C)=ak b/\Q (.bl b) H)\/(∃T b,xs=[.ref x,.ty T]/\eu K cls (.type T)=ak b/\Q (.bl b) H) \/
  ∃(p:ay) (cs:ao ay) (b:bh),xs=[.ref x,.ref p]/\H p=ak (.tup (cs.map V.ref))/\kitAny K cls (cs.map Value.ref)=ak b/\Q (.bl b) H)
theorem Sv:∀{cs:ao ay} {us:ao ar},Vals (cs.map V.ref) us->us=cs.map Value.ref
 |[],_,.nil=>rfl
 |_::_,_,.cons r t=>by rw[dJ,<-Sv t];congr
theorem aFS(i:(x,oe)∈X.pn):oX X (.builtin "isinstance") (am1 X.K x oe.cls):=by
 intro aa s J H k l Q I r h;obtain⟨D,d,c,h⟩:=h;have he:=(I.pin _ (mD _ i)).1;have Ω:=at6 (x:=x) c d;rw[d]at h
 rcases h with⟨C,b,rfl,e,q⟩|⟨T,b,rfl,e,q⟩|⟨p,y,b,rfl,U,e,q⟩
 ·obtain⟨u,v,rfl,B,j⟩:=vals2 r;obtain rfl:u=.ref x:=B;obtain rfl:v=.ref C:=j;exact d0 Ω I.gG he e (by intro z;cases z) λtk=>⟨.bl b,H,I.tok tk,rfl,q⟩
 ·obtain⟨u,v,rfl,B,j⟩:=vals2 r;obtain rfl:u=.ref x:=B;obtain rfl:v=.type T:=j;exact d0 Ω I.gG he e (by intro z;cases z) λtk=>⟨.bl b,H,I.tok tk,rfl,q⟩
 ·obtain⟨u,v,rfl,B,j⟩:=vals2 r;obtain rfl:u=.ref x:=B;obtain rfl:v=.ref p:=j;obtain⟨_,A,f,⟨o,a,lI,n,L⟩⟩:=I.aL p _ U;obtain⟨t,m,g,w⟩:=o;simp only at lI L;subst lI L;rw[Sv f]at a;exact PySem.W.kia_tup Ω I.gG he a e (by intro z;cases z) λtk=>⟨.bl b,H,I.tok tk,rfl,q⟩
end
section
variable{M:ec}{A:bu}{E:ar->aw->Prop}{h:bz}{g:a6 GenState}{d:Drawn}{t:a4}{os:c6}{e:ay}{oe:cp}{K:bj}{C D:ay}{b:bh}
theorem afF{Q:bh->aw->Prop}(z:XC K C)(X:K.In h)(he:h.get? e=ak oe)(U:oe.cls=.ref D)(sb:b7 K (.ref D) (.ref C)=ak b)(B:Q b ⟨h,g,d,t,os⟩) :
  wpAny M A (excMatches (.ref e) (.ref C)) Q E ⟨h,g,d,t,os⟩:=by
 obtain⟨l,q,N,bs,bm,j,k,sub,s,col,r,k0,p,o,n,m,i⟩:=z.ob;have a:=X _ _ i;have L:=looks_subIn (M:=M) X sb;have c:=looks_subIn (M:=M) X z.be;have f:=tc_notTuple;unfold excMatches
 repeat (first|(with_reducible refine KL he ?_;rw[U])|with_reducible refine KL a ?_|with_reducible refine c.at ?_|with_reducible refine L.at ?_|wp_step)
 cases b <;> (wp_walk;exact B)
end
theorem WJ{X:Cx}{M:ec}{A:bu}{E:ar->aw->Prop}{J:St}{H:Hp}{s:aw}{i:a4}{n:a9}{pos:dg}{Q:Unit->aw->Prop}(I:Inv X [] J H s)(t:X.N.Nodup)(hi:X.N[i]?=ak n)(hl:X.env.scope.names.lookup n=ak .local)
  (h:∀s',Inv X [] (J.set i aq) H s'->Q () s'):wpAny M A (do bindName X.env n .none;unbindBehindTheSuite X.env n pos) Q E s:=by
 refine aI (wpAny_bindName (LH (v:=.bQ) I t hi (.inl hl) rfl (λs1 B=>?_) (.inr hl)));unfold unbindBehindTheSuite;refine wpAny_onRaise ?_;have V:(X.env.scope.kind == .class||(X.env.scope.kind == .module&&X.env.locals != X.env.globals))=au:=by rw[I.ok.kind];rfl
 obtain⟨m,hn,w⟩:=id B.loc;have C:i<J.length:=by rw[I.len];exact(cR.mp hi).1
 have hv:m n=ak .none:=by
  obtain⟨u,G,l⟩:=w i n .bQ hi (by rw[fP C]) (.inl hl);obtain rfl:u=Value.none:=G
  rcases l with⟨_,l⟩|⟨k,_⟩
  ·exact l
  ·have W:X.env.kindOf n=ak .local:=hl
   rcases k with k|k <;> (rw[W]at k;cases k)
 refine wpAny_unbindName_local hl hn hv V λh' u Hl L=>?_;have uV:=B.uV;obtain⟨oL,_,_,rS,_⟩:=id hn;refine h _ ⟨B.ok,B.os,B.bare,⟨λb o e nn hb U=>?_,λb o e nn hb U=>?_,B.base.free,λb o e U=>?_,B.base.oF,B.base.nQ,B.base.oG⟩,⟨_,Hl,λj y D e1 f T=>?_⟩,λy c e=>?_,B.free,B.mP,λp S=>?_,λb ob e=>?_,by simpa using I.len⟩
 ·exact(L.2 b (fX (lN (eI e) B.ok.above))).trans (B.base.keep b o e nn hb U)
 ·obtain⟨sl,e1⟩:=B.base.slot b o e nn hb U;exact⟨sl,(L.2 b (fX (lN (eI e) B.ok.above))).trans e1⟩
 ·obtain⟨P,e1⟩:=B.base.there b o e U;exact⟨P,(L.2 b (fX (lN (eI e) B.ok.above))).trans e1⟩
 ·have g:j≠i:=λz=>by
   subst z;rw[fP C]at f;cases f
  rw[eP (cQ g)]at f;obtain⟨F,K,q⟩:=w j y D e1 (by rw[eP (cQ g)];exact f) T;refine⟨F,K,?_⟩
  rcases q with⟨k,e⟩|⟨k,c,e,z⟩
  ·refine .inl ⟨k,?_⟩;have:y≠n:=λe=>g (Ew t e1 (e ▸ hi));simp[this,e]
  ·exact .inr ⟨k,c,e,z.sameBut L (uV y c e)⟩
 ·obtain⟨r,z⟩:=B.cell y c e;exact⟨r,z.sameBut L (uV y c e)⟩
 ·obtain⟨e,nn,ne,R,d⟩:=B.pin p S;exact⟨(L.2 p.1 ne).trans e,nn,ne,R,d⟩
 ·refine(B.aL b ob e).qX (λc r a q=>(L.2 c ?_).trans q) (λ_ q=>q) λ_ _ q=>q;rintro rfl;have x:=B.free
  rcases a with rfl|a
  ·rw[x]at e;cases e
  ·rw[x]at a;cases a
def YA(X:Cx)(st:bw)(t:TS):Prop:=∀(s:aw) (J:St) (H:Hp) (D:Ends),Inv X [] J H s->t D J H->wpAny (bq X.prog X.w) X.A (exec st X.env) (SP X [] D) X.xe s
def vA(X:Cx)(st:ao bw)(t:TS):Prop:=∀(s:aw) (J:St) (H:Hp) (D:Ends),Inv X [] J H s->t D J H->wpAny (bq X.prog X.w) X.A (execs st X.env) (SP X [] D) X.xe s
theorem PS.Eg{X:Cx}{st:bw}{t:TS}(h:PS X st t):YA X st t:=h []
theorem pX.Eg{X:Cx}{st:ao bw}{t:TS}(h:pX X st t):vA X st t:=h []
theorem aoE{X:Cx}{st:bw}{rest:ao bw}{t u:TS}(h1:YA X st t)(h2:vA X rest u):vA X (st::rest) (Aw t u):=by
 intro s J H D I h;refine wpAny_execs_cons (bM (h1 s J H {D with nx:=u D} I h) λf z q=>?_);cases f with
 |next =>
  obtain⟨j,L,B,q⟩:=q;exact h2 z j L D B q
 |brk=>exact q
 |cont=>exact q
 |ret u=>exact q
abbrev TH:=ay->ar->av ay->TS
def PH(X:Cx)(j:ao ExceptHandler)(th:TH):Prop:=∀(s:aw) (J:St) (H:Hp) (D:Ends) (x:ay) (cls:ar) (dx:av ay),Inv X [] J H s->mE X.s₀.heap s.heap H x cls dx ax->th x cls dx D J H ->
 wpAny (bq X.prog X.w) X.A (handleBy (.ref x) X.env j) (SP X [] D) X.xe s
def Tz:TH:=λ_ _ _ _ _ _=>ck
theorem apC{X:Cx}:PH X [] Tz:=λ_ _ _ _ _ _ _ _ _ h=>h.elim
noncomputable def Ends.drop(D:Ends)(i:a4):Ends:=⟨λJ H=>D.nx (J.set i aq) H,D.rt,λJ H=>D.bk (J.set i aq) H,λJ H=>D.ct (J.set i aq) H⟩
def tH(K:bj)(C:ay)(i:a4)(ts th:TH):TH:=λx cls dx D J H=>∃E b,cls=.ref E/\b7 K (.ref E) (.ref C)=ak b /\
 if b=ax then ts x cls dx (D.drop i) (J.set i (ak (.ref x))) H else th x cls dx D J H
section
variable{X:Cx}{C:ay}{i:a4}{n y:a9}{np pos:dg}{b₀:bw}{suite:ao bw}{rest:ao ExceptHandler}{ts th:TH}
theorem apD(t:mQ X)(c:XC X.K C)(G:Gl X y)(hm:X.mg y=ak (.ref C))(a:X.N.Nodup)(hi:X.N[i]?=ak n)(hl:X.env.scope.names.lookup n=ak .local)(A:∀x oe,pX (X.rW x oe) (b₀::suite) (ts x oe.cls oe.dict))(hr:PH X rest th)
  (Q:(y==("__debug__" : a9))=au:=by decide):PH X (.ExceptHandler (ak (.Name y np)) (ak n) (b₀::suite) pos::rest) (tH X.K C i ts th):=by
 intro s J H D x cls R I ex h;obtain⟨E,b,rfl,sb,h⟩:=h;obtain⟨oe,vs,P,NL,hd,he,F⟩:=ex.pin I t;have T:=I.rW (x:=x) (oe:=oe) ⟨he,F⟩;refine wpAny_handleBy_cons (codeAny_handlers_test (HL (X:=X.rW x oe) (s:=s) T G hm ?_ Q)) (by intro q;cases q);obtain⟨hh,g,d,tk,os⟩:=s;refine afF c I.gG he P sb ?_;cases b with
 |false =>
  exact hr _ J H D x _ R I ex (by simpa using h)
 |true =>
  rw[a7 rfl]at h;refine codeAny_handlers_suite_as (WD I t ex λh1 p k=>?_);obtain⟨o,w,V,l,M,S,e⟩:=k.pin p t;have m:=p.rW (x:=x) (oe:=o) ⟨S,e⟩;refine LH (X:=X.rW x o) (v:=.ref x) m a hi (.inl hl) rfl (λs2 W=>?_) (.inr hl);rw[<-V,<-l]at h;refine oB (A x o [] s2 (J.set i (ak (.ref x))) H (D.drop i) W h) (λf s3 q=>?_) λ_ _ z=>False.elim z;cases f with
  |next =>
   obtain⟨j,L,B,q⟩:=q;exact WJ (B.uncaught I.ok) a hi hl λs' U=>⟨_,L,U,q⟩
  |brk =>
   obtain⟨j,L,B,q⟩:=q;exact WJ (B.uncaught I.ok) a hi hl λs' U=>⟨_,L,U,q⟩
  |cont =>
   obtain⟨j,L,B,q⟩:=q;exact WJ (B.uncaught I.ok) a hi hl λs' U=>⟨_,L,U,q⟩
  |ret u =>
   obtain⟨v,j,L,B,r,q⟩:=q;exact WJ (B.uncaught I.ok) a hi hl λs' U=>⟨v,_,L,U,r,q⟩
def Tw(tb:WX->TS)(th:TH):TS:=λD J H=>tb (λj cls dx H'=>∀x,H' x=aq->th x cls dx D j H') D J H
theorem aoG{U:ExceptHandler}{L:ao ExceptHandler}{body:ao bw}{tb:WX->TS}(t:mQ X)(i:X.ex=[])(hb:∀W,vA (X.nG (XE X W)) body (tb W))(hh:PH X (U::L) th):YA X (.Try body (U::L) [] [] pos) (Tw tb th):=by
 intro s J H D I h;refine wpAny_Try_except (oB (hb _ s J H D (I.nG _) h) (λf b q=>?_) λe b q=>?_)
 ·have q:=q.uB;cases f with
  |next =>
   obtain⟨j,B,z,q⟩:=q;exact RO ⟨j,B,z,q⟩
  |brk=>exact q
  |cont=>exact q
  |ret u=>exact q
 ·obtain⟨j,B,x,cls,c,rfl,z,ex,q⟩:=q;refine Eu z t ex λh1 g e1=>WD g t e1 λh2 d a=>?_;exact hh _ j B D x cls c d a (q x a.2.1)
end
section
variable{P:bg}{w:br}{K:bj}{mg:a9->av ar}{base:bz}
theorem aBW{CX:pZ}{k:a4}{f:ay}{name af:a9}{params:Arguments}{body:ao bw}{scope:da}{d kV doc a z ct l:ar}{g od:av ay}
  {D:a6 (av ar)} {N ps:ao a9} {sp:Sp} (m:K.lookup f=ak ⟨l,od,.func (fnOf name af params body scope d kV doc a g z ct),D⟩) (p:codeIn K z af=ax) (S:cE N ps scope)
  (len:∀vs H Q E,sp vs H Q E->vs.length=ps.length)
  (C:∀(A:bu) (outer:ao Env) (s:aw) (H:Hp) (vs:ao V) (Q:VK) (E:XK),dP k (A.deeper (c7 af scope s.heap.objs.size f z))->sp vs H Q E ->
   ∃t,vA (oR CX P w K mg base N af scope f z A outer s H E) body t/\t {nx:=λ_ H'=>Q .bQ H',rt:=Q} (start N vs) H) :
  jR P w K mg base CX (k+1) f (fnOf name af params body scope d kV doc a g z ct) ps sp:=by
 refine⟨len,λA outer s H args i vs Q E hr e0 hb r c=>?_⟩;have hl:=len _ _ _ _ c;have h:K.In s.heap:=e0.mod.zY.keeps λb o e=>(e0.bs b o e).1;have lim:s.heap.NoLimit:=e0.mod.nolimit.keeps λb o e=>(e0.bs b o e).1;have R:∀y∈ps.zip i,scope.names.lookup y.1=ak .local\/(scope.names.lookup y.1=ak .cell/\((cellsFrom (s.heap.objs.size+1) scope.names []).lookup y.1).isSome=ax):=λ⟨n,v⟩ F=>by
  rcases S.par n (Ol F).1 with q|q
  ·exact .inl q
  ·exact .inr ⟨q,cellsFrom_some _ _ _ (.inl q)⟩
 refine codeAny_call_function hr.depth (h _ _ m) rfl S.co S.gen rfl (PySem.W.codeRec_of h p) (hb _ _ _ _ ?_);refine wpAny_newFunctionEnv_cells S.kind R λenv he U x=>?_;subst he;refine⟨lim.keeps x.toInCall.keep,codeAny_func ?_⟩;obtain⟨t,G,M⟩:=C A outer s H vs Q E (hr.deeper _) c;have I:Inv (oR CX P w K mg base N af scope f z A outer s H E) [] (start N vs) H U:=Zd S hr.hd e0 hl r x;refine oB (G U (start N vs) H _ I M) (λfl s' B=>?_) λe s' B=>B;have fin:∀{j:St} {H':Hp} {v:V} {u:ar},Inv (oR CX P w K mg base N af scope f z A outer s H E) [] j H' s'->RelV v u->Q v H'->CE outer P w H s Q u s' :=
  λ{j H' v u} σ L q=>⟨v,H',σ.os,σ.bare,σ.base,σ.aL,L,q⟩
 cases fl with
 |ret u =>
  obtain⟨v,j,H',σ,L,q⟩:=B;exact fin σ L q
 |next =>
  obtain⟨j,H',σ,q⟩:=B;exact fin (v:=V.bQ) (u:=Value.none) σ rfl q
 |brk =>
  obtain⟨_,_,_,q⟩:=B;exact False.elim q
 |cont =>
  obtain⟨_,_,_,q⟩:=B;exact False.elim q
theorem vA.uJ{X:Cx}{st:ao bw}{t:TS}(h:vA X.uJ st t):vA X st t:=λs J H D I hw =>
 oB (h s J H D (I.nG _) hw) (λ_ _ q=>q.uB) λ_ _ z=>False.elim z
theorem Def.of0{x:a9}{st:bw}{N ps:ao a9}{k:a4}{sp:Sp}(h:HasFn K mg x st)(S:cE N ps (bB st))
  (bind:∀(kV doc pm:ar) (an:av ay) (j ct:ar) (us:ao ar),us.length=ps.length->ei (fnOf x x (lL st) (fV st) (bB st) .none kV doc pm an j ct) ⟨us,[]⟩=pure (ps.zip us))
  (len:∀vs H Q E,sp vs H Q E->vs.length=ps.length)
  (L:∀(f:ay) (j:ar) (A:bu) (outer:ao Env) (s:aw) (H:Hp) (vs:ao V) (Q:VK) (E:XK),dP k (A.deeper (c7 x (bB st) s.heap.objs.size f j))->sp vs H Q E ->
   ∃t,vA (oR zH P w K mg base N x (bB st) f j A outer s H E).uJ (fV st) t/\t {nx:=λ_ H'=>Q .bQ H',rt:=Q} (start N vs) H):Def P w K mg base x (k+1) ps sp:=by
 obtain⟨f,fd,hm,F⟩:=h.ex;refine⟨f,fd,?_,hm,F.kp,F.binds bind⟩;obtain⟨b,a,kV,doc,pm,an,j,ct,c,rfl,z,B⟩:=F.ex;refine aBW z B S len λA outer s H vs Q E hr U=>?_;obtain⟨t,h,q⟩:=L f j A outer s H vs Q E hr U;exact⟨t,h.uJ,q⟩
end
noncomputable def Ga(scope q:da)(N:ao a9)(js:ao a4):bh :=
 scope.kind == .function&&(scope.names.all λy=>y.2 != .cell&&(y.2 != .local||scope.names.lookup y.1==ak .local)&&(y.2 != .free||(q.names.lookup y.1==ak .cell||q.names.lookup y.1==ak .free))) &&
 js.all λj=>match N[j]? with
  |some x=>scope.names.lookup x==ak .free
  |none=>au
theorem BB.of{X:Cx}{scope:da}{ls:ao a9}{js:ao a4}(sc:da)(N:ao a9)(b:X.env.scope=sc)(a:X.N=N)(ok:Ga scope sc N js=ax):BB X scope ls js:=by
 unfold Ga at ok;rw[lF,lF]at ok;obtain⟨⟨h1,h2⟩,L⟩:=ok;rw[JQ]at h2 L;refine⟨by simpa using h1,λy z=>?_,λy z hl=>?_,λy z hf=>?_,λj U=>?_⟩
 ·have q:=h2 y z;rw[lF,lF]at q;simpa using q.1.1
 ·have q:=h2 y z;rw[lF,lF]at q;simpa[hl]using q.1.2
 ·have q:=h2 y z;rw[lF,lF]at q;have B:=q.2;rw[hf]at B;unfold Env.kindOf;rw[b];simpa using B
 ·have q:=L j U;rw[a];cases e:N[j]? with
  |none=>rw[e]at q;cases q
  |some x=>rw[e]at q;exact⟨x,rfl,by simpa using q⟩
end L2
namespace PyProof.Rows
open PySem
noncomputable def qN:bh->a8->a6 a8->a4->a4->a4->c3 bo Sem (av a4):=sortPriv% PySem.Builtin.gallop
noncomputable def zQ:a4->c3 bo Sem Unit:=sortPriv% PySem.Builtin.setMinGallop
noncomputable def MJ:a6 a8->a6 a8->c3 bo Sem (a6 a8):=sortPriv% PySem.Builtin.mergeLo
noncomputable def MK:a6 a8->a6 a8->c3 bo Sem (a6 a8):=sortPriv% PySem.Builtin.mergeHi
def iO(M:ec)(A:bu)(E:ar->aw->Prop)(s:aw)(kd:dj)(P:a8->Prop)(rk:a8->az):Prop :=
 ∀x y,P x->P y->∀(st:bo) (Q:av bh->bo->Prop),kindOf st=kd->Q (ak (decide (rk x<rk y))) st->wpS M A E s (lt' x y) Q st
theorem aBB(left:bh)(key:a8)(arr:a6 a8)(base n ah:a4):qN left key arr base n ah=(do
 let beyond (i:a4):c3 bo Sem (av bh):=do
  let x<-cm arr (base+i)
  if left then lt' x key else return (<-lt' key x).map (!·)
 let mut rR:=0
 let mut iT:=1
 let mut lo:=0
 let mut hi:=0
 let ak right<-beyond ah|return aq
 if right then
  let j:=n-ah
  for _ in [0:n] do
   if iT>=j then break
   let ak more<-beyond (ah+iT)|return aq
   if !more then break
   rR:=iT
   iT:=2*iT+1
  lo:=ah+rR+1
  hi:=ah+min iT j
 else
  let j:=ah+1
  for _ in [0:n] do
   if iT>=j then break
   let ak found<-beyond (ah-iT)|return aq
   if found then break
   rR:=iT
   iT:=2*iT+1
  lo:=ah+1-min iT j
  hi:=ah-rR
 for _ in [0:n] do
  if lo>=hi then break
  let m:=lo+(hi-lo)/2
  let ak more<-beyond m|return aq
  if more then lo:=m+1 else hi:=m
 return ak hi):=rfl
section
variable{M:ec}{A:bu}{E:ar->aw->Prop}{s:aw}{kd:dj}{P:a8->Prop}{rk:a8->az}
theorem af2(z:iO M A E s kd P rk){st:bo}(q:kindOf st=kd){left:bh}{key:a8}{arr:a6 a8}{base i:a4}{x:a8}(j:P key)(L:arr[base+i]?=ak x)(B:P x){Q:av bh->bo->Prop}
  (h:Q (ak (if left then decide (rk x<rk key)else !decide (rk key<rk x))) st):wpS M A E s (do
  let x<-cm arr (base+i)
  if left then lt' x key else return (<-lt' key x).map (!·)) Q st:=by
 have e:cm arr (base+i)=pure x:=by rw[elem'_eq,L]
 rw[e,pure_bind];cases left with
 |true=>exact z x key B j st Q q h
 |false=>exact bJ (z key x j B st _ q (dB h))
noncomputable def aa9(left:bh)(key:a8)(arr:a6 a8)(base n j q:a4):c3 bo Sem (av a4):=do
 let beyond (i:a4):c3 bo Sem (av bh):=do
  let x<-cm arr (base+i)
  if left then lt' x key else return (<-lt' key x).map (!·)
 let mut lo:=j
 let mut hi:=q
 for _ in [0:n] do
  if lo>=hi then break
  let m:=lo+(hi-lo)/2
  let ak more<-beyond m|return aq
  if more then lo:=m+1 else hi:=m
 return ak hi
theorem Rw{st:bo}{left:bh}{key:a8}{arr:a6 a8}{base n:a4}(q:a4->bh)
  (p:∀i,i<n->∀{Q:av bh->bo->Prop},Q (ak (q i)) st->wpS M A E s (do
  let x<-cm arr (base+i)
  if left then lt' x key else return (<-lt' key x).map (!·)) Q st) (mono:∀i j,i<=j->j<n->q j=ax->q i=ax) {Q:av a4->bo->Prop}
  (h:∀k,k<=n->(∀i,i<k->q i=ax)->(∀i,k<=i->i<n->q i=au)->Q (ak k) st) {lo hi:a4} (h1:lo<=hi) (h2:hi<=n) (m:∀i,i<lo->q i=ax) (l:∀i,hi<=i->i<n->q i=au) :
  wpS M A E s (aa9 left key arr base n lo hi) Q st:=by
 unfold aa9;dsimp only;refine bJ (oA (qC
  (I:=λi (c:av (av a4)×a4×a4) z=>z=st/\c.1=aq/\c.2.1<=c.2.2/\c.2.2<=n/\(∀i,i<c.2.1->q i=ax)/\(∀i,c.2.2<=i->i<n->q i=au)/\c.2.2-c.2.1<=n-i)
  (Q:=λ(c:av (av a4)×a4×a4) z=>z=st/\c.1=aq/\c.2.1=c.2.2/\c.2.2<=n/\(∀i,i<c.2.1->q i=ax)/\(∀i,c.2.2<=i->i<n->q i=au)) ?step ?fin ⟨rfl,rfl,h1,h2,m,l,by dsimp only;omega⟩) ?post)
 case fin =>
  rintro⟨r,lo,hi⟩ z ⟨e,e0,d,U,L,B,o⟩;dsimp only at *;exact⟨e,e0,by omega,U,L,B⟩
 case step =>
  rintro i ⟨r,lo,hi⟩ z _ t ⟨rfl,e0,d,U,L,B,o⟩;dsimp only at *
  by_cases f:lo>=hi
  ·rw[a7 f];exact c5 ⟨rfl,rfl,by dsimp only;omega,U,L,B⟩
  ·rw[ba f];refine bJ (p (lo+(hi-lo)/2) (by omega) ?_);dsimp only;cases hm:q (lo+(hi-lo)/2)with
   |true =>
    simp only[fI];refine c5 ⟨rfl,rfl,by dsimp only;omega,U,λj a=>mono j _ (by dsimp only at a;omega) (by omega) hm,B,by dsimp only;omega⟩
   |false =>
    simp only[kD,gC];refine c5 ⟨rfl,rfl,by dsimp only;omega,by dsimp only;omega,L,λj a g=>?_,by dsimp only;omega⟩;dsimp only at a;cases b:q j with
    |false=>rfl
    |true=>rw[mono _ j a g b]at hm;cases hm
 case post =>
  rintro⟨r,lo,hi⟩ z ⟨rfl,e0,d,U,L,B⟩;dsimp only at *;subst e0;exact dB (h hi U (by rw[<-d];exact L) B)
theorem Ru(y:iO M A E s kd P rk){st:bo}(w:kindOf st=kd){left:bh}{key:a8}{arr:a6 a8}{base n ah:a4}(u:P key)(m:∀i,i<n->∃x,arr[base+i]?=ak x/\P x)(hh:ah<n)(B:a4->bh)
  (hb:∀i x,i<n->arr[base+i]?=ak x->B i=if left then decide (rk x<rk key)else !decide (rk key<rk x)) (mono:∀i j,i<=j->j<n->B j=ax->B i=ax) {Q:av a4->bo->Prop}
  (h:∀k,k<=n->(∀i,i<k->B i=ax)->(∀i,k<=i->i<n->B i=au)->Q (ak k) st):wpS M A E s (qN left key arr base n ah) Q st:=by
 have l:∀i,i<n->∀{Q:av bh->bo->Prop},Q (ak (B i)) st->wpS M A E s (do
  let x<-cm arr (base+i)
  if left then lt' x key else return (<-lt' key x).map (!·)) Q st:=λi hi Q q=>by
  obtain⟨x,t,v⟩:=m i hi;rw[hb i x hi t]at q;exact af2 y w u t v q
 rw[aBB];dsimp only;refine bJ (l ah hh ?_);dsimp only;cases g:B ah with
 |true =>
  simp only[fI];refine bJ (oA (qC
   (I:=λi (c:av (av a4)×a4×a4) U=>U=st/\c.1=aq/\B (ah+c.2.1)=ax/\c.2.1<c.2.2/\i+1<=c.2.2/\ah+c.2.1<n)
   (Q:=λ(c:av (av a4)×a4×a4) U=>U=st/\c.1=aq/\B (ah+c.2.1)=ax/\c.2.1<c.2.2/\ah+c.2.1<n/\(n-ah<=c.2.2\/B (ah+c.2.2)=au)) ?step ?fin (show _/\_/\B (ah+0)=ax/\(0:a4)<1/\0+1<=(1:a4)/\ah+0<n from⟨rfl,rfl,g,by decide,by decide,hh⟩)) ?post)
  case fin =>
   rintro⟨r,rR,iT⟩ U ⟨e,e0,L,b,p,a⟩;dsimp only at *;exact⟨e,e0,L,b,a,.inl (by omega)⟩
  case step =>
   rintro i ⟨r,rR,iT⟩ U _ f ⟨rfl,e0,L,b,p,a⟩;dsimp only at *
   by_cases d:iT>=n-ah
   ·rw[a7 d];exact dB ⟨rfl,rfl,L,b,a,.inl d⟩
   ·rw[ba d];refine bJ (l (ah+iT) (by omega) ?_);dsimp only;cases hm:B (ah+iT)with
    |true =>
     simp only[Bool.not_true,kD,gC];exact c5 ⟨rfl,rfl,hm,by dsimp only;omega,by dsimp only;omega,by dsimp only;omega⟩
    |false =>
     simp only[Bool.not_false,fI];exact dB ⟨rfl,rfl,L,b,a,.inr hm⟩
  case post =>
   rintro⟨r,rR,iT⟩ U ⟨rfl,e0,L,b,a,o⟩;dsimp only at *;subst e0;refine Rw (lo:=ah+rR+1) (hi:=ah+min iT (n-ah)) B (λi hi=>l i hi) mono h (by omega) (by omega) (λi hi=>mono i (ah+rR) (by omega) (by omega) L) (λi hi f=>?_)
   rcases o with z|z
   ·omega
   ·cases VQ:B i with
    |false=>rfl
    |true =>
     by_cases hle:ah+iT<=i
     ·rw[mono _ i hle f VQ]at z;cases z
     ·omega
 |false =>
  simp only[kD,gC];refine bJ (oA (qC
   (I:=λi (c:av (av a4)×a4×a4) U=>U=st/\c.1=aq/\B (ah-c.2.1)=au/\c.2.1<c.2.2/\i+1<=c.2.2/\c.2.1<=ah)
   (Q:=λ(c:av (av a4)×a4×a4) U=>U=st/\c.1=aq/\B (ah-c.2.1)=au/\c.2.1<c.2.2/\c.2.1<=ah/\(ah+1<=c.2.2\/(c.2.2<=ah/\B (ah-c.2.2)=ax))) ?step ?fin (show _/\_/\B (ah-0)=au/\(0:a4)<1/\0+1<=(1:a4)/\0<=ah from⟨rfl,rfl,g,by decide,by decide,AW _⟩)) ?post)
  case fin =>
   rintro⟨r,rR,iT⟩ U ⟨e,e0,L,b,p,a⟩;dsimp only at *;exact⟨e,e0,L,b,a,.inl (by omega)⟩
  case step =>
   rintro i ⟨r,rR,iT⟩ U _ f ⟨rfl,e0,L,b,p,a⟩;dsimp only at *
   by_cases d:iT>=ah+1
   ·rw[a7 d];exact dB ⟨rfl,rfl,L,b,a,.inl d⟩
   ·rw[ba d];refine bJ (l (ah-iT) (by omega) ?_);dsimp only;cases hm:B (ah-iT)with
    |true =>
     simp only[fI];exact c5 ⟨rfl,rfl,L,b,a,.inr ⟨by dsimp only;omega,hm⟩⟩
    |false =>
     simp only[kD,gC];exact c5 ⟨rfl,rfl,hm,by dsimp only;omega,by dsimp only;omega,by dsimp only;omega⟩
  case post =>
   rintro⟨r,rR,iT⟩ U ⟨rfl,e0,L,b,a,o⟩;dsimp only at *;subst e0;refine Rw (lo:=ah+1-min iT (ah+1)) (hi:=ah-rR) B (λi hi=>l i hi) mono h (by omega) (by omega) (λi hi=>?_) (λi hi f=>?_)
   ·rcases o with z|⟨C,z⟩
    ·omega
    ·exact mono i (ah-iT) (by omega) (by omega) z
   ·cases VQ:B i with
    |false=>rfl
    |true=>rw[mono _ i hi f VQ]at L;cases L
end
theorem as4(a b:a6 a8):MJ a b=(do
 rule "list.sort.merge-lo"
 let aj:=a.size+b.size
 let done (ae:a6 a8) (ia ib:a4):=ae++a.extract ia a.size++b.extract ib b.size
 let j (ae:a6 a8) (ia ib:a4):=ae++b.extract ib b.size++a.extract ia a.size
 let mut ae:a6 a8:=#[<-cm b 0]
 let mut ia:=0
 let mut ib:=1
 if ib==b.size then return done ae ia ib
 if ia+1==a.size then return j ae ia ib
 let mut ai:=gallopOf (<-get)
 for _ in [0:aj] do
  let mut rZ:=0
  let mut rY:=0
  for _ in [0:aj] do
   let ak q<-lt' (<-cm b ib) (<-cm a ia)|return done ae ia ib
   if q then
    ae:=ae.push (<-cm b ib);ib:=ib+1;rY:=rY+1;rZ:=0
    if ib==b.size then return done ae ia ib
    if rY>=ai then break
   else
    ae:=ae.push (<-cm a ia);ia:=ia+1;rZ:=rZ+1;rY:=0
    if ia+1==a.size then return j ae ia ib
    if rZ>=ai then break
  rule "list.sort.gallop"
  ai:=ai+1
  for _ in [0:aj] do
   if ai>1 then ai:=ai-1
   zQ ai
   let ak k<-qN au (<-cm b ib) a ia (a.size-ia) 0|return done ae ia ib
   rZ:=k
   if k>0 then
    ae:=ae++a.extract ia (ia+k);ia:=ia+k
    if ia+1==a.size then return j ae ia ib
    if ia==a.size then return done ae ia ib
   ae:=ae.push (<-cm b ib);ib:=ib+1
   if ib==b.size then return done ae ia ib
   let ak k<-qN ax (<-cm a ia) b ib (b.size-ib) 0|return done ae ia ib
   rY:=k
   if k>0 then
    ae:=ae++b.extract ib (ib+k);ib:=ib+k
    if ib==b.size then return done ae ia ib
   ae:=ae.push (<-cm a ia);ia:=ia+1
   if ia+1==a.size then return j ae ia ib
   if rZ<7&&rY<7 then break
  ai:=ai+1
  zQ ai
 unsupported "internal:list.sort.merge-bound"):=rfl
section
variable{α:Type}{rk:α->az}{al bl ae:ao α}{ia ib:a4}
abbrev dI(rk:α->az)(l:ao α):Prop:=l.Pairwise λx y=>rk x<=rk y
structure MI(rk:α->az)(al bl ae:ao α)(ia ib:a4):Prop where
 la:ia<=al.length
 lb:ib<=bl.length
 perm:ae.Perm (al.take ia++bl.take ib)
 zO:dI rk ae
 low:∀x∈ae,∀y∈al.drop ia++bl.drop ib,rk x<=rk y
theorem MI.TL(h:MI rk al bl ae ia ib){y:α}(L:bl[ib]?=ak y)(sb:dI rk bl)(ha:∀x∈al.drop ia,rk y<=rk x):MI rk al bl (ae++[y]) ia (ib+1):=by
 have a:ib<bl.length:=(cR.mp L).1;have b:bl[ib]=y:=(cR.mp L).2;have ed:bl.drop ib=y::bl.drop (ib+1):=by rw[JP a,b]
 have d:bl.take (ib+1)=bl.take ib++[y]:=by rw[YJ,L];rfl
 refine⟨h.la,a,?_,?_,λx U z B=>?_⟩
 ·rw[d,<-iH];exact h.perm.append_right [y]
 ·refine vD.mpr ⟨h.zO,by simp,λx U z B=>?_⟩;simp only[kL]at B;subst B;exact h.low x U z (by rw[ed];simp)
 ·have e:z∈al.drop ia++bl.drop ib:=by
   rw[ed]
   rcases hX.mp B with q|q
   ·exact mD _ q
   ·exact lD _ (iP _ q)
  rcases hX.mp U with q|q
  ·exact h.low x q z e
  ·simp only[kL]at q;subst q
   rcases hX.mp B with q|q
   ·exact ha z q
   ·have:=(List.pairwise_iff_getElem (R:=λx y=>rk x<=rk y)).mp sb;obtain⟨j,c,rfl⟩:=yX q;rw[Ou];rw[<-b];exact this ib (ib+1+j) a (by simp at c;omega) (by omega)
theorem MI.swap(h:MI rk al bl ae ia ib):MI rk bl al ae ib ia :=
 ⟨h.lb,h.la,h.perm.trans EV,h.zO,λx z y j=>h.low x z y (by
  rcases hX.mp j with q|q
  ·exact lD _ q
  ·exact mD _ q)⟩
theorem MI.GX(h:MI rk al bl ae ia ib){x:α}(j:al[ia]?=ak x)(sa:dI rk al)(hb:∀y∈bl.drop ib,rk x<=rk y):MI rk al bl (ae++[x]) (ia+1) ib:=(h.swap.TL j sa hb).swap
theorem MI.GO(h:MI rk al bl ae ia ib)(sa:dI rk al):∀k,ia+k<=al.length->(∀j x,j<k->al[ia+j]?=ak x->∀y∈bl.drop ib,rk x<=rk y)->MI rk al bl (ae++(al.drop ia).take k) (ia+k) ib
 |0,_,_=>by simpa using h
 |k+1,z,hb=>by
  have ih:=h.GO sa k (by omega) λj x B=>hb j x (by omega);have q:al[ia+k]?=ak (al[ia+k]'(by omega)):=gM _;have e:(al.drop ia).take (k+1)=(al.drop ia).take k++[al[ia+k]'(by omega)]:=by
   rw[YJ,aeN,q];rfl
  rw[e,<-iH];exact ih.GX q sa (hb k _ (by omega) q)
theorem MI.akY(h:MI rk al bl ae ia ib)(sb:dI rk bl)(k:a4)(q:ib+k<=bl.length)(ha:∀j y,j<k->bl[ib+j]?=ak y->∀x∈al.drop ia,rk y<=rk x):MI rk al bl (ae++(bl.drop ib).take k) ia (ib+k):=(h.swap.GO sb k q ha).swap
theorem MI.DZ(h:MI rk al bl ae ia ib)(sa:dI rk al)(he:ib=bl.length):(ae++al.drop ia++bl.drop ib).Perm (al++bl)/\dI rk (ae++al.drop ia++bl.drop ib):=by
 subst he;have e:bl.drop bl.length=[]:=List.drop_length;rw[e,pY];have p:=h.perm;rw[List.take_length]at p;refine⟨?_,vD.mpr ⟨h.zO,sa.sublist (List.drop_sublist _ _),λx z y j=>h.low x z y (mD _ j)⟩⟩;have q:(al.take ia++bl++al.drop ia).Perm (al++bl):=by
  have:(al.take ia++bl++al.drop ia).Perm (al.take ia++al.drop ia++bl):=by
   rw[iH,iH];exact JR _ EV
  rwa[sI]at this
 exact(p.append_right _).trans q
theorem MI.UO(h:MI rk al bl ae ia ib)(sb:dI rk bl)(he:ia+1=al.length)(hl:∀x∈al.drop ia,∀y∈bl,rk y<=rk x):(ae++bl.drop ib++al.drop ia).Perm (al++bl)/\dI rk (ae++bl.drop ib++al.drop ia):=by
 constructor
 ·have p:=h.perm;have q:(al.take ia++bl.take ib++(bl.drop ib++al.drop ia)).Perm (al++bl):=by
   have e1:al.take ia++bl.take ib++(bl.drop ib++al.drop ia)=al.take ia++(bl.take ib++bl.drop ib++al.drop ia):=by simp only[iH]
   rw[e1,sI];have:(al.take ia++(bl++al.drop ia)).Perm (al.take ia++(al.drop ia++bl)):=JR _ EV;rwa[<-iH (al.take ia) (al.drop ia),sI]at this
  rw[iH];exact(p.append_right _).trans q
 ·refine vD.mpr ⟨vD.mpr ⟨h.zO,sb.sublist (List.drop_sublist _ _),λx B y j=>h.low x B y (lD _ j)⟩,?_,λx B y j=>?_⟩
  ·have e:(al.drop ia).length=1:=by simp;omega
   match hd:al.drop ia,e with
   |[z],_=>simp
  ·rcases hX.mp B with q|q
   ·exact h.low x q y (mD _ j)
   ·exact hl y j x (List.mem_of_mem_drop q)
end
section
variable{M:ec}{A:bu}{E:ar->aw->Prop}{s:aw}
theorem lG{arr:a6 a8}{i:a4}{x:a8}{st:bo}{Q:a8->bo->Prop}(h:arr[i]?=ak x)(q:Q x st):wpS M A E s (cm arr i) Q st:=by
 rw[elem'_eq,h];exact dB q
theorem akS(g:a4):zQ g=modify λs=>SortSt.mk' (kindOf s) (bp s) (b6 s) g (dk s):=rfl
structure eX(st aJ:bo):Prop where
 kind:kindOf aJ=kindOf st
 arr:bp aJ=bp st
 pend:b6 aJ=b6 st
 failed:dk aJ=dk st
theorem eX.refl(st:bo):eX st st:=⟨rfl,rfl,rfl,rfl⟩
theorem RM{g:a4}{st:bo}{Q:Unit->bo->Prop}(h:∀j,eX st j->Q () j):wpS M A E s (zQ g) Q st:=by
 rw[akS];exact FN (h _ ⟨rfl,rfl,rfl,rfl⟩)
theorem eX.trans{a b c:bo}(h:eX a b)(k:eX b c):eX a c:=⟨k.kind.trans h.kind,k.arr.trans h.arr,k.pend.trans h.pend,k.failed.trans h.failed⟩
end
theorem yL(ae a b:a6 a8)(ia ib:a4):(ae++a.extract ia a.size++b.extract ib b.size).toList=ae.toList++a.toList.drop ia++b.toList.drop ib:=by
 simp[ZK,YI]
theorem Vi(a:a6 a8)(i k:a4):(a.extract i (i+k)).toList=(a.toList.drop i).take k:=by
 simp[ZK]
abbrev YH:=av (a6 a8)×a6 a8×a4×a4×a4×a4
noncomputable def Fs(a b:a6 a8)(mg:a4)(z:a6 a8)(j q:a4):c3 bo Sem YH :=
 forIn [0:a.size+b.size] ((aq,z,j,q,0,0):YH) λ_ c=>do
  let y<-cm b c.2.2.2.1
  let x<-cm a c.2.2.1
  let r<-lt' y x
  match r with
  |some B =>
   if B=ax then do
    let y<-cm b c.2.2.2.1
    if(c.2.2.2.1+1==b.size)=ax then pure (ForInStep.done (ak (c.2.1.push y++a.extract c.2.2.1 a.size++b.extract (c.2.2.2.1+1) b.size),c.2.1.push y,c.2.2.1,c.2.2.2.1+1,0,c.2.2.2.2.2+1))
    else if c.2.2.2.2.2+1>=mg then pure (ForInStep.done (aq,c.2.1.push y,c.2.2.1,c.2.2.2.1+1,0,c.2.2.2.2.2+1))
    else pure (ForInStep.yield (aq,c.2.1.push y,c.2.2.1,c.2.2.2.1+1,0,c.2.2.2.2.2+1))
   else do
    let x<-cm a c.2.2.1
    if(c.2.2.1+1+1==a.size)=ax then pure (ForInStep.done (ak (c.2.1.push x++b.extract c.2.2.2.1 b.size++a.extract (c.2.2.1+1) a.size),c.2.1.push x,c.2.2.1+1,c.2.2.2.1,c.2.2.2.2.1+1,0))
    else if c.2.2.2.2.1+1>=mg then pure (ForInStep.done (aq,c.2.1.push x,c.2.2.1+1,c.2.2.2.1,c.2.2.2.2.1+1,0))
    else pure (ForInStep.yield (aq,c.2.1.push x,c.2.2.1+1,c.2.2.2.1,c.2.2.2.2.1+1,0))
  |_=>pure (ForInStep.done (ak (c.2.1++a.extract c.2.2.1 a.size++b.extract c.2.2.2.1 b.size),c.2.1,c.2.2.1,c.2.2.2.1,c.2.2.2.2.1,c.2.2.2.2.2))
structure EM(P:a8->Prop)(rk:a8->az)(a b:a6 a8):Prop where
 pa:∀x∈a.toList,P x
 pb:∀x∈b.toList,P x
 sa:dI rk a.toList
 sb:dI rk b.toList
 top:∀x∈a.toList.drop (a.size-1),∀y∈b.toList,rk y<=rk x
def jI(rk:a8->az)(a b m:a6 a8):Prop:=m.toList.Perm (a.toList++b.toList)/\dI rk m.toList
section
variable{M:ec}{A:bu}{E:ar->aw->Prop}{s:aw}{kd:dj}{P:a8->Prop}{rk:a8->az}{a b:a6 a8}
theorem GN{l:ao a8}(h:dI rk l){i:a4}{x:a8}(q:l[i]?=ak x):∀z∈l.drop i,rk x<=rk z:=λz B=>by
 have hi:i<l.length:=(cR.mp q).1;have ex:l[i]=x:=(cR.mp q).2;obtain⟨j,L,rfl⟩:=yX B;rw[Ou,<-ex]
 by_cases U:j=0
 ·subst U;exact tP _
 ·exact(List.pairwise_iff_getElem (R:=λx y=>rk x<=rk y)).mp h i (i+j) hi (by simp at L;omega) (by omega)
theorem afT(D:iO M A E s kd P rk)(T:EM P rk a b){st:bo}(C:kindOf st=kd){mg:a4}{u:a6 a8}{B L:a4}(F:MI rk a.toList b.toList u.toList B L)(h1:B+1<a.size)(h2:L<b.size){Q:YH->bo->Prop}
  (hr:∀m o i j x y,jI rk a b m->Q (ak m,o,i,j,x,y) st)
  (hn:∀ae ia ib x y,MI rk a.toList b.toList ae.toList ia ib->ia+1<a.size->ib<b.size->B+L<=ia+ib->Q (aq,ae,ia,ib,x,y) st):wpS M A E s (Fs a b mg u B L) Q st:=by
 unfold Fs;refine qC (I:=λ_ (c:YH) h=>h=st/\c.1=aq/\MI rk a.toList b.toList c.2.1.toList c.2.2.1 c.2.2.2.1/\c.2.2.1+1<a.size/\c.2.2.2.1<b.size/\B+L<=c.2.2.1+c.2.2.2.1) ?step ?fin ⟨rfl,rfl,F,h1,h2,rK _⟩
 case fin =>
  rintro⟨r,ae,ia,ib,x,y⟩ h ⟨rfl,e0,l,k,d,w⟩;dsimp only at *;subst e0;exact hn ae ia ib x y l k d w
 case step =>
  rintro i ⟨r,ae,ia,ib,H,G⟩ h _ K ⟨rfl,e0,l,k,d,w⟩;dsimp only at *;subst e0;have e:b[ib]?=ak b[ib]:=oP b ib d;have f:a[ia]?=ak (a[ia]'(by omega)):=oP a ia (by omega);generalize b[ib]=y at e;generalize a[ia]'(by omega)=x at f;have n:b.toList[ib]?=ak y:=by rw[nF];exact e
  have t:a.toList[ia]?=ak x:=by rw[nF];exact f
  refine bJ (lG e (bJ (lG f (bJ (D y x (T.pb y (jP n)) (T.pa x (jP t)) h _ C ?_)))));dsimp only
  by_cases v:rk y<rk x
  ·rw[yM v,a7 rfl];refine bJ (lG e ?_);have q:=l.TL n T.sb λz p=>by have:=GN T.sa t z p;omega
   rw[<-FK]at q
   by_cases he:ib+1=b.size
   ·rw[a7 (by simpa using he)];refine dB (hr _ _ _ _ _ _ ?_);have g:=q.DZ T.sa (by simpa using he);unfold jI;rw[yL];exact g
   ·rw[ba (by simpa using he)]
    by_cases U:G+1>=mg
    ·rw[a7 U];exact dB (hn _ _ _ _ _ q k (by omega) (by omega))
    ·rw[ba U];exact c5 ⟨rfl,rfl,q,k,by dsimp only;omega,by dsimp only;omega⟩
  ·rw[nD v,ba (by simp)];refine bJ (lG f ?_);have q:=l.GX t T.sa λz p=>by have:=GN T.sb n z p;omega
   rw[<-FK]at q
   by_cases he:ia+1+1=a.size
   ·rw[a7 (by simpa using he)];refine dB (hr _ _ _ _ _ _ ?_);have g:=q.UO T.sb (by simpa using he) (by rw[show ia+1=a.size-1 by omega];exact T.top);unfold jI;rw[yL];exact g
   ·rw[ba (by simpa using he)]
    by_cases U:H+1>=mg
    ·rw[a7 U];exact dB (hn _ _ _ _ _ q (by omega) d (by omega))
    ·rw[ba U];exact c5 ⟨rfl,rfl,q,by dsimp only;omega,d,by dsimp only;omega⟩
end
abbrev wY:=av (a6 a8)×a6 a8×a4×a4×a4×a4×a4
noncomputable def UJ(a b:a6 a8)(ae:a6 a8)(ia ib mg q j:a4):c3 bo Sem (dr wY):=do
 let x<-cm a ia
 if(ia+1+1==a.size)=ax then pure (ForInStep.done (ak (ae.push x++b.extract ib b.size++a.extract (ia+1) a.size),ae.push x,ia+1,ib,mg,q,j))
 else if(decide (q<7)&&decide (j<7))=ax then pure (ForInStep.done (aq,ae.push x,ia+1,ib,mg,q,j))
 else pure (ForInStep.yield (aq,ae.push x,ia+1,ib,mg,q,j))
def Ft(a b:a6 a8)(ae:a6 a8)(ia ib mg j q:a4):c3 bo Sem (dr wY):=do
 let x<-cm a ia
 let r<-qN ax x b ib (b.size-ib) 0
 match r with
 |some k =>
  if k>0 then
   if(ib+k==b.size)=ax then pure (ForInStep.done (ak (ae++b.extract ib (ib+k)++a.extract ia a.size++b.extract (ib+k) b.size),ae++b.extract ib (ib+k),ia,ib+k,mg,j,k))
   else UJ a b (ae++b.extract ib (ib+k)) ia (ib+k) mg j k
  else UJ a b ae ia ib mg j k
 |_=>pure (ForInStep.done (ak (ae++a.extract ia a.size++b.extract ib b.size),ae,ia,ib,mg,j,q))
def UK(a b:a6 a8)(ae:a6 a8)(ia ib mg q j:a4):c3 bo Sem (dr wY):=do
 let y<-cm b ib
 if(ib+1==b.size)=ax then pure (ForInStep.done (ak (ae.push y++a.extract ia a.size++b.extract (ib+1) b.size),ae.push y,ia,ib+1,mg,q,j))
 else Ft a b (ae.push y) ia (ib+1) mg q j
def kP(a b:a6 a8)(ae:a6 a8)(ia ib mg q j:a4):c3 bo Sem (dr wY):=do
 zQ mg
 let y<-cm b ib
 let r<-qN au y a ia (a.size-ia) 0
 match r with
 |some k =>
  if k>0 then
   if(ia+k+1==a.size)=ax then pure (ForInStep.done (ak (ae++a.extract ia (ia+k)++b.extract ib b.size++a.extract (ia+k) a.size),ae++a.extract ia (ia+k),ia+k,ib,mg,k,j))
   else if(ia+k==a.size)=ax then pure (ForInStep.done (ak (ae++a.extract ia (ia+k)++a.extract (ia+k) a.size++b.extract ib b.size),ae++a.extract ia (ia+k),ia+k,ib,mg,k,j))
   else UK a b (ae++a.extract ia (ia+k)) (ia+k) ib mg k j
  else UK a b ae ia ib mg k j
 |_=>pure (ForInStep.done (ak (ae++a.extract ia a.size++b.extract ib b.size),ae,ia,ib,mg,q,j))
section
variable{M:ec}{A:bu}{E:ar->aw->Prop}{s:aw}{kd:dj}{P:a8->Prop}{rk:a8->az}{a b:a6 a8}
def AZ(rk:a8->az)(a b:a6 a8)(lo:a4)(st:bo)(r:dr wY)(j:bo):Prop:=eX st j/\(match r with
 |.done c=>(∃m,c.1=ak m/\jI rk a b m)\/(c.1=aq/\MI rk a.toList b.toList c.2.1.toList c.2.2.1 c.2.2.2.1/\c.2.2.1+1<a.size/\c.2.2.2.1<b.size/\lo<=c.2.2.1+c.2.2.2.1)
 | .yield c=>c.1=aq/\MI rk a.toList b.toList c.2.1.toList c.2.2.1 c.2.2.2.1/\c.2.2.1+1<a.size/\c.2.2.2.1<b.size/\lo<=c.2.2.1+c.2.2.2.1)
theorem nR{a:a6 a8}{i:a4}(h:i<a.size):∃x,a[i]?=ak x/\a.toList[i]?=ak x/\x∈a.toList:=by
 refine⟨a[i],oP a i h,?_,?_⟩
 ·rw[nF];exact oP a i h
 ·exact Array.getElem_mem_toList h
theorem Rp(T:EM P rk a b){st:bo}{ae:a6 a8}{ia ib mg c U lo:a4}(h:MI rk a.toList b.toList ae.toList ia ib)(h1:ia+1<a.size)(h2:ib<b.size)(L:∀x,a.toList[ia]?=ak x->∀z∈b.toList.drop ib,rk x<=rk z)(d:lo<=ia+ib+1) :
  wpS M A E s (UJ a b ae ia ib mg c U) (AZ rk a b lo st) st:=by
 obtain⟨x,B,q,_⟩:=nR (show ia<a.size by omega);unfold UJ;refine bJ (lG B ?_);have j:=h.GX q T.sa (L x q);rw[<-FK]at j
 by_cases he:ia+1+1=a.size
 ·rw[a7 (by simpa using he)];refine dB ⟨eX.refl _,.inl ⟨_,rfl,?_⟩⟩;have g:=j.UO T.sb (by simpa using he) (by rw[show ia+1=a.size-1 by omega];exact T.top);unfold jI;rw[yL];exact g
 ·rw[ba (by simpa using he)];split
  ·exact c5 ⟨eX.refl _,.inr ⟨rfl,j,by dsimp only;omega,h2,by dsimp only;omega⟩⟩
  ·exact c5 ⟨eX.refl _,rfl,j,by dsimp only;omega,h2,by dsimp only;omega⟩
theorem GL{l:ao a8}(h:dI rk l){i j:a4}{x y:a8}(B:i<=j)(z:l[i]?=ak x)(q:l[j]?=ak y):rk x<=rk y :=
 GN h z y (jP (i:=j-i) (by rw[aeN,show i+(j-i)=j by omega];exact q))
theorem abY{l:ao a8}{i:a4}{z:a8}(h:z∈l.drop i):∃j,i<=j/\l[j]?=ak z:=by
 obtain⟨j,q⟩:=List.getElem?_of_mem h;rw[aeN]at q;exact⟨i+j,by omega,q⟩
theorem Rx(l:iO M A E s kd P rk){st:bo}(g:kindOf st=kd){left:bh}{key:a8}{arr:a6 a8}(d:P key)(f:∀x∈arr.toList,P x)(e:dI rk arr.toList){base:a4}(hb:base<arr.size){Q:av a4->bo->Prop}
  (h:∀k,base+k<=arr.size->(∀j x,j<k->arr.toList[base+j]?=ak x->(if left then rk x<rk key else rk x<=rk key))->(∀j x,base+k<=j->arr.toList[j]?=ak x->(if left then rk key<=rk x else rk key<rk x))->Q (ak k) st) :
  wpS M A E s (qN left key arr base (arr.size-base) 0) Q st:=by
 have NF:∀i,i<arr.size-base->∃x,arr[base+i]?=ak x/\arr.toList[base+i]?=ak x/\x∈arr.toList:=λi hi=>nR (by omega);refine Ru l g d (λi hi=>let ⟨x,L,_,b⟩:=NF i hi; ⟨x,L,f x b⟩) (by omega) (λi=>match arr[base+i]? with|some x=>if left then decide (rk x<rk key)else !decide (rk key<rk x)|none=>au) (λi x hi z=>by simp only[z]) (λi j p B hb=>?_) (λk o n m=>h k (by omega) (λj x B z=>?_) (λj x B z=>?_))
 ·obtain⟨x,L,c,_⟩:=NF i (by omega);obtain⟨y,a,U,_⟩:=NF j B;simp only[L,a]at hb ⊢;have:=GL e (show base+i<=base+j by omega) c U;cases left with
  |true=>simp only[fI,EB]at hb ⊢;omega
  |false=>simp only[kD,gC,ZJ,OM]at hb ⊢;omega
 ·have q:=n j B;rw[nF]at z;simp only[z]at q;cases left with
  |true=>simpa using q
  |false=>simp only[kD,gC,ZJ,OM]at q ⊢;omega
 ·have r:j<arr.size:=by have:=(cR.mp z).1;simpa using this
  have q:=m (j-base) (by omega) (by omega);rw[nF]at z;rw[show base+(j-base)=j by omega]at q;simp only[z]at q;cases left with
  |true=>simp only[fI,OM]at q ⊢;omega
  |false=>simp only[kD,gC,Bool.not_eq_false',EB]at q ⊢;exact q
theorem afU(o:iO M A E s kd P rk)(T:EM P rk a b){st:bo}(n:kindOf st=kd){ae:a6 a8}{ia ib mg u t lo:a4}(h:MI rk a.toList b.toList ae.toList ia ib)(h1:ia+1<a.size)(h2:ib<b.size)(p:lo<=ia+ib+1) :
  wpS M A E s (Ft a b ae ia ib mg u t) (AZ rk a b lo st) st:=by
 obtain⟨x,l,c,i⟩:=nR (show ia<a.size by omega);unfold Ft;refine bJ (lG l (bJ (Rx o n (T.pa x i) T.pb T.sb h2 λk m f e=>?_)));dsimp only;simp only[fI]at f e;have B:=h.akY T.sb k (by simpa using m) λj y U q z L=>by
  have:=f j y U q;have:=GN T.sa c z L;omega
 rw[<-Vi,<-afA]at B;have last:∀y,a.toList[ia]?=ak y->∀z∈b.toList.drop (ib+k),rk y<=rk z:=λy q z L=>by
  rw[c]at q;cases q;obtain⟨j,U,r⟩:=abY L;exact e j z U r
 by_cases d:k>0
 ·rw[a7 d]
  by_cases he:ib+k=b.size
  ·rw[a7 (by simpa using he)];refine dB ⟨eX.refl _,.inl ⟨_,rfl,?_⟩⟩;have g:=B.DZ T.sa (by simpa using he);unfold jI;rw[yL];exact g
  ·rw[ba (by simpa using he)];exact Rp T B h1 (by omega) last (by omega)
 ·rw[ba d];have k0:k=0:=by omega
  subst k0;exact Rp T h h1 h2 last p
theorem Rq(c:iO M A E s kd P rk)(T:EM P rk a b){st:bo}(U:kindOf st=kd){ae:a6 a8}{ia ib mg e d lo:a4}(h:MI rk a.toList b.toList ae.toList ia ib)(h1:ia+1<a.size)(h2:ib<b.size)(L:∀y,b.toList[ib]?=ak y->∀z∈a.toList.drop ia,rk y<=rk z)(f:lo<=ia+ib+2) :
  wpS M A E s (UK a b ae ia ib mg e d) (AZ rk a b lo st) st:=by
 obtain⟨y,B,q,_⟩:=nR h2;unfold UK;refine bJ (lG B ?_);have j:=h.TL q T.sb (L y q);rw[<-FK]at j
 by_cases he:ib+1=b.size
 ·rw[a7 (by simpa using he)];refine dB ⟨eX.refl _,.inl ⟨_,rfl,?_⟩⟩;have g:=j.DZ T.sa (by simpa using he);unfold jI;rw[yL];exact g
 ·rw[ba (by simpa using he)];exact afU c T U j h1 (by omega) (by omega)
end
def Fq(a b:a6 a8)(z:a6 a8)(j q U B L:a4):c3 bo Sem wY :=
 forIn [0:a.size+b.size] ((aq,z,j,q,U,B,L):wY) λ_ c =>
  if c.2.2.2.2.1>1 then kP a b c.2.1 c.2.2.1 c.2.2.2.1 (c.2.2.2.2.1-1) c.2.2.2.2.2.1 c.2.2.2.2.2.2 else kP a b c.2.1 c.2.2.1 c.2.2.2.1 c.2.2.2.2.1 c.2.2.2.2.2.1 c.2.2.2.2.2.2
section
variable{M:ec}{A:bu}{E:ar->aw->Prop}{s:aw}{kd:dj}{P:a8->Prop}{rk:a8->az}{a b:a6 a8}
theorem AZ.trans{lo:a4}{st j q:bo}{r:dr wY}(g:eX st j)(h:AZ rk a b lo j r q):AZ rk a b lo st r q:=⟨g.trans h.1,h.2⟩
theorem afV(i:iO M A E s kd P rk)(T:EM P rk a b){st:bo}(w:kindOf st=kd){ae:a6 a8}{ia ib mg H G lo:a4}(h:MI rk a.toList b.toList ae.toList ia ib)(h1:ia+1<a.size)(h2:ib<b.size)(D:lo<=ia+ib+2) :
  wpS M A E s (kP a b ae ia ib mg H G) (AZ rk a b lo st) st:=by
 obtain⟨y,u,l,t⟩:=nR h2;unfold kP;refine bJ (RM λv B=>?_);have d:kindOf v=kd:=B.kind.trans w;refine bJ (lG u (bJ (Rx i d (T.pb y t) T.pa T.sa (by omega) λk I o n=>?_)));dsimp only;simp only[kD,gC]at o n;have L:=h.GO T.sa k (by simpa using I) λj x f e z U=>by
  have:=o j x f e;have:=GN T.sb l z U;omega
 rw[<-Vi,<-afA]at L;have p:∀z,b.toList[ib]?=ak z->∀x∈a.toList.drop (ia+k),rk z<=rk x:=λz U x e=>by
  rw[l]at U;cases U;obtain⟨j,f,F⟩:=abY e;have:=n j x f F;omega
 by_cases m:k>0
 ·rw[a7 m]
  by_cases he:ia+k+1=a.size
  ·rw[a7 (by simpa using he)];refine dB ⟨B,.inl ⟨_,rfl,?_⟩⟩;have g:=L.UO T.sb (by simpa using he) (by rw[show ia+k=a.size-1 by omega];exact T.top);unfold jI;rw[yL];exact g
  ·rw[ba (by simpa using he)]
   by_cases c:ia+k=a.size
   ·rw[a7 (by simpa using c)];refine dB ⟨B,.inl ⟨_,rfl,?_⟩⟩;have g:=L.swap.DZ T.sb (by simpa using c);have e0:a.toList.drop (ia+k)=[]:=List.drop_of_length_le (by simp;omega);unfold jI;rw[yL];rw[e0,pY]at g ⊢;exact⟨g.1.trans EV,g.2⟩
   ·rw[ba (by simpa using c)];exact oA (Rq i T d L (by omega) h2 p (by omega)) λr C q=>q.trans B
 ·rw[ba m];have k0:k=0:=by omega
  subst k0;exact oA (Rq i T d h h1 h2 p D) λr C q=>q.trans B
theorem afS(y:iO M A E s kd P rk)(T:EM P rk a b){st:bo}(x:kindOf st=kd){o:a6 a8}{z B S N R:a4}(C:MI rk a.toList b.toList o.toList z B)(h1:z+1<a.size)(h2:B<b.size){Q:wY->bo->Prop}
  (hr:∀m c j,eX st j->jI rk a b m->Q (ak m,c) j)
  (hn:∀ae ia ib c j,eX st j->MI rk a.toList b.toList ae.toList ia ib->ia+1<a.size->ib<b.size->z+B+2<=ia+ib->Q (aq,ae,ia,ib,c) j):wpS M A E s (Fq a b o z B S N R) Q st:=by
 unfold Fq;refine qC (I:=λi (c:wY) j=>eX st j/\c.1=aq/\MI rk a.toList b.toList c.2.1.toList c.2.2.1 c.2.2.2.1/\c.2.2.1+1<a.size/\c.2.2.2.1<b.size/\(i=0->c.2.2.1=z/\c.2.2.2.1=B)/\(0<i->z+B+2<=c.2.2.1+c.2.2.2.1)) ?step ?fin ⟨eX.refl _,rfl,C,h1,h2,λ_=>⟨rfl,rfl⟩,λh=>b4 h (by decide)⟩
 case fin =>
  rintro⟨r,ae,ia,ib,c⟩ j ⟨g,e0,n,l,k,p,f⟩;dsimp only at *;subst e0;exact hn ae ia ib c j g n l k (f (by omega))
 case step =>
  rintro i ⟨r,ae,ia,ib,mg,G,F⟩ j _ V ⟨g,e0,n,l,k,p,f⟩;dsimp only at *;subst e0;have X:z+B<=ia+ib:=by
   by_cases hi:i=0
   ·have:=p hi;omega
   ·have:=f (by omega);omega
  have H:∀mg,wpS M A E s (kP a b ae ia ib mg G F) (AZ rk a b (z+B+2) j) j:=λmg=>afV y T (g.kind.trans x) n l k (by omega);split
  all_goals
   refine oA (H _) λr w q=>?_;obtain⟨d,q⟩:=q
   match r,q with
   |.done (ak m,c),.inl ⟨W,e,D⟩=>dsimp only at e;cases e;exact hr _ _ _ (g.trans d) D
   |.done (aq,K,U,L,c),.inr ⟨_,m,v,u,t⟩=>exact hn K U L c w (g.trans d) m v u t
   |.yield c,q=>exact⟨g.trans d,q.1,q.2.1,q.2.2.1,q.2.2.2.1,λh=>by omega,λ_=>q.2.2.2.2⟩
theorem gP{J α:Type}{c:Prop} [c8 c]{t e:c3 J Sem α}{Q:α->J->Prop}{st:J}(h1:c->wpS M A E s t Q st)(h2:¬c->wpS M A E s e Q st):wpS M A E s (if c then t else e) Q st:=by
 split
 ·exact h1 ‹_›
 ·exact h2 ‹_›
theorem afO(w:iO M A E s kd P rk)(T:EM P rk a b)(ha:0<a.size)(hb:0<b.size)(l:∀y,b.toList[0]?=ak y->∀x∈a.toList,rk y<=rk x){st:bo}(v:kindOf st=kd):wpS M A E s (MJ a b) (λm q=>eX st q/\jI rk a b m) st:=by
 rw[as4];refine bJ (wpS_lift (vH ⟨rfl,?_⟩));obtain⟨y,D,u,y3⟩:=nR hb;refine bJ (lG D ?_);have L:MI rk a.toList b.toList (#[y]:a6 a8).toList 0 1:=by
  have R:MI rk a.toList b.toList [] 0 0:=⟨by simp,by simp,by simp,by simp,by simp⟩;exact R.TL u T.sb (by simpa using l y u)
 refine gP (λhe=>?_) (λhe=>?_)
 ·have he:1=b.size:=by simpa using he
  refine dB ⟨eX.refl _,?_⟩;have g:=L.DZ T.sa (by simpa using he);unfold jI;rw[yL];exact g
 have he:¬1=b.size:=by simpa using he
 refine gP (λz=>?_) (λz=>?_)
 ·have z:0+1=a.size:=by simpa using z
  refine dB ⟨eX.refl _,?_⟩;have g:=L.UO T.sb (by simpa using z) (by rw[show 0=a.size-1 by omega];exact T.top);unfold jI;rw[yL];exact g
 have z:¬0+1=a.size:=by simpa using z
 refine bJ (xG ?_);refine bJ (oA (qC
  (I:=λi (c:av (a6 a8)×a6 a8×a4×a4×a4) q=>eX st q/\c.1=aq/\MI rk a.toList b.toList c.2.1.toList c.2.2.1 c.2.2.2.1/\c.2.2.1+1<a.size/\c.2.2.2.1<b.size/\i<=c.2.2.1+c.2.2.2.1)
  (Q:=λ(c:av (a6 a8)×a6 a8×a4×a4×a4) q=>eX st q/\∃m,c.1=ak m/\jI rk a b m) ?step ?fin ⟨eX.refl _,rfl,L,by dsimp only;omega,by dsimp only;omega,by dsimp only;omega⟩) ?post)
 case fin =>
  rintro⟨r,ae,h,d,c⟩ q ⟨g,e0,t,p,n,C⟩;dsimp only at *;omega
 case post =>
  rintro⟨r,ae,h,d,c⟩ q ⟨g,m,e,B⟩;dsimp only at e;subst e;exact dB ⟨g,B⟩
 case step =>
  rintro i ⟨r,ae,h,d,mg⟩ q _ pR ⟨g,e0,t,p,n,C⟩;dsimp only at e0 t p n C;subst e0;refine bJ (show wpS M A E s (Fs a b mg ae h d) _ _ from afT w T (g.kind.trans v) t p n (λm o i j x y B=>?_) (λae f U x y N K n3 n4=>?_))
  ·exact dB ⟨g,m,rfl,B⟩
  ·refine bJ (wpS_lift (vH ⟨rfl,?_⟩));refine bJ (show wpS M A E s (Fq a b ae f U (mg+1) x y) _ _ from afS w T (g.kind.trans v) N K n3 (λm c S k B=>?_) (λae W V c S k H G F o4=>?_))
   ·exact dB ⟨g.trans k,m,rfl,B⟩
   ·refine bJ (RM λhZ X=>?_);exact c5 ⟨(g.trans k).trans X,rfl,H,G,F,by dsimp only;omega⟩
end
section
variable{α:Type}{rk:α->az}{al bl ae:ao α}{na nb:a4}
structure MH(rk:α->az)(al bl ae:ao α)(na nb:a4):Prop where
 la:na<=al.length
 lb:nb<=bl.length
 perm:ae.Perm (al.drop na++bl.drop nb)
 zO:ae.Pairwise λx y=>rk y<=rk x
 high:∀x∈ae,∀y∈al.take na++bl.take nb,rk y<=rk x
theorem Tt{l:ao α}{n:a4}{x:α}(j:l[n]?=ak x):l.take (n+1)=l.take n++[x]:=by rw[YJ,j];rfl
theorem WK{l:ao α}{n:a4}{x:α}(j:l[n]?=ak x):l.drop n=x::l.drop (n+1):=by
 have h:=(cR.mp j);rw[JP h.1,h.2]
theorem ajY{l:ao α}(h:dI rk l){n:a4}{x:α}(q:l[n]?=ak x):∀y∈l.take n,rk y<=rk x:=λy j=>by
 have e:l=l.take n++x::l.drop (n+1):=by rw[<-WK q,sI]
 rw[e]at h;exact(vD.mp h).2.2 y j x (by simp)
theorem MH.swap(h:MH rk al bl ae na nb):MH rk bl al ae nb na :=
 ⟨h.lb,h.la,h.perm.trans EV,h.zO,λx z y j=>h.high x z y (by
  rcases hX.mp j with q|q
  ·exact lD _ q
  ·exact mD _ q)⟩
theorem MH.GX(h:MH rk al bl ae (na+1) nb){x:α}(L:al[na]?=ak x)(sa:dI rk al)(hb:∀y∈bl.take nb,rk y<=rk x):MH rk al bl (ae++[x]) na nb:=by
 have U:=Tt L;have ed:=WK L;have hi:=h.high;rw[U]at hi;refine⟨by have:=h.la;omega,h.lb,?_,?_,λy B z j=>?_⟩
 ·rw[ed];exact EV.trans (JR [x] h.perm)
 ·refine vD.mpr ⟨h.zO,by simp,λy B z j=>?_⟩;simp only[kL]at j;subst j;exact hi y B z (by simp)
 ·rcases hX.mp B with q|q
  ·refine hi y q z ?_
   rcases hX.mp j with r|r
   ·exact mD _ (mD _ r)
   ·exact lD _ r
  ·simp only[kL]at q;subst q
   rcases hX.mp j with r|r
   ·exact ajY sa L z r
   ·exact hb z r
theorem MH.GO(sa:dI rk al):∀k na,MH rk al bl ae (na+k) nb->(∀j x,na<=j->j<na+k->al[j]?=ak x->∀y∈bl.take nb,rk y<=rk x)->MH rk al bl (ae++((al.drop na).take k).reverse) na nb
 |0,na,h,_=>by simpa using h
 |k+1,na,h,hb=>by
  have q:al[na]?=ak (al[na]'(by have:=h.la;omega)):=gM _;have ih:=MH.GO sa k (na+1) (by rw[show na+1+k=na+(k+1)by omega];exact h) λj x h1 h2=>hb j x (by omega) (by omega);have e:((al.drop na).take (k+1)).reverse=((al.drop (na+1)).take k).reverse++[al[na]'(by have:=h.la;omega)]:=by
   rw[WK q,List.take_succ_cons,List.reverse_cons]
  rw[e,<-iH];exact ih.GX q sa (hb na _ (by omega) (by omega) q)
theorem MH.all(h:MH rk al bl ae na nb):(al.take na++bl.take nb++ae.reverse).Perm (al++bl):=by
 have p:(al.take na++bl.take nb++ae.reverse).Perm (al.take na++bl.take nb++(al.drop na++bl.drop nb)):=JR _ ((List.reverse_perm _).trans h.perm);refine p.trans ?_;have e:al.take na++bl.take nb++(al.drop na++bl.drop nb)=al.take na++(bl.take nb++al.drop na++bl.drop nb):=by simp only[iH]
 have j:al++bl=al.take na++(al.drop na++bl.take nb++bl.drop nb):=by
  rw[iH (al.drop na),sI,<-iH,sI]
 rw[e,j];exact JR _ (EV.append_right _)
theorem MH.rev(h:MH rk al bl ae na nb):dI rk ae.reverse:=List.pairwise_reverse.mpr h.zO
theorem MH.abV(h:MH rk al bl ae na nb)(sb:dI rk bl)(he:na=0):(al.take na++bl.take nb++ae.reverse).Perm (al++bl)/\dI rk (al.take na++bl.take nb++ae.reverse):=by
 refine⟨h.all,?_⟩;have hi:=h.high;have r:=h.rev;subst he;rw[Oj,QC]at hi ⊢;exact vD.mpr ⟨sb.sublist (QB _ _),r,λx q y j=>hi y (List.mem_reverse.mp j) x q⟩
theorem MH.DZ(h:MH rk al bl ae na nb)(sa:dI rk al)(he:nb=0):(al.take na++bl.take nb++ae.reverse).Perm (al++bl)/\dI rk (al.take na++bl.take nb++ae.reverse):=by
 have q:=h.swap.abV sa he;subst he;refine⟨h.all,?_⟩;rw[Oj,QC]at q;rw[Oj,pY];exact q.2
theorem MH.aBZ(h:MH rk al bl ae na nb)(sa:dI rk al)(sb:dI rk bl)(hl:∀y∈bl.take nb,∀x∈al,rk y<=rk x):(bl.take nb++al.take na++ae.reverse).Perm (al++bl)/\dI rk (bl.take nb++al.take na++ae.reverse):=by
 refine⟨h.swap.all.trans EV,vD.mpr ⟨vD.mpr ⟨sb.sublist (QB _ _),sa.sublist (QB _ _),λx q y j=>hl x q y (Oo j)⟩,h.rev,λx q y j=>?_⟩⟩;refine h.high y (List.mem_reverse.mp j) x ?_
 rcases hX.mp q with r|r
 ·exact lD _ r
 ·exact mD _ r
end
theorem Ka(ae a b:a6 a8)(na nb:a4):(a.extract 0 na++b.extract 0 nb++ae.reverse).toList=a.toList.take na++b.toList.take nb++ae.toList.reverse:=by
 simp[ZK]
theorem akW(a:a6 a8)(i k:a4):((a.extract i (i+k)).reverse).toList=((a.toList.drop i).take k).reverse:=by
 simp[ZK]
section
variable{M:ec}{A:bu}{E:ar->aw->Prop}{s:aw}{kd:dj}{P:a8->Prop}{rk:a8->az}{a b:a6 a8}
theorem ZP(f:iO M A E s kd P rk){st:bo}(e:kindOf st=kd){left:bh}{key:a8}{arr:a6 a8}{base n ah:a4}(c:P key)(L:∀i,i<n->∃x,arr[base+i]?=ak x/\P x)(d:∀i j x y,i<=j->j<n->arr[base+i]?=ak x->arr[base+j]?=ak y->rk x<=rk y)(hb:ah<n){Q:av a4->bo->Prop}
  (h:∀k,k<=n->(∀j x,j<k->arr[base+j]?=ak x->(if left then rk x<rk key else rk x<=rk key))->(∀j x,k<=j->j<n->arr[base+j]?=ak x->(if left then rk key<=rk x else rk key<rk x))->Q (ak k) st) :
  wpS M A E s (qN left key arr base n ah) Q st:=by
 refine Ru f e c L hb (λi=>match arr[base+i]? with|some x=>if left then decide (rk x<rk key)else !decide (rk key<rk x)|none=>au) (λi x hi B=>by simp only[B]) (λi j g z hb=>?_) (λk o m l=>h k (by omega) (λj x z B=>?_) (λj x z b B=>?_))
 ·obtain⟨x,a,_⟩:=L i (by omega);obtain⟨y,U,_⟩:=L j z;simp only[a,U]at hb ⊢;have:=d i j x y g z a U;cases left with
  |true=>simp only[fI,EB]at hb ⊢;omega
  |false=>simp only[kD,gC,ZJ,OM]at hb ⊢;omega
 ·have q:=m j z;simp only[B]at q;cases left with
  |true=>simpa using q
  |false=>simp only[kD,gC,ZJ,OM]at q ⊢;omega
 ·have q:=l j z b;simp only[B]at q;cases left with
  |true=>simp only[fI,OM]at q ⊢;omega
  |false=>simp only[kD,gC,Bool.not_eq_false',EB]at q ⊢;exact q
end
theorem as5(a b:a6 a8):MK a b=(do
 rule "list.sort.merge-hi"
 let aj:=a.size+b.size
 let done (ae:a6 a8) (na nb:a4):=a.extract 0 na++b.extract 0 nb++ae.reverse
 let j (ae:a6 a8) (na nb:a4):=b.extract 0 nb++a.extract 0 na++ae.reverse
 let mut na:=a.size-1
 let mut nb:=b.size
 let mut ae:a6 a8:=#[<-cm a na]
 if na==0 then return done ae na nb
 if nb==1 then return j ae na nb
 let mut ai:=gallopOf (<-get)
 for _ in [0:aj] do
  let mut rZ:=0
  let mut rY:=0
  for _ in [0:aj] do
   let ak q<-lt' (<-cm b (nb-1)) (<-cm a (na-1))|return done ae na nb
   if q then
    na:=na-1;ae:=ae.push (<-cm a na);rZ:=rZ+1;rY:=0
    if na==0 then return done ae na nb
    if rZ>=ai then break
   else
    nb:=nb-1;ae:=ae.push (<-cm b nb);rY:=rY+1;rZ:=0
    if nb==1 then return j ae na nb
    if rY>=ai then break
  rule "list.sort.gallop"
  ai:=ai+1
  for _ in [0:aj] do
   if ai>1 then ai:=ai-1
   zQ ai
   let ak at_<-qN au (<-cm b (nb-1)) a 0 na (na-1)|return done ae na nb
   let k:=na-at_
   rZ:=k
   if k>0 then
    ae:=ae++(a.extract at_ na).reverse;na:=at_
    if na==0 then return done ae na nb
   nb:=nb-1;ae:=ae.push (<-cm b nb)
   if nb==1 then return j ae na nb
   let ak at_<-qN ax (<-cm a (na-1)) b 0 nb (nb-1)|return done ae na nb
   let k:=nb-at_
   rY:=k
   if k>0 then
    ae:=ae++(b.extract at_ nb).reverse;nb:=at_
    if nb==1 then return j ae na nb
    if nb==0 then return done ae na nb
   na:=na-1;ae:=ae.push (<-cm a na)
   if na==0 then return done ae na nb
   if rZ<7&&rY<7 then break
  ai:=ai+1
  zQ ai
 unsupported "internal:list.sort.merge-bound"):=rfl
abbrev YR:=av (a6 a8)×a4×a4×a6 a8×a4×a4
abbrev zB:=av (a6 a8)×a4×a4×a6 a8×a4×a4×a4
noncomputable def Hy(a b:a6 a8)(mg:a4)(j q:a4)(z:a6 a8):c3 bo Sem YR :=
 forIn [0:a.size+b.size] ((aq,j,q,z,0,0):YR) λ_ c=>do
  let y<-cm b (c.2.2.1-1)
  let x<-cm a (c.2.1-1)
  let r<-lt' y x
  match r with
  |some B =>
   if B=ax then do
    let x<-cm a (c.2.1-1)
    if(c.2.1-1==0)=ax then pure (ForInStep.done (ak (a.extract 0 (c.2.1-1)++b.extract 0 c.2.2.1++(c.2.2.2.1.push x).reverse),c.2.1-1,c.2.2.1,c.2.2.2.1.push x,c.2.2.2.2.1+1,0))
    else if c.2.2.2.2.1+1>=mg then pure (ForInStep.done (aq,c.2.1-1,c.2.2.1,c.2.2.2.1.push x,c.2.2.2.2.1+1,0))
    else pure (ForInStep.yield (aq,c.2.1-1,c.2.2.1,c.2.2.2.1.push x,c.2.2.2.2.1+1,0))
   else do
    let y<-cm b (c.2.2.1-1)
    if(c.2.2.1-1==1)=ax then pure (ForInStep.done (ak (b.extract 0 (c.2.2.1-1)++a.extract 0 c.2.1++(c.2.2.2.1.push y).reverse),c.2.1,c.2.2.1-1,c.2.2.2.1.push y,0,c.2.2.2.2.2+1))
    else if c.2.2.2.2.2+1>=mg then pure (ForInStep.done (aq,c.2.1,c.2.2.1-1,c.2.2.2.1.push y,0,c.2.2.2.2.2+1))
    else pure (ForInStep.yield (aq,c.2.1,c.2.2.1-1,c.2.2.2.1.push y,0,c.2.2.2.2.2+1))
  |_=>pure (ForInStep.done (ak (a.extract 0 c.2.1++b.extract 0 c.2.2.1++c.2.2.2.1.reverse),c.2.1,c.2.2.1,c.2.2.2.1,c.2.2.2.2.1,c.2.2.2.2.2))
noncomputable def VF(a b:a6 a8)(na nb:a4)(ae:a6 a8)(mg q j:a4):c3 bo Sem (dr zB):=do
 let x<-cm a (na-1)
 if(na-1==0)=ax then pure (ForInStep.done (ak (a.extract 0 (na-1)++b.extract 0 nb++(ae.push x).reverse),na-1,nb,ae.push x,mg,q,j))
 else if(decide (q<7)&&decide (j<7))=ax then pure (ForInStep.done (aq,na-1,nb,ae.push x,mg,q,j))
 else pure (ForInStep.yield (aq,na-1,nb,ae.push x,mg,q,j))
def Hz(a b:a6 a8)(na nb:a4)(ae:a6 a8)(mg j q:a4):c3 bo Sem (dr zB):=do
 let x<-cm a (na-1)
 let r<-qN ax x b 0 nb (nb-1)
 match r with
 |some k =>
  if nb-k>0 then
   if(k==1)=ax then pure (ForInStep.done (ak (b.extract 0 k++a.extract 0 na++(ae++(b.extract k nb).reverse).reverse),na,k,ae++(b.extract k nb).reverse,mg,j,nb-k))
   else if(k==0)=ax then pure (ForInStep.done (ak (a.extract 0 na++b.extract 0 k++(ae++(b.extract k nb).reverse).reverse),na,k,ae++(b.extract k nb).reverse,mg,j,nb-k))
   else VF a b na k (ae++(b.extract k nb).reverse) mg j (nb-k)
  else VF a b na nb ae mg j (nb-k)
 |_=>pure (ForInStep.done (ak (a.extract 0 na++b.extract 0 nb++ae.reverse),na,nb,ae,mg,j,q))
def VH(a b:a6 a8)(na nb:a4)(ae:a6 a8)(mg q j:a4):c3 bo Sem (dr zB):=do
 let y<-cm b (nb-1)
 if(nb-1==1)=ax then pure (ForInStep.done (ak (b.extract 0 (nb-1)++a.extract 0 na++(ae.push y).reverse),na,nb-1,ae.push y,mg,q,j))
 else Hz a b na (nb-1) (ae.push y) mg q j
def hJ(a b:a6 a8)(na nb:a4)(ae:a6 a8)(mg q j:a4):c3 bo Sem (dr zB):=do
 zQ mg
 let y<-cm b (nb-1)
 let r<-qN au y a 0 na (na-1)
 match r with
 |some k =>
  if na-k>0 then
   if(k==0)=ax then pure (ForInStep.done (ak (a.extract 0 k++b.extract 0 nb++(ae++(a.extract k na).reverse).reverse),k,nb,ae++(a.extract k na).reverse,mg,na-k,j))
   else VH a b k nb (ae++(a.extract k na).reverse) mg (na-k) j
  else VH a b na nb ae mg (na-k) j
 |_=>pure (ForInStep.done (ak (a.extract 0 na++b.extract 0 nb++ae.reverse),na,nb,ae,mg,q,j))
def Hx(a b:a6 a8)(j q:a4)(z:a6 a8)(U B L:a4):c3 bo Sem zB :=
 forIn [0:a.size+b.size] ((aq,j,q,z,U,B,L):zB) λ_ c =>
  if c.2.2.2.2.1>1 then hJ a b c.2.1 c.2.2.1 c.2.2.2.1 (c.2.2.2.2.1-1) c.2.2.2.2.2.1 c.2.2.2.2.2.2 else hJ a b c.2.1 c.2.2.1 c.2.2.2.1 c.2.2.2.2.1 c.2.2.2.2.2.1 c.2.2.2.2.2.2
structure AU(P:a8->Prop)(rk:a8->az)(a b:a6 a8):Prop where
 pa:∀x∈a.toList,P x
 pb:∀x∈b.toList,P x
 sa:dI rk a.toList
 sb:dI rk b.toList
 bot:∀y∈b.toList.take 1,∀x∈a.toList,rk y<=rk x
section
variable{M:ec}{A:bu}{E:ar->aw->Prop}{s:aw}{kd:dj}{P:a8->Prop}{rk:a8->az}{a b:a6 a8}
theorem Au{l:ao a8}{i:a4}{z:a8}(h:z∈l.take i):∃j,j<i/\l[j]?=ak z:=by
 obtain⟨j,q⟩:=List.getElem?_of_mem h;rw[JO]at q;split at q
 ·exact⟨j,‹_›,q⟩
 ·cases q
theorem SQ{l:ao a8}(h:dI rk l){i:a4}{x:a8}(hi:0<i)(z:l[i-1]?=ak x):∀y∈l.take i,rk y<=rk x:=λy q=>by
 obtain⟨j,B,e⟩:=Au q;exact GL h (by omega) e z
theorem MH.TM{ae:a6 a8}{na nb:a4}(h:MH rk a.toList b.toList ae.toList na nb)(hn:0<na){x:a8}(j:a.toList[na-1]?=ak x)(sa:dI rk a.toList)(hb:∀y∈b.toList.take nb,rk y<=rk x):MH rk a.toList b.toList (ae.push x).toList (na-1) nb:=by
 rw[FK];exact MH.GX (na:=na-1) (by rw[show na-1+1=na by omega];exact h) j sa hb
theorem MH.Wr{ae:a6 a8}{na nb:a4}(h:MH rk a.toList b.toList ae.toList na nb)(hn:0<nb){x:a8}(j:b.toList[nb-1]?=ak x)(sb:dI rk b.toList)(hb:∀y∈a.toList.take na,rk y<=rk x):MH rk a.toList b.toList (ae.push x).toList na (nb-1):=(h.swap.TM hn j sb hb).swap
theorem MH.Vj{ae:a6 a8}{na nb k:a4}(h:MH rk a.toList b.toList ae.toList na nb)(sa:dI rk a.toList)(q:k<=na)(hb:∀j x,k<=j->j<na->a.toList[j]?=ak x->∀y∈b.toList.take nb,rk y<=rk x):MH rk a.toList b.toList (ae++(a.extract k na).reverse).toList k nb:=by
 obtain⟨d,rfl⟩:∃d,na=k+d:=⟨na-k,by omega⟩;rw[afA,akW];exact MH.GO sa d k h hb
theorem MH.akX{ae:a6 a8}{na nb k:a4}(h:MH rk a.toList b.toList ae.toList na nb)(sb:dI rk b.toList)(q:k<=nb)(hb:∀j x,k<=j->j<nb->b.toList[j]?=ak x->∀y∈a.toList.take na,rk y<=rk x):MH rk a.toList b.toList (ae++(b.extract k nb).reverse).toList na k:=(h.swap.Vj sb q hb).swap
theorem MH.VU{ae:a6 a8}{na nb:a4}(h:MH rk a.toList b.toList ae.toList na nb)(sb:dI rk b.toList)(he:na=0):jI rk a b (a.extract 0 na++b.extract 0 nb++ae.reverse):=by
 unfold jI;rw[Ka];exact h.abV sb he
theorem MH.aA5{ae:a6 a8}{na nb:a4}(h:MH rk a.toList b.toList ae.toList na nb)(sa:dI rk a.toList)(he:nb=0):jI rk a b (a.extract 0 na++b.extract 0 nb++ae.reverse):=by
 unfold jI;rw[Ka];exact h.DZ sa he
theorem MH.VR{ae:a6 a8}{na nb:a4}(h:MH rk a.toList b.toList ae.toList na nb)(T:AU P rk a b)(he:nb=1):jI rk a b (b.extract 0 nb++a.extract 0 na++ae.reverse):=by
 unfold jI;rw[Ka];exact h.aBZ T.sa T.sb (by rw[he];exact T.bot)
theorem afX(C:iO M A E s kd P rk)(T:AU P rk a b){st:bo}(w:kindOf st=kd){mg:a4}{o:a6 a8}{B L:a4}(D:MH rk a.toList b.toList o.toList B L)(h1:0<B)(h2:1<L){Q:YR->bo->Prop}
  (hr:∀m c,jI rk a b m->Q (ak m,c) st)
  (hn:∀ae na nb c,MH rk a.toList b.toList ae.toList na nb->0<na->1<nb->na+nb<=B+L->Q (aq,na,nb,ae,c) st):wpS M A E s (Hy a b mg B L o) Q st:=by
 unfold Hy;refine qC (I:=λ_ (c:YR) d=>d=st/\c.1=aq/\MH rk a.toList b.toList c.2.2.2.1.toList c.2.1 c.2.2.1/\0<c.2.1/\1<c.2.2.1/\c.2.1+c.2.2.1<=B+L) ?step ?fin ⟨rfl,rfl,D,h1,h2,rK _⟩
 case fin =>
  rintro⟨r,na,nb,ae,c⟩ d ⟨rfl,e0,q,U,e,t⟩;dsimp only at *;subst e0;exact hn ae na nb c q U e t
 case step =>
  rintro i ⟨r,na,nb,ae,H,G⟩ d _ F ⟨rfl,e0,q,U,e,t⟩;dsimp only at *;subst e0;have la:=q.la;have lb:=q.lb;rw[gO]at la lb;obtain⟨y,k,h,u⟩:=nR (show nb-1<b.size by omega);obtain⟨x,n,l,v⟩:=nR (show na-1<a.size by omega);refine bJ (lG k (bJ (lG n (bJ (C y x (T.pb y u) (T.pa x v) d _ w ?_)))));dsimp only
  by_cases p:rk y<rk x
  ·rw[yM p,a7 rfl];refine bJ (lG n ?_);have j:=q.TM U l T.sa λz f=>by have:=SQ T.sb (by omega) h z f;omega
   refine gP (λhe=>?_) (λhe=>?_)
   ·exact dB (hr _ _ (j.VU T.sb (by simpa using he)))
   ·have he:¬na-1=0:=by simpa using he
    refine gP (λg=>?_) (λg=>?_)
    ·exact dB (hn _ _ _ _ j (by omega) e (by omega))
    ·exact c5 ⟨rfl,rfl,j,by dsimp only;omega,e,by dsimp only;omega⟩
  ·rw[nD p,ba (by simp)];refine bJ (lG k ?_);have j:=q.Wr (by omega) h T.sb λz f=>by have:=SQ T.sa (by omega) l z f;omega
   refine gP (λhe=>?_) (λhe=>?_)
   ·exact dB (hr _ _ (j.VR T (by simpa using he)))
   ·have he:¬nb-1=1:=by simpa using he
    refine gP (λg=>?_) (λg=>?_)
    ·exact dB (hn _ _ _ _ j U (by omega) (by omega))
    ·exact c5 ⟨rfl,rfl,j,U,by dsimp only;omega,by dsimp only;omega⟩
def QR(rk:a8->az)(a b:a6 a8)(hi:a4)(st:bo)(r:dr zB)(j:bo):Prop:=eX st j/\(match r with
 |.done c=>(∃m,c.1=ak m/\jI rk a b m)\/(c.1=aq/\MH rk a.toList b.toList c.2.2.2.1.toList c.2.1 c.2.2.1/\0<c.2.1/\1<c.2.2.1/\c.2.1+c.2.2.1<=hi)
 | .yield c=>c.1=aq/\MH rk a.toList b.toList c.2.2.2.1.toList c.2.1 c.2.2.1/\0<c.2.1/\1<c.2.2.1/\c.2.1+c.2.2.1<=hi)
theorem Rr(T:AU P rk a b){st:bo}{ae:a6 a8}{na nb mg d c hi:a4}(h:MH rk a.toList b.toList ae.toList na nb)(h1:0<na)(h2:1<nb)(L:∀x,a.toList[na-1]?=ak x->∀z∈b.toList.take nb,rk z<=rk x)(e:na+nb<=hi+1) :
  wpS M A E s (VF a b na nb ae mg d c) (QR rk a b hi st) st:=by
 have la:=h.la;rw[gO]at la;obtain⟨x,B,q,_⟩:=nR (show na-1<a.size by omega);unfold VF;refine bJ (lG B ?_);have j:=h.TM h1 q T.sa (L x q);refine gP (λhe=>?_) (λhe=>?_)
 ·exact dB ⟨eX.refl _,.inl ⟨_,rfl,j.VU T.sb (by simpa using he)⟩⟩
 ·have he:¬na-1=0:=by simpa using he
  refine gP (λU=>?_) (λU=>?_)
  ·exact c5 ⟨eX.refl _,.inr ⟨rfl,j,by dsimp only;omega,h2,by dsimp only;omega⟩⟩
  ·exact c5 ⟨eX.refl _,rfl,j,by dsimp only;omega,h2,by dsimp only;omega⟩
theorem Rv(g:iO M A E s kd P rk){st:bo}(f:kindOf st=kd){left:bh}{key:a8}{arr:a6 a8}(b:P key)(e:∀x∈arr.toList,P x)(d:dI rk arr.toList){n:a4}(l:0<n)(hn:n<=arr.size){Q:av a4->bo->Prop}
  (h:∀k,k<=n->(∀j x,j<k->arr.toList[j]?=ak x->(if left then rk x<rk key else rk x<=rk key))->(∀j x,k<=j->j<n->arr.toList[j]?=ak x->(if left then rk key<=rk x else rk key<rk x))->Q (ak k) st) :
  wpS M A E s (qN left key arr 0 n (n-1)) Q st:=by
 refine ZP g f b (λi hi=>?_) (λi j x y m z q B=>?_) (by omega) (λk c h1 h2=>h k c (λj x z q=>h1 j x z ?_) (λj x z a q=>h2 j x z a ?_))
 ·obtain⟨x,U,_,L⟩:=nR (show 0+i<arr.size by omega);exact⟨x,U,e x L⟩
 ·rw[<-nF]at q B;exact GL d (show 0+i<=0+j by omega) q B
 ·rw[ET,<-nF];exact q
 ·rw[ET,<-nF];exact q
theorem afY(p:iO M A E s kd P rk)(T:AU P rk a b){st:bo}(o:kindOf st=kd){ae:a6 a8}{na nb mg v u hi:a4}(h:MH rk a.toList b.toList ae.toList na nb)(h1:0<na)(h2:1<nb)(r:na+nb<=hi+1) :
  wpS M A E s (Hz a b na nb ae mg v u) (QR rk a b hi st) st:=by
 have la:=h.la;have lb:=h.lb;rw[gO]at la lb;obtain⟨x,i,d,g⟩:=nR (show na-1<a.size by omega);unfold Hz;refine bJ (lG i (bJ (Rv p o (T.pa x g) T.pb T.sb (by omega) lb λk n f e=>?_)));dsimp only;simp only[fI]at f e;have L:=h.akX T.sb n λj y c l B z U=>by
  have:=e j y c l B;have:=SQ T.sa h1 d z U;omega
 have last:∀y,a.toList[na-1]?=ak y->∀z∈b.toList.take k,rk z<=rk y:=λy B z U=>by
  rw[d]at B;cases B;obtain⟨j,c,t⟩:=Au U;have:=f j z c t;omega
 refine gP (λm=>?_) (λm=>?_)
 ·refine gP (λhe=>?_) (λhe=>?_)
  ·exact dB ⟨eX.refl _,.inl ⟨_,rfl,L.VR T (by simpa using he)⟩⟩
  ·have he:¬k=1:=by simpa using he
   refine gP (λq=>?_) (λq=>?_)
   ·exact dB ⟨eX.refl _,.inl ⟨_,rfl,L.aA5 T.sa (by simpa using q)⟩⟩
   ·have q:¬k=0:=by simpa using q
    exact Rr T L h1 (by omega) last (by omega)
 ·have k0:k=nb:=by omega
  subst k0;exact Rr T h h1 h2 last r
theorem Rt(c:iO M A E s kd P rk)(T:AU P rk a b){st:bo}(U:kindOf st=kd){ae:a6 a8}{na nb mg e d hi:a4}(h:MH rk a.toList b.toList ae.toList na nb)(h1:0<na)(h2:1<nb)(L:∀y,b.toList[nb-1]?=ak y->∀z∈a.toList.take na,rk z<=rk y)(f:na+nb<=hi+2) :
  wpS M A E s (VH a b na nb ae mg e d) (QR rk a b hi st) st:=by
 have lb:=h.lb;rw[gO]at lb;obtain⟨y,B,j,_⟩:=nR (show nb-1<b.size by omega);unfold VH;refine bJ (lG B ?_);have q:=h.Wr (by omega) j T.sb (L y j);refine gP (λhe=>?_) (λhe=>?_)
 ·exact dB ⟨eX.refl _,.inl ⟨_,rfl,q.VR T (by simpa using he)⟩⟩
 ·have he:¬nb-1=1:=by simpa using he
  exact afY c T U q h1 (by omega) (by omega)
theorem afZ(e:iO M A E s kd P rk)(T:AU P rk a b){st:bo}(v:kindOf st=kd){ae:a6 a8}{na nb mg G F hi:a4}(h:MH rk a.toList b.toList ae.toList na nb)(h1:0<na)(h2:1<nb)(C:na+nb<=hi+2) :
  wpS M A E s (hJ a b na nb ae mg G F) (QR rk a b hi st) st:=by
 have la:=h.la;have lb:=h.lb;rw[gO]at la lb;obtain⟨y,o,f,n⟩:=nR (show nb-1<b.size by omega);unfold hJ;refine bJ (RM λu L=>?_);have U:kindOf u=kd:=L.kind.trans v;refine bJ (lG o (bJ (Rv e U (T.pb y n) T.pa T.sa h1 la λk H l i=>?_)));dsimp only;simp only[kD,gC]at l i;have g:=h.Vj T.sa H λj x d p c z B=>by
  have:=i j x d p c;have:=SQ T.sb (by omega) f z B;omega
 have m:∀z,b.toList[nb-1]?=ak z->∀x∈a.toList.take k,rk x<=rk z:=λz B x c=>by
  rw[f]at B;cases B;obtain⟨j,d,D⟩:=Au c;exact l j x d D
 refine gP (λt=>?_) (λt=>?_)
 ·refine gP (λhe=>?_) (λhe=>?_)
  ·exact dB ⟨L,.inl ⟨_,rfl,g.VU T.sb (by simpa using he)⟩⟩
  ·have he:¬k=0:=by simpa using he
   exact oA (Rt e T U g (by omega) h2 m (by omega)) λr w q=>⟨L.trans q.1,q.2⟩
 ·have k0:k=na:=by omega
  subst k0;exact oA (Rt e T U h h1 h2 m C) λr w q=>⟨L.trans q.1,q.2⟩
theorem afW(C:iO M A E s kd P rk)(T:AU P rk a b){st:bo}(y:kindOf st=kd){p:a6 a8}{z B S N R:a4}(d:MH rk a.toList b.toList p.toList z B)(h1:0<z)(h2:1<B){Q:zB->bo->Prop}
  (hr:∀m c j,eX st j->jI rk a b m->Q (ak m,c) j)
  (hn:∀ae na nb c j,eX st j->MH rk a.toList b.toList ae.toList na nb->0<na->1<nb->na+nb+2<=z+B->Q (aq,na,nb,ae,c) j):wpS M A E s (Hx a b z B p S N R) Q st:=by
 unfold Hx;have la:=d.la;have lb:=d.lb;rw[gO]at la lb;refine qC (I:=λi (c:zB) j=>eX st j/\c.1=aq/\MH rk a.toList b.toList c.2.2.2.1.toList c.2.1 c.2.2.1/\0<c.2.1/\1<c.2.2.1/\(i=0->c.2.1=z/\c.2.2.1=B)/\(0<i->c.2.1+c.2.2.1+2<=z+B)) ?step ?fin ⟨eX.refl _,rfl,d,h1,h2,λ_=>⟨rfl,rfl⟩,λh=>b4 h (by decide)⟩
 case fin =>
  rintro⟨r,na,nb,ae,c⟩ j ⟨g,e0,o,n,l,t,k⟩;dsimp only at *;subst e0;exact hn ae na nb c j g o n l (k (by omega))
 case step =>
  rintro i ⟨r,na,nb,ae,mg,G,F⟩ j _ V ⟨g,e0,o,n,l,t,k⟩;dsimp only at *;subst e0;have X:na+nb<=z+B:=by
   by_cases hi:i=0
   ·have:=t hi;omega
   ·have:=k (by omega);omega
  have H:∀mg,wpS M A E s (hJ a b na nb ae mg G F) (QR rk a b (z+B-2) j) j:=λmg=>afZ C T (g.kind.trans y) o n l (by omega);split
  all_goals
   refine oA (H _) λr x q=>?_;obtain⟨f,q⟩:=q
   match r,q with
   |.done (ak m,c),.inl ⟨W,e,D⟩=>dsimp only at e;cases e;exact hr _ _ _ (g.trans f) D
   |.done (aq,U,L,K,c),.inr ⟨_,m,w,v,u⟩=>exact hn K U L c x (g.trans f) m w v (by dsimp only at u;omega)
   |.yield c,q=>exact⟨g.trans f,q.1,q.2.1,q.2.2.1,q.2.2.2.1,λh=>by omega,λ_=>by have:=q.2.2.2.2;omega⟩
theorem afP(p:iO M A E s kd P rk)(T:AU P rk a b)(ha:0<a.size)(hb:0<b.size)(f:∀x,a.toList[a.size-1]?=ak x->∀y∈b.toList,rk y<=rk x){st:bo}(o:kindOf st=kd):wpS M A E s (MK a b) (λm j=>eX st j/\jI rk a b m) st:=by
 rw[as5];refine bJ (wpS_lift (vH ⟨rfl,?_⟩));obtain⟨x,u,n,S⟩:=nR (show a.size-1<a.size by omega);refine bJ (lG u ?_);have U:MH rk a.toList b.toList (#[x]:a6 a8).toList (a.size-1) b.size:=by
  have K:MH rk a.toList b.toList (#[]:a6 a8).toList a.size b.size:=⟨by simp,by simp,by simp,by simp,by simp⟩;exact K.TM ha n T.sa (by rw[YI (by simp)];exact f x n)
 refine gP (λhe=>?_) (λhe=>?_)
 ·exact dB ⟨eX.refl _,U.VU T.sb (by simpa using he)⟩
 have he:¬a.size-1=0:=by simpa using he
 refine gP (λz=>?_) (λz=>?_)
 ·exact dB ⟨eX.refl _,U.VR T (by simpa using z)⟩
 have z:¬b.size=1:=by simpa using z
 refine bJ (xG ?_);refine bJ (oA (qC
  (I:=λi (c:av (a6 a8)×a4×a4×a6 a8×a4) j=>eX st j/\c.1=aq/\MH rk a.toList b.toList c.2.2.2.1.toList c.2.1 c.2.2.1/\0<c.2.1/\1<c.2.2.1/\i+c.2.1+c.2.2.1<=a.size+b.size)
  (Q:=λ(c:av (a6 a8)×a4×a4×a6 a8×a4) j=>eX st j/\∃m,c.1=ak m/\jI rk a b m) ?step ?fin ⟨eX.refl _,rfl,U,by dsimp only;omega,by dsimp only;omega,by dsimp only;omega⟩) ?post)
 case fin =>
  rintro⟨r,na,nb,ae,c⟩ j ⟨g,e0,l,k,h,t⟩;dsimp only at *;omega
 case post =>
  rintro⟨r,na,nb,ae,c⟩ j ⟨g,m,e,q⟩;dsimp only at e;subst e;exact dB ⟨g,q⟩
 case step =>
  rintro i ⟨r,na,nb,ae,mg⟩ j _ V ⟨g,e0,l,k,h,t⟩;dsimp only at e0 l k h t;subst e0;refine bJ (show wpS M A E s (Hy a b mg na nb ae) _ _ from afX p T (g.kind.trans o) l k h (λm c q=>?_) (λae L B c H G n3 X=>?_))
  ·exact dB ⟨g,m,rfl,q⟩
  ·refine bJ (wpS_lift (vH ⟨rfl,?_⟩));refine bJ (show wpS M A E s (Hx a b L B ae (mg+1) c.1 c.2) _ _ from afW p T (g.kind.trans o) H G n3 (λm c N d q=>?_) (λae F D c N d C w v W=>?_))
   ·exact dB ⟨g.trans d,m,rfl,q⟩
   ·refine bJ (RM λhZ R=>?_);exact c5 ⟨(g.trans d).trans R,rfl,C,w,v,by dsimp only;omega⟩
end
noncomputable def Kr(rk:a8->az)(xs:a6 a8)(i:a4):az:=match xs[i]? with
 |some p=>rk p
 |none=>0
theorem QJ{rk:a8->az}{xs ys:a6 a8}{i j:a4}(h:xs[i]?=ys[j]?):Kr rk xs i=Kr rk ys j:=by unfold Kr;rw[h]
def Up(rk:a8->az)(xs:a6 a8)(lo n:a4):Prop:=∀i j,i<=j->j<n->Kr rk xs (lo+i)<=Kr rk xs (lo+j)
def Dn(rk:a8->az)(xs:a6 a8)(lo n:a4):Prop:=∀i j,i<=j->j<n->Kr rk xs (lo+j)<=Kr rk xs (lo+i)
theorem aJD{rk:a8->az}{xs:a6 a8}{src d:a4}(j:src<xs.size)(hd:d<=src)(k:a4) :
  Kr rk (bubble xs src d) k=if k=src-d then Kr rk xs src else if src-d<k/\k<=src then Kr rk xs (k-1)else Kr rk xs k:=by
 have e:=getElem?_bubble j d hd k
 by_cases h1:k=src-d
 ·rw[a7 h1]at e ⊢;exact QJ e
 ·rw[ba h1]at e ⊢
  by_cases h2:src-d<k/\k<=src
  ·rw[a7 h2]at e ⊢;exact QJ e
  ·rw[ba h2]at e ⊢;exact QJ e
theorem Pa{rk:a8->az}{xs:a6 a8}{i j:a4}(q:j<=xs.size)(k:a4) :
  Kr rk (mirror xs i j ((j-i)/2)) k=if i<=k/\k<j then Kr rk xs (i+j-1-k)else Kr rk xs k:=by
 have e:=getElem?_mirror_all (i:=i) q k
 by_cases h1:i<=k/\k<j
 ·rw[a7 h1]at e ⊢;exact QJ e
 ·rw[ba h1]at e ⊢;exact QJ e
theorem QI{rk:a8->az}{xs:a6 a8}{i j:a4}(q:j<=xs.size)(heq:∀k,i<=k->k<j->Kr rk xs k=Kr rk xs (j-1))(k:a4) :
  Kr rk (mirror xs i j ((j-i)/2)) k=Kr rk xs k:=by
 rw[Pa q];split
 ·rw[heq _ (by omega) (by omega),heq k (by omega) (by omega)]
 ·rfl
structure Bs(kd:dj)(x0:a6 a8)(lo:a4)(p0:a6 (a4×a4×a4))(st:bo):Prop where
 kind:kindOf st=kd
 failed:dk st=aq
 pend:b6 st=p0
 perm:(bp st).Perm x0
 pre:∀k,k<lo->(bp st)[k]?=x0[k]?
section
variable{M:ec}{A:bu}{E:ar->aw->Prop}{s:aw}{kd:dj}{P:a8->Prop}{rk:a8->az}{x0:a6 a8}{lo:a4}{p0:a6 (a4×a4×a4)}
theorem Bs.size{st:bo}(h:Bs kd x0 lo p0 st):(bp st).size=x0.size:=h.perm.size_eq
theorem Bs.mirror{st:bo}(h:Bs kd x0 lo p0 st){i j:a4}(hi:lo<=i)(z:j<=x0.size):Bs kd x0 lo p0 (setArr st (mirror (bp st) i j ((j-i)/2))) :=
 ⟨h.kind,h.failed,h.pend,(mirror_perm _ _ _ _).trans h.perm,λk q=>by
  rw[<-h.pre k q];show(PyProof.Rows.mirror (bp st) i j ((j-i)/2))[k]?=_;rw[getElem?_mirror_all (by rw[h.size];exact z),ba (by omega)]⟩
theorem Bs.bubble{st:bo}(h:Bs kd x0 lo p0 st){src d:a4}(j:src<x0.size)(hd:lo+d<=src):Bs kd x0 lo p0 (setArr st (bubble (bp st) src d)) :=
 ⟨h.kind,h.failed,h.pend,(bubble_perm _ _ _).trans h.perm,λk q=>by
  rw[<-h.pre k q];show(PyProof.Rows.bubble (bp st) src d)[k]?=_;rw[getElem?_bubble (by rw[h.size];exact j) d (by omega),ba (by omega),ba (by omega)]⟩
theorem KI(f:iO M A E s kd P rk)(U:∀x∈x0.toList,P x){st:bo}(q:Bs kd x0 lo p0 st){i j:a4}{Q:av bh->bo->Prop}(hi:i<x0.size)(e:j<x0.size)
  (h:Q (ak (decide (Kr rk (bp st) i<Kr rk (bp st) j))) st):wpS M A E s (ltAt' i j) Q st:=by
 obtain⟨x,L,_,c⟩:=nR (show i<(bp st).size by rw[q.size];exact hi);obtain⟨y,B,_,b⟩:=nR (show j<(bp st).size by rw[q.size];exact e);have d:=(ZL.mp q.perm).mem_iff (a:=x);have z:=(ZL.mp q.perm).mem_iff (a:=y);rw[ltAt'_eq];refine bJ (xG ?_);show wpS _ _ _ _ (do let x<-cm (bp st) i;let y<-cm (bp st) j;lt' x y) Q st;refine bJ (lG L (bJ (lG B ?_)));refine f x y (U x (d.mp c)) (U y (z.mp b)) st Q q.kind ?_;have e1:Kr rk (bp st) i=rk x:=by unfold Kr;rw[L]
 have g:Kr rk (bp st) j=rk y:=by unfold Kr;rw[B]
 rw[e1,g]at h;exact h
theorem RN{st:bo}{i j:a4}{Q:Unit->bo->Prop}(h:Q () (setArr st (mirror (bp st) i j ((j-i)/2)))):wpS M A E s (ek i j) Q st:=by
 rw[reverseSlice'_eq];exact FN h
theorem af1(F:iO M A E s kd P rk)(D:∀x∈x0.toList,P x){st:bo}{n ok:a4}{Q:bh->bo->Prop}(hn:lo+n<=x0.size)(aL:ok<=n)(G:Bs kd x0 lo p0 st)(u:Up rk (bp st) lo ok)
  (h:∀q,Bs kd x0 lo p0 q->Up rk (bp q) lo n->Q ax q):wpS M A E s (binarySort' lo n ok) Q st:=by
 rw[binarySort'_eq];refine bJ (oA (qC (I:=λk c q=>c=(aq,())/\Bs kd x0 lo p0 q/\Up rk (bp q) lo (min k n))
  (Q:=λc q=>c=(aq,())/\Bs kd x0 lo p0 q/\Up rk (bp q) lo n) ?step ?fin ?init) ?post)
 case post =>
  rintro c q ⟨rfl,L,B⟩;exact dB (h q L B)
 case init =>
  refine⟨rfl,G,λi j g w=>?_⟩
  by_cases h1:ok=0
  ·have:i=j:=by omega
   subst this;exact tP _
  ·exact u i j g (by omega)
 case fin =>
  rintro c q ⟨y,L,B⟩;refine⟨y,L,?_⟩;rwa[show min (max (max ok 1) n) n=n by omega]at B
 case step =>
  rintro k c q C H ⟨rfl,L,B⟩;rw[show min k n=k by omega]at B;have e:lo+k<x0.size:=by omega
  refine bJ (oA (qC (I:=λx c z=>z=q/\∃l r,c=(aq,l,r)/\l<=r/\r<=k/\r-l<=k-x /\
    (∀i,i<l->Kr rk (bp q) (lo+i)<=Kr rk (bp q) (lo+k))/\(∀i,r<=i->i<k->Kr rk (bp q) (lo+k)<Kr rk (bp q) (lo+i)))
   (Q:=λc z=>z=q/\∃l r,c=(aq,l,r)/\l<=k /\
    (∀i,i<l->Kr rk (bp q) (lo+i)<=Kr rk (bp q) (lo+k))/\(∀i,l<=i->i<k->Kr rk (bp q) (lo+k)<Kr rk (bp q) (lo+i))) ?istep ?ifin ?iinit) ?ipost)
  case iinit=>exact⟨rfl,0,k,rfl,by omega,by omega,by omega,λi hi=>by omega,λi h1 h2=>by omega⟩
  case ifin =>
   rintro c z ⟨rfl,l,r,rfl,d,f,hm,U,a⟩;have:l=r:=by omega
   subst this;exact⟨rfl,l,l,rfl,f,U,a⟩
  case istep =>
   rintro x c z _ t ⟨rfl,l,r,rfl,d,f,hm,U,a⟩;dsimp only
   by_cases m:l>=r
   ·rw[a7 m];have:l=r:=by omega
    subst this;exact dB ⟨rfl,l,l,rfl,f,U,a⟩
   ·rw[ba m];refine bJ (KI F D L e (by omega) ?_)
    by_cases b:Kr rk (bp z) (lo+k)<Kr rk (bp z) (lo+(l+r)/2)
    ·simp only[b,EA,fI];refine dB ⟨rfl,l,(l+r)/2,rfl,by omega,by omega,by omega,U,λi h1 h2=>?_⟩;exact Int.lt_of_lt_of_le b (B _ _ h1 h2)
    ·simp only[b,IQ,kD,gC];refine dB ⟨rfl,(l+r)/2+1,r,rfl,by omega,by omega,by omega,λi h1=>?_,a⟩;exact Int.le_trans (B i ((l+r)/2) (by omega) (by omega)) (Int.not_lt.mp b)
  case ipost =>
   rintro c z ⟨rfl,l,r,rfl,v,U,a⟩;show wpS _ _ _ _ (do moveDown' (lo+k) (lo+l);pure (ForInStep.yield (aq,()))) _ _;rw[moveDown'_eq];refine bJ (FN (dB ⟨rfl,L.bubble e (by omega),?_⟩));rw[show min (k+1) n=k+1 by omega];have p:lo+k<(bp z).size:=by rw[L.size];exact e
   intro i j g w;show Kr rk (bubble (bp z) (lo+k) (lo+k-(lo+l))) (lo+i)<=Kr rk (bubble (bp z) (lo+k) (lo+k-(lo+l))) (lo+j);have o:∀i,Kr rk (bubble (bp z) (lo+k) (lo+k-(lo+l))) (lo+i)=if i=l then Kr rk (bp z) (lo+k)else if l<i/\i<=k then Kr rk (bp z) (lo+(i-1))else Kr rk (bp z) (lo+i):=λi=>by
    rw[aJD p (by omega)]
    by_cases h1:i=l
    ·rw[a7 h1,a7 (by omega)]
    ·rw[ba h1,ba (by omega)]
     by_cases h2:l<i/\i<=k
     ·rw[a7 h2,a7 (by omega),show lo+i-1=lo+(i-1)by omega]
     ·rw[ba h2,ba (by omega)]
   rw[o,o]
   repeat' split
   all_goals first
    |(exfalso;omega)
    |exact tP _
    |exact U _ (by omega)
    |exact QN (a _ (by omega) (by omega))
    |exact B _ _ (by omega) (by omega)
end
noncomputable def XO(lo a nrem:a4):c3 bo Sem AscSt :=
 forIn [a:nrem] ((aq,a):AscSt) λ_ c=>do
  let x<-ltAt' (lo+c.2) (lo+c.2-1)
  match x with
  |some j=>if j=ax then pure (ForInStep.done (aq,c.2))else pure (ForInStep.yield (aq,c.2+1))
  |_=>pure (ForInStep.done (ak aq,c.2))
noncomputable def SJ(lo n0 nrem:a4):c3 bo Sem (av a4):=do
 let mut n:=n0
 ek lo (lo+n)
 for _ in [n:nrem] do
  let ak j<-ltAt' (lo+n) (lo+n-1)|return aq
  if j then break
  n:=n+1
 return ak n
noncomputable def Kc(lo n nrem:a4):c3 bo Sem DescSt :=
 forIn [n:nrem] ((aq,n,0):DescSt) λ_ c=>do
  let x<-ltAt' (lo+c.2.1) (lo+c.2.1-1)
  match x with
  |some j =>
   if j=ax then
    if c.2.2>0 then do
     ek (lo+c.2.1-(c.2.2+1)) (lo+c.2.1)
     pure (ForInStep.yield (aq,c.2.1+1,0))
    else pure (ForInStep.yield (aq,c.2.1+1,0))
   else do
    let x<-ltAt' (lo+c.2.1-1) (lo+c.2.1)
    match x with
    |some q =>
     if q=ax then pure (ForInStep.done (aq,c.2.1,c.2.2))
     else pure (ForInStep.yield (aq,c.2.1+1,c.2.2+1))
    |_=>pure (ForInStep.done (ak aq,c.2.1,c.2.2))
  |_=>pure (ForInStep.done (ak aq,c.2.1,c.2.2))
noncomputable def WM(lo n0 nrem:a4):c3 bo Sem (av a4):=do
 let mut n:=n0
 rule "list.sort.descending-run"
 n:=n+1
 let mut lX:=0
 for _ in [n:nrem] do
  let ak j<-ltAt' (lo+n) (lo+n-1)|return aq
  if j then
   if lX>0 then ek (lo+n-(lX+1)) (lo+n)
   lX:=0
  else
   let ak q<-ltAt' (lo+n-1) (lo+n)|return aq
   if q then break
   lX:=lX+1
  n:=n+1
 if lX>0 then ek (lo+n-(lX+1)) (lo+n)
 ek lo (lo+n)
 for _ in [n:nrem] do
  let ak j<-ltAt' (lo+n) (lo+n-1)|return aq
  if j then break
  n:=n+1
 return ak n
section
variable{M:ec}{A:bu}{E:ar->aw->Prop}{s:aw}{kd:dj}{P:a8->Prop}{rk:a8->az}{x0:a6 a8}{lo:a4}{p0:a6 (a4×a4×a4)}
theorem Rz(f:iO M A E s kd P rk)(e:∀x∈x0.toList,P x){st:bo}{a nrem:a4}{Q:AscSt->bo->Prop}(hn:lo+nrem<=x0.size)(ha:1<=a)(U:a<=nrem)(g:Bs kd x0 lo p0 st)(d:Up rk (bp st) lo a)
  (h:∀n,a<=n->n<=nrem->Up rk (bp st) lo n->(n=nrem\/Kr rk (bp st) (lo+n)<Kr rk (bp st) (lo+n-1))->Q (aq,n) st) :
  wpS M A E s (XO lo a nrem) Q st:=by
 unfold XO;refine qC (I:=λx c B=>B=st/\c=(aq,x)/\Up rk (bp st) lo x) ?step ?fin ⟨rfl,rfl,d⟩
 case fin =>
  rintro c B ⟨rfl,rfl,z⟩;rw[show max a nrem=nrem by omega]at z ⊢;exact h nrem U dC z (.inl rfl)
 case step =>
  rintro x c B m r ⟨rfl,rfl,z⟩;dsimp only;refine bJ (KI f e g (by omega) (by omega) ?_)
  by_cases L:Kr rk (bp B) (lo+x)<Kr rk (bp B) (lo+x-1)
  ·simp only[L,EA,fI];exact dB (h x m (by omega) z (.inr L))
  ·simp only[L,IQ,kD,gC];refine dB ⟨rfl,rfl,λi j k p=>?_⟩
   by_cases l:j<x
   ·exact z i j k l
   ·have o:j=x:=by omega
    subst o
    by_cases b:i=j
    ·subst b;exact tP _
    ·have q:=z i (j-1) (by omega) (by omega);rw[show lo+(j-1)=lo+j-1 by omega]at q;exact Int.le_trans q (Int.not_lt.mp L)
theorem Rm(d:iO M A E s kd P rk)(c:∀x∈x0.toList,P x){st:bo}{n nrem:a4}{Q:av a4->bo->Prop}(hn:lo+nrem<=x0.size)(h1:1<=n)(a:n<=nrem)(U:Bs kd x0 lo p0 st)
  (b:Dn rk (bp st) lo n) (h:∀m B,Bs kd x0 lo p0 B->1<=m->m<=nrem->Up rk (bp B) lo m->Q (ak m) B) :
  wpS M A E s (SJ lo n nrem) Q st:=by
 unfold SJ;have z:lo+n<=(bp st).size:=by rw[U.size];omega
 refine bJ (RN ?_);have L:=U.mirror (i:=lo) (j:=lo+n) dC (by omega);refine bJ (show wpS M A E s (XO lo n nrem) _ _ from Rz d c hn h1 a L ?_ λm l f e _=>dB (h m _ L (by omega) f e));intro i j k g;show Kr rk (mirror (bp st) lo (lo+n) ((lo+n-lo)/2)) (lo+i)<=Kr rk (mirror (bp st) lo (lo+n) ((lo+n-lo)/2)) (lo+j);rw[Pa z,Pa z,a7 (by omega),a7 (by omega)];have q:=b (n-1-j) (n-1-i) (by omega) (by omega);rw[show lo+(n-1-j)=lo+(lo+n)-1-(lo+j)by omega,show lo+(n-1-i)=lo+(lo+n)-1-(lo+i)by omega]at q;exact q
theorem af0(v:iO M A E s kd P rk)(u:∀x∈x0.toList,P x){st:bo}{n nrem:a4}{Q:DescSt->bo->Prop}(hn:lo+nrem<=x0.size)(h1:1<=n)(y:n<=nrem)(F:Bs kd x0 lo p0 st)
  (C:Dn rk (bp st) lo n)
  (h:∀m lX z,Bs kd x0 lo p0 z->n<=m->m<=nrem->Dn rk (bp z) lo m->lX+1<=m->(∀i,lo+m-(lX+1)<=i->i<lo+m->Kr rk (bp z) i=Kr rk (bp z) (lo+m-1))->Q (aq,m,lX) z) :
  wpS M A E s (Kc lo n nrem) Q st:=by
 unfold Kc;refine qC (I:=λx c z=>∃lX,c=(aq,x,lX)/\Bs kd x0 lo p0 z/\Dn rk (bp z) lo x/\lX+1<=x /\
   (∀i,lo+x-(lX+1)<=i->i<lo+x->Kr rk (bp z) i=Kr rk (bp z) (lo+x-1))) ?step ?fin ⟨0,rfl,F,C,by omega,λi h1 h2=>by congr 1;omega⟩
 case fin =>
  rintro c z ⟨lX,rfl,B,L,b,he⟩;rw[show max n nrem=nrem by omega]at L b he ⊢;exact h nrem lX z B y dC L b he
 case step =>
  rintro x c z G K ⟨lX,rfl,B,L,b,he⟩;dsimp only;have g:lo+x<=(bp z).size:=by rw[B.size];omega
  refine bJ (KI v u B (by omega) (by omega) ?_)
  by_cases e:Kr rk (bp z) (lo+x)<Kr rk (bp z) (lo+x-1)
  ·simp only[e,EA,fI];have w:∀d:a6 a8,(∀k,Kr rk d k=Kr rk (bp z) k)->Dn rk d lo (x+1):=by
    intro d t i j o D;rw[t,t]
    by_cases p:j<x
    ·exact L i j o p
    ·have r:j=x:=by omega
     subst r
     by_cases f:i=j
     ·subst f;exact tP _
     ·have q:=L i (j-1) (by omega) (by omega);rw[show lo+(j-1)=lo+j-1 by omega]at q;exact Int.le_trans (QN e) q
   refine gP (λH=>?_) (λH=>?_)
   ·exact bJ (RN (dB ⟨0,rfl,B.mirror (by omega) (by omega),w _ (QI g he),by omega,λi h1 h2=>by congr 1;omega⟩))
   ·exact dB ⟨0,rfl,B,w _ (λ_=>rfl),by omega,λi h1 h2=>by congr 1;omega⟩
  ·simp only[e,IQ,kD,gC];refine bJ (KI v u B (by omega) (by omega) ?_)
   by_cases a:Kr rk (bp z) (lo+x-1)<Kr rk (bp z) (lo+x)
   ·simp only[a,EA,fI];exact dB (h x lX z B G (by omega) L b he)
   ·simp only[a,IQ,kD,gC];have U:Kr rk (bp z) (lo+x)=Kr rk (bp z) (lo+x-1):=by omega
    refine dB ⟨lX+1,rfl,B,λi j o D=>?_,by omega,λi h1 h2=>?_⟩
    ·by_cases p:j<x
     ·exact L i j o p
     ·have r:j=x:=by omega
      subst r
      by_cases f:i=j
      ·subst f;exact tP _
      ·have q:=L i (j-1) (by omega) (by omega);rw[show lo+(j-1)=lo+j-1 by omega]at q;rw[U];exact q
    ·rw[show lo+(x+1)-1=lo+x by omega]
     by_cases l:i=lo+x
     ·subst l;rfl
     ·rw[U];exact he i (by omega) (by omega)
theorem Ry(U:iO M A E s kd P rk)(L:∀x∈x0.toList,P x){st:bo}{n nrem:a4}{Q:av a4->bo->Prop}(hn:lo+nrem<=x0.size)(c:n+1<=nrem)(f:Bs kd x0 lo p0 st)
  (d:Dn rk (bp st) lo (n+1)) (h:∀m q,Bs kd x0 lo p0 q->1<=m->m<=nrem->Up rk (bp q) lo m->Q (ak m) q) :
  wpS M A E s (WM lo n nrem) Q st:=by
 unfold WM;refine bJ (wpS_lift (vH ⟨rfl,?_⟩));refine bJ (show wpS M A E s (Kc lo (n+1) nrem) _ _ from af0 U L hn (by omega) c f d λm lX q B o b a l he=>?_);have z:lo+m<=(bp q).size:=by rw[B.size];omega
 refine gP (λk=>?_) (λk=>?_)
 ·refine wpS_bind (RN (show wpS M A E s (SJ lo m nrem) _ _ from Rm U L hn (by omega) b (B.mirror (by dsimp only;omega) (by dsimp only;omega)) ?_ h));intro i j g e;show Kr rk (mirror (bp q) _ _ _) (lo+j)<=Kr rk (mirror (bp q) _ _ _) (lo+i);rw[QI z he,QI z he];exact a i j g e
 ·exact(show wpS M A E s (SJ lo m nrem) _ _ from Rm U L hn (by omega) b B a h)
theorem afN(b:iO M A E s kd P rk)(a:∀x∈x0.toList,P x){st:bo}{nrem:a4}{Q:av a4->bo->Prop}(hn:lo+nrem<=x0.size)(h1:1<=nrem)(z:Bs kd x0 lo p0 st)
  (h:∀m l,Bs kd x0 lo p0 l->1<=m->m<=nrem->Up rk (bp l) lo m->Q (ak m) l) :
  wpS M A E s (countRun' lo nrem) Q st:=by
 rw[countRun'_eq];refine bJ (show wpS M A E s (XO lo 1 nrem) _ _ from Rz b a hn (rK 1) h1 z (λi j r p=>by
  have:i=j:=by omega
  subst this;exact tP _) λn y o c D=>?_)
 refine gP (λU=>?_) (λU=>?_)
 ·exact dB (h n st z y o c)
 ·have U:¬n=nrem:=by simpa using U
  have t:=D.resolve_left U;refine gP (λd=>?_) (λd=>?_)
  ·have d:n>1:=d;refine wpS_bind (KI b a z (by omega) (by dsimp only;omega) ?_);dsimp only
   by_cases w:Kr rk (bp st) lo<Kr rk (bp st) (lo+n-1)
   ·refine gP (λ_=>dB (h n st z y o c)) (λq=>b4 (yM w) q)
   ·refine gP (λq=>b4 (Ep q) w) (λ_=>?_);have L:lo+n<=(bp st).size:=by rw[z.size];omega
    have B:∀k,lo<=k->k<lo+n->Kr rk (bp st) k=Kr rk (bp st) (lo+n-1):=by
     intro k H I;have v:=c 0 (k-lo) (by omega) (by omega);have u:=c (k-lo) (n-1) (by omega) (by omega);rw[show lo+(k-lo)=k by omega]at v u;rw[show lo+(n-1)=lo+n-1 by omega]at u;rw[Nat.add_zero]at v;omega
    refine bJ (RN (show wpS M A E s (WM lo n nrem) _ _ from Ry b a hn (by omega) (z.mirror dC (by omega)) ?_ h));intro i j r p;show Kr rk (mirror (bp st) _ _ _) (lo+j)<=Kr rk (mirror (bp st) _ _ _) (lo+i);rw[QI L B,QI L B]
    by_cases G:j<n
    ·rw[B (lo+i) (by omega) (by omega),B (lo+j) (by omega) (by omega)];exact tP _
    ·have F:j=n:=by omega
     subst F
     by_cases e:i=j
     ·subst e;exact tP _
     ·rw[B (lo+i) (by omega) (by omega)];exact QN t
  ·have g:n=1:=by dsimp only at d;omega
   subst g;refine(show wpS M A E s (WM lo 1 nrem) _ _ from Ry b a hn (by omega) z ?_ h);intro i j r p
   by_cases e:i=j
   ·subst e;exact tP _
   ·have C:i=0:=by omega
    have f:j=1:=by omega
    subst C;subst f;exact QN t
end
theorem as6(i:a4):mergeAt' i=(do
 let s<-get
 let (ak (sa,na,power),ak (sb,nb,_)):=((b6 s)[i]?,(b6 s)[i+1]?)|unsupported "internal:list.sort.pending"
 set (setPending s (((b6 s).setIfInBounds i (sa,na+nb,power)).eraseIdxIfInBounds (i+1)))
 let ak k<-qN au (<-cm (bp s) sb) (bp s) sa na 0|return au
 let (sa,na):=(sa+k,na-k)
 if na==0 then return ax
 let ak nb<-qN ax (<-cm (bp s) (sa+na-1)) (bp s) sb nb (nb-1)|return au
 if nb==0 then return ax
 let x:=(bp s).extract sa sb
 let y:=(bp s).extract sb (sb+nb)
 let merged<-if na<=nb then MJ x y else MK x y
 modify λs=>setArr s (merged.toList.zipIdx.foldl (λa (p,j)=>a.setIfInBounds (sa+j) p) (bp s))
 return (dk (<-get)).isNone):=rfl
theorem acR{p:a4}:∀(l:ao a8) (k:a4) (arr:a6 a8),p+k+l.length<=arr.size->∀i,((l.zipIdx k).foldl (λa (x,j)=>a.setIfInBounds (p+j) x) arr)[i]?=if p+k<=i/\i<p+k+l.length then l[i-(p+k)]? else arr[i]?
 |[],k,arr,h,i=>by
  rw[ba (by simp only[xC];omega)];rfl
 |x::l,k,arr,h,i=>by
  rw[eB]at h;have ih:=acR (p:=p) l (k+1) (arr.setIfInBounds (p+k) x) (by rw[Array.size_setIfInBounds];omega) i;rw[List.zipIdx_cons,List.foldl_cons];refine ih.trans ?_;rw[eB]
  by_cases h1:p+(k+1)<=i/\i<p+(k+1)+l.length
  ·rw[a7 h1,a7 (by omega),show i-(p+k)=i-(p+(k+1))+1 by omega,List.getElem?_cons_succ]
  ·rw[ba h1]
   by_cases h2:i=p+k
   ·subst h2;rw[a7 (by omega),Nat.sub_self,List.getElem?_cons_zero,Array.getElem?_setIfInBounds_self_of_lt (by omega)]
   ·rw[ba (by omega),Array.getElem?_setIfInBounds_ne (by omega)]
theorem aG4{p:a4}{l pre mid post:ao a8}{arr:a6 a8}(h:arr.toList=pre++mid++post)(q:pre.length=p)(hl:l.length=mid.length):(l.zipIdx.foldl (λa (x,j)=>a.setIfInBounds (p+j) x) arr).toList=pre++l++post:=by
 have z:arr.size=pre.length+mid.length+post.length:=by rw[<-gO,h];simp[Nat.add_assoc]
 refine EY λi=>?_;rw[nF,acR l 0 arr (by omega) i,<-nF,h]
 by_cases h1:p+0<=i/\i<p+0+l.length
 ·rw[a7 h1,iH,qS (by omega),jA (by omega),q];rfl
 ·rw[ba h1]
  by_cases h2:i<p
  ·rw[iH,iH,jA (by omega),jA (by omega)]
  ·rw[qS (by simp only[fJ];omega),qS (by simp only[fJ];omega),fJ,fJ,hl]
theorem afM{J:Type}{M:ec}{A:bu}{E:ar->aw->Prop}{s:aw}{x:J}{Q:PUnit->J->Prop}{st:J}(h:Q ⟨⟩ x):wpS M A E s (set x:c3 J Sem PUnit) Q st:=by
 unfold wpS;rw[StateT.run_set];exact wpAny_pure ⟨rfl,h⟩
section
variable{M:ec}{A:bu}{E:ar->aw->Prop}{s:aw}{kd:dj}{P:a8->Prop}{rk:a8->az}
theorem Xu{pre mid post:ao a8}{arr:a6 a8}(h:arr.toList=pre++(mid++post)){j:a4}(q:j<mid.length):arr[pre.length+j]?=mid[j]?:=by
 rw[<-nF,h,qS (by omega),jA (by omega)];congr 1;omega
theorem Xv{pre mid post:ao a8}{arr:a6 a8}(h:arr.toList=pre++mid++post){i j:a4}(hi:i=pre.length)(q:j=pre.length+mid.length):(arr.extract i j).toList=mid:=by
 subst hi q;rw[ZK,List.extract_eq_take_drop,h,iH,List.drop_left];rw[show pre.length+mid.length-pre.length=mid.length by omega,List.take_left]
theorem SO{q j:ao a8}(h1:dI rk q)(h2:dI rk j)(h:∀x∈q,∀y∈j,rk x<=rk y):dI rk (q++j):=vD.mpr ⟨h1,h2,h⟩
theorem Ur{q j:ao a8}(h:dI rk (q++j)):dI rk q/\dI rk j/\∀x∈q,∀y∈j,rk x<=rk y:=vD.mp h
theorem afR(U:iO M A E s kd P rk){a b:a6 a8}(pa:∀x∈a.toList,P x)(pb:∀x∈b.toList,P x)(sa:dI rk a.toList)(sb:dI rk b.toList)(ha:0<a.size)(hb:0<b.size)(top:∀x,a.toList[a.size-1]?=ak x->∀y∈b.toList,rk y<=rk x)(bot:∀y,b.toList[0]?=ak y->∀x∈a.toList,rk y<=rk x){c:Prop} [c8 c]{st:bo}(L:kindOf st=kd) :
  wpS M A E s (if c then MJ a b else MK a b) (λm d=>eX st d/\jI rk a b m) st:=by
 obtain⟨x,h,B,g⟩:=nR (show a.size-1<a.size by omega);obtain⟨y,f,q,e⟩:=nR hb;refine gP (λ_=>afO U ⟨pa,pb,sa,sb,λz j=>?_⟩ ha hb bot L) (λ_=>afP U ⟨pa,pb,sa,sb,λz j=>?_⟩ ha hb top L)
 ·rw[WK B,List.drop_of_length_le (by simp;omega)]at j;simp only[kL]at j;subst j;exact top z B
 ·rw[Tt q,Oj,QC]at j;simp only[kL]at j;subst j;exact bot z q
theorem afQ(hL:iO M A E s kd P rk){st:bo}(S:kindOf st=kd)(hf:dk st=aq){i pw q:a4}{pre RA RB post:ao a8}(h:(bp st).toList=pre++(RA++(RB++post)))(hP:∀x∈(bp st).toList,P x)
  (p1:(b6 st)[i]?=ak (pre.length,RA.length,pw)) (p2:(b6 st)[i+1]?=ak (pre.length+RA.length,RB.length,q)) (hA:dI rk RA) (G:dI rk RB) (a0:0<RA.length) (b0:0<RB.length) {Q:bh->bo->Prop}
  (R:∀t C,kindOf t=kd->dk t=aq->b6 t=((b6 st).setIfInBounds i (pre.length,RA.length+RB.length,pw)).eraseIdxIfInBounds (i+1)->(bp t).toList=pre++(C++post)->C.Perm (RA++RB)->dI rk C->Q ax t) :
  wpS M A E s (mergeAt' i) Q st:=by
 rw[as6];refine bJ (xG ?_);rw[p1,p2];refine bJ (afM ?_);generalize hp:((b6 st).setIfInBounds i (pre.length,RA.length+RB.length,pw)).eraseIdxIfInBounds (i+1)=pend at R ⊢;have K:∀j,j<RA.length->(bp st)[pre.length+j]?=RA[j]?:=λj b=>Xu h b;have h':(bp st).toList=(pre++RA)++(RB++post):=by rw[h,iH]
 have I:∀j,j<RB.length->(bp st)[pre.length+RA.length+j]?=RB[j]?:=λj b=>by
  have:=Xu h' b;rwa[fJ]at this
 have PA:∀x∈RA,P x:=λx d=>hP x (by rw[h];simp[d]);have PB:∀x∈RB,P x:=λx d=>hP x (by rw[h];simp[d]);obtain⟨y,F⟩:∃y,RB[0]?=ak y:=⟨RB[0],oP RB 0 b0⟩;have X:=jP F;refine bJ (lG (by rw[<-F];exact I 0 b0) ?_);have HX:kindOf (setPending st pend)=kd:=S;refine bJ (ZP hL HX (PB y X) (λj b=>?_) (λj1 j2 x1 x2 Hu b e1 p=>?_) a0 (λk kJ cZ gD=>?_))
 ·exact⟨RA[j],by rw[K j b];exact oP RA j b,PA _ (Ot _)⟩
 ·rw[K _ (by omega)]at e1 p;exact GL hA Hu e1 p
 simp only[kD,gC]at cZ gD;obtain⟨L,B,rfl,lA1⟩:∃L B,RA=L++B/\L.length=k:=⟨RA.take k,RA.drop k,(sI k RA).symm,by rw[xA];omega⟩;have lA:(L++B).length=L.length+B.length:=fJ;obtain⟨Vr,Vq,amM⟩:=Ur hA;have Yi:∀x∈L,rk x<=rk y:=λx d=>by
  obtain⟨j,b,e⟩:=yX d;exact cZ j x (by omega) (by rw[K j (by omega),jA b,oP L j b,e])
 have atH:∀x∈B,rk y<=rk x:=λx d=>by
  obtain⟨j,b,e⟩:=yX d;have:=gD (k+j) x (by omega) (by omega) (by rw[K _ (by omega),qS (by omega),show k+j-L.length=j by omega,oP B j b,e]);omega
 have Yh:∀x∈RB,rk y<=rk x:=λx d=>GN G F x (by simpa using d);refine gP (λhe=>?_) (λhe=>?_)
 ·have he:(L++B).length-k=0:=by simpa using he
  have eA2:B=[]:=Ow (by omega);subst eA2;rw[pY]at *;exact dB (R _ (L++RB) S hf rfl (by rw[iH];exact h) (EZ _) (SO Vr G λx d z U=>by have:=Yi x d;have:=Yh z U;omega))
 have he:¬(L++B).length-k=0:=by simpa using he
 obtain⟨x,d⟩:∃x,B[B.length-1]?=ak x:=⟨B[B.length-1],oP B _ (by omega)⟩;have hxA:=jP d;have ex:(bp st)[pre.length+k+((L++B).length-k)-1]?=ak x:=by
  rw[show pre.length+k+((L++B).length-k)-1=pre.length+((L++B).length-1)by omega,K _ (by omega),qS (by omega),show(L++B).length-1-L.length=B.length-1 by omega];exact d
 refine bJ (lG ex ?_);refine bJ (ZP hL HX (PA x (lD _ hxA)) (λj b=>?_) (λj1 j2 x1 x2 Hu b e1 p=>?_) (by omega) (λn dD Zx N=>?_))
 ·exact⟨RB[j],by rw[I j b];exact oP RB j b,PB _ (Ot _)⟩
 ·rw[I _ (by omega)]at e1 p;exact GL G Hu e1 p
 simp only[fI]at Zx N;obtain⟨f,l,rfl,lB1⟩:∃f l,RB=f++l/\f.length=n:=⟨RB.take n,RB.drop n,(sI n RB).symm,by rw[xA];omega⟩;have lB:(f++l).length=f.length+l.length:=fJ;obtain⟨W,V,amK⟩:=Ur G;have mL:∀z∈f,rk z<=rk x:=λz U=>by
  obtain⟨j,b,e⟩:=yX U;have:=Zx j z (by omega) (by rw[I j (by omega),jA b,oP f j b,e]);omega
 have hJ:∀z∈l,rk x<=rk z:=λz U=>by
  obtain⟨j,b,e⟩:=yX U;exact N (n+j) z (by omega) (by omega) (by rw[I _ (by omega),qS (by omega),show n+j-f.length=j by omega,oP l j b,e])
 have Tr:∀z∈B,rk z<=rk x:=λz U=>by
  obtain⟨j,b,e⟩:=yX U;exact GL Vq (show j<=B.length-1 by omega) (by rw[oP B j b,e]) d
 have Qy:∀z∈L,∀v∈f++l,rk z<=rk v:=λz U v hv=>by have:=Yi z U;have:=Yh v hv;omega
 refine gP (λD=>?_) (λD=>?_)
 ·have D:n=0:=by simpa using D
  have eB1:f=[]:=Ow (by omega);subst eB1;rw[QC]at *;refine dB (R _ (L++B++l) S hf rfl (by rw[h,iH (L++B)]) (EZ _) (SO hA G λz U v hv=>?_))
  rcases hX.mp U with r|r
  ·exact Qy z r v hv
  ·have:=Tr z r;have:=hJ v hv;omega
 have D:¬n=0:=by simpa using D
 have w:((bp st).extract (pre.length+k) (pre.length+(L++B).length)).toList=B:=Xv (pre:=pre++L) (post:=f++l++post) (by rw[h];simp only[iH]) (by simp only[fJ];omega) (by simp only[fJ];omega);have u:((bp st).extract (pre.length+(L++B).length) (pre.length+(L++B).length+n)).toList=f:=Xv (pre:=pre++(L++B)) (post:=l++post) (by rw[h];simp only[iH]) (by simp only[fJ]) (by simp only[fJ];omega);have T:((bp st).extract (pre.length+k) (pre.length+(L++B).length)).size=B.length:=by rw[<-gO,w]
 have szb:((bp st).extract (pre.length+(L++B).length) (pre.length+(L++B).length+n)).size=f.length:=by rw[<-gO,u]
 have both:∀(c:Prop) [c8 c],wpS M A E s (if c then MJ ((bp st).extract (pre.length+k) (pre.length+(L++B).length)) ((bp st).extract (pre.length+(L++B).length) (pre.length+(L++B).length+n))else MK ((bp st).extract (pre.length+k) (pre.length+(L++B).length)) ((bp st).extract (pre.length+(L++B).length) (pre.length+(L++B).length+n))) (λm t=>eX (setPending st pend) t/\jI rk ((bp st).extract (pre.length+k) (pre.length+(L++B).length)) ((bp st).extract (pre.length+(L++B).length) (pre.length+(L++B).length+n)) m) (setPending st pend):=λc _=>by
  refine afR hL (by rw[w];exact λz U=>PA z (lD _ U)) (by rw[u];exact λz U=>PB z (mD _ U)) (by rw[w];exact Vq) (by rw[u];exact W) (by omega) (by omega) (λz U=>?_) (λz U=>?_) HX
  ·rw[w,T,d]at U;cases U;rw[u];exact mL
  ·rw[u]at U;rw[jA (by omega)]at F;rw[F]at U;cases U;rw[w];exact atH
 have bT:=both True;have bF:=both ck;rw[a7 trivial]at bT;rw[ba id]at bF;refine gP (λ_=>bJ (oA bT λm o gm=>?_)) (λ_=>bJ (oA bF λm o gm=>?_))
 all_goals
  obtain⟨g,H,gs⟩:=gm;rw[w,u]at H;refine bJ (FN (bJ (xG (dB ?_))));have e1:dk o=aq:=g.failed.trans hf;have ef:(dk (setArr o (m.toList.zipIdx.foldl (λa (x,j)=>a.setIfInBounds (pre.length+k+j) x) (bp o)))).isNone=ax:=by
   show(dk o).isNone=ax;rw[e1];rfl
  have fin:Q ax (setArr o (m.toList.zipIdx.foldl (λa (x,j)=>a.setIfInBounds (pre.length+k+j) x) (bp o))):=by
   refine R _ (L++m.toList++l) (g.kind.trans S) e1 g.pend ?_ ?_ ?_
   ·show(m.toList.zipIdx.foldl (λa (x,j)=>a.setIfInBounds (pre.length+k+j) x) (bp o)).toList=_;rw[show bp o=bp st from g.arr];rw[aG4 (pre:=pre++L) (mid:=B++f) (post:=l++post) (by rw[h];simp only[iH]) (by rw[fJ];omega) H.length_eq];simp only[iH]
   ·have p:L++B++(f++l)=L++(B++f)++l:=by simp only[iH]
    rw[p];exact(JR L H).append_right l
   ·refine SO (SO Vr gs λz U v hv=>?_) V λz U v hv=>?_
    ·rcases hX.mp (H.mem_iff.mp hv)with r|r
     ·exact amM z U v r
     ·exact Qy z U v (mD _ r)
    ·rcases hX.mp U with r|r
     ·exact Qy z r v (lD _ hv)
     ·rcases hX.mp (H.mem_iff.mp r)with r|r
      ·have:=Tr z r;have:=hJ v hv;omega
      ·exact amK z r v hv
  rw[<-ef]at fin;exact fin
end
noncomputable def starts:a4->ao (ao a8)->ao (a4×a4)
 |_,[]=>[]
 |o,R::Rs=>(o,R.length)::starts (o+R.length) Rs
theorem SN:∀(o:a4) (j R2:ao (ao a8)),starts o (j++R2)=starts o j++starts (o+j.flatten.length) R2
 |o,[],R2=>by simp[starts]
 |o,R::j,R2=>by
  rw[vE,starts,starts,SN,aeO,fJ,vE,Nat.add_assoc]
theorem LJ:∀(o:a4) (Rs:ao (ao a8)),(starts o Rs).length=Rs.length
 |_,[]=>rfl
 |o,R::Rs=>by rw[starts,eB,eB,LJ]
noncomputable abbrev sl(p:a4×a4×a4):a4×a4:=(p.1,p.2.1)
def tR(rk:a8->az)(pend:a6 (a4×a4×a4))(l rest:ao a8):Prop :=
 ∃Rs:ao (ao a8),l=Rs.flatten++rest/\pend.toList.map sl=starts 0 Rs/\∀R∈Rs,0<R.length/\dI rk R
section
variable{rk:a8->az}{pend:a6 (a4×a4×a4)}{l rest:ao a8}
theorem tR.push{R:ao a8}(h:tR rk pend l (R++rest))(h0:0<R.length)(z:dI rk R){lo q:a4}(j:lo+R.length+rest.length=l.length):tR rk (pend.push (lo,R.length,q)) l rest:=by
 obtain⟨Rs,e,m,hR⟩:=h;refine⟨Rs++[R],by rw[e];simp,?_,λS hS=>?_⟩
 ·rw[FK,tO,m,SN];have:lo=0+Rs.flatten.length:=by
   rw[e]at j;simp only[fJ]at j;omega
  rw[this];rfl
 ·rcases hX.mp hS with q|q
  ·exact hR S q
  ·simp only[kL]at q;subst q;exact⟨h0,z⟩
theorem tR.last{pw i:a4}(h:tR rk pend l rest):tR rk (pend.modify i λx=>match x with|(st,len,_)=>(st,len,pw)) l rest:=by
 obtain⟨Rs,e,m,hR⟩:=h;refine⟨Rs,e,?_,hR⟩;rw[<-m];refine EY λj=>?_;rw[jH,jH,nF,nF,Array.getElem?_modify];split
 ·cases pend[j]? <;> rfl
 ·rfl
theorem tR.size(h:tR rk pend l rest):pend.size+rest.length<=l.length:=by
 obtain⟨Rs,rfl,m,hR⟩:=h;have e:pend.size=Rs.length:=by
  have:=cz List.length m;rwa[jQ,gO,LJ]at this
 rw[fJ,e];have:∀Rs:ao (ao a8),(∀R∈Rs,0<R.length/\dI rk R)->Rs.length<=Rs.flatten.length:=by
  intro Rs
  induction Rs with
  |nil=>intro _;simp
  |cons R Rs ih =>
   intro h;have h1:=ih λS hS=>h S (iP _ hS);have h2:=(h R (by simp)).1;rw[eB,aeO,fJ];omega
 have:=this Rs hR;omega
theorem tR.done(h:tR rk pend l [])(h1:pend.size<=1):dI rk l:=by
 obtain⟨Rs,rfl,m,hR⟩:=h;have e:pend.size=Rs.length:=by
  have:=cz List.length m;rwa[jQ,gO,LJ]at this
 rw[pY]
 match Rs,hR with
 |[],_=>simp
 |[R],hR=>simpa using(hR R (by simp)).2
 |_::_::_,_=>simp only[eB]at e;omega
theorem Tg{β:Type}{l:ao β}{i:a4}(h:i+1<l.length):∃j x y q,l=j++x::y::q/\j.length=i :=
 ⟨l.take i,l[i],l[i+1],l.drop (i+2),by rw[<-JP,<-JP,sI],by rw[xA];omega⟩
variable{M:ec}{A:bu}{E:ar->aw->Prop}{s:aw}{kd:dj}{P:a8->Prop}
structure Go(rk:a8->az)(kd:dj)(x0:a6 a8)(rest:ao a8)(st:bo):Prop where
 kind:kindOf st=kd
 failed:dk st=aq
 perm:(bp st).Perm x0
 WO:tR rk (b6 st) (bp st).toList rest
theorem Ro(X:iO M A E s kd P rk){x0:a6 a8}(W:∀x∈x0.toList,P x){st:bo}(h:Go rk kd x0 rest st){i:a4}(hi:i+1<(b6 st).size){Q:bh->bo->Prop}
  (S:∀j,Go rk kd x0 rest j->(b6 j).size+1=(b6 st).size->Q ax j):wpS M A E s (mergeAt' i) Q st:=by
 obtain⟨T,V,f,Rs,e,m,hR⟩:=h;have el:(b6 st).size=Rs.length:=by
  have:=cz List.length m;rwa[jQ,gO,LJ]at this
 obtain⟨B,RA,RB,R2,rfl,l1⟩:=Tg (show i+1<Rs.length by omega);obtain⟨L,x,y,t,q,H⟩:=Tg (show i+1<(b6 st).toList.length by rw[gO];omega);rw[q,tO,SN,ET]at m;have G:=List.append_inj m (by rw[jQ,LJ];omega);obtain⟨F,d⟩:=G;simp only[dJ,starts,nX]at d;obtain⟨c,b,D⟩:=d;obtain⟨x1,x2,a⟩:=x;obtain⟨y1,y2,p⟩:=y;simp only[wU]at c b;obtain⟨rfl,rfl⟩:=c;obtain⟨rfl,rfl⟩:=b;have v:(b6 st)[i]?=ak (B.flatten.length,RA.length,a):=by
  rw[<-nF,q,qS (by omega),show i-L.length=0 by omega];rfl
 have u:(b6 st)[i+1]?=ak (B.flatten.length+RA.length,RB.length,p):=by
  rw[<-nF,q,qS (by omega),show i+1-L.length=1 by omega];rfl
 have k:=hR RA (by simp);have g:=hR RB (by simp);refine afQ X T V (pre:=B.flatten) (RA:=RA) (RB:=RB) (post:=R2.flatten++rest) (by rw[e];simp) (λz N=>W z ((ZL.mp f).mem_iff.mp N)) v u k.2 g.2 k.1 g.1 λj C K f' w n l c2=>?_;have I:C.length=RA.length+RB.length:=by rw[l.length_eq,fJ]
 have o:(b6 j).toList=L++(B.flatten.length,RA.length+RB.length,a)::t:=by
  rw[w,Array.toList_eraseIdxIfInBounds,Array.toList_setIfInBounds,q,<-H];simp[List.eraseIdx_append_of_length_le]
 refine S j ⟨K,f',?_,B++C::R2,?_,?_,λR U=>?_⟩ ?_
 ·refine Array.Perm.trans ?_ f;rw[ZL,n,e];simp only[List.flatten_append,aeO,iH];refine JR _ ?_;rw[<-iH RA RB];exact l.append_right _
 ·rw[n];simp
 ·rw[o,tO,SN,F,dJ,D,starts,I,ET,Nat.add_assoc]
 ·rcases hX.mp U with r|r
  ·exact hR R (mD _ r)
  ·rcases dY.mp r with r|r
   ·subst r;exact⟨by omega,c2⟩
   ·exact hR R (by simp[r])
 ·rw[<-gO,o,<-gO,q];simp;omega
end
section
variable{M:ec}{A:bu}{E:ar->aw->Prop}{s:aw}{kd:dj}{P:a8->Prop}{rk:a8->az}
theorem Up.ajX{xs:a6 a8}{lo n:a4}(h:Up rk xs lo n)(hn:lo+n<=xs.size):dI rk ((xs.toList.drop lo).take n):=by
 refine List.pairwise_iff_getElem.mpr λi j hi B L=>?_;rw[xA,QE,gO]at hi B;have q:=h i j (by omega) (by omega);have g:∀k (z:lo+k<xs.size),Kr rk xs (lo+k)=rk xs[lo+k]:=λk z=>by unfold Kr;rw[getElem?_pos xs (lo+k) z]
 rw[g i (by omega),g j (by omega)]at q;rw[List.getElem_take,List.getElem_take,Ou,Ou];exact q
theorem Go.made{x0:a6 a8}{rest:ao a8}{st j:bo}(h:Go rk kd x0 rest st){lo n:a4}(b:lo+rest.length=(bp st).size)(q:Bs kd (bp st) lo (b6 st) j)(hn:lo+n<=(bp st).size)(B:Up rk (bp j) lo n) :
  ∃R z,Go rk kd x0 (R++z) j/\R.length=n/\dI rk R/\lo+n+z.length=(bp st).size:=by
 obtain⟨a,hf,L,Rs,e,m,hR⟩:=h;have sz:=q.size;have lf:Rs.flatten.length=lo:=by
  have:=cz List.length e;rw[gO,fJ]at this;omega
 have U:(bp j).toList.take lo=Rs.flatten:=by
  refine EY λi=>?_
  by_cases hi:i<lo
  ·rw[List.getElem?_take_of_lt hi,nF,q.pre i hi,<-nF,e,jA (by omega)]
  ·rw[yY (by rw[xA];omega),yY (by omega)]
 refine⟨((bp j).toList.drop lo).take n,((bp j).toList.drop lo).drop n,⟨q.kind,q.failed,q.perm.trans L,Rs,?_,by rw[q.pend];exact m,hR⟩,?_,B.ajX (by omega),?_⟩
 ·rw[sI,<-U,sI]
 ·rw[xA,QE,gO];omega
 ·rw[QE,QE,gO];omega
theorem Go.Vh{x0:a6 a8}{rest j:ao a8}{st:bo}(h:Go rk kd x0 rest st){p:a6 (a4×a4×a4)}(q:tR rk p (bp st).toList j):Go rk kd x0 j (setPending st p):=⟨h.kind,h.failed,h.perm,q⟩
theorem Go.bs{x0:a6 a8}{rest:ao a8}{st:bo}(h:Go rk kd x0 rest st)(lo:a4):Bs kd (bp st) lo (b6 st) st:=⟨h.kind,h.failed,rfl,.refl _,λ_ _=>rfl⟩
theorem afL(u:iO M A E s kd P rk){x0:a6 a8}(G:∀x∈x0.toList,P x){st:bo}(hk:kindOf st=kd)(hf:dk st=aq)(ha:bp st=x0)(hp:b6 st=#[]){Q:Unit->bo->Prop}
  (h:∀z,(bp z).Perm x0->dk z=aq->dI rk (bp z).toList->Q () z):wpS M A E s sortRuns' Q st:=by
 have g0:Go rk kd x0 x0.toList st:=⟨hk,hf,by rw[ha],[],by rw[ha];rfl,by rw[hp];rfl,by simp⟩;rw[sortRuns'_eq];refine bJ (xG ?_);dsimp only;rw[ha];generalize minRun' x0.size x0.size 0=o;refine bJ (oA (qC
  (I:=λi c z=>∃lo rest,c=(aq,lo)/\i<=lo/\lo+rest.length=x0.size/\Go rk kd x0 rest z)
  (Q:=λc z=>c.1=aq/\Go rk kd x0 [] z) ?step ?fin ⟨0,x0.toList,rfl,rK _,by simp,g0⟩) ?post)
 case fin =>
  rintro c z ⟨lo,rest,rfl,h1,h2,g⟩;have:rest=[]:=Ow (by omega);subst this;exact⟨rfl,g⟩
 case step =>
  rintro i c z _ hi ⟨lo,rest,rfl,h1,h2,g⟩;have C:(bp z).size=x0.size:=g.perm.size_eq;refine gP (λm=>?_) (λm=>?_)
  ·have m:lo>=x0.size:=m;have:rest=[]:=Ow (by omega);subst this;exact dB ⟨rfl,g⟩
  have m:¬lo>=x0.size:=m;have AH:∀x∈(bp z).toList,P x:=λx hx=>G x ((ZL.mp g.perm).mem_iff.mp hx);refine bJ (afN u AH (lo:=lo) (nrem:=x0.size-lo) (by omega) (by omega) (g.bs lo) λn p hB Hk wD X=>?_);refine gP (λN=>?a) (λN=>?b)
  case' a =>
   have N:n<o:=N;refine bJ (wpS_lift (vH ⟨rfl,?_⟩));refine bJ (af1 u AH (lo:=lo) (n:=min (x0.size-lo) o) (by omega) (by omega) hB X λB H Zj=>?_);refine gP (λq=>b4 q (by decide)) (λ_=>?_);have F:1<=min (x0.size-lo) o:=by omega
   have D:min (x0.size-lo) o<=x0.size-lo:=by omega
   dsimp only;generalize min (x0.size-lo) o=n2 at F D Zj ⊢;obtain⟨R,U,L,y,V,Ho⟩:=g.made (by omega) H (by omega) Zj
  case' b =>
   dsimp only;obtain⟨R,U,L,y,V,Ho⟩:=g.made (by omega) hB (by omega) X
  all_goals
   refine bJ (xG ?_);generalize w:R.length=k at y;subst y;have fin:∀B,Go rk kd x0 (R++U) B->Go rk kd x0 U (setPending B ((b6 B).push (lo,k,0))):=λB d=>d.Vh (by
    rw[<-w];exact d.WO.push (by omega) V (by have:=d.perm.size_eq;have e:=gO (xs:=bp B);omega))
   have last:∀B,Go rk kd x0 (R++U) B->∃S LP,((aq,lo+k):av Unit×a4)=(aq,S)/\i+1<=S/\S+LP.length=x0.size/\Go rk kd x0 LP (setPending B ((b6 B).push (lo,k,0))):=λB d=>⟨lo+k,U,rfl,by omega,by omega,fin B d⟩
   split
   ·rename_i W v q1 _;generalize power' x0.size (2*W+v) (2*W+v+v+k) x0.size=pw;refine bJ (oA (qC (I:=λ_ c z=>c=(aq,())/\Go rk kd x0 (R++U) z) (Q:=λc z=>c=(aq,())/\Go rk kd x0 (R++U) z) ?istep (λ_ _ hh=>hh) ⟨rfl,L⟩) ?ipost)
    case istep =>
     rintro j c T _ _ ⟨rfl,f⟩;refine bJ (xG ?_)
     by_cases hs:(b6 T).size>1
     ·rw[a7 hs,oP _ _ (by omega)];refine gP (λ_=>dB ⟨rfl,f⟩) (λ_=>?_);refine bJ (Ro u G f (by omega) λBY K _=>?_);exact gP (λq=>b4 q (by decide)) (λ_=>dB ⟨rfl,K⟩)
     ·rw[ba hs];exact dB ⟨rfl,f⟩
    case ipost =>
     rintro c T ⟨rfl,f⟩;have K:=f.Vh (f.WO.last (pw:=pw) (i:=(b6 T).size-1));refine bJ (FN (bJ (FN (dB ?_))));exact last _ K
   ·exact bJ (FN (dB (last _ L)))
 case post =>
  rintro⟨r,lo⟩ z ⟨e,g⟩;dsimp only at e;subst e;have C:(bp z).size=x0.size:=g.perm.size_eq;have hc:=g.WO.size;have e:=gO (xs:=bp z);rw[xC]at hc;refine bJ (oA (qC (I:=λt c l=>c=(aq,())/\Go rk kd x0 [] l/\(b6 l).size+t<=x0.size+1) (Q:=λc l=>c=(aq,())/\Go rk kd x0 [] l/\(b6 l).size<=1) ?s2 ?f2 ⟨rfl,g,by omega⟩) ?p2)
  case f2 =>
   rintro c p ⟨e,L,h2⟩;exact⟨e,L,by omega⟩
  case p2 =>
   rintro c p ⟨rfl,L,h2⟩;exact dB (h p L.perm L.failed (L.WO.done h2))
  case s2 =>
   rintro t c p _ _ ⟨rfl,L,h2⟩;refine bJ (xG (gP (λh1=>dB ⟨rfl,L,h1⟩) (λh1=>?_)));refine bJ (Ro u G L ?_ λB d h3=>?_)
   ·generalize Option.any _ _=cc;cases cc <;> simp only[kD,fI,gC] <;> omega
   ·exact gP (λq=>b4 q (by decide)) (λ_=>dB ⟨rfl,d,by omega⟩)
end
section
variable{prog:bg}{w:br}{A:bu}{E:ar->aw->Prop}{s:aw}
theorem atD:iO (bq prog w) A E s oneType' (λp=>∃n t,p.1=.int n t) (λp=>numOf p.1):=by
 rintro⟨x,L⟩ ⟨y,B⟩ ⟨n,t,q⟩ ⟨m,u,j⟩ st Q z h;dsimp only at q j;subst q j;rw[lt'_eq];refine bJ (xG ?_);rw[z,keyLt'_oneType];refine bJ (wpS_lift (FT (oneLt_int ⟨rfl,?_⟩)));exact dB h
theorem ajW{xs:a6 a8}{n:a4}(h:dI (λp=>numOf p.1) xs.toList)(hn:n<=xs.size):SortedTo xs n:=λi j z q=>by
 rw[K_eq (show i<xs.size by omega),K_eq (show j<xs.size by omega)]
 by_cases e:i=j
 ·subst e;exact tP _
 ·have:=List.pairwise_iff_getElem.mp h i j (by rw[gO];omega) (by rw[gO];omega) (by omega);simpa using this
theorem Fv{a:ay}{vs:ao ar}{ns:ao az}{n:a4}{P:PySem.Fin->aw->Prop}(b:s.heap.get? a=ak (cq "list" vs.toArray n))
  (g:cw vs ns) (hl:vs.length<=bc)
  (h:∀(ae:a6 ar) (L:ao az),cw ae.toList L->L.Perm ns->L.Pairwise (· <= ·)->P (.done (.ret .none)) {s with heap:=ew s.heap a vs ae}) :
  wpAny (bq prog w) A (Builtin.«list.sort» ⟨[.ref a],[]⟩) P E s:=by
 rw[list_sort_plain];have ha:a<s.heap.objs.size:=eI b;refine aI (listItems_at b rfl ?_);refine aI (listUpdate_at b rfl ?_ (by rw[hW];exact hl) CP);obtain⟨e1,k⟩:∃e1,(s.heap.update a (Obj.mapSeq λ_=>#[])).get? a=ak (cq "list" #[] e1):=⟨_,VV b (λ_=>#[])⟩;refine aI (seqEpoch_at k rfl ?_);refine aI (wpAny_newTuple ?_ (by show vs.length<=_;exact hl));refine aI (wpAny_newList ?_ CP);refine sT ?_;have c:(((s.heap.update a (Obj.mapSeq λ_=>#[])).push (cq "tuple" vs.toArray 0)).push (cq "list" #[] 0)).get? a=ak (cq "list" #[] e1):=by
  rw[Heap.get?_push_ne _ _ _ (by rw[size_push',Heap.size_update];exact fX (YE ha)),Heap.get?_push_ne _ _ _ (by rw[Heap.size_update];exact fX ha)];exact k
 show wpAny (bq prog w) A _ P E {s with heap:=((s.heap.update a (Obj.mapSeq λ_=>#[])).push (cq "tuple" vs.toArray 0)).push (cq "list" #[] 0)};dsimp only;have d:vs.toArray.size=vs.length:=by simp
 have fin:∀B:bo,(bp B).Perm (pairsOf vs)->SortedTo (bp B) (pairsOf vs).size ->
   P (.done (.ret .none)) {s with heap:=ew s.heap a vs ((bp B).map (·.2))}:=by
  intro B U f;obtain⟨L,h1,h2,p⟩:=sorted_out g U f;exact h _ L h1 h2 p
 by_cases h2:vs.toArray.size<2
 ·rw[a7 h2,a7 h2];refine aI (bC ?_);rw[StateT.run_pure];refine aI (bC ?_);dsimp only;refine aI (seqEpoch_at c rfl ?_);refine aI (listUpdate_at c rfl ?_ CP (by rw[Array.size_map];show(pairsOf vs).size<=_;rw[pairsOf_size];omega));simp only[bne_self_eq_false,kD,gC];refine bC (fin (SortSt.mk' general' (vs.toArray.zip vs.toArray) #[] 7 aq) (Array.Perm.refl _) ?_);intro i j u m;have:i=j:=by rw[pairsOf_size]at m;omega
  subst this;exact tP _
 ·rw[ba h2,ba h2];obtain⟨z,q,rest,rfl⟩:∃z q rest,vs=z::q::rest:=by
   match vs,d,h2 with
   |[],_,h2=>simp at h2
   |[_],_,h2=>simp at h2
   |z::q::rest,_,_=>exact⟨z,q,rest,rfl⟩
  rw[keyKind_ints g];refine aI (bC ?_);refine aI (oB (afL atD (x0:=pairsOf (z::q::rest)) (st:=SortSt.mk' oneType' ((z::q::rest).toArray.zip (z::q::rest).toArray) #[] 7 aq)
   (Q:=λ_ B=>(bp B).Perm (pairsOf (z::q::rest))/\dk B=aq/\SortedTo (bp B) (pairsOf (z::q::rest)).size)
   g.intKeys rfl rfl rfl rfl λB l t r=>⟨l,t,ajW r (by rw[l.size_eq];exact rK _)⟩) ?_ λ_ _ e=>e)
  rintro⟨⟨⟩,B⟩ s' ⟨rfl,U,o,f⟩;dsimp only;refine aI (seqEpoch_at c rfl ?_);refine aI (listUpdate_at c rfl ?_ CP (by refine nW (Nat.le_of_eq ((Array.size_map ..).trans (U.size_eq.trans (pairsOf_size _)))) ?_;omega));rw[o];simp only[bne_self_eq_false,kD,gC];exact bC (fin B U f)
theorem ajZ{l:ay}{vs:ao ar}{ns:ao az}{Q:ar->aw->Prop}(hl:s.heap.IsList l vs.toArray)(B:cw vs ns)(hz:vs.length<=bc)
  (h:∀(ae:a6 ar) (j:ao az),cw ae.toList j->j.Perm ns->j.Pairwise (· <= ·)->Q (.ref (s.heap.objs.size+1)) {s with heap:=sortedAll s.heap vs ae}) :
  wpAny (bq prog w) A (call (.builtin "sorted") [.ref l]) Q E s:=by
 refine ae4 kind_sorted plain_sorted entry_sorted (args_sorted1 _) ?_;unfold Builtin.«sorted»;refine aI (m:=checkCount "sorted" 1 1 _) (bC ?_);refine aI (collect_list hl ?_ hz);refine aI (wpAny_newList ?_ (by show vs.length<=_;exact hz));have q:((s.heap.push (cq "list" #[] 0)).update s.heap.objs.size (Obj.mapSeq (· ++ vs.toArray))).objs.size=s.heap.objs.size+1:=by
  rw[Heap.size_update,size_push']
 have z:(((s.heap.push (cq "list" #[] 0)).update s.heap.objs.size (Obj.mapSeq (· ++ vs.toArray))).push (cq "list" vs.toArray 0)).get? (s.heap.objs.size+1)=ak (cq "list" vs.toArray 0):=by
  rw[<-q];exact iQ _ rfl
 show wpAny _ _ _ _ _ {s with heap:=((s.heap.push (cq "list" #[] 0)).update s.heap.objs.size (Obj.mapSeq (· ++ vs.toArray))).push (cq "list" vs.toArray 0)};rw[q];refine aI (sT (sU slot_list_sort ⟨_,z,rfl⟩ entry_list_sort (Fv z B hz λae j a U L=>⟨_,rfl,?_⟩) (args_list_sort _)));exact bC ⟨_,rfl,h ae j a U L⟩
end
end PyProof.Rows
namespace L2
open PySem PySem.Spec PyProof.Rows
section
variable{X:Cx}
theorem aFK(T:X.calm=ax):oX X (.builtin "sorted") (λxs H Q=>∃d kvs ks,xs=[.ref d]/\H d=ak (.dK kvs)/\kvs.map (·.1)=ks.map Sum.inl/\ks.length<4000 /\
  ∀(ms:ao az) (l:ay),ms.Perm ks->ms.Pairwise (· <= ·)->H l=aq->Q (.ref l) (upd H l (.lst (ms.map V.int)))):=by
 intro aa s J H xs B Q I r h;obtain⟨d,kvs,ks,rfl,hd,C,IF,q⟩:=h;obtain⟨u,rfl,M⟩:=vals1 r;cases M;obtain⟨z,lo,g,rel,dd⟩:=Kb I.aL hd;obtain⟨ep,p⟩:=dd.dictAt;have VD:g.length=ks.length:=by
  rw[<-rel.length,<-jQ (f:=(·.1)),C,jQ]
 have R:(4000:a4)<=bc:=by decide
 refine ae4 kind_sorted plain_sorted entry_sorted (args_sorted1 _) ?_;unfold Builtin.«sorted»;refine aI (m:=checkCount "sorted" 1 1 _) (bC ?_);refine aI (PySem.W.kdu_collect (A:=X.A.in1) (PySem.W.kdl_dict (knd:=mK X.prog X.w) (kvs:=g) (ep:=ep) lo) (I.ok.hd T) p (by omega) λh' tk acc AD y=>?_);have hl:acc.toList.length=ks.length:=by rw[gO,y.1,VD]
 have hI:cw acc.toList ks:=by
  refine intsAre_of (ns:=ks) ?_;have key:∀(U:ao az) (B:ao ar),B.length=U.length->(∀(i:a4) (v:ar),B[i]?=ak v->∃(j:az) (t:Tok),U[i]?=ak j/\v=Value.int j t)->Vals (U.map V.int) B:=by
   intro U
   induction U with
   |nil=>intro B hl _;cases B with
    |nil=>exact .nil
    |cons _ _=>simp at hl
   |cons j U ih =>
    intro B hl hv;cases B with
    |nil=>simp at hl
    |cons v B =>
     obtain⟨j',t,e1,L⟩:=hv 0 v rfl;cases e1;exact .cons ⟨t,L⟩ (ih B (by simpa using hl) λi w P=>hv (i+1) w (by simpa using P))
  refine key ks acc.toList hl λi v hv=>?_;obtain⟨k,x,e1,L⟩:=y.2 i v (by rw[<-nF];exact hv);have a:(g.map (·.1))[i]?=ak k:=by rw[jH,e1];rfl
  rw[<-rel.keys,C,jH]at a;cases D:ks[i]? with
  |none=>rw[D]at a;cases a
  |some j =>
   rw[D]at a;have e5:(Sum.inl j:Key)=k:=nV a;subst e5
   rcases uN (k:=Sum.inl j) (v:=v) L with⟨i',t,o,N⟩|⟨_,_,o,_⟩
   ·cases o;exact⟨j,t,rfl,N⟩
   ·cases o
 refine aI (wpAny_newList ?_ (by rw[hl];omega));have n:(h'.push (cq "list" acc.toList.toArray 0)).get? h'.objs.size=ak (cq "list" acc.toList.toArray 0):=iQ _ rfl;refine aI (sT (sU slot_list_sort ⟨_,n,rfl⟩ entry_list_sort (Fv n hI (by omega) λae c a1 E a3=>⟨_,rfl,?_⟩) (args_list_sort _)));refine bC ⟨_,rfl,?_⟩;have F:Inv X aa J H {s with heap:=h',toks:=tk}:=I.kept AD;have S:H h'.objs.size=aq:=F.aL.fresh dC;obtain⟨e1,G⟩:∃e1,((h'.push (cq "list" acc.toList.toArray 0)).update h'.objs.size (Obj.mapSeq λ_=>#[])).get? h'.objs.size=ak (cq "list" #[] e1):=⟨_,VV n (λ_=>#[])⟩;have K:=eK (cq "list" #[] 0) (eK (cq "tuple" acc.toList.toArray 0) G);obtain⟨L,Hh⟩:∃L,(ew (h'.push (cq "list" acc.toList.toArray 0)) h'.objs.size acc.toList ae).get? h'.objs.size=ak (cq "list" ae L):=⟨_,VV K (λ_=>ae)⟩;have kp:∀b u,h'.get? b=ak u->(ew (h'.push (cq "list" acc.toList.toArray 0)) h'.objs.size acc.toList ae).get? b=ak u:=λb u e=>by
  have hb:b≠h'.objs.size:=fX (eI e);unfold ew;exact(sJ _ _ (cQ hb)).trans (eK _ (eK _ ((sJ _ _ (cQ hb)).trans (eK _ e))))
 have hv:Vals (c.map V.int) ae.toList:=RV a1;have Zy:c.length=ks.length:=E.length_eq;refine⟨.ref h'.objs.size,upd H h'.objs.size (.lst (c.map V.int)),F.laid (t':=tk) kp dC ?_,rfl,q c _ E a3 S⟩;exact⟨by rw[jQ];omega,ae.toList,L,hv,Hh⟩
end
end L2
namespace V2
open PySem PySem.Spec PyProof.Rows L2
inductive A where
 |int (i:az)|bl (b:bh)|str (x:a9)|bQ|ty (n:cj)|adr (p:ay)|WH (p d:ay) (f:a9) (i:az)|gl (x:a9)|eQ (ns:ao az)
 |tup (ds:ao A)|lst (ds:ao A)|aE (k:a4)
inductive Fd where
 |val (a:A)|lst (ds:ao A)|dA (kvs:ao (Key×A))
@[simp] noncomputable def Fd.own:Fd->bh
 |.val _=>au
 |_=>ax
inductive Cell where
 |lst (ds:ao A)|dA (kvs:ao (Key×A))|ins (cls:a9) (fs:ao (a9×Fd))|tab (x:a9) (pos:dg) (af:a9)|dead
@[simp] def Cell.noOwn:Cell->bh
 |.ins _ fs=>fs.all λp=>!p.2.own
 |_=>ax
structure Exc where
 cls:a9
 fs:ao (a9×A)
inductive Rs(α:Type)where
 |ok (a:α)|exc (x:Exc)
abbrev aG:=ao Cell
abbrev Ev:=ao (av A)
abbrev Mo(α:Type):=aG->av (Rs α×aG)
@[simp] noncomputable def ret{α:Type}(a:α):Mo α:=λZ=>ak (.ok a,Z)
@[simp] noncomputable def mb{α β:Type}(m:Mo α)(k:α->Mo β):Mo β:=λZ =>
 match m Z with
 |some (.ok a,Z1)=>k a Z1
 |some (.exc x,Z1)=>ak (.exc x,Z1)
 |none=>aq
@[simp] noncomputable def stuck{α:Type}:Mo α:=λ_=>aq
@[simp] noncomputable def need{α:Type}(o:av α):Mo α:=λZ=>o.map λa=>(.ok a,Z)
@[simp] noncomputable def pV(p:Prop) [c8 p]:Mo Unit:=λZ=>if p then ak (.ok (),Z)else aq
mutual
def Den(K:bj)(G:Hp)(O:ao ay):V->A->Prop
 |v,.int j=>v=.int j
 |v,.bl b=>v=.bl b
 |v,.str x=>v=.str x
 |v,.bQ=>v=.bQ
 |v,.ty n=>v=.ty n
 |v,.adr p=>v=.ref p
 |v,.WH p d f i=>v=.ref p/\G d=ak (.xd [(f,.int i)])
 |v,.gl x=>∃C,cu K a5 x=ak (ak (.ref C))/\v=.ref C
 |v,.eQ ns=>∃a,v=.ref a/\fH K G a (ns.map V.int)
 |v,.tup ds=>∃a xs,v=.ref a/\G a=ak (.tup xs)/\aY K G O xs ds
 |v,.lst ds=>∃a xs,v=.ref a/\G a=ak (.lst xs)/\aY K G O xs ds
 |v,.aE k=>∃a,v=.ref a/\O[k]?=ak a
def aY(K:bj)(G:Hp)(O:ao ay):ao V->ao A->Prop
 |xs,[]=>xs=[]
 |xs,d::ds=>∃x r,xs=x::r/\Den K G O x d/\aY K G O r ds
end
structure Ext(G:Hp)(O:ao ay)(G':Hp)(O':ao ay):Prop where
 same:nT G G'
 pre:∀(k:a4) (a:ay),O[k]?=ak a->O'[k]?=ak a
theorem Ext.refl(G:Hp)(O:ao ay):Ext G O G O:=⟨nT.refl _,λ_ _ h=>h⟩
theorem Ext.trans{G B z:Hp}{O q j:ao ay}(a:Ext G O B q)(b:Ext B q z j):Ext G O z j:=⟨a.same.trans b.same,λk x h=>b.pre k x (a.pre k x h)⟩
section
variable{K:bj}{G G':Hp}{O O':ao ay}
mutual
theorem Den.ext(e:Ext G O G' O'):∀{v:V} {d:A},Den K G O v d->Den K G' O' v d
 |_,.int _,h=>by simpa only[Den]using h
 |_,.bl _,h=>by simpa only[Den]using h
 |_,.str _,h=>by simpa only[Den]using h
 |_,.bQ,h=>by simpa only[Den]using h
 |_,.ty _,h=>by simpa only[Den]using h
 |_,.adr _,h=>by simpa only[Den]using h
 |_,.WH _ _ _ _,h=>by
  simp only[Den]at h ⊢;exact⟨h.1,e.same _ _ h.2⟩
 |_,.gl _,h=>by simpa only[Den]using h
 |_,.eQ _,h=>by
  simp only[Den]at h ⊢;obtain⟨a,h1,h2⟩:=h;exact⟨a,h1,e.same.seq h2⟩
 |_,.tup ds,h=>by
  simp only[Den]at h ⊢;obtain⟨a,xs,h1,h2,j⟩:=h;exact⟨a,xs,h1,e.same _ _ h2,aY.ext e j⟩
 |_,.lst ds,h=>by
  simp only[Den]at h ⊢;obtain⟨a,xs,h1,h2,j⟩:=h;exact⟨a,xs,h1,e.same _ _ h2,aY.ext e j⟩
 |_,.aE k,h=>by
  simp only[Den]at h ⊢;obtain⟨a,h1,h2⟩:=h;exact⟨a,h1,e.pre _ _ h2⟩
theorem aY.ext(e:Ext G O G' O'):∀{xs:ao V} {ds:ao A},aY K G O xs ds->aY K G' O' xs ds
 |_,[],h=>by simpa only[aY]using h
 |_,d::ds,h=>by
  simp only[aY]at h ⊢;obtain⟨x,r,h1,h2,j⟩:=h;exact⟨x,r,h1,Den.ext e h2,aY.ext e j⟩
end
theorem wK{xs:ao V}:aY K G O xs []<->xs=[]:=by simp only[aY]
theorem aY.length:∀{xs:ao V} {ds:ao A},aY K G O xs ds->xs.length=ds.length
 |_,[],h=>by simp only[aY]at h;subst h;rfl
 |_,d::ds,h=>by
  simp only[aY]at h;obtain⟨x,r,rfl,h2,j⟩:=h;simp only[eB,aY.length j]
theorem aY.nil:aY K G O [] []:=by simp only[aY]
theorem aY.cons{x:V}{xs:ao V}{d:A}{ds:ao A}(h:Den K G O x d)(t:aY K G O xs ds):aY K G O (x::xs) (d::ds):=by
 simp only[aY];exact⟨x,xs,rfl,h,t⟩
theorem aY.pE{xs:ao V}{d:A}{ds:ao A}(h:aY K G O xs (d::ds)):∃x r,xs=x::r/\Den K G O x d/\aY K G O r ds:=by simpa only[aY]using h
theorem aY.get:∀{xs:ao V} {ds:ao A} {i:a4} {d:A},aY K G O xs ds->ds[i]?=ak d->∃x,xs[i]?=ak x/\Den K G O x d
 |_,[],_,_,_,e=>by simp at e
 |_,_::_,0,_,h,e=>by
  obtain⟨x,r,rfl,h2,j⟩:=h.pE;simp at e;subst e;exact⟨x,rfl,h2⟩
 |_,_::_,i+1,_,h,e=>by
  obtain⟨x,r,rfl,h2,j⟩:=h.pE;simp at e;obtain⟨y,z,q⟩:=aY.get j e;exact⟨y,by simpa using z,q⟩
theorem aY.append:∀{xs ys:ao V} {ds es:ao A},aY K G O xs ds->aY K G O ys es->aY K G O (xs++ys) (ds++es)
 |_,_,[],_,h,t=>by rw[wK]at h;subst h;exact t
 |_,_,d::ds,_,h,t=>by
  obtain⟨x,r,rfl,h2,j⟩:=h.pE;exact .cons h2 (aY.append j t)
theorem aY.take:∀{xs:ao V} {ds:ao A} (n:a4),aY K G O xs ds->aY K G O (xs.take n) (ds.take n)
 |_,_,0,_=>by simpa using aY.nil
 |_,[],n+1,h=>by rw[wK]at h;subst h;exact aY.nil
 |_,d::ds,n+1,h=>by
  obtain⟨x,r,rfl,h2,j⟩:=h.pE;exact .cons h2 (aY.take n j)
theorem aY.drop:∀{xs:ao V} {ds:ao A} (n:a4),aY K G O xs ds->aY K G O (xs.drop n) (ds.drop n)
 |_,_,0,h=>by simpa using h
 |_,[],n+1,h=>by rw[wK]at h;subst h;exact aY.nil
 |_,d::ds,n+1,h=>by
  obtain⟨x,r,rfl,h2,j⟩:=h.pE;exact aY.drop n j
theorem aY.set{x:V}{d:A}(q:Den K G O x d):∀{xs:ao V} {ds:ao A} (n:a4),aY K G O xs ds->aY K G O (xs.set n x) (ds.set n d)
 |_,[],n,h=>by rw[wK]at h;subst h;exact aY.nil
 |_,e::ds,0,h=>by
  obtain⟨y,r,rfl,h2,j⟩:=h.pE;exact .cons q j
 |_,e::ds,n+1,h=>by
  obtain⟨y,r,rfl,h2,j⟩:=h.pE;exact .cons h2 (aY.set q n j)
theorem OK:∀(ns:ao az),aY K G O (ns.map V.int) (ns.map A.int)
 |[] => .nil
 |n::ns => .cons (by simp only[Den]) (OK ns)
end
def aH1(K:bj)(G H:Hp)(a:ay)(x:a9)(pos:dg)(af:a9):Prop :=
 G a=aq/\(∃c,PySem.W.tabIn K x=ak (c,a))/\∃ps,H a=ak (.xK ps)/\TriplesOk ps.toList /\
  (codeAmong pos ps.toList=aq\/∃c' j vs t,codeAmong pos ps.toList=ak (.ref c')/\G c'=ak (.iC j (.own 0))/\j.data=.fields vs/\vs[1]?=ak (.str af t))
def kC(K:bj)(G:Hp)(O:ao ay)(H:Hp)(v:V):Fd->Prop
 |.val a=>Den K G O v a
 |.lst ds=>∃b xs,v=.ref b/\G b=aq/\b∉O/\H b=ak (.lst xs)/\aY K G O xs ds
 |.dA kvs=>∃b,∃j:ao (Key×V),v=.ref b/\G b=aq/\b∉O/\H b=ak (.dK j)/\j.map (·.1)=kvs.map (·.1)/\aY K G O (j.map (·.2)) (kvs.map (·.2))
def jS(K:bj)(G:Hp)(O:ao ay)(H:Hp):ao (a9×V)->ao (a9×Fd)->Prop
 |[],[]=>True
 |(f,v)::j,(g,d)::fs=>f=g/\kC K G O H v d/\jS K G O H j fs
 |_,_=>ck
def sP(K:bj)(G:Hp)(O:ao ay)(H:Hp)(a:ay):Cell->Prop
 |.lst ds=>G a=aq/\∃xs,H a=ak (.lst xs)/\aY K G O xs ds
 |.dA kvs=>G a=aq/\∃j:ao (Key×V),H a=ak (.dK j)/\j.map (·.1)=kvs.map (·.1)/\aY K G O (j.map (·.2)) (kvs.map (·.2))
 |.ins cls fs=>G a=aq/\∃C dx,∃j:ao (a9×V),cu K a5 cls=ak (ak (.ref C))/\H a=ak (.ins C dx j)/\jS K G O H j fs
 |.tab x pos af=>aH1 K G H a x pos af
 |.dead=>True
def jO(H:Hp)(O:ao ay)(Z:aG)(k i:a4)(b:ay):Prop:=∃a cls fs C dx j g h fd,O[k]?=ak a/\Z[k]?=ak (.ins cls fs)/\H a=ak (.ins C dx j)/\fs[i]?=ak (g,fd)/\fd.own=ax/\j[i]?=ak (h,.ref b)
structure Wd(K:bj)(G:Hp)(O:ao ay)(Z:aG)(H:Hp):Prop where
 sub:nT G H
 inj:O.Nodup
 len:O.length=Z.length
 live:∀a∈O,∃o,H a=ak o
 aE:∀(k:a4) (c:Cell) (a:ay),Z[k]?=ak c->O[k]?=ak a->sP K G O H a c
 sep:∀(b:ay) (k i k' i':a4),jO H O Z k i b->jO H O Z k' i' b->k=k'/\i=i'
section
variable{K:bj}{G G' H H':Hp}{O O':ao ay}{Z:aG}{a p:ay}
theorem kC.mono{v:V}{fd:Fd}(h:kC K G O H v fd)(e:Ext G O G' O')(c:∀b o,b∉O->G b=aq->H b=ak o->b∉O'/\G' b=aq/\H' b=ak o):kC K G' O' H' v fd:=by
 cases fd with
 |val a=>exact Den.ext e h
 |lst ds =>
  obtain⟨b,xs,h1,h2,U,L,B⟩:=h;obtain⟨z,q,j⟩:=c b _ U h2 L;exact⟨b,xs,h1,q,z,j,B.ext e⟩
 |dA d =>
  obtain⟨b,ws,h1,h2,U,L,B,f⟩:=h;obtain⟨z,q,j⟩:=c b _ U h2 L;exact⟨b,ws,h1,q,z,j,B,f.ext e⟩
theorem jS.map{j:bj}{G' H':Hp}{O':ao ay}(f:∀v fd,kC K G O H v fd->kC j G' O' H' v fd):∀{ws:ao (a9×V)} {fs:ao (a9×Fd)},jS K G O H ws fs->jS j G' O' H' ws fs
 |[],[],_=>trivial
 |(_,_)::_,(_,_)::_,h=>⟨h.1,f _ _ h.2.1,jS.map f h.2.2⟩
 |[],_::_,h=>h.elim
 |_::_,[],h=>h.elim
theorem sP.mono{c:Cell}(h:sP K G O H a c)(e:Ext G O G' O')(j:G' a=G a)(hh:H' a=H a)(l:∀b o,b∉O->G b=aq->H b=ak o->b∉O'/\G' b=aq/\H' b=ak o):sP K G' O' H' a c:=by
 cases c with
 |lst ds=>obtain⟨g,xs,h1,h2⟩:=h;exact⟨j.trans g,xs,hh.trans h1,h2.ext e⟩
 |dA k=>obtain⟨g,ws,h1,h2,z⟩:=h;exact⟨j.trans g,ws,hh.trans h1,h2,z.ext e⟩
 |ins cls fs=>obtain⟨g,C,n,ws,h0,h1,h2⟩:=h;exact⟨j.trans g,C,n,ws,h0,hh.trans h1,h2.map λ_ _ q=>q.mono e l⟩
 |tab x pos af =>
  obtain⟨g,m,f,h1,h2,z⟩:=h;exact⟨j.trans g,m,f,hh.trans h1,h2,z.imp id λ⟨p,i,B,t,d,U,L⟩=>⟨p,i,B,t,d,e.same _ _ U,L⟩⟩
 |dead=>trivial
theorem Wd.addr(w:Wd K G O Z H){k:a4}{c:Cell}(h:Z[k]?=ak c):∃a,O[k]?=ak a:=by
 have j:=(cR.mp h).1;exact⟨O[k]'(by rw[w.len];exact j),gM _⟩
theorem Wd.ne(w:Wd K G O Z H)(j:H p=aq)(ha:a∈O):a≠p:=by
 obtain⟨o,q⟩:=w.live a ha;exact mI q j
theorem Wd.rC(w:Wd K G O Z H)(j:H p=aq):G p=aq:=by
 cases e:G p with
 |none=>rfl
 |some o=>rw[w.sub _ _ e]at j;cases j
theorem jO.to{k i:a4}{b:ay}{O':ao ay}{Z Z':aG}(h:jO H O Z k i b)(h1:∀a,O[k]?=ak a->O'[k]?=ak a/\∀o,H a=ak o->H' a=ak o)(h2:∀cls fs,Z[k]?=ak (.ins cls fs)->Z'[k]?=ak (.ins cls fs)):jO H' O' Z' k i b:=by
 obtain⟨a,cls,fs,C,c,ws,g,h',fd,j,U,L,B,z,q⟩:=h;exact⟨a,cls,fs,C,c,ws,g,h',fd,(h1 a j).1,h2 _ _ U,(h1 a j).2 _ L,B,z,q⟩
theorem jO.no{k i:a4}{b:ay}{c:Cell}(h:jO H O Z k i b)(B:Z[k]?=ak c)(hn:c.noOwn=ax):ck:=by
 obtain⟨a,cls,fs,C,e,ws,g,h',fd,d,j,U,z,q,L⟩:=h;rw[B]at j;cases j;simp only[Cell.noOwn,JQ]at hn;have:=hn _ (jP z);simp only[]at this;rw[q]at this;cases this
theorem Wd.grow(w:Wd K G O Z H)(s:nT H H'):Wd K G O Z H' where
 sub:=w.sub.trans s
 inj:=w.inj
 len:=w.len
 live:=λa ha=>let ⟨o,j⟩:=w.live a ha; ⟨o,s _ _ j⟩
 aE:=λk c a h1 h2=>by
  have q:=w.aE k c a h1 h2;cases c with
  |lst ds=>obtain⟨g,xs,h1,h2⟩:=q;exact⟨g,xs,s _ _ h1,h2⟩
  |dA U=>obtain⟨g,ws,h1,h2,l⟩:=q;exact⟨g,ws,s _ _ h1,h2,l⟩
  |ins cls fs=>obtain⟨g,C,m,ws,h0,h1,h2⟩:=q;exact⟨g,C,m,ws,h0,s _ _ h1,h2.map λ_ _ q=>q.mono (Ext.refl _ _) λb o x y z=>⟨x,y,s _ _ z⟩⟩
  |tab x pos af =>
   obtain⟨g,f,L,h1,h2⟩:=q;exact⟨g,f,L,s _ _ h1,h2⟩
  |dead=>trivial
 sep:=λb k i d e h1 h2=>by
  have back:∀{k i},jO H' O Z k i b->jO H O Z k i b:=λh=>h.to (λa ha=>⟨ha,λo j=>by
   obtain⟨n,B⟩:=w.live a (jP ha);have:=s _ _ B;rw[j]at this;cases this;exact B⟩) λ_ _ q=>q
  exact w.sep b k i d e (back h1) (back h2)
theorem GZ{α:Type}:∀{l:ao α} {i j:a4} {x:α},l.Nodup->l[i]?=ak x->l[j]?=ak x->i=j
 |[],_,_,_,_,h,_=>by simp at h
 |y::l,0,0,_,_,_,_=>rfl
 |y::l,0,j+1,x,n,h1,h2=>by
  simp at h1 h2;subst h1;exact b4 (jP h2) (wZ.mp n).1
 |y::l,i+1,0,x,n,h1,h2=>by
  simp at h1 h2;subst h2;exact b4 (jP h1) (wZ.mp n).1
 |y::l,i+1,j+1,x,n,h1,h2=>by
  simp at h1 h2;rw[GZ (wZ.mp n).2 h1 h2]
theorem HI{α:Type}{l:ao α}{k:a4}{x:α}(h:l[k]?=ak x):x∈l:=jP h
theorem Ext.new(j:G p=aq)(o:HO):Ext G O (upd G p o) O:=⟨nT.new j,λ_ _ h=>h⟩
theorem Wd.new(w:Wd K G O Z H)(j:H p=aq)(o:HO):Wd K (upd G p o) O Z (upd H p o)where
 sub:=λb u h=>by
  by_cases e:b=p
  ·subst e;rw[gV]at h ⊢;exact h
  ·rw[bX e]at h ⊢;exact w.sub _ _ h
 inj:=w.inj
 len:=w.len
 live:=λa ha=>by rw[bX (w.ne j ha)];exact w.live a ha
 aE:=λk c a h1 h2=>by
  have n:=w.ne j (HI h2);exact(w.aE k c a h1 h2).mono (Ext.new (w.rC j) o) (bX n) (bX n) λb u x y z=>by
   have nb:b≠p:=mI z j;exact⟨x,by rw[bX nb];exact y,by rw[bX nb];exact z⟩
 sep:=λb k i B L h1 h2=>by
  have back:∀{k i},jO (upd H p o) O Z k i b->jO H O Z k i b:=λh=>h.to (λa ha=>⟨ha,λu U=>by rwa[bX (w.ne j (jP ha))]at U⟩) λ_ _ q=>q;exact w.sep b k i B L (back h1) (back h2)
theorem Ext.cell(x:ay):Ext G O G (O++[x]):=⟨nT.refl _,λk a h=>by
 rw[jA (cR.mp h).1];exact h⟩
theorem Wd.cell(w:Wd K G O Z H)(j:H p=aq){o:HO}{c:Cell}(t:sP K G (O++[p]) (upd H p o) p c)(f:c.noOwn=ax:=by rfl):Wd K G (O++[p]) (Z++[c]) (upd H p o)where
 sub:=λb u h=>by
  have e:b≠p:=λe=>by subst e;rw[w.sub _ _ h]at j;cases j
  rw[bX e];exact w.sub _ _ h
 inj:=by
  rw[YK];exact⟨w.inj,by simp,λa ha b hb=>by simp at hb;subst hb;exact w.ne j ha⟩
 len:=by simp[w.len]
 live:=λa ha=>by
  rcases hX.mp ha with h|h
  ·rw[bX (w.ne j h)];exact w.live a h
  ·simp at h;subst h;exact⟨o,gV⟩
 aE:=λk A a h1 h2=>by
  by_cases q:k<O.length
  ·rw[jA q]at h2;rw[jA (by rw[<-w.len];exact q)]at h1;exact(w.aE k A a h1 h2).mono (Ext.cell p) rfl (bX (w.ne j (HI h2))) λb u x y z=>by
    have nb:b≠p:=mI z j;exact⟨by simp[x,nb],y,by rw[bX nb];exact z⟩
  ·have U:k=O.length:=by
    have:=(cR.mp h2).1;simp at this;omega
   subst U;simp at h2;subst h2;rw[w.len]at h1;simp at h1;subst h1;exact t
 sep:=λb k i r s h1 h2=>by
  have back:∀{k i},jO (upd H p o) (O++[p]) (Z++[c]) k i b->jO H O Z k i b:=λ{k i} h=>by
   have h0:=h;obtain⟨a,cls,fs,C,v,ws,g,h',fd,L,B,d,n,m,l⟩:=h
   by_cases q:k<Z.length
   ·rw[jA q]at B;rw[jA (by rw[w.len];exact q)]at L;rw[bX (w.ne j (HI L))]at d;exact⟨a,cls,fs,C,v,ws,g,h',fd,L,B,d,n,m,l⟩
   ·have U:k=Z.length:=by
     have:=(cR.mp B).1;simp at this;omega
    subst U;exact(h0.no (by simp) f).elim
  exact w.sep b k i r s (back h1) (back h2)
theorem Wd.put(w:Wd K G O Z H){k:a4}{c:Cell}{o:HO}(B:O[k]?=ak a)(t:G a=aq)(v:sP K G O (upd H a o) a c)(l:c.noOwn=ax:=by rfl):Wd K G O (Z.set k c) (upd H a o)where
 sub:=λb u h=>by
  have e:b≠a:=λe=>by subst e;rw[t]at h;cases h
  rw[bX e];exact w.sub _ _ h
 inj:=w.inj
 len:=by rw[xB];exact w.len
 live:=λb hb=>by
  by_cases e:b=a
  ·subst e;exact⟨o,gV⟩
  ·rw[bX e];exact w.live b hb
 aE:=λj D b h1 h2=>by
  by_cases q:j=k
  ·subst q;rw[B]at h2;cases h2;have hl:j<Z.length:=by rw[<-w.len];exact(cR.mp B).1
   rw[fP hl]at h1;cases h1;exact v
  ·rw[eP (cQ q)]at h1;have jM:b≠a:=λe=>by
    subst e;exact q (GZ w.inj h2 B)
   exact(w.aE j D b h1 h2).mono (Ext.refl _ _) rfl (bX jM) λb u x y z=>by
    have nb:b≠a:=λe=>by subst e;exact x (HI B)
    exact⟨x,y,by rw[bX nb];exact z⟩
 sep:=λb j i r s h1 h2=>by
  have back:∀{j i},jO (upd H a o) O (Z.set k c) j i b->jO H O Z j i b:=λ{j i} h=>by
   have h0:=h;obtain⟨f,cls,fs,C,A,ws,g,h',fd,d,U,L,p,n,m⟩:=h
   by_cases q:j=k
   ·subst q;have hl:j<Z.length:=by rw[<-w.len];exact(cR.mp B).1
    exact(h0.no (by rw[fP hl]) l).elim
   ·rw[eP (cQ q)]at U;have jM:f≠a:=λe=>by subst e;exact q (GZ w.inj d B)
    rw[bX jM]at L;exact⟨f,cls,fs,C,A,ws,g,h',fd,d,U,L,p,n,m⟩
  exact w.sep b j i r s (back h1) (back h2)
theorem Wd.freeze(w:Wd K G O Z H){k:a4}{o:HO}(B:O[k]?=ak a)(r:G a=aq)(p:H a=ak o):Wd K (upd G a o) O (Z.set k .dead) H where
 sub:=λb u h=>by
  by_cases e:b=a
  ·subst e;rw[gV]at h;cases h;exact p
  ·rw[bX e]at h;exact w.sub _ _ h
 inj:=w.inj
 len:=by rw[xB];exact w.len
 live:=w.live
 aE:=λj t b h1 h2=>by
  by_cases q:j=k
  ·subst q;have hl:j<Z.length:=by rw[<-w.len];exact(cR.mp B).1
   rw[fP hl]at h1;cases h1;trivial
  ·rw[eP (cQ q)]at h1;have jM:b≠a:=λe=>by
    subst e;exact q (GZ w.inj h2 B)
   exact(w.aE j t b h1 h2).mono (Ext.new r o) (bX jM) rfl λb u x y z=>by
    have nb:b≠a:=λe=>by subst e;exact x (HI B)
    exact⟨x,by rw[bX nb];exact y,z⟩
 sep:=λb j i m n h1 h2=>by
  have back:∀{j i},jO H O (Z.set k .dead) j i b->jO H O Z j i b:=λ{j i} h=>by
   have h0:=h;obtain⟨v,cls,fs,C,s,ws,g,h',fd,l,L,f,d,c,U⟩:=h
   by_cases q:j=k
   ·subst q;have hl:j<Z.length:=by rw[<-w.len];exact(cR.mp B).1
    exact(h0.no (by rw[fP hl]) rfl).elim
   ·rw[eP (cQ q)]at L;exact⟨v,cls,fs,C,s,ws,g,h',fd,l,L,f,d,c,U⟩
  exact w.sep b j i m n (back h1) (back h2)
end
def gY(K:bj)(G:Hp)(O:ao ay)(J:L2.St)(Y:Ev):Prop:=J.length=Y.length/\∀(i:a4) (d:A),Y[i]?=ak (ak d)->∃v,J[i]?=ak (ak v)/\Den K G O v d
theorem gY.ext{K:bj}{G G':Hp}{O O':ao ay}{J:L2.St}{Y:Ev}(r:gY K G O J Y)(e:Ext G O G' O'):gY K G' O' J Y:=⟨r.1,λi d h=>let ⟨v,h1,h2⟩:=r.2 i d h; ⟨v,h1,h2.ext e⟩⟩
theorem gY.set{K:bj}{G:Hp}{O:ao ay}{J:L2.St}{Y:Ev}(r:gY K G O J Y)(j:a4){v:V}{d:A}(h:Den K G O v d):gY K G O (J.set j (ak v)) (Y.set j (ak d)):=by
 refine⟨by rw[xB,xB];exact r.1,λi e he=>?_⟩
 by_cases q:i=j
 ·subst q;have hl:i<Y.length:=by
   have:=(cR.mp he).1;rwa[xB]at this
  rw[fP hl]at he;cases he;exact⟨v,fP (by rw[r.1];exact hl),h⟩
 ·rw[eP (cQ q)]at he ⊢;exact r.2 i e he
theorem gY.unset{K:bj}{G:Hp}{O:ao ay}{J:L2.St}{Y:Ev}(r:gY K G O J Y)(j:a4)(o:av V):gY K G O (J.set j o) (Y.set j aq):=by
 refine⟨by rw[xB,xB];exact r.1,λi e he=>?_⟩
 by_cases q:i=j
 ·subst q;have hl:i<Y.length:=by
   have:=(cR.mp he).1;rwa[xB]at this
  rw[fP hl]at he;cases he
 ·rw[eP (cQ q)]at he ⊢;exact r.2 i e he
def ae1(K:bj)(G:Hp)(O:ao ay)(H:Hp)(x:Exc)(cls:ar)(dx:av ay):Prop :=
 (∃C,cu K a5 x.cls=ak (ak (.ref C))/\cls=.ref C)/\((x.fs=[]/\dx=aq)\/∃d f i,dx=ak d/\x.fs=[(f,.int i)]/\G d=ak (.xd [(f,.int i)]))
abbrev Rl(α β:Type):=Hp->ao ay->β->α->Prop
def bS{α β:Type}(K:bj)(rel:Rl α β)(W:WX)(G:Hp)(O:ao ay)(J:L2.St)(Q:β->Hp->Prop):av (Rs α×aG)->Prop
 |some (.ok a,Z')=>∀v H' G' O',Ext G O G' O'->Wd K G' O' Z' H'->rel G' O' v a->Q v H'
 |some (.exc x,Z')=>∀cls dx H' G' O',Ext G O G' O'->Wd K G' O' Z' H'->ae1 K G' O' H' x cls dx->W J cls dx H'
 |none=>ck
theorem bS.ext{α β:Type}{K:bj}{rel:Rl α β}{W:WX}{G U:Hp}{O q:ao ay}{J:L2.St}{Q:β->Hp->Prop}{r:av (Rs α×aG)}(h:bS K rel W G O J Q r)(e:Ext G O U q):bS K rel W U q J Q r:=by
 match r,h with
 |some (.ok a,z),h=>exact λv B L j x w d=>h v B L j (e.trans x) w d
 |some (.exc x,z),h=>exact λcls b B L j x w d=>h cls b B L j (e.trans x) w d
theorem bS.mb{α β B z:Type}{K:bj}{rel:Rl α β}{L:Rl B z}{W:WX}{G:Hp}{O:ao ay}{J:L2.St}{Q:z->Hp->Prop}{U:β->Hp->Prop}{m:Mo α}{k:α->Mo B}{Z:aG}(h:bS K L W G O J Q (mb m k Z))
  (b:∀a Z1 v H1 q j,Ext G O q j->Wd K q j Z1 H1->rel q j v a->bS K L W q j J Q (k a Z1)->U v H1):bS K rel W G O J U (m Z):=by
 unfold V2.mb at h
 revert h
 generalize m Z=r;intro h
 match r,h with
 |some (.ok a,Z1),h=>exact λv H1 q j x w d=>b a Z1 v H1 q j x w d (bS.ext h x)
 |some (.exc x,Z1),h=>exact h
theorem bS.need{α β j:Type}{K:bj}{q:Rl α β}{W:WX}{G:Hp}{O:ao ay}{J:L2.St}{Q:β->Hp->Prop}{o:av j}{k:j->Mo α}{Z:aG}(h:bS K q W G O J Q (V2.mb (need o) k Z)):∃a,o=ak a/\bS K q W G O J Q (k a Z):=by
 cases o with
 |none=>exact False.elim h
 |some a=>exact⟨a,rfl,h⟩
theorem bS.pV{α β:Type}{K:bj}{q:Rl α β}{W:WX}{G:Hp}{O:ao ay}{J:L2.St}{Q:β->Hp->Prop}{p:Prop} [c8 p]{k:Unit->Mo α}{Z:aG}(h:bS K q W G O J Q (V2.mb (pV p) k Z)):p/\bS K q W G O J Q (k () Z):=by
 unfold V2.mb V2.pV at h
 by_cases j:p
 ·rw[a7 j]at h;exact⟨j,h⟩
 ·rw[ba j]at h;exact False.elim h
def gT{α β:Type}(K:bj)(rel:Rl α β)(W:WX)(t:L2.St->Hp->(β->Hp->Prop)->Prop)(f:Ev->Mo α):Prop :=
 ∀G O Z H J Y Q,Wd K G O Z H->gY K G O J Y->bS K rel W G O J Q (f Y Z)->t J H Q
def CI:Rl bh bh:=λ_ _ b c=>b=c
def VE(X:Cx)(W:WX)(e:bx)(f:Ev->Mo A):Prop:=∃t,PE X e t/\gT X.K (Den X.K) W t f
def VT(X:Cx)(W:WX)(e:bx)(f:Ev->Mo bh):Prop:=∃t,PT X e t/\gT X.K CI W t f
def VW(X:Cx)(W:WX)(e:bx)(f:Ev->Mo bh):Prop:=∃t,PW X e t/\gT X.K CI W t f
def VA(X:Cx)(W:WX)(es:ao bx)(f:Ev->Mo (ao A)):Prop:=∃t,PA X es t/\gT X.K (aY X.K) W t f
end V2
namespace V2
open PySem PySem.Spec PyProof.Rows L2
section
variable{K:bj}{G H:Hp}{O:ao ay}{Z:aG}{v:V}{a:A}
noncomputable def eU(Z:aG):A->av (ao A)
 |.lst ds=>ak ds
 |.eQ ns=>ak (ns.map A.int)
 |.aE k=>match Z[k]? with
  |some (.lst ds)=>ak ds
  |_=>aq
 |_=>aq
def jD(Z:aG):A->av (ao A)
 |.tup ds=>ak ds
 |a=>eU Z a
theorem tD(w:Wd K G O Z H)(d:Den K G O v a){ds:ao A}(h:eU Z a=ak ds):∃p xs,v=.ref p/\fH K H p xs/\aY K G O xs ds:=by
 cases a with
 |lst es =>
  simp only[eU,iZ]at h;subst h;simp only[Den]at d;obtain⟨p,xs,h1,h2,j⟩:=d;exact⟨p,xs,h1,fH.of (w.sub _ _ h2),j⟩
 |eQ ns =>
  simp only[eU,iZ]at h;subst h;simp only[Den]at d;obtain⟨p,h1,h2⟩:=d;exact⟨p,_,h1,w.sub.seq h2,OK ns⟩
 |aE k =>
  simp only[eU]at h;cases e:Z[k]? with
  |none=>rw[e]at h;cases h
  |some c =>
   rw[e]at h;cases c with
   |lst es =>
    simp only[iZ]at h;subst h;simp only[Den]at d;obtain⟨p,h1,h2⟩:=d;obtain⟨g,xs,j,q⟩:=w.aE k _ p e h2;exact⟨p,xs,h1,fH.of j,q⟩
   |_=>cases h
 |_=>simp[eU]at h
theorem SU(w:Wd K G O Z H)(d:Den K G O v a){ds:ao A}(h:jD Z a=ak ds):∃p xs,v=.ref p/\(fH K H p xs\/iY K H p xs)/\aY K G O xs ds:=by
 cases a with
 |tup es =>
  simp only[jD,iZ]at h;subst h;simp only[Den]at d;obtain⟨p,xs,h1,h2,j⟩:=d;exact⟨p,xs,h1,.inr (iY.of (w.sub _ _ h2)),j⟩
 |_ =>
  obtain⟨p,xs,h1,h2,j⟩:=tD w d h;exact⟨p,xs,h1,.inl h2,j⟩
theorem Wt(w:Wd K G O Z H)(d:Den K G O v a){ds:ao A}(h:eU Z a=ak ds)(q:∀ns,a≠.eQ ns):∃p xs,v=.ref p/\H p=ak (.lst xs)/\aY K G O xs ds:=by
 cases a with
 |lst es =>
  simp only[eU,iZ]at h;subst h;simp only[Den]at d;obtain⟨p,xs,h1,h2,j⟩:=d;exact⟨p,xs,h1,w.sub _ _ h2,j⟩
 |eQ ns=>exact b4 rfl (q ns)
 |aE k =>
  simp only[eU]at h;cases e:Z[k]? with
  |none=>rw[e]at h;cases h
  |some c =>
   rw[e]at h;cases c with
   |lst es =>
    simp only[iZ]at h;subst h;simp only[Den]at d;obtain⟨p,h1,h2⟩:=d;obtain⟨g,xs,j,z⟩:=w.aE k _ p e h2;exact⟨p,xs,h1,j,z⟩
   |_=>cases h
 |_=>simp[eU]at h
end
@[simp] noncomputable def uL(c:bh)(ds:ao A):Mo A:=λZ=>if c then ak (.ok (.aE Z.length),Z++[.lst ds])else ak (.ok (.lst ds),Z)
section
variable{K:bj}{G H:Hp}{O:ao ay}{Z:aG}{W:WX}{J:L2.St}{Q:VK}
theorem zU{c:bh}{ds:ao A}{xs:ao V}{p:ay}(w:Wd K G O Z H)(j:H p=aq)(d:aY K G O xs ds)(h:bS K (Den K) W G O J Q (uL c ds Z)):Q (.ref p) (upd H p (.lst xs)):=by
 cases c with
 |true =>
  refine h _ _ G (O++[p]) (Ext.cell p) (w.cell j ⟨w.rC j,xs,gV,d.ext (Ext.cell p)⟩) ?_;simp only[Den];exact⟨p,rfl,by rw[<-w.len];simp⟩
 |false =>
  refine h _ _ _ _ (Ext.new (w.rC j) (.lst xs)) (w.new j _) ?_;simp only[Den];exact⟨p,xs,rfl,gV,d.ext (Ext.new (w.rC j) _)⟩
@[simp] def Ff(ds:ao A):Mo A:=ret (.tup ds)
theorem Fe{ds:ao A}{xs:ao V}{p:ay}(w:Wd K G O Z H)(j:H p=aq)(d:aY K G O xs ds)(h:bS K (Den K) W G O J Q (Ff ds Z)):Q (.ref p) (upd H p (.tup xs)):=by
 refine h _ _ _ _ (Ext.new (w.rC j) (.tup xs)) (w.new j _) ?_;simp only[Den];exact⟨p,xs,rfl,gV,d.ext (Ext.new (w.rC j) _)⟩
theorem kO{α β:Type}{rel:Rl α β}{Q:β->Hp->Prop}{a:α}{b:β}(w:Wd K G O Z H)(d:rel G O b a)(h:bS K rel W G O J Q (ret a Z)):Q b H:=h b H G O (Ext.refl _ _) w d
end
section
variable{X:Cx}{W:WX}{e a b:bx}{es:ao bx}{pos:dg}{fa fb:Ev->Mo A}{fs:Ev->Mo (ao A)}
@[simp] def dN(i:a4):Ev->Mo A:=λY=>need (Y[i]?).join
theorem join_some{α:Type}{o:av (av α)}{x:α}(h:o.join=ak x):o=ak (ak x):=by
 cases o with
 |none=>cases h
 |some y=>cases y with
  |none=>cases h
  |some z=>cases h;rfl
theorem akH{K:bj}{i:a4}:gT K (Den K) W (Av i) (dN i):=by
 intro G q z H J j Q w r h;unfold dN need at h;cases e:(j[i]?).join with
 |none=>rw[e]at h;exact False.elim h
 |some d =>
  rw[e]at h;obtain⟨v,h1,h2⟩:=r.2 i d (join_some e);exact⟨v,h1,h v H G q (Ext.refl _ _) w h2⟩
theorem vv(i:a4){x:a9}(q:X.N[i]?=ak x:=by rfl)(hv:PK X.env.scope x:=by first|exact Or.inl rfl|exact Or.inr (Or.inl rfl)|exact Or.inr (Or.inr rfl))(hd:(x==("__debug__" : a9))=au:=by decide)
  (j:(x==("__classdict__" : a9))=au:=by decide):VE X W (.Name x pos) (dN i):=⟨_,Wx q hv hd j,akH⟩
@[simp] noncomputable def KR(i:a4):Ev->Mo A:=λY Z=>match (Y[i]?).join with
 |some (.aE k)=>match Z[k]? with
  |some (.lst ds)=>ak (.ok (.lst ds),Z.set k .dead)
  |_=>aq
 |_=>aq
theorem akK{K:bj}{i:a4}:gT K (Den K) W (Av i) (KR i):=by
 intro G L U H J B Q w r h;unfold KR at h;cases e:(B[i]?).join with
 |none=>rw[e]at h;exact False.elim h
 |some d =>
  rw[e]at h;cases d with
  |aE k =>
   simp only at h;cases j:U[k]? with
   |none=>rw[j]at h;exact False.elim h
   |some c =>
    rw[j]at h;cases c with
    |lst ds =>
     obtain⟨v,h1,h2⟩:=r.2 i _ (join_some e);simp only[Den]at h2;obtain⟨p,rfl,z⟩:=h2;obtain⟨g,q,b,a⟩:=w.aE k _ p j z;refine⟨_,h1,h _ H (upd G p (.lst q)) L (Ext.new g _) (w.freeze z g b) ?_⟩;simp only[Den];exact⟨p,q,rfl,gV,a.ext (Ext.new g _)⟩
    |_=>exact False.elim h
  |_=>exact False.elim h
theorem vf(i:a4){x:a9}(q:X.N[i]?=ak x:=by rfl)(hv:PK X.env.scope x:=by first|exact Or.inl rfl|exact Or.inr (Or.inl rfl)|exact Or.inr (Or.inr rfl))(hd:(x==("__debug__" : a9))=au:=by decide)
  (j:(x==("__classdict__" : a9))=au:=by decide):VE X W (.Name x pos) (KR i):=⟨_,Wx q hv hd j,akK⟩
theorem CC{K:bj}{v:V}{d:A}(h:∀G O,Den K G O v d):gT K (Den K) W (tC v) (λ_=>ret d):=λG O _ _ _ _ _ w _ q=>kO w (h G O) q
theorem aK{i:az}{j}:VE X W (.Constant (.int i) j pos) (λ_=>ret (.int i)):=⟨_,apZ,CC λ_ _=>by simp only[Den]⟩
theorem kM{i:bh}{j}:VE X W (.Constant (.bool i) j pos) (λ_=>ret (.bl i)):=⟨_,ap9,CC λ_ _=>by simp only[Den]⟩
theorem agN{j}:VE X W (.Constant .none j pos) (λ_=>ret .bQ):=⟨_,apS,CC λ_ _=>by simp only[Den]⟩
theorem ZX{x:a9}{j}:VE X W (.Constant (.str x) j pos) (λ_=>ret (.str x)):=⟨_,apM,CC λ_ _=>by simp only[Den]⟩
theorem So{x:a9}{p:ay}(j:Gl X x)(hm:X.mg x=ak (.ref p))(q:cu X.K a5 x=ak (ak (.ref p)))(hd:(x==("__debug__" : a9))=au:=by decide):VE X W (.Name x pos) (λ_=>ret (.gl x)) :=
 ⟨_,Wy (v:=.ref p) j hm rfl hd,CC λ_ _=>by simp only[Den];exact⟨p,q,rfl⟩⟩
theorem agQ{x:a9}{i:az}(j:Gl X x)(hm:∃t,X.mg x=ak (.int i t))(hd:(x==("__debug__" : a9))=au:=by decide):VE X W (.Name x pos) (λ_=>ret (.int i)):=by
 obtain⟨t,hm⟩:=hm;exact⟨_,Wy (v:=.int i) j hm ⟨t,rfl⟩ hd,CC λ_ _=>by simp only[Den]⟩
theorem FW{x:a9}{n:cj}(j:Gl X x)(hm:X.mg x=aq)(hv:c9 x=ak (.type n))(hn:x≠"__name__":=by decide)(hd:(x==("__debug__" : a9))=au:=by decide):VE X W (.Name x pos) (λ_=>ret (.ty n)) :=
 ⟨_,ap8 (v:=.ty n) j hm hv rfl hn hd,CC λ_ _=>by simp only[Den]⟩
theorem aO:VA X W [] (λ_=>ret []):=⟨_,TQ,λ_ _ _ _ _ _ _ w _ q=>kO w .nil q⟩
@[simp] def aB(f:Ev->Mo A)(g:Ev->Mo (ao A)):Ev->Mo (ao A):=λY=>mb (f Y) λx=>mb (g Y) λxs=>ret (x::xs)
theorem aD(h1:VE X W e fa)(h2:VA X W es fs)(k:bf (e::es) X.env=(au,cb e X.env)::bf es X.env:=by rfl):VA X W (e::es) (aB fa fs):=by
 obtain⟨t,i,g⟩:=h1;obtain⟨u,p2,s2⟩:=h2;refine⟨_,TR i p2 k,λG L a H J z Q w r h=>?_⟩;refine g G L a H J z _ w r (bS.mb h λx q v n o j c f m h1=>?_);refine s2 o j q n J z _ f (r.ext c) (bS.mb h1 λp U s y A B b d l h2=>?_);exact kO d (.cons (m.ext b) l) h2
@[simp] def qW(g:Ev->Mo (ao A)):Ev->Mo A:=λY=>mb (g Y) λxs=>mb (pV (xs.length<=bc)) λ_=>Ff xs
theorem vJ{k}(h:VA X W es fs):VE X W (.Tuple es k pos) (qW fs):=by
 obtain⟨t,p,s⟩:=h;refine⟨_,apL p,λG B U H J q Q w r h=>?_⟩;refine s G B U H J q _ w r (bS.mb h λc L e f g z d a j h1=>?_);obtain⟨hl,h2⟩:=bS.pV h1;exact⟨by rw[j.length];exact hl,λp b=>Fe a b j h2⟩
@[simp] def fL(c:bh)(g:Ev->Mo (ao A)):Ev->Mo A:=λY=>mb (g Y) λxs=>mb (pV (xs.length<=bc)) λ_=>uL c xs
theorem jB(c:bh)(h:VA X W es fs):VE X W (.List es pos) (fL c fs):=by
 obtain⟨t,p,s⟩:=h;refine⟨_,apW p,λG B U H J q Q w r h=>?_⟩;refine s G B U H J q _ w r (bS.mb h λd L f g i z e a j h1=>?_);obtain⟨hl,h2⟩:=bS.pV h1;exact⟨by rw[j.length];exact hl,λp b=>zU a b j h2⟩
def wV(K:bj)(W:WX)(r:R2)(g:A->A->Mo A):Prop :=
 ∀G O Z H J x y a b Q,Wd K G O Z H->Den K G O x a->Den K G O y b->bS K (Den K) W G O J Q (g a b Z)->r x y H Q
def mR(X:Cx)(W:WX)(f:ar->ar->Sem ar)(g:A->A->Mo A):Prop:=∃r,iF X f r/\wV X.K W r g
@[simp] def aC(g:A->A->Mo A)(f h:Ev->Mo A):Ev->Mo A:=λY=>mb (f Y) λx=>mb (h Y) λy=>g x y
theorem SV{K:bj}{r:R2}{g:A->A->Mo A}{ta tb:TE}(i:wV K W r g)(h1:gT K (Den K) W ta fa)(h2:gT K (Den K) W tb fb):gT K (Den K) W (LG r ta tb) (aC g fa fb):=by
 intro G a b H J U Q w q h;refine h1 G a b H J U _ w q (bS.mb h λx L v n p z d f l h1=>?_);refine h2 p z L n J U _ f (q.ext d) (bS.mb h1 λy B u m o j c e k h2=>?_);exact i o j B m J v u x y Q e (l.ext c) k h2
theorem aR{j:Operator}{g:A->A->Mo A}(U:mR X W (cx j) g)(ha:VE X W a fa)(hb:VE X W b fb):VE X W (.BinOp a j b pos) (aC g fa fb):=by
 obtain⟨r,L,B⟩:=U;obtain⟨t,z,q⟩:=ha;obtain⟨u,p2,s2⟩:=hb;exact⟨_,apP L z p2,SV B q s2⟩
@[simp] def gI(C:az->az->Prop) [∀i j,c8 (C i j)](g:az->az->A):A->A->Mo A
 |.int i,.int j=>mb (pV (C i j)) λ_=>ret (g i j)
 |_,_=>stuck
theorem LV{K:bj}{C:az->az->Prop} [∀i j,c8 (C i j)]{g:az->az->V}{g':az->az->A}(B:∀G O i j,Den K G O (g i j) (g' i j)):wV K W (rI C g) (gI C g'):=by
 intro G O U H J x y a b Q w z q h;cases a with
 |int i =>
  cases b with
  |int j =>
   simp only[Den]at z q;obtain⟨L,h2⟩:=bS.pV h;exact⟨i,j,z,q,L,kO w (B _ _ _ _) h2⟩
  |_=>exact False.elim h
 |_=>exact False.elim h
@[simp] def DR(g:az->az->A):A->A->Mo A
 |.int i,.int j=>ret (g i j)
 |_,_=>stuck
theorem LU{K:bj}{g:az->az->V}{g':az->az->A}(B:∀G O i j,Den K G O (g i j) (g' i j)):wV K W (xP g) (DR g'):=by
 intro G O L H J x y a b Q w z q h;cases a with
 |int i =>
  cases b with
  |int j =>
   simp only[Den]at z q;exact⟨i,j,z,q,kO w (B _ _ _ _) h⟩
  |_=>exact False.elim h
 |_=>exact False.elim h
instance:∀i j,c8 (mF i j):=λi j=>by unfold mF;infer_instance
instance:∀i j,c8 (qB i j):=λi j=>by unfold qB;infer_instance
instance:∀i j,c8 (sQ i j):=λi j=>by unfold sQ;infer_instance
@[simp] def fU:=DR λi j => .int (i-j)
@[simp] def jN:=gI mF λi j => .int (i*j)
@[simp] def lZ:=gI qB λi j => .int (i/j)
@[simp] def fC:=gI (λ_ j=>0<j) λi j => .int (i%j)
@[simp] def oQ:=gI sQ λi j => .int (i ^ j.toNat)
@[simp] def abB:=gI sQ λi j => .int (i*2 ^ j.toNat)
theorem jW:mR X W (cx .Sub) fU:=⟨_,aqK,LU λ_ _ _ _=>by simp only[Den]⟩
theorem pK:mR X W (cx .Mult) jN:=⟨_,aqP,LV λ_ _ _ _=>by simp only[Den]⟩
theorem rQ:mR X W (cx .FloorDiv) lZ:=⟨_,aqV,LV λ_ _ _ _=>by simp only[Den]⟩
theorem iA:mR X W (cx .Mod) fC:=⟨_,aqQ,LV λ_ _ _ _=>by simp only[Den]⟩
theorem vR:mR X W (cx .Pow) oQ:=⟨_,aqM,LV λ_ _ _ _=>by simp only[Den]⟩
theorem arH:mR X W (cx .LShift) abB:=⟨_,aqL,LV λ_ _ _ _=>by simp only[Den]⟩
@[simp] noncomputable def DB:A->bh
 |.eQ _=>ax
 |_=>au
theorem Xp{a:A}(h:DB a=au):∀ns,a≠.eQ ns:=λns e=>by subst e;cases h
@[simp] def II(c:bh)(a b:A):Mo A:=λZ=>match eU Z a,eU Z b with
  |some xs,ak ys=>if DB a||DB b||decide (bc<xs.length+ys.length)then aq else uL c (xs++ys) Z
  |_,_=>aq
@[simp] def WA(c:bh):A->A->Mo A
 |.int i,.int j=>ret (.int (i+j))
 |.tup xs,.tup ys=>mb (pV (0<xs.length/\xs.length+ys.length<=bc)) λ_=>Ff (xs++ys)
 |a,b=>II c a b
theorem aqJ{K:bj}{c:bh}:wV K W Wb (II c):=by
 intro G l z H J x y a b Q w k i h;unfold II at h
 match e1:eU z a,j:eU z b with
 |none,_=>rw[e1]at h;exact False.elim h
 |some B,aq=>rw[e1,j]at h;exact False.elim h
 |some B,ak d =>
  rw[e1,j]at h;simp only at h
  by_cases hb:(DB a||DB b||decide (bc<B.length+d.length))=ax
  ·rw[a7 hb]at h;exact False.elim h
  ·rw[ba hb]at h;simp only[Bool.or_eq_true,EB,not_or,Bool.not_eq_true]at hb;obtain⟨p,f,rfl,h2,U⟩:=Wt w k e1 (Xp hb.1.1);obtain⟨q,e,rfl,g,L⟩:=Wt w i j (Xp hb.1.2);exact⟨p,q,f,e,rfl,rfl,h2,g,by rw[U.length,L.length];omega,λr hr=>zU w hr (U.append L) h⟩
theorem eG(c:bh):mR X W (cx .Add) (WA c):=by
 refine⟨_,aqZ.or (aqY.or aqX),?_⟩;intro G d f H J x y a b Q w z j h;unfold WA at h;split at h
 ·simp only[Den]at z j;exact .inl ⟨_,_,z,j,kO w (by simp only[Den]) h⟩
 ·rename_i m l;simp only[Den]at z j;obtain⟨p,U,rfl,h2,B⟩:=z;obtain⟨q,g,rfl,i,L⟩:=j;obtain⟨⟨n,k⟩,h⟩:=bS.pV h;refine .inr (.inr ⟨p,q,U,g,rfl,rfl,iY.of (w.sub _ _ h2),iY.of (w.sub _ _ i),?_,by rw[B.length,L.length];exact k,λe=>?_,λ_ r hr=>Fe w hr (B.append L) h⟩)
  ·intro e;subst e;have:=B.length;simp at this;omega
  ·subst e;refine kO w ?_ h;simp only[Den];exact⟨p,U,rfl,h2,by simpa using B.append L⟩
 ·exact .inr (.inl (aqJ G d f H J x y _ _ Q w z j h))
end
noncomputable def cY:a4->A->bh
 |_,.int _=>ax
 |_,.bl _=>ax
 |_,.bQ=>ax
 |_,.str x=>PyData.canLay0 (.str x)
 |n+1,.tup ds=>ds.all (cY n)
 |n+1,.lst ds=>ds.all (cY n)
 |_,_=>au
noncomputable def yJ(f:A->A->bh):ao A->ao A->bh
 |[],[]=>ax
 |x::xs,y::ys=>f x y&&yJ f xs ys
 |_,_=>au
def gX:a4->A->A->bh
 |_,.int i,.int j=>i==j
 |_,.bl i,.bl j=>i==j
 |_,.bl i,.int j=>(if i then 1 else 0)==j
 |_,.int i,.bl j=>i==(if j then 1 else 0)
 |_,.bQ,.bQ=>ax
 |_,.str x,.str y=>x==y
 |n+1,.tup xs,.tup ys=>yJ (gX n) xs ys
 |n+1,.lst xs,.lst ys=>yJ (gX n) xs ys
 |_,_,_=>au
noncomputable def toPy:a4->A->PyData
 |_,.int i => .int i
 |_,.bl i => .bool i
 |_,.str x => .str x
 |n+1,.tup ds => .tuple (ds.map (toPy n))
 |n+1,.lst ds => .list (ds.map (toPy n))
 |_,_ => .none
theorem WQ:∀(ds:ao A) (n:a4),(∀d∈ds,cY n d=ax->PyData.canLay0 (toPy n d)=ax)->ds.all (cY n)=ax->PyData.canLayAll0 (ds.map (toPy n))=ax
 |[],_,_,_=>rfl
 |d::ds,n,ih,h=>by
  simp only[Oy,lF]at h;simp only[dJ,PyData.canLayAll0,lF];exact⟨ih d vU h.1,WQ ds n (λe he=>ih e (iP _ he)) h.2⟩
theorem GI:∀(n:a4) (a:A),cY n a=ax->PyData.canLay0 (toPy n a)=ax:=by
 intro n
 induction n with
 |zero=>intro a h;cases a <;> first|rfl|exact h|cases h
 |succ n ih =>
  intro a h;cases a with
  |tup ds=>exact WQ ds n (λd _=>ih d) h
  |lst ds=>exact WQ ds n (λd _=>ih d) h
  |str x=>exact h
  |int i=>rfl
  |bl b=>rfl
  |bQ=>rfl
  |_=>cases h
theorem Kd:∀(ds:ao A) (n:a4),(∀d∈ds,(toPy n d).depth<=n)->PyData.depthAll (ds.map (toPy n))<=n
 |[],_,_=>AW _
 |d::ds,n,ih=>by
  simp only[dJ,PyData.depthAll];exact Nat.max_le.mpr ⟨ih d vU,Kd ds n λe he=>ih e (iP _ he)⟩
theorem Ar:∀(n:a4) (a:A),(toPy n a).depth<=n:=by
 intro n
 induction n with
 |zero=>intro a;cases a <;> exact rK _
 |succ n ih =>
  intro a;cases a with
  |tup ds=>exact Nat.succ_le_succ (Kd ds n λd _=>ih d)
  |lst ds=>exact Nat.succ_le_succ (Kd ds n λd _=>ih d)
  |_=>exact AW _
theorem abQ:∀(xs ys:ao A) (n:a4),(∀x∈xs,∀y∈ys,PyData.eqv (toPy n x) (toPy n y)=gX n x y)->PyData.eqvAll (xs.map (toPy n)) (ys.map (toPy n))=yJ (gX n) xs ys
 |[],[],_,_=>rfl
 |[],_::_,_,_=>rfl
 |_::_,[],_,_=>rfl
 |x::xs,y::ys,n,ih=>by
  simp only[dJ,PyData.eqvAll,yJ];rw[ih x vU y vU,abQ xs ys n λa ha b hb=>ih a (iP _ ha) b (iP _ hb)]
theorem Aq:∀(n:a4) (a b:A),cY n a=ax->cY n b=ax->PyData.eqv (toPy n a) (toPy n b)=gX n a b:=by
 intro n
 induction n with
 |zero=>intro a b ha hb;cases a <;> cases b <;> first|rfl|(simp[cY]at ha;done)|(simp[cY]at hb;done)
 |succ n ih =>
  intro a b ha hb;have lst:∀q j:ao A,q.all (cY n)=ax->j.all (cY n)=ax->PyData.eqvAll (q.map (toPy n)) (j.map (toPy n))=yJ (gX n) q j:=λq j h1 h2 =>
   abQ q j n λx B y z=>ih x y (JQ.mp h1 x B) (JQ.mp h2 y z)
  cases a <;> cases b <;> first|rfl|(simp[cY]at ha;done)|(simp[cY]at hb;done)|exact lst _ _ ha hb
section
variable{X:Cx}{aa:ao (ay×cp)}{J:L2.St}{H:Hp}{s:aw}{O:ao ay}
theorem readsAll(n:a4)(ih:∀(v:V) (u:ar) (a:A),cY n a=ax->Den X.K H O v a->RelV v u->∃as,Reads s.heap u (toPy n a) as) :
  ∀(ds:ao A) (xs:ao V) (us:ao ar),ds.all (cY n)=ax->aY X.K H O xs ds->Vals xs us->∃as,ReadsAll s.heap us (ds.map (toPy n)) as
 |[],xs,us,_,d,r=>by
  rw[wK]at d;subst d;cases r;exact⟨_,.nil⟩
 |a::ds,xs,us,h,d,r=>by
  obtain⟨x,t,rfl,U,L⟩:=d.pE;simp only[Oy,lF]at h;cases r with
  |cons q j =>
   obtain⟨as,B⟩:=ih _ _ _ h.1 U q;obtain⟨bs,z⟩:=readsAll n ih ds _ _ h.2 L j;exact⟨_,.cons B z⟩
theorem GV(I:Inv X aa J H s):∀(n:a4) (v:V) (u:ar) (a:A),cY n a=ax->Den X.K H O v a->RelV v u->∃as,Reads s.heap u (toPy n a) as:=by
 intro n
 induction n with
 |zero =>
  intro v u a h d r;cases a with
  |int i=>simp only[Den]at d;subst d;obtain⟨t,rfl⟩:=r;exact⟨_,.int i t⟩
  |bl b=>simp only[Den]at d;subst d;cases r;exact⟨_,.bool b⟩
  |str x=>simp only[Den]at d;subst d;obtain⟨t,rfl⟩:=r;exact⟨_,.str x t⟩
  |bQ=>simp only[Den]at d;subst d;cases r;exact⟨_,.none⟩
  |_=>cases h
 |succ n ih =>
  intro v u a h d r;cases a with
  |int i=>simp only[Den]at d;subst d;obtain⟨t,rfl⟩:=r;exact⟨_,.int i t⟩
  |bl b=>simp only[Den]at d;subst d;cases r;exact⟨_,.bool b⟩
  |str x=>simp only[Den]at d;subst d;obtain⟨t,rfl⟩:=r;exact⟨_,.str x t⟩
  |bQ=>simp only[Den]at d;subst d;cases r;exact⟨_,.none⟩
  |tup ds =>
   simp only[Den]at d;obtain⟨p,z,rfl,h2,e⟩:=d;cases r;obtain⟨j,B,L,f⟩:=I.tuple (iY.of h2);obtain⟨as,q⟩:=readsAll n ih ds z j h e B;obtain⟨o,U,c,m,hd⟩:=(show s.heap.IsTuple p j.toArray from L);exact⟨_,.tuple U c hd (by simpa using q)⟩
  |lst ds =>
   simp only[Den]at d;obtain⟨p,z,rfl,h2,e⟩:=d;cases r;obtain⟨j,B,L,f⟩:=I.list (fH.of h2);obtain⟨as,q⟩:=readsAll n ih ds z j h e B;obtain⟨o,U,c,m,hd⟩:=L.isList;exact⟨_,.list U c hd (by simpa using q)⟩
  |_=>cases h
end
def Ec(K:bj)(neg:bh):R2:=λx y H Q=>∃O a b,cY 8 a=ax/\cY 8 b=ax/\Den K H O x a/\Den K H O y b/\Q (.bl (if neg then !gX 8 a b else gX 8 a b)) H
theorem aqW{X:Cx}(e:X.A.units+64<cLine):iF X (b8 .Eq) (Ec X.K au):=by
 intro aa s J H x y v u Q I z j h;obtain⟨d,a,b,h1,h2,c,U,q⟩:=h;obtain⟨f,L⟩:=GV I 8 x v a h1 c z;obtain⟨bs,B⟩:=GV I 8 y u b h2 U j;have e1:=Ar 8 a;refine SeqAt.compareEq_reads L B (GI 8 a h1) (GI 8 b h2) (by omega) ?_;rw[Aq 8 a b h1 h2];exact⟨.bl (gX 8 a b),H,I,rfl,q⟩
theorem aqO{X:Cx}(e:X.A.units+64<cLine):iF X (b8 .NotEq) (Ec X.K ax):=by
 intro aa s J H x y v u Q I z j h;obtain⟨d,a,b,h1,h2,c,U,q⟩:=h;obtain⟨f,L⟩:=GV I 8 x v a h1 c z;obtain⟨bs,B⟩:=GV I 8 y u b h2 U j;have e1:=Ar 8 a;refine SeqAt.compareNe_reads L B (GI 8 a h1) (GI 8 b h2) (by omega) ?_;rw[Aq 8 a b h1 h2];exact⟨.bl (!gX 8 a b),H,I,rfl,q⟩
noncomputable def vT(f:A->av A):ao A->av (ao A)
 |[]=>ak []
 |x::xs=>match f x,vT f xs with
  |some y,ak ys=>ak (y::ys)
  |_,_=>aq
def res(Z:aG):a4->A->av A
 |0,a=>if cY 8 a=ax then ak a else aq
 |n+1,a=>if cY 8 a=ax then ak a else match a with
  |.tup ds=>(vT (res Z n) ds).map .tup
  |.lst ds=>(vT (res Z n) ds).map .lst
  |.aE k=>match Z[k]? with
   |some (.lst ds)=>(vT (res Z n) ds).map .lst
   |_=>aq
  |_=>aq
section
variable{K:bj}{G H:Hp}{O:ao ay}{Z:aG}
theorem Wd.abO(w:Wd K G O Z H):Ext G O H O:=⟨w.sub,λ_ _ h=>h⟩
theorem UI{f:A->av A}(ih:∀v a b,Den K G O v a->f a=ak b->Den K H O v b):∀(ds es:ao A) (xs:ao V),aY K G O xs ds->vT f ds=ak es->aY K H O xs es
 |[],es,xs,d,h=>by
  simp only[vT,iZ]at h;subst h;rw[wK]at d ⊢;exact d
 |a::ds,es,xs,d,h=>by
  obtain⟨x,t,rfl,B,z⟩:=d.pE;simp only[vT]at h;split at h
  ·rename_i y j e1 q;cases h;exact .cons (ih _ _ _ B e1) (UI ih ds j t z q)
  ·cases h
theorem TF(w:Wd K G O Z H):∀(n:a4) (v:V) (a b:A),Den K G O v a->res Z n a=ak b->Den K H O v b:=by
 intro n
 induction n with
 |zero =>
  intro v a b d h;simp only[res]at h;split at h
  ·cases h;exact d.ext w.abO
  ·cases h
 |succ n ih =>
  intro v a b d h;simp only[res]at h;split at h
  ·cases h;exact d.ext w.abO
  ·split at h
   ·rename_i ds _;simp only[AV]at h;obtain⟨es,h1,rfl⟩:=h;simp only[Den]at d ⊢;obtain⟨p,j,B,z,q⟩:=d;exact⟨p,j,B,w.sub _ _ z,UI ih ds es j q h1⟩
   ·rename_i ds _;simp only[AV]at h;obtain⟨es,h1,rfl⟩:=h;simp only[Den]at d ⊢;obtain⟨p,j,B,z,q⟩:=d;exact⟨p,j,B,w.sub _ _ z,UI ih ds es j q h1⟩
   ·rename_i k _;split at h
    ·rename_i ds e;simp only[AV]at h;obtain⟨es,h1,rfl⟩:=h;simp only[Den]at d ⊢;obtain⟨p,B,z⟩:=d;obtain⟨g,j,q,L⟩:=w.aE k _ p e z;exact⟨p,j,B,q,UI ih ds es j L h1⟩
    ·cases h
   ·cases h
end
def yH(neg:bh)(a b:A):Mo A:=λZ=>match res Z 6 a,res Z 6 b with
 |some x,ak y=>if(cY 8 x&&cY 8 y)=ax then ak (.ok (.bl (if neg then !gX 8 x y else gX 8 x y)),Z)else aq
 |_,_=>aq
def mO:=yH au
def wG:=yH ax
section
variable{X:Cx}{W:WX}{e a b c:bx}{pos:dg}{fa fb fc:Ev->Mo A}{ta tb:Ev->Mo bh}
theorem Xh{K:bj}{neg:bh}:wV K W (Ec K neg) (yH neg):=by
 intro G q d H J x y a b Q w c U h;unfold yH at h;split at h
 ·rename_i B z e1 L;split at h
  ·rename_i j;rw[lF]at j;exact⟨q,B,z,j.1,j.2,TF w 6 x a B c e1,TF w 6 y b z U L,h _ H G q (Ext.refl _ _) w (by simp only[Den])⟩
  ·exact False.elim h
 ·exact False.elim h
theorem uH(j:X.A.units+64<cLine):mR X W (b8 .Eq) mO:=⟨_,aqW j,Xh⟩
theorem TY(j:X.A.units+64<cLine):mR X W (b8 .NotEq) wG:=⟨_,aqO j,Xh⟩
@[simp] def rE:=DR λi j => .bl (decide (i<j))
@[simp] def wH:=DR λi j => .bl (decide (i<=j))
@[simp] def DS:=DR λi j => .bl (decide (j<i))
@[simp] def IH:=DR λi j => .bl (decide (j<=i))
theorem vS:mR X W (b8 .Lt) rE:=⟨_,aqR,LU λ_ _ _ _=>by simp only[Den]⟩
theorem xS:mR X W (b8 .LtE) wH:=⟨_,aqS,LU λ_ _ _ _=>by simp only[Den]⟩
theorem LZ:mR X W (b8 .Gt) DS:=⟨_,aqT,LU λ_ _ _ _=>by simp only[Den]⟩
theorem Es:mR X W (b8 .GtE) IH:=⟨_,aqU,LU λ_ _ _ _=>by simp only[Den]⟩
noncomputable def HN:A->av bh
 |.bQ=>ak ax
 |_=>ak au
@[simp] def aLW(neg:bh):A->A->Mo A
 |a,.bQ=>mb (need (HN a)) λk=>ret (.bl (if neg then !k else k))
 |_,_=>stuck
@[simp] def NZ:A->Mo bh
 |.bl b=>ret b
 |_=>stuck
@[simp] def cF(f:Ev->Mo A):Ev->Mo bh:=λY=>mb (f Y) NZ
theorem Va{K:bj}{t:TE}(h:gT K (Den K) W t fa):gT K CI W (Tx t) (cF fa):=by
 intro G L a H J z Q w r q;refine h G L a H J z _ w r (bS.mb q λx U v e f B d c j h1=>?_);cases x with
 |bl b=>simp only[Den]at j;exact⟨b,j,kO c rfl h1⟩
 |_=>exact False.elim h1
theorem BV{j:CmpOp}{g:A->A->Mo A}(U:mR X W (b8 j) g)(ha:VE X W a fa)(hb:VE X W b fb)(hm:eh j b=au):VE X W (.Compare a [j] [b] pos) (aC g fa fb):=by
 obtain⟨r,L,B⟩:=U;obtain⟨t,z,q⟩:=ha;obtain⟨u,p2,s2⟩:=hb;exact⟨_,ap5 L z p2 hm,SV B q s2⟩
theorem gF{j:CmpOp}{g:A->A->Mo A}(U:mR X W (b8 j) g)(ha:VE X W a fa)(hb:VE X W b fb)(hm:eh j b=au):VT X W (.Compare a [j] [b] pos) (cF (aC g fa fb)):=by
 obtain⟨r,L,B⟩:=U;obtain⟨t,z,q⟩:=ha;obtain⟨u,p2,s2⟩:=hb;exact⟨_,aoA L z p2 hm,Va (SV B q s2)⟩
theorem pB(h:VE X W e fa)(he:∀whole,isTrue e X.env whole=(do let v<-whole;standAt e.pos;dy [v] (truthy v)):=by intro _;rfl):VT X W e (cF fa):=by
 obtain⟨t,p,s⟩:=h;exact⟨_,an8 p he,Va s⟩
@[simp] def uA(f g:Ev->Mo bh):Ev->Mo bh:=λY=>mb (f Y) λc=>if c then ret ax else g Y
@[simp] def mG(f:Ev->Mo bh):Ev->Mo bh:=λY=>mb (f Y) λc=>ret (!c)
variable{rest:ao bx}
theorem FV(h:VT X W a ta):VW X W (.BoolOp .Or [a] pos) ta:=let ⟨t,p,s⟩:=h; ⟨t,pw_or1 p,s⟩
theorem BQ(h1:VT X W a ta)(h2:VW X W (.BoolOp .Or (b::rest) pos) tb):VW X W (.BoolOp .Or (a::b::rest) pos) (uA ta tb):=by
 obtain⟨t,f,e⟩:=h1;obtain⟨u,p2,s2⟩:=h2;refine⟨_,pw_or f p2,λG L U H J z Q w r h=>?_⟩;refine e G L U H J z _ w r (bS.mb h λc q i k l j d B g h1=>?_);cases(show i=c from g);cases c with
 |false=>exact s2 l j q k J z Q B (r.ext d) h1
 |true=>exact kO B rfl h1
theorem VW.vt(h:VW X W e ta):VT X W e ta:=let ⟨t,p,s⟩:=h; ⟨t,p.pt,s⟩
theorem qE(h:VT X W a ta):VT X W (.UnaryOp .Not a pos) (mG ta):=by
 obtain⟨t,p,s⟩:=h;refine⟨_,an9 p,λG z L H J j Q w r h=>?_⟩;refine s G z L H J j _ w r (bS.mb h λc B d f g q e U b h1=>?_);cases(show d=c from b);exact kO U rfl h1
@[simp] def vK(f g:Ev->Mo A):Ev->Mo A:=λY=>mb (f Y) λx=>mb (NZ x) λc=>if c then g Y else ret (.bl au)
@[simp] def Tb(f:Ev->Mo A):Ev->Mo A:=λY=>mb (f Y) λx=>mb (NZ x) λc=>ret (.bl (!c))
theorem KQ{j}(h:VE X W a fa):VE X W (.BoolOp j [a] pos) fa:=let ⟨t,p,s⟩:=h; ⟨t,apQ p,s⟩
theorem FX(h1:VE X W a fa)(h2:VE X W (.BoolOp .And (b::rest) pos) fb):VE X W (.BoolOp .And (a::b::rest) pos) (vK fa fb):=by
 obtain⟨t,g,f⟩:=h1;obtain⟨u,p2,s2⟩:=h2;refine⟨_,aqB g p2,λG U d H J z Q w r h=>?_⟩;refine f G U d H J z _ w r (bS.mb h λx q v i k j e B L h1=>?_);cases x with
 |bl c =>
  simp only[Den]at L;refine⟨c,L,?_⟩;cases c with
  |true=>exact s2 k j q i J z Q B (r.ext e) h1
  |false=>exact kO B (by simp only[Den]) h1
 |_=>exact False.elim h1
theorem agM(h:VE X W a fa):VE X W (.UnaryOp .Not a pos) (Tb fa):=by
 obtain⟨t,p,s⟩:=h;refine⟨_,apR p,λG B U H J q Q w r h=>?_⟩;refine s G B U H J q _ w r (bS.mb h λx L v e f z d b j h1=>?_);cases x with
 |bl c =>
  simp only[Den]at j;exact⟨c,j,kO b (by simp only[Den]) h1⟩
 |_=>exact False.elim h1
end
inductive Out where
 |nx|bk|ct|ret (a:A)|exc (x:Exc)
abbrev OS:=av (Out×Ev×aG)
abbrev MS:=Ev->aG->OS
def aH4(K:bj)(W:WX)(G:Hp)(O:ao ay)(D:Ends)(J:L2.St)(H:Hp):Out->Prop
 |.nx=>D.nx J H
 |.bk=>D.bk J H
 |.ct=>D.ct J H
 |.ret a=>∀v,Den K G O v a->D.rt v H
 |.exc x=>∀cls dx,ae1 K G O H x cls dx->W J cls dx H
def fA(K:bj)(W:WX)(G:Hp)(O:ao ay)(D:Ends):OS->Prop
 |some (o,q,Z')=>∀j H' G' O',Ext G O G' O'->Wd K G' O' Z' H'->gY K G' O' j q->aH4 K W G' O' D j H' o
 |none=>ck
@[simp] noncomputable def sM{α:Type}(m:Mo α)(Y:Ev)(k:α->aG->OS):aG->OS:=λZ=>match m Z with
 |some (.ok a,Z1)=>k a Z1
 |some (.exc x,Z1)=>ak (.exc x,Y,Z1)
 |none=>aq
section
variable{K:bj}{W:WX}{G:Hp}{O:ao ay}{Z:aG}{J:L2.St}{Y:Ev}{D:Ends}
theorem fA.ext{B:Hp}{j:ao ay}{r:OS}(h:fA K W G O D r)(e:Ext G O B j):fA K W B j D r:=by
 match r,h with
 |some (o,L,U),h=>exact λq a b z x w d=>h q a b z (e.trans x) w d
theorem fA.sM{α β:Type}{rel:Rl α β}{m:Mo α}{k:α->aG->OS}{L:β->Hp->Prop}(h:fA K W G O D (V2.sM m Y k Z))(r:gY K G O J Y)
  (U:∀a Z1 v H1 z j,Ext G O z j->Wd K z j Z1 H1->rel z j v a->fA K W z j D (k a Z1)->L v H1):bS K rel W G O J L (m Z):=by
 unfold V2.sM at h
 revert h
 generalize m Z=q;intro h
 match q,h with
 |some (.ok a,Z1),h=>exact λv H1 z j x w d=>U a Z1 v H1 z j x w d (fA.ext h x)
 |some (.exc x,Z1),h=>exact λcls b c f B e w d=>h J c f B e w (r.ext e) cls b d
end
def rH(K:bj)(W:WX)(t:TS)(f:MS):Prop:=∀G O Z H J Y D,Wd K G O Z H->gY K G O J Y->fA K W G O D (f Y Z)->t D J H
def VS(X:Cx)(W:WX)(st:bw)(f:MS):Prop:=∃t,PS X st t/\rH X.K W t f
def iX(X:Cx)(W:WX)(st:ao bw)(f:MS):Prop:=∃t,pX X st t/\rH X.K W t f
def PQ(K:bj)(W:WX)(t:TG)(g:A->MS):Prop:=∀G O Z H J Y v a D,Wd K G O Z H->gY K G O J Y->Den K G O v a->fA K W G O D (g a Y Z)->t v J H D.nx
def aH2(K:bj)(W:WX)(t:wQ)(g:ao A->MS):Prop:=∀G O Z H J Y vs as D,Wd K G O Z H->gY K G O J Y->aY K G O vs as->fA K W G O D (g as Y Z)->t vs J H D.nx
def VG(X:Cx)(W:WX)(tg:bx)(g:A->MS):Prop:=∃t,PG X tg t/\PQ X.K W t g
def PL(X:Cx)(W:WX)(j:ao bx)(g:ao A->MS):Prop:=∃t,JE X j t/\aH2 X.K W t g
@[simp] noncomputable def fM:MS:=λY Z=>ak (.nx,Y,Z)
@[simp] noncomputable def aV(f g:MS):MS:=λY Z=>match f Y Z with
 |some (.nx,Y1,Z1)=>g Y1 Z1
 |r=>r
section
variable{X:Cx}{W:WX}{st:bw}{rest:ao bw}{f g:MS}{e:bx}{fe:Ev->Mo A}{pos:dg}
theorem uI{K:bj}{G H:Hp}{O:ao ay}{Z:aG}{J:L2.St}{Y:Ev}{D:Ends}(w:Wd K G O Z H)(r:gY K G O J Y)(h:fA K W G O D (ak (.nx,Y,Z))):D.nx J H:=h J H G O (Ext.refl _ _) w r
theorem gQ:iX X W [] fM:=⟨_,aoC,λ_ _ _ _ _ _ _ w r h=>uI w r h⟩
theorem Vb{K:bj}{t u:TS}(h1:rH K W t f)(h2:rH K W u g):rH K W (Aw t u) (aV f g):=by
 intro G c b H J U D w r h;refine h1 G c b H J U _ w r ?_;unfold aV at h
 revert h
 generalize f U b=q;intro h
 match q,h with
 |some (.nx,j,z),h=>exact λB i k L x d e=>h2 k L z i B j D d e (fA.ext h x)
 |some (.bk,j,z),h=>exact h
 |some (.ct,j,z),h=>exact h
 |some (.ret a,j,z),h=>exact h
 |some (.exc a,j,z),h=>exact h
theorem bD(h1:VS X W st f)(h2:iX X W rest g):iX X W (st::rest) (aV f g):=by
 obtain⟨t,q,j⟩:=h1;obtain⟨u,p2,s2⟩:=h2;exact⟨_,aoD q p2,Vb j s2⟩
theorem bE(h1:VS X W st f):iX X W [st] f:=let ⟨t,p,s⟩:=h1; ⟨t,aoB p,s⟩
@[simp] def kN(fe:Ev->Mo A):MS:=λY=>sM (fe Y) Y λ_ Z=>ak (.nx,Y,Z)
theorem oC(h:VE X W e fe)(c:e4 e aq pos.line X.env=pure au:=by rfl):VS X W (.Expr e pos) (kN fe):=by
 obtain⟨t,p,s⟩:=h;refine⟨_,aoO p c,λG z L H J j D w r h=>?_⟩;exact s G z L H J j _ w r (fA.sM h r λa B v f g q U b d h1=>uI b (r.ext U) h1)
@[simp] def bK(fe:Ev->Mo A):MS:=λY=>sM (fe Y) Y λa Z=>ak (.ret a,Y,Z)
theorem cL(h:VE X W e fe):VS X W (.Return (ak e) pos) (bK fe):=by
 obtain⟨t,p,s⟩:=h;refine⟨_,aoI p,λG z L H J q D w r h=>?_⟩;exact s G z L H J q _ w r (fA.sM h r λa B v d f j U b c h1=>h1 J d f j (Ext.refl _ _) b (r.ext U) v c)
@[simp] def eM(c:Ev->Mo bh)(f g:MS):MS:=λY=>sM (c Y) Y λb Z=>if b then f Y Z else g Y Z
theorem fY{c:bx}{a b:ao bw}{fc:Ev->Mo bh}(n:VT X W c fc)(h1:iX X W a f)(h2:iX X W b g):VS X W (.If c a b pos) (eM fc f g):=by
 obtain⟨s,m,s0⟩:=n;obtain⟨t,l,k⟩:=h1;obtain⟨u,p2,s2⟩:=h2;refine⟨_,aoL m l p2,λG e i H J z D w r h=>?_⟩;refine s0 G e i H J z _ w r (fA.sM h r λc q p U d j B L o h1=>?_);cases(show p=c from o);cases c with
 |true=>exact k d j q U J z D L (r.ext B) h1
 |false=>exact s2 d j q U J z D L (r.ext B) h1
@[simp] noncomputable def gN(i:a4):A->MS:=λa Y Z=>ak (.nx,Y.set i (ak a),Z)
theorem agH{i:a4}{x:a9}(z:X.N.Nodup)(hi:X.N[i]?=ak x)(j:Loc X.env.scope x)(q:X.fn x=ax\/X.env.scope.names.lookup x=ak .local:=by first|exact .inl rfl|exact .inr rfl|assumption):VG X W (.Name x pos) (gN i) :=
 ⟨_,apJ z hi j q,λ_ _ _ _ _ _ _ _ _ w r d h=>uI w (r.set i d) h⟩
@[simp] noncomputable def lJ:ao A->MS:=λas Y Z=>match as with
 |[]=>ak (.nx,Y,Z)
 |_=>aq
@[simp] def eN(g:A->MS)(gs:ao A->MS):ao A->MS:=λas=>match as with
 |a::r=>aV (g a) (gs r)
 |[]=>λ_ _=>aq
theorem sV:PL X W [] lJ:=⟨_,apF,λG z B H J q L j D w r d h=>by
 cases j with
 |nil=>rw[wK]at d;exact⟨d,uI w r h⟩
 | cons=>exact False.elim h⟩
theorem jU{es:ao bx}{g:A->MS}{gs:ao A->MS}(h1:VG X W e g)(h2:PL X W es gs)
  (p:(cn (e::es) X.env).map (·.2)=assign e X.env::(cn es X.env).map (·.2):=by rfl):PL X W (e::es) (eN g gs):=by
 obtain⟨t,o,m⟩:=h1;obtain⟨u,p2,s2⟩:=h2;refine⟨_,apG o p2 p,λG k i H J f C b D w r d h=>?_⟩;cases b with
 |nil=>exact False.elim h
 |cons a b =>
  obtain⟨x,U,rfl,v,s⟩:=d.pE;refine⟨x,U,rfl,m G k i H J f x a {D with nx:=λB c=>u U B c D.nx} w r v ?_⟩;simp only[eN,aV]at h
  revert h
  generalize g a f i=q;intro h
  match q,h with
  |some (.nx,j,z),h=>exact λB c y L x l n=>s2 y L z c B j U b D l n (s.ext x) (fA.ext h x)
  |some (.bk,j,z),h=>exact h
  |some (.ct,j,z),h=>exact h
  |some (.ret a,j,z),h=>exact h
  |some (.exc a,j,z),h=>exact h
@[simp] noncomputable def mM(n:a4)(gs:ao A->MS):A->MS:=λa Y Z=>match a with
 |.tup ds=>if ds.length=n then gs ds Y Z else aq
 |_=>aq
theorem tX{es:ao bx}{k:a4}{n:a4}{gs:ao A->MS}(b:X.calm=ax)(h:PL X W es gs)
  (hn:(cn es X.env).length=n:=by rfl) (U:(cn es X.env).findIdx? (·.1)=aq:=by rfl):VG X W (.Tuple es k pos) (mM n gs):=by
 obtain⟨t,p,s⟩:=h;refine⟨_,apH b p hn U,λG B L H J z v a D w r d h=>?_⟩;unfold mM at h;cases a with
 |tup ds =>
  simp only at h
  by_cases hl:ds.length=n
  ·rw[a7 hl]at h;simp only[Den]at d;obtain⟨p,j,rfl,h2,q⟩:=d;exact⟨p,j,rfl,iY.of (w.sub _ _ h2),by rw[q.length];exact hl,s G B L H J z j ds D w r q h⟩
  ·rw[ba hl]at h;exact False.elim h
 |_=>exact False.elim h
@[simp] def setCell(o i v:A)(Z:aG):av aG:=match o,i with
 |.aE k,.int n=>match Z[k]? with
  |some (.lst ds)=>match oJ ds.length n with
   |some j=>ak (Z.set k (.lst (ds.set j v)))
   |none=>aq
  |_=>aq
 |_,_=>aq
@[simp] def yG(fo fi:Ev->Mo A):A->MS:=λa Y=>sM (fo Y) Y λo=>sM (fi Y) Y λi Z=>match setCell o i a Z with
 |some Z'=>ak (.nx,Y,Z')
 |none=>aq
theorem BU{o i:bx}{fo fi:Ev->Mo A}(S:VE X W o fo)(hi:VE X W i fi)
  (ha:∀v,assign (.Subscript o i pos) X.env v=(do
   let ov<-dy [v] (cb o X.env)
   let f<-dy [v,ov] (cb i X.env)
   standAt pos
   dy [v,ov,f] (setItem ov f v)
   release [v,ov,f] []):=by intro _;rfl):VG X W (.Subscript o i pos) (yG fo fi):=by
 obtain⟨t,R,Q⟩:=S;obtain⟨u,p2,s2⟩:=hi;refine⟨_,apI R p2 set_list ha,λG K M H J l v a D w r d h=>?_⟩;refine Q G K M H J l _ w r (fA.sM h r λx U v1 H1 G1 B z P V h1=>?_);refine s2 G1 B U H1 J l _ P (r.ext z) (fA.sM h1 (r.ext z) λy L v2 H2 G2 I b m F h2=>?_);unfold setCell at h2;cases x with
 |aE k =>
  cases y with
  |int n =>
   simp only at h2;cases e:L[k]? with
   |none=>rw[e]at h2;exact False.elim h2
   |some c =>
    rw[e]at h2;cases c with
    |lst ds =>
     simp only at h2;cases g:oJ ds.length n with
     |none=>rw[g]at h2;exact False.elim h2
     |some j =>
      rw[g]at h2;have q:=V.ext b;simp only[Den]at q F;obtain⟨p,rfl,s⟩:=q;obtain⟨E,N,T,C⟩:=m.aE k _ p e s;refine⟨p,N,n,j,rfl,F,T,by rw[C.length];exact g,?_⟩;refine uI (m.put (c:=.lst (ds.set j a)) s E ⟨E,_,gV,?_⟩) (r.ext (z.trans b)) h2;exact aY.set (d.ext (z.trans b)) j C
    |_=>exact False.elim h2
  |_=>exact False.elim h2
 |_=>exact False.elim h2
@[simp] def bO(fe:Ev->Mo A)(g:A->MS):MS:=λY=>sM (fe Y) Y λa Z=>g a Y Z
theorem Vf{K:bj}{te:TE}{t:TG}{g:A->MS}(h1:gT K (Den K) W te fe)(h2:PQ K W t g):rH K W (Bb te t) (bO fe g):=by
 intro G B L H J z D w r h;exact h1 G B L H J z _ w r (fA.sM h r λa q v d e j U b c h1=>h2 e j q d J z v a D b (r.ext U) c h1)
theorem zK{tg:bx}{g:A->MS}(he:VE X W e fe)(L:VG X W tg g)(B:swapsWithSole [tg] e pos.line X.env=pure au:=by rfl)(z:swappedStores [tg] e X.env=pure aq:=by rfl)
  (h1:(cn [tg] X.env).map (·.2)=[assign tg X.env]:=by rfl):VS X W (.Assign [tg] e pos) (bO fe g):=by
 obtain⟨t,q,j⟩:=he;obtain⟨u,p2,s2⟩:=L;exact⟨_,aoR q p2 B z h1,Vf j s2⟩
theorem agA{i:a4}{x:a9}{pos':dg}(U:X.N.Nodup)(hi:X.N[i]?=ak x)(z:Loc X.env.scope x)(he:VE X W e fe)(B:e4 e (ak (.Name x pos')) pos.line X.env=pure au:=by rfl)(L:X.fn x=ax\/X.env.scope.names.lookup x=ak .local:=by first|exact .inl rfl|exact .inr rfl|assumption) :
  VS X W (.Assign [.Name x pos'] e pos) (bO fe (gN i)):=by
 obtain⟨t,q,j⟩:=he;exact⟨_,aoH U hi z q B L,Vf j λ_ _ _ _ _ _ _ _ _ w r d h=>uI w (r.set i d) h⟩
structure Src where
 ds:ao A
 ok:aG->Prop
structure JS(K:bj)(G:Hp)(O:ao ay)(σ:It)(S:Src):Prop where
 go:∀G' O' Z' H',Ext G O G' O'->Wd K G' O' Z' H'->S.ok Z'->∀i,i<S.ds.length->σ.go i H'
 stop:∀G' O' Z' H',Ext G O G' O'->Wd K G' O' Z' H'->S.ok Z'->∀i,S.ds.length<=i->σ.stop i H'
 BJ:∀G' O' Z' H',Ext G O G' O'->Wd K G' O' Z' H'->S.ok Z'->∀i x H2 d,S.ds[i]?=ak d->σ.BJ i H' x H2->∃G2,Ext G' O' G2 O'/\Wd K G2 O' Z' H2/\Den K G2 O' x d
def Ea(K:bj):Rl Src It:=λG O σ S=>JS K G O σ S
def VI(X:Cx)(W:WX)(tg iter:bx)(f:Ev->Mo Src):Prop:=∃t,PI X tg iter t/\gT X.K (Ea X.K) W t f
open Classical in
noncomputable def fO(ok:aG->Prop)(g:A->MS)(b:MS):ao A->MS
 |[],Y,Z=>if ok Z then ak (.nx,Y,Z)else aq
 | x::xs,Y,Z=>if ok Z then(match g x Y Z with
  | some (.nx,Y0,Z0)=>(match b Y0 Z0 with
   |some (.nx,Y1,Z1)=>fO ok g b xs Y1 Z1
   |some (.ct,Y1,Z1)=>fO ok g b xs Y1 Z1
   |some (.bk,Y1,Z1)=>ak (.nx,Y1,Z1)
   | r=>r)
  |some (.exc e,Y0,Z0)=>ak (.exc e,Y0,Z0)
  | _=>aq)else aq
@[simp] noncomputable def nJ(fi:Ev->Mo Src)(g:A->MS)(b:MS):MS:=λY=>sM (fi Y) Y λS Z=>fO S.ok g b S.ds Y Z
theorem aB5{K:bj}{G:Hp}{O:ao ay}{D:Ends}{ok:aG->Prop}{g:A->MS}{b:MS}{xs:ao A}{Y:Ev}{Z:aG}(h:fA K W G O D (fO ok g b xs Y Z)):ok Z:=by
 cases xs with
 |nil =>
  unfold fO at h
  by_cases j:ok Z
  ·exact j
  ·rw[ba j]at h;exact False.elim h
 |cons =>
  unfold fO at h
  by_cases j:ok Z
  ·exact j
  ·rw[ba j]at h;exact False.elim h
theorem akL{K:bj}{wi:TI}{tg:TG}{tb:TS}{fi:Ev->Mo Src}{g:A->MS}{b:MS}(hi:gT K (Ea K) W wi fi)(hg:PQ K W tg g)(hb:rH K W tb b):rH K W (Ub wi tg tb) (nJ fi g b):=by
 intro G O Z H J Y D w r h;refine hi G O Z H J Y _ w r (fA.sM h r λS Z1 σ H1 G1 E x1 w1 j1 h1=>?_);refine⟨λi m v V=>m=S.ds.length-i/\i<=S.ds.length/\∃t B L e,Ext G1 E t B/\Wd K t B L V/\gY K t B v e/\fA K W t B D (fO S.ok g b (S.ds.drop i) e L),
  ⟨_,rfl,AW _,G1,E,Z1,Y,Ext.refl _ _,w1,r.ext x1,by simpa using h1⟩,?_⟩
 rintro i m v V ⟨rfl,hil,t,B,L,e,R,X,r',h'⟩;have aL:=aB5 h'
 by_cases cZ:i<S.ds.length
 ·right
  refine⟨j1.go t B L V R X aL i cZ,λN T=>∃M o Q P,Ext G1 E M o/\Wd K M o Q T/\gY K M o N P/\fA K W M o D (fO S.ok g b (S.ds.drop (i+1)) P Q),λN T n=>?_,λx T y=>?_⟩
  ·exact⟨S.ds.length-(i+1),by omega,rfl,cZ,n⟩
  ·obtain⟨M,p,w2,d2⟩:=j1.BJ t B L V R X aL i x T S.ds[i] (gM cZ) y;rw[JP cZ]at h';unfold fO at h';rw[a7 aL]at h';refine hg M B L T v e x S.ds[i] {D with nx:=λu H3=>tb _ u H3} w2 (r'.ext p) d2 ?_
   revert h'
   generalize g S.ds[i] e L=q;intro h'
   match q,h' with
   |some (.nx,C,F),h' =>
    intro u H3 G3 O3 I w3 r3;refine hb G3 O3 F H3 u C _ w3 r3 ?_;simp only at h'
    revert h'
    generalize b C F=q2;intro h'
    match q2,h' with
    |some (.nx,U,c),h'=>exact λz s l j d f k=>⟨l,j,c,U,(R.trans (p.trans I)).trans d,f,k,fA.ext h' ((p.trans I).trans d)⟩
    |some (.ct,U,c),h'=>exact λz s l j d f k=>⟨l,j,c,U,(R.trans (p.trans I)).trans d,f,k,fA.ext h' ((p.trans I).trans d)⟩
    |some (.bk,U,c),h'=>exact λz s l j d f k=>h' z s l j ((p.trans I).trans d) f k
    |some (.ret a,U,c),h'=>exact λz s l j d f k=>h' z s l j ((p.trans I).trans d) f k
    |some (.exc a,U,c),h'=>exact λz s l j d f k=>h' z s l j ((p.trans I).trans d) f k
   |some (.exc a,C,F),h'=>exact λz s l j d f k=>h' z s l j (p.trans d) f k
 ·have Hv:i=S.ds.length:=by omega
  subst Hv
  left
  rw[List.drop_length]at h';unfold fO at h';rw[a7 aL]at h';exact⟨j1.stop t B L V R X aL _ dC,uI X r' h'⟩
theorem tW{tg iter:bx}{body:ao bw}{fi:Ev->Mo Src}{g:A->MS}{b:MS}(U:PassesOwn (bq X.prog X.w) X.A X.env X.xe)(c:X.calm=ax)(hi:VI X W tg iter fi)(a:VG X W tg g)(hb:iX X W body b)
  (L:∀x,de iter X.env x=pure x:=by intro _;rfl):VS X W (.For tg iter body [] pos) (nJ fi g b):=by
 obtain⟨f,B,q⟩:=hi;obtain⟨e,p2,s2⟩:=a;obtain⟨d,z,j⟩:=hb;exact⟨_,aoM U c B p2 z L,akL q s2 j⟩
def lK(c:Ev->Mo bh)(b:MS):a4->MS
 |0,_,_=>aq
 | n+1,Y,Z=>sM (c Y) Y (λk Z1=>if k then(match b Y Z1 with
   |some (.nx,Y1,Z2)=>lK c b n Y1 Z2
   |some (.ct,Y1,Z2)=>lK c b n Y1 Z2
   |some (.bk,Y1,Z2)=>ak (.nx,Y1,Z2)
   | r=>r)else ak (.nx,Y,Z1)) Z
theorem akG{K:bj}{tc:TT}{tb:TS}{c:Ev->Mo bh}{b:MS}(n:Ev->aG->a4)(T:gT K CI W tc c)(hb:rH K W tb b):rH K W (Tv tc tb) (λY Z=>lK c b (n Y Z) Y Z):=by
 intro G I Z H J Y D w r h;refine⟨λm f M=>∃t U i L,Ext G I t U/\Wd K t U i M/\gY K t U f L/\fA K W t U D (lK c b m L i),⟨_,G,I,Z,Y,Ext.refl _ _,w,r,h⟩,?_⟩;rintro m f M ⟨t,U,i,L,P,R,C,h'⟩;cases m with
 |zero=>exact False.elim h'
 |succ m =>
  unfold lK at h';refine T t U i M f L _ R C (fA.sM h' C λk y S X G1 F A N V h1=>?_);cases(show S=k from V);cases k with
  |false=>exact uI N (C.ext A) h1
  |true =>
   refine⟨λu Q=>∃E g x v,Ext G I E g/\Wd K E g x Q/\gY K E g u v/\fA K W E g D (lK c b m v x),λu Q q=>⟨m,YD _,q⟩,?_⟩;refine hb G1 F y X f L _ N (C.ext A) ?_;simp only[fI]at h1
   revert h1
   generalize b L y=q;intro h1
   match q,h1 with
   |some (.nx,B,d),h1=>exact λz s p j e l o=>⟨p,j,d,B,(P.trans A).trans e,l,o,fA.ext h1 e⟩
   |some (.ct,B,d),h1=>exact λz s p j e l o=>⟨p,j,d,B,(P.trans A).trans e,l,o,fA.ext h1 e⟩
   |some (.bk,B,d),h1=>exact λz s p j e l o=>h1 z s p j e l o
   |some (.ret a,B,d),h1=>exact λz s p j e l o=>h1 z s p j e l o
   |some (.exc a,B,d),h1=>exact λz s p j e l o=>h1 z s p j e l o
theorem RR{j:bx}{body:ao bw}{c:Ev->Mo bh}{b:MS}(n:Ev->aG->a4)(B:PassesOwn (bq X.prog X.w) X.A X.env X.xe)(L:VT X W j c)(hb:iX X W body b):VS X W (.While j body [] pos) (λY Z=>lK c b (n Y Z) Y Z):=by
 obtain⟨a,z,q⟩:=L;obtain⟨U,p2,s2⟩:=hb;exact⟨_,aoF B z p2,akG n q s2⟩
@[simp] def srcOf(a:A)(ds:ao A):Src:=⟨ds,λZ=>jD Z a=ak ds⟩
theorem CB{Z:aG}{a:A}{ds:ao A}(h:eU Z a=ak ds):jD Z a=ak ds:=by
 cases a with
 |tup es=>simp[eU]at h
 |_=>exact h
theorem Yk{Z:aG}{a:A}{ds:ao A}(h:jD Z a=ak ds)(ha:∀es,a≠.tup es):eU Z a=ak ds:=by
 cases a with
 |tup es=>exact b4 rfl (ha es)
 |_=>exact h
theorem ao8{tg l:bx}{tl:TE}(hl:PE X l tl):PI X tg l (λJ H R=>tl J H λx H1=>∃a,x=.ref a/\(((∃xs,fH X.K H1 a xs)/\R (Pd X.K a) H1)\/((∃xs,iY X.K H1 a xs)/\R (Pc X.K a) H1))):=by
 intro aa s J H R I h;refine bM (hl aa s J H _ I h) λv j ⟨x,H1,z,c,d⟩=>?_;obtain⟨a,e,q⟩:=d;subst e;cases c
 rcases q with⟨⟨xs,B⟩,q⟩|⟨⟨xs,B⟩,q⟩
 ·obtain⟨L,U,p,f⟩:=z.list B;refine wpAny_pyIter_list p.isList ?_;refine⟨j.heap.objs.size,[j.heap.objs.size],_,_,H1,rfl,z.kept (t':=j.toks) λb o e=>eK _ e,ahF a _,⟨_,iQ _ rfl,rfl,rfl⟩,λb hb=>?_,q⟩;have e:b=j.heap.objs.size:=by simpa using hb
  subst e;exact z.yI dC (z.aL.fresh dC)
 ·obtain⟨L,U,p,f⟩:=z.tuple B;refine wpAny_pyIter_tuple (show j.heap.IsTuple a L.toArray from p) ?_;refine⟨j.heap.objs.size,[j.heap.objs.size],_,_,H1,rfl,z.kept (t':=j.toks) λb o e=>eK _ e,ahD a _,⟨_,iQ _ rfl,rfl,rfl⟩,λb hb=>?_,q⟩;have e:b=j.heap.objs.size:=by simpa using hb
  subst e;exact z.yI dC (z.aL.fresh dC)
@[simp] def jJ(f:Ev->Mo A):Ev->Mo Src:=λY=>mb (f Y) λa Z=>match jD Z a with
 |some ds=>ak (.ok (srcOf a ds),Z)
 |none=>aq
theorem av0{K:bj}{G:Hp}{O:ao ay}{p:ay}{a:A}{ds:ao A}(d:Den K G O (.ref p) a)(ha:∀es,a≠.tup es):JS K G O (Pd K p) (srcOf a ds):=by
 have key:∀U j B b,Ext G O U j->Wd K U j B b->jD B a=ak ds->∃L,fH K b p L/\aY K U j L ds:=λU j B b e w h=>by
  obtain⟨q,L,h1,h2,c⟩:=tD w (d.ext e) (Yk h ha);cases h1;exact⟨L,h2,c⟩
 refine⟨λU j B b e w h i hi=>?_,λU j B b e w h i hi=>?_,λU j B b e w h i x m y k hd=>?_⟩
 ·obtain⟨L,h2,c⟩:=key U j B b e w h;have hl:i<L.length:=by rw[c.length];exact hi
  exact⟨L,L[i],h2,gM hl⟩
 ·obtain⟨L,h2,c⟩:=key U j B b e w h;exact⟨L,h2,by rw[c.length];exact hi⟩
 ·obtain⟨L,h2,c⟩:=key U j B b e w h;obtain⟨e1,l⟩:=hd;subst e1;obtain⟨z,f,g⟩:=c.get k;rw[l L h2]at f;cases f;exact⟨U,Ext.refl _ _,w,g⟩
theorem avZ{K:bj}{G:Hp}{O:ao ay}{p:ay}{ds es:ao A}(d:Den K G O (.ref p) (.tup es)):JS K G O (Pc K p) (srcOf (.tup es) ds):=by
 have key:∀U j B a,Ext G O U j->Wd K U j B a->jD B (.tup es)=ak ds->∃L,iY K a p L/\aY K U j L ds:=λU j B a e w h=>by
  simp only[jD,iZ]at h;subst h;have d':=d.ext e;simp only[Den]at d';obtain⟨q,L,h1,h2,b⟩:=d';cases h1;exact⟨L,iY.of (w.sub _ _ h2),b⟩
 refine⟨λU j B a e w h i hi=>?_,λU j B a e w h i hi=>?_,λU j B a e w h i x l y g hd=>?_⟩
 ·obtain⟨L,h2,b⟩:=key U j B a e w h;have hl:i<L.length:=by rw[b.length];exact hi
  exact⟨L,L[i],h2,gM hl⟩
 ·obtain⟨L,h2,b⟩:=key U j B a e w h;exact⟨L,h2,by rw[b.length];exact hi⟩
 ·obtain⟨L,h2,b⟩:=key U j B a e w h;obtain⟨e1,k⟩:=hd;subst e1;obtain⟨z,c,f⟩:=b.get g;rw[k L h2]at c;cases c;exact⟨U,Ext.refl _ _,w,f⟩
theorem pC{tg l:bx}{fe:Ev->Mo A}(h:VE X W l fe):VI X W tg l (jJ fe):=by
 obtain⟨t,p,s⟩:=h;refine⟨_,ao8 p,λG i k H J g R w r h=>?_⟩;refine s G i k H J g _ w r (bS.mb h λa U v d f B u L j h1=>?_);cases e:jD U a with
 |none=>simp only[e]at h1;exact False.elim h1
 |some ds =>
  simp only[e]at h1;obtain⟨q,o,h2,y,x⟩:=SU L j e;subst h2;refine⟨q,rfl,?_⟩;cases a with
  |tup es =>
   right
   simp only[Den]at j;obtain⟨m,b,e1,c,n⟩:=id j;cases e1;exact⟨⟨_,iY.of (L.sub _ _ c)⟩,h1 _ d f B (Ext.refl _ _) L (avZ (by simpa only[Den]using j))⟩
  |_ =>
   left
   obtain⟨m,b,e1,c,n⟩:=tD L j (Yk e (by intro _ z;cases z));cases e1;exact⟨⟨_,c⟩,h1 _ d f B (Ext.refl _ _) L (av0 j (by intro _ z;cases z))⟩
@[simp] noncomputable def GU(lo:az)(n:a4):Src:=⟨(List.range n).map λ(i:a4)=>A.int (lo+(i:az)),λ_=>True⟩
def CA(i:az):Prop:=-(2 ^ 62)<=i/\i<2 ^ 62
instance (i:az):c8 (CA i):=by unfold CA;infer_instance
theorem av1{K:bj}{G:Hp}{O:ao ay}{lo:az}{n:a4}:JS K G O (YM lo n) (GU lo n):=by
 refine⟨λ_ _ _ _ _ _ _ i hi=>show i<n by simpa[GU]using hi,λ_ _ _ _ _ _ _ i hi=>show n<=i by simpa[GU]using hi,λU z B b e w h i x a y q hd=>?_⟩;obtain⟨e1,L⟩:=hd;subst e1 L;refine⟨U,Ext.refl _ _,w,?_⟩;simp only[GU,jH]at q;cases e:(List.range n)[i]? with
 |none=>rw[e]at q;cases q
 |some j =>
  rw[e]at q;cases q;have:=(cR.mp e).2;simp at this;subst this;simp only[Den]
@[simp] def FZ(f:Ev->Mo (ao A)):Ev->Mo Src:=λY=>mb (f Y) λas=>match as with
 |[.int j]=>mb (pV (CA j)) λ_=>ret (GU 0 j.toNat)
 |_=>stuck
theorem ZV{tg a:bx}{fs:Ev->Mo (ao A)}{p:dg}(g:Gl X "range")(hm:X.mg "range" = aq)(ha:VA X W [a] fs)(f:bf [a] X.env=[(au,cb a X.env)]:=by rfl):VI X W tg (.Call (.Name "range" p) [a] [] pos) (FZ fs):=by
 obtain⟨t,p,s⟩:=ha;refine⟨_,ao9 g hm p f,λG b d H J L R w r h=>?_⟩;refine s G b d H J L _ w r (bS.mb h λm c l n o U k e i h1=>?_);split at h1
 ·rename_i j;obtain⟨v,t,rfl,z,q⟩:=i.pE;rw[wK]at q;subst q;simp only[Den]at z;subst z;obtain⟨B,h2⟩:=bS.pV h1;exact⟨j,rfl,B.1,B.2,kO e av1 h2⟩
 ·exact False.elim h1
end
section
variable{X:Cx}{W:WX}{e a b:bx}{es:ao bx}{pos:dg}{fa fb:Ev->Mo A}{fs:Ev->Mo (ao A)}
@[simp] def cW(a i:A):Mo A:=λZ=>match jD Z a,i with
 |some ds,.int n=>match iE ds n with
  |some d=>ak (.ok d,Z)
  |none=>aq
 |_,_=>aq
theorem aHG{K:bj}{G:Hp}{O:ao ay}{xs:ao V}{ds:ao A}{n:az}{d:A}(h:aY K G O xs ds)(e:iE ds n=ak d):∃x,iE xs n=ak x/\Den K G O x d:=by
 unfold iE at e ⊢;rw[h.length];cases q:oJ ds.length n with
 |none=>rw[q]at e;cases e
 |some j=>rw[q]at e;exact h.get e
theorem dR(ha:VE X W a fa)(hb:VE X W b fb)(g:ad3 b):VE X W (.Subscript a b pos) (aC cW fa fb):=by
 obtain⟨t,f,c⟩:=ha;obtain⟨u,p2,s2⟩:=hb;refine⟨_,apY avX f p2 g,SV ?_ c s2⟩;intro G z l H J x y a i Q w k q h;unfold cW at h;split at h
 ·rename_i ds n e1;split at h
  ·rename_i d e;simp only[Den]at q;have fin:∀v,Den X.K G z v d->Q v H:=λv hv=>h v H G z (Ext.refl _ _) w hv;obtain⟨p,B,rfl,j,hd⟩:=SU w k e1;obtain⟨v,U,L⟩:=aHG hd e
   rcases j with j|j
   ·exact .inl ⟨p,B,n,v,rfl,q,j,U,fin v L⟩
   ·exact .inr (.inl ⟨p,B,n,v,rfl,q,j,U,fin v L⟩)
  ·exact False.elim h
 ·exact False.elim h
def VO(X:Cx)(W:WX)(e:av bx)(f:Ev->Mo (av az)):Prop:=∃t,PO X e t/\gT X.K (λ_ _ o o'=>o=o') W t f
theorem agE:VO X W aq (λ_=>ret aq):=⟨_,aoW,λ_ _ _ _ _ _ _ w _ q=>kO w rfl q⟩
@[simp] def tZ(f:Ev->Mo A):Ev->Mo (av az):=λY=>mb (f Y) λx=>match x with
 |.int i=>ret (ak i)
 |_=>stuck
theorem BR(h:VE X W e fa):VO X W (ak e) (tZ fa):=by
 obtain⟨t,p,s⟩:=h;refine⟨_,aoV p,λG B U H J q Q w r h=>?_⟩;refine s G B U H J q _ w r (bS.mb h λx L v c d z b a j h1=>?_);cases x with
 |int i=>simp only[Den]at j;exact⟨i,j,kO a rfl h1⟩
 |_=>exact False.elim h1
def EC(ds:ao A)(lo hi:av az):ao A:=(ds.drop (HT.dE ds.length 0 lo)).take (HT.dE ds.length ds.length hi-HT.dE ds.length 0 lo)
theorem ab2{K:bj}{G:Hp}{O:ao ay}{xs:ao V}{ds:ao A}(h:aY K G O xs ds)(lo hi:av az):aY K G O (AN xs lo hi) (EC ds lo hi):=by
 unfold AN EC;rw[h.length];exact(h.drop _).take _
@[simp] def gSl(c:bh)(a:A)(lo hi:av az):Mo A:=λZ=>match a with
 |.tup ds=>if HT.dE ds.length 0 lo=0/\HT.dE ds.length ds.length hi=ds.length then aq else ak (.ok (.tup (EC ds lo hi)),Z)
 |a=>match eU Z a with
  |some ds=>uL c (EC ds lo hi) Z
  |none=>aq
@[simp] def Ta(c:bh)(f:Ev->Mo A)(l h:Ev->Mo (av az)):Ev->Mo A:=λY=>mb (f Y) λa=>mb (l Y) λlo=>mb (h Y) λhi=>gSl c a lo hi
theorem agL(c:bh){lo hi:av bx}{fl n:Ev->Mo (av az)}{p2:dg}(he:VE X W e fa)(hl:VO X W lo fl)(hh:VO X W hi n):VE X W (.Subscript e (.Slice lo hi aq p2) pos) (Ta c fa fl n):=by
 obtain⟨t,N,K⟩:=he;obtain⟨u,p2,s2⟩:=hl;obtain⟨u',M,I⟩:=hh;refine⟨_,apO (akE.or akD) N p2 M,λG y C H J B Q w r h=>?_⟩;refine K G y C H J B _ w r (bS.mb h λx b v H1 G1 U m F V h1=>?_);refine s2 G1 U b H1 J B _ F (r.ext m) (bS.mb h1 λo a P H2 G2 L i E T h2=>?_);cases(show P=o from T);refine I G2 L a H2 J B _ E ((r.ext m).ext i) (bS.mb h2 λk A R H3 G3 s D q S j=>?_);cases(show R=k from S);have d:=V.ext (i.trans D);unfold gSl at j;cases x with
 |tup ds =>
  simp only at j;split at j
  ·exact False.elim j
  ·rename_i hn;simp only[Den]at d;obtain⟨p,f,rfl,g,z⟩:=d;exact .inr ⟨p,f,rfl,iY.of (q.sub _ _ g),by rw[z.length];exact hn,λl hl=>Fe q hl (ab2 z o k) j⟩
 |_ =>
  simp only at j;split at j
  ·rename_i ds e;obtain⟨p,f,rfl,g,z⟩:=tD q d e;exact .inl ⟨p,f,rfl,g,λl hl=>zU q hl (ab2 z o k) j⟩
  ·exact False.elim j
def ae6(K:bj)(W:WX)(r:ao V->Hp->VK->Prop)(g:ao A->Mo A):Prop :=
 ∀G O Z H J xs as Q,Wd K G O Z H->aY K G O xs as->bS K (Den K) W G O J Q (g as Z)->r xs H Q
def rN(X:Cx)(W:WX)(f:ar)(g:ao A->Mo A):Prop:=∃r,oX X f r/\ae6 X.K W r g
@[simp] def aU(g:ao A->Mo A)(f:Ev->Mo (ao A)):Ev->Mo A:=λY=>mb (f Y) g
theorem Vd{K:bj}{r:ao V->Hp->VK->Prop}{g:ao A->Mo A}{t:TA}(c:ae6 K W r g)(h:gT K (aY K) W t fs):gT K (Den K) W (Ba r t) (aU g fs):=by
 intro G L U H J B Q w q h2;exact h G L U H J B _ w q (bS.mb h2 λe z b f i j k a d h1=>c i j z f J b e Q a d h1)
theorem fB{id:cj}{x:a9}{g:ao A->Mo A}{p:dg}(B:rN X W (.builtin id) g)(z:Gl X x)(hm:X.mg x=aq)(hv:c9 x=ak (.builtin id))(ha:VA X W (e::es) fs)(hn:x≠"__name__":=by decide)(L:(x==("__debug__" : a9))=au:=by decide)
  (he:bf (e::es) X.env=(au,cb e X.env)::bf es X.env:=by rfl) (U:(cv pos (bf es X.env)).any (·.1)=au:=by rfl):VE X W (.Call (.Name x p) (e::es) [] pos) (aU g fs):=by
 obtain⟨r,b,a⟩:=B;obtain⟨t,q,j⟩:=ha;exact⟨_,Xa b z hm hv q hn L he U,Vd a j⟩
theorem Su{T:cj}{x:a9}{g:ao A->Mo A}{p:dg}(B:rN X W (.type T) g)(z:Gl X x)(hm:X.mg x=aq)(hv:c9 x=ak (.type T))(ha:VA X W (e::es) fs)(hn:x≠"__name__":=by decide)(L:(x==("__debug__" : a9))=au:=by decide)
  (he:bf (e::es) X.env=(au,cb e X.env)::bf es X.env:=by rfl) (U:(cv pos (bf es X.env)).any (·.1)=au:=by rfl):VE X W (.Call (.Name x p) (e::es) [] pos) (aU g fs):=by
 obtain⟨r,b,a⟩:=B;obtain⟨t,q,j⟩:=ha;exact⟨_,Wz b z hm hv q hn L he U,Vd a j⟩
theorem uU{K:bj}{G:Hp}{O:ao ay}{xs:ao V}{d:A}(h:aY K G O xs [d]):∃x,xs=[x]/\Den K G O x d:=by
 obtain⟨x,r,rfl,h1,h2⟩:=h.pE;rw[wK]at h2;subst h2;exact⟨x,rfl,h1⟩
theorem OL{K:bj}{G:Hp}{O:ao ay}{xs:ao V}{d d':A}(h:aY K G O xs [d,d']):∃x y,xs=[x,y]/\Den K G O x d/\Den K G O y d':=by
 obtain⟨x,r,rfl,h1,h2⟩:=h.pE;obtain⟨y,rfl,j⟩:=uU h2;exact⟨x,y,rfl,h1,j⟩
@[simp] def nC(as:ao A):Mo A:=λZ=>match as with
 | [a]=>(match jD Z a with
  |some ds=>ak (.ok (.int ds.length),Z)
  | none=>aq)
 |_=>aq
theorem wN:rN X W (.builtin "len") nC:=by
 refine⟨_,aFQ,?_⟩;intro G j L H J U b Q w d h;unfold nC at h;split at h
 ·rename_i a;split at h
  ·rename_i ds e;obtain⟨x,rfl,B⟩:=uU d;obtain⟨p,q,rfl,h2,z⟩:=SU w B e;exact⟨p,q,rfl,h2,h _ H G j (Ext.refl _ _) w (by simp only[Den,z.length])⟩
  ·exact False.elim h
 ·exact False.elim h
@[simp] def rD(as:ao A):Mo A:=match as with
 |[.int i,.int j]=>ret (.int (max i j))
 |_=>stuck
@[simp] def AJ(as:ao A):Mo A:=match as with
 |[.int i,.int j]=>ret (.int (min i j))
 |_=>stuck
theorem yQ(B:X.calm=ax):rN X W (.builtin "max") rD:=by
 refine⟨_,aFO B,?_⟩;intro G L U H J a b Q w d h;unfold rD at h;split at h
 ·rename_i i j;obtain⟨x,y,rfl,z,q⟩:=OL d;simp only[Den]at z q;subst z q;refine⟨i,j,rfl,?_⟩;have e:(if j>i then j else i)=max i j:=by split <;> omega
  rw[e];exact kO w (by simp only[Den]) h
 ·exact False.elim h
theorem WS(B:X.calm=ax):rN X W (.builtin "min") AJ:=by
 refine⟨_,aFN B,?_⟩;intro G L U H J a b Q w d h;unfold AJ at h;split at h
 ·rename_i i j;obtain⟨x,y,rfl,z,q⟩:=OL d;simp only[Den]at z q;subst z q;refine⟨i,j,rfl,?_⟩;have e:(if j<i then j else i)=min i j:=by split <;> omega
  rw[e];exact kO w (by simp only[Den]) h
 ·exact False.elim h
noncomputable def intsOf:ao A->av (ao az)
 |[]=>ak []
 |.int i::r=>(intsOf r).map (i :: ·)
 |_=>aq
theorem US{K:bj}{G:Hp}{O:ao ay}:∀{ds:ao A} {xs:ao V} {ns:ao az},intsOf ds=ak ns->aY K G O xs ds->xs=ns.map V.int
 |[],xs,ns,h,d=>by
  simp only[intsOf,iZ]at h;subst h;rw[wK]at d;subst d;rfl
 |a::ds,xs,ns,h,d=>by
  obtain⟨x,t,rfl,j,q⟩:=d.pE;cases a with
  |int i =>
   simp only[intsOf,AV]at h;obtain⟨ms,h1,rfl⟩:=h;simp only[Den]at j;subst j;rw[US h1 q];rfl
  |_=>simp[intsOf]at h
theorem DC(ns:ao az):intsOf (ns.map A.int)=ak ns:=by
 induction ns with
 |nil=>rfl
 |cons n ns ih=>simp[intsOf,ih]
@[simp] def DP(as:ao A):Mo A:=λZ=>match as with
 | [a]=>(match (eU Z a).bind intsOf with
  |some ns=>ak (.ok (.int ns.sum),Z)
  | none=>aq)
 |_=>aq
theorem OT(q:X.calm=ax):rN X W (.builtin "sum") DP:=by
 refine⟨_,aFH q,?_⟩;intro G j U H J c f Q w d h;unfold DP at h;split at h
 ·rename_i a;split at h
  ·rename_i ns e;obtain⟨x,rfl,L⟩:=uU d;rw[JG]at e;obtain⟨ds,e1,B⟩:=e;obtain⟨p,b,rfl,h2,z⟩:=tD w L e1;rw[US B z]at h2;exact⟨p,ns,rfl,h2,h _ H G j (Ext.refl _ _) w (by simp only[Den])⟩
  ·exact False.elim h
 ·exact False.elim h
@[simp] def VX(c:bh)(as:ao A):Mo A:=λZ=>match as with
 | [a]=>(match jD Z a with
  |some ds=>uL c ds Z
  | none=>aq)
 |_=>aq
theorem aFY(c:bh):rN X W (.type "list") (VX c):=by
 refine⟨_,aFP,?_⟩;intro G B L H J U b Q w d h;unfold VX at h;split at h
 ·rename_i a;split at h
  ·rename_i ds e;obtain⟨x,rfl,z⟩:=uU d;obtain⟨p,j,rfl,h2,q⟩:=SU w z e;exact⟨p,j,rfl,h2,λl hl=>zU w hl q h⟩
  ·exact False.elim h
 ·exact False.elim h
noncomputable def pF(Z:aG):A->av cj
 |.int _=>ak "int"
 |.bl _=>ak "bool"
 |.str _=>ak "str"
 |.bQ=>ak "NoneType"
 |.tup _=>ak "tuple"
 |.lst _=>ak "list"
 |.aE k=>match Z[k]? with
  |some (.lst _)=>ak "list"
  |some (.dA _)=>ak "dict"
  |_=>aq
 |_=>aq
theorem ahB{K:bj}{G H:Hp}{O:ao ay}{Z:aG}{v:V}{a:A}{t:cj}(w:Wd K G O Z H)(d:Den K G O v a)(h:pF Z a=ak t):rG K H v (.type t):=by
 cases a with
 |int i=>simp only[pF,iZ]at h;subst h;simp only[Den]at d;subst d;exact .int i
 |bl i=>simp only[pF,iZ]at h;subst h;simp only[Den]at d;subst d;exact .bl i
 |str i=>simp only[pF,iZ]at h;subst h;simp only[Den]at d;subst d;exact .str i
 |bQ=>simp only[pF,iZ]at h;subst h;simp only[Den]at d;subst d;exact .bQ
 |tup ds=>simp only[pF,iZ]at h;subst h;simp only[Den]at d;obtain⟨p,j,rfl,h2,_⟩:=d;exact .tup (w.sub _ _ h2)
 |lst ds=>simp only[pF,iZ]at h;subst h;simp only[Den]at d;obtain⟨p,j,rfl,h2,_⟩:=d;exact .lst (w.sub _ _ h2)
 |aE k =>
  simp only[Den]at d;obtain⟨p,rfl,z⟩:=d;simp only[pF]at h;split at h
  ·rename_i ds e;cases h;obtain⟨g,j,q,_⟩:=w.aE k _ p e z;exact .lst q
  ·rename_i ds e;cases h;obtain⟨g,j,q,_⟩:=w.aE k _ p e z;exact .dK q
  ·cases h
 |_=>simp[pF]at h
noncomputable def xX(t n:cj):av bh:=if(["int", "bool", "str", "NoneType", "tuple", "list"].elem t&&["int", "bool", "tuple", "list", "str"].elem n)=ax then ak (t==n||(t == "bool" && n == "int"))else aq
theorem awB(K:bj){t n:cj}{b:bh}(h:xX t n=ak b):eu K (.type t) (.type n)=ak b:=by
 unfold xX at h;split at h
 ·rename_i e;cases h;simp only[List.elem_eq_mem,lF,EB,dY,BA,GY]at e;obtain⟨rfl|rfl|rfl|rfl|rfl|rfl,rfl|rfl|rfl|rfl|rfl⟩:=e <;> first|kernel_rfl|(unfold eu;rw[a7 (beq_self_eq_true _)];rfl)
 ·cases h
@[simp] def DQ(as:ao A):Mo A:=λZ=>match as with
 | [a,.ty n]=>(match (pF Z a).bind λt=>xX t n with
  |some b=>ak (.ok (.bl b),Z)
  | none=>aq)
 |_=>aq
theorem OU:rN X W (.builtin "isinstance") DQ:=by
 refine⟨_,aFR,?_⟩;intro G q L H J U c Q w d h;unfold DQ at h;split at h
 ·rename_i a n;split at h
  ·rename_i b e;rw[JG]at e;obtain⟨t,e1,z⟩:=e;obtain⟨x,y,rfl,B,j⟩:=OL d;simp only[Den]at j;subst j;exact⟨x,n,_,b,rfl,ahB w B e1,awB _ z,h _ H G q (Ext.refl _ _) w (by simp only[Den])⟩
  ·exact False.elim h
 ·exact False.elim h
def Nv(K:bj)(W:WX)(r:V->ao V->Hp->VK->Prop)(g:A->ao A->Mo A):Prop :=
 ∀G O Z H J x xs a as Q,Wd K G O Z H->Den K G O x a->aY K G O xs as->bS K (Den K) W G O J Q (g a as Z)->r x xs H Q
def HP(Z:aG)(a:A):Prop:=∃ds,eU Z a=ak ds
open Classical in
@[simp] noncomputable def zM(g:A->ao A->Mo A)(fo:Ev->Mo A)(f:Ev->Mo (ao A)):Ev->Mo A:=λY=>mb (fo Y) λo Z=>if HP Z o then mb (f Y) (λas=>g o as) Z else aq
theorem ag9{K:bj}{G H:Hp}{O:ao ay}{Z:aG}{v:V}{a:A}(w:Wd K G O Z H)(d:Den K G O v a)(h:HP Z a):Al K "list" v H:=by
 obtain⟨ds,e⟩:=h;obtain⟨p,j,rfl,q,_⟩:=tD w d e;exact .inl ⟨rfl,j,q⟩
theorem ZZ{name:a9}{ag:dg}{id:cj}{r:V->ao V->Hp->VK->Prop}{g:A->ao A->Mo A}(pa:PlainAttrs "list")(slot:Slot "list" name id)(M:typeOf (.builtin id)=pure (.type "method_descriptor"))(hm:MtR X id r)(hv:Nv X.K W r g)(s:VE X W a fa)(ha:VA X W (e::es) fs)
  (f:df a name X.env (cb a X.env)=cb a X.env:=by rfl)
  (D:((cv pos (bf (e::es) X.env)).all (λx=>!x.1)&&(backToKw pos (dn [] X.env)).all (λx=>x.1.isSome)
   && decide ((e::es).length+([]:ao Keyword).length+(if([]:ao Keyword).isEmpty then 0 else 1)<30))=ax:=by rfl)
  (R:(ag.endLine==pos.line)=ax:=by rfl) (p:bf (e::es) X.env=(au,cb e X.env)::bf es X.env:=by rfl) (E:(cv pos (bf es X.env)).any (·.1)=au:=by rfl) :
  VE X W (.Call (.Attribute a name ag) (e::es) [] pos) (zM g fa fs):=by
 obtain⟨t,o,n⟩:=s;obtain⟨u,p2,s2⟩:=ha;refine⟨_,ap7 pa slot M hm o p2 f D R p E,λG c d H J L Q w r h=>?_⟩;refine n G c d H J L _ w r (bS.mb h λx B v I P q k U b h1=>?_);split at h1
 ·rename_i hl;refine⟨ag9 U b hl,s2 P q B I J L _ U (r.ext k) (bS.mb h1 λC z m F N j i l y h2=>?_)⟩;exact hv N j z F J v m x C Q l (b.ext i) y h2
 ·exact False.elim h1
noncomputable def wL(Z:aG):A->av (a4×ao A)
 |.aE k=>match Z[k]? with
  |some (.lst ds)=>ak (k,ds)
  |_=>aq
 |_=>aq
theorem acG{K:bj}{G H:Hp}{O:ao ay}{Z:aG}{v:V}{a:A}{k:a4}{ds:ao A}(w:Wd K G O Z H)(d:Den K G O v a)(h:wL Z a=ak (k,ds)):∃p xs,v=.ref p/\O[k]?=ak p/\G p=aq/\H p=ak (.lst xs)/\aY K G O xs ds:=by
 cases a with
 |aE j =>
  simp only[wL]at h;split at h
  ·rename_i es e;cases h;simp only[Den]at d;obtain⟨p,rfl,q⟩:=d;obtain⟨g,xs,B,z⟩:=w.aE k _ p e q;exact⟨p,xs,rfl,q,g,B,z⟩
  ·cases h
 |_=>simp[wL]at h
@[simp] def IJ(o:A)(as:ao A):Mo A:=λZ=>match wL Z o,as with
 |some (k,ds),[y]=>if ds.length<bc then ak (.ok .bQ,Z.set k (.lst (ds++[y])))else aq
 |_,_=>aq
theorem Yg:Nv X.K W Wc IJ:=by
 intro G q f H J x i a l Q w d b h;unfold IJ at h;split at h
 ·rename_i k ds y e;split at h
  ·rename_i hl;obtain⟨p,z,rfl,B,g,L,j⟩:=acG w d e;obtain⟨u,rfl,U⟩:=uU b;refine⟨p,z,u,rfl,rfl,L,by rw[j.length];exact hl,?_⟩;exact h _ _ G q (Ext.refl _ _) (w.put (c:=.lst (ds++[y])) B g ⟨g,_,gV,j.append (.cons U .nil)⟩) (by simp only[Den])
  ·exact False.elim h
 ·exact False.elim h
end
mutual
def Cl(n:a4):A->Prop
 |.aE k=>k<n
 |.tup ds=>gU n ds
 |.lst ds=>gU n ds
 |_=>True
def gU(n:a4):ao A->Prop
 |[]=>True
 |d::ds=>Cl n d/\gU n ds
end
section
variable{K:bj}{G:Hp}{O:ao ay}
mutual
theorem Den.cl:∀{v:V} {d:A},Den K G O v d->Cl O.length d
 |_,.int _,_=>by simp only[Cl]
 |_,.bl _,_=>by simp only[Cl]
 |_,.str _,_=>by simp only[Cl]
 |_,.bQ,_=>by simp only[Cl]
 |_,.ty _,_=>by simp only[Cl]
 |_,.adr _,_=>by simp only[Cl]
 |_,.WH _ _ _ _,_=>by simp only[Cl]
 |_,.gl _,_=>by simp only[Cl]
 |_,.eQ _,_=>by simp only[Cl]
 |_,.tup ds,h=>by
  simp only[Den]at h;simp only[Cl];obtain⟨a,xs,_,_,j⟩:=h;exact aY.cl j
 |_,.lst ds,h=>by
  simp only[Den]at h;simp only[Cl];obtain⟨a,xs,_,_,j⟩:=h;exact aY.cl j
 |_,.aE k,h=>by
  simp only[Den]at h;simp only[Cl];obtain⟨a,_,h2⟩:=h;exact(cR.mp h2).1
theorem aY.cl:∀{xs:ao V} {ds:ao A},aY K G O xs ds->gU O.length ds
 |_,[],_=>by simp only[gU]
 |_,d::ds,h=>by
  simp only[aY]at h;simp only[gU];obtain⟨x,r,_,h2,j⟩:=h;exact⟨Den.cl h2,aY.cl j⟩
end
mutual
theorem Den.cut{O':ao ay}{n:a4}(e:∀k,k<n->O[k]?=O'[k]?):∀{v:V} {d:A},Den K G O' v d->Cl n d->Den K G O v d
 |_,.int _,h,_=>by simpa only[Den]using h
 |_,.bl _,h,_=>by simpa only[Den]using h
 |_,.str _,h,_=>by simpa only[Den]using h
 |_,.bQ,h,_=>by simpa only[Den]using h
 |_,.ty _,h,_=>by simpa only[Den]using h
 |_,.adr _,h,_=>by simpa only[Den]using h
 |_,.WH _ _ _ _,h,_=>by simpa only[Den]using h
 |_,.gl _,h,_=>by simpa only[Den]using h
 |_,.eQ _,h,_=>by simpa only[Den]using h
 |_,.tup ds,h,c=>by
  simp only[Den]at h ⊢;simp only[Cl]at c;obtain⟨a,xs,h1,h2,j⟩:=h;exact⟨a,xs,h1,h2,aY.cut e j c⟩
 |_,.lst ds,h,c=>by
  simp only[Den]at h ⊢;simp only[Cl]at c;obtain⟨a,xs,h1,h2,j⟩:=h;exact⟨a,xs,h1,h2,aY.cut e j c⟩
 |_,.aE k,h,c=>by
  simp only[Den]at h ⊢;simp only[Cl]at c;obtain⟨a,h1,h2⟩:=h;exact⟨a,h1,(e k c).trans h2⟩
theorem aY.cut{O':ao ay}{n:a4}(e:∀k,k<n->O[k]?=O'[k]?):∀{xs:ao V} {ds:ao A},aY K G O' xs ds->gU n ds->aY K G O xs ds
 |_,[],h,_=>by simpa only[aY]using h
 |_,d::ds,h,c=>by
  simp only[aY]at h ⊢;simp only[gU]at c;obtain⟨x,r,h1,h2,j⟩:=h;exact⟨x,r,h1,Den.cut e h2 c.1,aY.cut e j c.2⟩
end
def oW(n:a4):Fd->Prop
 |.val a=>Cl n a
 |.lst ds=>gU n ds
 |.dA kvs=>gU n (kvs.map (·.2))
def nY(n:a4):ao (a9×Fd)->Prop
 |[]=>True
 |p::r=>oW n p.2/\nY n r
def BI(n:a4):Cell->Prop
 |.lst ds=>gU n ds
 |.dA kvs=>gU n (kvs.map (·.2))
 |.ins _ fs=>nY n fs
 |_=>True
theorem kC.cl{H:Hp}{v:V}{fd:Fd}(h:kC K G O H v fd):oW O.length fd:=by
 cases fd with
 |val a=>exact Den.cl h
 |lst ds=>obtain⟨_,_,_,_,_,_,q⟩:=h;exact q.cl
 |dA j=>obtain⟨_,_,_,_,_,_,_,q⟩:=h;exact q.cl
theorem jS.cl{H:Hp}:∀{ws:ao (a9×V)} {fs:ao (a9×Fd)},jS K G O H ws fs->nY O.length fs
 |[],[],_=>trivial
 |(_,_)::_,(_,_)::_,h=>⟨h.2.1.cl,h.2.2.cl⟩
 |[],_::_,h=>h.elim
 |_::_,[],h=>h.elim
theorem sP.cl{H:Hp}{a:ay}{c:Cell}(h:sP K G O H a c):BI O.length c:=by
 cases c with
 |lst ds=>obtain⟨_,_,_,q⟩:=h;exact q.cl
 |dA j=>obtain⟨_,_,_,_,q⟩:=h;exact q.cl
 |ins cls fs=>obtain⟨_,_,_,_,_,_,q⟩:=h;exact q.cl
 |tab x pos af=>trivial
 |dead=>trivial
theorem kC.cut{H:Hp}{O':ao ay}{n:a4}{v:V}{fd:Fd}(h:kC K G O' H v fd)(e:∀k,k<n->O[k]?=O'[k]?)(hi:∀b,b∉O'->b∉O)(c:oW n fd):kC K G O H v fd:=by
 cases fd with
 |val a=>exact Den.cut e h c
 |lst ds=>obtain⟨b,xs,h1,h2,z,q,j⟩:=h;exact⟨b,xs,h1,h2,hi b z,q,j.cut e c⟩
 |dA B=>obtain⟨b,ws,h1,h2,z,q,j,L⟩:=h;exact⟨b,ws,h1,h2,hi b z,q,j,L.cut e c⟩
theorem jS.cut{H:Hp}{O':ao ay}{n:a4}(e:∀k,k<n->O[k]?=O'[k]?)(hi:∀b,b∉O'->b∉O):∀{ws:ao (a9×V)} {fs:ao (a9×Fd)},jS K G O' H ws fs->nY n fs->jS K G O H ws fs
 |[],[],_,_=>trivial
 |(_,_)::_,(_,_)::_,h,c=>⟨h.1,h.2.1.cut e hi c.1,jS.cut e hi h.2.2 c.2⟩
 |[],_::_,h,_=>h.elim
 |_::_,[],h,_=>h.elim
theorem sP.cut{H:Hp}{O':ao ay}{n:a4}{a:ay}{c:Cell}(h:sP K G O' H a c)(e:∀k,k<n->O[k]?=O'[k]?)(hi:∀b,b∉O'->b∉O)(j:BI n c):sP K G O H a c:=by
 cases c with
 |lst ds=>obtain⟨g,xs,h1,h2⟩:=h;exact⟨g,xs,h1,h2.cut e j⟩
 |dA q=>obtain⟨g,ws,h1,h2,z⟩:=h;exact⟨g,ws,h1,h2,z.cut e j⟩
 |ins cls fs=>obtain⟨g,C,B,ws,h0,h1,h2⟩:=h;exact⟨g,C,B,ws,h0,h1,h2.cut e hi j⟩
 |tab x pos af=>exact h
 |dead=>trivial
theorem Ext.cut{G':Hp}{O':ao ay}(e:Ext G O G' O'):∀k,k<O.length->O[k]?=O'[k]?:=λk j=>by
 rw[gM j,e.pre k _ (gM j)]
theorem Wd.cut{G' H H':Hp}{O':ao ay}{Z Z':aG}(w:Wd K G O Z H)(U:Wd K G' O' Z' H')(e:Ext G O G' O')(o:Z'.take Z.length=Z):Wd K G' O Z H' where
 sub:=U.sub
 inj:=w.inj
 len:=w.len
 live:=λa ha=>by
  obtain⟨k,j,m⟩:=yX ha;exact U.live a (jP (e.pre k a (by rw[<-m];exact gM j)))
 aE:=λk c a h1 h2=>by
  have j:k<Z.length:=(cR.mp h1).1;have p:Z'[k]?=ak c:=by
   rw[<-o,JO]at h1;rw[a7 j]at h1;exact h1
  have q:=U.aE k c a p (e.pre k a h2);have d:=w.aE k c a h1 h2;cases c with
  |lst ds =>
   obtain⟨g,xs,L,B⟩:=q;obtain⟨_,_,_,l⟩:=d;exact⟨g,xs,L,B.cut e.cut l.cl⟩
  |dA r =>
   obtain⟨g,ws,L,B,l⟩:=q;obtain⟨_,_,_,_,f⟩:=d;exact⟨g,ws,L,B,l.cut e.cut f.cl⟩
  |ins cls fs =>
   obtain⟨g,C,u,ws,h0,L,B⟩:=q;obtain⟨_,_,_,_,_,_,f⟩:=d;exact⟨g,C,u,ws,h0,L,B.cut (n:=O.length) e.cut (λb hb z=>hb (by
    obtain⟨k,j,m⟩:=yX z;exact jP (e.pre k b (by rw[<-m];exact gM j)))) f.cl⟩
  |tab x pos af=>exact q
  |dead=>trivial
 sep:=λb k i s t h1 h2=>by
  have back:∀{k i},jO H' O Z k i b->jO H' O' Z' k i b:=λ{k i} h=>h.to (λa ha=>⟨e.pre k a ha,λ_ z=>z⟩) λcls fs q=>by
   have j:k<Z.length:=(cR.mp q).1;rw[<-o,JO,a7 j]at q;exact q
  exact U.sep b k i s t (back h1) (back h2)
end
open Classical in
noncomputable def trim(Z:aG):av (Rs A×aG)->av (Rs A×aG)
 |some (.ok a,Z')=>if Z'.take Z.length=Z/\Cl Z.length a then ak (.ok a,Z)else ak (.ok a,Z')
 |some (.exc x,Z')=>if Z'.take Z.length=Z/\gU Z.length (x.fs.map (·.2))then ak (.exc x,Z)else ak (.exc x,Z')
 |none=>aq
theorem ahN{K:bj}{W:WX}{G H:Hp}{O:ao ay}{Z:aG}{J:L2.St}{Q:VK}{r:av (Rs A×aG)}(w:Wd K G O Z H)(h:bS K (Den K) W G O J Q (trim Z r)):bS K (Den K) W G O J Q r:=by
 match r,h with
 |some (.ok a,B),h =>
  simp only[trim]at h;split at h
  ·rename_i j;exact λv U b z e L d=>h v U b O ⟨e.same,λ_ _ q=>q⟩ (w.cut L e j.1) (d.cut e.cut (by rw[w.len];exact j.2))
  ·exact h
 |some (.exc x,B),h =>
  simp only[trim]at h;split at h
  ·rename_i j;intro cls c U b z e L d;refine h cls c U b O ⟨e.same,λ_ _ q=>q⟩ (w.cut L e j.1) d
  ·exact h
@[simp] def bU:OS->av (Rs A×aG)
 |some (.nx,_,Z)=>ak (.ok .bQ,Z)
 |some (.ret a,_,Z)=>ak (.ok a,Z)
 |some (.exc x,_,Z)=>ak (.exc x,Z)
 |_=>aq
@[simp] noncomputable def OF(n:a4)(ds:ao A):Ev:=ds.map ak++List.replicate (n-ds.length) aq
@[simp] noncomputable def cM(n:a4)(b:MS):ao A->Mo A:=λds Z=>trim Z (bU (b (OF n ds) Z))
def vM(K:bj)(n:a4)(F:ao A->Mo A):Sp:=λvs H Q E=>vs.length=n/\∃G O Z ds,Wd K G O Z H/\aY K G O vs ds/\bS K (Den K) (λ_=>E) G O [] Q (F ds Z)
abbrev cO(P:bg)(w:br)(K:bj)(mg:a9->av ar)(base:bz)(x:a9)(k:a4)(ps:ao a9)(F:ao A->Mo A):Prop:=ae2 P w K mg base x k ps (vM K ps.length F)
theorem aCB{K:bj}{G:Hp}{O:ao ay}{N:ao a9}{vs:ao V}{ds:ao A}(d:aY K G O vs ds):gY K G O (L2.start N vs) (OF N.length ds):=by
 unfold L2.start OF;have hl:=d.length;refine⟨by simp[hl],λi a h=>?_⟩
 by_cases hi:i<ds.length
 ·rw[jA (by simpa using hi)]at h;rw[jH]at h;cases e:ds[i]? with
  |none=>rw[e]at h;cases h
  |some z =>
   rw[e]at h;cases h;obtain⟨v,q,j⟩:=d.get e;refine⟨v,?_,j⟩;rw[jA (by simp;omega),jH,q];rfl
 ·rw[qS (by simpa using hi)]at h;have:=jP h;simp at this
theorem WU{K:bj}{N:ao a9}{t:TS}{b:MS}{H:Hp}{vs:ao V}{Q:VK}{E:XK}{n:a4}(s:rH K (λ_=>E) t b)(h:vM K n (cM N.length b) vs H Q E):t {nx:=λ_ H'=>Q .bQ H',rt:=Q} (L2.start N vs) H:=by
 obtain⟨hl,G,k,g,ds,w,d,q⟩:=h;refine s G k g H _ (OF N.length ds) _ w (aCB d) ?_;have j:=ahN w q
 revert j
 generalize b (OF N.length ds) g=r;intro j
 match r,j with
 |some (.nx,B,L),j=>exact λU H' f z e c i=>j .bQ H' f z e c (by simp only[Den])
 |some (.ret a,B,L),j=>exact λU H' f z e c i v d'=>j v H' f z e c d'
 |some (.exc x,B,L),j=>exact λU H' f z e c i cls l d'=>j cls l H' f z e c d'
 |some (.bk,B,L),j=>exact False.elim j
 |some (.ct,B,L),j=>exact False.elim j
section
variable{P:bg}{w:br}{K:bj}{mg:a9->av ar}{base:bz}
theorem abL{x:a9}{st:bw}{N ps:ao a9}{k:a4}{b:MS}{f:ay}{fd:cy}(F:tQ K x x st f fd)(S:cE N ps (bB st))
  (U:∀(f:ay) (j:ar) (A:bu) (outer:ao Env) (s:aw) (H:Hp) (E:XK),dP k (A.deeper (c7 x (bB st) s.heap.objs.size f j)) ->
   iX (rF P w K mg base N x (bB st) f j A outer s H E) (λ_=>E) (fV st) b):jR P w K mg base (qA P w) (k+1) f fd ps (vM K ps.length (cM N.length b)):=by
 obtain⟨e,d,kV,doc,c,i,j,ct,g,rfl,B,L⟩:=F.ex;refine Jp B L S (λz H Q E h=>h.1) λA outer s H z Q E hr a=>?_;obtain⟨t,p,q⟩:=U f j A outer s H E hr;exact⟨t,Fy p,WU q a⟩
theorem cO.of{x:a9}{st:bw}{N ps:ao a9}{k:a4}{b:MS}(h:HasFn K mg x st)(S:cE N ps (bB st))
  (bind:∀(kV doc pm:ar) (an:av ay) (j ct:ar) (us:ao ar),us.length=ps.length->ei (fnOf x x (lL st) (fV st) (bB st) .none kV doc pm an j ct) ⟨us,[]⟩=pure (ps.zip us))
  (q:∀(f:ay) (j:ar) (A:bu) (outer:ao Env) (s:aw) (H:Hp) (E:XK),dP k (A.deeper (c7 x (bB st) s.heap.objs.size f j)) ->
   iX (rF P w K mg base N x (bB st) f j A outer s H E) (λ_=>E) (fV st) b):cO P w K mg base x (k+1) ps (cM N.length b):=by
 obtain⟨f,fd,hm,F⟩:=h.ex;exact⟨f,fd,abL F S q,hm,F.kp,F.binds bind⟩
abbrev ZG(P:bg)(w:br)(K:bj)(mg:a9->av ar)(base:bz)(x:a9)(k:a4)(ps:ao a9)(F:ao A->Mo A):Prop:=Def P w K mg base x k ps (λvs H Q _=>vM K ps.length F vs H Q λ_ _ _=>ck)
theorem acI{k:a4}{f:ay}{fd:cy}{ps:ao a9}{sp:Sp}(F:jR P w K mg base (qA P w) k f fd ps sp):jR P w K mg base zH k f fd ps (λvs H Q _=>sp vs H Q λ_ _ _=>ck) :=
 ⟨λvs H Q E h=>F.len _ _ _ _ h,λA outer s H args z vs Q E hr e0 hb r B=>yN (F.run A outer s H args z vs Q _ hr e0 hb r B) λr s' j=>by
  cases r with
  |error L=>obtain⟨x,cls,U,a,_,_,_,_,_,_,q⟩:=j;exact q.elim
  | ok fl=>cases fl <;> exact j⟩
def SR(K:bj):Sp:=λvs H Q _=>∃(a:ay) (ns:ao az),vs=[.ref a]/\fH K H a (ns.map V.int)/\ns.length<=63/\∀H',Q (.bl ax) H'
theorem at0{fa:ay}{fd:cy}{k:a4}{F:ao A->Mo A}(h1:jR P w K mg base (qA P w) k fa fd ["_law_script"] (vM K 1 F))(L:∀ns:ao az,ns.length<=63->∃Z,F [.eQ ns] []=ak (.ok (.bl ax),Z)) :
  jR P w K mg base zH k fa fd ["_law_script"] (SR K):=by
 refine(acI h1).imp λf H Q E B=>?_;obtain⟨a,ns,rfl,z,hl,q⟩:=B;obtain⟨Z,e⟩:=L ns hl;refine⟨rfl,H,[],[],[.eQ ns],⟨nT.refl _,List.nodup_nil,rfl,λa ha=>by simp at ha,λk c a h=>by simp at h,λb k i g l h=>by obtain⟨_,_,_,_,_,_,_,_,_,q,_⟩:=h;simp at q⟩,.cons (by simp only[Den];exact⟨a,rfl,z⟩) .nil,?_⟩;rw[e];intro v U m j _ _ d;simp only[Den]at d;subst d;exact q U
end
section
variable{X:Cx}{W:WX}{x:a9}{p pos:dg}{e:bx}{es:ao bx}{fs:Ev->Mo (ao A)}
@[simp] def bR(n:a4)(F:ao A->Mo A):ao A->Mo A:=λas=>if as.length=n then F as else stuck
theorem Km{K:bj}{G d:Hp}{O q:ao ay}{J:L2.St}{Q:VK}{r:av (Rs A×aG)}{W:WX}(h:bS K (Den K) W G O J Q r)(c:Ext G O d q):bS K (Den K) (λ_=>λcls dx H'=>W J cls dx H') d q [] Q r:=by
 match r,h with
 |some (.ok a,z),h=>exact λv H' b j B L U=>h v H' b j (c.trans B) L U
 |some (.exc a,z),h=>exact λcls dx H' b j B L U=>h cls dx H' b j (c.trans B) L U
theorem dS{k:a4}{ps:ao a9}{F:ao A->Mo A}(T:nS X W)(D:cO X.prog X.w X.K X.mg X.base x k ps F)(hr:dP k X.A)(d:Gl X x)(ha:VA X W (e::es) fs)
  (f:(x==("__debug__" : a9))=au:=by decide) (he:bf (e::es) X.env=(au,cb e X.env)::bf es X.env:=by rfl) (g:(cv pos (bf es X.env)).any (·.1)=au:=by rfl):VE X W (.Call (.Name x p) (e::es) [] pos) (aU (bR ps.length F) fs):=by
 obtain⟨t,c,b⟩:=ha;refine⟨_,ap4 T D hr d c f he g,λG L U H J B Q w r h=>?_⟩;refine b G L U H J B _ w r (bS.mb h λi q n o l j m a z h1=>?_);unfold bR at h1;split at h1
 ·rename_i hl;exact⟨by rw[z.length];exact hl,l,j,q,i,a,z,Km h1 (Ext.refl _ _)⟩
 ·exact False.elim h1
@[simp] noncomputable def MB(F:ao A->Mo A):ao A->Mo A:=λas Z=>match F as Z with
 |some (.exc _,_)=>aq
 |r=>r
abbrev cI(i:az):Ev->Mo A:=λ_=>ret (.int i)
abbrev cB(i:bh):Ev->Mo A:=λ_=>ret (.bl i)
abbrev cS(i:a9):Ev->Mo A:=λ_=>ret (.str i)
abbrev cN:Ev->Mo A:=λ_=>ret .bQ
abbrev cT(n:cj):Ev->Mo A:=λ_=>ret (.ty n)
abbrev a0:Ev->Mo (ao A):=λ_=>ret []
abbrev sl0:Ev->Mo (av az):=λ_=>ret aq
end
end V2
namespace V2
open PySem L2
section
variable{α β:Type}{Z Z':aG}{a:A}
@[simp] theorem aKQ(x:α)(k:α->Mo β):mb (ret x) k=k x:=rfl
theorem cV{m:Mo α}{k:α->Mo β}{x:α}(h:m Z=ak (.ok x,Z')):mb m k Z=k x Z':=by unfold mb;rw[h]
@[simp] theorem aKR(x:α)(k:α->Mo β):mb (need (ak x)) k=k x:=rfl
theorem UH{p:Prop} [c8 p](k:Unit->Mo β)(h:p):mb (pV p) k=k ():=by funext j;simp[mb,pV,h]
@[simp] theorem aKF(x:α):(ret x:Mo α) Z=ak (.ok x,Z):=rfl
@[simp] theorem aJ6:trim Z (ak (.ok a,Z))=ak (.ok a,Z):=by simp only[trim];split <;> rfl
theorem LC{j:aG}(h:Cl Z.length a):trim Z (ak (.ok a,Z++j))=ak (.ok a,Z):=by
 simp only[trim];rw[a7 ⟨by simp,h⟩]
@[simp] theorem aKD(x:α)(Y:Ev)(k:α->aG->OS):sM (ret x) Y k=k x:=rfl
theorem eR{m:Mo α}{Y:Ev}{k:α->aG->OS}{x:α}(h:m Z=ak (.ok x,Z')):sM m Y k Z=k x Z':=by unfold sM;rw[h]
@[simp] theorem aKG(Y:Ev):bU (ak (.ret a,Y,Z))=ak (.ok a,Z):=rfl
@[simp] theorem aKH(Y:Ev):bU (ak (.nx,Y,Z))=ak (.ok .bQ,Z):=rfl
theorem bH{f g:MS}{Y Y1:Ev}(h:f Y Z=ak (.nx,Y1,Z')):aV f g Y Z=g Y1 Z':=by unfold aV;rw[h]
theorem SW{f g:MS}{Y Y1:Ev}(h:f Y Z=ak (.ret a,Y1,Z')):aV f g Y Z=ak (.ret a,Y1,Z'):=by unfold aV;rw[h]
theorem uY{α:Type}(xs:ao α)(n:a4):iE xs (n:az)=xs[n]?:=by
 unfold iE oJ;rw[a7 (by omega)]
 by_cases h:(n:az)<xs.length
 ·rw[a7 h];simp
 ·rw[ba h];simp;omega
theorem XN{α:Type}(xs:ao α)(n:a4):iE xs (OfNat.ofNat n:az)=xs[n]?:=uY xs n
theorem aHE{α:Type}(xs:ao α):iE xs 0=xs[0]?:=uY xs 0
theorem aHF{α:Type}(xs:ao α):iE xs 1=xs[1]?:=uY xs 1
end
@[simp] theorem aJY:xX "int" "int" = ak ax:=by simp[xX]
@[simp] theorem aJZ:xX "int" "bool" = ak au:=by simp[xX]
@[simp] theorem aJX:xX "tuple" "tuple" = ak ax:=by simp[xX]
@[simp] theorem aKW(Z:aG)(ds:ao A):eU Z (.lst ds)=ak ds:=rfl
@[simp] theorem aKV(Z:aG)(ns:ao az):eU Z (.eQ ns)=ak (ns.map A.int):=rfl
@[simp] theorem aKU(Z:aG)(ds:ao A):eU Z (.tup ds)=aq:=rfl
@[simp] theorem aKX(Z:aG)(i:az):eU Z (.int i)=aq:=rfl
@[simp] theorem aKB(Z:aG)(ds:ao A):jD Z (.lst ds)=ak ds:=rfl
@[simp] theorem aKA(Z:aG)(ns:ao az):jD Z (.eQ ns)=ak (ns.map A.int):=rfl
@[simp] theorem aJ9(Z:aG)(ds:ao A):jD Z (.tup ds)=ak ds:=rfl
@[simp] theorem aKC(Z:aG)(k:a4):jD Z (.aE k)=eU Z (.aE k):=rfl
@[simp] theorem aJ4(Z:aG)(i:az):pF Z (.int i)=ak "int":=rfl
@[simp] theorem aJ5(Z:aG)(i:bh):pF Z (.bl i)=ak "bool":=rfl
@[simp] theorem aJ1(Z:aG)(i:a9):pF Z (.str i)=ak "str":=rfl
@[simp] theorem aJ2(Z:aG):pF Z .bQ=ak "NoneType":=rfl
@[simp] theorem aJ0(Z:aG)(ds:ao A):pF Z (.tup ds)=ak "tuple":=rfl
@[simp] theorem aJ3(Z:aG)(ds:ao A):pF Z (.lst ds)=ak "list":=rfl
@[simp] theorem aK2:HN .bQ=ak ax:=rfl
@[simp] theorem aK4(i:az):HN (.int i)=ak au:=rfl
@[simp] theorem aK1(ds:ao A):HN (.tup ds)=ak au:=rfl
@[simp] theorem aK3(ds:ao A):HN (.lst ds)=ak au:=rfl
@[simp] theorem aK5(b:bh):HN (.bl b)=ak au:=rfl
theorem tE{Z:aG}{k:a4}{ds:ao A}(h:Z[k]?=ak (.lst ds)):eU Z (.aE k)=ak ds:=by simp[eU,h]
theorem Kl{Z:aG}{k:a4}{ds:ao A}(h:Z[k]?=ak (.lst ds)):wL Z (.aE k)=ak (k,ds):=by simp[wL,h]
theorem Gs{Z:aG}{a:A}{ds:ao A}(h:eU Z a=ak ds):HP Z a:=⟨ds,h⟩
section
variable{ok:aG->Prop}{g:A->MS}{b:MS}{x:A}{xs:ao A}{Y Y0 Y1:Ev}{Z Z0 Z1:aG}{a:A}
theorem DW(h:ok Z):fO ok g b [] Y Z=ak (.nx,Y,Z):=by simp[fO,h]
theorem DV(h:ok Z)(j:g x Y Z=ak (.nx,Y0,Z0))(hb:b Y0 Z0=ak (.nx,Y1,Z1)):fO ok g b (x::xs) Y Z=fO ok g b xs Y1 Z1:=by simp[fO,h,j,hb]
theorem aB6(h:ok Z)(j:g x Y Z=ak (.nx,Y0,Z0))(hb:b Y0 Z0=ak (.ct,Y1,Z1)):fO ok g b (x::xs) Y Z=fO ok g b xs Y1 Z1:=by simp[fO,h,j,hb]
theorem aB4(h:ok Z)(j:g x Y Z=ak (.nx,Y0,Z0))(hb:b Y0 Z0=ak (.ret a,Y1,Z1)):fO ok g b (x::xs) Y Z=ak (.ret a,Y1,Z1):=by simp[fO,h,j,hb]
theorem abM(I:a4->Ev->aG->Prop)(aL:∀i Y Z,I i Y Z->ok Z):∀(xs:ao A) (j:a4) (Y:Ev) (Z:aG),I j Y Z ->
  (∀i x Y Z,xs[i]?=ak x->I (j+i) Y Z->∃Y0 Z0 Y1 Z1,g x Y Z=ak (.nx,Y0,Z0)/\(b Y0 Z0=ak (.nx,Y1,Z1)\/b Y0 Z0=ak (.ct,Y1,Z1))/\I (j+i+1) Y1 Z1) ->
  ∃q Z',fO ok g b xs Y Z=ak (.nx,q,Z')/\I (j+xs.length) q Z'
 |[],j,Y,Z,z,_=>⟨Y,Z,DW (aL _ _ _ z),z⟩
 |x::xs,j,Y,Z,z,turn=>by
  obtain⟨Y0,Z0,Y1,Z1,e1,B,d⟩:=turn 0 x Y Z rfl z;obtain⟨q,Z',L,U⟩:=abM I aL xs (j+1) Y1 Z1 d λi y Y Z a c=>by
   have:=turn (i+1) y Y Z (by simpa using a) (by rw[show j+(i+1)=j+1+i by omega];exact c);rwa[show j+(i+1)+1=j+1+i+1 by omega]at this
  refine⟨q,Z',?_,by rw[eB,show j+(xs.length+1)=j+1+xs.length by omega];exact U⟩
  rcases B with B|B
  ·rw[DV (aL _ _ _ z) e1 B,L]
  ·rw[aB6 (aL _ _ _ z) e1 B,L]
end
section
variable{c:Ev->Mo bh}{b:MS}{n:a4}{Y Y1:Ev}{Z Z1 Z2:aG}{a:A}
theorem OE(j:c Y Z=ak (.ok ax,Z1))(hb:b Y Z1=ak (.nx,Y1,Z2)):lK c b (n+1) Y Z=lK c b n Y1 Z2:=by simp[lK,j,hb]
theorem WG(j:c Y Z=ak (.ok au,Z1)):lK c b (n+1) Y Z=ak (.nx,Y,Z1):=by simp[lK,j]
end
open PySem PySem.Spec PyProof.Rows L2
def YN(K:bj)(a:ay):It :=
 ⟨λi H=>∃xs x,fH K H a xs/\xs[i]?=ak x,λi H x H'=>∃p y,H p=aq/\H'=upd H p (.tup [.int (i:az),y])/\x=.ref p/\∀xs,fH K H a xs->xs[i]?=ak y,λi H=>∃xs,fH K H a xs/\xs.length<=i⟩
section
variable{X:Cx}{aa:ao (ay×cp)}{J:L2.St}{H:Hp}{s:aw}{h':bz}
theorem Inv.ahC{t':a4}{e it:ay}(I:Inv X aa J H s)(k:∀b o,b≠e->b≠it->s.heap.get? b=ak o->h'.get? b=ak o)(fe:rL X aa H e)(d:rL X aa H it):Inv X aa J H {s with heap:=h',toks:=t' }:=by
 obtain⟨a0,a1,a2,w,t,p⟩:=fe;obtain⟨l,B,y,i,h,g⟩:=d;have ne:∀b u,H b=ak u->b≠e:=λb u q z=>by rw[z,a0]at q;cases q
 have L:∀b u,H b=ak u->b≠it:=λb u q z=>by rw[z,l]at q;cases q
 refine I.step (g':=s.gens) (d':=s.drawn) (ch:=[e,it]) (λb hb=>?_) (λb o _ _ j q _=>k b o (λz=>j (by simp[z])) (λz=>j (by simp[z])) q) (λb o _ _ j q _=>⟨o.slots,k b o (λz=>j (by simp[z])) (λz=>j (by simp[z])) q⟩) (λ_ _ _ _ n=>n)
  (λb o j q=>⟨o,k b o (λz=>j (by simp[z])) (λz=>j (by simp[z])) q⟩) (λ_ _ q=>q) (λ_ _ _ q=>q) (λb x q=>⟨#[],by rw[q];simp⟩) (λm hm=>?_) (λb u q=>?_) I.bare
 ·rcases dY.mp hb with z|z
  ·subst z;exact⟨w,a1,t,p⟩
  ·have z:b=it:=by simpa using z
   subst z;exact⟨i,B,h,g⟩
 ·obtain⟨o,es,f,a,r⟩:=hm;exact⟨o,es,f,k _ o (cQ a1) (cQ B) a,r⟩
 ·refine(I.aL b u q).qX (λc v j U=>k c v ?_ ?_ U) (λ_ q=>q) λ_ _ q=>q
  ·rcases j with z|z
   ·rw[z];exact ne b u q
   ·exact ne c _ z
  ·rcases j with z|z
   ·rw[z];exact L b u q
   ·exact L c _ z
end
theorem Inv.Tj{X:Cx}{aa:ao (ay×cp)}{J:L2.St}{H:Hp}{s:aw}{p:ay}{o:HO}(I:Inv X aa J H s)(j:H p=aq)(h0:X.s₀.heap.get? p=aq)(e:p≠X.env.locals)(f:∀x c,X.env.cells.lookup x=ak c->c≠p)(d:∀q∈X.pn++aa,q.1≠p)
  (aL:fQ X.prog X.w (upd H p o) s.heap):Inv X aa J (upd H p o) s where
 ok:=I.ok
 os:=I.os
 bare:=I.bare
 base:={
  keep:=I.base.keep
  slot:=I.base.slot
  free:=λb ob q n U=>by
   have hb:b≠p:=λz=>by subst z;rw[h0]at q;cases q
   rw[bX hb];exact I.base.free b ob q n U
  there:=I.base.there
  oF:=λb xs q=>by have z:=I.base.oF b xs q;rw[bX (mI z j)];exact z
  nQ:=λb ob u q=>by have z:=I.base.nQ b ob u q;rw[bX (mI z j)];exact z
  oG:=λb L q=>by obtain⟨more,z⟩:=I.base.oG b L q;exact⟨more,by rw[bX (mI z j)];exact z⟩}
 loc:=I.loc
 cell:=I.cell
 free:=by rw[bX (cQ e)];exact I.free
 mP:=λx c q=>by rw[bX (f x c q)];exact I.mP x c q
 pin:=λq B=>by
  obtain⟨a,b,c⟩:=I.pin q B;exact⟨a,by rw[bX (d q B)];exact b,c⟩
 aL:=aL
 len:=I.len
theorem ahG{P:bg}{w:br}{K:bj}{elts:ao bx}{S:a4}{tp:dg}(a e it:ay)(jM:e≠it):Turn P w K (.Tuple elts S tp) (YN K a) [e,it] e (λi h=>(∃old,IsEnum h e it (i:az) old)/\h.IsListIter it a i)where
 mem:=by simp
 obj:=λi h st b hb=>by
  obtain⟨⟨old,j⟩,o,q,c,d⟩:=st
  rcases dY.mp hb with z|z
  ·subst z;exact⟨_,j,λv z=>by cases z⟩
  ·have z:b=it:=by simpa using z
   subst z;exact⟨o,q,λv z=>by rw[d]at z;cases z⟩
 keep:=λi h h' st k=>⟨let ⟨old,q⟩:=st.1; ⟨old,k e (by simp) _ q⟩,st.2.at λo q=>k it (by simp) o q⟩
 item:=by
  intro X y n A G i aa s J H E I U st t;subst y n A;obtain⟨⟨old,j⟩,f⟩:=st;obtain⟨D,x,L,m⟩:=t;obtain⟨aT,l,p,hz⟩:=I.list L;obtain⟨u,hu,W⟩:=l.get m;have N:=U e (by simp);have M:=U it (by simp);have Q:e<s.heap.objs.size:=eI j;have r:it<s.heap.objs.size:=let ⟨_,q,_⟩:=f;eI q;refine wpAny_pyNext_enum_item j f p.isList (x:=u) (by simpa using hu) jM λh1 e1 i1 V z1 k1=>?_;refine⟨_,rfl,wpAny_letOwnedTupleGo_enum (s:={s with heap:=h1,toks:=s.toks+1}) e1 λh2 e2 s2=>?_⟩;have B:H s.heap.objs.size=aq:=I.aL.fresh dC;have k2:∀b o,b≠e->b≠it->s.heap.get? b=ak o->h2.get? b=ak o:=λb o F n2 q=>s2.extBut b o F (k1 b o F n2 q);have T:h2.get? s.heap.objs.size=ak {cls:=.type "tuple",data:=.seq #[.int (i:az) s.toks,u]}:=s2.extBut _ _ (PX Q) V;have R:Inv X aa J H {s with heap:=h2,toks:=s.toks+1}:=Inv.ahC (t':=s.toks+1) I k2 N M;have i2:h2.IsListIter it a (i+1):=i1.extBut s2.extBut (cQ jM);have aL:fQ X.prog X.w (upd H s.heap.objs.size (.tup [.int (i:az),x])) h2:=by
   refine λb o q=>?_
   by_cases g:b=s.heap.objs.size
   ·subst g;rw[gV]at q;cases q;exact⟨by show 2<=bc;decide,[.int (i:az) s.toks,u],.cons ⟨_,rfl⟩ (.cons W .nil),⟨_,T,rfl,_,rfl⟩⟩
   ·rw[bX g]at q;exact(R.aL b o q).qX (λc v _ z=>z) (λc z=>by rw[bX (mI z B)];exact z) λc D z=>by rw[bX (mI z B)];exact z
  have C:rL X aa H s.heap.objs.size:=I.yI dC B;have h0:X.s₀.heap.get? s.heap.objs.size=aq:=by
   cases q:X.s₀.heap.get? s.heap.objs.size with
   |none=>rfl
   |some ob=>exact b4 (lN (eI q) I.sz) (Nat.lt_irrefl _)
  have I2:Inv X aa J (upd H s.heap.objs.size (.tup [.int (i:az),x])) {s with heap:=h2,toks:=s.toks+1}:=Inv.Tj R B h0 C.2.1 C.2.2.2.2.1 C.2.2.2.2.2 aL;refine⟨.ref s.heap.objs.size,_,I2,rfl,⟨_,x,B,rfl,rfl,λys hy=>by rw[I.Yl hy L];exact m⟩,⟨⟨_,e2⟩,i2⟩,λb hb=>?_⟩
  rcases dY.mp hb with z|z
  ·subst z;rw[bX (fX Q)];exact N.1
  ·have z:b=it:=by simpa using z
   subst z;rw[bX (fX r)];exact M.1
 done:=by
  intro X y n A G i aa s J H E I U st t;subst y n A;obtain⟨⟨old,j⟩,f⟩:=st;obtain⟨D,L,m⟩:=t;obtain⟨aT,l,p,hz⟩:=I.list L;obtain⟨f0,f1,f2,f3,f4,f5⟩:=U it (by simp);have hl:=l.length;exact wpAny_pyNext_enum_end (I.ok.hd G) j f p.isList (by simp;omega) λh' g=>⟨rfl,I.turned (t':=s.toks) (λb o hb e=>g b o hb e) f0 f1 f3 f4 f5⟩
 self:=λ_ _ _ _ _ st h=>let ⟨_,q⟩:=st.1;wpAny_pyIter_enum q h
section
variable{X:Cx}{W:WX}{pos:dg}
theorem apA{elts:ao bx}{e:a4}{tp p:dg}{l:bx}{tl:TE}(o:Gl X "enumerate")(hm:X.mg "enumerate" = aq)(hl:PE X l tl)(c:bf [l] X.env=[(au,cb l X.env)]:=by rfl) :
  PI X (.Tuple elts e tp) (.Call (.Name "enumerate" p) [l] [] pos) (λJ H R=>tl J H λx H1=>∃a,x=.ref a/\(∃xs,fH X.K H1 a xs)/\R (YN X.K a) H1):=by
 intro aa s J H R I h;refine RP (MN I o hm boot_enumerate ?_);refine ad0 (bM (TR hl TQ c pos aa s J H (λL H1=>match L with
  |[x]=>∃a,x=V.ref a/\(∃xs,fH X.K H1 a xs)/\R (YN X.K a) H1
  | _=>ck) I h) λv j ⟨L,H1,B,g,U⟩=>?_) c rfl
 match L,U with
 |[x],U =>
 obtain⟨a,e1,⟨xs,m⟩,q⟩:=U;obtain⟨u,rfl,f⟩:=vals1 g;subst e1;cases f;obtain⟨A,w,i,y⟩:=B.list m;refine call_enumerate_list i.isList λh' d r k n=>?_;refine wpAny_pyIter_enum (s:={j with heap:=h' }) d ?_;have t:Inv X aa J H1 {j with heap:=h' }:=B.kept (t':=j.toks) n;refine⟨_,[j.heap.objs.size+1,j.heap.objs.size],_,_,H1,rfl,t,ahG a _ _ (Nat.succ_ne_self _),⟨⟨.none,d⟩,r⟩,λb hb=>?_,q⟩
 rcases dY.mp hb with z|z
 ·subst z;exact B.yI (AX _) (B.aL.fresh (AX _))
 ·have z:b=j.heap.objs.size:=by simpa using z
  subst z;exact B.yI dC (B.aL.fresh dC)
noncomputable def rU:a4->ao A->ao A
 |_,[]=>[]
 |n,x::xs => .tup [.int (n:az),x]::rU (n+1) xs
theorem Jw:∀(n:a4) (xs:ao A),(rU n xs).length=xs.length
 |_,[]=>rfl
 |n,x::xs=>by simp only[rU,eB,Jw (n+1) xs]
theorem abT:∀(n i:a4) (xs:ao A),(rU n xs)[i]?=xs[i]?.map λx => .tup [.int ((n+i:a4):az),x]
 |_,_,[]=>by simp[rU]
 |n,0,x::xs=>by simp[rU]
 |n,i+1,x::xs=>by
  simp only[rU,List.getElem?_cons_succ];rw[abT (n+1) i xs];have e:n+1+i=n+(i+1):=by omega
  rw[e]
def enumSrc(a:A)(ds:ao A):Src:=⟨rU 0 ds,λZ=>eU Z a=ak ds⟩
@[simp] def KW(f:Ev->Mo A):Ev->Mo Src:=λY=>mb (f Y) λa Z=>match eU Z a with
 |some ds=>ak (.ok (enumSrc a ds),Z)
 |none=>aq
theorem av2{K:bj}{G:Hp}{O:ao ay}{p:ay}{a:A}{ds:ao A}(d:Den K G O (.ref p) a):JS K G O (YN K p) (enumSrc a ds):=by
 have key:∀U j B b,Ext G O U j->Wd K U j B b->eU B a=ak ds->∃L,fH K b p L/\aY K U j L ds:=λU j B b e w h=>by
  obtain⟨q,L,h1,h2,c⟩:=tD w (d.ext e) h;cases h1;exact⟨L,h2,c⟩
 refine⟨λU j B b e w h i hi=>?_,λU j B b e w h i hi=>?_,λU j B b e w h i x s y l hd=>?_⟩
 ·obtain⟨L,h2,c⟩:=key U j B b e w h;have hl:i<L.length:=by rw[c.length,<-Jw 0 ds];exact hi
  exact⟨L,L[i],h2,gM hl⟩
 ·obtain⟨L,h2,c⟩:=key U j B b e w h;exact⟨L,h2,by rw[c.length,<-Jw 0 ds];exact hi⟩
 ·obtain⟨L,h2,c⟩:=key U j B b e w h;obtain⟨q,z,e1,o,n,m⟩:=hd;subst o n;have f:(rU 0 ds)[i]?=ak y:=l;rw[abT]at f;cases ed:ds[i]? with
  |none=>rw[ed]at f;cases f
  |some d' =>
   rw[ed]at f;cases f;obtain⟨r,g,k⟩:=c.get ed;rw[m L h2]at g;cases g;refine⟨upd U q (.tup [.int (i:az),z]),Ext.new (w.rC e1) _,w.new e1 _,?_⟩;simp only[Den];exact⟨q,_,rfl,gV,.cons (by simp only[Den,ET]) (.cons (k.ext (Ext.new (w.rC e1) _)) .nil)⟩
theorem Sm{elts:ao bx}{B:a4}{tp p:dg}{l:bx}{fe:Ev->Mo A}(i:Gl X "enumerate")(hm:X.mg "enumerate" = aq)(h:VE X W l fe)(g:bf [l] X.env=[(au,cb l X.env)]:=by rfl) :
  VI X W (.Tuple elts B tp) (.Call (.Name "enumerate" p) [l] [] pos) (KW fe):=by
 obtain⟨t,p,s⟩:=h;refine⟨_,apA i hm p g,λG c d H J b R w r h=>?_⟩;refine s G c d H J b _ w r (bS.mb h λa z v m n j B L U h1=>?_);cases e:eU z a with
 |none=>simp only[e]at h1;exact False.elim h1
 |some ds =>
  simp only[e]at h1;obtain⟨q,f,h2,k,o⟩:=tD L U e;subst h2;exact⟨q,rfl,⟨f,k⟩,h1 _ m n j (Ext.refl _ _) L (av2 U)⟩
theorem Si{st:bw}:VS X W st (λ_ _=>aq):=⟨_,aoK,λ_ _ _ _ _ _ _ _ _ h=>h.elim⟩
end
noncomputable def xW(n:a4)(js:ao a4)(Y:Ev):Ev:=List.replicate n aq++js.map (λj=>(Y[j]?).join)
def IZ(X:Cx)(W:WX)(ifs:ao bx)(f:Ev->Mo bh):Prop:=∃t,JD X ifs t/\gT X.K CI W t f
abbrev tU:Ev->Mo bh:=λ_=>ret ax
theorem BS{X:Cx}{W:WX}:IZ X W [] tU:=⟨_,ao1,λ_ _ _ _ _ _ _ w _ q=>kO w rfl q⟩
theorem RS{X:Cx}{W:WX}{c:bx}{f:Ev->Mo bh}(h:VT X W c f):IZ X W [c] f:=let ⟨t,p,s⟩:=h; ⟨t,ao0 p,s⟩
open Classical in
noncomputable def qO(ok:aG->Prop)(g:A->MS)(c:Ev->Mo bh)(e:Ev->Mo A)(n:a4):ao A->Ev->aG->av (Ev×aG)
 |[],Y,Z=>if ok Z then ak (Y,Z)else aq
 | x::xs,Y,Z=>if ok Z then(match g x Y Z with
  | some (.nx,Y1,Z1)=>(match c Y1 Z1 with
   | some (.ok ax,Z2)=>(match e Y1 Z2 with
    | some (.ok y,Z3)=>(match Z3[n]? with
     |some (.lst ys)=>if ys.length<bc then qO ok g c e n xs Y1 (Z3.set n (.lst (ys++[y])))else aq
     | _=>aq)
    | _=>aq)
   |some (.ok au,Z2)=>qO ok g c e n xs Y1 Z2
   | _=>aq)
  | _=>aq)else aq
open Classical in
noncomputable def Fz(cf:bh)(Z1:aG)(r:av (Ev×aG)):av (Rs A×aG):=match r with
 | some (_,Z')=>(match Z'[Z1.length]? with
  |some (.lst ys)=>if cf then ak (.ok (.aE Z1.length),Z')else if Z'.take Z1.length=Z1/\gU Z1.length ys then ak (.ok (.lst ys),Z1)else ak (.ok (.lst ys),Z'.set Z1.length .dead)
  | _=>aq)
 |none=>aq
noncomputable def nI(j:bh)(n:a4)(js:ao a4)(fi:Ev->Mo Src)(g:A->MS)(c:Ev->Mo bh)(e:Ev->Mo A):Ev->Mo A:=λY=>mb (fi Y) λS Z1=>Fz j Z1 (qO S.ok g c e Z1.length S.ds (xW n js Y) (Z1++[.lst []]))
theorem aB3{ok:aG->Prop}{g:A->MS}{c:Ev->Mo bh}{e:Ev->Mo A}{n:a4}{xs:ao A}{Y:Ev}{Z:aG}{r:Ev×aG}(h:qO ok g c e n xs Y Z=ak r):ok Z:=by
 cases xs with
 |nil=>unfold qO at h;by_cases j:ok Z;exact j;rw[ba j]at h;cases h
 |cons=>unfold qO at h;by_cases j:ok Z;exact j;rw[ba j]at h;cases h
theorem atY{K:bj}{G:Hp}{O:ao ay}{J:L2.St}{Y:Ev}(ls:ao a9)(js:ao a4)(r:gY K G O J Y):gY K G O (zX ls js J) (xW ls.length js Y):=by
 unfold zX xW;refine⟨by simp,λi d h=>?_⟩
 by_cases hi:i<ls.length
 ·rw[jA (by simpa using hi)]at h;rw[List.getElem?_replicate,a7 hi]at h;cases h
 ·rw[qS (by simpa using Nu hi),aeM,jH]at h;cases e:js[i-ls.length]? with
  |none=>rw[e]at h;cases h
  |some j =>
   rw[e]at h;have h':(Y[j]?).join=ak d:=nV h;obtain⟨v,z,q⟩:=r.2 j d (join_some h');refine⟨v,?_,q⟩;rw[qS (by simpa using Nu hi),jQ,jH,e];show ak (J[j]?).join=_;rw[z];rfl
section
variable{K:bj}{W:WX}
theorem akJ{ls:ao a9}{js:ao a4}{wi:TI}{tg:TG}{tc:TT}{te:TE}{fi:Ev->Mo Src}{g:A->MS}{c:Ev->Mo bh}{e:Ev->Mo A}{cf:bh}(W0:WX)(hi:gT K (Ea K) W wi fi)(hg:PQ K W0 tg g)(hc:gT K CI W0 tc c)(he:gT K (Den K) W0 te e) :
  gT K (Den K) W (Ay ls js wi tg tc te) (nI cf ls.length js fi g c e):=by
 intro G O Z H J Y Q w r h;refine hi G O Z H J Y _ w r (bS.mb h λS a σ H1 u B x1 w1 j1 h1=>?_);intro D hD;unfold Fz at h1;cases er:qO S.ok g c e a.length S.ds (xW ls.length js Y) (a++[.lst []])with
 |none=>rw[er]at h1;exact False.elim h1
 |some rr =>
 obtain⟨R,V⟩:=rr;rw[er]at h1;simp only at h1;have hw0:Wd K u (B++[D]) (a++[.lst []]) (upd H1 D (.lst [])):=w1.cell hD ⟨w1.rC hD,[],gV,.nil⟩;have r0:gY K u (B++[D]) (zX ls js J) (xW ls.length js Y):=atY ls js (r.ext (x1.trans (Ext.cell D)));have hDk:(B++[D])[a.length]?=ak D:=by rw[<-w1.len];simp
 refine⟨λi m p o=>m=S.ds.length-i/\i<=S.ds.length/\∃f j L d,Ext u (B++[D]) f j/\Wd K f j L o/\gY K f j p d/\qO S.ok g c e a.length (S.ds.drop i) d L=ak (R,V),
  ⟨_,rfl,AW _,u,_,_,_,Ext.refl _ _,hw0,r0,by simpa using er⟩,?_⟩
 rintro i m p o ⟨rfl,hil,f,j,L,d,e',E,r',h'⟩;have aL:=aB3 h';have M:Ext u B f j:=(Ext.cell D).trans e'
 by_cases cZ:i<S.ds.length
 ·right
  refine⟨j1.go f j L o M E aL i cZ,λP H2=>∃G2 t Z2 T,Ext u (B++[D]) G2 t/\Wd K G2 t Z2 H2/\gY K G2 t P T/\qO S.ok g c e a.length (S.ds.drop (i+1)) T Z2=ak (R,V),λP H2 n=>?_,λx H2 y=>?_⟩
  ·exact⟨S.ds.length-(i+1),by omega,rfl,cZ,n⟩
  ·obtain⟨G2,e2,w2,d2⟩:=j1.BJ f j L o M E aL i x H2 S.ds[i] (gM cZ) y;rw[JP cZ]at h';unfold qO at h';rw[a7 aL]at h';refine hg G2 j L H2 p d x S.ds[i] ⟨_,λ_ _=>ck,λ_ _=>ck,λ_ _=>ck⟩ w2 (r'.ext e2) d2 ?_
   revert h'
   generalize g S.ds[i] d L=q;intro h';split at h'
   ·rename_i U X;intro N H3 G3 O3 x3 w3 r3;refine hc G3 O3 X H3 N U _ w3 r3 ?_
    revert h'
    generalize c U X=F;intro h';split at h'
    ·rename_i k;intro b H4 G4 s C w4 hb;cases(show b=ax from hb);rw[a7 rfl];refine he G4 s k H4 N U _ w4 (r3.ext C) ?_
     revert h'
     generalize e U k=q3;intro h';split at h'
     ·rename_i z Z5;intro v H5 G5 O5 x5 w5 d5;split at h'
      ·rename_i ys ey;split at h'
       ·rename_i hl;have eD:=(((e'.trans e2).trans x3).trans C).trans x5;have I:=eD.pre _ _ hDk;obtain⟨l,xs,q1,F⟩:=w5.aE _ _ D ey I;refine⟨xs,q1,by rw[F.length];exact hl,G5,O5,_,U,eD,w5.put (c:=.lst (ys++[z])) I l ⟨l,_,gV,F.append (.cons d5 .nil)⟩,(r3.ext C).ext x5,h'⟩
       ·cases h'
      ·cases h'
     ·cases h'
    ·rename_i k;intro b H4 G4 s C w4 hb;cases(show b=au from hb);rw[ba (by simp)];exact⟨G4,s,k,U,((e'.trans e2).trans x3).trans C,w4,r3.ext C,h'⟩
    ·cases h'
   ·cases h'
 ·have Hv:i=S.ds.length:=by omega
  subst Hv
  left
  refine⟨j1.stop f j L o M E aL _ dC,?_⟩;rw[List.drop_length]at h';unfold qO at h';rw[a7 aL]at h';cases h';split at h1
  ·rename_i ys ey;have I:=e'.pre _ _ hDk;obtain⟨l,xs,q1,F⟩:=E.aE _ _ D ey I;split at h1
   ·exact h1 _ o f j M E (by simp only[Den];exact⟨D,rfl,I⟩)
   ·have wf:=E.freeze I l q1;split at h1
    ·rename_i VM;have eC:Ext u B (upd f D (.lst xs)) j:=M.trans (Ext.new l _);have wc:=w1.cut wf eC (by rw[List.take_set_of_le dC];exact VM.1);refine h1 _ o _ B ⟨eC.same,λ_ _ q=>q⟩ wc ?_;simp only[Den];exact⟨D,xs,rfl,gV,(F.ext (Ext.new l _)).cut eC.cut (by rw[w1.len];exact VM.2)⟩
    ·refine h1 _ o _ j (M.trans (Ext.new l _)) wf ?_;simp only[Den];exact⟨D,xs,rfl,gV,F.ext (Ext.new l _)⟩
  ·exact False.elim h1
end
def Az{α β:Type}(K:bj)(rel:Rl α β)(W:WX)(f:Ev->Mo α):L2.St->Hp->(β->Hp->Prop)->Prop:=λJ H Q=>∃G O Z Y,Wd K G O Z H/\gY K G O J Y/\bS K rel W G O J Q (f Y Z)
def Ud(K:bj)(W:WX)(g:A->MS):TG:=λv J H Q=>∃G O Z Y a D,Wd K G O Z H/\gY K G O J Y/\Den K G O v a/\fA K W G O D (g a Y Z)/\D.nx=Q
theorem Ve{α β:Type}{K:bj}{rel:Rl α β}{W:WX}{f:Ev->Mo α}:gT K rel W (Az K rel W f) f:=λG q z H J j Q w r h=>⟨G,q,z,j,w,r,h⟩
theorem akN{K:bj}{W:WX}{g:A->MS}:PQ K W (Ud K W g) g:=λG q z H J j v a D w r d h=>⟨G,q,z,j,a,D,w,r,d,h,rfl⟩
theorem VE.yP{X:Cx}{W:WX}{e:bx}{f:Ev->Mo A}(h:VE X W e f):PE X e (Az X.K (Den X.K) W f):=by
 obtain⟨t,p,s⟩:=h;exact λaa L J H Q I ⟨G,z,B,j,w,r,q⟩=>p aa L J H Q I (s G z B H J j Q w r q)
theorem IZ.yP{X:Cx}{W:WX}{ifs:ao bx}{f:Ev->Mo bh}(h:IZ X W ifs f):JD X ifs (Az X.K CI W f):=by
 obtain⟨t,p,s⟩:=h;exact λaa L J H Q I ⟨G,z,B,j,w,r,q⟩=>p aa L J H Q I (s G z B H J j Q w r q)
theorem VG.yP{X:Cx}{W:WX}{tg:bx}{g:A->MS}(h:VG X W tg g):PG X tg (Ud X.K W g):=by
 obtain⟨t,p,s⟩:=h;intro aa L J H v u Q I U h;obtain⟨G,z,B,j,a,D,w,r,d,q,e⟩:=h;exact p aa L J H v u Q I U (e ▸ s G z B H J j v a D w r d q)
abbrev uK:WX:=λ_ _ _ _=>ck
theorem agP{X:Cx}{W:WX}{elt tg iter:bx}{ifs:ao bx}{scope:da}{pos:dg}{fi:Ev->Mo Src}{g:A->MS}{c:Ev->Mo bh}{e:Ev->Mo A}(U:bh)(ls:ao a9)(js:ao a4)(B:X.calm=ax)(L:BB X scope ls js)(hi:VI X W tg iter fi)
  (hb:∀cl C s H fp,VG (kH X scope ls js cl C s H fp) uK tg g/\IZ (kH X scope ls js cl C s H fp) uK ifs c/\VE (kH X scope ls js cl C s H fp) uK elt e)
  (z:∀x,de iter X.env x=pure x:=by intro _;rfl):VE X W (.ListComp elt [⟨tg,iter,ifs,0⟩] scope pos) (nI U ls.length js fi g c e):=by
 obtain⟨a,q,j⟩:=hi;exact⟨_,apX B L q (λcl C s H fp=>⟨(hb cl C s H fp).1.yP,(hb cl C s H fp).2.1.yP,(hb cl C s H fp).2.2.yP⟩) z,akJ _ j akN Ve Ve⟩
noncomputable def sortI(ns:ao az):ao az:=ns.mergeSort λa b=>decide (a<=b)
theorem sortI_perm(ns:ao az):(sortI ns).Perm ns:=List.mergeSort_perm ns _
theorem Bn(ns:ao az):(sortI ns).Pairwise (· <= ·):=by
 have h:=List.pairwise_mergeSort (le:=λa b:az=>decide (a<=b)) (λa b c h1 h2=>by simp at h1 h2 ⊢;omega) (λa b=>by simp;omega) ns;exact h.imp λh=>Ep h
theorem Bm{ns ms:ao az}(p:ms.Perm ns)(h:ms.Pairwise (· <= ·)):ms=sortI ns :=
 List.Perm.eq_of_pairwise (le:=(· <= ·)) (λa b _ _ h1 h2=>Int.le_antisymm h1 h2) h (Bn ns) (p.trans (sortI_perm ns).symm)
theorem BZ(ns:ao az):(sortI ns).length=ns.length:=(sortI_perm ns).length_eq
section
variable{X:Cx}{W:WX}
theorem Sw:∀{us:ao ar} {ns:ao az},cw us ns->Vals (ns.map V.int) us
 |_,_,.nil => .nil
 |_,_,.cons n t h => .cons ⟨t,rfl⟩ (Sw h)
theorem aFJ:oX X (.builtin "sorted") (λxs H Q=>∃(a:ay) (ns:ao az),xs=[.ref a]/\fH X.K H a (ns.map V.int)/\ns.length<400000/\∀l,H l=aq->Q (.ref l) (upd H l (.lst ((sortI ns).map V.int)))):=by
 intro aa s J H xs i Q I r h;obtain⟨a,ns,rfl,U,n,q⟩:=h;obtain⟨u,rfl,B⟩:=vals1 r;cases B;obtain⟨j,z,L,m⟩:=I.list U;have c:cw j ns:=intsAre_of z;have hl:j.length=ns.length:=by rw[<-z.length,jQ]
 refine ajZ L.isList c (by rw[qH];omega) λae k g f d=>?_;obtain⟨e,he⟩:=sortedAll_at s.heap j ae;have hn:=Bm f d;subst hn;refine⟨.ref (s.heap.objs.size+1),_,I.laid (t':=s.toks) (o:=.lst ((sortI ns).map V.int)) (λb o q=>sortedAll_old q) (AX _) ?_,rfl,q _ (I.aL.fresh (AX _))⟩;exact⟨by rw[jQ,BZ,qH];omega,ae.toList,e,Sw g,he⟩
@[simp] def Jd(c:bh)(as:ao A):Mo A:=λZ=>match as with
 | [a]=>(match (eU Z a).bind intsOf with
  |some ns=>if ns.length<400000 then uL c ((sortI ns).map A.int) Z else aq
  | none=>aq)
 |_=>aq
theorem aFW(c:bh):rN X W (.builtin "sorted") (Jd c):=by
 refine⟨_,aFJ,?_⟩;intro G L U H J f g Q w d h;unfold Jd at h;split at h
 ·rename_i a;split at h
  ·rename_i ns e;split at h
   ·rename_i B;obtain⟨x,rfl,z⟩:=uU d;rw[JG]at e;obtain⟨ds,e1,q⟩:=e;obtain⟨p,b,rfl,h2,j⟩:=tD w z e1;rw[US q j]at h2;exact⟨p,ns,rfl,h2,B,λl hl=>zU w hl (OK _) h⟩
   ·exact False.elim h
  ·exact False.elim h
 ·exact False.elim h
end
end V2
namespace M
open PySem V2
@[simp] abbrev aP:=V2.dN 0
@[simp] abbrev aW:=V2.dN 1
@[simp] abbrev bL:=V2.dN 2
@[simp] abbrev eE:=V2.dN 3
@[simp] abbrev kG:=V2.dN 4
@[simp] abbrev oY:=V2.dN 5
@[simp] abbrev xJ:=V2.dN 6
@[simp] abbrev xI:=V2.dN 7
@[simp] abbrev xH:=V2.dN 8
@[simp] abbrev kF:=V2.dN 9
@[simp] abbrev FU:=V2.dN 10
@[simp] abbrev Sg:=V2.dN 11
@[simp] abbrev cK:=V2.cI 0
@[simp] abbrev cJ:=V2.cI 1
@[simp] abbrev jT:=V2.cI 2
@[simp] abbrev oZ:=V2.cI 3
@[simp] abbrev ZT:=V2.cI 4
@[simp] abbrev RQ:=V2.cI 5
@[simp] abbrev KP:=V2.cI 6
@[simp] abbrev ZS:=V2.cI 7
@[simp] abbrev BP:=V2.cI 8
@[simp] abbrev KO:=V2.cI 9
@[simp] abbrev pA:=V2.cI 10
@[simp] abbrev cH:=V2.WA au
@[simp] noncomputable abbrev aH{α:Type}(a:α)(Z:V2.aG):av (V2.Rs α×V2.aG):=ak (.ok a,Z)
@[simp] noncomputable abbrev eS(Y:V2.Ev)(Z:V2.aG):av (V2.Out×V2.Ev×V2.aG):=ak (.nx,Y,Z)
@[simp] noncomputable abbrev aA(i:az):av V2.A:=ak (.int i)
@[simp] noncomputable abbrev aF(i:a4):av V2.A:=ak (.aE i)
@[simp] noncomputable abbrev dG(i:ao V2.A):av V2.A:=ak (.lst i)
noncomputable section
def ac1:MS :=
 (aV (bO (aC (fC) (aC (jN) (aC cH aP cJ) (aC cH (cI 48271) (aC (jN) (cI 118) aW))) (cI 2147483629)) (gN 2))
  (bK (aC (fC) (aC cH (aC cH (aC (jN) (aC (lZ) bL (cI 977)) (cI 16807)) (aC (jN) bL (aC cH (aC (jN) aW aW) ZS))) aW) (cI 2147483587))))
def zC:ao A->Mo A:=cM 3 ac1
def Ll:MS :=
 (aV (bO cK (gN 2))
  (aV (eM (cF (aC rE aW (aU nC (aB aP a0))))
   (bO (aC (fC) (aC cW aP aW) (cI 2147483647)) (gN 2))
   fM)
  (bK (aU (bR 2 zC) (aB bL (aB (aC cH aW (cI 101)) a0))))))
def xE:ao A->Mo A:=cM 3 Ll
end
end M
namespace V2
open PySem PySem.Spec PyProof.Rows L2
noncomputable def lS(kvs:ao (Key×A))(k:Key):av A:=(kvs.find? λj=>decide (j.1=k)).map (·.2)
noncomputable def pJ(kvs:ao (Key×A))(k:Key)(a:A):ao (Key×A) :=
 if kvs.any λj=>decide (j.1=k)then kvs.map (λj=>if j.1=k then(j.1,a)else j)else kvs++[(k,a)]
noncomputable def uO:A->av Key
 |.int i=>ak (.inl i)
 |.str x=>ak (.inr x)
 |_=>aq
section
variable{K:bj}{G:Hp}{O:ao ay}
theorem Gk{v:V}{a:A}{k:Key}(d:Den K G O v a)(h:uO a=ak k):v=kV k:=by
 cases a with
 |int i=>simp only[uO,iZ]at h;subst h;simp only[Den]at d;exact d
 |str i=>simp only[uO,iZ]at h;subst h;simp only[Den]at d;exact d
 |_=>simp[uO]at h
theorem Aa{k:Key}:∀{j:ao (Key×V)} {kvs:ao (Key×A)},j.map (·.1)=kvs.map (·.1)->aY K G O (j.map (·.2)) (kvs.map (·.2))->(∀a,lS kvs k=ak a->∃v,nH j k=ak v/\Den K G O v a)/\(lS kvs k=aq->nH j k=aq)
 |[],[],_,_=>⟨λa h=>(by cases h),λ_=>rfl⟩
 |[],_::_,h,_=>by simp at h
 |_::_,[],h,_=>by simp at h
 |p::j,q::kvs,h,d=>by
  simp only[dJ,nX]at h;obtain⟨x,r,e,l,i⟩:=d.pE;simp only[dJ,nX]at e;obtain⟨e1,g⟩:=e;obtain⟨b,U⟩:=Aa (k:=k) h.2 (g ▸ i)
  by_cases B:q.1=k
  ·have L:p.1=k:=h.1.trans B;refine⟨λa ha=>?_,λhn=>?_⟩
   ·simp only[lS,EX,B,EA,PV,iZ]at ha;exact⟨p.2,by simp[nH,L],by rw[<-ha,e1];exact l⟩
   ·simp[lS,B]at hn
  ·have L:¬p.1=k:=λz=>B (h.1.symm.trans z);have c:nH (p::j) k=nH j k:=by simp[nH,L]
   have f:lS (q::kvs) k=lS kvs k:=by simp[lS,B]
   rw[c,f];exact⟨b,U⟩
theorem ac5{k:Key}{q:ao (Key×V)}{kvs:ao (Key×A)}(h:q.map (·.1)=kvs.map (·.1)):(q.any λj=>decide (j.1=k))=(kvs.any λj=>decide (j.1=k)):=by
 have e1:(q.any λj=>decide (j.1=k))=(q.map (·.1)).any λx=>decide (x=k):=by rw[List.any_map];rfl
 have z:(kvs.any λj=>decide (j.1=k))=(kvs.map (·.1)).any λx=>decide (x=k):=by rw[List.any_map];rfl
 rw[e1,z,h]
theorem an2{k:Key}{v:V}{a:A}{q:ao (Key×V)}{kvs:ao (Key×A)}(h:q.map (·.1)=kvs.map (·.1)):(putK q k v).map (·.1)=(pJ kvs k a).map (·.1):=by
 unfold putK pJ;rw[ac5 h];split
 ·rw[tN,tN];have e1:q.map ((·.1) ∘ λj:Key×V=>if j.1=k then(j.1,v)else j)=q.map (·.1):=QD λx _=>by simp only[Function.comp];split <;> rfl
  have z:kvs.map ((·.1) ∘ λj:Key×A=>if j.1=k then(j.1,a)else j)=kvs.map (·.1):=QD λx _=>by simp only[Function.comp];split <;> rfl
  rw[e1,z,h]
 ·rw[tO,tO,h];rfl
theorem Wg{k:Key}{v:V}{a:A}(B:Den K G O v a):∀{z:ao (Key×V)} {kvs:ao (Key×A)},z.map (·.1)=kvs.map (·.1)->aY K G O (z.map (·.2)) (kvs.map (·.2))->aY K G O ((z.map λj=>if j.1=k then(j.1,v)else j).map (·.2)) ((kvs.map λj=>if j.1=k then(j.1,a)else j).map (·.2))
 |[],[],_,_ => .nil
 |[],_::_,h,_=>by simp at h
 |_::_,[],h,_=>by simp at h
 |p::z,q::kvs,h,d=>by
  simp only[dJ,nX]at h;obtain⟨x,r,e,b,U⟩:=d.pE;simp only[dJ,nX]at e;obtain⟨e1,L⟩:=e;have ih:=Wg (k:=k) B h.2 (L ▸ U);simp only[dJ];refine .cons ?_ ih;rw[h.1];split
  ·exact B
  ·rw[e1];exact b
theorem an3{k:Key}{v:V}{a:A}{j:ao (Key×V)}{kvs:ao (Key×A)}(h:j.map (·.1)=kvs.map (·.1))(d:aY K G O (j.map (·.2)) (kvs.map (·.2)))(q:Den K G O v a):aY K G O ((putK j k v).map (·.2)) ((pJ kvs k a).map (·.2)):=by
 unfold putK pJ;rw[ac5 h];split
 ·exact Wg q h d
 ·rw[tO,tO];exact d.append (.cons q .nil)
noncomputable def oS(Z:aG):A->av (a4×ao (Key×A))
 |.aE k=>match Z[k]? with
  |some (.dA kvs)=>ak (k,kvs)
  |_=>aq
 |_=>aq
theorem IT{H:Hp}{Z:aG}{v:V}{a:A}{k:a4}{kvs:ao (Key×A)}(w:Wd K G O Z H)(d:Den K G O v a)(h:oS Z a=ak (k,kvs)):∃p q,v=.ref p/\O[k]?=ak p/\G p=aq/\H p=ak (.dK q)/\q.map (·.1)=kvs.map (·.1)/\aY K G O (q.map (·.2)) (kvs.map (·.2)):=by
 cases a with
 |aE j =>
  simp only[oS]at h;split at h
  ·rename_i es e;cases h;simp only[Den]at d;obtain⟨p,rfl,z⟩:=d;obtain⟨g,q,U,L,B⟩:=w.aE k _ p e z;exact⟨p,q,rfl,z,g,U,L,B⟩
  ·cases h
 |_=>simp[oS]at h
theorem OQ{Z:aG}{k:a4}{kvs:ao (Key×A)}(h:Z[k]?=ak (.dA kvs)):oS Z (.aE k)=ak (k,kvs):=by simp[oS,h]
end
section
variable{X:Cx}{W:WX}{o i e:bx}{pos:dg}{fo fi fe:Ev->Mo A}
@[simp] noncomputable def Ae:Ev->Mo A:=λ_ Z=>ak (.ok (.aE Z.length),Z++[.dA []])
theorem Sr:VE X W (.Dict [] [] pos) Ae:=by
 refine⟨_,ap1,λG q B H J z Q w r h=>?_⟩;intro p j;refine h _ _ G (q++[p]) (Ext.cell p) (w.cell j ⟨w.rC j,[],gV,rfl,.nil⟩) ?_;simp only[Den];exact⟨p,rfl,by rw[<-w.len];simp⟩
@[simp] def Jl(o i:A):Mo A:=λZ=>match oS Z o,uO i with
 |some (_,kvs),ak k=>match lS kvs k with
  |some a=>ak (.ok a,Z)
  |none=>aq
 |_,_=>aq
theorem agT(K:X.A.units+1<cLine)(N:VE X W o fo)(hi:VE X W i fi)(M:Nt i):VE X W (.Subscript o i pos) (aC Jl fo fi):=by
 obtain⟨t,F,s⟩:=N;obtain⟨u,p2,s2⟩:=hi;refine⟨_,ap3 K F p2 M,λG b d H J B Q w r h=>?_⟩;refine s G b d H J B _ w r (bS.mb h λx z v H1 G1 q f l T h1=>?_);refine s2 G1 q z H1 J B _ l (r.ext f) (bS.mb h1 λy c u V G2 j e L S h2=>?_);unfold Jl at h2;split at h2
 ·rename_i k0 I k e1 R;split at h2
  ·rename_i a P;obtain⟨p,ws,rfl,hk,g,E,D,C⟩:=IT L (T.ext e) e1;obtain⟨U,n,m⟩:=(Aa D C).1 a P;rw[Gk S R];exact⟨p,U,rfl,by rw[<-n];exact zG.k E,h2 U V G2 j (Ext.refl _ _) L m⟩
  ·exact False.elim h2
 ·exact False.elim h2
@[simp] def Jk(o i z:A):Mo A:=λZ=>match oS Z o,uO i with
 |some (_,kvs),ak k=>ak (.ok ((lS kvs k).getD z),Z)
 |_,_=>aq
def Zc(Z:aG)(a:A):Prop:=∃k kvs,oS Z a=ak (k,kvs)
open Classical in
@[simp] noncomputable def GC(fo fi fe:Ev->Mo A):Ev->Mo A:=λY=>mb (fo Y) λo Z=>if Zc Z o then mb (fi Y) (λi=>mb (fe Y) λz=>Jk o i z) Z else aq
theorem Ss{ag:dg}(hu:X.A.units+1<cLine)(ho:VE X W o fo)(hi:VE X W i fi)(he:VE X W e fe)(m:M2 X o "get" ag i e pos):VE X W (.Call (.Attribute o "get" ag) [i,e] [] pos) (GC fo fi fe):=by
 obtain⟨t,p1,s1⟩:=ho;obtain⟨u,p2,s2⟩:=hi;obtain⟨u',p3,V⟩:=he;refine⟨_,ap2 hu p1 p2 p3 m,λG K N H J L Q w r h=>?_⟩;refine s1 G K N H J L _ w r (bS.mb h λx d v H1 G1 b C D E h1=>?_);split at h1
 ·rename_i hd;obtain⟨k0,aK0,e0⟩:=hd;obtain⟨p,P,rfl,hk,g,q1,q2,q3⟩:=IT D E e0;refine⟨p,rfl,.inl ⟨P,.inl q1⟩,?_⟩;refine s2 G1 b d H1 J L _ D (r.ext C) (bS.mb h1 λy c u H2 G2 U s R d2 h2=>?_);refine V G2 U c H2 J L _ R ((r.ext C).ext s) (bS.mb h2 λz M u3 F I q n f d3 j=>?_);unfold Jk at j;split at j
  ·rename_i k1 l k e1 e2;obtain⟨p',nZ,HW,HX,g',r1,r2,r3⟩:=IT f (E.ext (s.trans n)) e1;cases HW;rw[Gk (d2.ext n) e2];refine⟨nH nZ k,zG.k r1,?_⟩;obtain⟨i1,i2⟩:=Aa (k:=k) r2 r3;cases B:lS l k with
   |none =>
    rw[B]at j;rw[i2 B];exact j _ F I q (Ext.refl _ _) f d3
   |some a =>
    rw[B]at j;obtain⟨v',T,S⟩:=i1 a B;rw[T];exact j _ F I q (Ext.refl _ _) f S
  ·exact False.elim j
 ·exact False.elim h1
@[simp] def Bo(o i v:A)(Z:aG):av aG:=match oS Z o,uO i with
 |some (k,kvs),ak key=>if kvs.length<bc then ak (Z.set k (.dA (pJ kvs key v)))else aq
 |_,_=>aq
@[simp] def LO(fe fo fi:Ev->Mo A):MS:=λY=>sM (fe Y) Y λa=>sM (fo Y) Y λo=>sM (fi Y) Y λi Z=>match Bo o i a Z with
 |some Z'=>ak (.nx,Y,Z')
 |none=>aq
theorem Sl{pos':dg}(hu:X.A.units+1<cLine)(ho:VE X W o fo)(hi:VE X W i fi)(he:VE X W e fe)(hs:e4 e (ak (.Subscript o i pos')) pos.line X.env=pure au:=by rfl):VS X W (.Assign [.Subscript o i pos'] e pos) (LO fe fo fi):=by
 obtain⟨t,p1,R⟩:=ho;obtain⟨u,p2,s2⟩:=hi;obtain⟨u',V,Q⟩:=he;refine⟨_,aoP hu p1 p2 V hs,λG E K H J a D w r h=>?_⟩;refine Q G E K H J a _ w r (fA.sM h r λz l v H1 G1 d j P d1 h1=>?_);refine R G1 d l H1 J a _ P (r.ext j) (fA.sM h1 (r.ext j) λx f vo H2 G2 b L N d2 h2=>?_);refine s2 G2 b f H2 J a _ N ((r.ext j).ext L) (fA.sM h2 ((r.ext j).ext L) λy F vi H3 G3 C m s d3 U=>?_);unfold Bo at U;split at U
 ·rename_i I B;split at B
  ·rename_i k q key e1 e2;split at B
   ·rename_i hl;cases B;obtain⟨p,M,rfl,hk,g,T,n,S⟩:=IT s (d2.ext m) e1;rw[Gk d3 e2];have MP:M.length=q.length:=by have:=cz List.length n;simpa using this
    refine⟨p,_,rfl,RI.k T (by rw[MP];exact hl),?_⟩;exact uI (s.put (c:=.dA (pJ q key z)) hk g ⟨g,_,gV,an2 n,an3 n S (d1.ext (L.trans m))⟩) (((r.ext j).ext L).ext m) U
   ·cases B
  ·cases B
 ·exact False.elim U
noncomputable def intKeys:ao (Key×A)->av (ao az)
 |[]=>ak []
 |(.inl i,_)::r=>(intKeys r).map (i :: ·)
 |_=>aq
theorem Ze:∀{kvs:ao (Key×A)} {ns:ao az},intKeys kvs=ak ns->kvs.map (·.1)=ns.map Sum.inl
 |[],ns,h=>by simp only[intKeys,iZ]at h;subst h;rfl
 |(.inl i,_)::r,ns,h=>by
  simp only[intKeys,AV]at h;obtain⟨ms,h1,rfl⟩:=h;simp[Ze h1]
 |(.inr i,_)::r,ns,h=>by simp[intKeys]at h
@[simp] def Je(c:bh)(as:ao A):Mo A:=λZ=>match as with
 | [a]=>(match oS Z a with
  | some (_,kvs)=>(match intKeys kvs with
   |some ns=>if ns.length<4000 then uL c ((sortI ns).map A.int) Z else aq
   | none=>aq)
  | none=>aq)
 |_=>aq
theorem aFX(b:X.calm=ax)(c:bh):rN X W (.builtin "sorted") (Je c):=by
 refine⟨_,aFK b,?_⟩;intro G m n H J o t Q w d h;unfold Je at h;split at h
 ·rename_i a;split at h
  ·rename_i k B e;split at h
   ·rename_i ns en;split at h
    ·rename_i i;obtain⟨x,rfl,f⟩:=uU d;obtain⟨p,j,rfl,s,g,z,q,r⟩:=IT w f e;refine⟨p,j,ns,rfl,z,by rw[q];exact Ze en,i,λms l U L hl=>?_⟩;rw[Bm U L];exact zU w hl (OK _) h
    ·exact False.elim h
   ·exact False.elim h
  ·exact False.elim h
 ·exact False.elim h
end
section
variable{X:Cx}{W:WX}{x:a9}{e:bx}{es:ao bx}{np jZ pos:dg}{fs:Ev->Mo (ao A)}
@[simp] def GR(x:a9)(f:Ev->Mo (ao A)):MS:=λY=>sM (f Y) Y λas Z=>if as.length<=bc then ak (.exc ⟨x,[]⟩,Y,Z)else aq
theorem agB{C:ay}(T:nS X W)(c:X.calm=ax)(ι:PU X.K C)(b:Gl X x)(hm:X.mg x=ak (.ref C))(f:cu X.K a5 x=ak (ak (.ref C)))(ha:VA X W (e::es) fs)
  (d:(x==("__debug__" : a9))=au:=by decide) (he:bf (e::es) X.env=(au,cb e X.env)::bf es X.env:=by rfl) (g:(cv jZ (bf (e::es) X.env)).any (·.1)=au:=by rfl) :
  VS X W (.Raise (ak (.Call (.Name x np) (e::es) [] jZ)) aq pos) (GR x fs):=by
 obtain⟨t,p,s⟩:=ha;refine⟨_,aoJ T c ι b hm p d he g,λG z L H J q D w r h=>?_⟩;refine s G z L H J q _ w r (fA.sM h r λn B m k l j U a i h1=>?_);split at h1
 ·rename_i hl;exact⟨by rw[i.length];exact hl,h1 J k l j (Ext.refl _ _) a (r.ext U) _ _ ⟨⟨C,f,rfl⟩,.inl ⟨rfl,rfl⟩⟩⟩
 ·exact False.elim h1
end
def XR(X:Cx)(W:WX)(st:bw)(f:MS):Prop:=∃t,YA X st t/\rH X.K W t f
def AS(X:Cx)(W:WX)(st:ao bw)(f:MS):Prop:=∃t,vA X st t/\rH X.K W t f
section
variable{X:Cx}{W:WX}{st:bw}{rest:ao bw}{f g:MS}
theorem VS.v0(h:VS X W st f):XR X W st f:=let ⟨t,p,s⟩:=h; ⟨t,p.Eg,s⟩
theorem iX.v0(h:iX X W rest f):AS X W rest f:=let ⟨t,p,s⟩:=h; ⟨t,p.Eg,s⟩
theorem Sh(h1:XR X W st f)(h2:AS X W rest g):AS X W (st::rest) (aV f g):=by
 obtain⟨t,q,j⟩:=h1;obtain⟨u,p2,s2⟩:=h2;exact⟨_,aoE q p2,Vb j s2⟩
end
def GJ(K:bj)(W:WX)(f:MS):TS:=λD J H=>∃G O Z Y,Wd K G O Z H/\gY K G O J Y/\fA K W G O D (f Y Z)
theorem iX.yP{X:Cx}{W:WX}{st:ao bw}{f:MS}(h:iX X W st f):pX X st (GJ X.K W f):=by
 obtain⟨t,p,s⟩:=h;exact λaa L J H D I ⟨G,z,B,j,w,r,q⟩=>p aa L J H D I (s G z B H J j D w r q)
theorem AS.yP{X:Cx}{W:WX}{st:ao bw}{f:MS}(h:AS X W st f):vA X st (GJ X.K W f):=by
 obtain⟨t,p,s⟩:=h;exact λL J H D I ⟨G,z,B,j,w,r,q⟩=>p L J H D I (s G z B H J j D w r q)
noncomputable def OI(i:a4):OS->OS
 |some (.exc _,_,_)=>aq
 |some (o,Y,Z)=>ak (o,Y.set i aq,Z)
 |none=>aq
open Classical in
noncomputable def CF(i:a4)(sub:a9->bh)(fb:MS)(fh:ay->Exc->MS):MS:=λY Z=>match fb Y Z with
 |some (.exc e,Y1,Z1)=>if sub e.cls=ax then(if hr:∃r,∀p,OI i (fh p e (Y1.set i (ak (.adr p))) Z1)=ak r then ak (Classical.choose hr)else aq)else aq
 |r=>r
theorem ahM{i:a4}{sub:a9->bh}{fb:MS}{j:ay->Exc->MS}{Y Y1:Ev}{Z Z1:aG}{e:Exc}{r:Out×Ev×aG}(h:fb Y Z=ak (.exc e,Y1,Z1))(z:sub e.cls=ax)(hr:∀p,OI i (j p e (Y1.set i (ak (.adr p))) Z1)=ak r):CF i sub fb j Y Z=ak r:=by
 have q:∃r,∀p,OI i (j p e (Y1.set i (ak (.adr p))) Z1)=ak r:=⟨r,hr⟩;have e1:=FJ q 0;rw[hr 0]at e1;simp only[CF,h,z,fI];rw[dif_pos q,<-e1]
theorem akI{K:bj}{W:WX}{C:ay}{i:a4}{sub:a9->bh}{fb:MS}{p:ay->Exc->MS}
  (AA:∀n E,sub n=ax->cu K a5 n=ak (ak (.ref E))->b7 K (.ref E) (.ref C)=ak ax) :
  rH K W (Tw (λW=>GJ K W fb) (tH K C i (λx cls dx D J H=>∃e:Exc,(∃E,cu K a5 e.cls=ak (ak (.ref E))/\cls=.ref E)/\GJ K uK (p x e) D J H) Tz)) (CF i sub fb p):=by
 intro G y t H J s D w r h;refine⟨G,y,t,s,w,r,?_⟩;unfold CF at h
 revert h
 generalize fb s t=q;intro h
 match q,h with
 |none,h=>exact h
 |some (.nx,B,L),h=>exact h
 |some (.bk,B,L),h=>exact h
 |some (.ct,B,L),h=>exact h
 |some (.ret a,B,L),h=>exact h
 |some (.exc e,B,L),h =>
  simp only at h;split at h
  ·rename_i N;split at h
   ·rename_i hr;intro v S P o m A F cls dx M x R;obtain⟨⟨E,u,rfl⟩,_⟩:=M;refine⟨E,ax,rfl,AA _ E N u,?_⟩;rw[a7 rfl];refine⟨e,⟨E,u,rfl⟩,P,o,L,B.set i (ak (.adr x)),A,F.set i (by simp only[Den]),?_⟩;have U:=FJ hr x
    revert U h
    generalize Classical.choose hr=Q;generalize p x e (B.set i (ak (.adr x))) L=I;intro h U
    match I,U with
    |some (.nx,b,c),U=>cases U;exact λj k l z d f g=>h (j.set i aq) k l z (m.trans d) f (g.unset i aq)
    |some (.bk,b,c),U=>cases U;exact λj k l z d f g=>h (j.set i aq) k l z (m.trans d) f (g.unset i aq)
    |some (.ct,b,c),U=>cases U;exact λj k l z d f g=>h (j.set i aq) k l z (m.trans d) f (g.unset i aq)
    |some (.ret a,b,c),U=>cases U;exact λj k l z d f g=>h (j.set i aq) k l z (m.trans d) f (g.unset i aq)
   ·exact False.elim h
  ·exact False.elim h
theorem af9{X:Cx}{W:WX}{C:ay}{i:a4}{n y:a9}{np pos HS:dg}{body:ao bw}{b₀:bw}{suite:ao bw}{sub:a9->bh}{fb:MS}{j:ay->Exc->MS}(t:mQ X)(B:X.ex=[])(c:XC X.K C)(L:Gl X y)(hm:X.mg y=ak (.ref C))(a:X.N.Nodup)(hi:X.N[i]?=ak n)(hl:X.env.scope.names.lookup n=ak .local)
  (AA:∀n E,sub n=ax->cu X.K a5 n=ak (ak (.ref E))->b7 X.K (.ref E) (.ref C)=ak ax)
  (hb:∀W,AS (X.nG (XE X W)) W body fb) (hh:∀(p:ay) (oe:cp) (e:Exc),(∃E,cu X.K a5 e.cls=ak (ak (.ref E))/\oe.cls=.ref E)->iX (X.rW p oe) uK (b₀::suite) (j p e))
  (U:(y==("__debug__" : a9))=au:=by decide):XR X W (.Try body [.ExceptHandler (ak (.Name y np)) (ak n) (b₀::suite) HS] [] [] pos) (CF i sub fb j):=by
 refine⟨_,aoG t B (tb:=λW=>GJ X.K W fb) (λW=>(hb W).yP) (apD t c L hm a hi hl (ts:=λx cls b D J H=>∃e:Exc,(∃E,cu X.K a5 e.cls=ak (ak (.ref E))/\cls=.ref E)/\GJ X.K uK (j x e) D J H) (λx oe=>?_) apC U),akI AA⟩;intro aa z J H D I ⟨e,he,q⟩;exact(hh x oe e he).yP aa z J H D I q
section
variable{P:bg}{w:br}{K:bj}{mg:a9->av ar}{base:bz}
theorem ZG.of0{x:a9}{st:bw}{N ps:ao a9}{k:a4}{b:MS}(h:HasFn K mg x st)(S:cE N ps (bB st))
  (bind:∀(kV doc pm:ar) (an:av ay) (j ct:ar) (us:ao ar),us.length=ps.length->ei (fnOf x x (lL st) (fV st) (bB st) .none kV doc pm an j ct) ⟨us,[]⟩=pure (ps.zip us))
  (B:∀(f:ay) (j:ar) (A:bu) (outer:ao Env) (s:aw) (H:Hp) (E:XK),dP k (A.deeper (c7 x (bB st) s.heap.objs.size f j)) ->
   AS (oR zH P w K mg base N x (bB st) f j A outer s H E).uJ uK (fV st) b):ZG P w K mg base x (k+1) ps (cM N.length b):=by
 refine Def.of0 h S bind (λz H Q E h=>h.1) λf j A outer s H z Q E hr L=>?_;obtain⟨t,p,q⟩:=B f j A outer s H E hr;exact⟨t,p,WU (E:=λ_ _ _=>ck) q L⟩
end
structure yU(K:bj)(rs ns:ao a9):Prop where
 xc:∀n∈ns,∀D,cu K a5 n=ak (ak (.ref D))->XC K D
 sub:∀n∈rs,∀m∈ns,∀D C,cu K a5 n=ak (ak (.ref D))->cu K a5 m=ak (ak (.ref C))->b7 K (.ref D) (.ref C)=ak (n==m||m==("RankError" : a9))
 ve:∀n∈rs,∀D,cu K a5 n=ak (ak (.ref D))->b7 K (.ref D) (.type "ValueError")=ak ax
 rn:∀n∈rs,n∈ns
noncomputable def qV(rs ns:ao a9)(n m:a9):av bh:=if n∈rs/\m∈ns then ak (n==m||m==("RankError" : a9))else aq
noncomputable def zI(rs:ao a9)(n:a9)(T:cj):av bh:=if n∈rs/\T = "ValueError" then ak ax else aq
theorem yU.own{K:bj}{rs ns:ao a9}(T:yU K rs ns)(n m:a9)(b:bh)(D C:ay)(h:qV rs ns n m=ak b)(hn:cu K a5 n=ak (ak (.ref D)))(hm:cu K a5 m=ak (ak (.ref C))):eu K (.ref D) (.ref C)=ak b:=by
 unfold qV at h;split at h
 ·rename_i q;cases h;exact at8 (T.xc _ (T.rn _ q.1) _ hn) (T.xc _ q.2 _ hm) (T.sub _ q.1 _ q.2 _ _ hn hm)
 ·cases h
theorem yU.bt{K:bj}{rs ns:ao a9}(T:yU K rs ns)(n:a9)(ρ:cj)(b:bh)(D:ay)(h:zI rs n ρ=ak b)(hn:cu K a5 n=ak (ak (.ref D))):eu K (.ref D) (.type ρ)=ak b:=by
 unfold zI at h;split at h
 ·rename_i q;cases h;obtain⟨q,rfl⟩:=q;exact at7 (T.ve _ q _ hn) auA
 ·cases h
noncomputable def OZ(tb:a9->av bh):ao a9->av bh
 |[]=>ak au
 |m::r=>match tb m with
  |some ax=>ak ax
  |some au=>OZ tb r
  |none=>aq
noncomputable def Jc:A->av a9
 |.gl m=>ak m
 |_=>aq
def NV:ao A->av (ao a9)
 |[]=>ak []
 |a::r=>(Jc a).bind λm=>(NV r).map λms=>m::ms
def isA(tb:a9->av bh)(j:cj->av bh):A->av bh
 |.gl m=>tb m
 |.ty T=>j T
 |.tup as=>(NV as).bind (OZ tb)
 |_=>aq
@[simp] def NY(p:ay)(tb:a9->av bh)(j:cj->av bh)(as:ao A):Mo A:=λZ=>match as with
 |[.adr q,a]=>if q=p/\j "ValueError" = ak ax then(match isA tb j a with
  |some b=>ak (.ok (.bl b),Z)
  | none=>aq)else aq
 |_=>aq
section
variable{K:bj}{rs ns:ao a9}{G:Hp}{O:ao ay}
theorem aA6:∀{as:ao A} {ms:ao a9} {xs:ao V},NV as=ak ms->aY K G O xs as->∃cs:ao ay,xs=cs.map V.ref/\ms.map (λm=>cu K a5 m)=cs.map λC=>ak (ak (.ref C)):=by
 intro as
 induction as with
 |nil =>
  intro ms xs h d;cases h;simp only[aY]at d;subst d;exact⟨[],rfl,rfl⟩
 |cons a r ih =>
  intro ms xs h d;simp only[aY]at d;obtain⟨x,U,rfl,j,L⟩:=d;unfold NV at h;rw[JG]at h;obtain⟨m,e1,h⟩:=h;rw[AV]at h;obtain⟨mX,B,rfl⟩:=h;obtain⟨cs,rfl,q⟩:=ih B L;cases a with
  |gl y =>
   simp only[Jc,iZ]at e1;subst e1;simp only[Den]at j;obtain⟨C,z,rfl⟩:=j;exact⟨C::cs,rfl,by rw[dJ,dJ,z,q]⟩
  |_=>cases e1
theorem aHJ(hT:yU K rs ns){n:a9}{D:ay}(hn:cu K a5 n=ak (ak (.ref D))):∀{ms:ao a9} {cs:ao ay} {b:bh},ms.map (λm=>cu K a5 m)=cs.map (λC=>ak (ak (.ref C)))->OZ (qV rs ns n) ms=ak b->kitAny K (.ref D) (cs.map Value.ref)=ak b:=by
 intro ms
 induction ms with
 |nil =>
  intro cs b e h;cases cs with
  |nil=>exact h
  |cons=>cases e
 |cons m r ih =>
  intro cs b e h;cases cs with
  |nil=>cases e
  |cons C cs =>
   simp only[dJ,nX]at e;unfold OZ at h;split at h
   ·rename_i q;cases h;simp only[dJ,kitAny,hT.own _ _ _ _ _ q hn e.1]
   ·rename_i q;simp only[dJ,kitAny,hT.own _ _ _ _ _ q hn e.1];exact ih e.2 h
   ·cases h
end
theorem Kn{X:Cx}{W:WX}{rs ns:ao a9}{p:ay}{oe:cp}{n:a9}(g:(p,oe)∈X.pn)(hT:yU X.K rs ns)(he:∃E,cu X.K a5 n=ak (ak (.ref E))/\oe.cls=.ref E):rN X W (.builtin "isinstance") (NY p (qV rs ns n) (zI rs n)):=by
 refine⟨_,aFS g,?_⟩;intro G c s H J u r Q w d h;obtain⟨E,B,L⟩:=he;unfold NY at h;split at h
 ·rename_i q a;split at h
  ·rename_i f;obtain⟨rfl,hv⟩:=f;split at h
   ·rename_i b e;obtain⟨x,y,rfl,U,j⟩:=OL d;simp only[Den]at U;subst U;have hr:n∈rs:=by
     unfold zI at hv;split at hv
     ·rename_i z;exact z.1
     ·cases hv
    refine⟨E,L,hT.xc _ (hT.rn _ hr) _ B,?_⟩;have fin:Q (.bl b) H:=h _ H G c (Ext.refl _ _) w (by simp only[Den]);rw[L];cases a with
    |gl m =>
     simp only[Den]at j;obtain⟨C,k,rfl⟩:=j;exact .inl ⟨C,b,rfl,hT.own _ _ _ _ _ e B k,fin⟩
    |ty T =>
     simp only[Den]at j;subst j;exact .inr (.inl ⟨T,b,rfl,hT.bt _ _ _ _ e B,fin⟩)
    |tup r =>
     simp only[Den]at j;obtain⟨a,t,rfl,i,dl⟩:=j;unfold isA at e;rw[JG]at e;obtain⟨ms,e1,l⟩:=e;obtain⟨o,rfl,q⟩:=aA6 e1 dl;exact .inr (.inr ⟨a,o,b,rfl,w.sub _ _ i,aHJ hT B q l,fin⟩)
    |_=>cases e
   ·exact False.elim h
  ·exact False.elim h
 ·exact False.elim h
def mS(K:bj)(mg:a9->av ar)(x:a9):Prop:=∃C,XC K C/\mg x=ak (.ref C)/\cu K a5 x=ak (ak (.ref C))
def JF(K:bj)(mg:a9->av ar)(x:a9):Prop:=∃C,PU K C/\mg x=ak (.ref C)/\cu K a5 x=ak (ak (.ref C))
section
variable{X:Cx}{W:WX}{x y:a9}{e:bx}{es:ao bx}{np jZ pos HS:dg}{fs:Ev->Mo (ao A)}
@[simp] def cG(x:a9):Ev->Mo A:=λ_=>ret (.gl x)
theorem zL(h:mS X.K X.mg x)(j:Gl X x)(hd:(x==("__debug__" : a9))=au:=by decide):VE X W (.Name x pos) (cG x):=by
 obtain⟨C,_,h1,h2⟩:=h;exact So j h1 h2 hd
theorem ZU(T:nS X W)(q:X.calm=ax)(ι:JF X.K X.mg x)(j:Gl X x)(ha:VA X W (e::es) fs)
  (z:(x==("__debug__" : a9))=au:=by decide) (he:bf (e::es) X.env=(au,cb e X.env)::bf es X.env:=by rfl) (L:(cv jZ (bf (e::es) X.env)).any (·.1)=au:=by rfl) :
  VS X W (.Raise (ak (.Call (.Name x np) (e::es) [] jZ)) aq pos) (GR x fs):=by
 obtain⟨C,B,h1,h2⟩:=ι;exact agB T q B j h1 h2 ha z he L
theorem af8{i:a4}{n:a9}{body:ao bw}{b₀:bw}{suite:ao bw}{rs ns:ao a9}{fb:MS}{j:ay->Exc->MS}(t:mQ X)(L:X.ex=[])(c:mS X.K X.mg y)(U:Gl X y)(hT:yU X.K rs ns)(b:X.N.Nodup)(hi:X.N[i]?=ak n)(hl:X.env.scope.names.lookup n=ak .local)
  (hb:∀W,AS (X.nG (XE X W)) W body fb) (hh:∀(p:ay) (oe:cp) (e:Exc),(∃E,cu X.K a5 e.cls=ak (ak (.ref E))/\oe.cls=.ref E)->iX (X.rW p oe) uK (b₀::suite) (j p e))
  (a:(y==("__debug__" : a9))=au:=by decide):XR X W (.Try body [.ExceptHandler (ak (.Name y np)) (ak n) (b₀::suite) HS] [] [] pos) (CF i (λz=>qV rs ns z y==ak ax) fb j):=by
 obtain⟨C,d,h1,h2⟩:=c;refine af9 t L d U h1 b hi hl (λz E q B=>?_) hb hh a;have q:qV rs ns z y=ak ax:=by simpa using q
 unfold qV at q;split at q
 ·rename_i hm;rw[<-q];exact hT.sub _ hm.1 _ hm.2 _ _ B h2
 ·cases q
end
theorem IM{α:Type}{P:α->Prop}:∀n∈([]:ao α),P n:=by simp
theorem eY{α:Type}{P:α->Prop}{a:α}{l:ao α}(h:P a)(t:∀n∈l,P n):∀n∈a::l,P n:=λn hn=>by
 rcases dY.mp hn with z|z
 ·exact z ▸ h
 ·exact t n z
theorem sY{K:bj}{n:a9}{C:ay}{P:ay->Prop}(h:cu K a5 n=ak (ak (.ref C)))(p:P C):∀D,cu K a5 n=ak (ak (.ref D))->P D:=λD j=>by
 rw[h]at j;cases j;exact p
theorem jE{K:bj}{n m:a9}{C B:ay}{P:ay->ay->Prop}(h:cu K a5 n=ak (ak (.ref C)))(h':cu K a5 m=ak (ak (.ref B)))(p:P C B):∀D q,cu K a5 n=ak (ak (.ref D))->cu K a5 m=ak (ak (.ref q))->P D q:=λD q z j=>by
 rw[h]at z;rw[h']at j;cases z;cases j;exact p
theorem cO.ofN{P:bg}{w:br}{K:bj}{mg:a9->av ar}{base:bz}{x:a9}{k:a4}{ps:ao a9}{F:ao A->Mo A}(D:ZG P w K mg base x k ps F):cO P w K mg base x k ps (MB F):=by
 obtain⟨f,fd,h1,h2,e,c⟩:=D.ex;refine⟨f,fd,⟨λq H Q E h=>h.1,λA outer s H args us q Q E hr e0 hb r b=>?_⟩,h2,e,c⟩;refine yN (h1.run A outer s H args us q Q (λ_ _ _=>ck) hr e0 hb r ?_) λr s' z=>?_
 ·obtain⟨hl,G,B,j,ds,w,d,p⟩:=b;refine⟨hl,G,B,j,ds,w,d,?_⟩
  revert p
  unfold MB;generalize F ds j=U;intro p
  match U,p with
  |some (.ok a,L),p=>exact p
 ·cases r with
  |error ev=>exact False.elim z
  |ok v=>cases v <;> exact z
end V2
namespace L2
open PySem PySem.Spec PyProof.Rows
theorem dP.LA{k:a4}{A:bu}(r:dP k A):A.units+1<cLine:=by have:=r.units;omega
end L2
namespace V2
theorem aGC:PySem.bootBuiltins "ValueError" = ak (.type "ValueError"):=by decide +kernel
end V2
namespace L2
open PySem PySem.Spec PyProof.Rows
theorem mQ.uJ{X:Cx}(t:mQ X):mQ X.uJ:=⟨t.1,t.2,t.3⟩
theorem Tq{CX:pZ}{P:bg}{w:br}{K:bj}{mg:a9->av ar}{base:bz}{N:ao a9}{af:a9}{scope:da}{f:ay}{j:ar}{A:bu}{outer:ao Env}{s:aw}{H:Hp}{E:XK}:mQ (oR CX P w K mg base N af scope f j A outer s H E).uJ:=mQ.uJ SH
theorem ah1{CX:pZ}{P:bg}{w:br}{K:bj}{mg:a9->av ar}{base:bz}{N:ao a9}{af:a9}{scope:da}{f:ay}{j:ar}{A:bu}{outer:ao Env}{s:aw}{H:Hp}{E:XK}{W:WX} :
  nS ((oR CX P w K mg base N af scope f j A outer s H E).uJ.nG (XE (oR CX P w K mg base N af scope f j A outer s H E).uJ W)) W:=nS.of Tq rfl W
end L2
namespace M
open PySem V2
noncomputable section
def WW:MS :=
 (LO (aC cH (GC aW bL cK) eE) aW bL)
def acS:Ev->Mo A :=
 (nI au 1 [1] (jJ (aU (Je au) (aB aW a0))) (gN 0) tU (qW (aB aP (aB (aC Jl aW aP) a0))))
def WY:MS :=
 (aV (bO Ae (gN 1))
  (aV (nJ (jJ aP) (mM 2 (eN (gN 2) (eN (gN 3) lJ))) WW)
  (bK acS)))
def JX:ao A->Mo A:=cM 4 WY
def IU:MS :=
 (aV (bO (aC cH bL kG) (gN 2))
   (eM (cF (aC wH aW bL))
    (bK eE)
    fM))
def IV:MS :=
 (aV (eM (cF (aC rE aW cJ))
   (GR "NoPlace" (aB (cS "places begin with 1") a0))
   fM)
  (aV (bO cK (gN 2))
  (aV (nJ (jJ (aU (bR 1 JX) (aB aP a0))) (mM 2 (eN (gN 3) (eN (gN 4) lJ))) IU)
  (GR "NoPlace" (aB (cS "the row ends before this place") a0)))))
def QT:ao A->Mo A:=cM 5 IV
end
end M
namespace KS
open PySem PySem.W PyProof.Rows
noncomputable def Ym:ao az->ao az->bh
 |[],[]=>au
 |[],_::_=>ax
 |_::_,[]=>au
 |a::as,b::bs=>if a=b then Ym as bs else decide (a<b)
end KS
namespace V2
open PySem PySem.Spec PyProof.Rows L2 KS
def aj0(ts:ao (ao az)):ao (ao az):=ts.mergeSort λa b=>!Ym b a
section
variable{X:Cx}{W:WX}
noncomputable def aCF(t:ao az):A:=.tup (t.map A.int)
def ahL:A->av (ao az)
 |.tup ds=>(intsOf ds).bind λns=>if ns=[]then aq else ak ns
 |_=>aq
def Ti:ao A->av (ao (ao az))
 |[]=>ak []
 |a::r=>(ahL a).bind λt=>(Ti r).map λts=>t::ts
@[simp] def aLU(c:bh)(as:ao A):Mo A:=λZ=>match as with
 | [a]=>(match (eU Z a).bind Ti with
  |some ts=>if ts.length<4000 then uL c ((aj0 ts).map aCF) Z else aq
  | none=>aq)
 |_=>aq
@[simp] def VY(as:ao A):Mo A:=match as with
 |[.int i]=>ret (.int i)
 |[.bl b]=>ret (.int (if b then 1 else 0))
 |_=>stuck
theorem aF0:rN X W (.type "int") VY:=by
 refine⟨_,aFU,?_⟩;intro G q z H J B L Q w d h;unfold VY at h;split at h
 ·rename_i i;obtain⟨x,rfl,j⟩:=uU d;simp only[Den]at j;subst j;exact .inl ⟨i,rfl,kO w (by simp only[Den]) h⟩
 ·rename_i b;obtain⟨x,rfl,j⟩:=uU d;simp only[Den]at j;subst j;exact .inr ⟨b,rfl,kO w (by simp only[Den]) h⟩
 ·exact False.elim h
end
end V2
namespace M
open PySem V2
noncomputable def acU:MS :=
 (bK (vK (aU DQ (aB aP (aB (cT "int") a0))) (Tb (aU DQ (aB aP (aB (cT "bool") a0))))))
noncomputable def QU:ao A->Mo A:=cM 1 acU
end M
namespace V2
open PySem PySem.Spec PyProof.Rows L2
noncomputable def putD{α:Type}(f:a9)(v:α):ao (a9×α)->ao (a9×α)
 |[]=>[(f,v)]
 |(g,x)::r=>if g=f then(g,v)::r else(g,x)::putD f v r
@[simp] noncomputable def Fd.cell:Fd->av Cell
 |.lst ds=>ak (.lst ds)
 |.dA kvs=>ak (.dA kvs)
 |.val _=>aq
theorem CU{α:Type}{f:a9}:∀{l:ao (a9×α)} {x:α},l.lookup f=ak x->∃i,l[i]?=ak (f,x)/\∀y,putD f y l=l.set i (f,y)
 |[],_,h=>by simp at h
 |(g,z)::r,x,h=>by
  by_cases e:g=f
  ·subst e;simp[List.lookup]at h;subst h;exact⟨0,rfl,λy=>by simp[putD]⟩
  ·have hb:(f==g)=au:=wO.mpr (cQ e);simp only[List.lookup,hb]at h;obtain⟨i,h1,h2⟩:=CU h;exact⟨i+1,by simpa using h1,λy=>by simp[putD,e,h2 y]⟩
theorem GW{α:Type}{f g:a9}{v:α}:∀{l:ao (a9×α)},(putD f v l).lookup g=if g=f then ak v else l.lookup g
 |[]=>by
  by_cases e:g=f
  ·subst e;simp[putD]
  ·have hb:(g==f)=au:=wO.mpr e;simp[putD,List.lookup,hb,e]
 |(k,x)::r=>by
  have ih:=GW (f:=f) (g:=g) (v:=v) (l:=r)
  by_cases h:k=f
  ·subst h
   by_cases e:g=k
   ·subst e;simp[putD]
   ·have hb:(g==k)=au:=wO.mpr e;simp[putD,List.lookup,hb,e]
  ·by_cases e:g=k
   ·subst e;simp[putD,h]
   ·have hb:(g==k)=au:=wO.mpr e;simp only[putD,ba h,List.lookup,hb];exact ih
theorem xQ{α:Type}{f:a9}{v w:α}:∀{l:ao (a9×α)},putD f w (putD f v l)=putD f w l
 |[]=>by simp[putD]
 |(k,x)::r=>by
  by_cases h:k=f
  ·simp[putD,h]
  ·simp[putD,h,xQ (l:=r)]
theorem Wo{α:Type}{f:a9}{v:α}:∀{l:ao (a9×α)},l.lookup f=ak v->putD f v l=l
 |[],h=>by simp at h
 |(k,x)::r,h=>by
  by_cases e:k=f
  ·subst e;simp[List.lookup]at h;subst h;simp[putD]
  ·have hb:(f==k)=au:=wO.mpr (cQ e);simp only[List.lookup,hb]at h;simp[putD,e,Wo h]
section
variable{K:bj}{G H:Hp}{O:ao ay}{Z:aG}
theorem wJ:∀{j:ao (a9×V)} {fs:ao (a9×Fd)},jS K G O H j fs<->j.length=fs.length/\∀(i:a4) (h:a9) (v:V) (g:a9) (fd:Fd),j[i]?=ak (h,v)->fs[i]?=ak (g,fd)->h=g/\kC K G O H v fd
 |[],[]=>⟨λ_=>⟨rfl,λi h v g fd q=>by simp at q⟩,λ_=>trivial⟩
 |[],_::_=>⟨λh=>h.elim,λh=>by simp at h⟩
 |_::_,[]=>⟨λh=>h.elim,λh=>by simp at h⟩
 |(f,v)::j,(g,d)::fs=>by
  constructor
  ·rintro⟨h1,h2,U⟩;obtain⟨L,z⟩:=wJ.mp U;refine⟨by simp[L],λi h B g' fd a b=>?_⟩;cases i with
   |zero=>simp at a b;obtain⟨rfl,rfl⟩:=a;obtain⟨rfl,rfl⟩:=b;exact⟨h1,h2⟩
   |succ i=>exact z i h B g' fd (by simpa using a) (by simpa using b)
  ·rintro⟨L,z⟩;obtain⟨h1,h2⟩:=z 0 f v g d rfl rfl;exact⟨h1,h2,wJ.mpr ⟨by simpa using L,λi h B g' fd a b=>z (i+1) h B g' fd (by simpa using a) (by simpa using b)⟩⟩
theorem jS.look{ws:ao (a9×V)}{fs:ao (a9×Fd)}{f:a9}{fd:Fd}(h:jS K G O H ws fs)(l:fs.lookup f=ak fd):∃v,ws.lookup f=ak v/\kC K G O H v fd:=by
 induction fs generalizing ws with
 |nil=>simp at l
 |cons p fs ih =>
  obtain⟨g,d⟩:=p;cases ws with
  |nil=>exact h.elim
  |cons q ws =>
   obtain⟨g',v⟩:=q;obtain⟨e,h2,j⟩:=h;subst e
   by_cases hb:(f==g')=ax
   ·simp only[List.lookup,hb]at l ⊢;cases l;exact⟨v,rfl,h2⟩
   ·have hb:(f==g')=au:=by simpa using hb
    simp only[List.lookup,hb]at l ⊢;exact ih j l
theorem jS.arZ{ws:ao (a9×V)}{fs:ao (a9×Fd)}{f:a9}(h:jS K G O H ws fs)(l:fs.lookup f=aq):ws.lookup f=aq:=by
 induction fs generalizing ws with
 |nil =>
  cases ws with
  |nil=>rfl
  |cons q ws=>exact h.elim
 |cons p fs ih =>
  obtain⟨g,d⟩:=p;cases ws with
  |nil=>exact h.elim
  |cons q ws =>
   obtain⟨g',v⟩:=q;obtain⟨e,h2,j⟩:=h;subst e
   by_cases hb:(f==g')=ax
   ·simp only[List.lookup,hb]at l;cases l
   ·have hb:(f==g')=au:=by simpa using hb
    simp only[List.lookup,hb]at l ⊢;exact ih j l
theorem jS.put{ws:ao (a9×V)}{fs:ao (a9×Fd)}{f:a9}{fd:Fd}{v:V}(h:jS K G O H ws fs)(d:kC K G O H v fd):jS K G O H (jK f v ws) (putD f fd fs):=by
 induction fs generalizing ws with
 |nil =>
  cases ws with
  |nil=>exact⟨rfl,d,trivial⟩
  |cons q ws=>exact h.elim
 |cons p fs ih =>
  obtain⟨g,x⟩:=p;cases ws with
  |nil=>exact h.elim
  |cons q ws =>
   obtain⟨g',B⟩:=q;obtain⟨e,h2,z⟩:=h;subst e
   by_cases j:g'=f
   ·simp only[jK,putD,a7 j];exact⟨rfl,d,z⟩
   ·simp only[jK,putD,ba j];exact⟨rfl,h2,ih z⟩
theorem jS.len{ws:ao (a9×V)}{fs:ao (a9×Fd)}(h:jS K G O H ws fs):ws.length=fs.length:=(wJ.mp h).1
theorem kC.aqG{v:V}{fd:Fd}{c:Cell}(h:kC K G O H v fd)(q:fd.cell=ak c):∃b,v=.ref b/\b∉O/\(∃o,H b=ak o)/\sP K G O H b c:=by
 cases fd with
 |val a=>cases q
 |lst ds=>cases q;obtain⟨b,xs,h1,h2,B,j,z⟩:=h;exact⟨b,h1,B,⟨_,j⟩,h2,xs,j,z⟩
 |dA L=>cases q;obtain⟨b,ws,h1,h2,B,j,z,U⟩:=h;exact⟨b,h1,B,⟨_,j⟩,h2,ws,j,z,U⟩
theorem kC.LX{b:ay}{fd:Fd}{c:Cell}(j:fd.cell=ak c)(hb:b∉O)(h:sP K G O H b c):kC K G O H (.ref b) fd:=by
 cases fd with
 |val a=>cases j
 |lst ds=>cases j;obtain⟨h1,xs,h2,q⟩:=h;exact⟨b,xs,rfl,h1,hb,h2,q⟩
 |dA z=>cases j;obtain⟨h1,ws,h2,q,B⟩:=h;exact⟨b,ws,rfl,h1,hb,h2,q,B⟩
theorem Fd.aFD{fd:Fd}{c:Cell}(j:fd.cell=ak c):fd.own=ax:=by cases fd <;> first|rfl|cases j
theorem Fd.aFE{fd:Fd}{c:Cell}(j:fd.cell=ak c):c.noOwn=ax:=by cases fd <;> cases j <;> rfl
theorem kC.lend{b:ay}{v:V}{fd:Fd}(h:kC K G O H v fd)(hb:fd.own=ax->v≠.ref b):kC K G (O++[b]) H v fd:=by
 cases fd with
 |val a=>exact Den.ext (Ext.cell b) h
 |lst ds =>
  obtain⟨B,xs,h1,h2,z,q,j⟩:=h;exact⟨B,xs,h1,h2,by simp;exact⟨z,λe=>hb rfl (by rw[h1,e])⟩,q,j.ext (Ext.cell b)⟩
 |dA L =>
  obtain⟨B,ws,h1,h2,z,q,j,U⟩:=h;exact⟨B,ws,h1,h2,by simp;exact⟨z,λe=>hb rfl (by rw[h1,e])⟩,q,j,U.ext (Ext.cell b)⟩
theorem Wd.unfold{s:a4}{cls f:a9}{fs:ao (a9×Fd)}{fd:Fd}{c:Cell}(w:Wd K G O Z H)(D:Z[s]?=ak (.ins cls fs))(hf:fs.lookup f=ak fd)(F:fd.cell=ak c) :
  ∃b,Wd K G (O++[b]) (Z.set s (.ins cls (putD f (.val (.aE Z.length)) fs))++[c]) H:=by
 obtain⟨a,ha⟩:=w.addr D;obtain⟨g,C,P,ws,h0,h1,h2⟩:=w.aE s _ a D ha;obtain⟨n,e1,e2⟩:=CU hf;obtain⟨q1,q2⟩:=wJ.mp h2;have yC:n<fs.length:=(cR.mp e1).1;obtain⟨⟨k0,v0⟩,e3⟩:∃p,ws[n]?=ak p:=⟨ws[n]'(by omega),gM _⟩;obtain⟨rfl,o0⟩:=q2 n k0 v0 f fd e3 e1;obtain⟨b,rfl,hb,⟨o,ho⟩,hC⟩:=o0.aqG F;have Xg:jO H O Z s n b:=⟨a,cls,fs,C,P,ws,_,_,fd,ha,D,h1,e1,Fd.aFD F,e3⟩;have pP:s<Z.length:=(cR.mp D).1;have I:∀k,k<Z.length->(O++[b])[k]?=O[k]?:=λk r=>jA (by rw[w.len];exact r);have M:∀k,k<Z.length->(Z.set s (.ins cls (putD k0 (.val (.aE Z.length)) fs))++[c])[k]?=(Z.set s (.ins cls (putD k0 (.val (.aE Z.length)) fs)))[k]?:=λk r=>jA (by simpa using r);refine⟨b,w.sub,?_,by simp[w.len],λx hx=>?_,λk c' Q l m=>?_,λb' k i k' i' l m=>?_⟩
 ·rw[YK];exact⟨w.inj,by simp,λx hx y hy=>by simp at hy;subst hy;exact λe=>hb (e ▸ hx)⟩
 ·rcases hX.mp hx with h|h
  ·exact w.live x h
  ·simp at h;subst h;exact⟨o,ho⟩
 ·by_cases r:k<Z.length
  ·rw[I k r]at m;rw[M k r]at l
   by_cases A:k=s
   ·subst A;rw[fP pP]at l;cases l;rw[ha]at m;cases m;refine⟨g,C,P,ws,h0,h1,wJ.mpr ⟨by rw[e2];simpa using q1,λj h v g' L B z=>?_⟩⟩;rw[e2]at z
    by_cases E:j=n
    ·subst E;rw[fP yC]at z;cases z;rw[e3]at B;cases B;refine⟨rfl,?_⟩;simp only[kC,Den];exact⟨b,rfl,by rw[<-w.len];simp⟩
    ·rw[eP (cQ E)]at z;obtain⟨T,S⟩:=q2 j h v g' L B z;refine⟨T,S.lend λW ev=>E ?_⟩;subst ev;exact(w.sep b _ j _ n ⟨a,cls,fs,C,P,ws,_,_,L,ha,D,h1,z,W,B⟩ Xg).2
   ·rw[eP (cQ A)]at l;have q:=w.aE k c' Q l m;cases c' with
    |lst ds=>obtain⟨B,xs,z,d⟩:=q;exact⟨B,xs,z,d.ext (Ext.cell b)⟩
    |dA kvs=>obtain⟨B,t,z,d,U⟩:=q;exact⟨B,t,z,d,U.ext (Ext.cell b)⟩
    |ins V X =>
     obtain⟨y0,R,N,t,B,z,d⟩:=q;obtain⟨p1,p2⟩:=wJ.mp d;refine⟨y0,R,N,t,B,z,wJ.mpr ⟨p1,λj h v g' L U u=>?_⟩⟩;obtain⟨T,S⟩:=p2 j h v g' L U u;refine⟨T,S.lend λW ev=>A ?_⟩;subst ev;exact(w.sep b k j s n ⟨Q,V,X,R,N,t,_,_,L,m,l,z,u,W,U⟩ Xg).1
    |tab x pos af=>exact q
    |dead=>trivial
  ·have dD:k=Z.length:=by
    have:=(cR.mp l).1;simp at this;omega
   subst dD;rw[<-w.len]at m;simp at m;subst m;simp at l;subst l;cases fd with
   |val x=>cases F
   |lst ds=>cases F;obtain⟨B,xs,z,d⟩:=hC;exact⟨B,xs,z,d.ext (Ext.cell b)⟩
   |dA kvs=>cases F;obtain⟨B,t,z,d,U⟩:=hC;exact⟨B,t,z,d,U.ext (Ext.cell b)⟩
 ·have back:∀{k i},jO H (O++[b]) (Z.set s (.ins cls (putD k0 (.val (.aE Z.length)) fs))++[c]) k i b'->jO H O Z k i b':=λ{k i} h=>by
   have h0':=h;obtain⟨Q,V,X,R,N,t,g',h',L,B,z,d,U,u,y6⟩:=h
   by_cases r:k<Z.length
   ·rw[I k r]at B;rw[M k r]at z
    by_cases A:k=s
    ·subst A;rw[fP pP]at z;cases z;rw[ha]at B;cases B;rw[h1]at d;cases d;rw[e2]at U
     by_cases E:i=n
     ·subst E;rw[fP yC]at U;cases U;cases u
     ·rw[eP (cQ E)]at U;exact⟨a,_,fs,C,P,ws,g',h',L,ha,D,h1,U,u,y6⟩
    ·rw[eP (cQ A)]at z;exact⟨Q,V,X,R,N,t,g',h',L,B,z,d,U,u,y6⟩
   ·have dD:k=Z.length:=by
     have:=(cR.mp z).1;simp at this;omega
    subst dD;exact(h0'.no (by simp) (Fd.aFE F)).elim
  exact w.sep b' k i k' i' (back l) (back m)
theorem nY.get{n:a4}:∀{fs:ao (a9×Fd)} {i:a4} {p:a9×Fd},nY n fs->fs[i]?=ak p->oW n p.2
 |[],_,_,_,h=>by simp at h
 |_::_,0,_,c,h=>by simp at h;subst h;exact c.1
 |_::fs,i+1,_,c,h=>nY.get (fs:=fs) c.2 (by simpa using h)
theorem Wd.fold{s:a4}{cls f:a9}{fs:ao (a9×Fd)}{fd:Fd}{c:Cell}{q:aG}(w:Wd K G O (q++[c]) H)(hs:q[s]?=ak (.ins cls fs))(hf:fs.lookup f=ak (.val (.aE q.length)))(hc:fd.cell=ak c)
  (N:∀k c',k≠s->q[k]?=ak c'->BI q.length c') (hfs:nY q.length (putD f fd fs)):Wd K G (O.take q.length) (q.set s (.ins cls (putD f fd fs))) H:=by
 have pP:s<q.length:=(cR.mp hs).1;have hlen:O.length=q.length+1:=by rw[w.len];simp
 have e:∀k,k<q.length->(q++[c])[k]?=q[k]?:=λk N=>jA N;have d:∀k,k<q.length->(O.take q.length)[k]?=O[k]?:=λk N=>by rw[JO,a7 N]
 obtain⟨b,hb⟩:∃b,O[q.length]?=ak b:=⟨O[q.length]'(by omega),gM _⟩;have eι:O=O.take q.length++[b]:=by
  have:=List.take_append_getElem (l:=O) (i:=q.length) (by omega);rw[gM (show q.length<O.length by omega)]at hb;cases hb;rw[List.take_append_getElem,YI (by omega)]
 have hbn:b∉O.take q.length:=λz=>by
  have nd:=w.inj;rw[eι,YK]at nd;exact nd.2.2 b z b (by simp) rfl
 have sub:∀x,x∉O->x∉O.take q.length:=λx hx z=>hx (Oo z);have ha:∃a,O[s]?=ak a:=w.addr (show(q++[c])[s]?=ak (.ins cls fs)by rw[e s pP];exact hs);obtain⟨a,ha⟩:=ha;obtain⟨g,C,dx,ws,h0,h1,h2⟩:=w.aE s _ a (by rw[e s pP];exact hs) ha;obtain⟨i0,e1,e2⟩:=CU hf;obtain⟨q1,q2⟩:=wJ.mp h2;have yC:i0<fs.length:=(cR.mp e1).1;have hcb:=w.aE q.length c b (by simp) hb;refine⟨w.sub,w.inj.sublist (QB ..),by simp[hlen],λx hx=>w.live x (Oo hx),λk c' S m u=>?_,λt k i k' i' m u=>?_⟩
 ·have y:k<q.length:=by simpa using(cR.mp m).1
  rw[d k y]at u
  by_cases D:k=s
  ·subst D;rw[fP pP]at m;cases m;rw[ha]at u;cases u;refine⟨g,C,dx,ws,h0,h1,wJ.mpr ⟨by rw[e2];simpa using q1,λj h v g' B U L=>?_⟩⟩;have R:oW q.length B:=hfs.get L;rw[e2]at L
   by_cases P:j=i0
   ·subst P;rw[fP yC]at L;cases L;obtain⟨W,p⟩:=q2 j h v _ _ U e1;refine⟨W,?_⟩;simp only[kC,Den]at p;obtain⟨b2,rfl,tF⟩:=p;rw[hb]at tF;cases tF;exact kC.LX hc hbn (hcb.cut d sub (by cases fd <;> cases hc <;> exact R))
   ·rw[eP (cQ P)]at L;obtain⟨W,p⟩:=q2 j h v g' B U L;exact⟨W,p.cut d sub R⟩
  ·rw[eP (cQ D)]at m;exact(w.aE k c' S (by rw[e k y];exact m) u).cut d sub (N k c' D m)
 ·
  have back:∀{k i},jO H (O.take q.length) (q.set s (.ins cls (putD f fd fs))) k i t->(jO H O (q++[c]) k i t/\t∉O)\/(k=s/\i=i0/\t=b):=λ{k i} h=>by
   obtain⟨S,X,M,C',rV,nZ,g',h',B,U,L,A,n,T,E⟩:=h;have y:k<q.length:=by simpa using(cR.mp L).1
   rw[d k y]at U;have ae:∀{X M nZ C' rV B g' h'},(q++[c])[k]?=ak (.ins X M)->H S=ak (.ins C' rV nZ)->M[i]?=ak (g',B)->B.own=ax->nZ[i]?=ak (h',V.ref t)->t∉O:=λ{_ _ _ _ _ fdx _ _} I F x3 x4 x5=>by
    obtain⟨_,_,_,ws2,_,p1,p2⟩:=w.aE k _ S I U;rw[F]at p1;cases p1;obtain⟨_,r⟩:=(wJ.mp p2).2 i _ _ _ _ x5 x3;cases fdx with
    |val x=>cases x4
    |lst ds=>obtain⟨b3,_,t1,_,t2,_⟩:=r;cases t1;exact t2
    |dA kvs=>obtain⟨b3,_,t1,_,t2,_⟩:=r;cases t1;exact t2
   by_cases D:k=s
   ·subst D;rw[fP pP]at L;cases L;rw[ha]at U;cases U;rw[h1]at A;cases A;rw[e2]at n
    by_cases P:i=i0
    ·subst P
     right
     rw[fP yC]at n;cases n;obtain⟨W,p⟩:=q2 i _ _ _ _ E e1;simp only[kC,Den]at p;obtain⟨b2,eb,tF⟩:=p;rw[hb]at tF;cases tF;cases eb;exact⟨rfl,rfl,rfl⟩
    ·rw[eP (cQ P)]at n;have Q:(q++[c])[k]?=ak (.ins cls fs):=by rw[e k y];exact hs
     exact .inl ⟨⟨a,_,fs,C,dx,ws,g',h',B,ha,Q,h1,n,T,E⟩,ae Q h1 n T E⟩
   ·rw[eP (cQ D)]at L;have Q:(q++[c])[k]?=ak (.ins X M):=by rw[e k y];exact L
    exact .inl ⟨⟨S,X,M,C',rV,nZ,g',h',B,U,Q,A,n,T,E⟩,ae Q A n T E⟩
  have o:b∈O:=jP hb
  rcases back m with⟨I,F⟩|⟨I,F,x3⟩ <;> rcases back u with⟨U,L⟩|⟨U,L,A⟩
  ·exact w.sep t k i k' i' I U
  ·subst A;exact b4 o F
  ·subst x3;exact b4 o L
  ·exact⟨I.trans U.symm,F.trans L.symm⟩
end
def PM(s:a4)(f:a9)(Z Z1:aG):Prop:=∃cls fs fd c,Z[s]?=ak (.ins cls fs)/\fs.lookup f=ak fd/\fd.cell=ak c/\Z1=Z.set s (.ins cls (putD f (.val (.aE Z.length)) fs))++[c]
def Folds(s:a4)(f:a9)(n:a4)(Z2 Z':aG):Prop:=∃j c cls fs fd,Z2=j++[c]/\j.length=n/\j[s]?=ak (.ins cls fs)/\fs.lookup f=ak (.val (.aE n))/\fd.cell=ak c /\
 (∀k c',k≠s->j[k]?=ak c'->BI n c')/\nY n (putD f fd fs)/\Z'=j.set s (.ins cls (putD f fd fs))
structure BH(Z:aG)(Y:Ev):Prop where
 aE:∀(k:a4) (c:Cell),Z[k]?=ak c->BI Z.length c
 env:∀(i:a4) (d:A),Y[i]?=ak (ak d)->Cl Z.length d
section
variable{K:bj}{G H:Hp}{O:ao ay}{Z Z1 Z2 Z':aG}{J:L2.St}{Y:Ev}{W:WX}{s:a4}{f:a9}
theorem Wd.mB(w:Wd K G O Z H)(r:gY K G O J Y):BH Z Y where
 aE:=λk c h=>by
  obtain⟨a,ha⟩:=w.addr h;have:=(w.aE k c a h ha).cl;rwa[w.len]at this
 env:=λi d h=>by
  obtain⟨v,_,q⟩:=r.2 i d h;have:=q.cl;rwa[w.len]at this
theorem Wd.Ak(w:Wd K G O Z H)(h:PM s f Z Z1):∃b,Wd K G (O++[b]) Z1 H:=by
 obtain⟨cls,fs,fd,c,h1,h2,j,rfl⟩:=h;exact w.unfold h1 h2 j
theorem abN{G':Hp}{O':ao ay}{b:ay}{n:a4}(hl:O.length=n)(e:Ext G (O++[b]) G' O'):Ext G O G' (O'.take n):=⟨e.same,λk x h=>by
 have j:=(cR.mp h).1;rw[JO,a7 (by omega)];exact e.pre k x (by rw[jA j];exact h)⟩
theorem Wd.abJ{n:a4}(w:Wd K G O Z2 H)(h:Folds s f n Z2 Z'):Wd K G (O.take n) Z' H:=by
 obtain⟨j,c,cls,fs,fd,rfl,rfl,U,L,B,z,q,rfl⟩:=h;exact w.fold U L B z q
theorem Tu{O':ao ay}{n:a4}:∀k,k<n->(O'.take n)[k]?=O'[k]?:=λk j=>by rw[JO,a7 j]
theorem aoU{α β:Type}{rel:Rl α β}{cl:a4->α->Prop}(z:∀(G:Hp) (O O':ao ay) (n:a4) (v:β) (a:α),(∀k,k<n->O[k]?=O'[k]?)->rel G O' v a->cl n a->rel G O v a)
  {b:ay} {Q:β->Hp->Prop} {a:α} (w:Wd K G O Z H) (q:Folds s f Z.length Z2 Z') (ha:cl Z.length a) (h:bS K rel W G O J Q (ak (.ok a,Z'))):bS K rel W G (O++[b]) J Q (ak (.ok a,Z2)):=by
 intro v B L O' e j d;exact h v B L (O'.take Z.length) (abN w.len e) (j.abJ q) (z _ _ _ _ _ _ Tu d ha)
theorem abS{q:L2.St}{j:Ev}{G':Hp}{O':ao ay}{n:a4}(r:gY K G' O' q j)(z:∀(i:a4) (d:A),j[i]?=ak (ak d)->Cl n d):gY K G' (O'.take n) q j :=
 ⟨r.1,λi d h=>let ⟨v,h1,h2⟩:=r.2 i d h; ⟨v,h1,h2.cut Tu (z i d h)⟩⟩
theorem Ws{b:ay}{D:Ends}{j:Ev}(w:Wd K G O Z H)(a:Folds s f Z.length Z2 Z')(U:∀(i:a4) (d:A),j[i]?=ak (ak d)->Cl Z.length d)(h:fA K W G O D (ak (.nx,j,Z'))):fA K W G (O++[b]) D (ak (.nx,j,Z2)):=by
 intro q c g z e B L;exact h q c g (z.take Z.length) (abN w.len e) (B.abJ a) (abS L U)
end
section
variable{X:Cx}{W:WX}{e:bx}{tg:bx}{st:bw}{g d:Ev->Mo A}{gb db:Ev->Mo bh}{gs ds:MS}{gt dt:A->MS}
theorem RT(h:VE X W e g)(hd:∀Y Z r,BH Z Y->d Y Z=ak r->∃s f Z1 a Z2,PM s f Z Z1/\g Y Z1=ak (.ok a,Z2)/\Folds s f Z.length Z2 r.2/\Cl Z.length a/\r.1=.ok a):VE X W e d:=by
 obtain⟨t,p,sm⟩:=h;refine⟨t,p,λG B Z H J Y Q w r h=>?_⟩;cases e:d Y Z with
 |none=>rw[e]at h;exact h.elim
 |some q =>
  obtain⟨s,f,Z1,a,Z2,h1,h2,j,U,z⟩:=hd Y Z q (w.mB r) e;obtain⟨b,L⟩:=w.Ak h1;obtain⟨i,c⟩:=q;simp only at j z;subst z;rw[e]at h;refine sm G (B++[b]) Z1 H J Y Q L (r.ext (Ext.cell b)) ?_;rw[h2];exact aoU (rel:=Den X.K) (cl:=Cl) (λ_ _ _ _ _ _ h1 h2 j=>h2.cut h1 j) w j U h
theorem agC(h:VS X W st gs)(hd:∀Y Z r,BH Z Y->ds Y Z=ak r->∃s f Z1 Z2,PM s f Z Z1/\gs Y Z1=ak (.nx,r.2.1,Z2)/\Folds s f Z.length Z2 r.2.2/\(∀(i:a4) (d:A),r.2.1[i]?=ak (ak d)->Cl Z.length d)/\r.1=.nx):VS X W st ds:=by
 obtain⟨t,p,sm⟩:=h;refine⟨t,p,λG L Z H J Y D w r h=>?_⟩;cases e:ds Y Z with
 |none=>rw[e]at h;exact h.elim
 |some q =>
  obtain⟨s,f,Z1,Z2,h1,h2,B,z,j⟩:=hd Y Z q (w.mB r) e;obtain⟨b,U⟩:=w.Ak h1;obtain⟨g,c,a⟩:=q;simp only at h2 B z j;subst j;rw[e]at h;refine sm G (L++[b]) Z1 H J Y D U (r.ext (Ext.cell b)) ?_;rw[h2];exact Ws w B z h
theorem agJ(h:VG X W tg gt)(hd:∀a Y Z r,BH Z Y->Cl Z.length a->dt a Y Z=ak r->∃s f Z1 Z2,PM s f Z Z1/\gt a Y Z1=ak (.nx,r.2.1,Z2)/\Folds s f Z.length Z2 r.2.2/\(∀(i:a4) (d:A),r.2.1[i]?=ak (ak d)->Cl Z.length d)/\r.1=.nx):VG X W tg dt:=by
 obtain⟨t,p,sm⟩:=h;refine⟨t,p,λG U Z H J Y v a D w r L h=>?_⟩;cases e:dt a Y Z with
 |none=>rw[e]at h;exact h.elim
 |some q =>
  obtain⟨s,f,Z1,Z2,h1,h2,B,z,j⟩:=hd a Y Z q (w.mB r) (by have:=L.cl;rwa[w.len]at this) e;obtain⟨b,c⟩:=w.Ak h1;obtain⟨l,k,g⟩:=q;simp only at h2 B z j;subst j;rw[e]at h;refine sm G (U++[b]) Z1 H J Y v a D c (r.ext (Ext.cell b)) (L.ext (Ext.cell b)) ?_;rw[h2];exact Ws w B z h
end
def dM(K:bj)(cs:ao a9)(f:a9):Prop:=∀cls∈cs,∃C,cu K a5 cls=ak (ak (.ref C))/\nE K C/\ES K C f
@[simp] def Ji(cs:ao a9)(f:a9)(a:A):Mo A:=λZ=>match a with
 |.aE s=>match Z[s]? with
  |some (.ins cls fs)=>if cls∈cs then match fs.lookup f with
   |some (.val b)=>ak (.ok b,Z)
   |_=>aq else aq
  |_=>aq
 |_=>aq
@[simp] def dO(cs:ao a9)(f:a9)(fe:Ev->Mo A):Ev->Mo A:=λY=>mb (fe Y) (Ji cs f)
@[simp] def mV(cs:ao a9)(f:a9)(fo fv:Ev->Mo A):MS:=λY=>sM (fv Y) Y λb=>sM (fo Y) Y λa Z=>match a with
 |.aE s=>match Z[s]? with
  |some (.ins cls fs)=>if cls∈cs/\fs.length<1000 then ak (.nx,Y,Z.set s (.ins cls (putD f (.val b) fs)))else aq
  |_=>aq
 |_=>aq
section
variable{K:bj}{G H:Hp}{O:ao ay}{Z:aG}
theorem Wd.ins(w:Wd K G O Z H){s:a4}{cls:a9}{fs:ao (a9×Fd)}{v:V}(h:Z[s]?=ak (.ins cls fs))(d:Den K G O v (.aE s)):∃a C dx,∃ws:ao (a9×V),v=.ref a/\O[s]?=ak a/\G a=aq/\cu K a5 cls=ak (ak (.ref C))/\H a=ak (.ins C dx ws)/\jS K G O H ws fs:=by
 simp only[Den]at d;obtain⟨a,rfl,ha⟩:=d;obtain⟨g,C,dx,ws,h1,h2,j⟩:=w.aE s _ a h ha;exact⟨a,C,dx,ws,rfl,ha,g,h1,h2,j⟩
theorem Wn{f:a9}{v:V}{b:A}:∀{j:ao (a9×V)} {fs:ao (a9×Fd)} {i:a4} {g h:a9} {fd:Fd} {x:V},jS K G O H j fs->(putD f (.val b) fs)[i]?=ak (g,fd)->fd.own=ax->(jK f v j)[i]?=ak (h,x)->fs[i]?=ak (g,fd)/\j[i]?=ak (h,x)
 |[],[],i,g,h,fd,x,_,y,o,_=>by
  cases i with
  |zero=>simp[putD]at y;obtain⟨_,rfl⟩:=y;cases o
  |succ i=>simp[putD]at y
 |[],_::_,_,_,_,_,_,q,_,_,_=>q.elim
 |_::_,[],_,_,_,_,_,q,_,_,_=>q.elim
 |(k,u)::j,(U,d)::fs,i,g,h,fd,x,q,y,o,z=>by
  obtain⟨rfl,L,B⟩:=q
  by_cases e:k=f
  ·simp only[putD,jK,a7 e]at y z;cases i with
   |zero=>simp at y;obtain⟨_,rfl⟩:=y;cases o
   |succ i=>exact⟨by simpa using y,by simpa using z⟩
  ·simp only[putD,jK,ba e]at y z;cases i with
   |zero=>exact⟨by simpa using y,by simpa using z⟩
   |succ i =>
    have:=Wn (f:=f) (v:=v) (b:=b) (i:=i) B (by simpa using y) o (by simpa using z);exact⟨by simpa using this.1,by simpa using this.2⟩
theorem Wd.akU(w:Wd K G O Z H){s:a4}{cls f:a9}{fs:ao (a9×Fd)}{a C dx:ay}{ws:ao (a9×V)}{v:V}{b:A}(h:Z[s]?=ak (.ins cls fs))(ha:O[s]?=ak a)(E:G a=aq)(h0:cu K a5 cls=ak (ak (.ref C)))
  (h1:H a=ak (.ins C dx ws)) (h2:jS K G O H ws fs) (d:Den K G O v b):Wd K G O (Z.set s (.ins cls (putD f (.val b) fs))) (upd H a (.ins C dx (jK f v ws))):=by
 have t:s<Z.length:=(cR.mp h).1;have D:∀b o,b∉O->G b=aq->H b=ak o->b∉O/\G b=aq/\upd H a (.ins C dx (jK f v ws)) b=ak o:=λb o x y z=>by
  have nb:b≠a:=λe=>by subst e;exact x (HI ha)
  exact⟨x,y,by rw[bX nb];exact z⟩
 have W:jS K G O (upd H a (.ins C dx (jK f v ws))) ws fs:=h2.map λ_ _ q=>q.mono (Ext.refl _ _) D;refine⟨λb u q=>?_,w.inj,by simp[w.len],λb hb=>?_,λj S b U L=>?_,λn j i Q R U L=>?_⟩
 ·have e:b≠a:=λe=>by subst e;rw[E]at q;cases q
  rw[bX e];exact w.sub _ _ q
 ·by_cases e:b=a
  ·subst e;exact⟨_,gV⟩
  ·rw[bX e];exact w.live b hb
 ·by_cases B:j=s
  ·subst B;rw[fP t]at U;cases U;rw[ha]at L;cases L;exact⟨E,C,dx,_,h0,gV,W.put d⟩
  ·rw[eP (cQ B)]at U;have jM:b≠a:=λe=>by subst e;exact B (GZ w.inj L ha)
   exact(w.aE j S b U L).mono (Ext.refl _ _) rfl (bX jM) D
 ·have back:∀{j i},jO (upd H a (.ins C dx (jK f v ws))) O (Z.set s (.ins cls (putD f (.val b) fs))) j i n->jO H O Z j i n:=λ{j i} q=>by
   obtain⟨F,M,P,T,I,N,g',h',c,l,k,g,r,m,p⟩:=q
   by_cases B:j=s
   ·subst B;rw[fP t]at k;cases k;rw[ha]at l;cases l;rw[gV]at g;cases g;have pi:=Wn h2 r m p;exact⟨a,cls,fs,C,dx,ws,g',h',c,ha,h,h1,pi.1,m,pi.2⟩
   ·rw[eP (cQ B)]at k;have jM:F≠a:=λe=>by subst e;exact B (GZ w.inj l ha)
    rw[bX jM]at g;exact⟨F,M,P,T,I,N,g',h',c,l,k,g,r,m,p⟩
  exact w.sep n j i Q R (back U) (back L)
end
section
variable{X:Cx}{W:WX}{e o value:bx}{f:a9}{cs:ao a9}{pos pos':dg}{fe fo fv:Ev->Mo A}
theorem fK(h:VE X W e fe)(x:dM X.K cs f)(hb:df e f X.env (cb e X.env)=cb e X.env:=by rfl):VE X W (.Attribute e f pos) (dO cs f fe):=by
 obtain⟨t,p,s⟩:=h;refine⟨_,ap0 p hb,λG g i H J d Q w r h=>?_⟩;refine s G g i H J d _ w r (bS.mb h λa q v N P j R L M h1=>?_);unfold Ji at h1;cases a with
 |aE k =>
  simp only at h1;cases B:q[k]? with
  |none=>rw[B]at h1;exact h1.elim
  |some c =>
   rw[B]at h1;cases c with
   |ins cls fs =>
    simp only at h1
    by_cases lI:cls∈cs
    ·rw[a7 lI]at h1;cases z:fs.lookup f with
     |none=>rw[z]at h1;exact h1.elim
     |some E =>
      rw[z]at h1;cases E with
      |val b =>
       obtain⟨a,C,F,m,rfl,ha,S,D,y,A⟩:=L.ins B M;obtain⟨T,U,o,n⟩:=x cls lI;rw[D]at U;cases U;obtain⟨u,l,I⟩:=A.look z;exact⟨a,C,F,m,u,rfl,y,o,n,l,h1 u N P j (Ext.refl _ _) L I⟩
      |_=>exact h1.elim
    ·rw[ba lI]at h1;exact h1.elim
   |_=>exact h1.elim
 |_=>exact h1.elim
theorem qF(R:VE X W o fo)(hv:VE X W value fv)(T:dM X.K cs f)(Q:e4 value (ak (.Attribute o f pos')) pos.line X.env=pure au:=by rfl):VS X W (.Assign [.Attribute o f pos'] value pos) (mV cs f fo fv):=by
 obtain⟨t,p,s⟩:=R;obtain⟨u,q,z⟩:=hv;refine⟨_,aoN p q Q,λG E F H J e D w r h=>?_⟩;refine z G E F H J e _ w r (fA.sM h r λb U y H1 G1 B d M d1 h1=>?_);refine s G1 B U H1 J e _ M (r.ext d) (fA.sM h1 (r.ext d) λa L v H2 G2 A g i d2 h2=>?_);cases a with
 |aE k =>
  simp only at h2;cases j:L[k]? with
  |none=>rw[j]at h2;exact h2.elim
  |some c =>
   rw[j]at h2;cases c with
   |ins cls fs =>
    simp only at h2
    by_cases lI:cls∈cs/\fs.length<1000
    ·rw[a7 lI]at h2;obtain⟨a,C,V,I,rfl,ha,S,x,m,n⟩:=i.ins j d2;obtain⟨C',l,P,N⟩:=T cls lI.1;rw[x]at l;cases l;refine⟨a,C,V,I,rfl,m,P,N,by rw[n.len];exact lI.2,?_⟩;exact uI (i.akU j ha S x m n (d1.ext g)) ((r.ext d).ext g) h2
    ·rw[ba lI]at h2;exact h2.elim
   |_=>exact h2.elim
 |_=>exact h2.elim
end
end V2
namespace L2
open PySem PySem.Spec PyProof.Rows
section
variable{X:Cx}{W:WX}{k:a4}{f C:ay}{fd:cy}{ps:ao a9}{sp:Sp}{dvs:ao V}{ds:ao ar}{x m:a9}{p pos ag:dg}{e o:bx}{es:ao bx}{ta:TE}{t:TA}
theorem Dw{aa:ao (ay×cp)}{J:St}{H:Hp}{s:aw}{Q:VK}{us:ao ar}{vs:ao V}(T:nS X W)(F:jR X.prog X.w X.K X.mg X.base (qA X.prog X.w) k f fd ps sp)(hr:dP k X.A)(hb:Binds X.K fd ps ds)(hd:Vals dvs ds)
  (I:Inv X aa J H s) (r:Vals vs us) (h:sp (vs++dvs) H Q λcls dx H'=>W J cls dx H'):wpAny (bq X.prog X.w) X.A (call (.ref f) us) (EP X aa J Q) X.xe s:=by
 have q:Vals (vs++dvs) (us++ds):=r.append hd;have hl:(us++ds).length=ps.length:=by rw[<-q.length];exact F.len _ _ _ _ h
 refine wpAny_call (yN (F.run X.A X.stack s H ⟨us,[]⟩ (us++ds) (vs++dvs) Q _ hr I.yK (hb s us I.gG hl) q h) λr s' j=>?_);cases r with
 |error U =>
  obtain⟨a,cls,dx,H',rfl,os,bare,un,aL,ex,B⟩:=j;have L:=(I.WR os un aL bare (λb z=>b4 z (by simp))).Ej;exact T.to _ _ ⟨J,H',a,cls,dx,rfl,L,(ex.first I T.ex).any,B⟩
 |ok fl =>
  cases fl with
  |ret u=>exact I.after j
  |next=>exact False.elim j
  |brk=>exact False.elim j
  |cont=>exact False.elim j
def Ax(X:Cx)(W:WX)(m:a9)(ta:TE)(t:TA):TE:=λJ H Q=>ta J H λx H1=>∃a C dx fs k f fd ps ds dvs sp,x=.ref a/\H1 a=ak (.ins C dx fs)/\fs.lookup m=aq/\nE X.K C/\Meth X.K C m f /\
 jR X.prog X.w X.K X.mg X.base (qA X.prog X.w) k f fd ps sp/\dP k X.A/\Binds X.K fd ps ds/\Vals dvs ds/\t J H1 λvs H2=>sp (.ref a::vs++dvs) H2 Q λcls dx H'=>W J cls dx H'
theorem apU{pl:Sem bh}(T:nS X W)(he:PE X o ta)(ha:PA X (e::es) t)
  (b:bf (e::es) X.env=(au,cb e X.env)::bf es X.env:=by rfl) (g:(cv pos (bf es X.env)).any (·.1)=au:=by rfl)
  (d:cb (.Call (.Attribute o m ag) (e::es) [] pos) X.env=(do
   let ov<-cb o X.env
   standAt ag.atName
   let (f,first)<-dy [ov] (getMethod ov m pl)
   callWith pos f first (cv pos (bf (e::es) X.env)) (backToKw pos (dn [] X.env))):=by rfl) :
  PE X (.Call (.Attribute o m ag) (e::es) [] pos) (Ax X W m ta t):=by
 intro aa s J H Q I h;refine methodCall_KW (pl:=pl) (bM (he aa s J H _ I h) λu B h1=>?_) d;obtain⟨x,p,z,L,a,C,A,fs,k,f,y,w,ds,n,v,rfl,i,l,c,hm,F,hr,hb,hd,q⟩:=h1;obtain rfl:u=Value.ref a:=L;refine aa8 z i c hm l ?_;refine callWith_K (first:=[.ref a]) (h₀:=X.base) I.ok.mod.zY hm.kp (bM (ha pos aa B J p _ z q) λus s2 ⟨vs,D,j,r,U⟩=>⟨j.gG,?_⟩) b g;exact Dw (us:=.ref a::us) (vs:=.ref a::vs) T F hr hb hd j (.cons rfl r) U
theorem apT{pl:Sem bh}(T:nS X W)(he:PE X o ta)
  (B:cb (.Call (.Attribute o m ag) [] [] pos) X.env=(do
   let ov<-cb o X.env
   standAt ag.atName
   let (f,first)<-dy [ov] (getMethod ov m pl)
   callWith pos f first (cv pos (bf [] X.env)) (backToKw pos (dn [] X.env))):=by rfl) :
  PE X (.Call (.Attribute o m ag) [] [] pos) (Ax X W m ta Ua):=by
 intro aa s J H Q I h;refine methodCall_KW (pl:=pl) (bM (he aa s J H _ I h) λu d h1=>?_) B;obtain⟨x,n,j,z,a,C,i,fs,k,f,g,e,ds,U,b,rfl,L,l,c,hm,F,hr,hb,hd,q⟩:=h1;obtain rfl:u=Value.ref a:=z;refine aa8 j L c hm l ?_;exact PySem.W.callWith_K0 (first:=[.ref a]) j.gG hm.kp (Dw (us:=[.ref a]) (vs:=[.ref a]) T F hr hb hd j (.cons rfl .nil) q)
structure Qw(K:bj)(R:ay)(m:a9)(f:ay):Prop where
 reads:PySem.W.readsIn K R (.type "type")=ax
 find:PySem.W.findCls K (.ref R) (.type "type") m=ak (.val (.ref f))
 ga:specialIn K (.ref R) "__getattribute__" = ak (ak (.builtin "type.__getattribute__"))
 kp:keepIn K (.ref f)=ax
theorem aqA{pl:Sem bh}{R:ay}{rk:a9}{np:dg}(T:nS X W)(B:Qw X.K R m f)(j:X.mg rk=ak (.ref R))(b:Gl X rk)(F:jR X.prog X.w X.K X.mg X.base (qA X.prog X.w) k f fd ps sp)(hr:dP k X.A)(hb:Binds X.K fd ps [])(ha:PA X (e::es) t)
  (c:(rk==("__debug__" : a9))=au:=by decide) (U:bf (e::es) X.env=(au,cb e X.env)::bf es X.env:=by rfl) (d:(cv pos (bf es X.env)).any (·.1)=au:=by rfl)
  (a:cb (.Call (.Attribute (.Name rk np) m ag) (e::es) [] pos) X.env=(do
   let ov<-cb (.Name rk np) X.env
   standAt ag.atName
   let (f,first)<-dy [ov] (getMethod ov m pl)
   callWith pos f first (cv pos (bf (e::es) X.env)) (backToKw pos (dn [] X.env))):=by rfl) :
  PE X (.Call (.Attribute (.Name rk np) m ag) (e::es) [] pos) (Ue sp W t):=by
 intro aa s J H Q I h;refine methodCall_KW (pl:=pl) (HL I b j ?_ c) a;refine PySem.W.method_cls I.gG B.ga (PySem.W.cls_value I.gG B.reads B.find (aaU (v:=.ref f) rfl) ?_);have i:=I.tok (s.toks+1);refine callWith_K (first:=[]) (h₀:=X.base) I.ok.mod.zY B.kp (bM (ha pos aa _ J H _ i h) λus s2 ⟨vs,l,q,r,L⟩=>⟨q.gG,?_⟩) U d;have z:sp (vs++[]) l Q λcls g n=>W J cls g n:=by rw[pY];exact L
 exact Dw (us:=us) (vs:=vs) (dvs:=[]) T F hr hb .nil q r z
end
end L2
namespace V2
open PySem PySem.Spec PyProof.Rows L2
@[simp] def bZ(n:a4)(das:ao A)(F:ao A->Mo A):ao A->Mo A:=λas=>if as.length+das.length=n then F (as++das)else stuck
structure bV(P:bg)(w:br)(K:bj)(mg:a9->av ar)(base:bz)(cls m:a9)(k:a4)(n:a4)(das:ao A)(F:ao A->Mo A):Prop where
 ex:∃C f fd ps ds dvs,cu K a5 cls=ak (ak (.ref C))/\nE K C/\Meth K C m f/\ps.length=n/\jR P w K mg base (qA P w) k f fd ps (vM K ps.length F)/\Binds K fd ps ds/\Vals dvs ds/\∀G O,aY K G O dvs das
@[simp] def NW(m:a9)(tab:ao (a9×(ao A->Mo A)))(fs:Mo (ao A))(a:A):Mo A:=λZ=>match a with
 |.aE s=>match Z[s]? with
  |some (.ins cls j)=>match tab.lookup cls,j.lookup m with
   |some F,aq=>mb fs (λas=>F (.aE s::as)) Z
   |_,_=>aq
  |_=>aq
 |_=>aq
@[simp] def cU(m:a9)(tab:ao (a9×(ao A->Mo A)))(fo:Ev->Mo A)(fs:Ev->Mo (ao A)):Ev->Mo A:=λY=>mb (fo Y) (NW m tab (fs Y))
def bI(X:Cx)(m:a9)(tab:ao (a9×(ao A->Mo A))):Prop:=∀cls F,tab.lookup cls=ak F->∃k n das j,F=bZ n das j/\dP k X.A/\bV X.prog X.w X.K X.mg X.base cls m k n das j
section
variable{X:Cx}{W:WX}{m:a9}{tab:ao (a9×(ao A->Mo A))}{o e:bx}{es:ao bx}{fo:Ev->Mo A}{fs:Ev->Mo (ao A)}{pos ag:dg}
theorem bI.nil:bI X m []:=λcls F h=>by simp at h
theorem bI.cons{cls:a9}{k n:a4}{das:ao A}{F:ao A->Mo A}(h:bV X.prog X.w X.K X.mg X.base cls m k n das F)(hr:dP k X.A)(t:bI X m tab):bI X m ((cls,bZ n das F)::tab):=λc j q=>by
 by_cases e:c=cls
 ·subst e;simp[List.lookup]at q;exact⟨k,n,das,F,q.symm,hr,h⟩
 ·have hb:(c==cls)=au:=wO.mpr e;simp only[List.lookup,hb]at q;exact t c j q
theorem Vc{ta:TE}{t:TA}(MQ:bI X m tab)(R:gT X.K (Den X.K) W ta fo)(s2:gT X.K (aY X.K) W t fs):gT X.K (Den X.K) W (Ax X W m ta t) (cU m tab fo fs):=by
 intro G A D H J l Q w r h;refine R G A D H J l _ w r (bS.mb h λa q v H1 G1 L I o i h1=>?_);unfold NW at h1;cases a with
 |aE s =>
  simp only at h1;cases g:q[s]? with
  |none=>rw[g]at h1;exact h1.elim
  |some c =>
   rw[g]at h1;cases c with
   |ins cls Jm =>
    simp only at h1;cases e:tab.lookup cls with
    |none=>rw[e]at h1;exact h1.elim
    |some F =>
     rw[e]at h1;cases d:Jm.lookup m with
     |some _=>rw[d]at h1;exact h1.elim
     |none =>
      rw[d]at h1;obtain⟨k,n,B,F0,rfl,hr,MV⟩:=MQ cls F e;obtain⟨C,f,fd,S,ds,z,hC,lI,VC,hn,FO,hb,hv,b⟩:=MV.ex;obtain⟨a,C',dx,M,rfl,ha,hg,p,T,V⟩:=o.ins g i;rw[hC]at p;cases p;refine⟨a,C,dx,M,k,f,fd,S,ds,z,_,rfl,T,V.arZ d,lI,VC,FO,hr,hb,hv,?_⟩;refine s2 G1 L q H1 J l _ o (r.ext I) (bS.mb h1 λx U P H2 y j E N d2 h2=>?_);unfold bZ at h2;split at h2
      ·rename_i hl;have u:aY X.K y j (.ref a::P++z) (.aE s::x++B):=(aY.cons (by simp only[Den]at i ⊢;obtain⟨a2,e5,e6⟩:=i;exact⟨a2,e5,E.pre _ _ e6⟩) d2).append (b _ _);refine⟨?_,y,j,U,.aE s::x++B,N,u,Km h2 (Ext.refl _ _)⟩;have:=u.length;rw[this,hn];simp only[fJ,eB]at hl ⊢;omega
      ·exact h2.elim
   |_=>exact h1.elim
 |_=>exact h1.elim
theorem iS{pl:Sem bh}(T:nS X W)(a:bI X m tab)(L:VE X W o fo)(ha:VA X W (e::es) fs)
  (z:bf (e::es) X.env=(au,cb e X.env)::bf es X.env:=by rfl) (U:(cv pos (bf es X.env)).any (·.1)=au:=by rfl)
  (B:cb (.Call (.Attribute o m ag) (e::es) [] pos) X.env=(do
   let ov<-cb o X.env
   standAt ag.atName
   let (f,first)<-dy [ov] (getMethod ov m pl)
   callWith pos f first (cv pos (bf (e::es) X.env)) (backToKw pos (dn [] X.env))):=by rfl) :
  VE X W (.Call (.Attribute o m ag) (e::es) [] pos) (cU m tab fo fs):=by
 obtain⟨b,q,j⟩:=L;obtain⟨t,p2,s2⟩:=ha;exact⟨_,apU T q p2 z U B,Vc a j s2⟩
theorem qG{pl:Sem bh}(T:nS X W)(U:bI X m tab)(L:VE X W o fo)
  (B:cb (.Call (.Attribute o m ag) [] [] pos) X.env=(do
   let ov<-cb o X.env
   standAt ag.atName
   let (f,first)<-dy [ov] (getMethod ov m pl)
   callWith pos f first (cv pos (bf [] X.env)) (backToKw pos (dn [] X.env))):=by rfl) :
  VE X W (.Call (.Attribute o m ag) [] [] pos) (cU m tab fo a0):=by
 obtain⟨c,z,q⟩:=L;refine⟨_,apT T z B,Vc U q ?_⟩;intro G j b H J a Q w r h;exact h [] H G j (Ext.refl _ _) w .nil
structure JI(P:bg)(w:br)(K:bj)(mg:a9->av ar)(base:bz)(cls:a9)(k:a4)(n:a4)(F:ao A->Mo A):Prop where
 ex:∃C f fd ps,cu K a5 cls=ak (ak (.ref C))/\mg cls=ak (.ref C)/\Mk K C f/\ps.length=n/\jR P w K mg base (qA P w) k f fd ps (vM K ps.length F)/\Binds K fd ps []
@[simp] noncomputable def AK(cls:a9)(n:a4)(F:ao A->Mo A)(as:ao A):Mo A:=λZ=>if as.length+1=n then match F (.aE Z.length::as) (Z++[.ins cls []])with
 |some (.ok .bQ,Z2)=>ak (.ok (.aE Z.length),Z2)
 |_=>aq else aq
theorem ZY{cls:a9}{k n:a4}{F:ao A->Mo A}{p:dg}(M:JI X.prog X.w X.K X.mg X.base cls k n F)(hr:dP (k+1) X.A)(R:Gl X cls)(ha:VA X W (e::es) fs)
  (S:(cls==("__debug__" : a9))=au:=by decide) (he:bf (e::es) X.env=(au,cb e X.env)::bf es X.env:=by rfl) (V:(cv pos (bf es X.env)).any (·.1)=au:=by rfl) :
  VE X W (.Call (.Name cls p) (e::es) [] pos) (aU (AK cls n F) fs):=by
 obtain⟨C,f,fd,ps,T,hm,mk,hn,FO,hb⟩:=M.ex;obtain⟨t,P,N⟩:=ha;refine⟨_,apV mk (acI FO) hr R hm hb .nil aqD P S he V,λG o u H J m Q w r h=>?_⟩;refine N G o u H J m _ w r (bS.mb h λc j I d g z x1 L d1 h1=>?_);unfold AK at h1
 by_cases hl:c.length+1=n
 ·rw[a7 hl]at h1;intro x B l NL jM;have D:=L.grow (H':=upd d B (.own x)) (nT.new NL);have DD:upd d B (.own x) x=aq:=by rw[bX (cQ jM)];exact l
  have y:Wd X.K g (z++[x]) (j++[.ins cls []]) (upd (upd d B (.own x)) x (.ins C B [])):=D.cell DD ⟨L.rC l,C,B,[],T,gV,trivial⟩;have i:aY X.K g (z++[x]) (.ref x::(I++[])) (.aE j.length::c):=.cons (by simp only[Den];exact⟨x,rfl,by rw[<-L.len];simp⟩) (by rw[pY];exact d1.ext (Ext.cell x));refine⟨by rw[i.length,hn];simpa using hl,g,z++[x],_,_,y,i,?_⟩
  revert h1
  generalize F (.aE j.length::c) (j++[.ins cls []])=q;intro h1
  match q,h1 with
  |some (.ok .bQ,s),h1 =>
   intro v H' G' U b E d';simp only[Den]at d';subst d';refine⟨rfl,h1 (.ref x) H' G' U ⟨b.same,λk a q=>b.pre k a (by rw[jA (cR.mp q).1];exact q)⟩ E ?_⟩;simp only[Den];exact⟨x,rfl,b.pre _ _ (by rw[<-L.len];simp)⟩
 ·rw[ba hl]at h1;exact h1.elim
structure FD(P:bg)(w:br)(K:bj)(mg:a9->av ar)(base:bz)(rk m:a9)(k:a4)(n:a4)(F:ao A->Mo A):Prop where
 ex:∃R f fd ps,mg rk=ak (.ref R)/\Qw K R m f/\ps.length=n/\jR P w K mg base (qA P w) k f fd ps (vM K ps.length F)/\Binds K fd ps []
theorem agV{pl:Sem bh}{rk:a9}{k n:a4}{F:ao A->Mo A}{np:dg}(T:nS X W)(B:FD X.prog X.w X.K X.mg X.base rk m k n F)(l:Gl X rk)(hr:dP k X.A)(ha:VA X W (e::es) fs)
  (o:(rk==("__debug__" : a9))=au:=by decide) (g:bf (e::es) X.env=(au,cb e X.env)::bf es X.env:=by rfl) (p:(cv pos (bf es X.env)).any (·.1)=au:=by rfl)
  (i:cb (.Call (.Attribute (.Name rk np) m ag) (e::es) [] pos) X.env=(do
   let ov<-cb (.Name rk np) X.env
   standAt ag.atName
   let (f,first)<-dy [ov] (getMethod ov m pl)
   callWith pos f first (cv pos (bf (e::es) X.env)) (backToKw pos (dn [] X.env))):=by rfl) :
  VE X W (.Call (.Attribute (.Name rk np) m ag) (e::es) [] pos) (aU (bR n F) fs):=by
 obtain⟨R,f,E,D,hm,x,hn,v,hb⟩:=B.ex;obtain⟨t,d,c⟩:=ha;refine⟨_,aqA T x hm l v hr hb d o g p i,λG U a H J L Q w r h=>?_⟩;refine c G U a H J L _ w r (bS.mb h λs q C I u j y b z h1=>?_);unfold bR at h1;split at h1
 ·rename_i hl;exact⟨by rw[z.length,hn];exact hl,u,j,q,s,b,z,Km h1 (Ext.refl _ _)⟩
 ·exact False.elim h1
end
def mH(cs:ao a9)(i:a4)(f:a9)(Y:Ev)(Z:aG):av (a4×a9×ao (a9×Fd)×Fd):=match (Y[i]?).join with
 |some (.aE s)=>match Z[s]? with
  |some (.ins cls fs)=>if cls∈cs then(fs.lookup f).map λfd=>(s,cls,fs,fd)else aq
  |_=>aq
 |_=>aq
abbrev fE(Z:aG)(s:a4)(cls f:a9)(fs:ao (a9×Fd))(c:Cell):aG:=Z.set s (.ins cls (putD f (.val (.aE Z.length)) fs))++[c]
section
variable{cs:ao a9}{i:a4}{f:a9}{Y:Ev}{Z:aG}{s:a4}{cls:a9}{fs:ao (a9×Fd)}{fd fd':Fd}{c c':Cell}
theorem LR(h:mH cs i f Y Z=ak (s,cls,fs,fd)):Y[i]?=ak (ak (.aE s))/\Z[s]?=ak (.ins cls fs)/\cls∈cs/\fs.lookup f=ak fd:=by
 unfold mH at h;cases e1:(Y[i]?).join with
 |none=>rw[e1]at h;cases h
 |some d =>
  rw[e1]at h;cases d with
  |aE k =>
   simp only at h;cases z:Z[k]? with
   |none=>rw[z]at h;cases h
   |some c =>
    rw[z]at h;cases c with
    |ins B L =>
     simp only at h
     by_cases j:B∈cs
     ·rw[a7 j]at h;cases q:L.lookup f with
      |none=>rw[q]at h;cases h
      |some x =>
       rw[q]at h;cases h;exact⟨join_some e1,z,j,q⟩
     ·rw[ba j]at h;cases h
    |_=>cases h
  |_=>cases h
theorem SD(h:mH cs i f Y Z=ak (s,cls,fs,fd))(j:fd.cell=ak c):PM s f Z (fE Z s cls f fs c):=by
 obtain⟨h1,h2,z,q⟩:=LR h;exact⟨cls,fs,fd,c,h2,q,j,rfl⟩
theorem OP{n:a4}{f:a9}{fd:Fd}:∀{fs:ao (a9×Fd)},nY n fs->oW n fd->nY n (putD f fd fs)
 |[],_,h=>⟨h,trivial⟩
 |(g,x)::r,c,h=>by
  by_cases e:g=f
  ·simp only[putD,a7 e];exact⟨h,c.2⟩
  ·simp only[putD,ba e];exact⟨c.1,OP c.2 h⟩
theorem Jo(cl:BH Z Y)(h:mH cs i f Y Z=ak (s,cls,fs,fd))(B:fd'.cell=ak c')(hn:oW Z.length fd'):Folds s f Z.length (fE Z s cls f fs c') (Z.set s (.ins cls (putD f fd' fs))):=by
 obtain⟨h1,h2,U,L⟩:=LR h;have q:s<Z.length:=(cR.mp h2).1;refine⟨Z.set s (.ins cls (putD f (.val (.aE Z.length)) fs)),c',cls,putD f (.val (.aE Z.length)) fs,fd',rfl,by simp,fP q,?_,B,λk x z j=>?_,?_,?_⟩
 ·rw[GW,a7 rfl]
 ·rw[eP (cQ z)]at j;exact cl.aE k x j
 ·rw[xQ];have:=cl.aE s _ h2;exact OP this hn
 ·rw[xQ,lO]
theorem abI(cl:BH Z Y)(h:mH cs i f Y Z=ak (s,cls,fs,fd))(B:fd.cell=ak c):Folds s f Z.length (fE Z s cls f fs c) Z:=by
 obtain⟨h1,h2,L,z⟩:=LR h;obtain⟨j,e1,_⟩:=CU z;have hn:oW Z.length fd:=(cl.aE s _ h2:nY _ fs).get e1;have:=Jo cl h B hn;rw[Wo z]at this;have e:Z.set s (.ins cls fs)=Z:=by
  apply EY;intro j
  by_cases q:s=j
  ·subst q;rw[fP (cR.mp h2).1,h2]
  ·rw[eP q]
 rwa[e]at this
theorem zW(h:mH cs i f Y Z=ak (s,cls,fs,fd)):(fE Z s cls f fs c)[Z.length]?=ak c:=by
 rw[qS (by simp)];simp
theorem CV(h:mH cs i f Y Z=ak (s,cls,fs,fd)):dO cs f (dN i) Y (fE Z s cls f fs c)=ak (.ok (.aE Z.length),fE Z s cls f fs c):=by
 obtain⟨h1,h2,z,B⟩:=LR h;have j:s<Z.length:=(cR.mp h2).1;have e:(fE Z s cls f fs c)[s]?=ak (.ins cls (putD f (.val (.aE Z.length)) fs)):=by
  rw[jA (by simpa using j),fP j]
 have l:(putD f (Fd.val (.aE Z.length)) fs).lookup f=ak (.val (.aE Z.length)):=by rw[GW,a7 rfl]
 have q:(Y[i]?).join=ak (.aE s):=by rw[h1];rfl
 simp only[dO,dN,need,mb,q,PV,Ji,e,a7 z,l]
theorem Yn(j:Cell):(fE Z s cls f fs c).set Z.length j=fE Z s cls f fs j:=by
 unfold fE;rw[List.set_append_right _ _ (by simp)];simp
theorem CT{α β:Type}{m:Mo α}{k:α->Mo β}{Z Z1:aG}{a:α}(h:m Z=ak (.ok a,Z1)):mb m k Z=k a Z1:=by simp[mb,h]
theorem Vo{α:Type}{m:Mo α}{k:α->aG->OS}{Y:Ev}{Z Z1:aG}{a:α}(h:m Z=ak (.ok a,Z1)):sM m Y k Z=k a Z1:=by simp[sM,h]
end
def PR(fe:Ev->Mo A):Prop:=∀Y Z Z' r,fe Y Z=ak r->∃a,r=(.ok a,Z)/\fe Y Z'=ak (.ok a,Z')/\(BH Z Y->Cl Z.length a)
theorem CJ(j:a4):PR (dN j):=λq B z r h=>by
 simp only[dN,need]at h ⊢;cases e:(q[j]?).join with
 |none=>rw[e]at h;cases h
 |some a=>rw[e]at h;cases h;exact⟨a,rfl,rfl,λc=>c.env j a (join_some e)⟩
theorem an7(n:az):PR (cI n):=λq z j r h=>by
 cases h;exact⟨_,rfl,rfl,λ_=>by simp only[Cl]⟩
@[simp] def RZ(cs:ao a9)(i:a4)(f:a9):Ev->Mo A:=λY Z=>match mH cs i f Y Z with
 |some (_,_,_,.lst ds)=>ak (.ok (.int ds.length),Z)
 |_=>aq
@[simp] def pD(cs:ao a9)(i:a4)(f:a9)(fi:Ev->Mo A):Ev->Mo A:=λY Z=>match mH cs i f Y Z with
 |some (_,_,_,.lst ds)=>match fi Y Z with
  |some (.ok (.int n),_)=>match iE ds n with
   |some d=>ak (.ok d,Z)
   |none=>aq
  |_=>aq
 |_=>aq
@[simp] def AL(cs:ao a9)(i:a4)(f:a9)(fi:Ev->Mo A):A->MS:=λa Y Z=>match mH cs i f Y Z with
 |some (s,cls,fs,.lst ds)=>match fi Y Z with
  |some (.ok (.int n),_)=>match oJ ds.length n with
   |some j=>ak (.nx,Y,Z.set s (.ins cls (putD f (.lst (ds.set j a)) fs)))
   |none=>aq
  |_=>aq
 |_=>aq
@[simp] def KU(cs:ao a9)(i:a4)(f:a9)(fe:Ev->Mo A):Ev->Mo A:=λY Z=>match mH cs i f Y Z with
 |some (s,cls,fs,.lst ds)=>match fe Y Z with
  |some (.ok a,_)=>if ds.length<bc then ak (.ok .bQ,Z.set s (.ins cls (putD f (.lst (ds++[a])) fs)))else aq
  |_=>aq
 |_=>aq
theorem acA{n:a4}:∀{ds:ao A} {i:a4} {d:A},gU n ds->ds[i]?=ak d->Cl n d
 |[],_,_,_,h=>by simp at h
 |_::_,0,_,c,h=>by simp at h;subst h;exact c.1
 |_::ds,i+1,_,c,h=>acA (ds:=ds) c.2 (by simpa using h)
theorem ab9{n:a4}{a:A}(ha:Cl n a):∀{ds:ao A} (j:a4),gU n ds->gU n (ds.set j a)
 |[],_,_=>trivial
 |_::_,0,c=>⟨ha,c.2⟩
 |_::ds,j+1,c=>⟨c.1,ab9 ha j c.2⟩
theorem acB{n:a4}:∀{ds es:ao A},gU n ds->gU n es->gU n (ds++es)
 |[],_,_,h=>h
 |_::_,_,c,h=>⟨c.1,acB c.2 h⟩
theorem Em{cs:ao a9}{i:a4}{f:a9}{Y:Ev}{Z:aG}{s:a4}{cls:a9}{fs:ao (a9×Fd)}{fd:Fd}(cl:BH Z Y)(h:mH cs i f Y Z=ak (s,cls,fs,fd)):oW Z.length fd:=by
 obtain⟨h1,h2,z,q⟩:=LR h;obtain⟨j,e1,_⟩:=CU q;exact(cl.aE s _ h2:nY _ fs).get e1
section
variable{X:Cx}{W:WX}{e e1 o tg:bx}{f:a9}{cs:ao a9}{i:a4}{pos pos' ag aBV:dg}{fe fi:Ev->Mo A}
theorem Sq(h:VE X W e (aU nC (aB (dO cs f (dN i)) a0))):VE X W e (RZ cs i f):=by
 refine RT h λz j r cl hd=>?_;unfold RZ at hd;split at hd
 ·rename_i s cls fs ds eo;cases hd;refine⟨s,f,_,.int ds.length,_,SD eo rfl,?_,abI cl eo rfl,by simp only[Cl],rfl⟩;have q:=CV (c:=.lst ds) eo;have l:eU (fE j s cls f fs (.lst ds)) (.aE j.length)=ak ds:=tE (zW eo);have L:jD (fE j s cls f fs (.lst ds)) (.aE j.length)=ak ds:=l;show mb (mb (dO cs f (dN i) z) λx=>mb (a0 z) λB=>ret (x::B)) nC _=_;rw[CT (a:=[A.aE j.length]) (Z1:=fE j s cls f fs (.lst ds)) (by rw[CT q];rfl)];simp[nC,l,L]
 ·cases hd
theorem RU(h:VE X W e (aC cW (dO cs f (dN i)) fi))(m:PR fi):VE X W e (pD cs i f fi):=by
 refine RT h λL z r cl hd=>?_;unfold pD at hd;split at hd
 ·rename_i s cls fs ds eo;split at hd
  ·rename_i n U p;split at hd
   ·rename_i d j;cases hd;obtain⟨a,g,b,_⟩:=m L z (fE z s cls f fs (.lst ds)) _ p;cases g;have o:Cl z.length d:=by
     unfold iE at j;cases B:oJ ds.length n with
     |none=>rw[B]at j;cases j
     |some k=>rw[B]at j;exact acA (Em cl eo:gU _ ds) j
    refine⟨s,f,_,d,_,SD eo rfl,?_,abI cl eo rfl,o,rfl⟩;have q:=CV (c:=.lst ds) eo;have l:jD (fE z s cls f fs (.lst ds)) (.aE z.length)=ak ds:=tE (zW eo);simp only[aC];rw[CT q,CT b];simp[cW,l,j]
   ·cases hd
  ·cases hd
 ·cases hd
theorem ZW(h:VG X W tg (yG (dO cs f (dN i)) fi))(g:PR fi):VG X W tg (AL cs i f fi):=by
 refine agJ h λa B z r cl ca hd=>?_;unfold AL at hd;split at hd
 ·rename_i s cls fs ds eo;split at hd
  ·rename_i n L p;split at hd
   ·rename_i j o;cases hd;obtain⟨b,e,U,_⟩:=g B z (fE z s cls f fs (.lst ds)) _ p;cases e;refine⟨s,f,_,fE z s cls f fs (.lst (ds.set j a)),SD eo rfl,?_,Jo cl eo rfl (ab9 ca j (Em cl eo)),λk d m=>cl.env k d m,rfl⟩;have q:=CV (c:=.lst ds) eo;have l:(fE z s cls f fs (.lst ds))[z.length]?=ak (.lst ds):=zW eo;simp only[yG];rw[Vo q,Vo U];simp only[setCell,l,o,Yn]
   ·cases hd
  ·cases hd
 ·cases hd
theorem agS(h:VE X W e (zM IJ (dO cs f (dN i)) (aB fe a0)))(m:PR fe):VE X W e (KU cs i f fe):=by
 refine RT h λz j r cl hd=>?_;unfold KU at hd;split at hd
 ·rename_i s cls fs ds eo;split at hd
  ·rename_i a B n;split at hd
   ·rename_i hl;cases hd;obtain⟨b,g,d,U⟩:=m z j (fE j s cls f fs (.lst ds)) _ n;cases g;refine⟨s,f,_,.bQ,fE j s cls f fs (.lst (ds++[a])),SD eo rfl,?_,Jo cl eo rfl (acB (Em cl eo) ⟨U cl,trivial⟩),by simp only[Cl],rfl⟩;have q:=CV (c:=.lst ds) eo;have l:wL (fE j s cls f fs (.lst ds)) (.aE j.length)=ak (j.length,ds):=Kl (zW eo);have k:HP (fE j s cls f fs (.lst ds)) (.aE j.length):=Gs (tE (zW eo));simp only[zM];rw[CT q,a7 k];rw[CT (a:=[a]) (Z1:=fE j s cls f fs (.lst ds)) (by
     show mb (fe z) (λx=>mb (a0 z) λL=>ret (x::L)) _=_;rw[CT d];rfl)]
    simp only[IJ,l,a7 hl,Yn]
   ·cases hd
  ·cases hd
 ·cases hd
end
noncomputable def HK(Z:aG):A->av (ao A)
 |.lst ds=>ak ds
 |.aE k=>match Z[k]? with
  |some (.lst ds)=>ak ds
  |_=>aq
 |_=>aq
theorem atO{K:bj}{G H:Hp}{O:ao ay}{Z:aG}{v:V}{a:A}{ds:ao A}(w:Wd K G O Z H)(d:Den K G O v a)(h:HK Z a=ak ds):∃p xs,v=.ref p/\H p=ak (.lst xs)/\aY K G O xs ds:=by
 cases a with
 |lst es =>
  simp only[HK,iZ]at h;subst h;simp only[Den]at d;obtain⟨p,xs,rfl,h2,q⟩:=d;exact⟨p,xs,rfl,w.sub _ _ h2,q⟩
 |aE j =>
  simp only[HK]at h;split at h
  ·rename_i es e;cases h;simp only[Den]at d;obtain⟨p,rfl,z⟩:=d;obtain⟨g,xs,q,B⟩:=w.aE j _ p e z;exact⟨p,xs,rfl,q,B⟩
  ·cases h
 |_=>simp[HK]at h
@[simp] def Jj(o:A)(as:ao A):Mo A:=λZ=>match wL Z o,as with
 |some (k,ds),[y]=>match HK Z y with
  |some es=>if ds.length+es.length<=bc then ak (.ok .bQ,Z.set k (.lst (ds++es)))else aq
  |none=>aq
 |_,_=>aq
theorem atB{X:Cx}{W:WX}:Nv X.K W Wa Jj:=by
 intro G z n H J x o a r Q w m l h;unfold Jj at h;split at h
 ·rename_i k ds y e;split at h
  ·rename_i es f;split at h
   ·rename_i hl;obtain⟨p,B,rfl,U,g,d,q⟩:=acG w m e;obtain⟨u,rfl,i⟩:=uU l;obtain⟨p2,L,rfl,b,j⟩:=atO w i f;refine⟨p,p2,B,L,rfl,rfl,d,b,by rw[q.length,j.length];exact hl,?_⟩;exact h _ _ G z (Ext.refl _ _) (w.put (c:=.lst (ds++es)) U g ⟨g,_,gV,q.append j⟩) (by simp only[Den])
   ·exact False.elim h
  ·exact False.elim h
 ·exact False.elim h
def FA(i:a4)(f:a9)(g:MS)(Y:Ev)(Z:aG)(r:Out×Ev×aG):Prop :=
 ∃s cls fs fd c q fd' c',Y[i]?=ak (ak (.aE s))/\Z[s]?=ak (.ins cls fs)/\fs.lookup f=ak fd/\fd.cell=ak c/\g Y (fE Z s cls f fs c)=ak (.nx,r.2.1,q++[c'])/\q.length=Z.length /\
  q[s]?=ak (.ins cls (putD f (.val (.aE Z.length)) fs))/\fd'.cell=ak c'/\(∀(k:a4) (x:Cell),k≠s->q[k]?=ak x->Z[k]?=ak x\/BI Z.length x)/\(fd'=fd\/oW Z.length fd') /\
  (∀(j:a4) (d:A),r.2.1[j]?=ak (ak d)->Y[j]?=ak (ak d)\/Cl Z.length d)/\r.1=.nx/\r.2.2=q.set s (.ins cls (putD f fd' fs))
open Classical in
noncomputable def vO(i:a4)(f:a9)(g:MS):MS:=λY Z=>if h:∃r,FA i f g Y Z r then ak (Classical.choose h)else aq
theorem acE{a b:Fd}{c:Cell}(h1:a.cell=ak c)(h2:b.cell=ak c):a=b:=by
 cases a with
 |val x=>cases h1
 |lst ds=>cases b with
  |lst es=>cases h1;cases h2;rfl
  |val _=>cases h2
  |dA _=>cases h1;cases h2
 |dA j=>cases b with
  |dA es=>cases h1;cases h2;rfl
  |val _=>cases h2
  |lst _=>cases h1;cases h2
theorem FA.uniq{i:a4}{f:a9}{g:MS}{Y:Ev}{Z:aG}{r j:Out×Ev×aG}(h:FA i f g Y Z r)(h':FA i f g Y Z j):r=j:=by
 obtain⟨s,cls,fs,fd,c,e,OD,M,a1,a2,w,v,u,V,T,t,S,W,X,x,y⟩:=h;obtain⟨s',F,I,l,N,d,k,K,b,a,U,L,B,R,Q,n,P,p,o,A,q⟩:=h';rw[a1]at b;cases b;rw[a2]at a;cases a;rw[w]at U;cases U;rw[v]at L;cases L;rw[u]at B;obtain⟨E,D,C⟩:=r;obtain⟨H,p2,G⟩:=j;simp only[iZ,wU,true_and]at *;obtain⟨e1,m⟩:=B;obtain⟨rfl,z⟩:=List.append_inj' m rfl;simp only[nX,uZ]at z;subst z;have:=acE t n;subst this;subst x A;exact⟨rfl,e1,by rw[y,q]⟩
theorem Vp{i:a4}{f:a9}{g:MS}{Y:Ev}{Z:aG}{r:Out×Ev×aG}(h:FA i f g Y Z r):vO i f g Y Z=ak r:=by
 have ex:∃r,FA i f g Y Z r:=⟨r,h⟩;unfold vO;rw[dif_pos ex];exact cz ak (FA.uniq (FJ ex) h)
section
variable{X:Cx}{W:WX}{st:bw}{f:a9}{cs:ao a9}{i:a4}{pos aKT ag aBV aKM:dg}{gs:MS}{x:a9}
theorem Sj(h:VS X W st gs):VS X W st (vO i f gs):=by
 refine agC h λF e r cl hd=>?_;unfold vO at hd;split at hd
 ·rename_i ex;cases hd;generalize hr:Classical.choose ex=r;have L:=FJ ex;rw[hr]at L;obtain⟨s,cls,fs,U,c,q,C,a,H,B,b,v,u,t,p,o,n,w,y,A,D⟩:=L;obtain⟨G,e1,_⟩:=CU b;have E:oW e.length U:=(cl.aE s _ B:nY _ fs).get e1;refine⟨s,f,_,q++[a],⟨cls,fs,U,c,B,b,v,rfl⟩,u,⟨q,a,cls,_,C,rfl,t,p,by rw[GW,a7 rfl],o,λk x l g=>?_,?_,by rw[xQ];exact D⟩,λj d m=>?_,A⟩
  ·rcases n k x l g with z|z
   ·exact cl.aE k x z
   ·exact z
  ·rw[xQ];exact OP (cl.aE s _ B:nY _ fs) (by rcases w with z|z;exact z ▸ E;exact z)
  ·rcases y j d m with z|z
   ·exact cl.env j d z
   ·exact z
 ·cases hd
end
def LY(cs:ao a9)(i:a4)(Y:Ev)(Z:aG):av (a4×a9×ao (a9×Fd)):=match (Y[i]?).join with
 |some (.aE s)=>match Z[s]? with
  |some (.ins cls fs)=>if cls∈cs then ak (s,cls,fs)else aq
  |_=>aq
 |_=>aq
theorem arG{cs:ao a9}{i:a4}{Y:Ev}{Z:aG}{s:a4}{cls:a9}{fs:ao (a9×Fd)}(h:LY cs i Y Z=ak (s,cls,fs)):Y[i]?=ak (ak (.aE s))/\Z[s]?=ak (.ins cls fs)/\cls∈cs:=by
 unfold LY at h;cases e1:(Y[i]?).join with
 |none=>rw[e1]at h;cases h
 |some d =>
  rw[e1]at h;cases d with
  |aE k =>
   simp only at h;cases q:Z[k]? with
   |none=>rw[q]at h;cases h
   |some c =>
    rw[q]at h;cases c with
    |ins z B =>
     simp only at h
     by_cases j:z∈cs
     ·rw[a7 j]at h;cases h;exact⟨join_some e1,q,j⟩
     ·rw[ba j]at h;cases h
    |_=>cases h
  |_=>cases h
@[simp] noncomputable def Fd.LX:Cell->av Fd
 |.lst ds=>ak (.lst ds)
 |.dA kvs=>ak (.dA kvs)
 |_=>aq
theorem Fd.arE{c:Cell}{fd:Fd}(h:Fd.LX c=ak fd):fd.cell=ak c:=by
 cases c <;> cases h <;> rfl
open Classical in
@[simp] noncomputable def GS(cs:ao a9)(i:a4)(f:a9)(fv:Ev->Mo A):MS:=λY Z=>match LY cs i Y Z with
 |some (s,cls,fs)=>match fv Y Z with
  |some (.ok (.aE n),Z1)=>match Z1[Z.length]? with
   |some c=>match Fd.LX c with
    |some fd=>if n=Z.length/\Z1=Z++[c]/\fs.length<1000/\oW Z.length fd then ak (.nx,Y,Z.set s (.ins cls (putD f fd fs)))else aq
    |none=>aq
   |none=>aq
  |_=>aq
 |none=>aq
section
variable{X:Cx}{W:WX}{st:bw}{f:a9}{cs:ao a9}{i:a4}{fv:Ev->Mo A}
theorem Sk(h:VS X W st (mV cs f (dN i) fv)):VS X W st (GS cs i f fv):=by
 obtain⟨t,p,sm⟩:=h;refine⟨t,p,λG m z H J B D w r h=>?_⟩;have cl:=w.mB r;unfold GS at h;split at h
 ·rename_i s cls fs eo;split at h
  ·rename_i n o e1;split at h
   ·rename_i c P;split at h
    ·rename_i fd F;split at h
     ·rename_i C;obtain⟨rfl,rfl,hl,lI⟩:=C;obtain⟨h1,h2,E⟩:=arG eo;have a:s<z.length:=(cR.mp h2).1;have I:=Fd.arE F;refine sm G m z H J B D w r ?_;have u:(B[i]?).join=ak (.aE s):=by rw[h1];rfl
      have N:(z++[c])[s]?=ak (.ins cls fs):=by rw[jA a];exact h2
      have e:mV cs f (dN i) fv B z=ak (.nx,B,z.set s (.ins cls (putD f (.val (.aE z.length)) fs))++[c]):=by
       simp only[mV,sM,e1,dN,need,u,PV,N,a7 (And.intro E hl)];rw[List.set_append_left _ _ a]
      rw[e];intro L K M U ex v y;have g:=v.fold (s:=s) (f:=f) (fd:=fd) (cls:=cls) (fs:=putD f (.val (.aE z.length)) fs) (fP a) (by rw[GW,a7 rfl];simp) I (λk x b l=>by
       rw[eP (cQ b)]at l;have:=cl.aE k x l;simpa using this) (by
       rw[xQ];have:=OP (f:=f) (cl.aE s _ h2:nY _ fs) lI;simpa using this)
      rw[xQ,lO,xB]at g;refine h L K M (U.take z.length) ⟨ex.same,λk x q=>?_⟩ g (abS y λj d A=>cl.env j d A);have b:=(cR.mp q).1;rw[JO,a7 (by rw[<-w.len];exact b)];exact ex.pre k x q
     ·exact h.elim
    ·exact h.elim
   ·exact h.elim
  ·exact h.elim
 ·exact h.elim
end
theorem ED{K:bj}{f:a9}:dM K [] f:=λcls h=>by simp at h
theorem EE{K:bj}{f cls:a9}{cs:ao a9}{C:ay}(h1:cu K a5 cls=ak (ak (.ref C)))(h2:nE K C)(j:b5 K (.ref C) f=ak aq)(t:dM K cs f):dM K (cls::cs) f:=λc h=>by
 rcases dY.mp h with e|e
 ·subst e;exact⟨C,h1,h2,j⟩
 ·exact t c e
section
variable{P:bg}{w:br}{K:bj}{mg:a9->av ar}{base:bz}
theorem Jq{x af:a9}{st:bw}{N ps:ao a9}{k:a4}{b:MS}{f:ay}{fd:cy}(F:tQ K x af st f fd)(S:cE N ps (bB st))
  (U:∀(f:ay) (j:ar) (A:bu) (outer:ao Env) (s:aw) (H:Hp) (E:XK),dP k (A.deeper (c7 af (bB st) s.heap.objs.size f j)) ->
   iX (rF P w K mg base N af (bB st) f j A outer s H E) (λ_=>E) (fV st) b):jR P w K mg base (qA P w) (k+1) f fd ps (vM K ps.length (cM N.length b)):=by
 obtain⟨e,d,kV,doc,c,i,j,ct,g,rfl,B,L⟩:=F.ex;refine Jp B L S (λz H Q E h=>h.1) λA outer s H z Q E hr a=>?_;obtain⟨t,p,q⟩:=U f j A outer s H E hr;exact⟨t,Fy p,WU q a⟩
structure lE(K:bj)(mg:a9->av ar)(cls m af:a9)(st:bw):Prop where
 ex:∃C f fd,cu K a5 cls=ak (ak (.ref C))/\mg cls=ak (.ref C)/\nE K C/\Meth K C m f/\tQ K m af st f fd
theorem bV.of{cls m af:a9}{st:bw}{N ps:ao a9}{k:a4}{b:MS}(h:lE K mg cls m af st)(S:cE N ps (bB st))
  (bind:∀(kV doc pm:ar) (an:av ay) (j ct:ar) (us:ao ar),us.length=ps.length->ei (fnOf m af (lL st) (fV st) (bB st) .none kV doc pm an j ct) ⟨us,[]⟩=pure (ps.zip us))
  (q:∀(f:ay) (j:ar) (A:bu) (outer:ao Env) (s:aw) (H:Hp) (E:XK),dP k (A.deeper (c7 af (bB st) s.heap.objs.size f j)) ->
   iX (rF P w K mg base N af (bB st) f j A outer s H E) (λ_=>E) (fV st) b):bV P w K mg base cls m (k+1) ps.length [] (cM N.length b):=by
 obtain⟨C,f,fd,h1,_,h2,z,F⟩:=h.ex;exact⟨C,f,fd,ps,[],[],h1,h2,z,rfl,Jq F S q,F.binds bind,.nil,λ_ _ => .nil⟩
structure Pg(K:bj)(mg:a9->av ar)(cls af:a9)(st:bw):Prop where
 ex:∃C f fd,cu K a5 cls=ak (ak (.ref C))/\mg cls=ak (.ref C)/\Mk K C f/\tQ K "__init__" af st f fd
theorem JI.of{cls af:a9}{st:bw}{N ps:ao a9}{k:a4}{b:MS}(h:Pg K mg cls af st)(S:cE N ps (bB st))
  (bind:∀(kV doc pm:ar) (an:av ay) (j ct:ar) (us:ao ar),us.length=ps.length->ei (fnOf "__init__" af (lL st) (fV st) (bB st) .none kV doc pm an j ct) ⟨us,[]⟩=pure (ps.zip us))
  (q:∀(f:ay) (j:ar) (A:bu) (outer:ao Env) (s:aw) (H:Hp) (E:XK),dP k (A.deeper (c7 af (bB st) s.heap.objs.size f j)) ->
   iX (rF P w K mg base N af (bB st) f j A outer s H E) (λ_=>E) (fV st) b):JI P w K mg base cls (k+1) ps.length (cM N.length b):=by
 obtain⟨C,f,fd,h1,h2,z,F⟩:=h.ex;exact⟨C,f,fd,ps,h1,h2,z,rfl,Jq F S q,F.binds bind⟩
structure YT(K:bj)(mg:a9->av ar)(rk m af:a9)(st:bw):Prop where
 ex:∃R f fd,mg rk=ak (.ref R)/\Qw K R m f/\tQ K m af st f fd
theorem FD.of{rk m af:a9}{st:bw}{N ps:ao a9}{k:a4}{b:MS}(h:YT K mg rk m af st)(S:cE N ps (bB st))
  (bind:∀(kV doc pm:ar) (an:av ay) (j ct:ar) (us:ao ar),us.length=ps.length->ei (fnOf m af (lL st) (fV st) (bB st) .none kV doc pm an j ct) ⟨us,[]⟩=pure (ps.zip us))
  (q:∀(f:ay) (j:ar) (A:bu) (outer:ao Env) (s:aw) (H:Hp) (E:XK),dP k (A.deeper (c7 af (bB st) s.heap.objs.size f j)) ->
   iX (rF P w K mg base N af (bB st) f j A outer s H E) (λ_=>E) (fV st) b):FD P w K mg base rk m (k+1) ps.length (cM N.length b):=by
 obtain⟨R,f,fd,h1,h2,F⟩:=h.ex;exact⟨R,f,fd,ps,h1,h2,rfl,Jq F S q,F.binds bind⟩
end
theorem Inv.Th{X:Cx}{aa:ao (ay×cp)}{J:L2.St}{H:Hp}{s:aw}{h':bz}{t':a4}{ch:ao ay}(I:Inv X aa J H s)(k:∀b o,b∉ch->s.heap.get? b=ak o->h'.get? b=ak o)(hf:∀b∈ch,rL X aa H b):Inv X aa J H {s with heap:=h',toks:=t' }:=by
 have ne:∀b u,H b=ak u->b∉ch:=λb u q z=>by rw[(hf b z).1]at q;cases q
 refine I.step (g':=s.gens) (d':=s.drawn) (ch:=ch) (λb hb=>?_) (λb o _ _ j q _=>k b o j q) (λb o _ _ j q _=>⟨o.slots,k b o j q⟩) (λ_ _ _ _ n=>n)
  (λb o j q=>⟨o,k b o j q⟩) (λ_ _ q=>q) (λ_ _ _ q=>q) (λb f q=>⟨#[],by rw[q];simp⟩) (λm hm=>?_) (λb u q=>?_) I.bare
 ·obtain⟨a0,a1,a2,e,d,a⟩:=hf b hb;exact⟨e,a1,d,a⟩
 ·obtain⟨o,es,U,L,r⟩:=hm;exact⟨o,es,U,k _ o (λz=>(hf _ z).2.1 rfl) L,r⟩
 ·refine(I.aL b u q).qX (λc v j B=>k c v ?_ B) (λ_ q=>q) λ_ _ q=>q
  rcases j with z|z
  ·rw[z];exact ne b u q
  ·exact ne c _ z
open PySem PySem.Spec PyProof PyProof.Rows L2
section
variable{X:Cx}{W:WX}{e a b:bx}{es:ao bx}{pos:dg}{fa fb:Ev->Mo A}{te:TE}{tl th tk:TO}{lo hi stp:av bx}
noncomputable def nK{α:Type}(xs:ao α)(lo hi st:av az):ao α :=
 (sliceRange (cg lo hi st xs.length).1 (cg lo hi st xs.length).2.1 (cg lo hi st xs.length).2.2).filterMap (xs[·]?)
theorem agZ{xs:ao V}{us:ao ar}(h:Vals xs us):∀ps:ao a4,Vals (ps.filterMap (xs[·]?)) (ps.filterMap (us[·]?)):=by
 intro ps
 induction ps with
 |nil=>exact .nil
 |cons p ps ih =>
  rw[xD,xD]
  rcases JH p xs.length with q|q
  ·obtain⟨u,e1,j⟩:=h.get (gM q);rw[gM q,e1];exact .cons j ih
  ·rw[yY q,yY (by rw[<-h.length];exact q)];exact ih
theorem Wv{xs:ao V}{us:ao ar}(h:Vals xs us)(lo hi st:av az):Vals (nK xs lo hi st) (slicePick us.toArray lo hi st).toList:=by
 have:=agZ h (sliceRange (cg lo hi st xs.length).1 (cg lo hi st xs.length).2.1 (cg lo hi st xs.length).2.2);unfold nK slicePick;simpa[h.length]using this
theorem aCS{K:bj}{G:Hp}{O:ao ay}{xs:ao V}{ds:ao A}(h:aY K G O xs ds):∀ps:ao a4,aY K G O (ps.filterMap (xs[·]?)) (ps.filterMap (ds[·]?)):=by
 intro ps
 induction ps with
 |nil=>exact .nil
 |cons p ps ih =>
  rw[xD,xD]
  rcases JH p ds.length with q|q
  ·obtain⟨u,e1,j⟩:=h.get (gM q);rw[gM q,e1];exact .cons j ih
  ·rw[yY q,yY (by rw[h.length];exact q)];exact ih
theorem ao3{K:bj}{G:Hp}{O:ao ay}{xs:ao V}{ds:ao A}(h:aY K G O xs ds)(lo hi st:av az):aY K G O (nK xs lo hi st) (nK ds lo hi st):=by
 unfold nK;rw[h.length];exact aCS h _
theorem ao6(us:ao ar)(xs:ao V)(h:Vals xs us)(lo hi st:av az):(nK xs lo hi st).length<=xs.length:=by
 have e:=(Wv h lo hi st).length;have s:=slicePick_size_le us.toArray lo hi st;have l:=h.length;simp only[gO,hW]at e s;omega
def ah5(K:bj)(te:TE)(tl th tk:TO):TE:=λJ H Q=>te J H λx H1=>tl J H1 λl H2=>th J H2 λu q=>tk J q λk j =>
 ∃a xs,x=.ref a/\fH K j a xs/\k≠ak 0/\∀p,j p=aq->Q (.ref p) (upd j p (.lst (nK xs l u k)))
theorem apN{p2:dg}{ks:bx}(he:PE X e te)(hl:PO X lo tl)(M:PO X hi th)(N:PO X (ak ks) tk):PE X (.Subscript e (.Slice lo hi (ak ks) p2) pos) (ah5 X.K te tl th tk):=by
 intro aa s J H Q I h;refine Subscript_ (bM (he aa s J H _ I h) λv g ⟨x,H1,W,i,t⟩=>?_);refine wpAny_Slice (bM (hl aa g J H1 _ W t) λB s2 ⟨l,H2,V,C,p⟩=>bM (M aa s2 J H2 _ V p) λz f ⟨u,H3,T,y,n⟩=>?_);refine bM (N aa f J H3 _ T n) λL j ⟨k,H4,S,D,m⟩=>?_;obtain⟨a,c,rfl,G,E,q⟩:=m;cases i;have U:Inv X aa J H4 {j with heap:=j.heap.push {cls:=.type "slice",data:=.fields #[B,z,L]} }:=S.kept (t':=j.toks) λb ob q=>eK _ q;obtain⟨R,r,d,F⟩:=U.list G;have hlen:=r.length;have P:wpAny (bq X.prog X.w) X.A (getItem (.ref a) (.ref j.heap.objs.size)) (EP X aa J Q) X.xe {j with heap:=j.heap.push {cls:=.type "slice",data:=.fields #[B,z,L]} }:=by
  refine wpAny_getItem_list_slice d.isList (Heap.IsSliceOf.new ..) C y D E ?_ (by rw[hW];omega);refine⟨.ref _,_,U.laid (t':=j.toks) (o:=.lst (nK c l u k)) (λb ob q=>eK _ q) dC ?_,rfl,q _ (U.aL.fresh dC)⟩;refine⟨nW (ao6 R c r l u k) F,_,0,Wv r l u k,?_⟩;rw[Array.toArray_toList];exact iQ _ rfl
 show wpAny (bq X.prog X.w) X.A (subscriptTail e (.Slice lo hi (ak ks) p2) (.ref a) (.ref j.heap.objs.size)) (EP X aa J Q) X.xe {j with heap:=j.heap.push {cls:=.type "slice",data:=.fields #[B,z,L]} };exact tail_any (ops:=[.ref a,.ref j.heap.objs.size]) d.isList.typeIs slot_list_getitem.lookup P (by with_unfolding_all rfl)
@[simp] def Jf(c:bh)(a:A)(lo hi st:av az):Mo A:=λZ=>match eU Z a with
 |some ds=>if st=ak 0 then aq else uL c (nK ds lo hi st) Z
 |none=>aq
@[simp] def RX(c:bh)(f:Ev->Mo A)(l h k:Ev->Mo (av az)):Ev->Mo A:=λY=>mb (f Y) λa=>mb (l Y) λlo=>mb (h Y) λhi=>mb (k Y) λst=>Jf c a lo hi st
theorem Sn(c:bh){ks:bx}{fl y s:Ev->Mo (av az)}{p2:dg}(he:VE X W e fa)(hl:VO X W lo fl)(hh:VO X W hi y)(hk:VO X W (ak ks) s):VE X W (.Subscript e (.Slice lo hi (ak ks) p2) pos) (RX c fa fl y s):=by
 obtain⟨t,p1,S⟩:=he;obtain⟨u,p2,s2⟩:=hl;obtain⟨u',p3,R⟩:=hh;obtain⟨u2,p4,P⟩:=hk;refine⟨_,apN p1 p2 p3 p4,λG C E H J z Q w r h=>?_⟩;refine S G C E H J z _ w r (bS.mb h λx f v H1 G1 U i N d1 h1=>?_);refine s2 G1 U f H1 J z _ N (r.ext i) (bS.mb h1 λo b o' H2 G2 L g M d2 h2=>?_);cases(show o'=o from d2);refine R G2 L b H2 J z _ M ((r.ext i).ext g) (bS.mb h2 λk a k' H3 G3 B m K d3 h3=>?_);cases(show k'=k from d3);refine P G3 B a H3 J z _ K (((r.ext i).ext g).ext m) (bS.mb h3 λj D j' H4 G4 A I n d4 q=>?_);cases(show j'=j from d4);have d:=d1.ext ((g.trans m).trans I);unfold Jf at q;split at q
 ·rename_i ds e;split at q
  ·exact False.elim q
  ·rename_i hj;obtain⟨p,F,rfl,V,T⟩:=tD n d e;exact⟨p,F,rfl,V,hj,λl hl=>zU n hl (ao3 T o k j) q⟩
 ·exact False.elim q
end
@[elab_as_elim] theorem us0{P:ao ar->Prop}(us:ao ar)(h:us.length=0)(f:P []):P us:=by cases us with|nil=>exact f|cons _ _=>simp at h
@[elab_as_elim] theorem Aj{P:ao ar->Prop}(us:ao ar)(h:us.length=1)(f:∀a,P [a]):P us:=by
 cases us with
 |nil=>simp at h
 |cons a r=>exact us0 r (by simpa using h) (f a)
@[elab_as_elim] theorem GD{P:ao ar->Prop}(us:ao ar)(h:us.length=2)(f:∀a b,P [a,b]):P us:=by
 cases us with
 |nil=>simp at h
 |cons a r=>exact Aj (P:=λr=>P (a::r)) r (by simpa using h) (f a)
@[elab_as_elim] theorem Ai{P:ao ar->Prop}(us:ao ar)(h:us.length=3)(f:∀a b c,P [a,b,c]):P us:=by
 cases us with
 |nil=>simp at h
 |cons a r=>exact GD (P:=λr=>P (a::r)) r (by simpa using h) (f a)
@[elab_as_elim] theorem Ah{P:ao ar->Prop}(us:ao ar)(h:us.length=4)(f:∀a b c d,P [a,b,c,d]):P us:=by
 cases us with
 |nil=>simp at h
 |cons a r=>exact Ai (P:=λr=>P (a::r)) r (by simpa using h) (f a)
@[elab_as_elim] theorem us5{P:ao ar->Prop}(us:ao ar)(h:us.length=5)(f:∀a b c d e,P [a,b,c,d,e]):P us:=by
 cases us with
 |nil=>simp at h
 |cons a r=>exact Ah (P:=λr=>P (a::r)) r (by simpa using h) (f a)
section
variable{X:Cx}{aa:ao (ay×cp)}{J:L2.St}{H:Hp}{s:aw}
theorem Inv.OB(I:Inv X aa J H s):∃m,s.heap.Ns X.env.locals m/\Fr X.base X.env.locals s.heap m :=
 let ⟨m,hn,_⟩:=I.loc
 ⟨m,hn,hn,I.bk,nW I.ok.rX I.ok.above⟩
end
end V2
namespace L2
open PySem PySem.Spec PyProof.Rows
def Yt(scope:da):bh:=(scope.kind == .function)&&scope.names.all λy=>y.2 != .cell&&(y.2 != .free&&(y.2 != .local||scope.names.lookup y.1==ak .local))
theorem BB.of0{X:Cx}{scope:da}{ls:ao a9}(ok:Yt scope=ax):BB X scope ls []:=by
 unfold Yt at ok;rw[lF,JQ]at ok;obtain⟨h1,h2⟩:=ok;have hl:∀y∈scope.names,y.2≠.cell/\y.2≠.free/\(y.2=.local->scope.names.lookup y.1=ak .local):=λy q=>by
  have:=h2 y q;rw[lF,lF,Bool.or_eq_true]at this;refine⟨by simpa using this.1,by simpa using this.2.1,λe=>?_⟩
  rcases this.2.2 with z|z
  ·simp[e]at z
  ·simpa using z
 refine⟨by simpa using h1,λy q=>(hl y q).1,λy q=>(hl y q).2.2,λy q hf=>?_,λj B=>?_⟩
 ·exact b4 hf (hl y q).2.1
 ·simp at B
end L2
namespace V2
open PySem PySem.Spec PyProof.Rows L2
theorem awA{P:bg}{w:br}{k:Key}{u:ar}(h:(mK P w).is k u=ax):RelV (kV k) u:=by
 rcases uN (k:=k) (v:=u) h with⟨i,t,q,j⟩|⟨x,t,q,j⟩
 ·subst q;exact⟨t,j⟩
 ·subst q;exact⟨t,j⟩
section
variable{X:Cx}{W:WX}
theorem Xb{α β:Type}{F:α->β->Prop}:∀{B:ao α} {z:ao β},Paired F B z->∀{j:a4} {a:α},B[j]?=ak a->∃b,z[j]?=ak b/\F a b
 |_,_,.nil,j,a,h=>by simp at h
 |_,_,.cons r _,0,a,h=>by cases h;exact⟨_,rfl,r⟩
 |_,_,.cons _ L,j+1,a,h=>by obtain⟨b,q,f⟩:=Xb L (j:=j) (by simpa using h);exact⟨b,by simpa using q,f⟩
end
noncomputable def kA:Key->A
 |.inl i => .int i
 |.inr s => .str s
theorem aCT{K:bj}{G:Hp}{O:ao ay}(k:Key):Den K G O (kV k) (kA k):=by cases k <;> simp only[kV,kA,Den]
def DA(j:Key×A):A:=.tup [kA j.1,j.2]
end V2
namespace L2
open PySem PySem.Spec PyProof.Rows
theorem aCE:entryFor table "dict_itemiterator.__iter__" = ak Builtin.«dict_keyiterator.__iter__» :=
 entryFor_alias (id' := "dict_keyiterator.__iter__") (by kernel_rfl) (by rfl) (by decide +kernel) (by kernel_rfl)
theorem av4{prog:bg}{w:br}{A:bu}{E:ar->aw->Prop}{s:aw}{it d:ay}{i n ep:a4}{ok ov:ar}{Q:ar->aw->Prop}(h:IsItemIter s.heap it d i n ep ok ov)(q:Q (.ref it) s):wpAny (bq prog w) A (pyIter (.ref it)) Q E s:=by
 have ty:s.TypeIs (.ref it) "dict_itemiterator":=⟨_,h,rfl⟩;exact wpAny_pyIter_slot ty F.slot_dict_itemiterator_iter (sU F.slot_dict_itemiterator_iter ty aCE (bC ⟨_,rfl,_,_,ty,F.slot_dict_itemiterator_next.lookup,q⟩) (F.args_dict_itemiterator_iter_1 _))
end L2
namespace V2
open PySem PySem.Spec PyProof.Rows L2
def Pe(a:ay)(o:cp)(kvs:ao (Key×V)):It :=
 ⟨λi H=>H a=ak (.iC o (.dK kvs))/\i<kvs.length,λi H x H'=>∃p j,kvs[i]?=ak j/\H p=aq/\H'=upd H p (.tup [kV j.1,j.2])/\x=.ref p,λi H=>H a=ak (.iC o (.dK kvs))/\kvs.length<=i⟩
theorem abF{X:Cx}{aa:ao (ay×cp)}{J:L2.St}{H:Hp}{s:aw}{a:ay}{o:cp}{kvs:ao (Key×V)}{es:a6 DictEntry}{ep:a4}(I:Inv X aa J H s)(h:H a=ak (.iC o (.dK kvs)))(hd:o.data=.dict es ep) :
  ∃vs,KV kvs vs/\Heap.DictAt (mK X.prog X.w) s.heap a vs ep:=by
 obtain⟨h1,z,y,vs,rel,U,fG,b,q,L,j,B⟩:=I.aL a _ h;rw[h1]at q;cases q;rw[hd]at j;cases j;exact⟨vs,rel,o,es,h1,L,hd,B⟩
theorem ahH{P:bg}{w:br}{K:bj}{elts:ao bx}{D:a4}{tp:dg}(a it:ay)(o:cp)(kvs:ao (Key×V))(es:a6 DictEntry)(ep:a4)(hd:o.data=.dict es ep) :
  Turn P w K (.Tuple elts D tp) (Pe a o kvs) [it] it (λi h=>∃ok ov,IsItemIter h it a i kvs.length ep ok ov)where
 mem:=by simp
 obj:=λi h st c j=>by
  obtain⟨ok,ov,st⟩:=st;have e:c=it:=by simpa using j
  subst e;exact⟨_,st,λv z=>by cases z⟩
 keep:=λi h h' st k=>by
  obtain⟨ok,ov,st⟩:=st;exact⟨ok,ov,k it (by simp) _ st⟩
 item:=by
  intro X p l r j i aa s J H E I d st n;subst p l r;obtain⟨ok,ov,st⟩:=st;obtain⟨t,hi⟩:=n;obtain⟨g,rel,dat⟩:=abF I t hd;have hl:kvs.length=g.length:=rel.length;have x:kvs[i]?=ak kvs[i]:=gM hi;generalize kvs[i]=B at x;obtain⟨f,S,R,Q⟩:=Xb rel x;have U:it<s.heap.objs.size:=eI st;rw[hl]at st;refine wpAny_pyNext_items_item (k:=f.1) (v:=f.2) st dat S λkey h1 m a1 W a3 T=>?_;refine⟨_,rfl,wpAny_letOwnedTupleGo_items (s:={s with heap:=h1}) a1 λh2 A sb=>?_⟩;have L:H s.heap.objs.size=aq:=I.aL.fresh dC;have M:∀c o,c∉[it]->s.heap.get? c=ak o->h2.get? c=ak o:=λc o j q=>by
   have j:c≠it:=by simpa using j
   exact sb.extBut c o j (T c o j q)
  have F:h2.get? s.heap.objs.size=ak {cls:=.type "tuple",data:=.seq #[key,f.2]}:=sb.extBut _ _ (PX U) W;have C:Inv X aa J H {s with heap:=h2}:=Inv.Th (t':=s.toks) I M d;have G:RelV (kV B.1) key:=by rw[R];exact awA m
  have aL:fQ X.prog X.w (upd H s.heap.objs.size (.tup [kV B.1,B.2])) h2:=by
   refine λb o q=>?_
   by_cases y:b=s.heap.objs.size
   ·subst y;rw[gV]at q;cases q;exact⟨by show 2<=bc;decide,[key,f.2],.cons G (.cons Q .nil),⟨_,F,rfl,_,rfl⟩⟩
   ·rw[bX y]at q;exact(C.aL b o q).qX (λc v _ z=>z) (λc z=>by rw[bX (mI z L)];exact z) λc xs z=>by rw[bX (mI z L)];exact z
  have u:rL X aa H s.heap.objs.size:=I.yI dC L;have N:X.s₀.heap.get? s.heap.objs.size=aq:=by
   cases q:X.s₀.heap.get? s.heap.objs.size with
   |none=>rfl
   |some ob=>exact b4 (lN (eI q) I.sz) (Nat.lt_irrefl _)
  have I2:Inv X aa J (upd H s.heap.objs.size (.tup [kV B.1,B.2])) {s with heap:=h2}:=Inv.Tj C L N u.2.1 u.2.2.2.2.1 u.2.2.2.2.2 aL;rw[<-hl]at A;refine⟨.ref s.heap.objs.size,_,I2,rfl,⟨_,B,x,L,rfl,rfl⟩,⟨_,_,A⟩,λc j=>?_⟩;have VP:=(d c j).1;have e:c=it:=by simpa using j
  subst e;rw[bX (fX U)];exact VP
 done:=by
  intro X p l r j i aa s J H E I d st n;subst p l r;obtain⟨ok,ov,st⟩:=st;obtain⟨t,hi⟩:=n;obtain⟨g,rel,dat⟩:=abF I t hd;have hl:kvs.length=g.length:=rel.length;rw[hl]at st;refine wpAny_pyNext_items_end (I.ok.hd j) st dat (by simp;omega) λh' m=>⟨rfl,Inv.Th (t':=s.toks) I (λc o j q=>m c o (by simpa using j) q) d⟩
 self:=λ_ _ _ _ _ st h=>by
  obtain⟨ok,ov,st⟩:=st;exact av4 st h
theorem Inv.aBR{X:Cx}{aa:ao (ay×cp)}{J:L2.St}{H:Hp}{s:aw}{a:ay}{kvs:ao (Key×V)}{o:cp}(I:Inv X aa J H s)(h:H a=ak (.dK kvs))(d:s.heap.get? a=ak o):Inv X aa J (upd H a (.iC o (.dK kvs))) s where
 ok:=I.ok
 os:=I.os
 bare:=I.bare
 base:={
  keep:=I.base.keep
  slot:=I.base.slot
  free:=λb ob q n L=>by
   have z:=I.base.free b ob q n L;rw[bX (cQ (mI h z))];exact z
  there:=I.base.there
  oF:=λb xs q=>by have z:=I.base.oF b xs q;rw[bX (ME z h (by intro w;cases w))];exact z
  nQ:=λb ob u q=>by have z:=I.base.nQ b ob u q;rw[bX (ME z h (by intro w;cases w))];exact z
  oG:=λb B q=>by obtain⟨more,z⟩:=I.base.oG b B q;exact⟨more,by rw[bX (ME z h (by intro w;cases w))];exact z⟩}
 loc:=I.loc
 cell:=I.cell
 free:=by rw[bX (cQ (mI h I.free))];exact I.free
 mP:=λx c q=>by rw[bX (cQ (mI h (I.mP x c q)))];exact I.mP x c q
 pin:=λq U=>by
  obtain⟨x,y,c⟩:=I.pin q U;exact⟨x,by rw[bX (cQ (mI h y))];exact y,c⟩
 aL:=λb u q=>by
  have st:∀c v,H c=ak v->v≠.dK kvs->upd H a (.iC o (.dK kvs)) c=ak v:=λc v z hv=>by rw[bX (ME z h hv)];exact z
  by_cases j:b=a
  ·subst j;rw[gV]at q;cases q;exact⟨d,(I.aL b _ h).qX (λc v _ z=>z) (λc z=>st c _ z (by intro w;cases w)) λc xs z=>st c _ z (by intro w;cases w)⟩
  ·rw[bX j]at q;exact(I.aL b u q).qX (λc v _ z=>z) (λc z=>st c _ z (by intro w;cases w)) λc xs z=>st c _ z (by intro w;cases w)
 len:=I.len
section
variable{X:Cx}{W:WX}{pos:dg}
theorem apB{o:bx}{td:TE}{elts:ao bx}{r:a4}{tp ag k:dg}(A:PE X o td)(p:df o "items" X.env (cb o X.env)=cb o X.env:=by rfl)(M:(ag.endLine==k.line)=ax:=by rfl) :
  PI X (.Tuple elts r tp) (.Call (.Attribute o "items" ag) [] [] k) (λJ H R=>td J H λx H1=>∃a kvs,x=.ref a/\H1 a=ak (.dK kvs)/\∀ob,R (Pe a ob kvs) (upd H1 a (.iC ob (.dK kvs)))):=by
 intro aa s J H R I h;refine wpAny_Call_method0_late p M (bM (A aa s J H _ I h) λv j ⟨x,H1,g,t,u⟩=>?_);obtain⟨a,kvs,rfl,L,q⟩:=u;cases t;obtain⟨h1,h2,G⟩:=Zb g (.inl ⟨kvs,.inl L⟩);obtain⟨z,_,B,rel,d⟩:=Kb g.aL L;refine⟨"dict", "dict.items",PySem.F.plainAttrs_dict,PySem.F.slot_dict_items,PySem.F.type_dict_items,h1,h2,ae5 rfl (PySem.evalArgs_none ?_)⟩;refine call_meetsIn PySem.F.slot_dict_items d.typeIs PySem.F.entry_dict_items (PySem.F.args_dict_items_1 _) (meets_dict_items (mK X.prog X.w) a G) ⟨⟨B,d⟩,?_⟩;obtain⟨ob,es,U,m,E,l,D⟩:=d;have hl:kvs.length=B.length:=rel.length;have n:Inv X aa J H1 {j with heap:=j.heap.push {cls:=.type "dict_items",data:=.fields #[.ref a]} }:=g.kept (t':=j.toks) λb o e=>eK _ e;have dat:Heap.DictAt (mK X.prog X.w) (j.heap.push {cls:=.type "dict_items",data:=.fields #[.ref a]}) a B U:=⟨ob,es,eK _ m,E,l,D⟩;refine wpAny_pyIter_items (s:={j with heap:=j.heap.push {cls:=.type "dict_items",data:=.fields #[.ref a]} }) ⟨_,iQ _ rfl,rfl,rfl⟩ dat ?_;generalize i:({j with heap:=j.heap.push {cls:=.type "dict_items",data:=.fields #[.ref a]} }:aw)=s2 at n dat;have ga:s2.heap.get? a=ak ob:=by rw[<-i];exact eK _ m
 have f:=V2.Inv.aBR n L ga;have K:Inv X aa J (upd H1 a (.iC ob (.dK kvs))) {s2 with heap:=s2.heap.push {cls:=.type "dict_itemiterator",data:=.fields #[.none,.bool au,.ref a,.int 0 0,.int B.length 0,.int U 0,.none,.none]} }:=f.kept (t':=s2.toks) λb o e=>eK _ e;have y:s2.heap=j.heap.push {cls:=.type "dict_items",data:=.fields #[.ref a]}:=by rw[<-i]
 refine⟨s2.heap.objs.size,[s2.heap.objs.size],_,_,_,rfl,K,ahH a _ ob kvs es U l,⟨.none,.none,by rw[hl];exact iQ _ rfl⟩,λc C=>?_,q ob⟩;have e:c=s2.heap.objs.size:=by simpa using C
 subst e;exact f.yI dC (f.aL.fresh dC)
def MO(kvs:ao (Key×A)):Src:=⟨kvs.map DA,λ_=>True⟩
@[simp] def Af(f:Ev->Mo A):Ev->Mo Src:=λY=>mb (f Y) λa Z=>match oS Z a with
 |some (k,kvs)=>ak (.ok (MO kvs),Z.set k .dead)
 |none=>aq
theorem av3{K:bj}{G:Hp}{O:ao ay}{p:ay}{o:cp}{L:ao (Key×V)}{kvs:ao (Key×A)}(n:G p=ak (.iC o (.dK L)))(m:L.map (·.1)=kvs.map (·.1))(d:aY K G O (L.map (·.2)) (kvs.map (·.2))):JS K G O (Pe p o L) (MO kvs):=by
 have hl:L.length=kvs.length:=by have:=cz List.length m;simpa using this
 have k:(MO kvs).ds.length=kvs.length:=by simp[MO]
 refine⟨λf j B s e w h i hi=>⟨w.sub _ _ (e.same _ _ n),by rw[hl,<-k];exact hi⟩,λf j B s e w h i hi=>⟨w.sub _ _ (e.same _ _ n),by rw[hl,<-k];exact hi⟩,λf j B s e w h i x D y C hd=>?_⟩;obtain⟨q,a,r,c,rfl,rfl⟩:=hd;have U:(kvs.map DA)[i]?=ak y:=C;rw[jH]at U;cases b:kvs[i]? with
 |none=>rw[b]at U;cases U
 |some t =>
  rw[b]at U;cases U;have v:a.1=t.1:=by
   have:=cz (λl=>l[i]?) m;simp only[jH,r,b,PV,iZ]at this;exact this
  obtain⟨z,g,u⟩:=d.get (i:=i) (d:=t.2) (by rw[jH,b];rfl);rw[jH,r]at g;cases g;refine⟨upd f q (.tup [kV a.1,a.2]),Ext.new (w.rC c) _,w.new c _,?_⟩;simp only[DA,Den];exact⟨q,[kV a.1,a.2],rfl,gV,.cons (by rw[v];exact aCT _) (.cons ((u.ext e).ext (Ext.new (w.rC c) _)) .nil)⟩
theorem agG{o:bx}{f:Ev->Mo A}{elts:ao bx}{B:a4}{tp ag q:dg}(E:VE X W o f)(u:df o "items" X.env (cb o X.env)=cb o X.env:=by rfl)(I:(ag.endLine==q.line)=ax:=by rfl) :
  VI X W (.Tuple elts B tp) (.Call (.Attribute o "items" ag) [] [] q) (Af f):=by
 obtain⟨t,p,s⟩:=E;refine⟨_,apB p u I,λG l n H J i R w r h=>?_⟩;refine s G l n H J i _ w r (bS.mb h λa m v K d j B U F h1=>?_);split at h1
 ·rename_i k D e;obtain⟨p,z,rfl,b,g,C,q,y⟩:=IT U F e;refine⟨p,z,rfl,C,λob=>?_⟩;have x:=U.put (k:=k) (c:=.dead) (o:=.iC ob (.dK z)) b g trivial;have L:=x.freeze b g gV;rw[lO]at L;have e0:Ext d j (upd d p (.iC ob (.dK z))) j:=Ext.new g _;exact h1 _ _ _ _ e0 L (av3 gV q (y.ext e0))
 ·exact False.elim h1
end
def FC(i:a4)(f:a9)(g:Ev->Mo A)(Y:Ev)(Z:aG)(r:Rs A×aG):Prop :=
 ∃s cls fs fd c j fd' c' a,Y[i]?=ak (ak (.aE s))/\Z[s]?=ak (.ins cls fs)/\fs.lookup f=ak fd/\fd.cell=ak c/\g Y (fE Z s cls f fs c)=ak (.ok a,j++[c'])/\j.length=Z.length /\
  j[s]?=ak (.ins cls (putD f (.val (.aE Z.length)) fs))/\fd'.cell=ak c'/\(∀(k:a4) (x:Cell),k≠s->j[k]?=ak x->Z[k]?=ak x\/BI Z.length x)/\(fd'=fd\/oW Z.length fd')/\Cl Z.length a/\r=(.ok a,j.set s (.ins cls (putD f fd' fs)))
open Classical in
noncomputable def GA(i:a4)(f:a9)(g:Ev->Mo A):Ev->Mo A:=λY Z=>if h:∃r,FC i f g Y Z r then ak (Classical.choose h)else aq
theorem FC.uniq{i:a4}{f:a9}{g:Ev->Mo A}{Y:Ev}{Z:aG}{r q:Rs A×aG}(h:FC i f g Y Z r)(h':FC i f g Y Z q):r=q:=by
 obtain⟨s,cls,fs,fd,c,k,T,G,a,a1,a2,x,w,v,Q,P,u,N,R,S,y⟩:=h;obtain⟨s',D,E,m,H,e,l,F,b,d,U,L,B,j,M,K,o,I,t,p,C⟩:=h';rw[a1]at d;cases d;rw[a2]at U;cases U;rw[x]at L;cases L;rw[w]at B;cases B;rw[v]at j;simp only[iZ,wU,Rs.ok.injEq]at j;obtain⟨rfl,n⟩:=j;obtain⟨rfl,z⟩:=List.append_inj' n rfl;simp only[nX,uZ]at z;subst z;have:=acE u o;subst this;rw[y,C]
theorem ag2{i:a4}{f:a9}{g:Ev->Mo A}{Y:Ev}{Z:aG}{r:Rs A×aG}(h:FC i f g Y Z r):GA i f g Y Z=ak r:=by
 have ex:∃r,FC i f g Y Z r:=⟨r,h⟩;unfold GA;rw[dif_pos ex];exact cz ak (FC.uniq (FJ ex) h)
theorem agO{X:Cx}{W:WX}{e:bx}{i:a4}{f:a9}{g:Ev->Mo A}(h:VE X W e g):VE X W e (GA i f g):=by
 refine RT h λE d r cl hd=>?_;unfold GA at hd;split at hd
 ·rename_i ex;cases hd;generalize hr:Classical.choose ex=r;have B:=FJ ex;rw[hr]at B;obtain⟨s,cls,fs,L,c,j,C,U,a,G,q,b,v,u,t,p,o,n,w,y,rfl⟩:=B;obtain⟨F,e1,_⟩:=CU b;have D:oW d.length L:=(cl.aE s _ q:nY _ fs).get e1;refine⟨s,f,_,a,j++[U],⟨cls,fs,L,c,q,b,v,rfl⟩,u,⟨j,U,cls,_,C,rfl,t,p,by rw[GW,a7 rfl],o,λk x m l=>?_,?_,by rw[xQ]⟩,y,rfl⟩
  ·rcases n k x m l with z|z
   ·exact cl.aE k x z
   ·exact z
  ·rw[xQ];exact OP (cl.aE s _ q:nY _ fs) (by rcases w with z|z;exact z ▸ D;exact z)
 ·cases hd
section
variable{P:bg}{w:br}{K:bj}{mg:a9->av ar}{base:bz}
structure aeY(K:bj)(x af:a9)(st:bw)(f T:ay)(fd:cy):Prop where
 ex:∃(oc:ar) (od:av ay) (kV doc pm:ar) (an:av ay) (aZ ct:ar) (jL:a6 (av ar)),
  fd=fnOf x af (lL st) (fV st) (bB st) (.ref T) kV doc pm an aZ ct/\K.lookup f=ak ⟨oc,od,.func fd,jL⟩/\codeIn K aZ af=ax
structure YS(K:bj)(mg:a9->av ar)(cls m af:a9)(st:bw)(dv:a6 ar):Prop where
 ex:∃C f fd T o n,cu K a5 cls=ak (ak (.ref C))/\mg cls=ak (.ref C)/\nE K C/\Meth K C m f/\aeY K m af st f T fd/\K.lookup T=ak o/\o.data=.seq dv n
theorem bV.ofD{cls m af:a9}{st:bw}{N ps:ao a9}{k:a4}{b:MS}{z:a6 ar}{ds:ao ar}{dvs:ao V}{das:ao A}(h:YS K mg cls m af st z)(hv:Vals dvs ds)(hd:∀G O,aY K G O dvs das)(S:cE N ps (bB st))
  (bind:∀(T:ay) (kV doc pm:ar) (an:av ay) (j ct:ar) (us:ao ar),us.length+ds.length=ps.length->∃k,ei (fnOf m af (lL st) (fV st) (bB st) (.ref T) kV doc pm an j ct) ⟨us,[]⟩=seqItems? (.ref T) >>= k/\k (ak z)=pure (ps.zip (us++ds)))
  (a:∀(f:ay) (j:ar) (A:bu) (outer:ao Env) (s:aw) (H:Hp) (E:XK),dP k (A.deeper (c7 af (bB st) s.heap.objs.size f j)) ->
   iX (rF P w K mg base N af (bB st) f j A outer s H E) (λ_=>E) (fV st) b):bV P w K mg base cls m (k+1) ps.length das (cM N.length b):=by
 obtain⟨C,f,fd,T,o,n,h1,_,h2,g,F,hT,d⟩:=h.ex;obtain⟨r,l,kV,doc,pm,an,j,ct,v,rfl,L,U⟩:=F.ex;refine⟨C,f,_,ps,ds,dvs,h1,h2,g,rfl,Jp L U S (λB H Q E h=>h.1) λA outer s H B Q E hr c=>?_,λs us e hl=>?_,hv,hd⟩
 ·obtain⟨t,p,q⟩:=a f j A outer s H E hr;exact⟨t,Fy p,WU q c⟩
 ·obtain⟨u,e1,i⟩:=bind T kV doc pm an j ct us (by rw[<-fJ];exact hl);exact BindsTo.of_defaults rfl (e _ _ hT) d e1 i
end
section
variable{X:Cx}{W:WX}
theorem aFV:oX X (.builtin "abs") (λxs H Q=>∃i:az,xs=[.int i]/\Q (.int (if i<0 then -i else i)) H):=by
 intro aa s J H xs z Q I r h;obtain⟨i,rfl,q⟩:=h;cases r with
 |cons j r =>
  cases r;obtain⟨B,rfl⟩:=j;exact call_abs_int λu tk=>⟨.int _,H,I.tok _,⟨u,rfl⟩,q⟩
@[simp] def WB(as:ao A):Mo A:=match as with
 |[.int i]=>ret (.int (if i<0 then -i else i))
 |_=>stuck
theorem aF1:rN X W (.builtin "abs") WB:=by
 refine⟨_,aFV,?_⟩;intro G q z H J B L Q w d h;unfold WB at h;split at h
 ·rename_i i;obtain⟨x,rfl,j⟩:=uU d;simp only[Den]at j;subst j;exact⟨i,rfl,kO w (by simp only[Den]) h⟩
 ·exact False.elim h
end
end V2
namespace L2
open PySem
theorem dP.m{j k:a4}{A:bu}(r:dP k A)(h:j<=k:=by first|decide|omega):dP j A:=r.mono h
end L2
namespace V2
open PySem L2 PyProof.Rows
variable{P:bg}{w:br}{K:bj}{mg:a9->av ar}{base:bz}
theorem aEN{h:bz}{x:a9}{v:az}{t:Tok}(X:K.In h)(G:h.Ns a5 mg)(a:cu K a5 x=ak (ak (.int v t))):∃t,mg x=ak (.int v t):=⟨_,mg_of X G a⟩
theorem Xf{h:bz}{c:a9}{C:ay}(X:K.In h)(G:h.Ns a5 mg)(a:cu K a5 c=ak (ak (.ref C)))(e:excIn K C Ko "ValueError.__new__" = ax):JF K mg c:=⟨C,⟨e⟩,mg_of X G a,a⟩
structure kZ(K:bj)(X:ay)(m q:a9)(st:bw):Prop where
 ex:∃f fd,Meth K X m f/\tQ K m q st f fd
theorem mJ{X f:ay}{m q:a9}{st:bw}{B:ar}{od U:av ay}{L:a6 (av ar)}{kV doc z j ct:ar}(a:b5 K (.ref X) m=ak (ak (.ref f)))
  (l:K.lookup f=ak ⟨B,od,.func (fnOf m q (lL st) (fV st) (bB st) .none kV doc z U j ct),L⟩) (c:codeIn K j q=ax) (k:keepIn K (.ref f)=ax) (i:isFn K (.ref f)=ax):kZ K X m q st:=⟨f,_,⟨a,i,k⟩,OA l c k⟩
theorem kZ.has{h:bz}{cls m q:a9}{st:bw}{C:ay}(M:kZ K C m q st)(X:K.In h)(G:h.Ns a5 mg)(n:cu K a5 cls=ak (ak (.ref C)))(L:nE K C):lE K mg cls m q st :=
 let ⟨f,fd,a,b⟩:=M.ex; ⟨C,f,fd,n,mg_of X G n,L,a,b⟩
structure YQ(K:bj)(X:ay)(q:a9)(st:bw):Prop where
 ex:∃f fd,Mk K X f/\tQ K "__init__" q st f fd
theorem awJ{X f:ay}{q:a9}{st:bw}{B:ar}{od b:av ay}{U:a6 (av ar)}{kV doc z j ct:ar}(a:b5 K (.ref X) "__init__" = ak (ak (.ref f)))
  (l:K.lookup f=ak ⟨B,od,.func (fnOf "__init__" q (lL st) (fV st) (bB st) .none kV doc z b j ct),U⟩) (c:codeIn K j q=ax) (k:keepIn K (.ref f)=ax) (i:isFn K (.ref f)=ax)
  (mk:makesIn K X=ax) (L:keepIn K (.ref X)=ax):YQ K X q st:=⟨f,_,⟨mk,a,i,L⟩,OA l c k⟩
theorem YQ.has{h:bz}{cls q:a9}{st:bw}{C:ay}(M:YQ K C q st)(X:K.In h)(G:h.Ns a5 mg)(n:cu K a5 cls=ak (ak (.ref C))):Pg K mg cls q st :=
 let ⟨f,fd,a,b⟩:=M.ex; ⟨C,f,fd,n,mg_of X G n,a,b⟩
structure YF(K:bj)(X:ay)(m q:a9)(st:bw)(dv:a6 ar):Prop where
 ex:∃f fd T o n,Meth K X m f/\aeY K m q st f T fd/\K.lookup T=ak o/\o.data=.seq dv n
theorem asZ{X f T:ay}{m q:a9}{st:bw}{L tc:ar}{od b td:av ay}{U ts:a6 (av ar)}{kV doc B z ct:ar}{n:a4}{j:a6 ar}(a:b5 K (.ref X) m=ak (ak (.ref f)))
  (l:K.lookup f=ak ⟨L,od,.func (fnOf m q (lL st) (fV st) (bB st) (.ref T) kV doc B b z ct),U⟩) (c:codeIn K z q=ax) (k:keepIn K (.ref f)=ax) (i:isFn K (.ref f)=ax)
  (t:K.lookup T=ak ⟨tc,td,.seq j n,ts⟩):YF K X m q st j:=⟨f,_,T,_,n,⟨a,i,k⟩,⟨⟨_,_,_,_,_,_,_,_,_,rfl,l,c⟩⟩,t,rfl⟩
theorem YF.has{h:bz}{cls m q:a9}{st:bw}{C:ay}{j:a6 ar}(M:YF K C m q st j)(X:K.In h)(G:h.Ns a5 mg)(n:cu K a5 cls=ak (ak (.ref C)))(L:nE K C):YS K mg cls m q st j :=
 let ⟨f,fd,T,o,k,a,b,c,d⟩:=M.ex; ⟨C,f,fd,T,o,k,n,mg_of X G n,L,a,b,c,d⟩
theorem dW{N P:ao a9}{j:da}(a:j.kind=.function:=by rfl)(b:j.isCoroutine=au:=by rfl)(c:j.isGenerator=au:=by rfl)(d:N.Nodup:=by decide +kernel)(e:N.take P.length=P:=by rfl)(f:∀x∈P,j.names.lookup x=ak .local\/j.names.lookup x=ak .cell:=by decide +kernel)(g:∀y∈j.names,y.2≠.free:=by decide +kernel):cE N P j:=⟨a,b,c,d,e,f,g⟩
end V2
namespace PySem
open PyProof.Rows
def wR(xs:a6 a4):Prop:=∀i j a b:a4,i<j->xs[i]?=ak a->xs[j]?=ak b->a<b
theorem Ku(xs:a6 a4)(j:a4)(hr:wR xs):∀(fuel lo hi:a4),lo<=hi->hi<=xs.size->hi-lo<=fuel->(∀i a,i<lo->xs[i]?=ak a->a<j)->(∀i a,hi<=i->xs[i]?=ak a->j<=a) ->
  lo<=SetTable.below.go xs j fuel lo hi/\SetTable.below.go xs j fuel lo hi<=xs.size/\(∀i a,i<SetTable.below.go xs j fuel lo hi->xs[i]?=ak a->a<j)/\(∀i a,SetTable.below.go xs j fuel lo hi<=i->xs[i]?=ak a->j<=a)
 |0,lo,hi,h1,h2,g,L,B=>by
  have:lo=hi:=by omega
  subst this;exact⟨rK _,h2,L,B⟩
 |fuel+1,lo,hi,h1,h2,g,L,B=>by
  unfold SetTable.below.go
  by_cases e:lo<hi
  ·rw[a7 e];have hm:(lo+hi)/2<xs.size:=by omega
   have q:xs[(lo+hi)/2]?=ak xs[(lo+hi)/2]:=oP xs _ hm;have hd:xs.getD ((lo+hi)/2) j=xs[(lo+hi)/2]:=by simp[Array.getD,hm]
   show lo<=(if xs.getD ((lo+hi)/2) j<j then SetTable.below.go xs j fuel ((lo+hi)/2+1) hi else SetTable.below.go xs j fuel lo ((lo+hi)/2))/\(if xs.getD ((lo+hi)/2) j<j then SetTable.below.go xs j fuel ((lo+hi)/2+1) hi else SetTable.below.go xs j fuel lo ((lo+hi)/2))<=xs.size/\(∀i a,i<(if xs.getD ((lo+hi)/2) j<j then SetTable.below.go xs j fuel ((lo+hi)/2+1) hi else SetTable.below.go xs j fuel lo ((lo+hi)/2))->xs[i]?=ak a->a<j)/\(∀i a,(if xs.getD ((lo+hi)/2) j<j then SetTable.below.go xs j fuel ((lo+hi)/2+1) hi else SetTable.below.go xs j fuel lo ((lo+hi)/2))<=i->xs[i]?=ak a->j<=a);rw[hd]
   by_cases U:xs[(lo+hi)/2]<j
   ·rw[a7 U];obtain⟨a,b,c,d⟩:=Ku xs j hr fuel ((lo+hi)/2+1) hi (by omega) h2 (by omega) (λi a f ha=>by
     rcases JH i ((lo+hi)/2)with z|z
     ·have:=hr i ((lo+hi)/2) a _ z ha q;omega
     ·have:i=(lo+hi)/2:=by omega
      subst this;rw[q]at ha;cases ha;exact U) B
    exact⟨by omega,b,c,d⟩
   ·rw[ba U];obtain⟨a,b,c,d⟩:=Ku xs j hr fuel lo ((lo+hi)/2) (by omega) (by omega) (by omega) L (λi a f ha=>by
     rcases JH ((lo+hi)/2) i with z|z
     ·have:=hr ((lo+hi)/2) i _ a z q ha;omega
     ·have:i=(lo+hi)/2:=by omega
      subst this;rw[q]at ha;cases ha;omega)
    exact⟨a,b,c,d⟩
  ·rw[ba e];have:lo=hi:=by omega
   subst this;exact⟨rK _,h2,L,B⟩
theorem Kt{xs:a6 a4}(hr:wR xs)(j:a4):SetTable.below xs j<=xs.size/\(∀i a,i<SetTable.below xs j->xs[i]?=ak a->a<j)/\(∀i a,SetTable.below xs j<=i->xs[i]?=ak a->j<=a):=by
 obtain⟨_,b,c,d⟩:=Ku xs j hr xs.size 0 xs.size CP dC (by omega) (λi a h=>b4 h (Nat.not_lt_zero _)) (λi a h ha=>by
  have:=(RJ.mp ha).1;omega)
 exact⟨b,c,d⟩
theorem aGR{xs:a6 a4}(hr:wR xs){i a:a4}(h:xs[i]?=ak a):SetTable.below xs (a+1)=i+1:=by
 obtain⟨b,c,d⟩:=Kt hr (a+1);have hi:=(RJ.mp h).1
 rcases Nat.lt_trichotomy (SetTable.below xs (a+1)) (i+1)with z|z|z
 ·have:=d i a (by omega) h;omega
 ·exact z
 ·have hl:i+1<xs.size:=by omega
  have j:xs[i+1]?=ak xs[i+1]:=oP xs _ hl;have h1:=c (i+1) _ z j;have h2:=hr i (i+1) a _ (by omega) h j;omega
theorem aGQ{xs:a6 a4}(hr:wR xs):SetTable.below xs 0=0:=by
 obtain⟨b,c,d⟩:=Kt hr 0
 rcases Nat.eq_zero_or_pos (SetTable.below xs 0)with z|z
 ·exact z
 ·have hl:0<xs.size:=by omega
  have j:xs[0]?=ak xs[0]:=oP xs _ hl;have:=c 0 _ z j;omega
theorem awI{α:Type}(xs:a6 α)(p:a4)(x:α)(z:p<=xs.size)(i:a4):(SetTable.insertAt xs p x)[i]?=if i<p then xs[i]? else if i=p then ak x else xs[i-1]?:=by
 unfold SetTable.insertAt;have e1:(xs.extract 0 p).size=p:=by simp;omega
 have q:((xs.extract 0 p).push x).size=p+1:=by rw[Array.size_push,e1]
 rw[Array.getElem?_append,q]
 by_cases h1:i<p
 ·rw[a7 (by omega),a7 h1,Array.getElem?_push,e1,ba (by omega),Array.getElem?_extract];simp;intro h;omega
 ·rw[ba h1]
  by_cases h2:i=p
  ·rw[a7 (by omega),a7 h2,Array.getElem?_push,e1,a7 h2]
  ·rw[ba (by omega),ba h2,Array.getElem?_extract]
   by_cases j:i-(p+1)<xs.size-p
   ·rw[a7 (by simpa using j),show(p+(i-(p+1)))=i-1 by omega]
   ·rw[ba (by simpa using j),eq_comm,afB];omega
theorem amR{xs:a6 a4}(hr:wR xs)(j:a4)(hn:xs[SetTable.below xs j]?≠ak j):wR (SetTable.insertAt xs (SetTable.below xs j) j):=by
 obtain⟨b,c,d⟩:=Kt hr j;have d':∀i a,SetTable.below xs j<=i->xs[i]?=ak a->j<a:=λi a h1 h2=>by
  have L:=d i a h1 h2
  rcases JH j a with z|z
  ·exact z
  ·exfalso;have:a=j:=by omega
   subst this
   rcases JH (SetTable.below xs a) i with y|y
   ·have hl:SetTable.below xs a<xs.size:=by have:=(RJ.mp h2).1;omega
    have e:xs[SetTable.below xs a]?=ak xs[SetTable.below xs a]:=oP xs _ hl;have g:=d _ _ dC e;have f:=hr _ i _ a y e h2;omega
   ·have:i=SetTable.below xs a:=by omega
    subst this;exact hn h2
 intro i k x y U B q;rw[awI _ _ _ b]at B q
 by_cases h1:i<SetTable.below xs j
 ·rw[a7 h1]at B
  by_cases h2:k<SetTable.below xs j
  ·rw[a7 h2]at q;exact hr i k x y U B q
  ·rw[ba h2]at q
   by_cases L:k=SetTable.below xs j
   ·rw[a7 L]at q;cases q;exact c i x h1 B
   ·rw[ba L]at q;exact hr i (k-1) x y (by omega) B q
 ·rw[ba h1]at B;rw[ba (by omega),ba (by omega)]at q
  by_cases L:i=SetTable.below xs j
  ·rw[a7 L]at B;cases B;exact d' (k-1) y (by omega) q
  ·rw[ba L]at B;exact hr (i-1) (k-1) x y (by omega) B q
theorem amQ(n:a4):wR (Array.range n):=by
 intro i j a b L ha hb;have h1:=(RJ.mp ha);have h2:=(RJ.mp hb);obtain⟨p,q⟩:=h1;obtain⟨B,z⟩:=h2;simp at q z;omega
theorem amS{l:ao a4}(h:l.Pairwise (· < ·)):wR l.toArray:=by
 intro i j a b L ha hb;simp only[List.getElem?_toArray]at ha hb;obtain⟨p,q⟩:=cR.mp ha;obtain⟨B,z⟩:=cR.mp hb;have:=List.pairwise_iff_getElem.mp h i j p B L;rw[q,z]at this;exact this
theorem Eh(t:b9)(ha:a4->az)(h:az):∀(fuel:a4) (p:SetTable.Probe) (j:a4) (q:av a4),SetTable.probe.go t ha h fuel p=ak (.empty j q)->t.slot j=.empty/\∀d,q=ak d->p.dummy=ak d\/t.slot d=.dummy
 |0,p,j,q,e=>by cases e
 |fuel+1,p,j,q,e=>by
  unfold SetTable.probe.go at e;cases B:t.slot p.j with
  |empty =>
   rw[B]at e;dsimp only at e;cases e;exact⟨B,λd hd => .inl hd⟩
  |dummy =>
   rw[B]at e;dsimp only at e;obtain⟨a,b⟩:=Eh t ha h fuel _ j q e;refine⟨a,λd hd=>?_⟩
   rcases b d hd with z|z
   ·have L:(t.advance {p with dummy:=ak p.j}).dummy=ak p.j:=by
     unfold SetTable.advance;split <;> rfl
    rw[L]at z;cases z;exact .inr B
   ·exact .inr z
  |live i =>
   rw[B]at e;dsimp only at e
   by_cases hh:(ha i==h)=ax
   ·rw[a7 hh]at e;cases e
   ·rw[ba hh]at e;obtain⟨a,b⟩:=Eh t ha h fuel _ j q e;refine⟨a,λd hd=>?_⟩
    rcases b d hd with z|z
    ·have L:(t.advance p).dummy=p.dummy:=by
      unfold SetTable.advance;split <;> rfl
     rw[L]at z;exact .inl z
    ·exact .inr z
theorem Uw{t:b9}{j:a4}(h:t.slot j=.empty\/t.slot j=.dummy):t.place[SetTable.below t.place j]?≠ak j:=by
 intro z;unfold SetTable.slot at h;simp only[z,beq_self_eq_true,fI]at h
 rcases h with h|h <;> cases h
theorem aBS{t:b9}{h:az}{j:a4}{b:bh}(e:t.freeSlot h=ak (j,b)):t.place[SetTable.below t.place j]?≠ak j:=by
 unfold SetTable.freeSlot at e;split at e
 ·next B q L =>
  cases e;obtain⟨a,c⟩:=Eh t _ h _ _ B q L;cases q with
  |none=>exact Uw (.inl a)
  |some d =>
   rcases c d rfl with z|z
   ·cases z
   ·exact Uw (.inr z)
 ·cases e
structure pW(led:bh)(t:b9):Prop where
 rise:wR t.place
 led:t.led=led
theorem ahV(led:bh):pW led (.fresh 0 0 led):=⟨λi j a b _ h=>by simp[SetTable.fresh]at h,rfl⟩
theorem SI{led:bh}{t:b9}(h:pW led t)(n:a4):pW led (t.standIn n):=⟨amQ n,h.led⟩
theorem ahU{led:bh}{t:b9}(h:pW led t)(es:a6 (az×ar))(q:az)(x:ar):pW led (layNew t es q x).2.1:=by
 unfold layNew;split
 ·next slot z e =>
  show pW led ((t.put slot).1.orStandIn _);have j:pW led (t.put slot).1:=⟨amR h.rise slot (aBS e),h.led⟩;unfold SetTable.orStandIn;split
  ·exact j
  ·exact SI j _
 ·exact SI h _
theorem ahS{led:bh}{t:b9}(h:pW led t)(es:a6 (az×ar))(w:a4):pW led (relayAll t es w).2.1:=by
 unfold relayAll;split
 ·next j order e =>
  show pW led (if(coversAll order es.size&&j.fits (order.filterMap (es[·]?)).size)=ax then(order.filterMap (es[·]?),j,au)else(es,t.standIn es.size,ax)).2.1;split
  ·show pW led j;unfold SetTable.relaid SetTable.laid at e;cases B:SetTable.layClean (SetTable.sizeAbove w-1) (es.map (·.1))with
   |none=>rw[B]at e;cases e
   |some U =>
    rw[B]at e;simp at e;obtain⟨e1,c⟩:=e;subst e1;refine⟨amS ?_,h.led⟩;rw[List.map_filterMap];refine List.Pairwise.filterMap _ (R:=(· < ·)) (λa b L x z y q=>?_) List.pairwise_lt_range;simp at z q;obtain⟨_,_,rfl⟩:=z;obtain⟨_,_,rfl⟩:=q;exact L
  ·exact SI h _
 ·exact SI h _
theorem ahT{led:bh}{t:b9}(h:pW led t)(b:bh):pW led {t with plain:=b}:=⟨h.rise,h.led⟩
noncomputable def oI(w:br):bh:=!w.params.followText "set-order"
def kY(prog:bg)(w:br)(h:bz)(a:ay)(es:a6 (az×ar)):Prop :=
 ∃o ep t,h.get? a=ak o/\o.ExactSet/\o.data=.set es ep t/\ElemsOf (c1 prog w) es.toList/\es.size<d7/\t.fits es.size=ax/\pW (oI w) t
section
variable{prog:bg}{w:br}{A:bu}{E:ar->aw->Prop}{s:aw}
theorem kY.at{h h':bz}{a:ay}{es:a6 (az×ar)}(x:kY prog w h a es)(e:∀o,h.get? a=ak o->h'.get? a=ak o):kY prog w h' a es :=
 let ⟨o,q,t,j,r⟩:=x; ⟨o,q,t,e _ j,r⟩
theorem kY.typeIs{a:ay}{es:a6 (az×ar)}(x:kY prog w s.heap a es):s.TypeIs (.ref a) "set":=let ⟨o,_,_,q,j,_⟩:=x; ⟨o,q,j.1⟩
theorem kY.lt{h:bz}{a:ay}{es:a6 (az×ar)}(x:kY prog w h a es):a<h.objs.size:=let ⟨_,_,_,j,_⟩:=x;eI j
theorem adA{g:bh->Sem Unit}(u:∀(b:bh) (s₁:aw) (n:Unit->aw->Prop),n () s₁->wpAny (bq prog w) A (g b) n E s₁)
  {a:ay} {o:cp} {es:a6 (az×ar)} {ep:a4} {t:b9} (U:s.heap.get? a=ak o) (hex:o.ExactSet) (hd:o.data=.set es ep t)
  {j:a6 (az×ar)} {q:b9} (p:ElemsOf (c1 prog w) j.toList) (AE:j.size<d7) (e:q.fits j.size=ax) (hT:pW (oI w) q) {x:bh} {R:av bh->aw->Prop}
  (h:∀h' fG,Heap.SameBut a s.heap h'->kY prog w h' a fG->fG.toList.Perm j.toList->R (ak ax) {s with heap:=h' }) :
  wpAny (bq prog w) A (do
    storeSet a j q
    if(!x&&q.tooFull)=ax then do
      g (relayAll q j (SetTable.grown j.size)).2.2
      storeSet a (relayAll q j (SetTable.grown j.size)).1 (relayAll q j (SetTable.grown j.size)).2.1
      pure (ak ax)
     else pure (ak ax)) R E s:=by
 have store:∀{h:bz} {o:cp} {es:a6 (az×ar)} {ep:a4} {t:b9} (fG:a6 (az×ar)) (z:b9),h.get? a=ak o->o.data=.set es ep t->(h.update a (Obj.putSet fG z)).get? a=ak {o with data:=.set fG (ep+1) z}:=λ{h o es ep t} fG z U hd=>by
  have:=QS (Obj.putSet fG z) U (by rw[putSet_of fG z hd];rfl);rw[putSet_of fG z hd]at this;exact this
 refine aI (wpAny_storeSet_of U hd ?_ (Jr AE));have c:=store j q U hd;have m:=Heap.SameBut.update s.heap a (Obj.putSet j q);split
 ·have B:=relayAll_perm q j (SetTable.grown j.size);have i:=relayAll_fits q j (SetTable.grown j.size);have k:=ahS hT j (SetTable.grown j.size);generalize y:relayAll q j (SetTable.grown j.size)=Rl at B i k ⊢;obtain⟨L,l,v⟩:=Rl;dsimp only at B i k ⊢;have f:ElemsOf (c1 prog w) L.toList:=p.perm B;have d:L.size=j.size:=by rw[<-gO,B.length_eq,gO]
  have tF:L.size<d7:=by rw[d];exact AE
  refine aI (u _ _ _ ?_);refine aI (wpAny_storeSet_of c rfl ?_ (Jr tF));have r:=store L l c rfl;exact bC (h _ L (m.trans (Heap.SameBut.update _ a _)) ⟨_,_,l,r,hex,rfl,f,tF,i,k⟩ B)
 ·exact bC (h _ j m ⟨_,_,q,c,hex,rfl,p,AE,e,hT⟩ (EZ _))
theorem aHO{a:ay}{es:a6 (az×ar)}{k:az}{x:ar}{Q:bh->aw->Prop}(y:(c1 prog w).is k x=ax)(v:x.scannable=ax)(hS:kY prog w s.heap a es)(I:es.size+1<d7)
  (h:∀b h' fG,Heap.SameBut a s.heap h'->kY prog w h' a fG->(((∃e∈es.toList,(c1 prog w).is k e.2=ax)/\fG=es)\/((∀e∈es.toList,(c1 prog w).is k e.2≠ax)/\fG.toList.Perm (es.toList++[((c1 prog w).hash k,x)])))->Q b {s with heap:=h' }) :
  wpAny (bq prog w) A (setAddHashed a x ((c1 prog w).hash k)) Q E s:=by
 obtain⟨o,G,t,c,hex,hd,m,hb,u,hT⟩:=hS;unfold setAddHashed setAddHashedIn;refine sT (aI (BL c hd u ?_));dsimp only;rw[byScan_of v hb m];simp only[↓reduceIte];unfold setAddByScan;refine aI ?_;refine aI (vH ?_);refine aI (wpAny_setScan_of y c hd u m ?_);cases hr:List.findIdx? (λe=>(c1 prog w).is k e.2) es.toList with
 |some j =>
  dsimp only;obtain⟨F,p,_⟩:=List.findIdx?_eq_some_iff_getElem.mp hr;refine bC (bC ?_);have e:s={s with heap:=s.heap}:=by cases s;rfl
  rw[e];exact h _ s.heap es (Heap.SameBut.refl a s.heap) ⟨o,G,t,c,hex,hd,m,hb,u,hT⟩ (.inl ⟨⟨es.toList[j],Ot F,p⟩,rfl⟩)
 |none =>
  dsimp only;have D:∀e∈es.toList,(c1 prog w).is k e.2≠ax:=λe he z=>by
   have:=List.findIdx?_eq_none_iff.mp hr e he;rw[z]at this;exact Bool.noConfusion this
  have r:∀(b:bh) {s₁:aw} {g:Unit->aw->Prop},g () s₁->wpAny (bq prog w) A (match b with|true=>rule "set.scan.the-table-gave-way" | false=>pure ()) g E s₁ :=
   λb s₁ g q=>by cases b <;> first|exact bC q|exact vH q
  have B:=layNew_perm t es ((c1 prog w).hash k) x;have l:=layNew_fits t es ((c1 prog w).hash k) x;have i:=ahU hT es ((c1 prog w).hash k) x;generalize M:layNew t es ((c1 prog w).hash k) x=L at B l i ⊢;obtain⟨n,K,N,H⟩:=L;dsimp only at B l i ⊢;rw[FK]at B;have C:ElemsOf (c1 prog w) n.toList:=(m.push y v).perm B;have d:n.size<d7:=by rw[<-gO,B.length_eq,fJ,gO];simpa using I
  refine aI (r _ ?_);have f:∀b h' fG,Heap.SameBut a s.heap h'->kY prog w h' a fG->fG.toList.Perm n.toList->Q b {s with heap:=h' }:=λb h' fG U nB z=>h b h' fG U nB (.inr ⟨D,z.trans B⟩);split
  ·refine aI ?_;rw[hashByValue_scannable 8 v];refine bC ?_;refine adA ?_ c hex hd C d ?_ ?_ ?_
   ·intro b s₁ g q;cases b <;> first|exact bC q|exact vH q
   ·split
    ·exact l
    ·exact SetTable.fits_plain_off l
   ·split
    ·exact i
    ·exact ahT i _
   ·intro h' fG U nB z;dsimp only;exact wpAny_pure (f _ h' fG U nB z)
  ·refine aI (bC ?_);simp only[↓reduceIte];refine adA ?_ c hex hd C d l i ?_
   ·intro b s₁ g q;cases b <;> first|exact bC q|exact vH q
   ·intro h' fG U nB z;dsimp only;exact wpAny_pure (f _ h' fG U nB z)
end
def Nums(es:a6 (az×ar))(ms:ao az):Prop:=cw (es.toList.map (·.2)) ms
theorem arV{es fG:a6 (az×ar)}{ms:ao az}(h:Nums es ms){l:ao (az×ar)}(hl:fG.toList.Perm l){mX:ao az}(h2:cw (l.map (·.2)) mX):∃j,Nums fG j/\j.Perm mX:=by
 have q:∀v∈fG.toList.map (·.2),∃n t,v=.int n t:=λv hv=>by
  have:=(hl.map (·.2)).mem_iff.mp hv;exact IntsAre.all h2 v this
 refine⟨_,intsAre_map _ q,?_⟩;have:=(hl.map (·.2)).map numOf;rw[IntsAre.nums h2]at this;exact this
theorem ints_snoc:∀{vs:ao ar} {ns:ao az},cw vs ns->∀(n:az) (t:Tok),cw (vs++[.int n t]) (ns++[n])
 |_,_,.nil,n,t => .cons n t .nil
 |_,_,.cons m u h,n,t => .cons m u (ints_snoc h n t)
open PyProof.Rows PySem.Spec
set_option maxRecDepth 100000
set_option compiler.extract_closed false
set_option genSizeOf false
set_option bootstrap.genMatcherCode false
theorem Xx{prog:bg}{w:br}:∀{l:ao (az×ar)} {ms:ao az},cw (l.map (·.2)) ms->∀k:az,(∃e∈l,(c1 prog w).is k e.2=ax)<->k∈ms
 |[],_,h,k=>by
  cases h;constructor
  ·rintro⟨e,he,_⟩;cases he
  ·intro z;cases z
 |(q,v)::l,_,h,k=>by
  cases h with
  |cons n t h =>
   have ih:=Xx (prog:=prog) (w:=w) h k;constructor
   ·rintro⟨e,he,j⟩
    rcases dY.mp he with z|z
    ·subst z;have:=(c1 prog w).inj _ _ _ j (intKind_is prog w n t);rw[this];exact List.mem_cons_self ..
    ·exact iP _ (ih.mp ⟨e,z,j⟩)
   ·intro z
    rcases dY.mp z with z|z
    ·subst z;exact⟨_,List.mem_cons_self ..,intKind_is prog w k t⟩
    ·obtain⟨e,he,j⟩:=ih.mpr z;exact⟨e,iP _ he,j⟩
theorem aBY(val:a4->az){i n:a4}(h:i<=n):(dm val i).length<=(dm val n).length:=by
 induction h with
 |refl=>exact rK _
 |step _ ih =>
  rw[firstMet_succ];unfold ez;split
  ·exact ih
  ·rw[fJ];omega
section
variable{prog:bg}{w:br}{A:bu}{R:Result->aw->Prop}{I:ay}{fp wr:ao ay}{G:a6 GenState->a6 GenState->Prop}{n:a4}{P:a4->ar->Prop}{St:a4->aw->Prop}
theorem aE0(W:WalksS prog w A.in1 I fp wr G n P St)(S:ay)(DN:S∉fp)
  (val:a4->az) (Gw:∀i v,P i v->∃t,v=.int (val i) t) (hb:(dm val n).length+1<d7) :
  ∀(k i:a4) (s:aw) (es:a6 (az×ar)) (ms:ao az),n-i=k->i<=n->St i s ->
   kY prog w s.heap S es->Nums es ms->ms.Perm (dm val i) ->
   (∀s' fG mX,Moved (S::wr) G s s'->kY prog w s'.heap S fG->Nums fG mX->mX.Perm (dm val n)->R (.ok (.ret .none)) s') ->
   codeAny (bq prog w) A (.builtin "set.update.loop" ⟨[.ref S,.ref I],[]⟩) R s:=by
 have L:S∉wr:=λh=>DN (W.sub _ h);have AA:∀b∈wr,b∈S::wr:=λb hb=>iP _ hb;intro k
 induction k with
 |zero =>
  intro i s es ms hk hi d hS q j hR;have c:i=n:=by omega
  subst c;refine IS aH3 ?_;rw[ZM ad2 _];show wpAny _ A.in1 (ee (.ref I) >>= _) _ _ s;refine aI (W.done s _ _ d λs' hm=>?_);show wpAny _ A.in1 (ret Value.none) _ _ s';exact bC (hR s' es ms (hm.mono AA) (hS.at λo e=>hm.heap S _ L e) q j)
 |succ k ih =>
  intro i s es ms hk hi d hS q j hR;have V:i<n:=by omega
  refine IS aH3 ?_;rw[ZM ad2 _];show wpAny _ A.in1 (ee (.ref I) >>= _) _ _ s;refine aI (W.item i s _ _ V d λv s' p u hm=>?_);obtain⟨t,rfl⟩:=Gw i v p;have nB:kY prog w s'.heap S es:=hS.at λo e=>hm.heap S _ L e;show wpAny _ A.in1 (dy [Value.int (val i) t] (setAdd S (.int (val i) t)) >>= _) _ _ s';refine aI (sT ?_);unfold setAdd;refine sT ?_;refine aI ((c1 prog w).pyHash (k:=val i) (intKind_is _ _ _ _) ?_);have hsz:es.size=(dm val i).length:=by
   have h1:=IntsAre.length q;rw[jQ,gO]at h1;rw[h1];exact j.length_eq
  have Hb:es.size+1<d7:=by have:=aBY val hi;omega
  refine aHO (s:={s' with toks:=s'.toks+1}) (intKind_is _ _ _ _) rfl nB Hb λb h' fG T m He=>?_;have U:∀B,Nums fG B->B.Perm (dm val (i+1))->_:=λB K N =>
   bC (M:=bq prog w) (A:=A.in1) (s:={s' with heap:=h',toks:=s'.toks+1}) (a:=PySem.Fin.again (.builtin "set.update.loop" ⟨[.ref S,.ref I],[]⟩)) (Q:=λfin s'=>match fin with | .done f=>R (.ok f) s' | .again X=>X.quiet=ax/\codeAny (bq prog w) A X R s') (E:=λe s'=>R (.error e) s')
    ⟨TN ad2 _,ih (i+1) _ fG B (by omega) V (W.frame _ s' _ _ u (AX _) λb hb o e=>by
     rw[T.2 b (λh:b=S=>DN (by rw[<-h];exact hb))];exact e) m K N λCG C x r H D F=>by
     refine hR CG C x (Moved.trans W.gtrans ((hm.mono AA).then_heap (AX _) λb o hb e=>?_) r) H D F;rw[T.2 b (λh:b=S=>hb (by rw[h];exact List.mem_cons_self))];exact e⟩
  have VC:=Xx (prog:=prog) (w:=w) q (val i)
  rcases He with⟨c,rfl⟩|⟨xZ,hp⟩
  ·refine U ms q ?_;have AB:val i∈dm val i:=j.mem_iff.mp (VC.mp c);rw[firstMet_succ];unfold ez;rw[a7 (by rw[Ox];exact⟨_,AB,by simp⟩)];exact j
  ·have l:val i∉dm val i:=λz=>by
    obtain⟨e,he,g⟩:=VC.mpr (j.mem_iff.mpr z);exact xZ e he g
   have h2:cw ((es.toList++[((c1 prog w).hash (val i),Value.int (val i) t)]).map (·.2)) (ms++[val i]):=by
    rw[tO];exact ints_snoc q (val i) t
   obtain⟨B,K,N⟩:=arV q hp h2;refine U B K ?_;rw[firstMet_succ];unfold ez;rw[ba (by rw[Ox];rintro⟨y,hy,e⟩;simp at e;subst e;exact l hy)];exact N.trans (j.append_right _)
end
section
variable{prog:bg}{w:br}{A:bu}{E:ar->aw->Prop}{s:aw}
theorem akQ(a:ar){Q₁:ar->aw->Prop}
  (h:Q₁ (.ref s.heap.objs.size) {s with heap:=s.heap.push {cls:=.type "set",dict:=aq,data:=.set #[] 0 (.fresh 0 0 (oI w))} }) :
  codeAny (bq prog w) A (.call (.builtin "set.__new__") ⟨[.type "set",a],[]⟩) (wants Q₁ E) s:=by
 refine codeAny_of_tree ?_;show wpAny _ A.in1 (do checkBuiltinCall "set.__new__" ⟨[.type "set",a],[]⟩;again (.builtin "set.__new__" ⟨[.type "set",a],[]⟩)) _ _ s;refine aI (wpAny_of_eq (F.newCall_set_1 a) (bC ⟨TN F.plain_set_new _,IS F.entry_set_new ?_⟩));rw[ZM F.plain_set_new _];unfold Builtin.«set.__new__» Builtin.Frozenset.newClass;have AA:=sub_set_self;obtain⟨j,g,d,tk,os⟩:=s;dsimp only
 wp_walk
 refine BO (bC ?_);dsimp only;simp only[newObj];refine aI (wpAny_alloc (bC ?_));exact bC h
set_option maxHeartbeats 3200000 in
theorem aFL{l:ay}{items:a6 ar}{ns:ao az}{Q:ar->aw->Prop}
  (hh:A.handled=aq) (hl:s.heap.IsList l items) (hi:PyProof.Rows.IntsAre items.toList ns) (hb:(dm (λi=>ns.getD i 0) items.size).length+1<d7)
  (h:∀(h':bz) (tk:a4) es ms,kY prog w h' s.heap.objs.size es->Nums es ms->ms.Perm (dm (λi=>ns.getD i 0) items.size) ->
   (∀b o,b<s.heap.objs.size->s.heap.get? b=ak o->h'.get? b=ak o)->Q (.ref s.heap.objs.size) {s with heap:=h',toks:=tk}) :
  wpAny (bq prog w) A (call (.type "set") [.ref l]) Q E s:=by
 obtain⟨c,tl,aLG⟩:=F.called_set.mro;have aLH:=F.called_set.made;have AA:=F.called_set.sub;refine wpAny_call (codeAny_of_tree ?_);show wpAny _ _ (callAny (.type "set") _) _ _ _;refine bC ⟨Code.quiet_builtin _ (by decide +kernel),IS F.entry_type_call ?_⟩;rw[Around.under_plain (weight_type_call_type "set" [.ref l] []) rfl];have h1:=F.called_set.notType;have h2:=F.called_set.canCreate;have hct:=F.typeCall_set_1 (.ref l)
 repeat (any_goals (first|assumption|wp_step))
 refine yN (akQ (.ref l) (E:=E) (Q₁:=λobj s₁=>obj=.ref s.heap.objs.size/\s₁={s with heap:=s.heap.push {cls:=.type "set",dict:=aq,data:=.set #[] 0 (.fresh 0 0 (oI w))} }) ⟨rfl,rfl⟩) λr s₁ hr=>?_;cases r with
 |error e=>exact hr
 |ok fl =>
  cases fl with
  |ret obj =>
   obtain⟨rfl,rfl⟩:=hr;have hS:(s.heap.push {cls:=.type "set",dict:=aq,data:=.set #[] 0 (.fresh 0 0 (oI w))}).get? s.heap.objs.size=ak {cls:=.type "set",dict:=aq,data:=.set #[] 0 (.fresh 0 0 (oI w))}:=iQ _ rfl;have hT:Shared.TypeIs {s with heap:=s.heap.push {cls:=.type "set",dict:=aq,data:=.set #[] 0 (.fresh 0 0 (oI w))} } (.ref s.heap.objs.size) "set":=⟨_,hS,rfl⟩;have hli:=F.called_set.init.lookup;have VQ:=F.called_set.init.bind (.ref s.heap.objs.size)
   repeat (any_goals (first|assumption|wp_step))
   refine yN (ab4 (R:=wants (λr s₂=>r=.none/\∃h' tk es ms,s₂={s with heap:=h',toks:=tk} /\
     kY prog w h' s.heap.objs.size es/\Nums es ms/\ms.Perm (dm (λi=>ns.getD i 0) items.size) /\
     (∀b o,b<s.heap.objs.size->s.heap.get? b=ak o->h'.get? b=ak o)) E) F.called_set.init.plain F.entry_set_init (check_set_init_1 hT ?_)) λr₂ s₂ Gz=>?_
   ·obtain⟨ol,UY,lI,nl,hdl⟩:=hl;obtain⟨aKK,arF,aKJ,aqH⟩:=ol;simp only at lI hdl;subst lI;subst hdl;have axL:(s.heap.push {cls:=.type "set",dict:=aq,data:=.set #[] 0 (.fresh 0 0 (oI w))}).get? l=ak {cls:=.type "list",dict:=arF,data:=.seq items nl,slots:=aqH}:=eK _ UY;have aLC:=F.sub_list_set;have aLD:=F.sub_list_frozenset;have jM:(Value.type "list" == Value.type "dict")=au:=by decide
    have hl1:(s.heap.push {cls:=.type "set",dict:=aq,data:=.set #[] 0 (.fresh 0 0 (oI w))}).IsList l items:=⟨_,axL,rfl,nl,rfl⟩;unfold Builtin.«set.__init__» noKeywords Builtin.Frozenset.updateFrom;generalize hPI:pyIter=PI
    wp_walk
    subst hPI;refine wpAny_pyIter_list hl1 ?_;refine aI (wpAny_runValue ?_);have MY:l<s.heap.objs.size:=eI UY;have hh3:A.in1.in1.in1.handled=aq:=by simp[hh]
    have axQ:l≠(s.heap.push {cls:=.type "set",dict:=aq,data:=.set #[] 0 (.fresh 0 0 (oI w))}).objs.size:=by
     rw[JV];exact fX (YE MY)
    have DN:s.heap.objs.size∉[(s.heap.push {cls:=.type "set",dict:=aq,data:=.set #[] 0 (.fresh 0 0 (oI w))}).objs.size,l]:=by
     rw[JV];simp only[dY,kL,BA,GY,not_or];exact⟨fX (YD _),PX MY⟩
    have Gw:∀(i:a4) (v:ar),items[i]?=ak v->∃t,v=.int ((λi=>ns.getD i 0) i) t:=λi v hv =>
     PyProof.Rows.IntsAre.int_at hi i v (by rw[nF];exact hv)
    refine aE0 ((Walks.list hh3 _ l axQ items).toS) s.heap.objs.size
     DN (λi=>ns.getD i 0) Gw hb (items.size-0) 0 _ #[] [] (by omega) CP
     ⟨⟨_,iQ _ rfl,rfl,rfl⟩,(hl1.push _)⟩ ?hS0 .nil (EZ _) ?hR
    case hS0 =>
     have NF:((s.heap.push {cls:=.type "set",dict:=aq,data:=.set #[] 0 (.fresh 0 0 (oI w))}).push {cls:=.type "list_iterator",data:=.fields #[.ref l,.int 0 0]}).get? s.heap.objs.size
       = ak {cls:=.type "set",dict:=aq,data:=.set #[] 0 (.fresh 0 0 (oI w))}:=eK _ hS
     exact⟨_,0,_,NF,⟨rfl,rfl,rfl⟩,rfl,λe he=>by simp at he,by decide,rfl,ahV _⟩
    case hR =>
     intro s' fG mX hm nB Ir AH;obtain⟨h',g',d',tk',Eo⟩:=s';have eg:g'=s.gens:=hm.gens;have ed:d'=s.drawn:=hm.drawn;have eo:Eo=s.os:=hm.os;subst eg;subst ed;subst eo;show wpAny _ _ _ _ _ _;refine bC ?_;show wpAny _ _ (ret Value.none) _ _ _;refine bC ⟨rfl,h',tk',fG,mX,rfl,nB,Ir,AH,λb o hb e=>?_⟩;have AE:b≠s.heap.objs.size:=fX hb;have tF:b≠(s.heap.push {cls:=.type "set",dict:=aq,data:=.set #[] 0 (.fresh 0 0 (oI w))}).objs.size:=by
      rw[JV];exact fX (YE hb)
     exact hm.heap b o (by simp only[dY,kL,BA,GY,not_or];exact⟨AE,tF⟩) (eK _ (eK _ e))
   ·cases r₂ with
    |error e=>exact Gz
    |ok fl₂ =>
     cases fl₂ with
     |ret r =>
      obtain⟨rfl,h',tk,es,ms,rfl,nB,Ir,AH,HX⟩:=Gz
      repeat (any_goals (first|assumption|wp_step))
      exact h _ _ es ms nB Ir AH HX
     |_=>exact Gz.elim
  |_=>exact hr.elim
end
set_option maxRecDepth 100000
set_option compiler.extract_closed false
set_option genSizeOf false
set_option bootstrap.genMatcherCode false
theorem pH:Slot "set_iterator" "__next__" "set_iterator.__next__" :=
 .of (owner := "set_iterator") (n := "__next__") (by rw[typeLookup_type,builtinLookup_eq_fast];kernel_rfl) (by decide +kernel) (by decide +kernel) (by decide +kernel)
  (by first|exact .inl (by decide +kernel)|exact .inr (by decide +kernel)) (by rw[isSubtype_type];kernel_rfl)
theorem Uv:Slot "set_iterator" "__iter__" "set_iterator.__iter__" :=
 .of (owner := "set_iterator") (n := "__iter__") (by rw[typeLookup_type,builtinLookup_eq_fast];kernel_rfl) (by decide +kernel) (by decide +kernel) (by decide +kernel)
  (by first|exact .inl (by decide +kernel)|exact .inr (by decide +kernel)) (by rw[isSubtype_type];kernel_rfl)
theorem IP:entryFor table "set_iterator.__next__" = ak Builtin.«set_iterator.__next__»:=entryFor_of_tree (by kernel_rfl)
theorem aCC:entryFor table "set_iterator.__iter__" = ak Builtin.«dict_keyiterator.__iter__»:=entryFor_alias (id' := "dict_keyiterator.__iter__") (by kernel_rfl) rfl (by decide +kernel) (by kernel_rfl)
theorem aCD:entryFor table "set.__iter__" = ak Builtin.«frozenset.__iter__»:=entryFor_alias (id' := "frozenset.__iter__") (by kernel_rfl) rfl (by decide +kernel) (by kernel_rfl)
theorem Xe:Manifest.owners.lookup (String.ofList ['r','o','t','a','r','e','t','i','_','t','e','s'].reverse)=ak Manifest.sig_set_iterator:=by kernel_rfl
theorem IY(a:ar):argsOk "set_iterator.__next__" ⟨[a],[]⟩:=by
 unfold argsOk;rw[signature?_of (id := "set_iterator.__next__") (n:=['_','_','t','x','e','n','_','_']) (o:=['r','o','t','a','r','e','t','i','_','t','e','s']) (by kernel_rfl) Xe];kernel_rfl
theorem aHH(a:ar):argsOk "set_iterator.__iter__" ⟨[a],[]⟩:=by
 unfold argsOk;rw[signature?_of (id := "set_iterator.__iter__") (n:=['_','_','r','e','t','i','_','_']) (o:=['r','o','t','a','r','e','t','i','_','t','e','s']) (by kernel_rfl) Xe];kernel_rfl
def lP(h:bz)(I a:ay)(first:ar)(i n ep:a4):Prop:=h.get? I=ak {cls:=.type "set_iterator",data:=.fields #[first,.int i 0,.ref a,.int n 0,.int ep 0]}
def rJ(w:br)(h:bz)(a:ay)(es:a6 (az×ar))(ep:a4)(t:b9):Prop:=∃o,h.get? a=ak o/\o.data=.set es ep t/\t.fits es.size=ax/\pW (oI w) t
theorem lP.typeIs{s:aw}{I a:ay}{f:ar}{i n ep:a4}(x:lP s.heap I a f i n ep):s.TypeIs (.ref I) "set_iterator":=⟨_,x,rfl⟩
theorem lP.at{h h':bz}{I a:ay}{f:ar}{i n ep:a4}(x:lP h I a f i n ep)(e:∀o,h.get? I=ak o->h'.get? I=ak o):lP h' I a f i n ep:=e _ x
theorem rJ.at{w:br}{h h':bz}{a:ay}{es:a6 (az×ar)}{ep:a4}{t:b9}(x:rJ w h a es ep t)(e:∀o,h.get? a=ak o->h'.get? a=ak o):rJ w h' a es ep t:=let ⟨o,j,r⟩:=x; ⟨o,e _ j,r⟩
noncomputable def zP(t:b9)(i:a4):a4:=if i=0 then 0 else t.place.getD (i-1) 0+1
theorem Ux{t:b9}(h:wR t.place){i:a4}(hi:i<=t.place.size):SetTable.below t.place (zP t i)=i:=by
 unfold zP
 by_cases j:i=0
 ·rw[a7 j,aGQ h,j]
 ·rw[ba j];have hl:i-1<t.place.size:=by omega
  have q:t.place[i-1]?=ak (t.place.getD (i-1) 0):=by simp[Array.getD,hl]
  rw[aGR h q];omega
section
variable{prog:bg}{w:br}{A:bu}{E:ar->aw->Prop}{s:aw}
theorem asG{I a:ay}{es:a6 (az×ar)}{ep i:a4}{t:b9}{x:az×ar}{Q:av ar->aw->Prop}(hit:lP s.heap I a (.int (zP t i) 0) i es.size ep)(b:rJ w s.heap a es ep t)
  (hb:w.params.followText "set-order" = au) (hd:(!t.plain&&decide (es.size>1))=au) (L:es[i]?=ak x)
  (c:∀h',lP h' I a (.int (zP t (i+1)) 0) (i+1) es.size ep->Heap.SameBut I s.heap h'->Q (ak x.2) {s with heap:=h' }):wpAny (bq prog w) A (ee (.ref I)) Q E s:=by
 obtain⟨os,B,z,j,hT⟩:=id b;have f:=j;simp only[SetTable.fits,lF,uW,EB]at f;have k:i<es.size:=(RJ.mp L).1;have q:i<t.place.size:=by omega
 have d:t.place[i]?=ak (t.place.getD i 0):=by simp[Array.getD,q]
 have g:(!t.led && !es.isEmpty)=au:=by rw[hT.led];simp[oI,hb]
 unfold ee;refine aI (FT (FR (name:=Str.ofString "__next__") hit.typeIs pH
  (sU pH hit.typeIs IP ?_ (IY _))))
 unfold Builtin.«set_iterator.__next__»;refine aI (bC ?_);refine aI (KN hit rfl ?_);dsimp only;refine aI (FP B z j ?_);rw[ba (by simp)];refine aI ?_;unfold setNext;refine aI (BL B z j ?_);dsimp only;unfold setsByText;refine aI (aI (BO (bC ?_)));refine vI (nD (show ¬(w.params.followText "set-order" = ax)by rw[hb];simp)) ?_;refine vI (nD (show ¬((!t.plain&&decide (es.size>1))=ax)by rw[hd];simp)) ?_;refine aI ?_;show wpAny (bq prog w) A.in1 (if(!t.led && !es.isEmpty)=ax then unsupported "set:maker-not-led" else pure ()) _ _ _;refine vI (by simp[g]) (bC ?_);rw[zA,Ux hT.rise (by omega),L,d];refine bC ?_;dsimp only;refine aI (zJ hit (by simp) λh1 e1 U=>?_);refine aI (zJ e1 (by simp) λh2 e h=>?_);refine bC ⟨_,rfl,bC (c h2 ?_ (U.trans h))⟩;unfold lP;rw[e];have:zP t (i+1)=t.place.getD i 0+1:=by unfold zP;simp
 rw[this];simp[dw]
theorem asH{I a:ay}{es:a6 (az×ar)}{ep:a4}{t:b9}{Q:av ar->aw->Prop}(hh:A.handled=aq)(hit:lP s.heap I a (.int (zP t es.size) 0) es.size es.size ep)(L:rJ w s.heap a es ep t)
  (hb:w.params.followText "set-order" = au) (hd:(!t.plain&&decide (es.size>1))=au)
  (U:∀h',Heap.ExtBut I s.heap h'->Q aq {s with heap:=h' }):wpAny (bq prog w) A (ee (.ref I)) Q E s:=by
 obtain⟨os,z,q,j,hT⟩:=id L;have c:=j;simp only[SetTable.fits,lF,uW,EB]at c;have d:(!t.led && !es.isEmpty)=au:=by rw[hT.led];simp[oI,hb]
 unfold ee;refine aI (FT (FR (name:=Str.ofString "__next__") hit.typeIs pH
  (sU pH hit.typeIs IP ?_ (IY _))))
 unfold Builtin.«set_iterator.__next__»;refine aI (bC ?_);refine aI (KN hit rfl ?_);dsimp only;refine aI (FP z q j ?_);rw[ba (by simp)];refine aI ?_;unfold setNext;refine aI (BL z q j ?_);dsimp only;unfold setsByText;refine aI (aI (BO (bC ?_)));refine vI (nD (show ¬(w.params.followText "set-order" = ax)by rw[hb];simp)) ?_;refine vI (nD (show ¬((!t.plain&&decide (es.size>1))=ax)by rw[hd];simp)) ?_;refine aI ?_;show wpAny (bq prog w) A.in1 (if(!t.led && !es.isEmpty)=ax then unsupported "set:maker-not-led" else pure ()) _ _ _;refine vI (by simp[d]) (bC ?_);rw[zA,Ux hT.rise (by omega),Array.getElem?_eq_none dC];refine bC ?_;dsimp only;refine aI (zJ hit (by simp) λh1 e1 B=>?_);show wpAny _ _ (newExc (.type "StopIteration") [] >>= _) _ _ _;refine aI ?_;simp only[newExc,newTuple];refine aI (qD ?_ (by size_fits));refine aI (m:=dz _ _) (wpAny_of_eq (a:=Value.none) (by first|rfl|(simp only[dz];rfl)) ?_);refine qD ?_ (by size_fits);simp only[raiseNew];refine aI (wpAny_handled ?_);rw[show A.in1.handled=aq from hh];refine aI (bC (wpAny_throw ?_));refine aI (ZR (T := "StopIteration") (b:=ax) ⟨_,iQ _ rfl,rfl⟩ isSubtype_stop ?_);exact bC (U _ ((B.extBut.push _).push _))
end
set_option maxRecDepth 100000
set_option compiler.extract_closed false
set_option genSizeOf false
set_option bootstrap.genMatcherCode false
theorem Ju{α:Type}:∀(l:ao α) (i:a4) (h:i<l.length),(l[i]::l.eraseIdx i).Perm l
 |[],i,h=>b4 h (Nat.not_lt_zero _)
 |x::l,0,h=>EZ _
 |x::l,i+1,h=>by
  have ih:=Ju l i (by simpa using h);simp only[List.getElem_cons_succ,List.eraseIdx_cons_succ];exact(List.Perm.swap _ _ _).trans (ih.cons x)
theorem Ww{α:Type}(f:a4->a4):∀(fuel k:a4) (left:ao α) (ae:a6 α),left.length=fuel->(pickOrder.go f fuel k left ae).toList.Perm (ae.toList++left)
 |0,k,left,ae,h=>by
  have:left=[]:=Oq.mp h;subst this;unfold pickOrder.go;simp
 |fuel+1,k,left,ae,h=>by
  have hi:f k%left.length<left.length:=Nat.mod_lt _ (by omega);unfold pickOrder.go;rw[gM hi];have ih:=Ww f fuel (k+1) (left.eraseIdx (f k%left.length)) (ae.push left[f k%left.length]) (by rw[List.length_eraseIdx_of_lt hi];omega);refine ih.trans ?_;rw[FK,iH];exact(Ju _ _ hi).append_left _
theorem Ek{α:Type}(f:a4->a4)(xs:a6 α):(pickOrder f xs).toList.Perm xs.toList:=by
 have h:=Ww f xs.size 0 xs.toList #[] (by simp);simp only[QC]at h;exact h
section
variable{prog:bg}{w:br}{A:bu}{E:ar->aw->Prop}{s:aw}
theorem Sf{a:ay}{es:a6 (az×ar)}{ep:a4}{t:b9}{Q:a6 (az×ar)->aw->Prop}(z:rJ w s.heap a es ep t)(hb:w.params.followText "set-order" = ax)
  (h:Q (pickOrder (w.params.setOrder a ep) es) s):wpAny (bq prog w) A (setWalk a) Q E s:=by
 obtain⟨os,q,j,B,hT⟩:=id z;unfold setWalk;refine aI (BL q j B ?_);dsimp only;unfold setsByText;refine aI (aI (BO (bC ?_)));refine ZQ (yM (show w.params.followText "set-order" = ax from hb)) ?_;exact aI (BO (bC h))
theorem asI{I a:ay}{es:a6 (az×ar)}{ep i:a4}{t:b9}{x:az×ar}{Q:av ar->aw->Prop}(hit:lP s.heap I a (.int 0 0) i es.size ep)(z:rJ w s.heap a es ep t)
  (hb:w.params.followText "set-order" = ax) (U:(pickOrder (w.params.setOrder a ep) es)[i]?=ak x)
  (b:∀h',lP h' I a (.int 0 0) (i+1) es.size ep->Heap.SameBut I s.heap h'->Q (ak x.2) {s with heap:=h' }):wpAny (bq prog w) A (ee (.ref I)) Q E s:=by
 obtain⟨os,q,j,B,hT⟩:=id z;unfold ee;refine aI (FT (FR (name:=Str.ofString "__next__") hit.typeIs pH
  (sU pH hit.typeIs IP ?_ (IY _))))
 unfold Builtin.«set_iterator.__next__»;refine aI (bC ?_);refine aI (KN hit rfl ?_);dsimp only;refine aI (FP q j B ?_);rw[ba (by simp)];refine aI ?_;unfold setNext;refine aI (BL q j B ?_);dsimp only;unfold setsByText;refine aI (aI (BO (bC ?_)));refine ZQ (yM (show w.params.followText "set-order" = ax from hb)) ?_;refine vI (by simp) ?_;refine aI (Sf z hb ?_);rw[zA,U];refine bC ?_;simp only[PV];refine aI (zJ hit (by simp) λh1 e1 L=>?_);refine aI (zJ e1 (by simp) λh2 c d=>?_);refine bC ⟨_,rfl,bC (b h2 ?_ (L.trans d))⟩;unfold lP;rw[c];simp[dw]
theorem asJ{I a:ay}{es:a6 (az×ar)}{ep:a4}{t:b9}{Q:av ar->aw->Prop}(hh:A.handled=aq)(hit:lP s.heap I a (.int 0 0) es.size es.size ep)(z:rJ w s.heap a es ep t)
  (hb:w.params.followText "set-order" = ax)
  (c:∀h',Heap.ExtBut I s.heap h'->Q aq {s with heap:=h' }):wpAny (bq prog w) A (ee (.ref I)) Q E s:=by
 obtain⟨os,q,j,B,hT⟩:=id z;have U:(pickOrder (w.params.setOrder a ep) es)[es.size]?=aq:=by
  rw[afB];have:=(Ek (w.params.setOrder a ep) es).length_eq;simp only[gO]at this;omega
 unfold ee;refine aI (FT (FR (name:=Str.ofString "__next__") hit.typeIs pH
  (sU pH hit.typeIs IP ?_ (IY _))))
 unfold Builtin.«set_iterator.__next__»;refine aI (bC ?_);refine aI (KN hit rfl ?_);dsimp only;refine aI (FP q j B ?_);rw[ba (by simp)];refine aI ?_;unfold setNext;refine aI (BL q j B ?_);dsimp only;unfold setsByText;refine aI (aI (BO (bC ?_)));refine ZQ (yM (show w.params.followText "set-order" = ax from hb)) ?_;refine vI (by simp) ?_;refine aI (Sf z hb ?_);rw[zA,U];refine bC ?_;simp only[Option.map_none];refine aI (zJ hit (by simp) λh1 e1 L=>?_);show wpAny _ _ (newExc (.type "StopIteration") [] >>= _) _ _ _;refine aI ?_;simp only[newExc,newTuple];refine aI (qD ?_ (by size_fits));refine aI (m:=dz _ _) (wpAny_of_eq (a:=Value.none) (by first|rfl|(simp only[dz];rfl)) ?_);refine qD ?_ (by size_fits);simp only[raiseNew];refine aI (wpAny_handled ?_);rw[show A.in1.handled=aq from hh];refine aI (bC (wpAny_throw ?_));refine aI (ZR (T := "StopIteration") (b:=ax) ⟨_,iQ _ rfl,rfl⟩ isSubtype_stop ?_);exact bC (c _ ((L.extBut.push _).push _))
theorem af3{src:Source}{n:a4}{Q:a4->aw->Prop}(hn:n≠0)(h:∀i,i<n->Q i {s with drawn:=s.drawn.bump src}):wpAny (bq prog w) A (choose src n) Q E s:=λj p _=>by
 unfold choose;rw[Sem.wp_choose];exact⟨hn,h _ (Nat.mod_lt _ (by omega))⟩
theorem Sa{α:Type}:∀(n:a4) (xs:ao α) (s:aw) {Q:ao α->aw->Prop},xs.length=n->(∀ys d,ys.Perm xs->Q ys {s with drawn:=d})->wpAny (bq prog w) A (drawOrder n xs) Q E s
 |0,xs,s,Q,hl,h=>by
  have:xs=[]:=Oq.mp hl;subst this;unfold drawOrder;have e:s={s with drawn:=s.drawn}:=by cases s;rfl
  rw[e];exact bC (h [] s.drawn (EZ _))
 |n+1,[],s,Q,hl,h=>by simp at hl
 |n+1,x::xs,s,Q,hl,h=>by
  unfold drawOrder;refine aI (af3 (by simp) λi hi=>?_);rw[gM hi];dsimp only;refine aI (Sa n ((x::xs).eraseIdx i) _ (by rw[List.length_eraseIdx_of_lt hi];omega) λys d j=>?_);refine bC (h ((x::xs)[i]::ys) d ?_);exact(j.cons _).trans (Ju _ _ hi)
end
set_option maxRecDepth 100000
set_option compiler.extract_closed false
set_option genSizeOf false
set_option bootstrap.genMatcherCode false
def JT(h:bz)(T:ay)(ps:ao a4):Prop:=h.get? T=ak {cls:=.type "tuple",data:=.seq (ps.map λi:a4=>dw (i:az)).toArray}
section
variable{prog:bg}{w:br}{A:bu}{E:ar->aw->Prop}{s:aw}
theorem asE{I a T:ay}{es:a6 (az×ar)}{ep i j:a4}{t:b9}{ps:ao a4}{x:az×ar}{Q:av ar->aw->Prop}(hit:lP s.heap I a (.ref T) i es.size ep)(b:rJ w s.heap a es ep t)(hT:JT s.heap T ps)
  (d:ps[i]?=ak j) (U:es[j]?=ak x)
  (e:∀h',lP h' I a (.ref T) (i+1) es.size ep->Heap.SameBut I s.heap h'->Q (ak x.2) {s with heap:=h' }):wpAny (bq prog w) A (ee (.ref I)) Q E s:=by
 obtain⟨os,z,q,B,_⟩:=id b;unfold ee;refine aI (FT (FR (name:=Str.ofString "__next__") hit.typeIs pH
  (sU pH hit.typeIs IP ?_ (IY _))))
 unfold Builtin.«set_iterator.__next__»;refine aI (bC ?_);refine aI (KN hit rfl ?_);dsimp only;refine aI (FP z q B ?_);rw[ba (by simp)];refine aI (wpAny_seqItems hT rfl ?_);have c:(ps.map λi:a4=>dw (i:az)).toArray[i]?=ak (dw (j:az)):=by simp[d]
 dsimp only;rw[zA,c];show wpAny _ _ (setNextDrawn a (j:az).toNat (ep:az).toNat >>= _) _ _ _;refine aI ?_;unfold setNextDrawn;refine aI (BL z q B ?_);dsimp only;refine vI (by simp) ?_;rw[zA,U];refine bC ?_;refine aI (zJ hit (by simp) λh1 e1 L=>?_);refine bC ⟨_,rfl,bC (e h1 ?_ L)⟩;unfold lP;rw[e1];simp[dw]
theorem asF{I a T:ay}{es:a6 (az×ar)}{ep:a4}{t:b9}{ps:ao a4}{Q:av ar->aw->Prop}(hh:A.handled=aq)(hit:lP s.heap I a (.ref T) es.size es.size ep)(L:rJ w s.heap a es ep t)(hT:JT s.heap T ps)
  (c:ps.length=es.size)
  (e:∀h',Heap.ExtBut I s.heap h'->Q aq {s with heap:=h' }):wpAny (bq prog w) A (ee (.ref I)) Q E s:=by
 obtain⟨os,B,z,d,_⟩:=id L;unfold ee;refine aI (FT (FR (name:=Str.ofString "__next__") hit.typeIs pH
  (sU pH hit.typeIs IP ?_ (IY _))))
 unfold Builtin.«set_iterator.__next__»;refine aI (bC ?_);refine aI (KN hit rfl ?_);dsimp only;refine aI (FP B z d ?_);rw[ba (by simp)];refine aI (wpAny_seqItems hT rfl ?_);have U:(ps.map λi:a4=>dw (i:az)).toArray[es.size]?=aq:=by simp[<-c]
 dsimp only;rw[zA,U];refine aI (zJ hit (by simp) λf e0 j=>?_);refine aI (zJ e0 (by simp) λh1 e1 q=>?_);show wpAny _ _ (newExc (.type "StopIteration") [] >>= _) _ _ _;refine aI ?_;simp only[newExc,newTuple];refine aI (qD ?_ (by size_fits));refine aI (m:=dz _ _) (wpAny_of_eq (a:=Value.none) (by first|rfl|(simp only[dz];rfl)) ?_);refine qD ?_ (by size_fits);simp only[raiseNew];refine aI (wpAny_handled ?_);rw[show A.in1.handled=aq from hh];refine aI (bC (wpAny_throw ?_));refine aI (ZR (T := "StopIteration") (b:=ax) ⟨_,iQ _ rfl,rfl⟩ isSubtype_stop ?_);exact bC (e _ (((j.trans q).extBut.push _).push _))
theorem Ed{I a:ay}{f:ar}{i n ep:a4}{Q:ar->aw->Prop}(hit:lP s.heap I a f i n ep)(h:Q (.ref I) s):wpAny (bq prog w) A (pyIter (.ref I)) Q E s:=by
 refine wpAny_pyIter_slot hit.typeIs Uv (sU Uv hit.typeIs aCC ?_ (aHH _));show wpAny _ _ (ret (.ref I)) _ _ s;exact bC ⟨_,rfl, "set_iterator",_,hit.typeIs,pH.lookup,h⟩
theorem JT.at{h h':bz}{T:ay}{ps:ao a4}(x:JT h T ps)(e:∀o,h.get? T=ak o->h'.get? T=ak o):JT h' T ps:=e _ x
theorem af6(hh:A.handled=aq)(I a:ay)(jM:a≠I)(es:a6 (az×ar))(ep:a4)(t:b9)(hb:w.params.followText "set-order" = ax) :
  Walks prog w A I [I,a] [I] es.size (λi v=>((pickOrder (w.params.setOrder a ep) es).toList.map (·.2))[i]?=ak v) (λi h=>lP h I a (.int 0 0) i es.size ep/\rJ w h a es ep t)where
 sub:=λb hb=>by simp at hb;simp[hb]
 frame:=λ_ _ _ st q=>⟨st.1.at λo e=>q I (by simp) o e,st.2.at λo e=>q a (by simp) o e⟩
 item:=λi s Q E hi st j=>by
  have hl:i<(pickOrder (w.params.setOrder a ep) es).size:=by
   have:=(Ek (w.params.setOrder a ep) es).length_eq;simp only[gO]at this;omega
  have B:=Qx hl;refine asI st.1 st.2 hb B λh' U z=>?_;exact j _ h' s.toks (by simp[hl]) ⟨U,st.2.at λo e=>z.extBut a o jM e⟩ λb o hb e=>z.extBut b o (λh=>hb (by simp[h])) e
 done:=λs Q E st j=>asJ hh st.1 st.2 hb λh' L=>j h' s.toks λb o hb e=>L b o (λh=>hb (by simp[h])) e
 self:=λ_ _ _ _ st j=>Ed st.1 j
theorem af5(hh:A.handled=aq)(I a:ay)(jM:a≠I)(es:a6 (az×ar))(ep:a4)(t:b9)(hb:w.params.followText "set-order" = au)(hd:(!t.plain&&decide (es.size>1))=au) :
  Walks prog w A I [I,a] [I] es.size (λi v=>(es.toList.map (·.2))[i]?=ak v) (λi h=>lP h I a (.int (zP t i) 0) i es.size ep/\rJ w h a es ep t)where
 sub:=λb hb=>by simp at hb;simp[hb]
 frame:=λ_ _ _ st q=>⟨st.1.at λo e=>q I (by simp) o e,st.2.at λo e=>q a (by simp) o e⟩
 item:=λi s Q E hi st j=>by
  have B:=Qx hi;refine asG st.1 st.2 hb hd B λh' U z=>?_;exact j _ h' s.toks (by simp[hi]) ⟨U,st.2.at λo e=>z.extBut a o jM e⟩ λb o hb e=>z.extBut b o (λh=>hb (by simp[h])) e
 done:=λs Q E st j=>asH hh st.1 st.2 hb hd λh' L=>j h' s.toks λb o hb e=>L b o (λh=>hb (by simp[h])) e
 self:=λ_ _ _ _ st j=>Ed st.1 j
theorem af4(hh:A.handled=aq)(I a T:ay)(jM:a≠I)(L:T≠I)(es:a6 (az×ar))(ep:a4)(t:b9)(ps:ao a4)(z:ps.Perm (List.range es.size)) :
  Walks prog w A I [I,a,T] [I] es.size (λi v=>(ps.map λj=>(es.getD j (0,.none)).2)[i]?=ak v) (λi h=>lP h I a (.ref T) i es.size ep/\rJ w h a es ep t/\JT h T ps)where
 sub:=λb hb=>by simp at hb;simp[hb]
 frame:=λ_ _ _ st B=>⟨st.1.at λo e=>B I (by simp) o e,st.2.1.at λo e=>B a (by simp) o e,st.2.2.at λo e=>B T (by simp) o e⟩
 item:=λi s Q E hi st q=>by
  have hl:i<ps.length:=by rw[z.length_eq];simpa using hi
  have hm:ps[i]<es.size:=by
   have:=z.mem_iff.mp (Ot hl);simpa using this
  refine asE (j:=ps[i]) (x:=es[ps[i]]) st.1 st.2.1 st.2.2 (gM hl) (Qx hm) λh' d U=>?_;exact q _ h' s.toks (by simp[hl,Array.getD,hm]) ⟨d,st.2.1.at λo e=>U.extBut a o jM e,st.2.2.at λo e=>U.extBut T o L e⟩ λb o hb e=>U.extBut b o (λh=>hb (by simp[h])) e
 done:=λs Q E st q=>asF hh st.1 st.2.1 st.2.2 (by rw[z.length_eq];simp) λh' c=>q h' s.toks λb o hb e=>c b o (λh=>hb (by simp[h])) e
 self:=λ_ _ _ _ st q=>Ed st.1 q
end
set_option maxRecDepth 100000
set_option compiler.extract_closed false
set_option genSizeOf false
set_option bootstrap.genMatcherCode false
theorem kY.akV{prog:bg}{w:br}{h:bz}{a:ay}{es:a6 (az×ar)}(x:kY prog w h a es):∃ep t,rJ w h a es ep t:=let ⟨o,ep,t,j,_,hd,_,_,hf,hT⟩:=x; ⟨ep,t,o,j,hd,hf,hT⟩
section
variable{prog:bg}{w:br}{A:bu}{E:ar->aw->Prop}{s:aw}
theorem an1{a:ay}{es:a6 (az×ar)}{Q:ar->aw->Prop}(hh:A.handled=aq)(hS:kY prog w s.heap a es)
  (p:∀(I:ay) (h':bz) (d:Drawn) (ord:ao ar) (fp:ao ay) (St:a4->bz->Prop),ord.Perm (es.toList.map (·.2))->(∀b o,s.heap.get? b=ak o->h'.get? b=ak o)->(∀b∈fp,b=a\/s.heap.objs.size<=b)->s.heap.objs.size<=I ->
   Walks prog w A I fp [I] es.size (λi v=>ord[i]?=ak v) St->St 0 h'->Q (.ref I) {s with heap:=h',drawn:=d}):wpAny (bq prog w) A (pyIter (.ref a)) Q E s:=by
 obtain⟨B,t,h⟩:=hS.akV;obtain⟨os,c,U,f,hT⟩:=id h;have g:=hS.typeIs;have r:a<s.heap.objs.size:=hS.lt;have l:es.size<d7:=let ⟨_,_,_,_,_,_,_,hb,_,_⟩:=hS;hb;refine wpAny_pyIter_slot g F.slot_set_iter (sU F.slot_set_iter g aCD ?_ (F.args_set_iter_1 _));unfold Builtin.«frozenset.__iter__»;refine aI (bC ?_);refine aI ?_;unfold Builtin.Frozenset.sizeOf;refine aI (FP c U f (bC ?_));refine aI ?_;unfold setDrawn;refine aI (BL c U f ?_);dsimp only;unfold setsByText;refine aI (aI (BO (bC (bC ?_))));cases hb:w.params.followText "set-order" with
 |true =>
  refine vI (nD (show ¬((!w.params.followText "set-order" && (!t.plain&&decide (es.size>1)))=ax)by rw[hb];simp)) (aI (bC ?_));refine aI (wpAny_setEpoch_of c U f ?_);refine aI (qD (bC ⟨_,rfl, "set_iterator",_,⟨_,iQ _ rfl,rfl⟩,pH.lookup,?_⟩));have e:s={s with drawn:=s.drawn}:=by cases s;rfl
  have:=p s.heap.objs.size (s.heap.push {cls:=.type "set_iterator",data:=.fields #[.int 0 0,.int 0 0,.ref a,.int es.size 0,.int B 0]}) s.drawn _ _ _ ((Ek (w.params.setOrder a B) es).map (·.2)) (λb o e=>eK _ e) (λb hb=>by
   simp only[dY,BA,GY]at hb
   rcases hb with z|z
   ·exact .inr (by rw[z];exact rK _)
   ·exact .inl z) dC (af6 hh _ a (fX r) es B t hb) ⟨iQ _ rfl,h.at λo e=>eK _ e⟩
  simpa[dw]using this
 |false =>
  cases hd:(!t.plain&&decide (es.size>1))with
  |false =>
   refine vI (nD (show ¬((!w.params.followText "set-order" && (!t.plain&&decide (es.size>1)))=ax)by rw[hd];simp)) (aI (bC ?_));refine aI (wpAny_setEpoch_of c U f ?_);refine aI (qD (bC ⟨_,rfl, "set_iterator",_,⟨_,iQ _ rfl,rfl⟩,pH.lookup,?_⟩));have:=p s.heap.objs.size (s.heap.push {cls:=.type "set_iterator",data:=.fields #[.int 0 0,.int 0 0,.ref a,.int es.size 0,.int B 0]}) s.drawn _ _ _ (EZ _) (λb o e=>eK _ e) (λb hb=>by
    simp only[dY,BA,GY]at hb
    rcases hb with z|z
    ·exact .inr (by rw[z];exact rK _)
    ·exact .inl z) dC (af5 hh _ a (fX r) es B t hb hd) ⟨iQ _ rfl,h.at λo e=>eK _ e⟩
   simpa[dw]using this
  |true =>
   refine ZQ (yM (show(!w.params.followText "set-order" && (!t.plain&&decide (es.size>1)))=ax by rw[hb,hd];simp)) ?_;refine aI (Sa es.size (List.range es.size) s (by simp) λL d n=>?_);have y:L.length=es.size:=by rw[n.length_eq];simp
   refine aI (wpAny_newTuple ?_ (by rw[jQ,y];exact Jr l));have k:∀b o,s.heap.get? b=ak o->(s.heap.push {cls:=.type "tuple",data:=.seq (L.map λi:a4=>dw (i:az)).toArray}).get? b=ak o:=λb o e=>eK _ e;refine aI (wpAny_setEpoch_of (k a _ c) U f ?_);refine aI (qD (bC ⟨_,rfl, "set_iterator",_,⟨_,iQ _ rfl,rfl⟩,pH.lookup,?_⟩));have x:(s.heap.push {cls:=.type "tuple",data:=.seq (L.map λi:a4=>dw (i:az)).toArray}).objs.size=s.heap.objs.size+1:=JV _ _;have m:(L.map λj=>(es.getD j (0,.none)).2).Perm (es.toList.map (·.2)):=by
    have h1:=n.map λj=>(es.getD j (0,.none)).2;have h2:(List.range es.size).map (λj=>(es.getD j (0,Value.none)).2)=es.toList.map (·.2):=by
     apply EY;intro j;rw[jH,jH]
     by_cases u:j<es.size
     ·simp[u,Array.getD]
     ·simp[u]
    rw[h2]at h1;exact h1
   have:=p (s.heap.objs.size+1) ((s.heap.push {cls:=.type "tuple",data:=.seq (L.map λi:a4=>dw (i:az)).toArray}).push {cls:=.type "set_iterator",data:=.fields #[.ref s.heap.objs.size,.int 0 0,.ref a,.int es.size 0,.int B 0]}) d _ _ _ m (λb o e=>eK _ (k b o e)) (λb hb=>by
    simp only[dY,BA,GY]at hb
    rcases hb with z|z|z
    ·exact .inr (by rw[z];exact AX _)
    ·exact .inl z
    ·exact .inr (by rw[z];exact rK _)) (AX _) (af4 hh _ a s.heap.objs.size (fX (YE r)) (fX (YD _)) es B t L n) ⟨by
     unfold lP;have q:=iQ (s.heap.push {cls:=.type "tuple",data:=.seq (L.map λi:a4=>dw (i:az)).toArray}) (o:={cls:=.type "set_iterator",data:=.fields #[.ref s.heap.objs.size,.int 0 0,.ref a,.int es.size 0,.int B 0]}) rfl;rw[x]at q;exact q,h.at λo e=>eK _ (k a o e),eK _ (iQ _ rfl)⟩
   rw[<-x]at this;simpa[dw]using this
end
set_option maxRecDepth 100000
set_option compiler.extract_closed false
set_option genSizeOf false
set_option bootstrap.genMatcherCode false
section
variable{prog:bg}{w:br}{A:bu}{E:ar->aw->Prop}{s:aw}
theorem ax8{r:ay}{Q:bh->aw->Prop}(hT:s.TypeIs (.ref r) "set")(h:Q au s):wpAny (bq prog w) A (Builtin.List.listLengthHint (.ref r)) Q E s:=by
 unfold Builtin.List.listLengthHint;refine aI (wpAny_specialOf hT F.slot_set_len.lookup ?_);generalize j:("set.__len__" : cj)=q
 wp_delta
 rw[show splitId q=ak ("set", "__len__")from by subst j;decide +kernel];subst j;refine aI (ZR (T := "set") (b:=ax) hT (by rw[isSubtype_type];kernel_rfl) ?_);refine wpAny_ite_split (λz=>b4 z (by decide)) (λ_=>?_);refine wpAny_ite_split (λ_=>?_) (λz=>b4 (by decide +kernel) z);refine aI (wpAny_typeOf hT ?_);exact bC h
theorem av5{ord:ao ar}{acc:a6 ar}(h:ItemsOf (λi v=>ord[i]?=ak v) acc ord.length):acc.toList=ord:=by
 apply EY;intro i;rw[nF];cases e:acc[i]? with
 |some v=>exact(h.2 i v e).symm
 |none =>
  rw[eq_comm,List.getElem?_eq_none_iff];rw[afB,h.1]at e;exact e
theorem aB7{R:Result->aw->Prop}{r:ay}{es:a6 (az×ar)}(hh:A.handled=aq)(hS0:kY prog w s.heap r es)(S:ay)(a:S≠r)(res:ar)(B:a4)(hS:s.heap.get? S=ak {cls:=.type "list",data:=.seq #[] B})
  (hR:∀h' tk d g c',(∀b o,b≠S->s.heap.get? b=ak o->h'.get? b=ak o)->h'.get? S=ak {cls:=.type "list",dict:=aq,data:=.seq g c',slots:=#[]}->g.toList.Perm (es.toList.map (·.2))->R (.ok (.ret res)) {s with heap:=h',toks:=tk,drawn:=d}) :
  wpAny (bq prog w) A.in1 (Builtin.List.listExtendWith (.ref S) (.ref r) res)
   (λfin s'=>match fin with | .done f=>R (.ok f) s' | .again c'=>c'.quiet=ax/\codeAny (bq prog w) A c' R s') (λe s'=>R (.error e) s') s:=by
 have k:es.size<d7:=let ⟨_,_,_,_,_,_,_,hb,_,_⟩:=hS0;hb;have MY:S<s.heap.objs.size:=eI hS;unfold Builtin.List.listExtendWith;refine aI (wpAny_typeOf (T := "set") hS0.typeIs ?_);have h1:Builtin.List.listSameRef (.ref S) (.ref r)=au:=by simp[Builtin.List.listSameRef,a]
 have v:(Value.type "set" == Value.type "list")=au:=by decide
 have u:(Value.type "set" == Value.type "tuple")=au:=by decide
 simp only[h1,v,u,Bool.or_false,kD,gC];refine aI (an1 (A:=A.in1) hh hS0 λI D d ord E St n i l p W st=>?_);have UY:ord.length=es.size:=by rw[n.length_eq];simp
 have DN:S∉E:=λhm=>by
  rcases l S hm with z|z
  ·exact a z
  ·exact b4 MY (Nat.not_lt.mpr z)
 have C:S≠I:=λz=>b4 MY (by rw[z];exact Nat.not_lt.mpr p);have key:∀(h:bz) (q tk:a4),St 0 h->(∀b o,b≠S->s.heap.get? b=ak o->h.get? b=ak o) ->
   h.get? S=ak {cls:=.type "list",data:=.seq #[] q}->codeAny (bq prog w) A (.builtin "list.extend.loop" ⟨[.ref S,.ref I,res],[]⟩) R {s with heap:=h,toks:=tk,drawn:=d}:=by
  intro h q tk x y c;refine codeAny_extend_loopS W.toS (Jr k) S DN res es.size 0 _ #[] q rfl CP x c (ItemsOf.nil _) λs' g c' hm nB t=>?_;rw[Moved.eq_with hm];refine hR s'.heap s'.toks d g c' (λb o hb e=>hm.heap b o (λm=>?_) (y b o hb e)) nB (by rw[av5 (ord:=ord) (by rw[UY];exact t)];exact n)
  rcases dY.mp m with G|m
  ·exact hb G
  ·exact b4 (eI e) (by rw[kL.mp m];exact Nat.not_lt.mpr p)
 have c:=i S _ hS;refine aI (sT (ax8 (kY.typeIs (s:={s with heap:=D,drawn:=d}) (hS0.at λo e=>i r o e)) ?_));refine wpAny_ite_split (λ_=>?_) (λ_=>bC ⟨TN PySem.F.plain_extend_loop _,key _ B _ st (λb o _ e=>i b o e) c⟩);refine aI (vH ?_);refine aI ?_;show wpAny _ _ (updateSeq S (·.push .none) >>= λ_=>updateSeq S (·.pop)) _ _ _;refine aI (wpAny_updateSeq c rfl ?_);have j:=QS (Obj.mapSeq (·.push Value.none)) c rfl;refine wpAny_updateSeq (hz:=by seq_fits) j rfl ?_;have L:=QS (Obj.mapSeq (·.pop)) j rfl;refine bC ⟨TN PySem.F.plain_extend_loop _,key _ _ _ ?_ (λb o hb e=>?_) L⟩
 ·refine W.frame 0 _ _ st λb hb o e=>?_;have U:b≠S:=λh=>DN (h ▸ hb);exact(sJ _ _ (cQ U)).trans ((sJ _ _ (cQ U)).trans e)
 ·exact(sJ _ _ (cQ hb)).trans ((sJ _ _ (cQ hb)).trans (i b o e))
theorem aEQ{R:ao ar->aw->Prop}{r:ay}{es:a6 (az×ar)}(hh:A.handled=aq)(hS0:kY prog w s.heap r es)
  (h:∀(h':bz) (tk:a4) (d:Drawn) (acc:a6 ar),(∀b o,s.heap.get? b=ak o->h'.get? b=ak o)->acc.toList.Perm (es.toList.map (·.2))->R acc.toList {s with heap:=h',toks:=tk,drawn:=d}) :
  wpAny (bq prog w) A (collect (.ref r)) R E s:=by
 have c:=hS0.lt;unfold collect;refine aI (wpAny_runValue (IS entry_proto_collect' ?_));rw[ZM PySem.F.plain_proto_collect _];show wpAny _ A.in1 (newList [] >>= λl=>again (.builtin "list.__iadd__" ⟨[l,.ref r],[]⟩)) _ _ s;refine aI (qD ?_);refine bC ⟨TN PySem.F.plain_list_iadd _,IS entry_list_iadd' ?_⟩;rw[ZM PySem.F.plain_list_iadd _];have g:(s.heap.push {cls:=.type "list",data:=.seq ([]:ao ar).toArray}).get? s.heap.objs.size=ak {cls:=.type "list",data:=.seq #[]}:=iQ _ rfl;show wpAny _ A.in1 (Builtin.List.listExtendWith (.ref s.heap.objs.size) (.ref r) (.ref s.heap.objs.size)) _ _ _;have key:=aB7 (A:=A) (s:={s with heap:=s.heap.push {cls:=.type "list",data:=.seq ([]:ao ar).toArray} }) (es:=es)
  (R:=λ(q:Result) (s':aw)=>∃(h':bz) (tk:a4) (d:Drawn) (j:a6 ar) (L:a4),q=.ok (.ret (.ref s.heap.objs.size))/\s'={s with heap:=h',toks:=tk,drawn:=d} /\
   (∀b o,s.heap.get? b=ak o->h'.get? b=ak o)/\h'.get? s.heap.objs.size=ak {cls:=.type "list",dict:=aq,data:=.seq j L,slots:=#[]}/\j.toList.Perm (es.toList.map (·.2)))
  hh (hS0.at λo e=>eK _ e) s.heap.objs.size (PX c) (.ref s.heap.objs.size) 0 g
  (λh' tk d j L B nB z=>⟨h',tk,d,j,L,rfl,rfl,λb o e=>B b o (fX (eI e)) (eK _ e),nB,z⟩)
 refine oB key (λfin s' x=>?_) λe s' x=>?_
 ·cases fin with
  |done f =>
   obtain⟨h',tk,d,j,L,e,rfl,B,nB,z⟩:=x;cases e;show wpAny _ A (load s.heap.objs.size >>= _) _ _ _;refine aI (wpAny_load nB ?_);exact bC (h h' tk d j B z)
  |again U =>
   refine⟨x.1,yN x.2 λq s₂ y=>?_⟩;obtain⟨h',tk,d,j,L,rfl,rfl,B,nB,z⟩:=y;show wpAny _ A (load s.heap.objs.size >>= _) _ _ _;refine aI (wpAny_load nB ?_);exact bC (h h' tk d j B z)
 ·obtain⟨_,_,_,_,_,a,_⟩:=x;cases a
end
end PySem
namespace L2
open PySem PySem.Spec PyProof.Rows
section
variable{X:Cx}
def JC(P:bg)(w:br)(a:ay)(ms:ao az)(h:bz):Prop:=∃es mX,kY P w h a es/\Nums es mX/\mX.Perm ms
noncomputable def qP(ns:ao az):ao az:=ns.foldl ez []
theorem Vv(ns:ao az):(List.range ns.length).map (λi=>ns.getD i 0)=ns:=by
 apply EY;intro i;rw[jH]
 by_cases h:i<ns.length
 ·rw[List.getElem?_range h];simp[List.getD,h]
 ·rw[yY (by simp;omega),yY (by omega)];rfl
theorem akT{P:bg}{w:br}{a:ay}{ms:ao az}{H:Hp}{h:bz}(x:JC P w a ms h):iG P w H h a (.ext (JC P w a ms)):=by
 refine⟨x,?_,λh1 h2 y k=>?_⟩
 ·obtain⟨es,mX,j,_⟩:=x;obtain⟨o,_,_,z,_⟩:=j;exact⟨o,z⟩
 ·obtain⟨es,mX,j,q⟩:=y;exact⟨es,mX,j.at k,q⟩
theorem aFM(f:X.calm=ax):oX X (.type "set") (λxs H Q=>∃(a:ay) (ns:ao az),xs=[.ref a]/\fH X.K H a (ns.map V.int)/\(qP ns).length<4000 /\
  ∀l,H l=aq->Q (.ref l) (upd H l (.ext (JC X.prog X.w l (qP ns))))):=by
 intro aa s J H xs k Q I r h;obtain⟨a,ns,rfl,c,n,q⟩:=h;obtain⟨u,rfl,L⟩:=vals1 r;cases L;obtain⟨B,z,U,m⟩:=I.list c;have i:cw B ns:=intsAre_of z;have hl:B.length=ns.length:=by rw[<-z.length,jQ]
 refine aFL (I.ok.hd f) U.isList i (by rw[List.size_toArray,hl];unfold dm;rw[Vv];show(qP ns).length+1<4096;omega) λh' tk es ms hT g j d=>?_;rw[hW,hl]at j;unfold dm at j;rw[Vv]at j;exact⟨.ref s.heap.objs.size,_,I.laid (t':=tk) (o:=.ext (JC X.prog X.w s.heap.objs.size (qP ns))) (λb o e=>d b o (eI e) e) dC (akT ⟨es,ms,hT,g,j⟩),rfl,q _ (I.aL.fresh dC)⟩
theorem Inv.drawn{aa:ao (ay×cp)}{J:St}{H:Hp}{s:aw}(I:Inv X aa J H s)(d:Drawn):Inv X aa J H {s with drawn:=d} :=
 ⟨I.ok,I.os,I.bare,I.base,I.loc,I.cell,I.free,I.mP,I.pin,I.aL,I.len⟩
theorem awG:∀{l q:ao ar},q.Perm l->∀{ms:ao az},cw l ms->∃mX,cw q mX/\mX.Perm ms:=by
 intro l q h
 induction h with
 |nil=>intro ms h;exact⟨ms,h,EZ _⟩
 |cons x _ ih =>
  intro ms h;cases h with
  |cons n t r=>obtain⟨mX,a,b⟩:=ih r;exact⟨n::mX,.cons n t a,b.cons n⟩
 |swap x y l =>
  intro ms h;cases h with
  |cons n t r =>
   cases r with
   |cons j B r=>exact⟨j::n::_,.cons j B (.cons n t r),.swap n j _⟩
 |trans _ _ z f =>
  intro ms h;obtain⟨g,e,c⟩:=f h;obtain⟨L,d,U⟩:=z e;exact⟨L,d,U.trans c⟩
theorem aFI(D:X.calm=ax):oX X (.builtin "sorted") (λxs H Q=>∃(d:ay) (ks:ao az),xs=[.ref d]/\H d=ak (.ext (JC X.prog X.w d ks))/\ks.length<4000 /\
  ∀(ms:ao az) (l:ay),ms.Perm ks->ms.Pairwise (· <= ·)->H l=aq->Q (.ref l) (upd H l (.lst (ms.map V.int)))):=by
 intro aa s J H xs P Q I r h;obtain⟨d,ks,rfl,hd,S,q⟩:=h;obtain⟨u,rfl,v⟩:=vals1 r;cases v;obtain⟨⟨es,x,hT,F,E⟩,_,_⟩:=I.aL _ _ hd;have y:(4000:a4)<=bc:=by decide
 refine ae4 kind_sorted plain_sorted entry_sorted (args_sorted1 _) ?_;unfold Builtin.«sorted»;refine aI (m:=checkCount "sorted" 1 1 _) (bC ?_);refine aI (aEQ (A:=X.A.in1) (I.ok.hd D) hT λh' tk f acc N p=>?_);obtain⟨L,c,AH⟩:=awG p F;have a:L.Perm ks:=AH.trans E;have hl:acc.toList.length=ks.length:=by
  have:∀{z:ao ar} {ns:ao az},cw z ns->z.length=ns.length:=by
   intro z ns h
   induction h with
   |nil=>rfl
   |cons n t _ ih=>simp[ih]
  rw[this c,a.length_eq]
 refine aI (wpAny_newList ?_ (by rw[hl];omega));have B:(h'.push (cq "list" acc.toList.toArray 0)).get? h'.objs.size=ak (cq "list" acc.toList.toArray 0):=iQ _ rfl;refine aI (sT (sU slot_list_sort ⟨_,B,rfl⟩ entry_list_sort (Fv B c (by omega) λae j K g G=>⟨_,rfl,?_⟩) (args_list_sort _)));refine bC ⟨_,rfl,?_⟩;have i:Inv X aa J H {s with heap:=h',toks:=tk,drawn:=f}:=(I.kept (t':=tk) N).drawn f;have C:H h'.objs.size=aq:=i.aL.fresh dC;obtain⟨e1,k⟩:∃e1,((h'.push (cq "list" acc.toList.toArray 0)).update h'.objs.size (Obj.mapSeq λ_=>#[])).get? h'.objs.size=ak (cq "list" #[] e1):=⟨_,VV B (λ_=>#[])⟩;have o:=eK (cq "list" #[] 0) (eK (cq "tuple" acc.toList.toArray 0) k);obtain⟨U,M⟩:∃U,(ew (h'.push (cq "list" acc.toList.toArray 0)) h'.objs.size acc.toList ae).get? h'.objs.size=ak (cq "list" ae U):=⟨_,VV o (λ_=>ae)⟩;have kp:∀b u,h'.get? b=ak u->(ew (h'.push (cq "list" acc.toList.toArray 0)) h'.objs.size acc.toList ae).get? b=ak u:=λb u e=>by
  have hb:b≠h'.objs.size:=fX (eI e);unfold ew;exact(sJ _ _ (cQ hb)).trans (eK _ (eK _ ((sJ _ _ (cQ hb)).trans (eK _ e))))
 have hv:Vals (j.map V.int) ae.toList:=RV K;have R:j.length=ks.length:=(g.trans a).length_eq;refine⟨.ref h'.objs.size,upd H h'.objs.size (.lst (j.map V.int)),i.laid (t':=tk) kp dC ?_,rfl,q j _ (g.trans a) G C⟩;exact⟨by rw[jQ];omega,ae.toList,U,hv,M⟩
end
end L2
namespace PySem
open PyProof.Rows PySem.Spec
set_option maxRecDepth 100000
set_option compiler.extract_closed false
set_option genSizeOf false
set_option bootstrap.genMatcherCode false
end PySem
namespace V2
open PySem PySem.Spec PyProof.Rows L2 KS
section
variable{X:Cx}{W:WX}{e o:bx}
@[simp] def RW(c:bh)(f:Ev->Mo A):Ev->Mo A:=λY=>mb (f Y) λa Z=>match (eU Z a).bind intsOf with
 |some ns=>if(qP ns).length<4000 then uL c ((sortI (qP ns)).map A.int) Z else aq
 |none=>aq
theorem agK{f:Ev->Mo A}{C p2 y z:dg}(c:bh)(d:X.calm=ax)(U:Gl X "sorted")(L:X.mg "sorted" = aq)(K:Gl X "set")(B:X.mg "set" = aq)(he:VE X W e f)
  (b:bf [.Call (.Name "set" p2) [e] [] z] X.env=(au,cb (.Call (.Name "set" p2) [e] [] z) X.env)::bf [] X.env:=by rfl)
  (g:bf [e] X.env=(au,cb e X.env)::bf [] X.env:=by rfl) :
  VE X W (.Call (.Name "sorted" C) [.Call (.Name "set" p2) [e] [] z] [] y) (RW c f):=by
 obtain⟨t,p,s⟩:=he;refine⟨_,Xa (aFI d) U L boot_sorted (TR (Wz (aFM d) K B PyProof.Rows.boot_set (TR p TQ g) (by decide) (by decide) g rfl) TQ b) (by decide) (by decide) b rfl,λG m o H J i Q w r h=>?_⟩;show t J H _;refine s G m o H J i _ w r (bS.mb h λa n v R S k N q I h1=>?_);split at h1
 ·rename_i ns en;split at h1
  ·rename_i hl;rw[JG]at en;obtain⟨ds,e1,F⟩:=en;obtain⟨p,M,rfl,h2,E⟩:=tD q I e1;rw[US F E]at h2;refine⟨p,ns,rfl,h2,hl,λl j=>?_⟩;refine⟨l,qP ns,rfl,gV,hl,λms P D x u=>?_⟩;rw[Bm D x];exact zU (q.new j (.ext (JC X.prog X.w l (qP ns)))) u (OK _) (h1.ext (Ext.new (q.rC j) _))
  ·exact False.elim h1
 ·exact False.elim h1
end
noncomputable def ahZ(k:a4)(kvs:ao (Key×A)):OS->OS
 |some (.exc _,_,_)=>aq
 | some (o,j,Z')=>(match Z'[k]? with
  |some .dead=>ak (o,j,Z'.set k (.dA kvs))
  | _=>aq)
 |none=>aq
@[simp] noncomputable def aKE(i:a4)(g:A->MS)(b:MS):MS:=λY Z=>match (Y[i]?).join with
 | some a=>(match oS Z a with
  |some (k,kvs)=>ahZ k kvs (fO (λ_=>True) g b (kvs.map DA) Y (Z.set k .dead))
  | none=>aq)
 |none=>aq
theorem aG3{K:bj}{mg:a9->av ar}{h:bz}{rk m q:a9}{st:bw}{R f:ay}{B:ar}{od U:av ay}{L:a6 (av ar)}{kV doc z j ct:ar}(X:K.In h)(G:h.Ns a5 mg)(n:cu K a5 rk=ak (ak (.ref R)))
  (r:PySem.W.readsIn K R (.type "type")=ax) (fi:PySem.W.findCls K (.ref R) (.type "type") m=ak (.val (.ref f))) (ga:specialIn K (.ref R) "__getattribute__" = ak (ak (.builtin "type.__getattribute__")))
  (l:K.lookup f=ak ⟨B,od,.func (fnOf m q (lL st) (fV st) (bB st) .none kV doc z U j ct),L⟩) (c:codeIn K j q=ax) (k:keepIn K (.ref f)=ax):YT K mg rk m q st :=
 ⟨R,f,_,mg_of X G n,⟨r,fi,ga,k⟩,OA l c k⟩
theorem ac6(a:A)(ha:cY 7 a=ax):∀(ds:ao A),ds.all (cY 7)=ax->((ds.map (toPy 7)).any λy=>PyData.eqv y (toPy 7 a))=ds.any λd=>gX 7 d a
 |[],_=>rfl
 |d::ds,h=>by
  simp only[Oy,lF]at h;simp only[dJ,QF];rw[Aq 7 d a h.1 ha,ac6 a ha ds h.2]
def Vw(K:bj)(neg:bh):R2:=λx y H Q=>∃O a ds,cY 7 a=ax/\cY 8 (.lst ds)=ax/\Den K H O x a/\Den K H O y (.lst ds)/\Q (.bl (if neg then !(ds.any λd=>gX 7 d a)else ds.any λd=>gX 7 d a)) H
theorem aqN{X:Cx}(f:X.A.units+64<cLine):iF X (b8 .NotIn) (Vw X.K ax):=by
 intro aa s J H x y v u Q I B z h;obtain⟨e,a,ds,h1,h2,c,b,q⟩:=h;obtain⟨g,U⟩:=GV I 7 x v a h1 c B;obtain⟨bs,L⟩:=GV I 8 y u (.lst ds) h2 b z;have e1:=Ar 7 a;have j:ds.all (cY 7)=ax:=h2;refine SeqAt.notIn_list_reads (xs:=ds.map (toPy 7)) L U (WQ ds 7 (λd _=>GI 7 d) j) (GI 7 a h1) (by omega) ?_;rw[ac6 a h1 ds j];exact⟨.bl (!(ds.any λd=>gX 7 d a)),H,I,rfl,q⟩
def uS(neg:bh)(a b:A):Mo A:=λZ=>match res Z 6 a,res Z 6 b with
 |some x,ak (.lst ds)=>if(cY 7 x&&cY 8 (.lst ds))=ax then ak (.ok (.bl (if neg then !(ds.any λd=>gX 7 d x)else ds.any λd=>gX 7 d x)),Z)else aq
 |_,_=>aq
theorem aqI{K:bj}{W:WX}{neg:bh}:wV K W (Vw K neg) (uS neg):=by
 intro G q c H J x y a b Q w U L h;unfold uS at h;split at h
 ·rename_i z ds e1 B;split at h
  ·rename_i j;simp only[lF]at j;exact⟨q,z,ds,j.1,j.2,TF w 6 x a z U e1,TF w 6 y b _ L B,h _ H G q (Ext.refl _ _) w (by simp only[Den])⟩
  ·exact False.elim h
 ·exact False.elim h
theorem Xn{X:Cx}{W:WX}(j:X.A.units+64<cLine):mR X W (b8 .NotIn) (uS ax):=⟨_,aqN j,aqI⟩
end V2
namespace L2
open PySem PySem.Spec PyProof.Rows
structure aeS(K:bj)(C:ay):Prop where
 cls:nE K C
 ha:b5 K (.ref C) "__class__" = ak (ak (.builtin "object.__class__"))
 hn:specialIn K (.builtin "object.__class__") "__get__" = ak (ak (.builtin "getset_descriptor.__get__"))
 tk:takesIn K (.builtin "object.__class__")=ak ax
 mro:mroIn K C (.type "object")=ak ax
section
variable{X:Cx}
theorem aFT:oX X (.builtin "isinstance") (λxs H Q=>∃(a C D dx:ay) (fs:ao (a9×V)) (b:bh),xs=[.ref a,.ref D]/\H a=ak (.ins C dx fs)/\aeS X.K C/\eu X.K (.ref C) (.ref D)=ak b/\Q (.bl b) H):=by
 intro aa s J H xs c Q I r h;obtain⟨a,C,D,dx,fs,b,rfl,U,iso,e,q⟩:=h;obtain⟨u,v,rfl,B,j⟩:=vals2 r;obtain rfl:u=.ref a:=B;obtain rfl:v=.ref D:=j;obtain⟨d,z,ne,ob,i,n,f,g⟩:=I.aL a _ U;obtain⟨od,hd⟩:∃od,s.heap.get? dx=ak od:=by
  obtain⟨o,_,_,L,_⟩:=n;exact⟨o,L⟩
 have Ω:=PySem.W.kitx_own (x:=a) (D:=C) (ox:=instObj C dx) (od:=od) (iso.cls.get _) iso.cls.hd iso.ha iso.hn iso.tk iso.mro;exact d0 Ω I.gG ⟨ob,rfl,rfl,hd⟩ e (by intro z;cases z) λtk=>⟨.bl b,H,I.tok tk,rfl,q⟩
end
end L2
namespace V2
open PySem PySem.Spec PyProof.Rows L2
def Pf(K:bj)(cs:ao a9):Prop:=∀c∈cs,∀d∈cs,∃C D,cu K a5 c=ak (ak (.ref C))/\cu K a5 d=ak (ak (.ref D))/\aeS K C/\eu K (.ref C) (.ref D)=ak (decide (c=d))
theorem at9{K:bj}{C:ay}:eu K (.ref C) (.ref C)=ak ax:=by
 unfold eu;rw[a7 (by simp)]
theorem av8{K:bj}{c:a9}{C:ay}(n:cu K a5 c=ak (ak (.ref C)))(L:nE K C)
  (ha:b5 K (.ref C) "__class__" = ak (ak (.builtin "object.__class__"))) (hn:specialIn K (.builtin "object.__class__") "__get__" = ak (ak (.builtin "getset_descriptor.__get__")))
  (tk:takesIn K (.builtin "object.__class__")=ak ax) (mro:mroIn K C (.type "object")=ak ax):Pf K [c]:=λa j b q=>by
 simp only[kL]at j q;subst j;subst q;exact⟨C,C,n,n,⟨L,ha,hn,tk,mro⟩,by rw[at9];simp⟩
structure Pj(K:bj)(mg:a9->av ar)(x:a9):Prop where
 ex:∃C,mg x=ak (.ref C)/\cu K a5 x=ak (ak (.ref C))
section
variable{X:Cx}{W:WX}{x:a9}{pos:dg}
theorem agR(h:Pj X.K X.mg x)(j:Gl X x)(hd:(x==("__debug__" : a9))=au:=by decide):VE X W (.Name x pos) (cG x):=by
 obtain⟨C,h1,h2⟩:=h.ex;exact So j h1 h2 hd
@[simp] noncomputable def Jh(cs:ao a9)(as:ao A):Mo A:=λZ=>match as with
 | [.aE s,.gl d]=>(match Z[s]? with
  |some (.ins c _)=>if c∈cs/\d∈cs then ak (.ok (.bl (decide (c=d))),Z)else aq
  | _=>aq)
 |_=>aq
theorem aFZ{cs:ao a9}(T:Pf X.K cs):rN X W (.builtin "isinstance") (Jh cs):=by
 refine⟨_,aFT,?_⟩;intro G L m H J n r Q w d h;unfold Jh at h;split at h
 ·rename_i s k;split at h
  ·rename_i c fs eo;split at h
   ·rename_i z;obtain⟨x,y,rfl,l,B⟩:=OL d;obtain⟨a,C,i,U,rfl,ha,o,g,b,p⟩:=w.ins eo l;simp only[Den]at B;obtain⟨D,f,rfl⟩:=B;obtain⟨u,t,q,j,iso,e⟩:=T c z.1 k z.2;rw[g]at q;cases q;rw[f]at j;cases j;exact⟨a,C,D,i,U,_,rfl,b,iso,e,h _ H G L (Ext.refl _ _) w (by simp only[Den])⟩
   ·exact False.elim h
  ·exact False.elim h
 ·exact False.elim h
end
open PySem PySem.Spec PyProof.Rows L2 KS
section
variable{X:Cx}{W:WX}{e:bx}{fe:Ev->Mo A}{pos:dg}
@[simp] def Dv(i:a4)(fe:Ev->Mo A):MS:=λY Z0=>match Y[i]? with
 | some (ak (.int n))=>sM (fe Y) Y (λa Z=>(match a with
  |.int m=>ak (.nx,Y.set i (ak (.int (n+m))),Z)
  | _=>aq)) Z0
 |_=>aq
theorem agD{i:a4}{x:a9}{pos':dg}(m:X.N.Nodup)(hi:X.N[i]?=ak x)(k:Loc X.env.scope x)(he:VE X W e fe)(l:X.fn x=ax\/X.env.scope.names.lookup x=ak .local:=by first|exact .inl rfl|exact .inr rfl|assumption) :
  VS X W (.AugAssign (.Name x pos') .Add e pos) (Dv i fe):=by
 obtain⟨t,g,f⟩:=he;refine⟨_,aoQ m hi k g awD l,λG L b H J z D w r h=>?_⟩;unfold Dv at h;split at h
 ·rename_i n en;obtain⟨v,h1,h2⟩:=r.2 i _ en;simp only[Den]at h2;subst h2;refine⟨_,h1,f G L b H J z _ w r (fA.sM h r λa U y o p B c d q j=>?_)⟩;split at j
  ·simp only[Den]at q;subst q;exact⟨n,_,rfl,rfl,uI d ((r.ext c).set i (by simp only[Den])) j⟩
  ·exact False.elim j
 ·exact False.elim h
end
section
variable{X:Cx}{W:WX}{a b c d:bx}{ta tb tc td:TE}{fa fb fc fd:Ev->Mo A}{pos:dg}
def Uc(r c U:R2)(ta tb tc td:TE):TE:=λJ H Q=>ta J H λx H1=>tb J H1 λy H2=>r x y H2 λz L=>∃k,z=.bl k /\
 (if k=ax then tc J L λj e=>c y j e λa B=>∃q,a=.bl q/\(if q=ax then td J B λb d=>U j b d Q else Q (.bl au) B)else Q (.bl au) L)
theorem ap6{j q B:CmpOp}{r l L:R2}(ho:iF X (b8 j) r)(pQ:iF X (b8 q) l)(MW:iF X (b8 B) L)(ha:PE X a ta)(hb:PE X b tb)(hc:PE X c tc)(hd:PE X d td)
  (hm:lastMarks [j,q,B] [b,c,d]=au:=by with_unfolding_all rfl):PE X (.Compare a [j,q,B] [b,c,d] pos) (Uc r l L ta tb tc td):=by
 intro aa s J H Q I h;refine Compare_chain (bM (ha aa s J H _ I h) λv K ⟨x,H1,I1,R,W⟩=>chain_link (bM (hb aa K J H1 _ I1 W) λu s2 ⟨y,H2,I2,i,V⟩ =>
  bM (ho aa s2 J H2 x y v u _ I2 R i V) λd G ⟨z,w,p,P,k,e,n⟩=>?_)) hm
 subst e;cases P;refine KJ ?_;cases k with
 |false=>exact ite_ff ⟨.bl au,w,p,rfl,n⟩
 |true =>
  refine ite_tt (chain_link (bM (hc aa G J w _ p n) λf F ⟨U,H4,I4,g,T⟩=>bM (pQ aa F J H4 y U u f _ I4 i g T) λd' E zz=>?_));obtain⟨z2,t,o,N,k',e',m⟩:=zz;subst e';cases N;refine KJ ?_;cases k' with
  |false=>exact ite_ff ⟨.bl au,t,o,rfl,m⟩
  |true=>exact ite_tt (chain_last (bM (hd aa E J t _ o m) λC D ⟨A,H6,I6,M,S⟩=>MW aa D J H6 U A f C Q I6 g M S))
@[simp] def Ag(g g' a:A->A->Mo A)(f1 f2 U L:Ev->Mo A):Ev->Mo A:=λY=>mb (f1 Y) λx=>mb (f2 Y) λy=>mb (g x y) λz=>mb (NZ z) λk=>if k then mb (U Y) λu=>mb (g' y u) λj=>mb (NZ j) λB=>if B then mb (L Y) λq=>a u q else ret (.bl au)else ret (.bl au)
theorem akM{K:bj}{r X F:R2}{g g' DT:A->A->Mo A}{V T S R:TE}(ho:wV K W r g)(pQ:wV K W X g')(MW:wV K W F DT)(h1:gT K (Den K) W V fa)(h2:gT K (Den K) W T fb)(h3:gT K (Den K) W S fc)(h4:gT K (Den K) W R fd):gT K (Den K) W (Uc r X F V T S R) (Ag g g' DT fa fb fc fd):=by
 intro G O Z H J j Q w q h;refine h1 G O Z H J j _ w q (bS.mb h λx o v H1 G1 c t w1 d1 h1=>?_);refine h2 G1 c o H1 J j _ w1 (q.ext t) (bS.mb h1 λy l u H2 G2 b s w2 d2 h2=>?_);refine ho G2 b l H2 J v u x y _ w2 (d1.ext s) d2 (bS.mb h2 λz i z' H3 G3 a p P d3 D=>?_);cases z with
 |bl k =>
  simp only[Den]at d3;refine⟨k,d3,?_⟩;cases k with
  |true =>
   refine h3 G3 a i H3 J j _ P (q.ext ((t.trans s).trans p)) (bS.mb D λm f m' H4 G4 U M w4 d4 C=>?_);refine pQ G4 U f H4 J u m' y m _ w4 (d2.ext (p.trans M)) d4 (bS.mb C λz2 e z2' H5 G5 L I N d5 E=>?_);cases z2 with
   |bl k' =>
    simp only[Den]at d5;refine⟨k',d5,?_⟩;cases k' with
    |true=>exact h4 G5 L e H5 J j _ N (q.ext ((((t.trans s).trans p).trans M).trans I)) (bS.mb E λn d n' H6 G6 B x6 w6 d6 h6=>MW G6 B d H6 J m' n' m n Q w6 (d4.ext (I.trans x6)) d6 h6)
    |false=>exact kO N (by simp only[Den]) E
   |_=>exact False.elim E
  |false=>exact kO P (by simp only[Den]) D
 |_=>exact False.elim D
theorem agU{j U e:CmpOp}{g g' f:A->A->Mo A}(w:mR X W (b8 j) g)(m:mR X W (b8 U) g')(y:mR X W (b8 e) f)(ha:VE X W a fa)(hb:VE X W b fb)(x:VE X W c fc)(hd:VE X W d fd)
  (hm:lastMarks [j,U,e] [b,c,d]=au:=by with_unfolding_all rfl):VE X W (.Compare a [j,U,e] [b,c,d] pos) (Ag g g' f fa fb fc fd):=by
 obtain⟨r,v,s⟩:=w;obtain⟨E,z,q⟩:=m;obtain⟨C,B,L⟩:=y;obtain⟨t,p,l⟩:=ha;obtain⟨u,p2,s2⟩:=hb;obtain⟨D,o,k⟩:=x;obtain⟨h,n,i⟩:=hd;exact⟨_,ap6 v z B p p2 o n hm,akM s q L l s2 k i⟩
def ae7(_ j:az):Prop:=0<j/\j<1152921504606846976
instance (i j:az):c8 (ae7 i j):=by unfold ae7;infer_instance
def aBO(K:bj)(n:a4)(t:wQ):TG:=λv J H Q=>∃a xs,v=.ref a/\fH K H a xs/\xs.length=n/\t xs J H Q
theorem apK{es:ao bx}{k:a4}{t:wQ}{n:a4}(d:X.calm=ax)(h:JE X es t)
  (hn:(cn es X.env).length=n:=by rfl) (L:(cn es X.env).findIdx? (·.1)=aq:=by rfl):PG X (.Tuple es k pos) (aBO X.K n t):=by
 intro aa s J H v u Q I r j;obtain⟨a,z,e1,c,hl,j⟩:=j;subst e1;cases r;obtain⟨f,q,B,i⟩:=I.list c;rw[assign_Tuple];refine aI (wpAny_standAt ?_);unfold unpack;rw[show(cn es X.env).length=f.toArray.size by simp[hn,<-hl,q.length],L];refine aI (sT (PySem.W.kun_itemsOf (I.ok.hd d) B.isList λh' U=>?_));have g:Inv X aa J H {s with heap:=h' }:=I.kept (t':=s.toks) λb o e=>U b o (fX (eI e)) e;exact h aa _ J H z _ Q g (by simpa using q) j
@[simp] def NX(n:a4)(gs:ao A->MS):A->MS:=λa Y Z=>match eU Z a with
 |some ds=>if ds.length=n then gs ds Y Z else aq
 |none=>aq
theorem agI{es:ao bx}{k:a4}{n:a4}{gs:ao A->MS}(b:X.calm=ax)(h:PL X W es gs)
  (hn:(cn es X.env).length=n:=by rfl) (U:(cn es X.env).findIdx? (·.1)=aq:=by rfl):VG X W (.Tuple es k pos) (NX n gs):=by
 obtain⟨t,p,s⟩:=h;refine⟨_,apK b p hn U,λG B L H J z v a D w r d h=>?_⟩;unfold NX at h;split at h
 ·rename_i ds e
  by_cases hl:ds.length=n
  ·rw[a7 hl]at h;obtain⟨p,j,rfl,h2,q⟩:=tD w d e;exact⟨p,j,rfl,h2,by rw[q.length];exact hl,s G B L H J z j ds D w r q h⟩
  ·rw[ba hl]at h;exact False.elim h
 ·exact False.elim h
end
end V2
namespace M
open PySem V2
noncomputable section
def XH:MS :=
 (aV (mV ["Halves"] "keep" aP aW)
  (aV (mV ["Halves"] "many" aP cK)
  (mV ["Halves"] "taken" aP cK)))
def RE:ao A->Mo A:=cM 2 XH
def Lv:MS :=
 (eM (cF (aC DS (aC cH (dO ["Halves"] "many" aP) aW) (cI 1000000000)))
   (λ_ _=>aq)
   fM)
def RC:ao A->Mo A:=cM 2 Lv
def Lw:MS :=
 (bK (dO ["Halves"] "many" aP))
def RD:ao A->Mo A:=cM 1 Lw
def Ls:MS :=
 (bK (dO ["Halves"] "taken" aP))
def YZ:ao A->Mo A:=cM 1 Ls
def XA:MS :=
 (aV (bO (aU (Jd au) (aB aP a0)) (gN 2))
  (aV (bO (aC (fU) (aU nC (aB bL a0)) (aC (fC) (aU nC (aB bL a0)) jT)) (gN 3))
  (bK (qW (aB (RX au bL (tZ aW) (tZ eE) (tZ jT)) (aB (Ta au bL (tZ eE) sl0) a0))))))
def Pl:ao A->Mo A:=cM 4 XA
def XI:MS :=
 (aV (vO 0 "levels" (kN (zM IJ (dO ["Halves"] "levels" aP) (aB (fL au a0) a0))))
   (kN (KU ["Halves"] 0 "turns" cK)))
def IX:Ev->Mo bh :=
 (cF (aC IH bL (RZ ["Halves"] 0 "levels")))
def Mi:MS :=
 (aV (λY Z=>lK IX XI ((λ_ _=>1000000) Y Z) Y Z)
  (bO (aC cH (pD ["Halves"] 0 "levels" bL) aW) (AL ["Halves"] 0 "levels" bL)))
def KA:ao A->Mo A:=cM 3 Mi
def Mc:Ev->Mo A :=
 (nI au 1 [2] (jJ eE) (gN 0) tU (qW (aB aP (aB aW a0))))
def OY:MS :=
 (aV (kN (zM Jj aW (aB Mc a0)))
   (bO (aC (jN) bL jT) (gN 2)))
def Md:MS :=
 (aV (bO (fL ax a0) (gN 1))
  (aV (bO cJ (gN 2))
  (aV (vO 0 "levels" (nJ (jJ (dO ["Halves"] "levels" aP)) (gN 3) OY))
  (bK (KR 1)))))
def zD:ao A->Mo A:=cM 4 Md
def Mh:MS :=
 (bK (aC cH (dO ["Halves"] "over" aP) (dO ["Halves"] "under" aP)))
def BD:ao A->Mo A:=cM 1 Mh
def uX:MS :=
 (aV (eM (cF (aC mO aW cK))
   (bK (aC (fC) aP ZS))
   fM)
  (aV (eM (cF (aC mO aW cJ))
   (bK (aC (fU) (aC (fC) aP (cI 100)) (cI 50)))
   fM)
  (aV (eM (cF (aC mO aW jT))
   (bK (aC (fU) (aC (fC) (aC (jN) (aC (jN) aP aP) (cI 48271)) (aC cH (aC (jN) jT (aC (oQ) pA (cI 18))) cJ)) (aC (oQ) pA (cI 18))))
   fM)
  (aV (eM (cF (aC mO aW oZ))
   (bK (aC cW (fL au (aB (aC cH (aC (oQ) pA (cI 59)) aP) (aB (aC (fU) (aC (fU) cK (aC (oQ) pA (cI 59))) aP) (aB (aC (fU) (aC (oQ) pA (cI 60)) cJ) (aB (aC (fU) cJ (aC (oQ) pA (cI 60))) a0))))) (aC (fC) aP ZT)))
   fM)
  (bK (aC cW (fL au (aB RQ (aB (aC (fU) cK RQ) (aB cK a0)))) (aC (lZ) (aC (fC) aP (cI 30)) (cI 14))))))))
def sL:ao A->Mo A:=cM 2 uX
def yS:MS :=
 (aV (bO (aC (lZ) aP BP) (gN 1))
  (aV (bO (aC (abB) cJ (aC (fC) aW (cI 20))) (gN 2))
  (bK (aC cW (fL au (aB cJ (aB cJ (aB (aC cH cJ (aC (fC) aW KO)) (aB (aC cH cJ (aC (fC) aW (cI 100))) (aB (aC cH cJ (aC (fC) aW (cI 1000000))) (aB bL (aB (aU rD (aB cJ (aB (aC (fU) bL cJ) a0))) (aB ZS a0))))))))) (aC (fC) aP BP)))))
def rM:ao A->Mo A:=cM 3 yS
def La:Ev->Mo A :=
 (nI au 2 [1] (jJ aP) (mM 2 (eN (gN 0) (eN (gN 1) lJ))) (cF (aC wH aP bL)) aW)
def Lb:MS :=
 (bK (aU DP (aB La a0)))
def JZ:ao A->Mo A:=cM 2 Lb
def XD:MS :=
 (aV (bO (aC (lZ) aP jT) (gN 0))
   (Dv 1 cJ))
def XF:Ev->Mo bh :=
 (cF (aC DS aP cK))
def Lm:MS :=
 (aV (bO cK (gN 1))
  (aV (λY Z=>lK XF XD ((λ_ _=>1000000) Y Z) Y Z)
  (bK aW)))
def Pt:ao A->Mo A:=cM 2 Lm
def acY:MS :=
 (eM (uA (mG (cF (aU DQ (aB aW (aB (cT "int") a0))))) (cF (aU DQ (aB aW (aB (cT "bool") a0)))))
    (bK (cB au))
    fM)
def acZ:MS :=
 (aV (eM (uA (mG (cF (aU DQ (aB aP (aB (cT "tuple") a0))))) (cF (aC wG (aU nC (aB aP a0)) jT)))
   (bK (cB au))
   fM)
  (aV (nJ (jJ aP) (gN 1) acY)
  (bK (cB ax))))
def YV:ao A->Mo A:=cM 2 acZ
def XJ:MS :=
 (aV (bO (pD ["Halves"] 0 "turns" aW) (gN 3))
  (aV (bO (aU (bR 2 Pl) (aB (pD ["Halves"] 0 "levels" aW) (aB eE a0))) (gN 4))
  (aV (bO (aC cW kG cJ) (AL ["Halves"] 0 "levels" aW))
  (aV (kN (cU "lay" [("Halves",bZ 3 [] KA)] aP (aB (aC cW kG cK) (aB (aC cH aW cJ) a0))))
  (aV (bO (aC (fU) cJ eE) (AL ["Halves"] 0 "turns" aW))
  (eM (cF (aC mO eE cK))
   (mV ["Halves"] "over" aP (aC cH (dO ["Halves"] "over" aP) bL))
   (mV ["Halves"] "under" aP (aC cH (dO ["Halves"] "under" aP) bL))))))))
def ZF:ao A->Mo A:=cM 5 XJ
def Mj:Ev->Mo A :=
 (nI au 1 [] (jJ (cU "stand_ins" [("Halves",bZ 1 [] zD)] aP a0)) (gN 0) tU (aC cW aP cK))
def Ml:MS :=
 (bK Mj)
def KC:ao A->Mo A:=cM 1 Ml
def Lu:MS :=
 (bK (RW ax (cU "kept" [("Halves",bZ 1 [] KC)] aP a0)))
def ZA:ao A->Mo A:=cM 1 Lu
def XM:MS :=
 (aV (kN (aU (bR 2 RE) (aB aP (aB aW a0))))
  (aV (GS ["Halves"] 0 "levels" (fL ax a0))
  (aV (GS ["Halves"] 0 "turns" (fL ax a0))
  (aV (mV ["Halves"] "over" aP cK)
  (mV ["Halves"] "under" aP cK)))))
def BF:ao A->Mo A:=cM 2 XM
def EK:MS :=
 (aV (eM (cF (aC IH (aU nC (aB (pD ["Halves"] 0 "levels" bL) a0)) (aC (jN) jT (dO ["Halves"] "keep" aP))))
    (kN (cU "halve" [("Halves",bZ 3 [] ZF)] aP (aB bL (aB aW a0))))
    fM)
   (aV (bO (aC (jN) aW jT) (gN 1))
   (bO (aC cH bL cJ) (gN 2))))
def AR:Ev->Mo bh :=
 (cF (aC rE bL (RZ ["Halves"] 0 "levels")))
def Mf:MS :=
 (aV (bO cJ (gN 1))
  (aV (bO cK (gN 2))
  (λY Z=>lK AR EK ((λ_ _=>1000000) Y Z) Y Z)))
def RF:ao A->Mo A:=cM 3 Mf
def acW:MS :=
 (aV (bO (aU rD (aB cK (aB (aC (fU) (aU nC (aB aP a0)) aW) a0))) (gN 3))
  (bK (aU AJ (aB bL (aB (aU rD (aB eE (aB (aC (fC) (aU (bR 2 xE) (aB aP (aB (aC (fU) aW cJ) a0))) (aC cH bL cJ)) a0))) a0)))))
def YU:ao A->Mo A:=cM 4 acW
def Lc:MS :=
 (aV (bO (aU rD (aB cK (aB (aC (fU) (aU nC (aB aP a0)) aW) a0))) (gN 3))
  (bK (aU (bR 2 zC) (aB (aU (bR 2 xE) (aB aP (aB (aC cH aW (aC (fC) bL (aU rD (aB cJ (aB eE a0))))) a0))) (aB bL a0)))))
def Pp:ao A->Mo A:=cM 4 Lc
def yT:MS :=
 (aV (bO (aU (bR 2 xE) (aB aP (aB cJ a0))) (gN 1))
  (bK (aC cW (fL au (aB (aC cH cJ (aC (fC) (aC (lZ) aW BP) (cI 12))) (aB (aC cH cJ (aC (fC) (aC (lZ) aW BP) oZ)) (aB (aC cH cJ (aC (fC) (aC (lZ) aW BP) (cI 60))) (aB (cI 1000) a0))))) (aC cW (fL au (aB cK (aB cK (aB cK (aB cJ (aB cJ (aB cJ (aB jT (aB oZ a0))))))))) (aC (fC) aW BP)))))
def sN:ao A->Mo A:=cM 2 yT
def IW:MS :=
 (aV (eM (cF (aC mO (aC (fC) bL jT) cJ))
    (kN (cU "lay" [("Halves",bZ 3 [] KA)] aP (aB (fL au (aB aW a0)) (aB eE a0))))
    fM)
   (aV (bO (aC (lZ) bL jT) (gN 2))
   (bO (aC cH eE cJ) (gN 3))))
def OX:Ev->Mo bh :=
 (cF (aC DS bL cK))
def Mb:MS :=
 (aV (bO cK (gN 3))
  (aV (λY Z=>lK OX IW ((λ_ _=>1000000) Y Z) Y Z)
  (kN (cU "settle" [("Halves",bZ 1 [] RF)] aP a0))))
def ZE:ao A->Mo A:=cM 4 Mb
def Lk:MS :=
 (aV (bO (aU (bR 3 Pp) (aB aP (aB ZT (aB aW a0)))) (gN 2))
  (aV (bO (aU (bR 2 sL) (aB (aU (bR 2 zC) (aB bL (aB cJ a0))) (aB (aC (lZ) (aC (jN) (aC (fC) (aU (bR 2 xE) (aB aP (aB cK a0))) KP) RQ) KP) a0))) (gN 3))
  (bK (fL au (aB bL (aB eE (aB (aU (bR 1 rM) (aB (aU (bR 2 zC) (aB bL (aB jT a0))) a0)) a0)))))))
def QW:ao A->Mo A:=cM 4 Lk
def XG:MS :=
 (aV (eM (cF (aC rE bL cJ))
   (λ_ _=>aq)
   fM)
  (aV (kN (cU "look_room" [("Halves",bZ 2 [] RC)] aP (aB bL a0)))
  (aV (kN (cU "take" [("Halves",bZ 3 [] ZE)] aP (aB aW (aB bL a0))))
  (aV (mV ["Halves"] "many" aP (aC cH (dO ["Halves"] "many" aP) bL))
  (mV ["Halves"] "taken" aP (aC cH (dO ["Halves"] "taken" aP) cJ))))))
def QZ:ao A->Mo A:=cM 3 XG
end
end M
namespace V2
open PySem PyProof L2
noncomputable def alt{α:Type}:bh->ao α->ao α
 |_,[]=>[]
 |true,x::xs=>x::alt au xs
 |false,_::xs=>alt ax xs
theorem Mt{α β:Type}(f:α->β):∀(b:bh) (xs:ao α),alt b (xs.map f)=(alt b xs).map f
 |_,[]=>by simp[alt]
 |true,x::xs=>by simp[alt,Mt f au xs]
 |false,_::xs=>by simp[alt,Mt f ax xs]
theorem Mv{α:Type}:∀(b:bh) (k:a4) (xs ys:ao α),xs.length=2*k->alt b (xs++ys)=alt b xs++alt b ys
 |b,0,xs,ys,h=>by
  obtain rfl:xs=[]:=Oq.mp (by omega);simp[alt]
 |b,k+1,[],ys,h=>by simp at h
 |b,k+1,[x],ys,h=>by simp at h;omega
 |true,k+1,x::y::xs,ys,h=>by
  simp only[vE,alt];rw[Mv ax k xs ys (by simp at h;omega)]
 |false,k+1,x::y::xs,ys,h=>by
  simp only[vE,alt];rw[Mv au k xs ys (by simp at h;omega)]
theorem PC{α:Type}:∀(b:bh) (xs:ao α),(alt b xs).Sublist xs
 |_,[]=>by simp[alt]
 |true,x::xs=>by simp only[alt];exact(PC au xs).cons_cons x
 |false,x::xs=>by simp only[alt];exact(PC ax xs).cons x
theorem ac7{α:Type}(b:bh):∀(k:a4) (xs:ao α),2*k<=xs.length->(List.range k).filterMap (λi=>xs[2*i+(if b then 0 else 1)]?)=alt b (xs.take (2*k))
 |0,xs,_=>by simp[alt]
 |k+1,xs,h=>by
  rw[List.range_succ,List.filterMap_append,ac7 b k xs (by omega)];have e:xs.take (2*(k+1))=xs.take (2*k)++[xs[2*k],xs[2*k+1]]:=by
   rw[show 2*(k+1)=2*k+1+1 by omega,YJ,YJ,gM (show 2*k<xs.length by omega),gM (show 2*k+1<xs.length by omega),iH];rfl
  rw[e,Mv b k _ _ (by simp;omega)];congr 1;cases b
  ·simp[alt,gM (show 2*k+1<xs.length by omega)]
  ·simp[alt,gM (show 2*k<xs.length by omega)]
theorem ao4{α:Type}(b:bh)(xs:ao α)(k:a4)(h:2*k<=xs.length):nK xs (ak (if b then 0 else 1)) (ak ((2*k:a4):az)) (ak 2)=alt b (xs.take (2*k)):=by
 rw[<-ac7 b k xs h];unfold nK cg;simp only[Option.getD_some,show(2:az)>0 by decide,fI];have z:max 0 (min (if((2*k:a4):az)<0 then((2*k:a4):az)+(xs.length:az)else((2*k:a4):az)) (xs.length:az))=((2*k:a4):az):=by
  rw[ba (by omega)];omega
 rw[z]
 by_cases j:k=0
 ·subst j;unfold sliceRange;have:¬(max 0 (min (if(if b=ax then(0:az)else 1)<0 then(if b=ax then(0:az)else 1)+(xs.length:az)else(if b=ax then(0:az)else 1)) (xs.length:az))<((2*0:a4):az)):=by omega
  simp only[this,gC];simp
 ·have e1:max 0 (min (if(if b=ax then(0:az)else 1)<0 then(if b=ax then(0:az)else 1)+(xs.length:az)else(if b=ax then(0:az)else 1)) (xs.length:az))=(if b=ax then 0 else 1):=by
   cases b <;> simp <;> omega
  rw[e1];unfold sliceRange;have B:(if b=ax then(0:az)else 1)<((2*k:a4):az):=by cases b <;> simp <;> omega
  simp only[show(2:az)>0 by decide,fI,B];have q:((((2*k:a4):az)-(if b=ax then(0:az)else 1)+2-1)/2).toNat=k:=by cases b <;> simp <;> omega
  rw[q,aeP];congr 1;funext i;simp only[Function.comp];have:((if b=ax then(0:az)else 1)+2*(i:az)).toNat=2*i+(if b=ax then 0 else 1):=by cases b <;> simp <;> omega
  rw[this]
theorem ac8:∀(xs:ao az) (n:az),xs.Pairwise (· <= ·) ->
  (2*((alt ax xs).filter (· <= n)).length=(xs.filter (· <= n)).length\/2*((alt ax xs).filter (· <= n)).length=(xs.filter (· <= n)).length+1) /\
  (2*((alt au xs).filter (· <= n)).length=(xs.filter (· <= n)).length\/2*((alt au xs).filter (· <= n)).length+1=(xs.filter (· <= n)).length)
 |[],n,_=>by simp[alt]
 |x::xs,n,h=>by
  obtain⟨h1,h2⟩:=List.pairwise_cons.mp h;obtain⟨U,L⟩:=ac8 xs n h2
  by_cases z:x<=n
  ·simp only[alt,Ov,z,EA,fI,eB];omega
  ·have q:∀j:ao az,j.Sublist xs->j.filter (λy=>decide (y<=n))=[]:=λj s=>List.filter_eq_nil_iff.mpr λy B=>by
    have:=h1 y (s.subset B);simp;omega
   simp only[alt,Ov,z,IQ];rw[q _ (PC au xs),q _ (PC ax xs),q _ (List.Sublist.refl _)];simp
theorem aEM(ds:ao A)(e:a4)(h:e<=ds.length):EC ds (ak (e:az)) aq=ds.drop e:=by
 unfold EC;rw[HT.amF,HT.amE,Nat.min_eq_left h,YI (by simp)]
end V2
namespace M
open PySem L2 V2
noncomputable def dX:ao (ao az)->az
 |[]=>0
 |L::ls=>(L.length:az)+2*dX ls
noncomputable def eA(L:ao az)(x:az):az:=((L.filter (· <= x)).length:az)
def cX:ao (ao az)->az->az
 |[],_=>0
 |L::ls,x=>eA L x+2*cX ls x
noncomputable def iL:ao az->az
 |[]=>0
 |h::j=>h+2*iL j
def HB(k:az):ao az->ao (ao az)->Prop
 |[],[]=>True
 |h::j,_::ls=>0<=h/\h*(2*k)<=2*dX ls/\HB k j ls
 |_,_=>ck
noncomputable def eZ(s:ao az):ao (ao az)->ao (ao az)
 |[]=>[s]
 |L::ls=>(L++s)::ls
noncomputable def xR:ao az->ao az
 |[]=>[0]
 |t::ts=>t::ts
def fF(s:ao az):a4->ao (ao az)->ao (ao az)
 |0,ls=>eZ s ls
 |n+1,[]=>[]::fF s n []
 |n+1,L::ls=>L::fF s n ls
def fZ:a4->ao az->ao az
 |0,ts=>xR ts
 |n+1,[]=>0::fZ n []
 |n+1,t::ts=>t::fZ n ts
theorem BK:∀ls,0<=dX ls
 |[]=>by simp[dX]
 |L::ls=>by have:=BK ls;simp only[dX];omega
theorem Ki(L M:ao az)(x:az):eA (L++M) x=eA L x+eA M x:=by simp[eA]
theorem aE1{L M:ao az}(h:L.Perm M)(x:az):eA L x=eA M x:=by unfold eA;rw[(h.filter _).length_eq]
theorem sX(n:a4):(2:az) ^ (n+1)=2*2 ^ n:=by rw[Int.pow_succ];omega
theorem TU(n:a4):(0:az)<2 ^ n:=by
 induction n with
 |zero=>decide
 |succ n ih=>rw[sX];omega
theorem ZO(s:ao az):∀ls,dX (eZ s ls)=dX ls+s.length
 |[]=>by simp[eZ,dX]
 |L::ls=>by simp only[eZ,dX,fJ];omega
theorem ab7(s:ao az)(x:az):∀ls,cX (eZ s ls) x=cX ls x+eA s x
 |[]=>by simp[eZ,cX]
 |L::ls=>by simp only[eZ,cX,Ki];omega
theorem RK(s:ao az):∀(n:a4) (ls:ao (ao az)),dX (fF s n ls)=dX ls+2 ^ n*s.length
 |0,ls=>by rw[fF,ZO];simp
 |n+1,[]=>by
  show(([]:ao az).length:az)+2*dX (fF s n [])=_;rw[RK s n [],sX,vF];simp[dX]
 |n+1,L::ls=>by rw[fF,dX,dX,RK s n ls,sX,vF];omega
theorem Kh(s:ao az)(x:az):∀(n:a4) (ls:ao (ao az)),cX (fF s n ls) x=cX ls x+2 ^ n*eA s x
 |0,ls=>by rw[fF,ab7];simp
 |n+1,[]=>by
  show eA [] x+2*cX (fF s n []) x=_;rw[Kh s x n [],sX,vF];simp[cX,eA]
 |n+1,L::ls=>by rw[fF,cX,cX,Kh s x n ls,sX,vF];omega
theorem Yd{s:ao az}{n:az}:∀{ls:ao (ao az)} {L:ao az},L∈eZ s ls->n∈L->n∈s\/∃M∈ls,n∈M
 |[],L,h,hn=>by simp only[eZ,kL]at h;subst h;exact .inl hn
 |K::ls,L,h,hn=>by
  rcases dY.mp h with e|e
  ·subst e
   rcases hX.mp hn with q|q
   ·exact .inr ⟨K,by simp,q⟩
   ·exact .inl q
  ·exact .inr ⟨L,iP _ e,hn⟩
theorem Fh{s:ao az}{n:az}:∀{m:a4} {ls:ao (ao az)} {L:ao az},L∈fF s m ls->n∈L->n∈s\/∃M∈ls,n∈M
 |0,ls,L,h,hn=>Yd h hn
 |m+1,[],L,h,hn=>by
  rcases dY.mp h with e|e
  ·subst e;cases hn
  ·exact Fh e hn
 |m+1,K::ls,L,h,hn=>by
  rcases dY.mp h with e|e
  ·exact .inr ⟨K,by simp,by rw[<-e];exact hn⟩
  ·rcases Fh e hn with q|⟨M,q,r⟩
   ·exact .inl q
   ·exact .inr ⟨M,iP _ q,r⟩
theorem CY(s:ao az):∀(n:a4) (ls:ao (ao az)),(fF s n ls).length=max (n+1) ls.length
 |0,[]=>rfl
 |0,L::ls=>by simp only[fF,eZ,eB];omega
 |n+1,[]=>by rw[fF,eB,CY s n [],xC];omega
 |n+1,L::ls=>by rw[fF,eB,CY s n ls,eB];omega
theorem CW:∀(n:a4) (ts:ao az),(fZ n ts).length=max (n+1) ts.length
 |0,[]=>rfl
 |0,t::ts=>by simp only[fZ,xR,eB];omega
 |n+1,[]=>by rw[fZ,eB,CW n [],xC];omega
 |n+1,t::ts=>by rw[fZ,eB,CW n ts,eB];omega
theorem SE{P:az->Prop}(q:P 0):∀(n:a4) (ts:ao az),(∀t∈ts,P t)->∀t∈fZ n ts,P t
 |0,[],_,t,j=>by simp only[fZ,xR,kL]at j;subst j;exact q
 |0,t::ts,h,u,z=>h u z
 |n+1,[],_,t,j=>by
  rcases dY.mp j with e|e
  ·subst e;exact q
  ·exact SE q n [] (by simp) t e
 |n+1,t::ts,h,u,z=>by
  rcases dY.mp z with e|e
  ·subst e;exact h u (by simp)
  ·exact SE q n ts (λv hv=>h v (iP _ hv)) u e
theorem TX:∀(n:a4) (j:ao az),iL (fZ n j)=iL j
 |0,[]=>rfl
 |0,_::_=>rfl
 |n+1,[]=>by
  show 0+2*iL (fZ n [])=_;rw[TX n []];rfl
 |n+1,h::j=>by rw[fZ,iL,TX n j,iL]
theorem aeX{k:az}(s:ao az):∀{j:ao az} {ls:ao (ao az)},HB k j ls->HB k (xR j) (eZ s ls)
 |[],[],_=>⟨by simp,by simp[dX],trivial⟩
 |_::_,_::_,h=>h
 |[],_::_,h=>h.elim
 |_::_,[],h=>h.elim
theorem Ph{k:az}(s:ao az):∀(n:a4) {j:ao az} {ls:ao (ao az)},HB k j ls->HB k (fZ n j) (fF s n ls)
 |0,j,ls,h=>aeX s h
 |n+1,[],[],h=>⟨by simp,by have:=BK (fF s n []);omega,Ph s n h⟩
 | n+1,h::j,L::ls,q=>⟨q.1,by
   have:=RK s n ls;have p:(0:az)<=2 ^ n*s.length:=Int.mul_nonneg (by have:=TU n;omega) (by omega);have:=q.2.1;omega,Ph s n q.2.2⟩
 |n+1,[],_::_,h=>h.elim
 |n+1,_::_,[],h=>h.elim
def LN:ao (ao az)->Prop
 |[]=>True
 |[L]=>L≠[]
 |_::L::ls=>LN (L::ls)
theorem QG{L:ao az}:∀{ls:ao (ao az)},LN (L::ls)->LN ls
 |[],_=>trivial
 |_::_,h=>h
theorem QH{L:ao az}:∀{ls:ao (ao az)},ls≠[]->LN ls->LN (L::ls)
 |[],h,_=>b4 rfl h
 |_::_,_,h=>h
theorem aeR{s:ao az}(j:s≠[]):∀{ls:ao (ao az)},LN ls->LN (eZ s ls)
 |[],_=>j
 |[L],_=>by show L++s≠[];intro e;exact j (List.append_eq_nil_iff.mp e).2
 |_::_::_,h=>h
theorem aHP(s:ao az)(ls:ao (ao az)):eZ s ls≠[]:=by cases ls <;> simp[eZ]
theorem Yv(s:ao az)(n:a4)(ls:ao (ao az)):fF s n ls≠[]:=by
 intro e;have:=CY s n ls;rw[e]at this;simp at this;omega
theorem Oz{s:ao az}(j:s≠[]):∀(n:a4) {ls:ao (ao az)},LN ls->LN (fF s n ls)
 |0,ls,h=>aeR j h
 |n+1,[],h=>QH (Yv _ _ _) (Oz j n h)
 |n+1,L::ls,h=>QH (Yv _ _ _) (Oz j n (QG h))
theorem RL:∀(pre ls:ao (ao az)),dX (pre++ls)=dX pre+2 ^ pre.length*dX ls
 |[],ls=>by simp[dX]
 |L::pre,ls=>by rw[vE,dX,dX,RL pre ls,eB,sX,vF];omega
theorem ab5(x:az):∀(pre ls:ao (ao az)),cX (pre++ls) x=cX pre x+2 ^ pre.length*cX ls x
 |[],ls=>by simp[cX]
 |L::pre,ls=>by rw[vE,cX,cX,ab5 x pre ls,eB,sX,vF];omega
theorem Xl:∀(pre j:ao az),iL (pre++j)=iL pre+2 ^ pre.length*iL j
 |[],j=>by simp[iL]
 |h::pre,j=>by rw[vE,iL,iL,Xl pre j,eB,sX,vF];omega
theorem aeV{k:az}:∀{pre:ao (ao az)} {z:ao az} {ls:ao (ao az)},HB k z (pre++ls)->∃h1 h2,z=h1++h2/\h1.length=pre.length/\HB k h2 ls/\∀B j,dX ls<=dX j->HB k B j->HB k (h1++B) (pre++j)
 |[],z,ls,h=>⟨[],z,rfl,rfl,h,λ_ _ _ q=>q⟩
 |L::pre,[],ls,h=>h.elim
 |L::pre,h::z,ls,q=>by
  obtain⟨h1,h2,rfl,e,b,a⟩:=aeV (pre:=pre) q.2.2;refine⟨h::h1,h2,rfl,by simp[e],b,λB j U c=>⟨q.1,?_,a B j U c⟩⟩;have d:h*(2*k)<=2*dX (pre++ls):=q.2.1;show h*(2*k)<=2*dX (pre++j);rw[RL]at d ⊢;have:(2:az) ^ pre.length*dX ls<=2 ^ pre.length*dX j:=YO U (by have:=TU pre.length;omega);omega
theorem UM(s:ao az):∀(pre ls:ao (ao az)),fF s pre.length (pre++ls)=pre++eZ s ls
 |[],ls=>rfl
 |L::pre,ls=>by rw[eB,vE,fF,UM s pre ls];rfl
end M
namespace V2
open PySem L2
@[simp] theorem abE(neg:bh)(i j:az)(Z:aG):yH neg (.int i) (.int j) Z=ak (.ok (.bl (if neg then !(i==j)else i==j)),Z):=by
 simp[yH,res,cY,gX]
@[simp] theorem aLX(i j:az)(Z:aG):mO (.int i) (.int j) Z=ak (.ok (.bl (i==j)),Z):=abE au i j Z
@[simp] theorem aLV(i j:az)(Z:aG):wG (.int i) (.int j) Z=ak (.ok (.bl (!(i==j))),Z):=abE ax i j Z
theorem yO{i j:az}(q : -18446744073709551616<i)(h1:i<18446744073709551616):mF i j:=.inl ⟨q,h1⟩
theorem ON{i j:az}(q : -18446744073709551616<j)(h1:j<18446744073709551616):mF i j:=.inr ⟨q,h1⟩
@[simp] theorem aL8{α:Type}(x:α)(l:ao α):iE (x::l) 0=ak x:=aHE _
@[simp] theorem aL7{α:Type}(x y:α)(l:ao α):iE (x::y::l) 1=ak y:=aHF _
@[simp] theorem aL6{α:Type}(x y z:α)(l:ao α):iE (x::y::z::l) 2=ak z:=XN _ 2
@[simp] theorem aL5{α:Type}(x y z u:α)(l:ao α):iE (x::y::z::u::l) 3=ak u:=XN _ 3
end V2
namespace M
open PySem L2 V2
noncomputable def xV(c k:az):az :=
 ((c+1)*(48271+118*k)%2147483629/977*16807+(c+1)*(48271+118*k)%2147483629*(k*k+7)+k)%2147483587
theorem UE(c k:az):0<=xV c k:=QO _ (by decide)
theorem Fg(c k:az):xV c k<2147483587:=QP _ (by decide)
theorem JJ(c k:az)(Z:aG)(b:0<=c)(f:c<8589934592)(a:0<=k)(U:k<1048576):zC [.int c,.int k] Z=aH (.int (xV c k)) Z:=by
 have e:=QO ((c+1)*(48271+118*k)) (show(2147483629:az)≠0 by decide);have d:=QP ((c+1)*(48271+118*k)) (show(0:az)<2147483629 by decide);have h1:mF (c+1) (48271+118*k):=yO (by omega) (by omega);have h2:mF k k:=yO (by omega) (by omega);have L:∀j,mF ((c+1)*(48271+118*k)%2147483629) j:=λj=>yO (by omega) (by omega);have B:∀j,mF j 16807:=λj=>ON (by decide) (by decide);have z:∀j,mF 118 j:=λj=>yO (by decide) (by decide);have q:∀j,qB j 977:=λj=>⟨by decide,by decide⟩
 simp[zC,ac1,h1,h2,L,B,z,q,xV]
def wM(ns:ao az)(k:az):az:=xV (if k<ns.length then ns[k.toNat]?.getD 0%2147483647 else 0) (k+101)
theorem OR(ns:ao az)(k:az):0<=wM ns k:=UE _ _
theorem acH(ns:ao az)(k:az):wM ns k<2147483587:=Fg _ _
theorem QA(ns:ao az)(k:az)(Z:aG)(j:0<=k)(z:k<1000000):xE [.eQ ns,.int k] Z=aH (.int (wM ns k)) Z:=by
 by_cases h:k<(ns.length:az)
 ·obtain⟨n,rfl⟩:=oV j;have hn:n<ns.length:=by omega
  have e:iE (ns.map A.int) (n:az)=(aA (ns[n])):=by rw[uY];simp[hn]
  have q:=QO ns[n] (show(2147483647:az)≠0 by decide);have B:=QP ns[n] (show(0:az)<2147483647 by decide);have m:=λZ=>JJ (ns[n]%2147483647) (n+101) Z q (by omega) (by omega) (by omega);simp[xE,Ll,h,e,m,wM,hn]
 ·have m:=λZ=>JJ 0 (k+101) Z (by decide) (by decide) (by omega) (by omega);simp[xE,Ll,h,m,wM]
end M
namespace V2
open PySem L2
theorem Jv{f:A->A->bh}:∀(xs:ao A),(∀x∈xs,f x x=ax)->yJ f xs xs=ax
 |[],_=>rfl
 |x::xs,h=>by simp only[yJ,h x vU,Bool.true_and];exact Jv xs λy j=>h y (iP _ j)
theorem abR:∀(n:a4) (a:A),cY n a=ax->gX n a a=ax:=by
 intro n
 induction n with
 |zero=>intro a h;cases a <;> first|(simp[gX];done)|(simp[cY]at h)
 |succ n ih =>
  intro a h;cases a with
  |tup ds=>simp only[cY,JQ]at h;simp only[gX];exact Jv ds λx j=>ih x (h x j)
  |lst ds=>simp only[cY,JQ]at h;simp only[gX];exact Jv ds λx j=>ih x (h x j)
  |int i=>simp[gX]
  |bl i=>simp[gX]
  |str i=>simp[gX]
  |bQ=>simp[gX]
  |_=>simp[cY]at h
theorem vQ{Z:aG}{n:a4}{a:A}(h:cY 8 a=ax):res Z n a=ak a:=by
 cases n <;> simp[res,h]
theorem aBP{a b c:A}{Z:aG}(ha:res Z 6 a=ak c)(hb:res Z 6 b=ak c)(j:cY 8 c=ax):mO a b Z=ak (.ok (.bl ax),Z):=by
 simp[mO,yH,ha,hb,j,abR 8 c j]
theorem amV{Z:aG}{n k:a4}{ds:ao A}(h:Z[k]?=ak (.lst ds)):res Z (n+1) (.aE k)=(vT (res Z n) ds).map .lst:=by
 rw[res,ba (by simp[cY])];simp[h]
theorem Ye{Z:aG}{n:a4}:∀(ds:ao A),ds.all (cY 8)=ax->vT (res Z n) ds=ak ds
 |[],_=>rfl
 |d::ds,h=>by
  simp only[Oy,lF]at h;simp[vT,vQ h.1,Ye ds h.2]
abbrev E:=az×az×az
theorem Jt{ok:aG->Prop}{g:A->MS}{c:Ev->Mo bh}{e:Ev->Mo A}(F:A->av A)(P:Ev->Prop)(Z0:aG)(aL:∀ys,ok (Z0++[.lst ys])):∀(xs:ao A) (Y:Ev) (acc:ao A),P Y->acc.length+xs.length<=1000000 ->
  (∀x∈xs,∀Y,P Y->∀ys,∃Y1,P Y1/\g x Y (Z0++[.lst ys])=ak (.nx,Y1,Z0++[.lst ys])/\((∃y,F x=ak y/\c Y1 (Z0++[.lst ys])=ak (.ok ax,Z0++[.lst ys])/\e Y1 (Z0++[.lst ys])=ak (.ok y,Z0++[.lst ys]))\/(F x=aq/\c Y1 (Z0++[.lst ys])=ak (.ok au,Z0++[.lst ys])))) ->
  ∃j,qO ok g c e Z0.length xs Y (Z0++[.lst acc])=ak (j,Z0++[.lst (acc++xs.filterMap F)])
 |[],Y,acc,_,_,_=>⟨Y,by simp[qO,aL]⟩
 |x::xs,Y,acc,b,hl,turn=>by
  simp only[eB]at hl;obtain⟨Y1,z,e1,q⟩:=turn x vU Y b acc;have a:acc.length<bc:=by rw[qH];omega
  rcases q with⟨y,L,U,d⟩|⟨L,U⟩
  ·obtain⟨j,ih⟩:=Jt F P Z0 aL xs Y1 (acc++[y]) z (by simp;omega) λx B=>turn x (iP _ B);exact⟨j,by simp[qO,aL,e1,U,d,a,ih,L]⟩
  ·obtain⟨j,ih⟩:=Jt F P Z0 aL xs Y1 acc z (by omega) λx B=>turn x (iP _ B);exact⟨j,by simp[qO,aL,e1,U,ih,L]⟩
theorem Ad{n:a4}{js:ao a4}{fi:Ev->Mo Src}{g:A->MS}{c:Ev->Mo bh}{e:Ev->Mo A}{Y:Ev}{Z Z0:aG}{S:Src}(F:A->av A)(P:Ev->Prop)(j:fi Y Z=ak (.ok S,Z0))(aL:∀ys,S.ok (Z0++[.lst ys]))(L:P (xW n js Y))(hl:S.ds.length<=1000000)
  (turn:∀x∈S.ds,∀Y,P Y->∀ys,∃Y1,P Y1/\g x Y (Z0++[.lst ys])=ak (.nx,Y1,Z0++[.lst ys])/\((∃y,F x=ak y/\c Y1 (Z0++[.lst ys])=ak (.ok ax,Z0++[.lst ys])/\e Y1 (Z0++[.lst ys])=ak (.ok y,Z0++[.lst ys]))\/(F x=aq/\c Y1 (Z0++[.lst ys])=ak (.ok au,Z0++[.lst ys]))))
  (B:gU Z0.length (S.ds.filterMap F)):nI au n js fi g c e Y Z=ak (.ok (.lst (S.ds.filterMap F)),Z0):=by
 obtain⟨z,q⟩:=Jt F P Z0 aL S.ds (xW n js Y) [] L (by simpa using hl) turn;simp[nI,mb,j,q,Fz,B]
theorem aBN{a b c:A}{Z:aG}(ha:res Z 6 a=ak c)(hb:res Z 6 b=ak c)(j:cY 8 c=ax):wG a b Z=ak (.ok (.bl au),Z):=by
 simp[wG,yH,ha,hb,j,abR 8 c j]
theorem VZ{a:A}{Z:aG}(h:cY 8 a=ax):mO a a Z=ak (.ok (.bl ax),Z):=aBP (vQ h) (vQ h) h
theorem Jg{a:A}{Z:aG}(h:cY 8 a=ax):wG a a Z=ak (.ok (.bl au),Z):=aBN (vQ h) (vQ h) h
theorem Dx{f:Ev->Mo (ao A)}{Y:Ev}{Z Z':aG}{j:az}(h:f Y Z=ak (.ok [.int j],Z'))(q:CA j):FZ f Y Z=ak (.ok (GU 0 j.toNat),Z'):=by
 unfold FZ;rw[cV h];show mb (pV (CA j)) _ Z'=_;rw[UH _ q];rfl
theorem wI{fi:Ev->Mo Src}{g:A->MS}{b:MS}{Y:Ev}{Z Z':aG}{S:Src}(h:fi Y Z=ak (.ok S,Z')):nJ fi g b Y Z=fO S.ok g b S.ds Y Z':=by
 unfold nJ;rw[eR h]
theorem EF{n:a4}:∀{as:ao A},(∀a∈as,Cl n a)->gU n as
 |[],_=>by simp only[gU]
 |a::as,h=>by simp only[gU];exact⟨h a vU,EF λb hb=>h b (iP _ hb)⟩
end V2
namespace M
open PySem L2 V2
abbrev Rn:=az×az
noncomputable def bY(r:Rn):A:=.tup [.int r.1,.int r.2]
def aM(rs:ao Rn):ao A:=rs.map bY
theorem clT(n:a4)(r:Rn):Cl n (bY r):=by simp[bY,Cl,gU]
theorem OO(n:a4)(rs:ao Rn):gU n (aM rs):=EF λa h=>by
 obtain⟨r,_,rfl⟩:=oU.mp h;exact clT n r
noncomputable def GF(rs:ao Rn)(n:az):az:=(rs.map λr=>if r.1<n then r.2 else 0).sum
noncomputable def KY(rs:ao Rn)(n:az):az:=(rs.map λr=>if r.1<=n then r.2 else 0).sum
noncomputable def fS(rs:ao Rn)(n:az):az:=(rs.map λr=>if r.1=n then r.2 else 0).sum
noncomputable def whole(rs:ao Rn):az:=(rs.map (·.2)).sum
noncomputable def iD(ks:ao az)(f:az->az):ao (Key×A):=ks.map λk=>(.inl k,.int (f k))
theorem Sx(ks:ao az)(f:az->az)(n:az):lS (iD ks f) (.inl n)=if n∈ks then(aA (f n))else aq:=by
 induction ks with
 |nil=>rfl
 |cons k ks ih =>
  simp only[lS,iD,dJ,EX]at ih ⊢
  by_cases e:k=n
  ·subst e;simp
  ·have:(Sum.inl k:Key)≠Sum.inl n:=λz=>e (Sum.inl.inj z);simp only[this,IQ];rw[ih];have j:¬n=k:=λz=>e z.symm;simp[j]
theorem aHI(ks:ao az)(f:az->az)(n:az):((iD ks f).any λj=>decide (j.1=(Sum.inl n:Key)))=decide (n∈ks):=by
 induction ks with
 |nil=>rfl
 |cons k ks ih =>
  simp only[iD,dJ,QF]at ih ⊢;rw[ih]
  by_cases e:k=n
  ·subst e;simp
  ·have h1:(Sum.inl k:Key)≠Sum.inl n:=λz=>e (Sum.inl.inj z);have q:¬n=k:=λz=>e z.symm;simp[h1,q]
noncomputable def qQ(ks:ao az)(n:az):ao az:=if n∈ks then ks else ks++[n]
theorem an4(ks:ao az)(f g:az->az)(n:az)(q:∀k∈ks,k≠n->g k=f k):pJ (iD ks f) (.inl n) (.int (g n))=iD (qQ ks n) g:=by
 unfold pJ qQ;rw[aHI]
 by_cases h:n∈ks
 ·simp only[h,EA,fI];simp only[iD,tN];refine QD λk j=>?_
  by_cases e:k=n
  ·subst e;simp
  ·have h1:(Sum.inl k:Key)≠Sum.inl n:=λz=>e (Sum.inl.inj z);simp[h1,q k j e]
 ·simp only[h,IQ,gC];simp only[iD,tO,dJ,EW];rw[QD (g:=λk=>((Sum.inl k:Key),A.int (g k))) λk j=>by rw[q k j (λz=>h (z ▸ j))]];simp
def mZ(ks:ao az)(rs:ao Rn):ao az:=rs.foldl (λks r=>qQ ks r.1) ks
theorem aHN{ks:ao az}{n:az}(h:ks.Nodup):(qQ ks n).Nodup:=by
 unfold qQ;split
 ·exact h
 ·rename_i hn;rw[YK];refine⟨h,by simp,λa ha b hb e=>?_⟩;simp only[kL]at hb;exact hn (hb ▸ e ▸ ha)
theorem Yc{ks:ao az}{n k:az}:k∈qQ ks n<->k∈ks\/k=n:=by
 unfold qQ;split
 ·rename_i h;exact⟨.inl,λz=>z.elim id λe=>e ▸ h⟩
 ·simp
theorem Ys(ks:ao az)(n:az):(qQ ks n).length<=ks.length+1:=by unfold qQ;split <;> simp
theorem Gj:∀(rs:ao Rn) {ks:ao az},ks.Nodup->(mZ ks rs).Nodup
 |[],_,h=>h
 |r::rs,_,h=>Gj rs (aHN h)
theorem Fi:∀(rs:ao Rn) {ks:ao az} {k:az},k∈mZ ks rs<->k∈ks\/∃r∈rs,r.1=k
 |[],ks,k=>by simp[mZ]
 |r::rs,ks,k=>by
  show k∈mZ (qQ ks r.1) rs<->_;rw[Fi rs,Yc];simp only[dY,exists_eq_or_imp];constructor
  ·rintro((h|h)|h)
   ·exact .inl h
   ·exact .inr (.inl h.symm)
   ·exact .inr (.inr h)
  ·rintro(h|h|h)
   ·exact .inl (.inl h)
   ·exact .inl (.inr h.symm)
   ·exact .inr h
theorem Yq:∀(rs:ao Rn) (ks:ao az),(mZ ks rs).length<=ks.length+rs.length
 |[],ks=>by simp[mZ]
 |r::rs,ks=>by
  have h1:=Yq rs (qQ ks r.1);have h2:=Ys ks r.1;show(mZ (qQ ks r.1) rs).length<=_;simp only[eB];omega
noncomputable def aS:ao Rn->az
 |[]=>0
 |r::rs=>r.2+aS rs
noncomputable def bW:ao Rn->az->az
 |[],_=>0
 |r::rs,x=>(if r.1<=x then r.2 else 0)+bW rs x
theorem uD:∀(a b:ao Rn),aS (a++b)=aS a+aS b
 |[],b=>by simp[aS]
 |r::a,b=>by rw[vE,aS,aS,uD a b];omega
theorem KZ(x:az):∀(a b:ao Rn),bW (a++b) x=bW a x+bW b x
 |[],b=>by simp[bW]
 |r::a,b=>by rw[vE,bW,bW,KZ x a b];omega
theorem Mu{α:Type}:∀(b:bh) (k:a4) (xs:ao α),xs.length=2*k->(alt b xs).length=k
 |b,0,xs,h=>by
  obtain rfl:xs=[]:=Oq.mp (by omega);simp[alt]
 |b,k+1,[],h=>by simp at h
 |b,k+1,[x],h=>by simp at h;omega
 |true,k+1,x::y::xs,h=>by
  simp only[alt,eB];rw[Mu ax k xs (by simp at h;omega)]
 |false,k+1,x::y::xs,h=>by
  simp only[alt,eB];rw[Mu au k xs (by simp at h;omega)]
structure HV(k:az)(ls:ao (ao az))(ts:ao az)(ov un:az)(row:ao Rn):Prop where
 len:ts.length=ls.length
 GG:∀t∈ts,t=0\/t=1
 wt:dX ls=aS row
 cnt:∀x,bW row x-un<=cX ls x/\cX ls x<=bW row x+ov
 mem:∀L∈ls,∀n∈L,n∈row.map (·.1)
 DL:∃hs,HB k hs ls/\iL hs=ov+un
 last:LN ls
 CL:0<=ov
 BW:0<=un
theorem hv0(k:az):HV k [] [] 0 0 []:=⟨rfl,by simp,rfl,by simp[bW,cX],by simp,⟨[],trivial,rfl⟩,trivial,by omega,by omega⟩
section
variable{k ov un:az}{ls:ao (ao az)}{ts:ao az}{row:ao Rn}
theorem HV.more(h:HV k ls ts ov un row)(n:az):HV k ls ts ov un (row++[(n,0)]) :=
 ⟨h.len,h.GG,by rw[h.wt,uD];simp[aS],λx=>by rw[KZ];simp only[bW];have:=h.cnt x;split <;> omega,λL j m hm=>by
  rw[tO];exact mD _ (h.mem L j m hm),h.DL,h.last,h.CL,h.BW⟩
theorem HV.lay{n p:az}(h:HV k ls ts ov un (row++[(n,p)]))(l:a4):HV k (fF [n] l ls) (fZ l ts) ov un (row++[(n,p+2 ^ l)]):=by
 obtain⟨B,h1,h2⟩:=h.DL;refine⟨by rw[CY,CW,h.len],SE (.inl rfl) l ts h.GG,?_,λx=>?_,λL U m hm=>?_,⟨fZ l B,Ph [n] l h1,by rw[TX,h2]⟩,Oz (by simp) l h.last,h.CL,h.BW⟩
 ·rw[RK,h.wt,uD,uD];simp[aS];omega
 ·have q:=h.cnt x;rw[KZ]at q ⊢;rw[Kh];simp only[bW]at q ⊢
  by_cases c:n<=x
  ·rw[a7 c]at q ⊢;simp[eA,c];omega
  ·rw[ba c]at q ⊢;simp[eA,c];omega
 ·have:∀z,z∈(row++[(n,p)]).map (·.1)->z∈(row++[(n,p+2 ^ l)]).map (·.1):=λz j=>by simpa using j
  rcases Fh U hm with q|⟨M,q,r⟩
  ·simp only[kL]at q;subst q;simp
  ·exact this m (h.mem M q m r)
def gW(b:bh)(L:ao az):ao az:=alt b ((sortI L).take (2*(L.length/2)))
def fN(L:ao az):ao az:=(sortI L).drop (2*(L.length/2))
theorem Gm(b:bh)(L:ao az):(gW b L).length=L.length/2:=Mu b _ _ (by rw[xA,BZ];omega)
theorem TC(L:ao az):(fN L).length=L.length-2*(L.length/2):=by unfold fN;rw[List.length_drop,BZ]
theorem azE(L:ao az)(x:az):(eA L x<=eA (fN L) x+2*eA (gW ax L) x/\eA (fN L) x+2*eA (gW ax L) x<=eA L x+1)/\(eA L x-1<=eA (fN L) x+2*eA (gW au L) x/\eA (fN L) x+2*eA (gW au L) x<=eA L x):=by
 have e:eA L x=eA ((sortI L).take (2*(L.length/2))) x+eA (fN L) x:=by
  rw[<-Ki,fN,sI];exact(aE1 (sortI_perm L) x).symm
 have q:=ac8 ((sortI L).take (2*(L.length/2))) x ((Bn L).sublist (QB _ _));rw[e];unfold eA gW at *;omega
theorem auI{b:bh}{L:ao az}{n:az}(h:n∈gW b L):n∈L:=(sortI_perm L).mem_iff.mp (Oo ((PC _ _).subset h))
theorem amT{L:ao az}{n:az}(h:n∈fN L):n∈L:=(sortI_perm L).mem_iff.mp (List.mem_of_mem_drop h)
theorem HV.azD{pre post:ao (ao az)}{L:ao az}(h:HV k (pre++L::post) ts ov un row)(v:1<=k)(y:2*k<=L.length)(b:bh){U:ao az}(hl:U.length=(pre++fN L::eZ (gW b L) post).length)(l:∀t∈U,t=0\/t=1) :
  HV k (pre++fN L::eZ (gW b L) post) U (ov+if b then 2 ^ pre.length else 0) (un+if b then 0 else 2 ^ pre.length) row:=by
 obtain⟨u,h1,h2⟩:=h.DL;have pp:=TU pre.length;have B:=Gm b L;have c:=TC L;have a:dX (fN L::eZ (gW b L) post)=dX (L::post):=by
  simp only[dX];rw[ZO,B,c];omega
 refine⟨hl,l,?_,λx=>?_,λM m n hn=>?_,?_,?_,?_,?_⟩
 ·rw[RL,a,<-RL];exact h.wt
 ·have q:=h.cnt x;have w:=azE L x;rw[ab5]at q ⊢;have p:cX (fN L::eZ (gW b L) post) x=eA (fN L) x+2*eA (gW b L) x+2*cX post x:=by
   simp only[cX];rw[ab7];omega
  have ed:cX (L::post) x=eA L x+2*cX post x:=rfl;rw[ed]at q;rw[p];cases b with
  |true =>
   simp only[fI];have a1:(2:az) ^ pre.length*(eA L x+2*cX post x)<=2 ^ pre.length*(eA (fN L) x+2*eA (gW ax L) x+2*cX post x):=YO (by omega) (by omega);have a2:(2:az) ^ pre.length*(eA (fN L) x+2*eA (gW ax L) x+2*cX post x)<=2 ^ pre.length*(eA L x+2*cX post x+1):=YO (by omega) (by omega);rw[QM _ _ 1,Int.mul_one]at a2;omega
  |false =>
   simp only[kD,gC];have a1:(2:az) ^ pre.length*(eA (fN L) x+2*eA (gW au L) x+2*cX post x)<=2 ^ pre.length*(eA L x+2*cX post x):=YO (by omega) (by omega);have a2:(2:az) ^ pre.length*(eA L x+2*cX post x-1)<=2 ^ pre.length*(eA (fN L) x+2*eA (gW au L) x+2*cX post x):=YO (by omega) (by omega);rw[Int.mul_sub,Int.mul_one]at a2;omega
 ·rcases hX.mp m with q|q
  ·exact h.mem M (mD _ q) n hn
  ·rcases dY.mp q with q|q
   ·subst q;exact h.mem L (by simp) n (amT hn)
   ·rcases Yd q hn with r|⟨K,r,s⟩
    ·exact h.mem L (by simp) n (auI r)
    ·exact h.mem K (by simp[r]) n s
 ·obtain⟨g1,g2,rfl,i,z,d⟩:=aeV h1
  match g2,z with
  |g::j,z =>
   refine⟨g1++(g+1)::xR j,d _ _ (by rw[a];exact tP _) ⟨by have:=z.1;omega,?_,aeX _ z.2.2⟩,?_⟩
   ·rw[ZO,B];have:=z.2.1;rw[Int.add_mul];omega
   ·have o:iL (xR j)=iL j:=TX 0 j;rw[Xl]at h2 ⊢;simp only[iL]at h2 ⊢;rw[o,i]at *;have:(2:az) ^ pre.length*(g+1+2*iL j)=2 ^ pre.length*(g+2*iL j)+2 ^ pre.length:=by
     rw[show g+1+2*iL j=g+2*iL j+1 by omega,QM,Int.mul_one]
    rw[this];cases b <;> simp <;> omega
 ·have f:gW b L≠[]:=λe=>by rw[e]at B;simp at B;omega
  have:∀(pre:ao (ao az)),LN (pre++L::post)->LN (pre++fN L::eZ (gW b L) post):=by
   intro pre
   induction pre with
   |nil=>intro q;exact QH (aHP _ _) (aeR f (QG q))
   |cons K pre ih=>intro q;exact QH (by simp) (ih (QG q))
  exact this pre h.last
 ·have:=h.CL;cases b <;> simp <;> omega
 ·have:=h.BW;cases b <;> simp <;> omega
end
noncomputable def kS(n:a4):a4:=if h:n=0 then 0 else kS (n/2)+1
termination_by n
decreasing_by omega
theorem EH:kS 0=0:=by rw[kS];simp
theorem yR{n:a4}(h:0<n):kS n=kS (n/2)+1:=by rw[kS,dif_neg (by omega)]
theorem aGO:∀{m n:a4},m<=n->kS m<=kS n:=by
 intro m
 induction m using Nat.strongRecOn with
 |ind m ih =>
  intro n h
  by_cases hm:m=0
  ·subst hm;rw[EH];exact AW _
  ·rw[yR (n:=m) (by omega),yR (n:=n) (by omega)];have:=ih (m/2) (by omega) (n:=n/2) (by omega);omega
theorem aGN(n:a4):kS (2 ^ n)=n+1:=by
 induction n with
 |zero=>rw[yR (by decide)];simp[EH]
 |succ n ih =>
  have:0<2 ^ n:=Nat.two_pow_pos n;rw[yR (by rw[YC];omega),YC,Nat.mul_div_cancel _ (by decide),ih]
theorem Xk{k:a4}(a:1<=k):∀{ls:ao (ao az)} {q:ao az} {T:a4},HB k q ls->dX ls<=T->iL q<=((kS (T/(2*k))*(T/(2*k)):a4):az)
 |[],[],T,_,_=>by simp only[iL];omega
 |L::ls,h::q,T,⟨b,h1,h2⟩,z=>by
  have c:=BK ls;have j:dX ls<=((T/2:a4):az):=by simp only[dX]at z;omega
  have ih:=Xk a h2 j;have ed:T/2/(2*k)=T/(2*k)/2:=by rw[Nat.div_div_eq_div_mul,Nat.div_div_eq_div_mul,Nat.mul_comm]
  rw[ed]at ih;have U:h<=((T/(2*k):a4):az):=by
   obtain⟨n,rfl⟩:=oV b;have:n*(2*k)<=T:=by
    have d:((n*(2*k):a4):az)<=T:=by
     simp only[dX]at z;have:((n*(2*k):a4):az)=(n:az)*(2*(k:az)):=by push_cast;rfl
     rw[this];omega
    omega
   have:=(Nat.le_div_iff_mul_le (show 0<2*k by omega)).mpr this;omega
  generalize T/(2*k)=p at ih U;simp only[iL]
  by_cases B:p=0
  ·subst B;simp[EH]at ih ⊢;omega
  ·rw[yR (n:=p) (by omega)];have e1:2*(kS (p/2)*(p/2))<=kS (p/2)*p:=by
    rw[<-Nat.mul_assoc,Nat.mul_comm 2,Nat.mul_assoc];exact Nat.mul_le_mul_left _ (by omega)
   rw[Nat.add_mul,Nat.one_mul];omega
 |[],_::_,_,h,_=>h.elim
 |_::_,[],_,h,_=>h.elim
theorem UL:∀{ls:ao (ao az)} {T:a4},LN ls->dX ls<=T->ls.length<=kS T
 |[],_,_,_=>AW _
 |[L],T,h,j=>by
  have:0<L.length:=List.length_pos_iff.mpr h;simp only[dX]at j;rw[yR (by omega)];simp
 |L::M::ls,T,h,j=>by
  have q:=UL (ls:=M::ls) (T:=T/2) h (by simp only[dX]at j ⊢;omega);have pos:0<T:=by
   have:0<kS (T/2):=by simp only[eB]at q;omega
   by_cases t:T=0
   ·subst t;simp[EH]at this
   ·omega
  rw[yR pos,eB];omega
def desc(rs:ao Rn):ao az:=(sortI (rs.map (·.2))).reverse
def taken(rs:ao Rn)(keep:a4):az:=if keep<rs.length then(desc rs).getD keep 0 else 0
@[simp] theorem aL4{α:Type}(x y z u v:α)(l:ao α):iE (x::y::z::u::v::l) 4=ak v:=XN _ 4
noncomputable def tJ:ao Rn->az->az
 |[],_=>0
 |r::rs,n=>if r.1=n then r.2 else tJ rs n
noncomputable def gJ:ao Rn->az->az->ao Rn
 |[],n,t=>[(n,t)]
 |r::rs,n,t=>if r.1=n then(r.1,r.2+t)::rs else r::gJ rs n t
theorem Yx:∀(rs:ao Rn) (n t m:az),m∈(gJ rs n t).map (·.1)->m∈rs.map (·.1)\/m=n
 |[],n,t,m,h=>by simp only[gJ,dJ,EW,kL]at h;exact .inr h
 |r::rs,n,t,m,h=>by
  simp only[gJ]at h;split at h
  ·exact .inl (by simpa using h)
  ·simp only[dJ,dY]at h ⊢
   rcases h with h|h
   ·exact .inl (.inl h)
   ·rcases Yx rs n t m h with q|q
    ·exact .inl (.inr q)
    ·exact .inr q
theorem Ex:∀(rs:ao Rn) (n t:az),(rs.map (·.1)).Nodup->((gJ rs n t).map (·.1)).Nodup
 |[],n,t,_=>by simp[gJ]
 |r::rs,n,t,nd=>by
  simp only[gJ];split
  ·simpa using nd
  ·rename_i e;rw[dJ,wZ]at nd ⊢;refine⟨λh=>?_,Ex rs n t nd.2⟩
   rcases Yx rs n t r.1 h with q|q
   ·exact nd.1 q
   ·exact e q
theorem Fx:∀(rs:ao Rn) (n t:az),(gJ rs n t).length<=rs.length+1
 |[],n,t=>by simp[gJ]
 |r::rs,n,t=>by
  simp only[gJ];split
  ·simp
  ·have:=Fx rs n t;simp only[eB];omega
open PyProof.Rows (step_dedup)
noncomputable def encD(rs:ao Rn):ao (Key×A):=rs.map λr=>(.inl r.1,.int r.2)
theorem ag1{q:Key×A}{kvs:ao (Key×A)}{k:Key}(h:q.1=k):lS (q::kvs) k=ak q.2:=by simp[lS,h]
theorem ag0{q:Key×A}{kvs:ao (Key×A)}{k:Key}(h:q.1≠k):lS (q::kvs) k=lS kvs k:=by simp[lS,h]
theorem Sz:∀(rs:ao Rn) (n:az),(lS (encD rs) (.inl n)).getD (.int 0)=.int (tJ rs n)
 |[],n=>rfl
 |r::rs,n=>by
  have ih:=Sz rs n;show(lS ((.inl r.1,.int r.2)::encD rs) (.inl n)).getD (.int 0)=.int (tJ (r::rs) n)
  by_cases h:r.1=n
  ·rw[ag1 (by rw[h])];simp[tJ,h]
  ·rw[ag0 (by intro z;exact h (by simpa using z)),ih];simp[tJ,h]
theorem an6{q:Key×A}{kvs:ao (Key×A)}{k:Key}{a:A}(h:q.1≠k):pJ (q::kvs) k a=q::pJ kvs k a:=by
 unfold pJ;have e:((q::kvs).any λj=>decide (j.1=k))=kvs.any λj=>decide (j.1=k):=by simp[h]
 rw[e];split
 ·simp[h]
 ·simp
theorem Wq:∀(rs:ao Rn) (n t:az),(rs.map (·.1)).Nodup->pJ (encD rs) (.inl n) (.int (tJ rs n+t))=encD (gJ rs n t)
 |[],n,t,_=>by simp[encD,pJ,gJ,tJ]
 |r::rs,n,t,nd=>by
  rw[dJ,wZ]at nd;have ih:=Wq rs n t nd.2;show pJ ((.inl r.1,.int r.2)::encD rs) (.inl n) _=_
  by_cases h:r.1=n
  ·subst h;have em:∀(l:ao Rn),r.1∉l.map (·.1)->(encD l).map (λj=>if j.1=(.inl r.1:Key)then(j.1,A.int (r.2+t))else j)=encD l:=by
    intro l
    induction l with
    |nil=>intro _;rfl
    |cons s l L =>
     intro hn;simp only[dJ,dY,not_or]at hn;have B:¬s.1=r.1:=λz=>hn.1 z.symm;have:=L hn.2;simp only[encD,dJ]at this ⊢;rw[this];simp[B]
   have q:=em rs nd.1;simp only[pJ,tJ,a7,gJ];simp[encD]at q ⊢;exact q
  ·rw[an6 (by intro z;exact h (by simpa using z))];simp only[tJ,gJ,ba h,ih];rfl
theorem av7(rs:ao Rn):(encD rs).map DA=aM rs:=by simp[encD,DA,kA,aM,bY]
theorem iK{Z Z':aG}{a:A}(h:Z'.length=Z.length):trim Z (ak (.ok a,Z'))=aH a Z':=by
 simp only[trim];split
 ·rename_i j;rw[<-h,List.take_length]at j;rw[j.1]
 ·rfl
theorem ahO{Z:aG}{c:Cell}:trim Z (ak (.ok (.aE Z.length),Z++[c]))=aH (.aE Z.length) (Z++[c]):=by
 simp[trim,Cl]
noncomputable def cA(ls:ao (ao az)):ao A:=ls.map λL=>A.lst (L.map A.int)
abbrev iV(keep many tk:az)(ls:ao (ao az))(ts:ao az)(ov un:az):ao (a9×Fd):=[("keep",.val (.int keep)),("many",.val (.int many)),("taken",.val (.int tk)),("levels",.lst (cA ls)),("turns",.lst (ts.map A.int)),("over",.val (.int ov)),("under",.val (.int un))]
abbrev aX(keep many tk:az)(ls:ao (ao az))(ts:ao az)(ov un:az):Cell:=.ins "Halves" (iV keep many tk ls ts ov un)
theorem vN{Z:aG}{p:a4}{c:Cell}(h:Z[p]?=ak c):Z.set p c=Z:=by
 apply EY;intro j
 by_cases q:p=j
 ·subst q;rw[fP (cR.mp h).1,h]
 ·rw[eP q]
theorem atP{i:a4}{f:a9}{g:MS}{Y q:Ev}{Z:aG}{s:a4}{cls:a9}{fs:ao (a9×Fd)}{fd fd':Fd}{c c':Cell}(h1:Y[i]?=ak (aF s))(h2:Z[s]?=ak (.ins cls fs))(l:fs.lookup f=ak fd)(h:fd.cell=ak c)
  (e:g Y (fE Z s cls f fs c)=eS q (fE Z s cls f fs c')) (b:fd'.cell=ak c') (a:fd'=fd\/oW Z.length fd') (U:∀(j:a4) (d:A),q[j]?=ak (ak d)->Y[j]?=ak (ak d)\/Cl Z.length d):vO i f g Y Z=eS q (Z.set s (.ins cls (putD f fd' fs))):=by
 have B:s<Z.length:=(cR.mp h2).1;refine Vp (r:=(.nx,q,Z.set s (.ins cls (putD f fd' fs)))) ⟨s,cls,fs,fd,c,Z.set s (.ins cls (putD f (.val (.aE Z.length)) fs)),fd',c',h1,h2,l,h,e,by simp,fP B,b,λk x L z => .inl (by rw[eP (cQ L)]at z;exact z),a,U,rfl,by rw[lO]⟩
theorem pT{Z Z':aG}{f:Ev->Mo A}{Y:Ev}{a:A}(h:f Y Z=aH a Z'):kN f Y Z=eS Y Z':=by
 unfold kN;rw[eR h]
theorem lU{Z:aG}{p:a4}{c:Cell}(j:p<Z.length):(Z.set p c)[p]?=ak c:=fP j
section
variable{Z Z':aG}{p:a4}{keep many tk ov un:az}{ls:ao (ao az)}{ts:ao az}
theorem zT(h:Z[p]?=ak (aX keep many tk ls ts ov un)){Y:Ev}(j:(Y[0]?).join=(aF p)):mH ["Halves"] 0 "levels" Y Z=ak (p,("Halves" : a9),iV keep many tk ls ts ov un,Fd.lst (cA ls)):=by
 unfold mH;rw[j];simp only[h];rfl
theorem El(h:Z[p]?=ak (aX keep many tk ls ts ov un)){Y:Ev}(j:(Y[0]?).join=(aF p)):mH ["Halves"] 0 "turns" Y Z=ak (p,("Halves" : a9),iV keep many tk ls ts ov un,Fd.lst (ts.map A.int)):=by
 unfold mH;rw[j];simp only[h];rfl
theorem Wm(j:ao (ao az)):putD "levels" (.lst (cA j)) (iV keep many tk ls ts ov un)=iV keep many tk j ts ov un:=rfl
theorem Wi(j:ao az):putD "turns" (.lst (j.map A.int)) (iV keep many tk ls ts ov un)=iV keep many tk ls j ov un:=rfl
theorem Wk(x:az):putD "over" (.val (.int x)) (iV keep many tk ls ts ov un)=iV keep many tk ls ts x un:=rfl
theorem Wh(x:az):putD "under" (.val (.int x)) (iV keep many tk ls ts ov un)=iV keep many tk ls ts ov x:=rfl
theorem Wl(x:az):putD "many" (.val (.int x)) (iV keep many tk ls ts ov un)=iV keep x tk ls ts ov un:=rfl
theorem Wj(x:az):putD "taken" (.val (.int x)) (iV keep many tk ls ts ov un)=iV keep many x ls ts ov un:=rfl
theorem acC(n:a4)(ls:ao (ao az)):oW n (.lst (cA ls)):=by
 show gU n (cA ls);refine EF λa ha=>?_;obtain⟨L,_,rfl⟩:=oU.mp ha;simp only[Cl];exact EF λa ha=>by obtain⟨x,_,rfl⟩:=oU.mp ha;simp only[Cl]
theorem iW{f:a9}{a:A}{Y:Ev}{i:a4}(h:Z[p]?=ak (aX keep many tk ls ts ov un))(j:(Y[i]?).join=(aF p))(hl:(iV keep many tk ls ts ov un).lookup f=ak (.val a)):dO ["Halves"] f (dN i) Y Z=aH a Z:=by
 simp[j,h,hl]
theorem jX{m:a9}{F:ao A->Mo A}{n i:a4}{das as:ao A}{fs:Ev->Mo (ao A)}{Y:Ev}{a:A}(h:Z[p]?=ak (aX keep many tk ls ts ov un))(hl:(iV keep many tk ls ts ov un).lookup m=aq)(z:(Y[i]?).join=(aF p))(ha:fs Y Z=aH as Z)(hn:as.length+1+das.length=n)
  (q:F (.aE p::(as++das)) Z=aH a Z'):cU m [("Halves",bZ n das F)] (dN i) fs Y Z=aH a Z':=by
 unfold cU;rw[cV (x:=A.aE p) (Z':=Z) (by simp[z])];have j:List.lookup ("Halves" : a9) [(("Halves" : a9),bZ n das F)]=ak (bZ n das F):=by simp[List.lookup]
 simp only[NW,h,j,hl];rw[cV ha];simp only[bZ];rw[a7 (by simp only[eB];omega)];exact q
theorem rO{Y:Ev}{fs:ao (a9×Fd)}{f:a9}{fv:Ev->Mo A}{b:A}(j:(Y[0]?).join=(aF p))(h:Z[p]?=ak (.ins "Halves" fs))(hl:fs.length<1000)(hv:fv Y Z=aH b Z):mV ["Halves"] f aP fv Y Z=eS Y (Z.set p (.ins "Halves" (putD f (.val b) fs))):=by
 unfold mV;rw[eR hv];rw[eR (x:=A.aE p) (Z':=Z) (by simp[j])];simp only[h];rw[a7 ⟨by simp,hl⟩]
theorem Bf{f cls:a9}{fs:ao (a9×Fd)}{ds:ao A}{fi:Ev->Mo A}{n:a4}{a:A}{Y:Ev}(o:mH ["Halves"] 0 f Y Z=ak (p,cls,fs,.lst ds))(hi:fi Y Z=aH (.int n) Z)(hn:n<ds.length):AL ["Halves"] 0 f fi a Y Z=eS Y (Z.set p (.ins cls (putD f (.lst (ds.set n a)) fs))):=by
 have j:oJ ds.length (n:az)=ak n:=by simp[oJ,hn]
 unfold AL;rw[o];simp only[hi,j]
theorem Gq{f cls:a9}{fs:ao (a9×Fd)}{ds:ao A}{fi:Ev->Mo A}{n:a4}{a:A}{Y:Ev}(o:mH ["Halves"] 0 f Y Z=ak (p,cls,fs,.lst ds))(hi:fi Y Z=aH (.int n) Z)(hn:ds[n]?=ak a):pD ["Halves"] 0 f fi Y Z=aH a Z:=by
 have j:iE ds (n:az)=ak a:=by rw[uY];exact hn
 unfold pD;rw[o];simp only[hi,j]
theorem FY{Y:Ev}{i:a4}{a:A}(h:(Y[i]?).join=ak a):dN i Y Z=aH a Z:=by simp[h]
noncomputable def qI(l:a4)(ls:ao (ao az)):ao (ao az):=ls++List.replicate (l+1-ls.length) []
noncomputable def CK(l:a4)(ts:ao az):ao az:=ts++List.replicate (l+1-ts.length) 0
theorem Gf(s:ao az):∀(l:a4) (ls:ao (ao az)),fF s l ls=(qI l ls).set l (((qI l ls)[l]?.getD [])++s)
 |0,[]=>by simp[fF,eZ,qI]
 |0,L::ls=>by simp[fF,eZ,qI]
 |l+1,[]=>by
  rw[fF,Gf s l []];simp[qI,aeK]
 |l+1,L::ls=>by
  rw[fF,Gf s l ls];simp[qI]
theorem Gd:∀(l:a4) (ts:ao az),fZ l ts=CK l ts
 |0,[]=>by simp[fZ,xR,CK]
 |0,t::ts=>by simp[fZ,xR,CK]
 |l+1,[]=>by rw[fZ,Gd l []];simp[CK,aeK]
 |l+1,t::ts=>by rw[fZ,Gd l ts];simp[CK]
theorem Yu(s:A)(l:a4):∀(m n:a4) (Z:aG) (ls:ao (ao az)) (ts:ao az),Z[p]?=ak (aX keep many tk ls ts ov un)->m=l+1-ls.length->m<n->ls.length+m<=3000->ts.length=ls.length ->
  lK IX XI n [aF p,ak s,aA l] Z=eS [aF p,ak s,aA l] (Z.set p (aX keep many tk (ls++List.replicate m []) (ts++List.replicate m 0) ov un))
 |0,n,Z,ls,ts,h,hm,hn,hl,B=>by
  obtain⟨n,rfl⟩:∃j,n=j+1:=⟨n-1,by omega⟩;have o:=zT (Y:=[aF p,ak s,aA l]) h rfl;have z:IX [aF p,ak s,aA l] Z=aH au Z:=by
   have r:(l:az)<(ls.length:az):=by omega
   simp[IX,o,cA];omega
  rw[WG z];simp only[List.replicate_zero,pY];rw[vN h]
 |m+1,n,Z,ls,ts,h,hm,hn,hl,B=>by
  obtain⟨n,rfl⟩:∃j,n=j+1:=⟨n-1,by omega⟩;have L:p<Z.length:=(cR.mp h).1;have o:=zT (Y:=[aF p,ak s,aA l]) h rfl;have z:IX [aF p,ak s,aA l] Z=aH ax Z:=by
   simp[IX,o,cA];omega
  have e:(vO 0 "levels" (kN (zM IJ (dO ["Halves"] "levels" aP) (aB (fL au a0) a0)))) [aF p,ak s,aA l] Z=eS [aF p,ak s,aA l] (Z.set p (aX keep many tk (ls++[[]]) ts ov un)):=by
   have q:(cA ls).length<bc:=by rw[qH];simp[cA];omega
   have g:=CV (c:=.lst (cA ls)) o;have la:=zW (c:=.lst (cA ls)) o;refine atP (fd:=.lst (cA ls)) (fd':=.lst (cA (ls++[[]]))) (c:=.lst (cA ls)) (c':=.lst (cA (ls++[[]]))) rfl h rfl rfl ?_ rfl (.inr (acC _ _)) (λj d i => .inl i);refine pT (a:=.bQ) ?_;have hi:HP (fE Z p "Halves" "levels" (iV keep many tk ls ts ov un) (.lst (cA ls))) (.aE Z.length):=Gs (tE la);have lI:wL (fE Z p "Halves" "levels" (iV keep many tk ls ts ov un) (.lst (cA ls))) (.aE Z.length)=ak (Z.length,cA ls):=Kl la;unfold zM;rw[cV g];have k:(fE Z p "Halves" "levels" (iV keep many tk ls ts ov un) (.lst (cA ls))).set Z.length (.lst (cA ls++[.lst []]))=fE Z p "Halves" "levels" (iV keep many tk ls ts ov un) (.lst (cA (ls++[[]]))):=by
    unfold fE;rw[List.set_append_right _ _ (by simp)];simp[cA]
   simp[hi,lI,q,k]
  have h1:(Z.set p (aX keep many tk (ls++[[]]) ts ov un))[p]?=ak (aX keep many tk (ls++[[]]) ts ov un):=lU L;have b:(kN (KU ["Halves"] 0 "turns" cK)) [aF p,ak s,aA l] (Z.set p (aX keep many tk (ls++[[]]) ts ov un))=eS [aF p,ak s,aA l] (Z.set p (aX keep many tk (ls++[[]]) (ts++[0]) ov un)):=by
   have f:=El (Y:=[aF p,ak s,aA l]) h1 rfl;have q:ts.length<bc:=by rw[qH];omega
   refine pT (a:=.bQ) ?_;unfold KU;rw[f];simp only[cI,V2.ret,jQ];rw[a7 q,lO,show ts.map A.int++[A.int 0]=(ts++[0]).map A.int by simp,Wi]
  have U:XI [aF p,ak s,aA l] Z=eS [aF p,ak s,aA l] (Z.set p (aX keep many tk (ls++[[]]) (ts++[0]) ov un)):=by
   unfold XI;rw[bH e,b]
  rw[OE z U,Yu s l m n _ (ls++[[]]) (ts++[0]) (lU L) (by simp;omega) (by omega) (by simp;omega) (by simp[B]),lO];simp only[iH,aeH,<-aeK]
theorem Nz(s:ao az)(l:a4)(h:Z[p]?=ak (aX keep many tk ls ts ov un))(hl:l<900)(g:ls.length<=900)(b:ts.length=ls.length)(hz:∀L∈ls,L.length+s.length<=1000000)(e:s.length<=1000000) :
  KA [.aE p,.lst (s.map A.int),.int l] Z=aH (.bQ) (Z.set p (aX keep many tk (fF s l ls) (fZ l ts) ov un)):=by
 have f:p<Z.length:=(cR.mp h).1;have q:=Yu (.lst (s.map A.int)) l (l+1-ls.length) 1000000 Z ls ts h rfl (by omega) (by omega) b;have e1:ls++List.replicate (l+1-ls.length) []=qI l ls:=rfl;have t:ts++List.replicate (l+1-ls.length) 0=CK l ts:=by rw[<-b];rfl
 rw[e1,t]at q;have B:l<(qI l ls).length:=by unfold qI;simp;omega
 have k:∀L,(qI l ls)[l]?=ak L->L.length+s.length<=1000000:=λL i=>by
  have:=jP i;unfold qI at this
  rcases hX.mp this with r|r
  ·exact hz L r
  ·have:=(List.mem_replicate.mp r).2;subst this;simpa using e
 have eg:(qI l ls)[l]?=ak ((qI l ls)[l]):=gM B;have z:=Gf s l ls;rw[eg]at z;simp only[Option.getD_some]at z;have a:=k _ eg;have hT:=Gd l ts;generalize (qI l ls)[l]=L at eg z a;generalize qI l ls=j at q B eg z;rw[hT,z];generalize CK l ts=tp at q;have h1:(Z.set p (aX keep many tk j tp ov un))[p]?=ak (aX keep many tk j tp ov un):=lU f;have o:=zT (Y:=[aF p,dG (s.map A.int),aA l]) h1 rfl;have m:iE (cA j) (l:az)=ak (.lst (L.map A.int)):=by rw[uY];unfold cA;rw[List.getElem?_map,eg];rfl
 have u:oJ (cA j).length (l:az)=ak l:=by
  have:l<(cA j).length:=by simpa[cA]using B
  simp[oJ,this]
 have es:(cA j).set l (.lst (L.map A.int++s.map A.int))=cA (j.set l (L++s)):=by simp[cA]
 show trim Z (bU (Mi [aF p,dG (s.map A.int),aA l] Z))=_;unfold Mi;rw[bH (Y1:=[aF p,dG (s.map A.int),aA l]) q];have U:L.length+s.length<=bc:=by rw[qH];omega
 have d:(aC cH (pD ["Halves"] 0 "levels" bL) aW) [aF p,dG (s.map A.int),aA l] (Z.set p (aX keep many tk j tp ov un))=aH (.lst (L.map A.int++s.map A.int)) (Z.set p (aX keep many tk j tp ov un)):=by
  simp[o,m,II,U]
 have c:bO (aC cH (pD ["Halves"] 0 "levels" bL) aW) (AL ["Halves"] 0 "levels" bL) [aF p,dG (s.map A.int),aA l] (Z.set p (aX keep many tk j tp ov un))=eS [aF p,dG (s.map A.int),aA l] (Z.set p (aX keep many tk (j.set l (L++s)) tp ov un)):=by
  unfold bO;rw[eR d,Bf o (n:=l) (FY rfl) (by simpa[cA]using B),es,Wm,lO]
 rw[c];simp only[bU];exact iK (by simp)
end
noncomputable def bN:ao (ao az)->a4
 |[]=>0
 |L::ls=>L.length+bN ls
theorem Tp(s:ao az):∀ls,bN (eZ s ls)=bN ls+s.length
 |[]=>by simp[eZ,bN]
 |L::ls=>by simp only[eZ,bN,fJ];omega
theorem LD(s:ao az):∀(n:a4) (ls:ao (ao az)),bN (fF s n ls)=bN ls+s.length
 |0,ls=>Tp s ls
 |n+1,[]=>by
  show([]:ao az).length+bN (fF s n [])=_;rw[LD s n []];simp[bN]
 |n+1,L::ls=>by rw[fF,bN,bN,LD s n ls];omega
theorem Ap:∀(a b:ao (ao az)),bN (a++b)=bN a+bN b
 |[],b=>by simp[bN]
 |L::a,b=>by rw[vE,bN,bN,Ap a b];omega
theorem GH:∀{ls:ao (ao az)} {L:ao az},L∈ls->L.length<=bN ls
 |M::ls,L,h=>by
  rw[bN]
  rcases dY.mp h with e|e
  ·subst e;omega
  ·have:=GH e;omega
theorem acK{n:a4}(h:n<=2 ^ 40):kS n<=41:=by
 have:=aGO h;rw[aGN]at this;exact this
section
variable{Z Z':aG}{p:a4}{keep many tk ov un:az}{ls:ao (ao az)}{ts:ao az}{row:ao Rn}
theorem HV.short(h:HV keep ls ts ov un row)(z:aS row<=1000000000000):ls.length<=41:=by
 have j:=BK ls;have q:=UL (ls:=ls) (T:=(dX ls).toNat) h.last (by omega);have:=h.wt;exact nW q (acK (by omega))
theorem aI1(L:ao az)(b:bh)(Z:aG)(h:L.length<400000) :
  Pl [.lst (L.map A.int),.int (if b then 0 else 1)] Z=aH (.tup [.lst ((gW b L).map A.int),.lst ((fN L).map A.int)]) Z:=by
 have e:(L.length:az)-(L.length:az)%2=((2*(L.length/2):a4):az):=by omega
 have p:=ao4 b ((sortI L).map A.int) (L.length/2) (by simp[BZ];omega);have q:=aEM ((sortI L).map A.int) (2*(L.length/2)) (by simp[BZ];omega);rw[<-List.map_take,Mt]at p;rw[<-List.map_drop]at q;have h2:(2:a4)<=bc:=by decide
 have z:nK ((sortI L).map A.int) (ak (if b=ax then 0 else 1)) (ak (2*((L.length:az)/2))) (ak 2)=(gW b L).map A.int:=by
  unfold gW;rw[<-p];congr 1
 have j:EC ((sortI L).map A.int) (ak (2*((L.length:az)/2))) aq=(fN L).map A.int:=by
  unfold fN;rw[<-q];congr 1
 have B:(L.length:az)-(L.length:az)%2=2*((L.length:az)/2):=by omega
 show trim Z (bU (XA [dG (L.map A.int),aA (if b then 0 else 1),aq,aq] Z))=_;have e1:XA [dG (L.map A.int),aA (if b then 0 else 1),aq,aq] Z=ak (.ret (.tup [.lst ((gW b L).map A.int),.lst ((fN L).map A.int)]),[dG (L.map A.int),aA (if b then 0 else 1),dG ((sortI L).map A.int),aA (2*((L.length:az)/2))],Z):=by
  simp[XA,DC,h,BZ,B,h2,uL,z,j]
 rw[e1];simp only[bU];exact iK rfl
theorem aI2{pre post:ao (ao az)}{L:ao az}(b:bh)(w:az)(h:Z[p]?=ak (aX keep many tk (pre++L::post) ts ov un))(d:ts.length=(pre++L::post).length)(hb:ts[pre.length]?=ak (if b then 0 else 1))(hl:(pre++L::post).length<=50)(hz:bN (pre++L::post)<=300000) :
  ZF [.aE p,.int pre.length,.int w] Z=aH (.bQ) (Z.set p (aX keep many tk (pre++fN L::eZ (gW b L) post) ((fZ (pre.length+1) ts).set pre.length (1-if b then 0 else 1)) (ov+if b then w else 0) (un+if b then 0 else w))):=by
 have B:p<Z.length:=(cR.mp h).1;have y:L.length<=300000:=nW (GH (ls:=pre++L::post) (by simp)) hz;have k:=aI1 L b Z (by omega);have v:=Gm b L;have u:=TC L;have o:(cA (pre++L::post))[pre.length]?=ak (.lst (L.map A.int)):=by simp[cA]
 have gt:(ts.map A.int)[pre.length]?=(aA (if b then 0 else 1)):=by rw[jH,hb];rfl
 have es:(cA (pre++L::post)).set pre.length (.lst ((fN L).map A.int))=cA (pre++fN L::post):=by simp[cA]
 have lt:pre.length<ts.length:=by rw[d];simp
 have z:∀M∈pre++fN L::post,M.length+(gW b L).length<=1000000:=λM m=>by
  have:M.length<=300000:=by
   rcases hX.mp m with r|r
   ·exact nW (GH (ls:=pre++L::post) (by simp[r])) hz
   ·rcases dY.mp r with r|r
    ·subst r;omega
    ·exact nW (GH (ls:=pre++L::post) (by simp[r])) hz
  omega
 have h1:(Z.set p (aX keep many tk (pre++fN L::post) ts ov un))[p]?=ak (aX keep many tk (pre++fN L::post) ts ov un):=lU B;have c:=Nz (gW b L) (pre.length+1) h1 (by simp at hl;omega) (by simp at hl ⊢;omega) (by rw[d];simp) z (by omega);have s:fF (gW b L) (pre.length+1) (pre++fN L::post)=pre++fN L::eZ (gW b L) post:=by
  have:=UM (gW b L) (pre++[fN L]) post;simpa using this
 rw[s,lO]at c;generalize C:gW b L=K at *;generalize hR:fN L=R at *;generalize U:fZ (pre.length+1) ts=T at *;have l:pre.length<T.length:=by rw[<-U,CW];omega
 have h2:(Z.set p (aX keep many tk (pre++R::eZ K post) T ov un))[p]?=ak (aX keep many tk (pre++R::eZ K post) T ov un):=lU B;have t:(T.map A.int).set pre.length (.int (1-if b then 0 else 1))=(T.set pre.length (1-if b then 0 else 1)).map A.int:=by simp
 have j:(Z.set p (aX keep many tk (pre++R::eZ K post) (T.set pre.length (1-if b then 0 else 1)) ov un))[p]?=ak (aX keep many tk (pre++R::eZ K post) (T.set pre.length (1-if b then 0 else 1)) ov un):=lU B;show trim Z (bU (XJ [aF p,aA pre.length,aA w,aq,aq] Z))=_;have g:(pD ["Halves"] 0 "turns" aW) [aF p,aA pre.length,aA w,aq,aq] Z=aH (.int (if b then 0 else 1)) Z:=Gq (El h rfl) (n:=pre.length) (FY rfl) gt;have s2:(pD ["Halves"] 0 "levels" aW) [aF p,aA pre.length,aA w,aA (if b then 0 else 1),aq] Z=aH (.lst (L.map A.int)) Z:=Gq (zT h rfl) (n:=pre.length) (FY rfl) o;have e:XJ [aF p,aA pre.length,aA w,aq,aq] Z=eS [aF p,aA pre.length,aA w,aA (if b then 0 else 1),ak (.tup [.lst (K.map A.int),.lst (R.map A.int)])] (Z.set p (aX keep many tk (pre++R::eZ K post) (T.set pre.length (1-if b then 0 else 1)) (ov+if b then w else 0) (un+if b then 0 else w))):=by
  unfold XJ;rw[bH (Y1:=[aF p,aA pre.length,aA w,aA (if b then 0 else 1),aq]) (Z':=Z) (by unfold bO;rw[eR g];simp)];rw[bH (Y1:=[aF p,aA pre.length,aA w,aA (if b then 0 else 1),ak (.tup [.lst (K.map A.int),.lst (R.map A.int)])]) (Z':=Z) (by
   unfold bO;rw[eR (x:=A.tup [.lst (K.map A.int),.lst (R.map A.int)]) (Z':=Z) (by
    unfold aU;rw[cV (x:=[A.lst (L.map A.int),.int (if b then 0 else 1)]) (Z':=Z) (by unfold aB;rw[cV s2];simp)];simp[k])]
   simp)]
  rw[bH (Y1:=[aF p,aA pre.length,aA w,aA (if b then 0 else 1),ak (.tup [.lst (K.map A.int),.lst (R.map A.int)])]) (Z':=Z.set p (aX keep many tk (pre++R::post) ts ov un)) (by
   unfold bO;rw[eR (x:=A.lst (R.map A.int)) (Z':=Z) (by simp),Bf (zT h rfl) (n:=pre.length) (FY rfl) (by simp[cA]),es,Wm])]
  rw[bH (Y1:=[aF p,aA pre.length,aA w,aA (if b then 0 else 1),ak (.tup [.lst (K.map A.int),.lst (R.map A.int)])]) (Z':=Z.set p (aX keep many tk (pre++R::eZ K post) T ov un)) (by
   refine pT (a:=.bQ) (jX h1 rfl rfl (as:=[.lst (K.map A.int),.int ((pre.length+1:a4):az)]) (das:=[]) (by simp) rfl ?_);simpa using c)]
  rw[bH (Y1:=[aF p,aA pre.length,aA w,aA (if b then 0 else 1),ak (.tup [.lst (K.map A.int),.lst (R.map A.int)])]) (Z':=Z.set p (aX keep many tk (pre++R::eZ K post) (T.set pre.length (1-if b then 0 else 1)) ov un)) (by
   unfold bO;rw[eR (x:=A.int (1-if b then 0 else 1)) (Z':=Z.set p (aX keep many tk (pre++R::eZ K post) T ov un)) (by simp),Bf (El h2 rfl) (n:=pre.length) (FY rfl) (by simpa using l),t,Wi,lO])]
  cases b with
  |true =>
   have q:=iW (f := "over") (Y:=[aF p,aA pre.length,aA w,aA 0,ak (.tup [.lst (K.map A.int),.lst (R.map A.int)])]) (i:=0) j rfl rfl;simp only[fI]at q j ⊢;unfold eM;rw[eR (x:=ax) (Z':=Z.set p (aX keep many tk (pre++R::eZ K post) (T.set pre.length (1-0)) ov un)) (by simp)];simp only[fI];rw[rO (b:=.int (ov+w)) rfl j (by simp) (by unfold aC;rw[cV q];simp),Wk,List.set_set];simp
  |false =>
   have q:=iW (f := "under") (Y:=[aF p,aA pre.length,aA w,aA 1,ak (.tup [.lst (K.map A.int),.lst (R.map A.int)])]) (i:=0) j rfl rfl;simp only[kD,gC]at q j ⊢;unfold eM;rw[eR (x:=au) (Z':=Z.set p (aX keep many tk (pre++R::eZ K post) (T.set pre.length (1-1)) ov un)) (by simp)];simp only[kD,gC];rw[rO (b:=.int (un+w)) rfl j (by simp) (by unfold aC;rw[cV q];simp),Wh,List.set_set];simp
 rw[e];simp only[bU];exact iK (by simp)
end
theorem ahR(b:bh)(pre post:ao (ao az))(L:ao az):bN (pre++fN L::eZ (gW b L) post)<=bN (pre++L::post):=by
 rw[Ap,Ap,bN,bN,Tp,Gm,TC];omega
section
variable{p:a4}{keep many tk:az}{row:ao Rn}
theorem Kj(a:az):mF 2 a:=yO (by decide) (by decide)
theorem akO{Z:aG}{ls:ao (ao az)}{ts:ao az}{ov un:az}{j:a4}(h:Z[p]?=ak (aX keep many tk ls ts ov un))(hv:HV keep ls ts ov un row)(G:1<=keep)(R:keep<=100000)(F:aS row<=1000000000000)(hz:bN ls<=300000)(K:j<ls.length)(k:∀i L,i<j->ls[i]?=ak L->(L.length:az)<2*keep)(w:az)(D:w=2 ^ j) :
  ∃B s m o,HV keep B s m o row/\bN B<=bN ls/\j<B.length/\(∀i L,i<j+1->B[i]?=ak L->(L.length:az)<2*keep) /\
   EK [aF p,aA w,aA j] Z=eS [aF p,aA (w*2),aA ((j+1:a4):az)] (Z.set p (aX keep many tk B s m o)):=by
 have Q:p<Z.length:=(cR.mp h).1;have S:=hv.short F;obtain⟨pre,L,post,rfl,N⟩:∃pre L post,ls=pre++L::post/\pre.length=j:=⟨ls.take j,ls[j],ls.drop (j+1),by rw[<-JP K,sI],by rw[xA];omega⟩;subst N;have H:(cA (pre++L::post))[pre.length]?=ak (.lst (L.map A.int)):=by simp[cA]
 have y:(pD ["Halves"] 0 "levels" bL) [aF p,aA w,aA pre.length] Z=aH (.lst (L.map A.int)) Z:=Gq (zT h rfl) (n:=pre.length) (FY rfl) H;have s2:=iW (f := "keep") (Y:=[aF p,aA w,aA pre.length]) (i:=0) h rfl rfl;have gR:(cF (aC IH (aU nC (aB (pD ["Halves"] 0 "levels" bL) a0)) (aC (jN) jT (dO ["Halves"] "keep" aP)))) [aF p,aA w,aA pre.length] Z=aH (decide (2*keep<=(L.length:az))) Z:=by
  have e1:(aU nC (aB (pD ["Halves"] 0 "levels" bL) a0)) [aF p,aA w,aA pre.length] Z=aH (.int L.length) Z:=by
   unfold aU;rw[cV (x:=[A.lst (L.map A.int)]) (Z':=Z) (by unfold aB;rw[cV y];simp)];simp
  have l:(aC (jN) jT (dO ["Halves"] "keep" aP)) [aF p,aA w,aA pre.length] Z=aH (.int (2*keep)) Z:=by
   unfold aC;rw[cV (x:=A.int 2) (Z':=Z) rfl,cV s2];simp[Kj]
  have I:(aC IH (aU nC (aB (pD ["Halves"] 0 "levels" bL) a0)) (aC (jN) jT (dO ["Halves"] "keep" aP))) [aF p,aA w,aA pre.length] Z=aH (.bl (decide (2*keep<=(L.length:az)))) Z:=by
   unfold aC at l ⊢;rw[cV e1,cV l];simp
  unfold cF;rw[cV I];simp
 have v:mF w 2:=ON (by decide) (by decide);have tail:∀Z',(aV (bO (aC (jN) aW jT) (gN 1)) (bO (aC cH bL cJ) (gN 2))) [aF p,aA w,aA pre.length] Z'=eS [aF p,aA (w*2),aA ((pre.length+1:a4):az)] Z':=λZ'=>by simp[v]
 by_cases c:2*keep<=(L.length:az)
 ·obtain⟨b,hb⟩:∃b:bh,ts[pre.length]?=ak (if b then 0 else 1):=by
   have lt:pre.length<ts.length:=by rw[hv.len];simp
   have e:=gM lt
   rcases hv.GG _ (jP e)with q|q
   ·exact⟨ax,by rw[e,q];rfl⟩
   ·exact⟨au,by rw[e,q];rfl⟩
  have q:=aI2 b w h hv.len hb (by omega) hz;have C:pre.length<(fZ (pre.length+1) ts).length:=by rw[CW];omega
  have d:((fZ (pre.length+1) ts).set pre.length (1-if b then 0 else 1)).length=(pre++fN L::eZ (gW b L) post).length:=by
   rw[xB,CW,hv.len];cases post <;> simp[eZ] <;> omega
  have g:∀t∈(fZ (pre.length+1) ts).set pre.length (1-if b then 0 else 1),t=0\/t=1:=λt E=>by
   rcases aeL E with r|r
   ·exact SE (P:=λt=>t=0\/t=1) (.inl rfl) _ ts hv.GG t r
   ·subst r;cases b <;> simp
  have u:=hv.azD G c b d g;rw[<-D]at u;refine⟨_,_,_,_,u,ahR b pre post L,by simp,λi M hi z=>?_,?_⟩
  ·by_cases e:i=pre.length
   ·subst e;have:fN L=M:=by simpa using z
    subst this;rw[TC];omega
   ·have U:i<pre.length:=by omega
    rw[jA U]at z;exact k i M U (by rw[jA U];exact z)
  ·unfold EK;rw[bH (Y1:=[aF p,aA w,aA pre.length]) (Z':=Z.set p (aX keep many tk (pre++fN L::eZ (gW b L) post) ((fZ (pre.length+1) ts).set pre.length (1-if b then 0 else 1)) (ov+if b then w else 0) (un+if b then 0 else w))) (by
    unfold eM;rw[eR gR,yM c];simp only[fI];exact pT (a:=.bQ) (jX h rfl rfl (as:=[.int pre.length,.int w]) (das:=[]) (by simp) rfl (by simpa using q)))]
   exact tail _
 ·refine⟨_,_,_,_,hv,rK _,by simp,λi M hi z=>?_,?_⟩
  ·by_cases e:i=pre.length
   ·subst e;have:L=M:=by simpa using z
    subst this;omega
   ·exact k i M (by omega) z
  ·unfold EK;rw[vN h];rw[bH (Y1:=[aF p,aA w,aA pre.length]) (Z':=Z) (by
    unfold eM;rw[eR gR,nD c];simp)]
   exact tail _
theorem Vg(g:1<=keep)(r:keep<=100000)(b:aS row<=1000000000000):∀(m n:a4) (Z:aG) (ls:ao (ao az)) (ts:ao az) (ov un:az) (q:a4) (w:az),Z[p]?=ak (aX keep many tk ls ts ov un)->HV keep ls ts ov un row->bN ls<=300000->q<=ls.length->(∀i L,i<q->ls[i]?=ak L->(L.length:az)<2*keep)->w=2 ^ q->m=60-q->m<n ->
  ∃z a B U u s,HV keep z a B U row/\bN z<=bN ls/\(∀L∈z,(L.length:az)<2*keep) /\
   lK AR EK n [aF p,aA w,aA q] Z=eS [aF p,aA u,aA s] (Z.set p (aX keep many tk z a B U))
 |m,n,Z,ls,ts,ov,un,q,w,h,hv,G,Q,l,f,hm,hn=>by
  obtain⟨n,rfl⟩:∃j,n=j+1:=⟨n-1,by omega⟩;have H:p<Z.length:=(cR.mp h).1;have R:=hv.short b;have o:=zT (Y:=[aF p,aA w,aA q]) h rfl
  by_cases k:q<ls.length
  ·have c:AR [aF p,aA w,aA q] Z=aH ax Z:=by
    simp[AR,o,cA,k]
   obtain⟨z,a,B,U,M,P,K,d,e⟩:=akO h hv g r b G k l w f
   match m,hm,hn with
   |m+1,hm,hn =>
    obtain⟨F,y,E,x,t,v,D,N,C,A⟩:=Vg g r b m n _ z a B U (q+1) (w*2) (lU H) M (by omega) K d (by rw[f,sX,Int.mul_comm]) (by omega) (by omega);refine⟨F,y,E,x,t,v,D,by omega,C,?_⟩;rw[OE c e,A,lO]
   |0,hm,hn=>omega
  ·have c:AR [aF p,aA w,aA q] Z=aH au Z:=by
    simp[AR,o,cA];omega
   refine⟨ls,ts,ov,un,w,q,hv,rK _,λL I=>?_,?_⟩
   ·obtain⟨i,hi,e⟩:=yX I;exact l i L (by omega) (by rw[gM hi,e])
   ·rw[WG c,vN h]
theorem aeA{Z:aG}{ls:ao (ao az)}{ts:ao az}{ov un:az}(f:1<=keep)(g:keep<=100000)(e:aS row<=1000000000000)(h:Z[p]?=ak (aX keep many tk ls ts ov un))(hv:HV keep ls ts ov un row)(hz:bN ls<=300000) :
  ∃j B q z,HV keep j B q z row/\bN j<=bN ls/\(∀L∈j,(L.length:az)<2*keep)/\RF [.aE p] Z=aH (.bQ) (Z.set p (aX keep many tk j B q z)):=by
 obtain⟨j,B,q,z,l,k,d,c,b,a⟩:=Vg f g e 60 1000000 Z ls ts ov un 0 1 h hv hz CP (λi L hi=>b4 hi (Nat.not_lt_zero _)) rfl rfl (by omega);refine⟨j,B,q,z,d,c,b,?_⟩;show trim Z (bU (Mf [aF p,aq,aq] Z))=_;unfold Mf;rw[bH (Y1:=[aF p,aA 1,aq]) (Z':=Z) (by simp)];rw[bH (Y1:=[aF p,aA 1,aA 0]) (Z':=Z) (by simp)];have U:lK AR EK 1000000 [aF p,aA 1,aA 0] Z=_:=a;show trim Z (bU (lK AR EK 1000000 [aF p,aA 1,aA 0] Z))=_;rw[U];simp only[bU];exact iK (by simp)
theorem As(n0:az):∀(m n:a4) (Z:aG) (ls:ao (ao az)) (ts:ao az) (ov un pt:az) (z t:a4),Z[p]?=ak (aX keep many tk ls ts ov un)->HV keep ls ts ov un (row++[(n0,pt)])->z+m<=30->t<2 ^ m->m<n->bN ls+m<=200000->ls.length<=60 ->
  ∃B U b,HV keep B U ov un (row++[(n0,pt+t*2 ^ z)])/\bN B<=bN ls+m /\
   lK OX IW n [aF p,aA n0,aA t,aA z] Z=eS [aF p,aA n0,aA 0,aA b] (Z.set p (aX keep many tk B U ov un))
 |m,n,Z,ls,ts,ov,un,pt,z,t,h,hv,s,d,hn,o,i=>by
  obtain⟨n,rfl⟩:∃j,n=j+1:=⟨n-1,by omega⟩;have v:p<Z.length:=(cR.mp h).1
  by_cases w:t=0
  ·subst w;refine⟨ls,ts,z,by simpa using hv,by omega,?_⟩;rw[WG (Z1:=Z) (by simp[OX]),vN h];rfl
  ·have r:OX [aF p,aA n0,aA t,aA z] Z=aH ax Z:=by
    have:0<t:=by omega
    simp[OX,this]
   match m,s,d,hn,o with
   |0,_,d,_,_=>simp at d;omega
   |m+1,s,d,hn,o =>
    have u:t/2<2 ^ m:=by rw[YC]at d;omega
    have y:qB (t:az) 2:=⟨by decide,by decide⟩;have k:(1:a4)<=bc:=by decide
    have ed:((t:az)/2)=((t/2:a4):az):=by omega
    have tail:∀Z',(aV (bO (aC (lZ) bL jT) (gN 2)) (bO (aC cH eE cJ) (gN 3))) [aF p,aA n0,aA t,aA z] Z'=eS [aF p,aA n0,aA ((t/2:a4):az),aA ((z+1:a4):az)] Z':=λZ'=>by simp[y]
    by_cases A:t%2=1
    ·have q:=Nz [n0] z h (by omega) (by omega) hv.len (λL x=>by have:=GH x;simp;omega) (by simp);have e:IW [aF p,aA n0,aA t,aA z] Z=eS [aF p,aA n0,aA ((t/2:a4):az),aA ((z+1:a4):az)] (Z.set p (aX keep many tk (fF [n0] z ls) (fZ z ts) ov un)):=by
      unfold IW;rw[bH (Y1:=[aF p,aA n0,aA t,aA z]) (Z':=Z.set p (aX keep many tk (fF [n0] z ls) (fZ z ts) ov un)) (by
       unfold eM;have gR:(cF (aC mO (aC (fC) bL jT) cJ)) [aF p,aA n0,aA t,aA z] Z=aH ax Z:=by
        have:(t:az)%2=1:=by omega
        simp[this]
       rw[eR gR];simp only[fI];exact pT (a:=.bQ) (jX h rfl rfl (as:=[.lst [.int n0],.int z]) (das:=[]) (by simp[k]) rfl (by simpa using q)))]
      exact tail _
     obtain⟨B,U,b,c,g,f⟩:=As n0 m n _ (fF [n0] z ls) (fZ z ts) ov un (pt+2 ^ z) (z+1) (t/2) (lU v) (hv.lay z) (by omega) u (by omega) (by rw[LD];simp;omega) (by rw[CY];omega);refine⟨B,U,b,?_,by rw[LD]at g;simp at g;omega,?_⟩
     ·have l:pt+2 ^ z+((t/2:a4):az)*2 ^ (z+1)=pt+(t:az)*2 ^ z:=by
       rw[sX];have:(t:az)=2*((t/2:a4):az)+1:=by omega
       generalize ((t/2:a4):az)=q at this ⊢;generalize (2:az) ^ z=X;rw[this,Int.add_mul,JU,vF,Int.mul_left_comm q 2 X];omega
      rw[l]at c;exact c
     ·rw[OE r e,f,lO]
    ·have e:IW [aF p,aA n0,aA t,aA z] Z=eS [aF p,aA n0,aA ((t/2:a4):az),aA ((z+1:a4):az)] Z:=by
      unfold IW;rw[bH (Y1:=[aF p,aA n0,aA t,aA z]) (Z':=Z) (by
       have:¬(t:az)%2=1:=by omega
       simp[this])]
      exact tail _
     obtain⟨B,U,b,c,g,f⟩:=As n0 m n Z ls ts ov un pt (z+1) (t/2) h hv (by omega) u (by omega) (by omega) i;refine⟨B,U,b,?_,by omega,?_⟩
     ·have l:pt+((t/2:a4):az)*2 ^ (z+1)=pt+(t:az)*2 ^ z:=by
       rw[sX];have:(t:az)=2*((t/2:a4):az):=by omega
       generalize ((t/2:a4):az)=q at this ⊢;generalize (2:az) ^ z=X;rw[this,vF,Int.mul_left_comm q 2 X]
      rw[l]at c;exact c
     ·rw[OE r e,f]
end
open Classical in
theorem GB{α:Type}{n:a4}{js:ao a4}{fi:Ev->Mo Src}{g:A->MS}{e:Ev->Mo A}{Y:Ev}{Z Z0:aG}{S:Src}(xs:ao α)(enc ae:α->A)(P:Ev->Prop)(inj:∀x y,enc x=enc y->ae x=ae y)
  (h0:fi Y Z=aH S Z0) (aL:∀ys,S.ok (Z0++[.lst ys])) (hP:P (xW n js Y)) (hS:S.ds=xs.map enc) (hl:xs.length<=1000000)
  (step:∀x∈xs,∀Y,P Y->∀ys,∃Y1,P Y1/\g (enc x) Y (Z0++[.lst ys])=eS Y1 (Z0++[.lst ys])/\e Y1 (Z0++[.lst ys])=aH (ae x) (Z0++[.lst ys]))
  (hc:∀x∈xs,Cl Z0.length (ae x)):nI au n js fi g tU e Y Z=aH (.lst (xs.map ae)) Z0:=by
 let F:A->av A:=λa=>if h:∃x,x∈xs/\enc x=a then ak (ae (Classical.choose h))else aq
 have hF:∀x∈xs,F (enc x)=ak (ae x):=λx hx=>by
  have h:∃y,y∈xs/\enc y=enc x:=⟨x,hx,rfl⟩;show(if h:∃y,y∈xs/\enc y=enc x then ak (ae (Classical.choose h))else aq)=_;rw[dif_pos h,inj _ _ (FJ h).2]
 have ef:∀l:ao α,(∀x∈l,x∈xs)->(l.map enc).filterMap F=l.map ae:=by
  intro l
  induction l with
  |nil=>intro _;rfl
  |cons x r ih =>
   intro h;simp only[dJ,xD,hF x (h x (by simp)),ih λy hy=>h y (by simp[hy])]
 have q:=Ad (n:=n) (js:=js) (fi:=fi) (g:=g) (c:=tU) (e:=e) (Y:=Y) (Z:=Z) (Z0:=Z0) (S:=S) F P h0 aL hP (by rw[hS];simpa using hl) (λx hx Y hp ys=>by
  rw[hS]at hx;obtain⟨y,hy,rfl⟩:=oU.mp hx;obtain⟨Y1,h1,h2,h3⟩:=step y hy Y hp ys;exact⟨Y1,h1,h2,.inl ⟨ae y,hF y hy,by simp[tU],h3⟩⟩) (by
  rw[hS,ef xs λ_ h=>h];exact EF λa ha=>by obtain⟨x,hx,rfl⟩:=oU.mp ha;exact hc x hx)
 rw[hS,ef xs λ_ h=>h]at q;exact q
open Classical in
theorem RY{α:Type}{n:a4}{js:ao a4}{fi:Ev->Mo Src}{g:A->MS}{c:Ev->Mo bh}{e:Ev->Mo A}{Y:Ev}{Z Z0:aG}{S:Src}(xs:ao α)(enc ae:α->A)(kp:α->bh)(P:Ev->Prop)(inj:∀x y,enc x=enc y->ae x=ae y/\kp x=kp y)
  (h0:fi Y Z=aH S Z0) (aL:∀ys,S.ok (Z0++[.lst ys])) (hP:P (xW n js Y)) (hS:S.ds=xs.map enc) (hl:xs.length<=1000000)
  (step:∀x∈xs,∀Y,P Y->∀ys,∃Y1,P Y1/\g (enc x) Y (Z0++[.lst ys])=eS Y1 (Z0++[.lst ys])/\c Y1 (Z0++[.lst ys])=aH (kp x) (Z0++[.lst ys])/\e Y1 (Z0++[.lst ys])=aH (ae x) (Z0++[.lst ys]))
  (hc:∀x∈xs,Cl Z0.length (ae x)):nI au n js fi g c e Y Z=aH (.lst ((xs.filter kp).map ae)) Z0:=by
 let F:A->av A:=λa=>if h:∃x,x∈xs/\enc x=a then(if kp (Classical.choose h)=ax then ak (ae (Classical.choose h))else aq)else aq
 have hF:∀x∈xs,F (enc x)=if kp x=ax then ak (ae x)else aq:=λx hx=>by
  have h:∃y,y∈xs/\enc y=enc x:=⟨x,hx,rfl⟩;show(if h:∃y,y∈xs/\enc y=enc x then(if kp (Classical.choose h)=ax then ak (ae (Classical.choose h))else aq)else aq)=_;have q:=inj _ _ (FJ h).2;rw[dif_pos h,q.1,q.2]
 have ef:∀l:ao α,(∀x∈l,x∈xs)->(l.map enc).filterMap F=(l.filter kp).map ae:=by
  intro l
  induction l with
  |nil=>intro _;rfl
  |cons x r ih =>
   intro h;have q:=hF x (h x (by simp))
   by_cases hk:kp x=ax
   ·rw[a7 hk]at q;simp only[dJ,xD,q,ih λy hy=>h y (by simp[hy]),Ov,hk,fI]
   ·rw[ba hk]at q;simp only[dJ,xD,q,ih λy hy=>h y (by simp[hy]),Ov,ba hk]
 have q:=Ad (n:=n) (js:=js) (fi:=fi) (g:=g) (c:=c) (e:=e) (Y:=Y) (Z:=Z) (Z0:=Z0) (S:=S) F P h0 aL hP (by rw[hS];simpa using hl) (λx hx Y hp ys=>by
  rw[hS]at hx;obtain⟨y,hy,rfl⟩:=oU.mp hx;obtain⟨Y1,h1,h2,h3,h4⟩:=step y hy Y hp ys;have q:=hF y hy
  by_cases hk:kp y=ax
  ·rw[a7 hk]at q;rw[hk]at h3;exact⟨Y1,h1,h2,.inl ⟨ae y,q,h3,h4⟩⟩
  ·rw[ba hk]at q;rw[Bool.eq_false_iff.mpr hk]at h3;exact⟨Y1,h1,h2,.inr ⟨q,h3⟩⟩) (by
  rw[hS,ef xs λ_ h=>h];exact EF λa ha=>by
   obtain⟨x,hx,rfl⟩:=oU.mp ha;exact hc x (List.mem_filter.mp hx).1)
 rw[hS,ef xs λ_ h=>h]at q;exact q
theorem IG(Z:aG)(c:Cell):(Z++[c])[Z.length]?=ak c:=by simp
theorem xN(Z:aG)(c d:Cell):(Z++[c]).set Z.length d=Z++[d]:=by simp
section
variable{p:a4}{keep many tk:az}{row:ao Rn}{Z:aG}{ls:ao (ao az)}{ts:ao az}{ov un:az}
theorem aII(n0:az)(t:a4)(o:1<=keep)(r:keep<=100000)(n:t<2 ^ 21)(v:aS row+t<=1000000000000)(h:Z[p]?=ak (aX keep many tk ls ts ov un))(hv:HV keep ls ts ov un row)(hz:bN ls<=190000)(U:aS row<=1000000000000) :
  ∃j B q z,HV keep j B q z (row++[(n0,(t:az))])/\bN j<=bN ls+21/\(∀L∈j,(L.length:az)<2*keep)/\ZE [.aE p,.int n0,.int t] Z=aH (.bQ) (Z.set p (aX keep many tk j B q z)):=by
 have d:p<Z.length:=(cR.mp h).1;have w:=hv.short U;obtain⟨m,g,f,b,s,i⟩:=As n0 21 1000000 Z ls ts ov un 0 0 t h (hv.more n0) (by omega) n (by omega) (by omega) (by omega);rw[show(0:az)+(t:az)*2 ^ 0=t by simp]at b;have e:aS (row++[(n0,(t:az))])<=1000000000000:=by rw[uD];simp[aS];omega
 obtain⟨j,B,q,z,l,u,k,c⟩:=aeA (many:=many) (tk:=tk) o r e (lU d) b (by omega);refine⟨j,B,q,z,l,by omega,k,?_⟩;rw[lO]at c;show trim Z (bU (Mb [aF p,aA n0,aA t,aq] Z))=_;unfold Mb;rw[bH (Y1:=[aF p,aA n0,aA t,aA 0]) (Z':=Z) (by simp)];rw[bH (Y1:=[aF p,aA n0,aA 0,aA f]) (Z':=Z.set p (aX keep many tk m g ov un)) (by exact i)];rw[pT (a:=.bQ) (Z':=Z.set p (aX keep many tk j B q z)) (by exact jX (lU d) rfl rfl (as:=[]) (das:=[]) (by simp) rfl (by simpa using c))];simp only[bU];exact iK (by simp)
theorem aeD(h:Z[p]?=ak (aX keep many tk ls ts ov un))(t:az)(hm:many+t<=1000000000):RC [.aE p,.int t] Z=aH (.bQ) Z:=by
 have j:=iW (f := "many") (Y:=[aF p,aA t]) (i:=0) h rfl rfl;have e:(cF (aC DS (aC cH (dO ["Halves"] "many" aP) aW) (cI 1000000000))) [aF p,aA t] Z=aH au Z:=by
  have:(aC cH (dO ["Halves"] "many" aP) aW) [aF p,aA t] Z=aH (.int (many+t)) Z:=by
   unfold aC;rw[cV j];simp
  unfold cF;rw[cV (x:=A.bl au) (Z':=Z) (by unfold aC at this ⊢;rw[cV this];simp;omega)];simp
 show trim Z (bU (Lv [aF p,aA t] Z))=_;unfold Lv eM;rw[eR e];simp only[kD,gC,fM,bU];exact iK rfl
theorem aIP(n0:az)(t:a4)(o:1<=keep)(s:keep<=100000)(m:1<=t)(n:t<2 ^ 21)(hm:many+t<=1000000000)(h:Z[p]?=ak (aX keep many tk ls ts ov un))(hv:HV keep ls ts ov un row)(u:many=aS row)(hz:bN ls<=190000) :
  ∃j B q z,HV keep j B q z (row++[(n0,(t:az))])/\bN j<=bN ls+21/\(∀L∈j,(L.length:az)<2*keep)/\QZ [.aE p,.int n0,.int t] Z=aH (.bQ) (Z.set p (aX keep (many+t) (tk+1) j B q z)):=by
 have a:p<Z.length:=(cR.mp h).1;obtain⟨j,B,q,z,l,k,g,e⟩:=aII n0 t o s n (by omega) h hv hz (by omega);refine⟨j,B,q,z,l,k,g,?_⟩;have d:=aeD h t hm;have h2:(Z.set p (aX keep many tk j B q z))[p]?=ak (aX keep many tk j B q z):=lU a;have U:¬(t:az)<1:=by omega
 have r:=iW (f := "many") (Y:=[aF p,aA n0,aA t]) (i:=0) h2 rfl rfl;have c:(Z.set p (aX keep (many+t) tk j B q z))[p]?=ak (aX keep (many+t) tk j B q z):=lU a;have f2:=iW (f := "taken") (Y:=[aF p,aA n0,aA t]) (i:=0) c rfl rfl;show trim Z (bU (XG [aF p,aA n0,aA t] Z))=_;unfold XG;rw[bH (Y1:=[aF p,aA n0,aA t]) (Z':=Z) (by simp[U])];rw[bH (pT (jX h (by rfl) (by rfl) (as:=[.int t]) (das:=[]) (by simp) (by rfl) (by simpa using d)))];rw[bH (pT (jX h (by rfl) (by rfl) (as:=[.int n0,.int t]) (das:=[]) (by simp) (by rfl) (by simpa using e)))];rw[bH (rO (b:=.int (many+t)) (by rfl) h2 (by simp) (by unfold aC;rw[cV r];simp)),Wl,List.set_set];rw[rO (b:=.int (tk+1)) (by rfl) c (by simp) (by unfold aC;rw[cV f2];simp),Wj,List.set_set];simp only[bU];exact iK (by simp)
theorem abK{f:a9}{fs:ao (a9×Fd)}(hl:fs.length<1000):(GS ["Halves"] 0 f (fL ax a0)) [aF Z.length,aA keep] (Z++[.ins "Halves" fs])=eS [aF Z.length,aA keep] (Z++[.ins "Halves" (putD f (.lst []) fs)]):=by
 have ob:LY ["Halves"] 0 [aF Z.length,aA keep] (Z++[.ins "Halves" fs])=ak (Z.length,("Halves" : a9),fs):=by
  unfold LY;simp
 have e1:fL ax a0 [aF Z.length,aA keep] (Z++[.ins "Halves" fs])=aH (.aE (Z++[Cell.ins "Halves" fs]).length) ((Z++[.ins "Halves" fs])++[.lst []]):=by simp
 unfold GS;rw[ob];simp only[e1,IG,Fd.LX];rw[a7 ⟨rfl,rfl,hl,by simp[oW,gU]⟩,xN]
theorem aIV(Z:aG)(keep:az):AK "Halves" 2 BF [.int keep] Z=aH (.aE Z.length) (Z++[aX keep 0 0 [] [] 0 0]):=by
 have base:RE [.aE Z.length,.int keep] (Z++[.ins "Halves" []])=aH (.bQ) (Z++[.ins "Halves" [("keep",.val (.int keep)),("many",.val (.int 0)),("taken",.val (.int 0))]]):=by
  show trim _ (bU (XH [aF Z.length,aA keep] (Z++[.ins "Halves" []])))=_;unfold XH;rw[bH (rO (b:=.int keep) (by rfl) (IG _ _) (by simp) (by simp)),xN];rw[bH (rO (b:=.int 0) (by rfl) (IG _ _) (by exact(show(1:a4)<1000 by decide)) (by simp)),xN];rw[rO (b:=.int 0) (by rfl) (IG _ _) (by exact(show(2:a4)<1000 by decide)) (by simp),xN];simp only[bU];rw[iK (by simp)];rfl
 have e:BF [.aE Z.length,.int keep] (Z++[.ins "Halves" []])=aH (.bQ) (Z++[aX keep 0 0 [] [] 0 0]):=by
  show trim _ (bU (XM [aF Z.length,aA keep] (Z++[.ins "Halves" []])))=_;unfold XM;rw[bH (pT (a:=.bQ) (Z':=Z++[.ins "Halves" [("keep",.val (.int keep)),("many",.val (.int 0)),("taken",.val (.int 0))]]) (by simp[bR,base]))];rw[bH (abK (by simp))];rw[bH (abK (by exact(show(4:a4)<1000 by decide)))];rw[bH (rO (b:=.int 0) (by rfl) (IG _ _) (by exact(show(5:a4)<1000 by decide)) (by simp)),xN];rw[rO (b:=.int 0) (by rfl) (IG _ _) (by exact(show(6:a4)<1000 by decide)) (by simp),xN];simp only[bU];rw[iK (by simp)];rfl
 unfold AK;rw[a7 (by rfl)];rw[e]
end
noncomputable def stI:az->ao (ao az)->ao Rn
 |_,[]=>[]
 |w,L::ls=>L.map (λn=>(n,w))++stI (w*2) ls
theorem BX:∀(w:az) (ls:ao (ao az)),(stI w ls).length=bN ls
 |_,[]=>rfl
 |w,L::ls=>by rw[stI,fJ,jQ,BX,bN]
theorem Uj(w:az):∀L:ao az,aS (L.map λn=>(n,w))=w*L.length
 |[]=>by simp[aS]
 |n::L=>by rw[dJ,aS,Uj w L,eB];push_cast;rw[QM];omega
theorem Td(w x:az):∀L:ao az,bW (L.map λn=>(n,w)) x=w*eA L x
 |[]=>by simp[bW,eA]
 |n::L=>by
  have e:eA (n::L) x=(if n<=x then 1 else 0)+eA L x:=by
   unfold eA
   by_cases h:n<=x <;> simp[h];omega
  rw[dJ,bW,Td w x L,e,QM]
  by_cases h:n<=x <;> simp[h]
theorem Uo:∀(w:az) (ls:ao (ao az)),aS (stI w ls)=w*dX ls
 |_,[]=>by simp[stI,aS,dX]
 |w,L::ls=>by rw[stI,uD,Uj,Uo,dX,QM,vF]
theorem LL(x:az):∀(w:az) (ls:ao (ao az)),bW (stI w ls) x=w*cX ls x
 |_,[]=>by simp[stI,bW,cX]
 |w,L::ls=>by rw[stI,KZ,Td,LL x,cX,QM,vF]
theorem Bi:∀{w:az} {ls:ao (ao az)} {r:Rn},r∈stI w ls->(∃L∈ls,r.1∈L)/\∃i:a4,r.2=w*2 ^ i
 |w,L::ls,r,h=>by
  rw[stI]at h
  rcases hX.mp h with q|q
  ·obtain⟨n,hn,rfl⟩:=oU.mp q;exact⟨⟨L,by simp,hn⟩,0,by simp⟩
  ·obtain⟨⟨M,h1,h2⟩,i,j⟩:=Bi q;exact⟨⟨M,iP _ h1,h2⟩,i+1,by rw[j,sX,vF]⟩
theorem Ao{m:a4}:∀{ls:ao (ao az)},(∀L∈ls,L.length<=m)->bN ls<=m*ls.length
 |[],_=>by simp[bN]
 |L::ls,h=>by
  have:=Ao (ls:=ls) λM j=>h M (by simp[j]);have:=h L (by simp);rw[bN,eB,Nat.mul_add];omega
theorem atQ{i:a4}{f:a9}{g:MS}{Y q:Ev}{Z:aG}{s j:a4}{cls:a9}{fs:ao (a9×Fd)}{fd:Fd}{c x:Cell}(h1:Y[i]?=ak (aF s))(h2:Z[s]?=ak (.ins cls fs))(o:fs.lookup f=ak fd)(a:fd.cell=ak c)(m:putD f fd fs=fs)
  (U:g Y (fE Z s cls f fs c)=eS q ((fE Z s cls f fs c).set j x)) (L:j<Z.length) (B:j≠s) (b:BI Z.length x) (n:∀(j:a4) (d:A),q[j]?=ak (ak d)->Y[j]?=ak (ak d)\/Cl Z.length d):vO i f g Y Z=eS q (Z.set j x):=by
 have h:s<Z.length:=(cR.mp h2).1;have e0:(fE Z s cls f fs c).set j x=((Z.set s (.ins cls (putD f (.val (.aE Z.length)) fs))).set j x)++[c]:=by
  unfold fE;rw[List.set_append_left _ _ (by simpa using L)]
 rw[e0]at U;refine Vp (r:=(.nx,q,Z.set j x)) ⟨s,cls,fs,fd,c,(Z.set s (.ins cls (putD f (.val (.aE Z.length)) fs))).set j x,fd,c,h1,h2,o,a,U,by simp,?_,a,λk y l z=>?_,.inl rfl,n,rfl,?_⟩
 ·rw[eP B,fP h]
 ·by_cases e:j=k
  ·subst e;rw[fP (by simpa using L)]at z;cases z;exact .inr b
  ·rw[eP e,eP (cQ l)]at z;exact .inl z
 ·have p:(Z.set j x)[s]?=ak (.ins cls fs):=by rw[eP B];exact h2
  rw[List.set_comm _ _ (cQ B),lO,m,<-List.set_comm _ _ (cQ B),vN h2]
section
variable{p:a4}{keep many tk:az}{row:ao Rn}{Z:aG}{ls:ao (ao az)}{ts:ao az}{ov un:az}
theorem ajV{j:aG}{n0:a4}{acc:ao Rn}(h:j[n0]?=ak (.lst (aM acc)))(L:ao az)(w:az)(g:acc.length+L.length<=100000)(x:av A) :
  OY [x,aF n0,aA w,dG (L.map A.int)] j=eS [x,aF n0,aA (w*2),dG (L.map A.int)] (j.set n0 (.lst (aM (acc++L.map λn=>(n,w))))):=by
 have s2:(2:a4)<=bc:=by decide
 have q:Mc [x,aF n0,aA w,dG (L.map A.int)] j=aH (.lst (L.map λn => .tup [.int n,.int w])) j:=by
  unfold Mc;exact GB (S:=srcOf (.lst (L.map A.int)) (L.map A.int)) L A.int (λn => .tup [.int n,.int w]) (λz=>∃y,z=[y,aA w]) (λa b e=>by cases e;rfl) (by simp) (λ_=>rfl) ⟨aq,rfl⟩ rfl (by omega) (λn _ z ⟨y,e⟩ f=>by subst e;exact⟨[aA n,aA w],⟨_,rfl⟩,by simp,by simp[s2]⟩) (λn _=>by simp[Cl,gU])
 have c:wL j (.aE n0)=ak (n0,aM acc):=Kl h;have hi:HP j (.aE n0):=Gs (tE h);have U:acc.length+L.length<=bc:=by rw[qH];omega
 have B:mF w 2:=ON (by decide) (by decide);have d:aM acc++(L.map λn=>A.tup [.int n,.int w])=aM (acc++L.map λn=>(n,w)):=by simp[aM,bY]
 unfold OY;rw[bH (Y1:=[x,aF n0,aA w,dG (L.map A.int)]) (Z':=j.set n0 (.lst (aM (acc++L.map λn=>(n,w))))) (by
  refine pT (a:=.bQ) ?_;unfold zM;rw[cV (x:=A.aE n0) (Z':=j) (by simp),cV (x:=[A.lst (L.map λn => .tup [.int n,.int w])]) (Z':=j) (by unfold aB;rw[cV q];simp)];rw[<-d];simp[c,hi,HK,aM];exact U)]
 simp[B]
theorem Um{n0:a4}(x:av A)(ok:aG->Prop):∀(ls:ao (ao az)) (acc:ao Rn) (w:az) (y:av A) (j:aG),j[n0]?=ak (.lst (aM acc))->acc.length+bN ls<=100000->(∀d,ok (j.set n0 (.lst d))) ->
  ∃B z,fO ok (gN 3) OY (cA ls) [x,aF n0,aA w,y] j=eS [x,aF n0,aA B,z] (j.set n0 (.lst (aM (acc++stI w ls))))/\(z=y\/∃L:ao az,z=ak (.lst (L.map A.int)))
 | [],acc,w,y,j,h,_,aL=>⟨w,y,by
   have e:=vN h;have:=aL (aM acc);rw[e]at this;show fO _ _ _ [] _ _=_;rw[DW this];simp[stI,e],.inl rfl⟩
 |L::ls,acc,w,y,j,h,a,aL=>by
  rw[bN]at a;have hn:n0<j.length:=(cR.mp h).1;have t:=ajV h L w (by omega) x;obtain⟨B,z,q,b⟩:=Um x ok ls (acc++L.map λn=>(n,w)) (w*2) (ak (.lst (L.map A.int))) (j.set n0 (.lst (aM (acc++L.map λn=>(n,w))))) (lU hn) (by simp;omega) (λd=>by rw[lO];exact aL d);refine⟨B,z,?_,?_⟩
  ·have U:ok j:=by have:=aL (aM acc);rwa[vN h]at this
   show fO ok _ _ (A.lst (L.map A.int)::cA ls) _ _=_;rw[DV U (Y0:=[x,aF n0,aA w,dG (L.map A.int)]) (Z0:=j) (by simp) t,q,lO,stI,iH]
  ·rcases b with e|e
   ·exact .inr ⟨L,e⟩
   ·exact .inr e
theorem aIL(h:Z[p]?=ak (aX keep many tk ls ts ov un))(hz:bN ls<=100000):zD [.aE p] Z=aH (.lst (aM (stI 1 ls))) Z:=by
 have g:p<Z.length:=(cR.mp h).1;have h1:(Z++[Cell.lst []])[p]?=ak (aX keep many tk ls ts ov un):=by rw[jA g];exact h
 have o:=zT (Y:=[aF p,aF Z.length,aA 1,aq]) h1 rfl;have b:=CV (c:=.lst (cA ls)) o;have la:=zW (c:=.lst (cA ls)) o;have hn:(fE (Z++[Cell.lst []]) p "Halves" "levels" (iV keep many tk ls ts ov un) (.lst (cA ls)))[Z.length]?=ak (.lst (aM [])):=by
  unfold fE;rw[jA (by simp),eP (by omega)];simp[aM]
 obtain⟨U,B,q,f⟩:=Um (n0:=Z.length) (aF p) (λZ'=>jD Z' (.aE (Z++[Cell.lst []]).length)=ak (cA ls)) ls [] 1 aq _ hn (by simpa using hz) (λd=>by
  refine CB (tE ?_);rw[eP (by simp)];exact la)
 rw[QC]at q;have e1:(vO 0 "levels" (nJ (jJ (dO ["Halves"] "levels" aP)) (gN 3) OY)) [aF p,aF Z.length,aA 1,aq] (Z++[.lst []])=eS [aF p,aF Z.length,aA U,B] ((Z++[Cell.lst []]).set Z.length (.lst (aM (stI 1 ls)))):=by
  refine atQ (j:=Z.length) (x:=.lst (aM (stI 1 ls))) (fd:=.lst (cA ls)) (c:=.lst (cA ls)) rfl h1 rfl rfl rfl ?_ (by simp) (by omega) (by show gU _ _;exact OO _ _) (λj d z=>?_)
  ·rw[wI (S:=srcOf (.aE (Z++[Cell.lst []]).length) (cA ls)) (Z':=fE (Z++[Cell.lst []]) p "Halves" "levels" (iV keep many tk ls ts ov un) (.lst (cA ls))) (by
    unfold jJ;rw[cV b];have:=CB (tE la);simp only[this])]
   exact q
  ·match j,z with
   |0,z=>exact .inl z
   |1,z=>exact .inl z
   |2,z=>cases z;exact .inr (by simp[Cl])
   |3,z =>
    rcases f with e|⟨L,e⟩
    ·subst e;cases z
    ·subst e;cases z;refine .inr ?_;simp only[Cl];exact EF λa ha=>by obtain⟨x,_,rfl⟩:=oU.mp ha;simp only[Cl]
   |j+4,z=>simp at z
 rw[xN]at e1;show trim Z (bU (Md [aF p,aq,aq,aq] Z))=_;unfold Md;rw[bH (Y1:=[aF p,aF Z.length,aq,aq]) (Z':=Z++[.lst []]) (by simp)];rw[bH (Y1:=[aF p,aF Z.length,aA 1,aq]) (Z':=Z++[.lst []]) (by simp)];rw[bH e1];have i:bK (KR 1) [aF p,aF Z.length,aA U,B] (Z++[.lst (aM (stI 1 ls))])=ak (.ret (.lst (aM (stI 1 ls))),[aF p,aF Z.length,aA U,B],Z++[.dead]):=by
  unfold bK;rw[eR (x:=A.lst (aM (stI 1 ls))) (Z':=Z++[.dead]) (by simp)]
 rw[i];simp only[bU];exact LC (by simp only[Cl];exact OO _ _)
end
open PyProof.Rows (step_dedup)
theorem Xz{ns:ao az}:∀{acc:ao az} {x:az},x∈ns.foldl ez acc<->x∈acc\/x∈ns:=by
 induction ns with
 |nil=>intro acc x;simp
 |cons n ns ih =>
  intro acc x;rw[List.foldl_cons,ih];unfold ez;split
  ·rename_i h;simp only[Ox,uW]at h;obtain⟨y,j,e⟩:=h;subst e;constructor
   ·rintro(q|q)
    ·exact .inl q
    ·exact .inr (by simp[q])
   ·rintro(q|q)
    ·exact .inl q
    ·rcases dY.mp q with r|r
     ·exact .inl (by rw[r];exact j)
     ·exact .inr r
  ·simp[or_assoc]
theorem ar3{ns:ao az}:∀{acc:ao az},acc.Nodup->(ns.foldl ez acc).Nodup:=by
 induction ns with
 |nil=>intro acc h;exact h
 |cons n ns ih =>
  intro acc h;rw[List.foldl_cons];refine ih ?_;unfold ez;split
  ·exact h
  ·rename_i q;refine YK.mpr ⟨h,by simp,λa ha b hb=>?_⟩;simp only[kL]at hb;subst hb;intro e;subst e;exact q (by simp only[Ox,uW];exact⟨a,ha,rfl⟩)
section
variable{p:a4}{keep many tk:az}{row:ao Rn}{Z:aG}{ls:ao (ao az)}{ts:ao az}{ov un:az}
theorem LK(h:Z[p]?=ak (aX keep many tk ls ts ov un))(hz:bN ls<=60000){Y:Ev}(j:(Y[0]?).join=(aF p)):cU "stand_ins" [("Halves",bZ 1 [] zD)] aP a0 Y Z=aH (.lst (aM (stI 1 ls))) Z :=
 jX h rfl j (as:=[]) (das:=[]) (by simp) rfl (by simpa using aIL h (by omega))
theorem aIY(h:Z[p]?=ak (aX keep many tk ls ts ov un))(hz:bN ls<=60000):KC [.aE p] Z=aH (.lst (((stI 1 ls).map (·.1)).map A.int)) Z:=by
 have q:=LK h hz (Y:=[aF p]) rfl;have hl:=BX 1 ls;have e:Mj [aF p] Z=aH (.lst ((stI 1 ls).map λr=>A.int r.1)) Z:=by
  unfold Mj;exact GB (S:=srcOf (.lst (aM (stI 1 ls))) (aM (stI 1 ls))) (stI 1 ls) bY (λr=>A.int r.1) (λY=>∃y,Y=[y]) (λa b e=>by simp only[bY,A.tup.injEq,nX,A.int.injEq]at e;rw[e.1]) (by
   unfold jJ;rw[cV q];rfl) (λ_=>rfl) ⟨aq,rfl⟩ rfl (by omega) (λr _ Y ⟨y,e⟩ j=>by subst e;exact⟨[ak (bY r)],⟨_,rfl⟩,by simp,by simp[bY]⟩) (λn _=>by simp[Cl])
 show trim Z (bU (Ml [aF p] Z))=_;unfold Ml bK;rw[eR e];simp only[bU,tN];exact iK rfl
theorem auJ(h:Z[p]?=ak (aX keep many tk ls ts ov un))(hz:bN ls<=60000){Y:Ev}(j:(Y[0]?).join=(aF p)):cU "kept" [("Halves",bZ 1 [] KC)] aP a0 Y Z=aH (.lst (((stI 1 ls).map (·.1)).map A.int)) Z :=
 jX h rfl j (as:=[]) (das:=[]) (by simp) rfl (by simpa using aIY h hz)
theorem aIS(h:Z[p]?=ak (aX keep many tk ls ts ov un))(hz:bN ls<=60000)(hd:(qP ((stI 1 ls).map (·.1))).length<4000):ZA [.aE p] Z=aH (.aE Z.length) (Z++[.lst ((sortI (qP ((stI 1 ls).map (·.1)))).map A.int)]):=by
 have q:=auJ h hz (Y:=[aF p]) rfl;have hl:=BX 1 ls;have e:RW ax (cU "kept" [("Halves",bZ 1 [] KC)] aP a0) [aF p] Z=aH (.aE Z.length) (Z++[.lst ((sortI (qP ((stI 1 ls).map (·.1)))).map A.int)]):=by
  unfold RW;rw[cV q];have j:(eU Z (.lst (((stI 1 ls).map (·.1)).map A.int))).bind intsOf=ak ((stI 1 ls).map (·.1)):=by
   show intsOf (((stI 1 ls).map (·.1)).map A.int)=_;exact DC _
  simp only[j];rw[a7 hd];rfl
 show trim Z (bU (Lu [aF p] Z))=_;unfold Lu bK;rw[eR e];simp only[bU];exact ahO
theorem aIR(h:Z[p]?=ak (aX keep many tk ls ts ov un)):BD [.aE p] Z=aH (.int (ov+un)) Z:=by
 have j:=iW (f := "over") (Y:=[aF p]) (i:=0) h rfl rfl;have f2:=iW (f := "under") (Y:=[aF p]) (i:=0) h rfl rfl;show trim Z (bU (Mh [aF p] Z))=_;unfold Mh bK;rw[eR (x:=A.int (ov+un)) (Z':=Z) (by unfold aC;rw[cV j,cV f2];simp)];simp only[bU];exact iK rfl
theorem aeE(h:Z[p]?=ak (aX keep many tk ls ts ov un)):RD [.aE p] Z=aH (.int many) Z:=by
 have j:=iW (f := "many") (Y:=[aF p]) (i:=0) h rfl rfl;show trim Z (bU (Lw [aF p] Z))=_;unfold Lw bK;rw[eR j];simp only[bU];exact iK rfl
theorem aIO(h:Z[p]?=ak (aX keep many tk ls ts ov un)):YZ [.aE p] Z=aH (.int tk) Z:=by
 have j:=iW (f := "taken") (Y:=[aF p]) (i:=0) h rfl rfl;show trim Z (bU (Ls [aF p] Z))=_;unfold Ls bK;rw[eR j];simp only[bU];exact iK rfl
end
theorem acJ:∀(m n:a4) (v:a4) (f:az) (Z:aG),v<2 ^ m->m<n->lK XF XD n [aA v,aA f] Z=eS [aA 0,aA (f+kS v)] Z
 |m,n,v,f,Z,hv,hn=>by
  obtain⟨n,rfl⟩:∃j,n=j+1:=⟨n-1,by omega⟩
  by_cases h:v=0
  ·subst h;rw[WG (Z1:=Z) (by simp[XF]),EH];simp
  ·match m,hv,hn with
   |0,hv,_=>simp at hv;omega
   |m+1,hv,hn =>
    have q:qB (v:az) 2:=⟨by decide,by decide⟩;have pos:0<v:=by omega
    have e:XD [aA v,aA f] Z=eS [aA ((v/2:a4):az),aA (f+1)] Z:=by
     simp[XD,q]
    rw[OE (Z1:=Z) (by simp[XF,pos]) e,acJ m n (v/2) (f+1) Z (by rw[YC]at hv;omega) (by omega),yR pos];rw[show f+1+((kS (v/2):a4):az)=f+((kS (v/2)+1:a4):az)by omega]
theorem aI7(v:a4)(hv:v<2 ^ 100)(Z:aG):Pt [.int v] Z=aH (.int (kS v)) Z:=by
 have q:=acJ 100 1000000 v 0 Z hv (by omega);rw[QL]at q;show trim Z (bU (Lm [aA v,aq] Z))=_;unfold Lm;rw[bH (Y1:=[aA v,aA 0]) (Z':=Z) (by simp)];rw[bH (Y1:=[aA 0,aA (kS v)]) (Z':=Z) (by exact q)];simp[iK]
theorem Bc(x:az):∀rs:ao Rn,((rs.filter λr=>decide (r.1<=x)).map (·.2)).sum=bW rs x
 |[]=>rfl
 |r::rs=>by
  rw[bW,<-Bc x rs]
  by_cases h:r.1<=x <;> simp[h]
theorem aIF(src:A)(rs:ao Rn)(x:az)(Z:aG)(q:∀L,jD (Z++L) src=ak (aM rs))(hl:rs.length<=100000):JZ [src,.int x] Z=aH (.int (bW rs x)) Z:=by
 have B:=q [];rw[pY]at B;have e:La [ak src,aA x] Z=aH (.lst ((rs.filter λr=>decide (r.1<=x)).map λr=>A.int r.2)) Z:=by
  unfold La;exact RY (S:=srcOf src (aM rs)) rs bY (λr=>A.int r.2) (λr=>decide (r.1<=x)) (λj=>∃y z,j=[y,z,aA x]) (λa b e=>by simp only[bY,A.tup.injEq,nX,A.int.injEq,uZ]at e;rw[e.1,e.2];exact⟨rfl,rfl⟩) (by
   unfold jJ;rw[cV (x:=src) (Z':=Z) (by simp)];simp only[B]) (λU=>q _) ⟨aq,aq,rfl⟩ rfl (by omega) (λr _ j ⟨y,z,e⟩ U=>by subst e;exact⟨[aA r.1,aA r.2,aA x],⟨_,_,rfl⟩,by simp[bY],by simp,by simp⟩) (λn _=>by simp[Cl])
 have c:intsOf ((rs.filter λr=>decide (r.1<=x)).map λr=>A.int r.2)=ak ((rs.filter λr=>decide (r.1<=x)).map (·.2)):=by
  have:=DC ((rs.filter λr=>decide (r.1<=x)).map (·.2));rw[tN]at this;exact this
 show trim Z (bU (Lb [ak src,aA x] Z))=_;unfold Lb bK;rw[eR (x:=A.int (bW rs x)) (Z':=Z) (by
  unfold aU;rw[cV (x:=[A.lst ((rs.filter λr=>decide (r.1<=x)).map λr=>A.int r.2)]) (Z':=Z) (by unfold aB;rw[cV e];simp)];rw[<-Bc];simp[c])]
 simp only[bU];exact iK rfl
section
variable{Z Z' KH:aG}{Y:Ev}
theorem LS{f g:Ev->Mo bh}(h:f Y Z=aH au Z'):uA f g Y Z=g Y Z':=by
 unfold uA;rw[cV h];rfl
theorem sZ{f:Ev->Mo bh}{b:bh}(h:f Y Z=aH b Z'):mG f Y Z=aH (!b) Z':=by
 unfold mG;rw[cV h];rfl
theorem gR{f:Ev->Mo A}{b:bh}(h:f Y Z=aH (.bl b) Z'):cF f Y Z=aH b Z':=by
 unfold cF;rw[cV h];rfl
theorem Xj{g:A->A->Mo A}{f1 f2:Ev->Mo A}{a b:A}{j:aG}{c:A}(h1:f1 Y Z=aH a Z')(h2:f2 Y Z'=aH b KH)(q:g a b KH=aH c j):aC g f1 f2 Y Z=aH c j:=by
 unfold aC;rw[cV h1,cV h2,q]
theorem eV{g:A->A->Mo A}{f1 f2:Ev->Mo A}{a b c:A}(h1:f1 Y Z=aH a Z)(h2:f2 Y Z=aH b Z)(j:g a b Z=aH c Z):aC g f1 f2 Y Z=aH c Z:=Xj h1 h2 j
theorem nA{t:Ev->Mo bh}{s:MS}(h:t Y Z=aH au Z'):eM t s fM Y Z=eS Y Z':=by
 unfold eM;rw[eR h];rfl
theorem mC{f:Ev->Mo A}{i:a4}{a:A}(h:f Y Z=aH a Z'):bO f (gN i) Y Z=eS (Y.set i (ak a)) Z':=by
 unfold bO;rw[eR h];rfl
theorem aQ{i:a4}{a:A}(h:(Y[i]?).join=ak a):dN i Y Z=aH a Z:=by simp[h]
theorem ad9(n:az)(Z:aG):QU [.int n] Z=aH (.bl ax) Z:=by simp[QU,acU]
end
theorem Ef(L:ao az):cY 8 (.lst (L.map A.int))=ax:=by simp[cY]
theorem amU{Z:aG}{k:a4}{L:ao az}(h:Z[k]?=ak (.lst (L.map A.int))):res Z 6 (.aE k)=ak (.lst (L.map A.int)):=by
 have j:(L.map A.int).all (cY 8)=ax:=by simp[cY]
 rw[amV h,Ye _ j];rfl
section
variable{Z:aG}{Y:Ev}
theorem aN{f:Ev->Mo A}{fs:Ev->Mo (ao A)}{a:A}{as:ao A}(h:f Y Z=aH a Z)(j:fs Y Z=aH as Z):aB f fs Y Z=aH (a::as) Z:=by
 unfold aB;rw[cV h,cV j];rfl
theorem bG:a0 Y Z=aH [] Z:=rfl
theorem abD(n:az)(L:ao az):uS ax (.int n) (.lst (L.map A.int)) Z=aH (.bl (!decide (n∈L))) Z:=by
 have B:res Z 6 (.int n)=(aA n):=vQ (by simp[cY]);have j:res Z 6 (.lst (L.map A.int))=ak (.lst (L.map A.int)):=vQ (Ef L);have U:cY 7 (.int n)=ax:=by simp[cY]
 have a:((L.map A.int).any λd=>gX 7 d (.int n))=decide (n∈L):=by
  rw[List.any_map];have e0:∀m:az,((λd=>gX 7 d (.int n)) ∘ A.int) m=decide (m=n):=λm=>by
   simp only[Function.comp,gX]
   by_cases q:m=n
   ·simp[q]
   ·simp[q]
  rw[show((λd=>gX 7 d (.int n)) ∘ A.int)=λm=>decide (m=n)from funext e0];clear j
  induction L with
  |nil=>rfl
  |cons m L ih =>
   rw[QF,ih]
   by_cases hm:m=n
   ·simp[hm]
   ·have:¬n=m:=λz=>hm z.symm;simp[hm,this]
 unfold uS;rw[B,j];simp only[U,Ef L,Bool.and_self,fI,a]
end
section
variable{Z Z':aG}{Y:Ev}
theorem eO{F:ao A->Mo A}{fs:Ev->Mo (ao A)}{n:a4}{as:ao A}{a:A}(h:fs Y Z=aH as Z)(hn:as.length=n)(j:F as Z=aH a Z'):aU (bR n F) fs Y Z=aH a Z':=by
 unfold aU;rw[cV h];unfold bR;rw[a7 hn];exact j
end
@[simp] theorem aL3{α:Type}(x y z u v w:α)(l:ao α):iE (x::y::z::u::v::w::l) 5=ak w:=XN _ 5
theorem xY{t:Ev->Mo bh}{f g:MS}{Y:Ev}{Z Z':aG}{b:bh}(h:t Y Z=aH b Z'):eM t f g Y Z=if b then f Y Z' else g Y Z':=by
 unfold eM;rw[eR h]
theorem mB{g:ao A->Mo A}{fs:Ev->Mo (ao A)}{Y:Ev}{Z Z':aG}{as:ao A}{a:A}(h:fs Y Z=aH as Z)(j:g as Z=aH a Z'):aU g fs Y Z=aH a Z':=by
 unfold aU;rw[cV h];exact j
noncomputable def fW:ao (ao az)->ao (ao az)->ao (ao az)
 |[],os=>os
 |L::ls,[]=>L::ls
 |L::ls,ι::os=>(L++ι)::fW ls os
noncomputable def addW:ao az->ao az->ao az
 |[],j=>j
 |h::j,[]=>h::j
 |h::j,g::gs=>(h+g)::addW j gs
noncomputable def rP:ao az->a4->ao az
 |ts,0=>ts
 |[],n+1=>0::rP [] n
 |t::ts,n+1=>t::rP ts n
theorem Yr:∀(ls os:ao (ao az)),(fW ls os).length=max ls.length os.length
 |[],os=>by simp[fW]
 |L::ls,[]=>by simp[fW]
 |L::ls,ι::os=>by simp only[fW,eB,Yr ls os];omega
theorem Fw:∀(ts:ao az) (n:a4),(rP ts n).length=max ts.length n
 |ts,0=>by simp[rP]
 |[],n+1=>by simp only[rP,eB,Fw [] n,xC];omega
 |t::ts,n+1=>by simp only[rP,eB,Fw ts n];omega
theorem Am{P:az->Prop}(q:P 0):∀(ts:ao az) (n:a4),(∀t∈ts,P t)->∀t∈rP ts n,P t
 |ts,0,h=>h
 |[],n+1,h=>λt j=>by
  rcases dY.mp j with e|e
  ·subst e;exact q
  ·exact Am q [] n (by simp) t e
 |u::ts,n+1,h=>λt j=>by
  rcases dY.mp j with e|e
  ·subst e;exact h t (by simp)
  ·exact Am q ts n (λv hv=>h v (by simp[hv])) t e
theorem ZN:∀(ls os:ao (ao az)),dX (fW ls os)=dX ls+dX os
 |[],os=>by simp[fW,dX]
 |L::ls,[]=>by simp[fW,dX]
 |L::ls,ι::os=>by simp only[fW,dX,fJ,ZN ls os];omega
theorem ab6(x:az):∀(ls os:ao (ao az)),cX (fW ls os) x=cX ls x+cX os x
 |[],os=>by simp[fW,cX]
 |L::ls,[]=>by simp[fW,cX]
 |L::ls,ι::os=>by simp only[fW,cX,Ki,ab6 x ls os];omega
theorem To:∀(ls os:ao (ao az)),bN (fW ls os)=bN ls+bN os
 |[],os=>by simp[fW,bN]
 |L::ls,[]=>by simp[fW,bN]
 |L::ls,ι::os=>by simp only[fW,bN,fJ,To ls os];omega
theorem Xm:∀(j gs:ao az),iL (addW j gs)=iL j+iL gs
 |[],gs=>by simp[addW,iL]
 |h::j,[]=>by simp[addW,iL]
 |h::j,g::gs=>by simp only[addW,iL,Xm j gs];omega
theorem aeW{k:az}:∀{j gs:ao az} {ls os:ao (ao az)},HB k j ls->HB k gs os->HB k (addW j gs) (fW ls os)
 |[],gs,[],os,_,h=>by simpa[addW,fW]using h
 |h::j,[],L::ls,[],q,_=>by simpa[addW,fW]using q
 | h::j,g::gs,L::ls,ι::os,⟨c,b,B⟩,⟨a,U,z⟩=>⟨by omega,by
   show(h+g)*(2*k)<=2*dX (fW ls os);rw[ZN,Int.add_mul];omega,aeW B z⟩
 |[],_,_::_,_,h,_=>h.elim
 |_::_,_,[],_,h,_=>h.elim
 |_::_,[],_::_,_::_,_,h=>h.elim
 |_::_,_::_,_::_,[],_,h=>h.elim
theorem aHM{L:ao az}(ls os:ao (ao az)):fW (L::ls) os≠[]:=by cases os <;> simp[fW]
theorem aHL{ls os:ao (ao az)}(h:fW ls os=[]):ls=[]/\os=[]:=by
 cases ls with
 |nil=>exact⟨rfl,h⟩
 |cons L ls=>exact b4 h (aHM _ _)
theorem aeQ:∀{ls os:ao (ao az)},LN ls->LN os->LN (fW ls os)
 |[],os,_,h=>by simpa[fW]using h
 |L::ls,[],h,_=>by simpa[fW]using h
 |L::ls,ι::os,h1,h2=>by
  show LN ((L++ι)::fW ls os)
  by_cases e:fW ls os=[]
  ·obtain⟨rfl,rfl⟩:=aHL e;show L++ι≠[];intro z;exact h1 (List.append_eq_nil_iff.mp z).1
  ·exact QH e (aeQ (QG h1) (QG h2))
theorem Yb{n:az}:∀{ls os:ao (ao az)} {M:ao az},M∈fW ls os->n∈M->(∃L∈ls,n∈L)\/∃ι∈os,n∈ι
 |[],os,M,h,hn => .inr ⟨M,h,hn⟩
 |L::ls,[],M,h,hn => .inl ⟨M,h,hn⟩
 |L::ls,ι::os,M,h,hn=>by
  rcases dY.mp h with e|e
  ·subst e
   rcases hX.mp hn with q|q
   ·exact .inl ⟨L,by simp,q⟩
   ·exact .inr ⟨ι,by simp,q⟩
  ·rcases Yb e hn with⟨K,a,b⟩|⟨K,a,b⟩
   ·exact .inl ⟨K,by simp[a],b⟩
   ·exact .inr ⟨K,by simp[a],b⟩
section
variable{k ov un lW oE:az}{ls os:ao (ao az)}{ts us:ao az}{row pI:ao Rn}
theorem HV.join(h:HV k ls ts ov un row)(g:HV k os us lW oE pI):HV k (fW ls os) (rP ts os.length) (ov+lW) (un+oE) (row++pI):=by
 obtain⟨j,h1,h2⟩:=h.DL;obtain⟨z,g1,g2⟩:=g.DL;refine⟨by rw[Yr,Fw,h.len],Am (.inl rfl) ts _ h.GG,by rw[ZN,h.wt,g.wt,uD],λx=>?_,λM q n hn=>?_,⟨addW j z,aeW h1 g1,by rw[Xm,h2,g2];omega⟩,aeQ h.last g.last,by have:=h.CL;have:=g.CL;omega,by have:=h.BW;have:=g.BW;omega⟩
 ·have a:=h.cnt x;have b:=g.cnt x;rw[ab6,KZ];omega
 ·rw[tO]
  rcases Yb q hn with⟨K,a,b⟩|⟨K,a,b⟩
  ·exact mD _ (h.mem K a n b)
  ·exact lD _ (g.mem K a n b)
theorem HV.rowOf(h:HV k ls ts ov un row)(h1:aS pI=aS row)(h2:∀x,bW pI x=bW row x)(q:∀n,n∈row.map (·.1)->n∈pI.map (·.1)):HV k ls ts ov un pI :=
 ⟨h.len,h.GG,by rw[h.wt,h1],λx=>by rw[h2];exact h.cnt x,λL j n hn=>q n (h.mem L j n hn),h.DL,h.last,h.CL,h.BW⟩
theorem Uk:∀(rs:ao Rn) (n t:az),aS (gJ rs n t)=aS rs+t
 |[],n,t=>by simp[gJ,aS]
 |r::rs,n,t=>by
  simp only[gJ];split
  ·simp only[aS];omega
  ·simp only[aS,Uk rs n t];omega
theorem Te(x:az):∀(rs:ao Rn) (n t:az),bW (gJ rs n t) x=bW rs x+if n<=x then t else 0
 |[],n,t=>by simp[gJ,bW]
 |r::rs,n,t=>by
  simp only[gJ];split
  ·rename_i e;simp only[bW,e];split <;> omega
  ·simp only[bW,Te x rs n t];omega
theorem UP:∀(rs:ao Rn) (n t m:az),m∈rs.map (·.1)\/m=n->m∈(gJ rs n t).map (·.1)
 |[],n,t,m,h=>by simpa[gJ]using h
 |r::rs,n,t,m,h=>by
  simp only[gJ];split
  ·rename_i e
   rcases h with h|h
   ·simpa using h
   ·subst h;simp[e]
  ·rcases h with h|h
   ·rcases dY.mp h with q|q
    ·simp[q]
    ·exact iP _ (UP rs n t m (.inl q))
   ·exact iP _ (UP rs n t m (.inr h))
theorem HV.bnd(h:HV k ls ts ov un row)(z:∀r∈row,0<=r.2)(x:az):0<=bW row x/\bW row x<=aS row/\max 0 (cX ls x-ov)<=bW row x/\bW row x<=min (aS row) (cX ls x+un)/\min (aS row) (cX ls x+un)-max 0 (cX ls x-ov)<=ov+un:=by
 have a:=h.cnt x;have b:∀rs:ao Rn,(∀r∈rs,0<=r.2)->0<=bW rs x/\bW rs x<=aS rs:=by
  intro rs
  induction rs with
  |nil=>intro _;simp[bW,aS]
  |cons r rs ih =>
   intro q;have:=ih λs j=>q s (by simp[j]);have:=q r (by simp);simp only[bW,aS];split <;> omega
 have c:=b row z;omega
end
noncomputable section
def Kv:Ev->Mo A :=
 (nI au 1 [1] (jJ aP) (gN 0) (cF (aC wH (aC cW aP cK) aW)) (aC cW aP cJ))
def Kw:MS :=
 (bK (aU DP (aB Kv a0)))
def Pm:ao A->Mo A:=cM 2 Kw
def Kx:Ev->Mo A :=
 (nI au 1 [1] (jJ aP) (gN 0) (cF (aC rE (aC cW aP cK) aW)) (aC cW aP cJ))
def Ky:MS :=
 (bK (aU DP (aB Kx a0)))
def Pn:ao A->Mo A:=cM 2 Ky
def Mg:MS :=
 (bK (aU (Jh ["Halves"]) (aB aW (aB (cG "Halves") a0))))
def RG:ao A->Mo A:=cM 2 Mg
def Mm:MS :=
 (bK (qW (aB (aU rD (aB cK (aB (aC (fU) aW (dO ["Halves"] "over" aP)) a0))) (aB (aU AJ (aB (dO ["Halves"] "many" aP) (aB (aC cH aW (dO ["Halves"] "under" aP)) a0))) a0))))
def RH:ao A->Mo A:=cM 2 Mm
def Lp:MS :=
 (LO (aC cH (GC bL eE cK) kG) bL eE)
def ac4:Ev->Mo A :=
 (nI au 2 [] (Af bL) (mM 2 (eN (gN 0) (eN (gN 1) lJ))) tU (qW (aB aP (aB aW a0))))
def Lq:MS :=
 (aV (bO Ae (gN 2))
  (aV (nJ (jJ (aC cH aP aW)) (mM 2 (eN (gN 3) (eN (gN 4) lJ))) Lp)
  (bK ac4)))
def YX:ao A->Mo A:=cM 5 Lq
def acV:Ev->Mo A :=
 (nI au 2 [] (jJ aP) (mM 2 (eN (gN 0) (eN (gN 1) lJ))) tU aW)
def aG6:MS :=
 (bK (aU DP (aB acV a0)))
def FF:ao A->Mo A:=cM 1 aG6
def ac3:Ev->Mo A :=
 (nI au 2 [1] (jJ aP) (mM 2 (eN (gN 0) (eN (gN 1) lJ))) (cF (aC rE aP bL)) aW)
def aG7:MS :=
 (bK (aU DP (aB ac3 a0)))
def QX:ao A->Mo A:=cM 2 aG7
def Ly:MS :=
 (bK (cU "bounds" [("Halves",bZ 2 [] RH)] aP (aB (aU (bR 2 Pm) (aB (cU "stand_ins" [("Halves",bZ 1 [] zD)] aP a0) (aB aW a0))) a0)))
def BC:ao A->Mo A:=cM 2 Ly
def Mn:MS :=
 (bK (cU "bounds" [("Halves",bZ 2 [] RH)] aP (aB (aU (bR 2 Pn) (aB (cU "stand_ins" [("Halves",bZ 1 [] zD)] aP a0) (aB aW a0))) a0)))
def BE:ao A->Mo A:=cM 2 Mn
def Me:MS :=
 (bK (aU (bR 2 QT) (aB (cU "stand_ins" [("Halves",bZ 1 [] zD)] aP a0) (aB aW a0))))
def vG:ao A->Mo A:=cM 2 Me
def Lz:MS :=
 (kN (cU "lay" [("Halves",bZ 3 [] KA)] aP (aB eE (aB bL a0))))
def Ma:MS :=
 (aV (nJ (KW (GA 1 "levels" (aU (VX au) (aB (dO ["Halves"] "levels" aW) a0)))) (mM 2 (eN (gN 2) (eN (gN 3) lJ))) Lz)
  (aV (mV ["Halves"] "over" aP (aC cH (dO ["Halves"] "over" aP) (dO ["Halves"] "over" aW)))
  (aV (mV ["Halves"] "under" aP (aC cH (dO ["Halves"] "under" aP) (dO ["Halves"] "under" aW)))
  (kN (cU "settle" [("Halves",bZ 1 [] RF)] aP a0)))))
def ZD:ao A->Mo A:=cM 4 Ma
def Lx:MS :=
 (aV (eM (uA (mG (cF (cU "same_kind" [("Halves",bZ 2 [] RG)] aP (aB aW a0)))) (cF (aC wG (dO ["Halves"] "keep" aW) (dO ["Halves"] "keep" aP))))
   (GR "Unlike" (aB (cS "only a pouch of the same class and with the same keep can be joined") a0))
   fM)
  (aV (kN (cU "look_room" [("Halves",bZ 2 [] RC)] aP (aB (dO ["Halves"] "many" aW) a0)))
  (aV (kN (cU "take_in" [("Halves",bZ 2 [] ZD)] aP (aB aW a0)))
  (aV (mV ["Halves"] "many" aP (aC cH (dO ["Halves"] "many" aP) (dO ["Halves"] "many" aW)))
  (mV ["Halves"] "taken" aP (aC cH (dO ["Halves"] "taken" aP) (dO ["Halves"] "taken" aW)))))))
def ZC:ao A->Mo A:=cM 2 Lx
end
open PySem L2 V2
def layA:a4->ao (ao az)->ao (ao az)->ao (ao az)
 |_,ls,[]=>ls
 |n,ls,ι::os=>layA (n+1) (fF ι n ls) os
def vV:a4->ao az->a4->ao az
 |_,ts,0=>ts
 |n,ts,m+1=>vV (n+1) (fZ n ts) m
theorem Gg:∀(os pre ls:ao (ao az)),layA pre.length (pre++ls) os=pre++fW ls os
 |[],pre,ls=>by cases ls <;> simp[layA,fW]
 |ι::os,pre,[]=>by
  rw[layA,UM];have:=Gg os (pre++[ι]) [];simp only[fJ,YL,pY]at this;show layA (pre.length+1) (pre++[ι]) os=_;rw[this];simp[fW]
 |ι::os,pre,L::ls=>by
  rw[layA,UM];have:=Gg os (pre++[L++ι]) ls;simp only[fJ,YL,iH,aeH]at this;show layA (pre.length+1) (pre++(L++ι)::ls) os=_;rw[this];rfl
theorem Ge:∀(pre ts:ao az),fZ pre.length (pre++ts)=pre++xR ts
 |[],ts=>rfl
 |t::pre,ts=>by rw[eB,vE,fZ,Ge pre ts];rfl
theorem Gb:∀(m:a4) (pre ts:ao az),vV pre.length (pre++ts) m=pre++rP ts m
 |0,pre,ts=>by simp[vV,rP]
 |m+1,pre,[]=>by
  rw[vV,Ge];have:=Gb m (pre++[0]) [];simp only[fJ,YL,pY]at this;show vV (pre.length+1) (pre++[0]) m=_;rw[this];simp[rP]
 |m+1,pre,t::ts=>by
  rw[vV,Ge];have:=Gb m (pre++[t]) ts;simp only[fJ,YL,iH,aeH]at this;show vV (pre.length+1) (pre++t::ts) m=_;rw[this];rfl
section
variable{p o:a4}{keep many tk mY uC:az}{row pI:ao Rn}{Z:aG}{ls os:ao (ao az)}{ts us:ao az}{ov un lW oE:az}
theorem aEO(h:Z[o]?=ak (aX keep mY uC os us lW oE)){Y:Ev}(h1:Y[1]?=ak (aF o)):GA 1 "levels" (aU (VX au) (aB (dO ["Halves"] "levels" aW) a0)) Y Z=aH (.lst (cA os)) Z:=by
 have U:o<Z.length:=(cR.mp h).1;have j:mH ["Halves"] 1 "levels" Y Z=ak (o,("Halves" : a9),iV keep mY uC os us lW oE,Fd.lst (cA os)):=by
  unfold mH;rw[h1];simp only[Option.join_some,h];rfl
 have L:=CV (c:=.lst (cA os)) j;have la:=zW (c:=.lst (cA os)) j;refine ag2 (r:=(.ok (.lst (cA os)),Z)) ⟨o, "Halves",iV keep mY uC os us lW oE,.lst (cA os),.lst (cA os),Z.set o (.ins "Halves" (putD "levels" (.val (.aE Z.length)) (iV keep mY uC os us lW oE))),.lst (cA os),.lst (cA os),.lst (cA os),h1,h,rfl,rfl,?_,by simp,fP U,rfl,λk x a z => .inl (by rw[eP (cQ a)]at z;exact z),.inl rfl,acC _ _,?_⟩
 ·have q:=tE la;have B:=CB q;refine mB (aN L bG) ?_;simp[q,B]
 ·rw[lO];show _=(Rs.ok (A.lst (cA os)),Z.set o (aX keep mY uC os us lW oE));rw[vN h]
theorem Ts(j:av A)(ok:aG->Prop)(aL:∀Z,ok Z):∀(os ls:ao (ao az)) (ts:ao az) (n:a4) (Z:aG) (y z:av A),Z[p]?=ak (aX keep many tk ls ts ov un)->ts.length=ls.length->n+os.length<=60->ls.length<=60->bN ls+bN os<=200000 ->
  ∃U B,fO ok (mM 2 (eN (gN 2) (eN (gN 3) lJ))) Lz (rU n (cA os)) [aF p,j,y,z] Z=eS [aF p,j,U,B] (Z.set p (aX keep many tk (layA n ls os) (vV n ts os.length) ov un))
 | [],ls,ts,n,Z,y,z,h,_,_,_,_=>⟨y,z,by
   show fO _ _ _ [] _ _=_;rw[DW (aL _)];simp only[layA,xC,vV];rw[vN h]⟩
 |ι::os,ls,ts,n,Z,y,z,h,b,hn,hl,c=>by
  have d:p<Z.length:=(cR.mp h).1;simp only[eB]at hn;rw[bN]at c;have q:=Nz ι n h (by omega) (by omega) b (λL f=>by have:=GH f;omega) (by omega);obtain⟨U,B,e⟩:=Ts j ok aL os (fF ι n ls) (fZ n ts) (n+1) (Z.set p (aX keep many tk (fF ι n ls) (fZ n ts) ov un)) (aA n) (ak (.lst (ι.map A.int))) (lU d) (by rw[CY,CW,b]) (by omega) (by rw[CY];omega) (by rw[LD];omega);refine⟨U,B,?_⟩;show fO ok _ _ (A.tup [.int n,.lst (ι.map A.int)]::rU (n+1) (cA os)) _ _=_;rw[DV (aL _) (Y0:=[aF p,j,aA n,dG (ι.map A.int)]) (Z0:=Z) (by simp) (Y1:=[aF p,j,aA n,dG (ι.map A.int)]) (Z1:=Z.set p (aX keep many tk (fF ι n ls) (fZ n ts) ov un)) (by
   unfold Lz;exact pT (a:=.bQ) (jX h rfl rfl (as:=[.lst (ι.map A.int),.int n]) (das:=[]) (by simp) rfl (by simpa using q))),e,lO]
  rfl
theorem aIH(w:1<=keep)(G:keep<=100000)(v:aS row+aS pI<=1000000000000)(h:Z[p]?=ak (aX keep many tk ls ts ov un))(B:Z[o]?=ak (aX keep mY uC os us lW oE))(hv:HV keep ls ts ov un row)(s:HV keep os us lW oE pI)(hz:bN ls+bN os<=190000)(h1:0<=aS row)(h2:0<=aS pI) :
  ∃U g c d,HV keep U g c d (row++pI)/\bN U<=bN ls+bN os/\(∀L∈U,(L.length:az)<2*keep)/\ZD [.aE p,.aE o] Z=aH (.bQ) (Z.set p (aX keep many tk U g c d)):=by
 have k:p<Z.length:=(cR.mp h).1;have I:=hv.short (by omega);have s2:=s.short (by omega);obtain⟨y,z,e⟩:=Ts (aF o) (λZ'=>eU Z' (.lst (cA os))=ak (cA os)) (λ_=>rfl) os ls ts 0 Z aq aq h hv.len (by omega) (by omega) (by omega);have F:layA 0 ls os=fW ls os:=by simpa using Gg os [] ls
 have E:vV 0 ts os.length=rP ts os.length:=by simpa using Gb os.length [] ts
 rw[F,E]at e;have l:=hv.join s;have tz:=To ls os;generalize fW ls os=q at e l tz;generalize rP ts os.length=j at e l;obtain⟨U,g,c,d,u,K,t,r⟩:=aeA (many:=many) (tk:=tk) (p:=p) (Z:=Z.set p (aX keep many tk q j (ov+lW) (un+oE))) w G (by rw[uD];exact v) (lU k) l (by omega);rw[lO]at r;refine⟨U,g,c,d,u,by omega,t,?_⟩;have n:(Z.set p (aX keep many tk q j ov un))[p]?=ak (aX keep many tk q j ov un):=lU k;have m:(Z.set p (aX keep many tk q j (ov+lW) un))[p]?=ak (aX keep many tk q j (ov+lW) un):=lU k;have D:=iW (f := "over") (Y:=[aF p,aF o,y,z]) (i:=0) n rfl rfl;have f2:dO ["Halves"] "over" aW [aF p,aF o,y,z] (Z.set p (aX keep many tk q j ov un))=aH (.int lW) (Z.set p (aX keep many tk q j ov un)):=by
  by_cases e:o=p
  ·subst e;rw[h]at B;simp only[iZ,Cell.ins.injEq,nX,wU,Fd.val.injEq,A.int.injEq,true_and,uZ]at B;have:=iW (f := "over") (Y:=[aF o,aF o,y,z]) (i:=1) n rfl rfl;rw[this,B.2.2.2.2.1]
  ·exact iW (f := "over") (i:=1) (by rw[eP (cQ e)];exact B) rfl rfl
 have C:=iW (f := "under") (Y:=[aF p,aF o,y,z]) (i:=0) m rfl rfl;have x:dO ["Halves"] "under" aW [aF p,aF o,y,z] (Z.set p (aX keep many tk q j (ov+lW) un))=aH (.int oE) (Z.set p (aX keep many tk q j (ov+lW) un)):=by
  by_cases e:o=p
  ·subst e;rw[h]at B;simp only[iZ,Cell.ins.injEq,nX,wU,Fd.val.injEq,A.int.injEq,true_and,uZ]at B;have:=iW (f := "under") (Y:=[aF o,aF o,y,z]) (i:=1) m rfl rfl;rw[this,B.2.2.2.2.2]
  ·exact iW (f := "under") (i:=1) (by rw[eP (cQ e)];exact B) rfl rfl
 show trim Z (bU (Ma [aF p,aF o,aq,aq] Z))=_;unfold Ma;rw[bH (Y1:=[aF p,aF o,y,z]) (Z':=Z.set p (aX keep many tk q j ov un)) (by
  have H:=aEO B (Y:=[aF p,aF o,aq,aq]) rfl;rw[wI (S:=enumSrc (.lst (cA os)) (cA os)) (Z':=Z) (by unfold KW;rw[cV H];rfl)];exact e)]
 rw[bH (rO (b:=.int (ov+lW)) (by rfl) n (by simp) (eV D f2 (by simp))),Wk,lO];rw[bH (rO (b:=.int (un+oE)) (by rfl) m (by simp) (eV C x (by simp))),Wh,lO];rw[pT (a:=.bQ) (Z':=Z.set p (aX keep many tk U g c d)) (by exact jX (lU k) rfl rfl (as:=[]) (das:=[]) (by simp) rfl (by simpa using r))];simp only[bU];exact iK (by simp)
end
theorem Bd(x:az):∀rs:ao Rn,((rs.filter λr=>decide (r.1<x)).map (·.2)).sum=bW rs (x-1)
 |[]=>rfl
 |r::rs=>by
  rw[bW,<-Bd x rs]
  by_cases h:r.1<x
  ·have:r.1<=x-1:=by omega
   simp[h,this]
  ·have:¬r.1<=x-1:=by omega
   simp[h,this]
theorem aI5(rs:ao Rn)(x:az)(Z:aG)(hl:rs.length<=100000):Pm [.lst (aM rs),.int x] Z=aH (.int (bW rs x)) Z:=by
 have e:Kv [dG (aM rs),aA x] Z=aH (.lst ((rs.filter λr=>decide (r.1<=x)).map λr=>A.int r.2)) Z:=by
  unfold Kv;exact RY (S:=srcOf (.lst (aM rs)) (aM rs)) rs bY (λr=>A.int r.2) (λr=>decide (r.1<=x)) (λj=>∃y,j=[y,aA x]) (λa b e=>by simp only[bY,A.tup.injEq,nX,A.int.injEq,uZ]at e;rw[e.1,e.2];exact⟨rfl,rfl⟩) (by simp) (λq=>rfl) ⟨aq,rfl⟩ rfl (by omega) (λr _ j ⟨y,e⟩ q=>by subst e;exact⟨[ak (bY r),aA x],⟨_,rfl⟩,by simp,by simp[bY],by simp[bY]⟩) (λn _=>by simp[Cl])
 have z:intsOf ((rs.filter λr=>decide (r.1<=x)).map λr=>A.int r.2)=ak ((rs.filter λr=>decide (r.1<=x)).map (·.2)):=by
  have:=DC ((rs.filter λr=>decide (r.1<=x)).map (·.2));rw[tN]at this;exact this
 show trim Z (bU (Kw [dG (aM rs),aA x] Z))=_;unfold Kw bK;rw[eR (x:=A.int (bW rs x)) (Z':=Z) (by
  refine mB (aN e bG) ?_;rw[<-Bc];simp[z])]
 simp only[bU];exact iK rfl
theorem aI6(rs:ao Rn)(x:az)(Z:aG)(hl:rs.length<=100000):Pn [.lst (aM rs),.int x] Z=aH (.int (bW rs (x-1))) Z:=by
 have e:Kx [dG (aM rs),aA x] Z=aH (.lst ((rs.filter λr=>decide (r.1<x)).map λr=>A.int r.2)) Z:=by
  unfold Kx;exact RY (S:=srcOf (.lst (aM rs)) (aM rs)) rs bY (λr=>A.int r.2) (λr=>decide (r.1<x)) (λj=>∃y,j=[y,aA x]) (λa b e=>by simp only[bY,A.tup.injEq,nX,A.int.injEq,uZ]at e;rw[e.1,e.2];exact⟨rfl,rfl⟩) (by simp) (λq=>rfl) ⟨aq,rfl⟩ rfl (by omega) (λr _ j ⟨y,e⟩ q=>by subst e;exact⟨[ak (bY r),aA x],⟨_,rfl⟩,by simp,by simp[bY],by simp[bY]⟩) (λn _=>by simp[Cl])
 have z:intsOf ((rs.filter λr=>decide (r.1<x)).map λr=>A.int r.2)=ak ((rs.filter λr=>decide (r.1<x)).map (·.2)):=by
  have:=DC ((rs.filter λr=>decide (r.1<x)).map (·.2));rw[tN]at this;exact this
 show trim Z (bU (Ky [dG (aM rs),aA x] Z))=_;unfold Ky bK;rw[eR (x:=A.int (bW rs (x-1))) (Z':=Z) (by
  refine mB (aN e bG) ?_;rw[<-Bd];simp[z])]
 simp only[bU];exact iK rfl
section
variable{p o:a4}{keep many tk mY uC:az}{row pI:ao Rn}{Z:aG}{ls os:ao (ao az)}{ts us:ao az}{ov un lW oE:az}
theorem aeF(h:Z[p]?=ak (aX keep many tk ls ts ov un))(c:az):RH [.aE p,.int c] Z=aH (.tup [.int (max 0 (c-ov)),.int (min many (c+un))]) Z:=by
 have q:=iW (f := "over") (Y:=[aF p,aA c]) (i:=0) h rfl rfl;have f2:=iW (f := "under") (Y:=[aF p,aA c]) (i:=0) h rfl rfl;have j:=iW (f := "many") (Y:=[aF p,aA c]) (i:=0) h rfl rfl;have s2:(2:a4)<=bc:=by decide
 have B:(aU rD (aB cK (aB (aC (fU) aW (dO ["Halves"] "over" aP)) a0))) [aF p,aA c] Z=aH (.int (max 0 (c-ov))) Z:=mB (aN (a:=.int 0) (by simp) (aN (eV (a:=.int c) (b:=.int ov) (c:=.int (c-ov)) (by simp) q (by simp)) bG)) (by simp);have z:(aU AJ (aB (dO ["Halves"] "many" aP) (aB (aC cH aW (dO ["Halves"] "under" aP)) a0))) [aF p,aA c] Z=aH (.int (min many (c+un))) Z:=mB (aN j (aN (eV (a:=.int c) (b:=.int un) (c:=.int (c+un)) (by simp) f2 (by simp)) bG)) (by simp);show trim Z (bU (Mm [aF p,aA c] Z))=_;unfold Mm bK;rw[eR (x:=A.tup [.int (max 0 (c-ov)),.int (min many (c+un))]) (Z':=Z) (by
  unfold qW;rw[cV (aN B (aN z bG))];simp[s2])]
 simp only[bU];exact iK rfl
theorem aIE(h:Z[p]?=ak (aX keep many tk ls ts ov un))(hz:bN ls<=60000)(x:az):BC [.aE p,.int x] Z=aH (.tup [.int (max 0 (cX ls x-ov)),.int (min many (cX ls x+un))]) Z:=by
 have q:=LK h hz (Y:=[aF p,aA x]) rfl;have c:=aI5 (stI 1 ls) x Z (by rw[BX];omega);rw[LL,JU]at c;have b:=aeF h (cX ls x);show trim Z (bU (Ly [aF p,aA x] Z))=_;unfold Ly bK;rw[eR (x:=A.tup [.int (max 0 (cX ls x-ov)),.int (min many (cX ls x+un))]) (Z':=Z) (by
  exact jX h rfl rfl (as:=[.int (cX ls x)]) (das:=[]) (aN (eO (aN q (aN (aQ (by rfl)) bG)) rfl c) bG) rfl (by simpa using b))]
 simp only[bU];exact iK rfl
theorem aI9(h:Z[p]?=ak (aX keep many tk ls ts ov un))(hz:bN ls<=60000)(x:az):BE [.aE p,.int x] Z=aH (.tup [.int (max 0 (cX ls (x-1)-ov)),.int (min many (cX ls (x-1)+un))]) Z:=by
 have q:=LK h hz (Y:=[aF p,aA x]) rfl;have c:=aI6 (stI 1 ls) x Z (by rw[BX];omega);rw[LL,JU]at c;have b:=aeF h (cX ls (x-1));show trim Z (bU (Mn [aF p,aA x] Z))=_;unfold Mn bK;rw[eR (x:=A.tup [.int (max 0 (cX ls (x-1)-ov)),.int (min many (cX ls (x-1)+un))]) (Z':=Z) (by
  exact jX h rfl rfl (as:=[.int (cX ls (x-1))]) (das:=[]) (aN (eO (aN q (aN (aQ (by rfl)) bG)) rfl c) bG) rfl (by simpa using b))]
 simp only[bU];exact iK rfl
theorem aI0(y:1<=keep)(F:keep<=100000)(hm:many+mY<=1000000000)(G:many=aS row)(H:mY=aS pI)(h:Z[p]?=ak (aX keep many tk ls ts ov un))(q:Z[o]?=ak (aX keep mY uC os us lW oE))(hv:HV keep ls ts ov un row)(d:HV keep os us lW oE pI)(hz:bN ls+bN os<=190000) :
  ∃j U z B,HV keep j U z B (row++pI)/\bN j<=bN ls+bN os/\(∀L∈j,(L.length:az)<2*keep)/\ZC [.aE p,.aE o] Z=aH (.bQ) (Z.set p (aX keep (many+mY) (tk+uC) j U z B)):=by
 have g:p<Z.length:=(cR.mp h).1;have u:0<=aS row:=by rw[<-hv.wt];exact BK ls
 have t:0<=aS pI:=by rw[<-d.wt];exact BK os
 obtain⟨j,U,z,B,s,r,n,m⟩:=aIH (o:=o) y F (by omega) h q hv d hz u t;refine⟨j,U,z,B,s,r,n,?_⟩;have w:=aeD h mY hm;have l:RG [.aE p,.aE o] Z=aH (.bl ax) Z:=by
  show trim Z (bU (Mg [aF p,aF o] Z))=_;simp[Mg,q]
 have x:=iW (f := "keep") (Y:=[aF p,aF o]) (i:=1) q rfl rfl;have k0:=iW (f := "keep") (Y:=[aF p,aF o]) (i:=0) h rfl rfl;have v:=iW (f := "many") (Y:=[aF p,aF o]) (i:=1) q rfl rfl;have k:(uA (mG (cF (cU "same_kind" [("Halves",bZ 2 [] RG)] aP (aB aW a0)))) (cF (aC wG (dO ["Halves"] "keep" aW) (dO ["Halves"] "keep" aP)))) [aF p,aF o] Z=aH au Z:=by
  rw[LS (sZ (b:=ax) (gR (jX h (by rfl) (by rfl) (as:=[.aE o]) (das:=[]) (by simp) (by rfl) (by simpa using l))))];exact gR (eV x k0 (Jg (by simp[cY])))
 have c:(Z.set p (aX keep many tk j U z B))[p]?=ak (aX keep many tk j U z B):=lU g;have a:(Z.set p (aX keep (many+mY) tk j U z B))[p]?=ak (aX keep (many+mY) tk j U z B):=lU g;have E:=iW (f := "many") (Y:=[aF p,aF o]) (i:=0) c rfl rfl;have f2:dO ["Halves"] "many" aW [aF p,aF o] (Z.set p (aX keep many tk j U z B))=aH (.int mY) (Z.set p (aX keep many tk j U z B)):=by
  by_cases e:o=p
  ·subst e;rw[h]at q;simp only[iZ,Cell.ins.injEq,nX,wU,Fd.val.injEq,A.int.injEq,true_and,uZ]at q;have:=iW (f := "many") (Y:=[aF o,aF o]) (i:=1) c rfl rfl;rw[this,q.1]
  ·exact iW (f := "many") (i:=1) (by rw[eP (cQ e)];exact q) rfl rfl
 have D:=iW (f := "taken") (Y:=[aF p,aF o]) (i:=0) a rfl rfl;have C:dO ["Halves"] "taken" aW [aF p,aF o] (Z.set p (aX keep (many+mY) tk j U z B))=aH (.int uC) (Z.set p (aX keep (many+mY) tk j U z B)):=by
  by_cases e:o=p
  ·subst e;rw[h]at q;simp only[iZ,Cell.ins.injEq,nX,wU,Fd.val.injEq,A.int.injEq,true_and,uZ]at q;have:=iW (f := "taken") (Y:=[aF o,aF o]) (i:=1) a rfl rfl;rw[this,q.2.1]
  ·exact iW (f := "taken") (i:=1) (by rw[eP (cQ e)];exact q) rfl rfl
 show trim Z (bU (Lx [aF p,aF o] Z))=_;unfold Lx;rw[bH (nA k)];rw[bH (pT (jX h (by rfl) (by rfl) (as:=[.int mY]) (das:=[]) (aN v bG) (by rfl) (by simpa using w)))];rw[bH (pT (jX h (by rfl) (by rfl) (as:=[.aE o]) (das:=[]) (by simp) (by rfl) (by simpa using m)))];rw[bH (rO (b:=.int (many+mY)) (by rfl) c (by simp) (eV E f2 (by simp))),Wl,lO];rw[rO (b:=.int (tk+uC)) (by rfl) a (by simp) (eV D C (by simp)),Wj,lO];simp only[bU];exact iK (by simp)
end
section
variable{Z Z':aG}{Y:Ev}
theorem pO{f g:Ev->Mo A}{a:A}{ds:ao A}{k:a4}{d:A}(z:f Y Z=aH a Z)(q:g Y Z=aH (.int (k:az)) Z)(j:jD Z a=ak ds)(hd:ds[k]?=ak d):aC cW f g Y Z=aH d Z:=by
 refine eV z q ?_;have:iE ds (k:az)=ak d:=by rw[uY];exact hd
 simp[cW,j,this]
theorem SM{fe fi:Ev->Mo A}{i k j:a4}{ds:ao A}{a:A}(h:(Y[i]?).join=(aF k))(z:Z[k]?=ak (.lst ds))(hi:fi Y Z=aH (.int (j:az)) Z)(q:j<ds.length)(he:fe Y Z=aH a Z):bO fe (yG (dN i) fi) Y Z=eS Y (Z.set k (.lst (ds.set j a))):=by
 have e:oJ ds.length (j:az)=ak j:=by unfold oJ;simp[q]
 unfold bO;rw[eR he];unfold yG;rw[eR (aQ h),eR hi];simp only[setCell,z,e]
theorem atV{f:Ev->Mo A}{a:A}{ds:ao A}(q:f Y Z=aH a Z)(j:jD Z a=ak ds)(hl:eU Z a=ak ds):(aU nC (aB f a0)) Y Z=aH (.int ds.length) Z:=mB (aN q bG) (by simp only[nC,j])
theorem UD{f g:Ev->Mo A}{m n:az}(q:f Y Z=aH (.int m) Z)(j:g Y Z=aH (.int n) Z)(z:mF m n):aC jN f g Y Z=aH (.int (m*n)) Z:=by
 refine eV q j ?_;simp only[jN,gI];rw[UH _ z];rfl
theorem qR{f g:Ev->Mo A}{m n:az}(q:f Y Z=aH (.int m) Z)(j:g Y Z=aH (.int n) Z):aC cH f g Y Z=aH (.int (m+n)) Z:=eV q j (by simp)
theorem vL{f g:Ev->Mo A}{m n:az}(q:f Y Z=aH (.int m) Z)(j:g Y Z=aH (.int n) Z):aC fU f g Y Z=aH (.int (m-n)) Z:=eV q j (by simp)
theorem CQ{f g:Ev->Mo A}{m n:az}(q:f Y Z=aH (.int m) Z)(j:g Y Z=aH (.int n) Z)(h:0<n):aC fC f g Y Z=aH (.int (m%n)) Z:=by
 refine eV q j ?_;simp only[fC,gI];rw[UH _ h];rfl
theorem WL{f g:Ev->Mo A}{m n:az}(q:f Y Z=aH (.int m) Z)(j:g Y Z=aH (.int n) Z)(h:qB m n):aC lZ f g Y Z=aH (.int (m/n)) Z:=by
 refine eV q j ?_;simp only[lZ,gI];rw[UH _ h];rfl
theorem aCA{f g:Ev->Mo A}{m n:az}(q:f Y Z=aH (.int m) Z)(j:g Y Z=aH (.int n) Z):cF (aC mO f g) Y Z=aH (m==n) Z:=gR (eV q j (by simp))
end
section
variable{Y:Ev}{Z Z':aG}
theorem aBA{fo fi:Ev->Mo A}{k:a4}{j:ao Rn}{n:az}(z:fo Y Z=aH (.aE k) Z)(h:Z[k]?=ak (.dA (encD j)))(h1:fi Y Z=aH (.int n) Z):GC fo fi cK Y Z=aH (.int (tJ j n)) Z:=by
 have q:oS Z (.aE k)=ak (k,encD j):=OQ h;unfold GC;rw[cV z];rw[a7 ⟨_,_,q⟩];rw[cV h1];rw[cV (x:=.int 0) (Z':=Z) (by simp)];simp only[Jk,q,uO,Sz]
theorem an5{fo fi fe:Ev->Mo A}{k:a4}{j:ao Rn}{n t:az}(q:fo Y Z=aH (.aE k) Z)(h:Z[k]?=ak (.dA (encD j)))(h1:fi Y Z=aH (.int n) Z)(h2:fe Y Z=aH (.int t) Z)(nd:(j.map (·.1)).Nodup)(hl:j.length<100000) :
  LO (aC cH (GC fo fi cK) fe) fo fi Y Z=eS Y (Z.set k (.dA (encD (gJ j n t)))):=by
 have B:oS Z (.aE k)=ak (k,encD j):=OQ h;have z:(encD j).length<bc:=by rw[qH];simp[encD];omega
 unfold LO;rw[eR (eV (a:=.int (tJ j n)) (b:=.int t) (c:=.int (tJ j n+t)) (aBA q h h1) h2 (by simp))];rw[eR q,eR h1];simp only[Bo,B,uO,a7 z,Wq j n t nd]
end
theorem aqE(r:Rn)(Z:aG):YV [bY r] Z=aH (.bl ax) Z:=by
 simp[YV,acZ,acY,bY,fO]
theorem Be:∀rs:ao Rn,(rs.map (·.2)).sum=aS rs
 |[]=>rfl
 |r::rs=>by simp[aS,Be rs]
theorem uM{fs:Ev->Mo (ao A)}{xs:ao A}{Y:Ev}{Z Z':aG}(h:fs Y Z=aH xs Z')(hl:xs.length<=1000):fL au fs Y Z=aH (.lst xs) Z':=by
 have j:xs.length<=bc:=by rw[qH];omega
 unfold fL;rw[cV h];simp[j]
theorem SF{fs:Ev->Mo (ao A)}{xs:ao A}{Y:Ev}{Z Z':aG}(h:fs Y Z=aH xs Z')(hl:xs.length<=1000):qW fs Y Z=aH (.tup xs) Z':=by
 have j:xs.length<=bc:=by rw[qH];omega
 unfold qW;rw[cV h];simp[j]
theorem uG{f:Ev->Mo A}{Y:Ev}{Z:aG}{a:A}(h:f Y Z=aH a Z):trim Z (bU (bK f Y Z))=aH a Z:=by
 unfold bK;rw[eR h];simp only[bU];exact iK rfl
theorem Kq:∀(m v:a4),v<2 ^ m->kS v<=m
 |0,v,h=>by
  obtain rfl:v=0:=by simpa using h
  rw[EH];omega
 |m+1,v,h=>by
  by_cases e:v=0
  ·subst e;rw[EH];omega
  ·rw[yR (by omega)];have:=Kq m (v/2) (by rw[YC]at h;omega);omega
def lM:ao Rn->ao Rn->ao Rn
 |acc,[]=>acc
 |acc,r::l=>lM (gJ acc r.1 r.2) l
theorem Mx:∀(l acc:ao Rn),aS (lM acc l)=aS acc+aS l
 |[],acc=>by simp[lM,aS]
 |r::l,acc=>by rw[lM,Mx l,Uk,aS];omega
theorem Mw(x:az):∀(l acc:ao Rn),bW (lM acc l) x=bW acc x+bW l x
 |[],acc=>by simp[lM,bW]
 |r::l,acc=>by rw[lM,Mw x l,Te,bW];omega
theorem Na(m:az):∀(l acc:ao Rn),m∈acc.map (·.1)\/m∈l.map (·.1)->m∈(lM acc l).map (·.1)
 |[],acc,h=>by simpa[lM]using h
 | r::l,acc,h=>Na m l _ (by
  rcases h with h|h
  ·exact .inl (UP acc r.1 r.2 m (.inl h))
  ·rcases dY.mp h with q|q
   ·exact .inl (UP acc r.1 r.2 m (.inr q))
   ·exact .inr q)
theorem Mz:∀(l acc:ao Rn),(∀r∈acc,0<r.2)->(∀r∈l,0<r.2)->∀r∈lM acc l,0<r.2
 |[],acc,h,_=>h
 | s::l,acc,h,g=>Mz l _ (by
  have j:=g s (by simp);have:∀acc:ao Rn,(∀r∈acc,0<r.2)->∀r∈gJ acc s.1 s.2,0<r.2:=by
   intro acc
   induction acc with
   |nil=>intro _ r hr;simp[gJ]at hr;subst hr;exact j
   |cons q acc ih =>
    intro h r hr;simp only[gJ]at hr;have z:=h q (by simp);split at hr
    ·rcases dY.mp hr with e|e
     ·subst e;show 0<q.2+s.2;omega
     ·exact h r (by simp[e])
    ·rcases dY.mp hr with e|e
     ·subst e;exact z
     ·exact ih (λr hr=>h r (by simp[hr])) r e
  exact this acc h) λr hr=>g r (by simp[hr])
theorem adC:∀(l acc:ao Rn),(lM acc l).length<=acc.length+l.length
 |[],acc=>by simp[lM]
 |r::l,acc=>by
  have:=adC l (gJ acc r.1 r.2);have:=Fx acc r.1 r.2;rw[lM,eB];omega
theorem ag6(row:ao Rn)(n:az)(j:∀r∈row,0<r.2):bW row (n-1)<=bW row n/\(n∈row.map (·.1)->bW row (n-1)<bW row n):=by
 induction row with
 |nil=>simp[bW]
 |cons r row ih =>
  obtain⟨h1,h2⟩:=ih λs q=>j s (by simp[q]);have:=j r (by simp);simp only[bW];refine⟨by split <;> split <;> omega,λz=>?_⟩
  rcases dY.mp z with y|y
  ·have y:n=r.1:=y;rw[ba (by omega),a7 (by omega)];omega
  ·have:=h2 y;split <;> split <;> omega
theorem PZ(row:ao Rn)(Z:aG)(hl:row.length<=100000):FF [.lst (aM row)] Z=aH (.int (aS row)) Z:=by
 have e:acV [dG (aM row)] Z=aH (.lst (row.map λr=>A.int r.2)) Z :=
  GB (S:=srcOf (.lst (aM row)) (aM row)) row bY (λr=>A.int r.2) (λj=>∃u v,j=[u,v]) (λa b e=>by simp only[bY,A.tup.injEq,nX,A.int.injEq,uZ]at e;rw[e.2]) (by simp) (λq=>rfl) ⟨aq,aq,rfl⟩ rfl (by omega) (λr _ j ⟨u,v,e⟩ q=>by subst e;exact⟨[aA r.1,aA r.2],⟨_,_,rfl⟩,by simp[bY],by simp⟩) (λn _=>by simp[Cl])
 exact uG (mB (aN e bG) (by
  have:=DC (row.map (·.2));rw[tN]at this;rw[<-Be];simp[show intsOf (row.map λr=>A.int r.2)=_ from this]))
theorem Ny(row:ao Rn)(x:az)(Z:aG)(hl:row.length<=100000):QX [.lst (aM row),.int x] Z=aH (.int (bW row (x-1))) Z:=by
 have e:ac3 [dG (aM row),aA x] Z=aH (.lst ((row.filter λr=>decide (r.1<x)).map λr=>A.int r.2)) Z :=
  RY (S:=srcOf (.lst (aM row)) (aM row)) row bY (λr=>A.int r.2) (λr=>decide (r.1<x)) (λj=>∃y z,j=[y,z,aA x]) (λa b e=>by simp only[bY,A.tup.injEq,nX,A.int.injEq,uZ]at e;rw[e.1,e.2];exact⟨rfl,rfl⟩) (by simp) (λq=>rfl) ⟨aq,aq,rfl⟩ rfl (by omega) (λr _ j ⟨y,z,e⟩ q=>by subst e;exact⟨[aA r.1,aA r.2,aA x],⟨_,_,rfl⟩,by simp[bY],by simp,by simp⟩) (λn _=>by simp[Cl])
 exact uG (mB (aN e bG) (by
  have:=DC ((row.filter λr=>decide (r.1<x)).map (·.2));rw[tN]at this;rw[<-Bd];simp[show intsOf ((row.filter λr=>decide (r.1<x)).map λr=>A.int r.2)=_ from this]))
theorem Nx(row:ao Rn)(x:az)(Z:aG)(hl:row.length<=100000):JZ [.lst (aM row),.int x] Z=aH (.int (bW row x)) Z:=aIF _ row x Z (λ_=>rfl) hl
theorem ac9(ok:aG->Prop)(aL:∀Z,ok Z){d:a4}(x0 B:av A):∀(l acc:ao Rn) (j:aG) (y z:av A),j[d]?=ak (.dA (encD acc))->(acc.map (·.1)).Nodup->acc.length+l.length<90000 ->
  ∃U L,fO ok (mM 2 (eN (gN 3) (eN (gN 4) lJ))) Lp (aM l) [x0,B,aF d,y,z] j=eS [x0,B,aF d,U,L] (j.set d (.dA (encD (lM acc l))))/\((lM acc l).map (·.1)).Nodup
 |[],acc,j,y,z,h,nd,_=>⟨y,z,by show fO _ _ _ [] _ _=_;rw[DW (aL _),lM,vN h],nd⟩
 |r::l,acc,j,y,z,h,nd,hl=>by
  have hd:d<j.length:=(cR.mp h).1;simp only[eB]at hl;obtain⟨U,L,q,a⟩:=ac9 ok aL x0 B l (gJ acc r.1 r.2) (j.set d (.dA (encD (gJ acc r.1 r.2)))) (aA r.1) (aA r.2) (lU hd) (Ex acc r.1 r.2 nd) (by have:=Fx acc r.1 r.2;omega);refine⟨U,L,?_,a⟩;have st:Lp [x0,B,aF d,aA r.1,aA r.2] j=_:=an5 (aQ rfl) h (aQ rfl) (aQ rfl) nd (by omega);show fO ok _ _ (bY r::aM l) _ _=_;rw[DV (aL _) (Y0:=[x0,B,aF d,aA r.1,aA r.2]) (Z0:=j) (by simp[bY]) st,q,lO];rfl
theorem aeG(a b:ao Rn)(Z:aG)(hl:a.length+b.length<=900):YX [.lst (aM a),.lst (aM b)] Z=aH (.lst (aM (lM [] (a++b)))) Z:=by
 have B:aM a++aM b=aM (a++b):=by simp[aM]
 obtain⟨y,z,q,nd⟩:=ac9 (λZ'=>jD Z' (.lst (aM (a++b)))=ak (aM (a++b))) (λ_=>rfl) (d:=Z.length) (ak (.lst (aM a))) (ak (.lst (aM b))) (a++b) [] (Z++[.dA []]) aq aq (by simp[encD]) (by simp) (by simp;omega);have j:=adC (a++b) [];rw[fJ,xC]at j;generalize lM [] (a++b)=R at q nd j;rw[xN]at q;have f:oS (Z++[.dA (encD R)]) (.aE Z.length)=ak (Z.length,encD R):=OQ (by simp);have c:ac4 [dG (aM a),dG (aM b),aF Z.length,y,z] (Z++[.dA (encD R)])=aH (.lst (R.map bY)) (Z++[.dead]):=by
  have s2:(2:a4)<=bc:=by decide
  have e0:(encD R).map DA=R.map bY:=av7 R;refine GB (S:=MO (encD R)) R bY bY (λL=>∃u v,L=[u,v]) (λa b e=>e) ?_ (λU=>trivial) ⟨aq,aq,rfl⟩ e0 (by omega) (λr _ L ⟨u,v,e⟩ U=>by subst e;exact⟨[aA r.1,aA r.2],⟨_,_,rfl⟩,by simp[bY],by simp[bY,s2]⟩) (λn _=>by simp[bY,Cl,gU]);unfold Af;rw[cV (aQ (a:=.aE Z.length) rfl)];simp only[f,xN]
 show trim Z (bU (Lq [dG (aM a),dG (aM b),aq,aq,aq] Z))=_;unfold Lq;rw[bH (Y1:=[dG (aM a),dG (aM b),aF Z.length,aq,aq]) (Z':=Z++[.dA []]) (by simp)];have cat:(aC cH aP aW) [dG (aM a),dG (aM b),aF Z.length,aq,aq] (Z++[.dA []])=aH (.lst (aM (a++b))) (Z++[.dA []]):=by
  have j:¬bc<(aM a).length+(aM b).length:=by rw[qH];simp[aM];omega
  rw[<-B];exact eV (aQ (a:=.lst (aM a)) rfl) (aQ (a:=.lst (aM b)) rfl) (by
   generalize aM a=u at j;generalize aM b=v at j;simp[II,eU,DB,j])
 rw[bH (Y1:=[dG (aM a),dG (aM b),aF Z.length,y,z]) (Z':=Z++[.dA (encD R)]) (by
  rw[wI (S:=srcOf (.lst (aM (a++b))) (aM (a++b))) (Z':=Z++[.dA []]) (by unfold jJ;rw[cV cat];rfl)];exact q)]
 unfold bK;rw[eR c];simp only[bU];exact LC (by simp only[Cl];exact OO _ _)
theorem ao5{α:Type}{ds:ao α}{lo hi st:av az}{a:α}(h:a∈nK ds lo hi st):a∈ds:=by
 unfold nK at h;obtain⟨i,_,e⟩:=List.mem_filterMap.mp h;exact jP e
theorem Xd:(2:a4) ^ 40=1099511627776:=rfl
theorem lt100{t:a4}(h:t<=1000000000000):t<2 ^ 100:=lN (show t<2 ^ 40 by rw[Xd];omega) (Nat.pow_le_pow_right (by decide) (by decide))
theorem aGP{t:a4}(h:t<=1000000000000):kS t<=41:=acK (by rw[Xd];omega)
theorem OC{ok:aG->Prop}{g:A->MS}{b:MS}{Z:aG}(P:Ev->Prop)(aL:ok Z):∀(xs:ao A) (Y:Ev),P Y->(∀x∈xs,∀Y,P Y->∃Y0 Y1,g x Y Z=eS Y0 Z/\b Y0 Z=eS Y1 Z/\P Y1)->∃j,fO ok g b xs Y Z=eS j Z/\P j
 |[],Y,h,_=>⟨Y,DW aL,h⟩
 |x::xs,Y,h,st=>by
  obtain⟨Y0,Y1,e1,B,h1⟩:=st x (by simp) Y h;obtain⟨j,q,h2⟩:=OC P aL xs Y1 h1 λy z=>st y (by simp[z]);exact⟨j,by rw[DV aL e1 B,q],h2⟩
structure PH(Z:aG)(keep:az)(p:a4)(row:ao Rn)(tk:az)(ls:ao (ao az))(ts:ao az)(ov un:az):Prop where
 obj:Z[p]?=ak (aX keep (aS row) tk ls ts ov un)
 hv:HV keep ls ts ov un row
 sm:∀L∈ls,(L.length:az)<2*keep
 pos:∀r∈row,0<r.2
 su:aS row<=1000000000
section
variable{Z Z':aG}{keep:az}{p:a4}{row:ao Rn}{tk:az}{ls:ao (ao az)}{ts:ao az}{ov un:az}
theorem PH.mono(h:PH Z keep p row tk ls ts ov un)(e:Z'[p]?=Z[p]?):PH Z' keep p row tk ls ts ov un:=⟨e.trans h.obj,h.hv,h.sm,h.pos,h.su⟩
theorem PH.s0(h:PH Z keep p row tk ls ts ov un):0<=aS row:=by rw[<-h.hv.wt];exact BK ls
theorem PH.tz(h:PH Z keep p row tk ls ts ov un)(z:keep<=60):bN ls<=3900:=by
 obtain⟨t,q⟩:=oV h.s0;have:=h.su;have lb:=UL (T:=t) h.hv.last (by rw[h.hv.wt];omega);have:=Kq 30 t (by omega);have tl:bN ls<=119*ls.length:=Ao λL j=>by have:=h.sm L j;omega
 omega
end
theorem aqF(ok:aG->Prop)(aL:∀Z,ok Z)(L:A)(Z:aG):∀(rs:ao Rn) (ks:ao az) (f:az->az) (x y:av A),ks.length+rs.length<=100000->(∀n,n∉ks->f n=0) ->
  ∃B j,fO ok (mM 2 (eN (gN 2) (eN (gN 3) lJ))) WW (aM rs) [ak L,aF Z.length,x,y] (Z++[.dA (iD ks f)])
   = eS [ak L,aF Z.length,B,j] (Z++[.dA (iD (mZ ks rs) λk=>f k+fS rs k)]):=by
 intro rs
 induction rs with
 |nil =>
  intro ks f x y _ _;refine⟨x,y,?_⟩;have e:(λk=>f k+fS [] k)=f:=by funext k;simp[fS]
  simp only[aM,EW,DW (aL _),mZ,List.foldl_nil,e]
 |cons r rs ih =>
  intro ks f x y hl U;simp only[eB]at hl;have d:=Ys ks r.1
  let g:az->az:=λk=>if k=r.1 then f r.1+r.2 else f k
  obtain⟨B,j,q⟩:=ih (qQ ks r.1) g (aA r.1) (aA r.2) (by omega) (λn hn=>by
   rw[Yc]at hn;have h1:n∉ks:=λz=>hn (.inl z);have h2:¬n=r.1:=λz=>hn (.inr z);simp only[g,h2,gC,U n h1])
  refine⟨B,j,?_⟩;have a:oS (Z++[.dA (iD ks f)]) (.aE Z.length)=ak (Z.length,iD ks f):=OQ (by simp);have hd:Zc (Z++[.dA (iD ks f)]) (.aE Z.length):=⟨_,_,a⟩;have hv:(lS (iD ks f) (.inl r.1)).getD (.int 0)=.int (f r.1):=by
   rw[Sx]
   by_cases h:r.1∈ks
   ·simp[h]
   ·simp[h,U _ h]
  have c:pJ (iD ks f) (.inl r.1) (.int (f r.1+r.2))=iD (qQ ks r.1) g:=by
   have:=an4 ks f g r.1 λk _ i=>by simp[g,i]
   simpa[g]using this
  have b:(iD ks f).length<bc:=by rw[qH];simp[iD];omega
  have st:WW [ak L,aF Z.length,aA r.1,aA r.2] (Z++[.dA (iD ks f)])=eS [ak L,aF Z.length,aA r.1,aA r.2] (Z++[.dA (iD (qQ ks r.1) g)]):=by
   simp[WW,hd,a,uO,hv,b,c]
  show fO ok _ _ (bY r::aM rs) _ _=_;rw[DV (aL _) (Y0:=[ak L,aF Z.length,aA r.1,aA r.2]) (Z0:=Z++[.dA (iD ks f)]) (by simp[bY]) st,q];have e:(λk=>g k+fS rs k)=λk=>f k+fS (r::rs) k:=by
   funext k;simp only[g,fS,dJ,vC]
   by_cases h:k=r.1
   ·subst h;simp;omega
   ·have h':¬r.1=k:=λz=>h z.symm;simp[h,h']
  rw[e];rfl
def lV(rs:ao Rn):ao Rn:=(sortI (mZ [] rs)).map λk=>(k,fS rs k)
theorem awH(ks:ao az)(f:az->az):intKeys (iD ks f)=ak ks:=by
 induction ks with
 |nil=>rfl
 |cons k ks ih =>
  simp only[iD,dJ,intKeys]at ih ⊢;rw[ih];rfl
theorem aIQ(rs:ao Rn)(hl:rs.length<=90000)(f:(mZ [] rs).length<4000)(Z:aG):JX [.lst (aM rs)] Z=aH (.lst (aM (lV rs))) Z:=by
 obtain⟨z,j,q⟩:=aqF (λZ'=>jD Z' (.lst (aM rs))=ak (aM rs)) (λ_=>rfl) (.lst (aM rs)) Z rs [] (λ_=>0) aq aq (by simp;omega) (λ_ _=>rfl);simp only[QL]at q;have b:=Yq rs [];simp only[xC,ET]at b;generalize h:mZ [] rs=ks at q b f;have c:∀U,oS (Z ++ .dA (iD ks λk=>fS rs k)::U) (.aE Z.length)=ak (Z.length,iD ks λk=>fS rs k):=λU=>OQ (by simp);have o:=c [];have sl:=BZ ks;have n:ks.length<4000:=f;have l:ks.length<=bc:=by rw[qH];omega
 have comp:acS [dG (aM rs),aF Z.length,z,j] (Z++[.dA (iD ks λk=>fS rs k)])=aH (.lst (aM (lV rs))) (Z++[.dA (iD ks λk=>fS rs k)]):=by
  have d:((sortI ks).map A.int).filterMap (λa=>match a with | .int k=>ak (bY (k,fS rs k))|_=>aq)=aM (lV rs):=by
   simp only[aeP,aM,lV,h,tN];rw[<-List.filterMap_eq_map];rfl
  rw[<-d];refine Ad (S:=srcOf (.lst ((sortI ks).map A.int)) ((sortI ks).map A.int)) _ (λL=>∃v,L=[v,aF Z.length]) (by simp[o,awH,n,sl]) (λ_=>rfl) ⟨aq,rfl⟩ (by simp[sl];omega) ?_ (by
   show gU _ (List.filterMap _ ((sortI ks).map A.int));rw[d];exact OO _ _)
  rintro x i L ⟨v,rfl⟩ g;obtain⟨k,m,rfl⟩:=oU.mp i;have B:k∈ks:=(sortI_perm ks).mem_iff.mp m;have h2:(2:a4)<=bc:=by decide
  have hv:lS (iD ks λk=>fS rs k) (.inl k)=(aA (fS rs k)):=by rw[Sx,a7 B]
  refine⟨[aA k,aF Z.length],⟨_,rfl⟩,by simp,.inl ⟨_,rfl,rfl,?_⟩⟩;have p:=c [.lst g];simp[p,uO,hv,h2,bY]
 show trim Z (bU (WY [dG (aM rs),aq,aq,aq] Z))=_;have e:WY [dG (aM rs),aq,aq,aq] Z=ak (.ret (.lst (aM (lV rs))),[dG (aM rs),aF Z.length,z,j],Z++[.dA (iD ks λk=>fS rs k)]):=by
  unfold WY;rw[bH (Y1:=[dG (aM rs),aF Z.length,aq,aq]) (Z':=Z++[.dA []]) (by simp)];rw[bH (Y1:=[dG (aM rs),aF Z.length,z,j]) (Z':=Z++[.dA (iD ks λk=>fS rs k)]) (by rw[wI (S:=srcOf (.lst (aM rs)) (aM rs)) (Z':=Z++[.dA []]) (by simp)];exact q)];simp[comp]
 rw[e];simp only[bU];exact LC (by simp only[Cl];exact OO _ _)
noncomputable def na:ao Rn->az->az->av az
 |[],_,_=>aq
 |r::rs,acc,p=>if p<=acc+r.2 then ak r.1 else na rs (acc+r.2) p
theorem asO(ok:aG->Prop)(aL:∀Z,ok Z)(L:A)(p:az)(Z:aG):∀(rs:ao Rn) (acc:az) (x y:av A),∃Y,fO ok (mM 2 (eN (gN 3) (eN (gN 4) lJ))) IU (aM rs) [ak L,aA p,aA acc,x,y] Z
  = match na rs acc p with|some n=>ak (.ret (.int n),Y,Z)|none=>ak (.nx,Y,Z):=by
 intro rs
 induction rs with
 |nil=>intro acc x y;exact⟨_,DW (aL Z)⟩
 |cons r rs ih =>
  intro acc x y
  by_cases h:p<=acc+r.2
  ·refine⟨[ak L,aA p,aA (acc+r.2),aA r.1,aA r.2],?_⟩;simp only[na,h,fI];exact aB4 (aL Z) (Y0:=[ak L,aA p,aA acc,aA r.1,aA r.2]) (Z0:=Z) (by simp[bY]) (by simp[IU,h])
  ·obtain⟨Y,q⟩:=ih (acc+r.2) (aA r.1) (aA r.2);refine⟨Y,?_⟩;simp only[na,h,gC];rw[<-q];exact DV (aL Z) (Y0:=[ak L,aA p,aA acc,aA r.1,aA r.2]) (Z0:=Z) (by simp[bY]) (by simp[IU,h])
theorem aeB(rs:ao Rn)(hl:rs.length<=90000)(B:(mZ [] rs).length<4000)(p:az)(Z:aG):QT [.lst (aM rs),.int p] Z=if p<1 then ak (.exc ⟨"NoPlace",[]⟩,Z)else match na (lV rs) 0 p with|some n=>ak (.ok (.int n),Z)|none=>ak (.exc ⟨"NoPlace",[]⟩,Z):=by
 have h1:(1:a4)<=bc:=by decide
 show trim Z (bU (IV [dG (aM rs),aA p,aq,aq,aq] Z))=_
 by_cases h:p<1
 ·rw[a7 h];have e:IV [dG (aM rs),aA p,aq,aq,aq] Z=ak (.exc ⟨"NoPlace",[]⟩,[dG (aM rs),aA p,aq,aq,aq],Z):=by
   unfold IV;simp[h,h1]
  rw[e];simp[trim]
 ·rw[ba h];obtain⟨j,q⟩:=asO (λZ'=>jD Z' (.lst (aM (lV rs)))=ak (aM (lV rs))) (λ_=>rfl) (.lst (aM rs)) p Z (lV rs) 0 aq aq;have z:=aIQ rs hl B Z;have L:∀f g:MS,aV f g [dG (aM rs),aA p,aq,aq,aq] Z=aV f g [dG (aM rs),aA p,aq,aq,aq] Z:=λ_ _=>rfl;have e0:IV [dG (aM rs),aA p,aq,aq,aq] Z=aV (nJ (jJ (aU (bR 1 JX) (aB aP a0))) (mM 2 (eN (gN 3) (eN (gN 4) lJ))) IU) (GR "NoPlace" (aB (cS "the row ends before this place") a0)) [dG (aM rs),aA p,aA 0,aq,aq] Z:=by
   unfold IV;rw[bH (Y1:=[dG (aM rs),aA p,aq,aq,aq]) (Z':=Z) (by simp[h])];rw[bH (Y1:=[dG (aM rs),aA p,aA 0,aq,aq]) (Z':=Z) (by simp)]
  have e1:nJ (jJ (aU (bR 1 JX) (aB aP a0))) (mM 2 (eN (gN 3) (eN (gN 4) lJ))) IU [dG (aM rs),aA p,aA 0,aq,aq] Z=match na (lV rs) 0 p with|some n=>ak (.ret (.int n),j,Z)|none=>ak (.nx,j,Z):=by
   rw[wI (S:=srcOf (.lst (aM (lV rs))) (aM (lV rs))) (Z':=Z) (by simp[bR,z])];exact q
  rw[e0];cases hn:na (lV rs) 0 p with
  |some n =>
   rw[hn]at e1;rw[SW e1];simp
  |none =>
   rw[hn]at e1;rw[bH e1];simp[h1,trim]
noncomputable def oH(ps:ao Rn):az:=(ps.map (·.2)).sum
theorem Fb:∀(ps:ao Rn) (acc p:az),acc<p->(na ps acc p=aq/\acc+oH ps<p)\/∃pre n c B,ps=pre++(n,c)::B/\na ps acc p=ak n/\acc+oH pre<p/\p<=acc+oH pre+c
 |[],acc,p,h => .inl ⟨rfl,by simpa[oH]using h⟩
 |(n,c)::ps,acc,p,h=>by
  by_cases j:p<=acc+c
  ·exact .inr ⟨[],n,c,ps,rfl,by simp[na,j],by simpa[oH]using h,by simpa[oH]using j⟩
  ·rcases Fb ps (acc+c) p (by omega)with⟨z,q⟩|⟨pre,m,d,B,e,z,q,L⟩
   ·refine .inl ⟨by simp[na,j,z],?_⟩;simp only[oH,dJ,vC]at q ⊢;omega
   ·refine .inr ⟨(n,c)::pre,m,d,B,by rw[e];rfl,by simp[na,j,z],?_,?_⟩ <;> simp only[oH,dJ,vC]at q L ⊢ <;> omega
theorem Zf(m t:az):∀{ks:ao az},ks.Nodup->(ks.map λk=>if m=k then t else 0).sum=if m∈ks then t else 0
 |[],_=>by simp
 |k::ks,h=>by
  obtain⟨h1,h2⟩:=wZ.mp h;simp only[dJ,vC,Zf m t h2]
  by_cases e:m=k
  ·subst e;simp[h1]
  ·simp[e]
theorem Ui(f g:az->az):∀ks:ao az,(ks.map λk=>f k+g k).sum=(ks.map f).sum+(ks.map g).sum
 |[]=>by simp
 |k::ks=>by simp only[dJ,vC,Ui f g ks];omega
theorem Tn(r:Rn)(rs:ao Rn)(k:az):fS (r::rs) k=(if r.1=k then r.2 else 0)+fS rs k:=by simp[fS]
theorem Qz:∀ks:ao az,(ks.map λ_=>(0:az)).sum=0
 |[]=>rfl
 |_::ks=>by simp only[dJ,vC,Qz ks];rfl
theorem An(P:az->Prop) [DecidablePred P]{ps:ao az}(hn:ps.Nodup):∀(rs:ao Rn),(∀r∈rs,(r.1∈ps<->P r.1))->(ps.map (fS rs)).sum=(rs.map λr=>if P r.1 then r.2 else 0).sum
 |[],_=>by
  have:fS []=λ_=>(0:az):=by funext k;simp[fS]
  rw[this,Qz];rfl
 |r::rs,h=>by
  have e:(ps.map (fS (r::rs)))=ps.map λk=>(if r.1=k then r.2 else 0)+fS rs k:=QD λk _=>Tn r rs k;rw[e,Ui,Zf _ _ hn,An P hn rs λq j=>h q (iP _ j)];have:=h r vU;simp only[dJ,vC]
  by_cases hm:r.1∈ps
  ·rw[a7 hm,a7 (this.mp hm)]
  ·rw[ba hm,ba λz=>hm (this.mpr z)]
theorem Yw(rs:ao Rn):(sortI (mZ [] rs)).Pairwise (· < ·):=by
 have h1:=Bn (mZ [] rs);have h2:(sortI (mZ [] rs)).Nodup:=(sortI_perm _).nodup_iff.mpr (Gj rs List.nodup_nil);exact(List.Pairwise.and h1 h2).imp λ⟨a,b⟩=>by omega
theorem mem_keys(rs:ao Rn)(k:az):k∈sortI (mZ [] rs)<->∃r∈rs,r.1=k:=by
 rw[(sortI_perm _).mem_iff,Fi];simp
theorem Ut(rs:ao Rn)(ks:ao az):oH (ks.map λk=>(k,fS rs k))=(ks.map (fS rs)).sum:=by
 simp[oH,tN];rfl
theorem Sb(rs:ao Rn):oH (lV rs)=whole rs:=by
 unfold lV;rw[Ut,An (λ_=>True) ((Yw rs).imp λz=>Int.ne_of_lt z) rs λr hr=>⟨λ_=>trivial,λ_=>(mem_keys rs _).mpr ⟨r,hr,rfl⟩⟩];simp[whole]
theorem ag5(rs:ao Rn)(j:az):KY rs j=GF rs j+fS rs j:=by
 induction rs with
 |nil=>rfl
 |cons r rs ih =>
  simp only[KY,GF,fS,dJ,vC]at ih ⊢;rw[ih]
  by_cases a:r.1<j
  ·have b:r.1<=j:=by omega
   have c:¬r.1=j:=by omega
   simp only[a,b,c,fI,gC];omega
  ·by_cases c:r.1=j
   ·have b:r.1<=j:=by omega
    simp only[a,b,c,fI,gC];simp;omega
   ·have b:¬r.1<=j:=by omega
    simp only[a,b,c,gC];omega
theorem asP(rs:ao Rn)(p:az)(h1:1<=p)(h2:p<=whole rs):∃n,na (lV rs) 0 p=ak n/\GF rs n<p/\p<=KY rs n/\n∈rs.map (·.1):=by
 rcases Fb (lV rs) 0 p (by omega)with⟨_,q⟩|⟨pre,n,c,x,e,i,h,g⟩
 ·rw[Sb]at q;omega
 ·refine⟨n,i,?_⟩;have a:=Yw rs;have d:=e;unfold lV at d;obtain⟨U,u,B,e1,t⟩:=List.map_eq_append_iff.mp d;obtain⟨j,L,rfl,b,_⟩:=List.map_eq_cons_iff.mp t;simp only[wU]at b;obtain⟨rfl,rfl⟩:=b;rw[B]at a;have f:∀k,k∈U++j::L<->∃r∈rs,r.1=k:=λk=>by rw[<-B];exact mem_keys rs k
  obtain⟨o,p2,m⟩:=vD.mp a;obtain⟨l,v⟩:=List.pairwise_cons.mp p2;have nd:U.Nodup:=o.imp λz=>Int.ne_of_lt z;have s:oH pre=GF rs j:=by
   rw[<-e1,Ut];refine An (λk=>k<j) nd rs λr hr=>⟨λz=>m _ z _ vU,λz=>?_⟩
   rcases hX.mp ((f r.1).mpr ⟨r,hr,rfl⟩)with y|y
   ·exact y
   ·rcases dY.mp y with y|y
    ·omega
    ·have:=l _ y;omega
  have w:=ag5 rs j;rw[s]at h g;refine⟨by omega,by omega,?_⟩;obtain⟨r,hr,e⟩:=(f j).mp (lD _ vU);exact oU.mpr ⟨r,hr,e⟩
theorem aIJ(ns:ao az):∃n:a4,n<=59/\∀Z,YU [.eQ ns,.int 4,.int 59] Z=aH (.int n) Z:=by
 have c:=λZ=>QA ns 3 Z (by decide) (by decide);have c0:=OR ns 3;generalize wM ns 3=x at c c0;obtain⟨n,hn⟩:=oV (show 0<=min 59 (max (max 0 ((ns.length:az)-4)) (x%60))by omega);refine⟨n,by omega,λZ=>?_⟩;simp[YU,acW,bR,c];omega
theorem aIK(ns:ao az)(f:ns.length<=63)(k:a4)(d:k<=60):∃c:az,0<=c/\c<2147483587/\∀Z,Pp [.eQ ns,.int 4,.int k] Z=aH (.int c) Z:=by
 have hm:(0:az)<max 1 (max 0 ((ns.length:az)-4)):=by omega
 have U:max 1 (max 0 ((ns.length:az)-4))<=100:=by omega
 generalize B:max 1 (max 0 ((ns.length:az)-4))=x at hm U;have e0:=QO (k:az) (show x≠0 by omega);have e1:=QP (k:az) hm;generalize q:(k:az)%x=y at e0 e1;have c:=λZ=>QA ns (4+y) Z (by omega) (by omega);have c0:=OR ns (4+y);have L:=acH ns (4+y);generalize wM ns (4+y)=z at c c0 L;have m:=λZ=>JJ z k Z c0 (by omega) (by omega) (by omega);refine⟨xV z k,UE _ _,Fg _ _,λZ=>?_⟩;have j:(aU rD (aB cK (aB (aC (fU) (aU nC (aB aP a0)) aW) a0))) [ak (.eQ ns),aA 4,aA k,aq] Z=aH (.int (max 0 ((ns.length:az)-4))) Z:=by simp
 show trim Z (bU (Lc [ak (.eQ ns),aA 4,aA k,aq] Z))=_;unfold Lc;rw[bH (mC j)];simp only[aeJ,aeI];have e:(aC cH aW (aC (fC) bL (aU rD (aB cJ (aB eE a0))))) [ak (.eQ ns),aA 4,aA k,aA (max 0 ((ns.length:az)-4))] Z=aH (.int (4+y)) Z:=by
  refine eV (a:=.int 4) (b:=.int y) (by simp) (eV (a:=.int k) (b:=.int x) (by simp) (by simp[B]) ?_) (by simp);simp[hm,q]
 unfold bK;rw[eR (eO (aN (eO (aN (aQ (a:=.eQ ns) (by rfl)) (aN e bG)) (by rfl) (c Z)) (aN (aQ (a:=.int k) (by rfl)) bG)) (by rfl) (m Z))];simp only[bU];exact iK rfl
theorem aIT(c kind:az)(g:0<=c)(k:c<8589934592)(i:0<=kind)(h:kind<=4):∃n,∀Z,sL [.int c,.int kind] Z=aH (.int n) Z:=by
 have h1:∀j,mF c j:=λj=>yO (by omega) (by omega);have b:∀j,mF j 48271:=λj=>ON (by decide) (by decide);have h2:∀j,mF 2 j:=λj=>yO (by decide) (by decide);have f:sQ 10 18:=⟨by decide,by decide,by decide⟩;have L:sQ 10 59:=⟨by decide,by decide,by decide⟩;have B:sQ 10 60:=⟨by decide,by decide,by decide⟩;have a:∀j,qB j 14:=λj=>⟨by decide,by decide⟩
 have q:(4:a4)<=bc:=by decide
 have U:(3:a4)<=bc:=by decide
 have d:kind=0\/kind=1\/kind=2\/kind=3\/kind=4:=by omega
 rcases d with e|e|e|e|e
 ·exact⟨c%7,λZ=>by simp[sL,uX,e]⟩
 ·exact⟨c%100-50,λZ=>by simp[sL,uX,e]⟩
 ·exact⟨c*c*48271%(2*10 ^ 18+1)-10 ^ 18,λZ=>by simp[sL,uX,e,h1,b,h2,f]⟩
 ·have hm:c%4=0\/c%4=1\/c%4=2\/c%4=3:=by omega
  rcases hm with z|z|z|z
  ·exact⟨10 ^ 59+c,λZ=>by simp[sL,uX,e,z,L,B,q]⟩
  ·exact⟨0-10 ^ 59-c,λZ=>by simp[sL,uX,e,z,L,B,q]⟩
  ·exact⟨10 ^ 60-1,λZ=>by simp[sL,uX,e,z,L,B,q]⟩
  ·exact⟨1-10 ^ 60,λZ=>by simp[sL,uX,e,z,L,B,q]⟩
 ·have hm:c%30/14=0\/c%30/14=1\/c%30/14=2:=by omega
  rcases hm with z|z|z
  ·exact⟨5,λZ=>by simp[sL,uX,e,z,a,U]⟩
  ·exact⟨0-5,λZ=>by simp[sL,uX,e,z,a,U]⟩
  ·exact⟨0,λZ=>by simp[sL,uX,e,z,a,U]⟩
theorem aIG(c:az)(l:0<=c):∃t:a4,1<=t/\t<2097152/\∀Z,rM [.int c] Z=aH (.int t) Z:=by
 have L:∀j,qB j 8:=λj=>⟨by decide,by decide⟩
 have B:(8:a4)<=bc:=by decide
 have e:∀(ds:ao A),iE ds 6=ds[6]?:=λds=>uY ds 6;have d:∀(ds:ao A),iE ds 7=ds[7]?:=λds=>uY ds 7;obtain⟨i,hi⟩:=oV (show 0<=c/8%20 by omega);have hJ:i<20:=by omega
 have U:sQ 1 (c/8%20):=⟨by omega,by omega,by decide⟩;have q:((2:az) ^ (c/8%20).toNat)=((2 ^ i:a4):az):=by rw[hi];simp
 have k:2 ^ i<=2 ^ 19:=Nat.pow_le_pow_right (by decide) (by omega);have g:2 ^ i<=524288:=k;have pg:1<=2 ^ i:=Nat.one_le_two_pow;generalize (2:a4) ^ i=P at q g pg;have hm:c%8=0\/c%8=1\/c%8=2\/c%8=3\/c%8=4\/c%8=5\/c%8=6\/c%8=7:=by omega
 have go:∀(t:a4),1<=t->t<2097152->(∀Z,rM [.int c] Z=aH (.int t) Z)->∃t:a4,1<=t/\t<2097152/\∀Z,rM [.int c] Z=aH (.int t) Z:=λt a b h=>⟨t,a,b,h⟩
 rcases hm with z|z|z|z|z|z|z|z
 ·exact go 1 (by omega) (by omega) λZ=>by simp[rM,yS,L,U,q,z,B,e,d]
 ·exact go 1 (by omega) (by omega) λZ=>by simp[rM,yS,L,U,q,z,B,e,d]
 ·obtain⟨t,f⟩:=oV (show 0<=1+c/8%9 by omega);exact go t (by omega) (by omega) λZ=>by simp[rM,yS,L,U,q,z,B,f,e,d]
 ·obtain⟨t,f⟩:=oV (show 0<=1+c/8%100 by omega);exact go t (by omega) (by omega) λZ=>by simp[rM,yS,L,U,q,z,B,f,e,d]
 ·obtain⟨t,f⟩:=oV (show 0<=1+c/8%1000000 by omega);exact go t (by omega) (by omega) λZ=>by simp[rM,yS,L,U,q,z,B,f,e,d]
 ·exact go P (by omega) (by omega) λZ=>by simp[rM,yS,L,U,q,z,B,e,d]
 ·obtain⟨t,f⟩:=oV (show 0<=max 1 ((P:az)-1)by omega);exact go t (by omega) (by omega) λZ=>by simp[rM,yS,L,U,q,z,B,f,e,d]
 ·exact go 7 (by omega) (by omega) λZ=>by simp[rM,yS,L,U,q,z,B,e,d]
theorem aIZ(ns:ao az):∃kp:az,1<=kp/\kp<=1000/\∀Z,sN [.eQ ns] Z=aH (.int kp) Z:=by
 have c:=λZ=>QA ns 1 Z (by decide) (by decide);have c0:=OR ns 1;generalize wM ns 1=x at c c0;have L:∀j,qB j 8:=λj=>⟨by decide,by decide⟩
 have q:(8:a4)<=bc:=by decide
 have d:∀(ds:ao A),iE ds 6=ds[6]?:=λds=>uY ds 6;have U:∀(ds:ao A),iE ds 7=ds[7]?:=λds=>uY ds 7;have B:(4:a4)<=bc:=by decide
 have go:∀(t:az),1<=t->t<=1000->(∀Z,sN [.eQ ns] Z=aH (.int t) Z)->∃t:az,1<=t/\t<=1000/\∀Z,sN [.eQ ns] Z=aH (.int t) Z:=λt a b h=>⟨t,a,b,h⟩
 have hm:x%8=0\/x%8=1\/x%8=2\/x%8=3\/x%8=4\/x%8=5\/x%8=6\/x%8=7:=by omega
 rcases hm with z|z|z|z|z|z|z|z
 ·exact go (1+x/8%12) (by omega) (by omega) λZ=>by simp[sN,yT,bR,c,L,z,q,B,d,U]
 ·exact go (1+x/8%12) (by omega) (by omega) λZ=>by simp[sN,yT,bR,c,L,z,q,B,d,U]
 ·exact go (1+x/8%12) (by omega) (by omega) λZ=>by simp[sN,yT,bR,c,L,z,q,B,d,U]
 ·exact go (1+x/8%3) (by omega) (by omega) λZ=>by simp[sN,yT,bR,c,L,z,q,B,d,U]
 ·exact go (1+x/8%3) (by omega) (by omega) λZ=>by simp[sN,yT,bR,c,L,z,q,B,d,U]
 ·exact go (1+x/8%3) (by omega) (by omega) λZ=>by simp[sN,yT,bR,c,L,z,q,B,d,U]
 ·exact go (1+x/8%60) (by omega) (by omega) λZ=>by simp[sN,yT,bR,c,L,z,q,B,d,U]
 ·exact go 1000 (by omega) (by omega) λZ=>by simp[sN,yT,bR,c,L,z,q,B,d,U]
theorem aI3(ns:ao az)(p:ns.length<=63)(k:a4)(h:k<=60):∃(c n:az) (t:a4),1<=t/\t<2097152/\∀Z,QW [.eQ ns,.int k] Z=aH (.lst [.int c,.int n,.int t]) Z:=by
 obtain⟨c,c0,r,i⟩:=aIK ns p k h;have e:=λZ=>JJ c 1 Z c0 (by omega) (by decide) (by decide);have d:=λZ=>JJ c 2 Z c0 (by omega) (by decide) (by decide);have z:=λZ=>QA ns 0 Z (by decide) (by decide);have q:=OR ns 0;generalize wM ns 0=x at z q;have m:∀j,qB j 6:=λj=>⟨by decide,by decide⟩
 have o:mF (x%6) 5:=ON (by decide) (by decide);obtain⟨n,hn⟩:=aIT (xV c 1) (x%6*5/6) (UE _ _) (by have:=Fg c 1;omega) (by omega) (by omega);obtain⟨t,L,B,g⟩:=aIG (xV c 2) (UE _ _);refine⟨c,n,t,L,B,λZ=>?_⟩;have U:(3:a4)<=bc:=by decide
 show trim Z (bU (Lk [ak (.eQ ns),aA k,aq,aq] Z))=_;unfold Lk;rw[bH (mC (eO (aN (aQ (a:=.eQ ns) (by rfl)) (aN (f:=cI 4) (a:=.int 4) (by simp) (aN (aQ (a:=.int k) (by rfl)) bG))) (by rfl) (i Z)))];simp only[aeJ,aeI];have e1:(aC (lZ) (aC (jN) (aC (fC) (aU (bR 2 xE) (aB aP (aB cK a0))) KP) RQ) KP) [ak (.eQ ns),aA k,aA c,aq] Z=aH (.int (x%6*5/6)) Z:=by
  refine eV (a:=.int (x%6*5)) (b:=.int 6) (eV (a:=.int (x%6)) (b:=.int 5) (eV (a:=.int x) (b:=.int 6) (eO (aN (aQ (a:=.eQ ns) (by rfl)) (aN (f:=cI 0) (a:=.int 0) (by simp) bG)) (by rfl) (z Z)) (by simp) (by simp)) (by simp) (by simp[jN,gI,o])) (by simp) (by simp[lZ,gI,m])
 rw[bH (mC (eO (aN (eO (aN (aQ (a:=.int c) (by rfl)) (aN (f:=cI 1) (a:=.int 1) (by simp) bG)) (by rfl) (e Z)) (aN e1 bG)) (by rfl) (hn Z)))];simp only[aeJ,aeI];have l:(aU (bR 1 rM) (aB (aU (bR 2 zC) (aB bL (aB jT a0))) a0)) [ak (.eQ ns),aA k,aA c,aA n] Z=aH (.int t) Z:=eO (aN (eO (aN (aQ (a:=.int c) (by rfl)) (aN (f:=cI 2) (a:=.int 2) (by simp) bG)) (by rfl) (d Z)) bG) (by rfl) (g Z);unfold bK;rw[eR (x:=A.lst [.int c,.int n,.int t]) (Z':=Z) (by
  unfold fL;rw[cV (aN (aQ (a:=.int c) (by rfl)) (aN (aQ (a:=.int n) (by rfl)) (aN l bG)))];simp[U])]
 simp only[bU];exact iK rfl
end M
namespace V2
open PySem L2 PyProof.Rows
section
variable{P:bg}{w:br}{K:bj}{mg:a9->av ar}{base:bz}
theorem cO.o{x:a9}{st:bw}{N ps:ao a9}{k:a4}{b:MS}(h:HasFn K mg x st)(S:cE N ps (bB st))
  (q:∀{f:ay} {j:ar} {A:bu} {outer:ao Env} {s:aw} {H:Hp} {E:XK},dP k (A.deeper (c7 x (bB st) s.heap.objs.size f j)) ->
   iX (rF P w K mg base N x (bB st) f j A outer s H E) (λ_=>E) (fV st) b)
  (bind:∀(kV doc pm:ar) (an:av ay) (j ct:ar) (us:ao ar),us.length=ps.length->ei (fnOf x x (lL st) (fV st) (bB st) .none kV doc pm an j ct) ⟨us,[]⟩=pure (ps.zip us):=by exact λ_ _ _ _ _ _ us hl=>(by first|exact Aj us hl λ_=>rfl|exact GD us hl λ_ _=>rfl|exact Ai us hl λ_ _ _=>rfl|exact Ah us hl λ_ _ _ _=>rfl|exact us5 us hl λ_ _ _ _ _=>rfl)) :
  cO P w K mg base x (k+1) ps (cM N.length b):=cO.of h S bind λ_ _ _ _ _ _ _=>q
theorem bV.o{cls m af:a9}{st:bw}{N ps:ao a9}{k:a4}{b:MS}(h:lE K mg cls m af st)(S:cE N ps (bB st))
  (q:∀{f:ay} {j:ar} {A:bu} {outer:ao Env} {s:aw} {H:Hp} {E:XK},dP k (A.deeper (c7 af (bB st) s.heap.objs.size f j)) ->
   iX (rF P w K mg base N af (bB st) f j A outer s H E) (λ_=>E) (fV st) b)
  (bind:∀(kV doc pm:ar) (an:av ay) (j ct:ar) (us:ao ar),us.length=ps.length->ei (fnOf m af (lL st) (fV st) (bB st) .none kV doc pm an j ct) ⟨us,[]⟩=pure (ps.zip us):=by exact λ_ _ _ _ _ _ us hl=>(by first|exact Aj us hl λ_=>rfl|exact GD us hl λ_ _=>rfl|exact Ai us hl λ_ _ _=>rfl|exact Ah us hl λ_ _ _ _=>rfl)) :
  bV P w K mg base cls m (k+1) ps.length [] (cM N.length b):=bV.of h S bind λ_ _ _ _ _ _ _=>q
end
section
variable{X:Cx}{W:WX}
theorem fR(i:a4){x:a9}{pos:dg}(z:decide X.N.Nodup=ax:=by kernel_rfl)(hi:X.N[i]?=ak x:=by rfl)(j:Loc X.env.scope x:=by first|exact .inl rfl|exact .inr rfl)(q:X.fn x=ax\/X.env.scope.names.lookup x=ak .local:=by first|exact .inl rfl|exact .inr rfl|assumption):VG X W (.Name x pos) (gN i):=agH (Ep z) hi j q
theorem dQ(i:a4){x:a9}{e:bx}{fe:Ev->Mo A}{pos pos':dg}(he:VE X W e fe)(B:decide X.N.Nodup=ax:=by kernel_rfl)(hi:X.N[i]?=ak x:=by rfl)(j:Loc X.env.scope x:=by first|exact .inl rfl|exact .inr rfl)(q:e4 e (ak (.Name x pos')) pos.line X.env=pure au:=by rfl)(z:X.fn x=ax\/X.env.scope.names.lookup x=ak .local:=by first|exact .inl rfl|exact .inr rfl|assumption) :
  VS X W (.Assign [.Name x pos'] e pos) (bO fe (gN i)):=agA (Ep B) hi j he q z
theorem tY{elt tg iter:bx}{ifs:ao bx}{scope:da}{pos:dg}{fi:Ev->Mo Src}{g:A->MS}{c:Ev->Mo bh}{e:Ev->Mo A}(j:bh)(ls:ao a9)(js:ao a4)(hi:VI X W tg iter fi)
  (hb:∀{cl C s H fp},VG (kH X scope ls js cl C s H fp) uK tg g/\IZ (kH X scope ls js cl C s H fp) uK ifs c/\VE (kH X scope ls js cl C s H fp) uK elt e)
  (z:X.calm=ax:=by rfl) (ok:Ga scope X.env.scope X.N js=ax:=by kernel_rfl)
  (q:∀x,de iter X.env x=pure x:=by intro _;rfl):VE X W (.ListComp elt [⟨tg,iter,ifs,0⟩] scope pos) (nI j ls.length js fi g c e):=agP j ls js z (.of _ _ rfl rfl ok) hi (λ_ _ _ _ _=>hb) q
end
end V2
namespace M
open PySem V2
noncomputable section
def Kz:MS :=
 (bK (qW (aB (aU rD (aB cK (aB (aC (fU) (aC cW aW cK) (aC cW aP cJ)) a0))) (aB (aC (fU) (aC cW aW cJ) (aC cW aP cK)) a0))))
def Po:ao A->Mo A:=cM 2 Kz
def aG5:MS :=
 (bK (vK (aU (bR 1 YV) (aB aP a0)) (vK (Ag wH wH wH cK (aC cW aP cK) aW (aC cW aP cJ)) (aC wH (aC (fU) (aC cW aP cJ) (aC cW aP cK)) bL))))
def JY:ao A->Mo A:=cM 3 aG5
def Lr:MS :=
 (aV (eM (cF (aC rE bL aW))
   (bK (qW (aB cK (aB cK a0))))
   fM)
  (bK (aU (bR 2 Po) (aB (cU "below" [("Halves",bZ 2 [] BE)] aP (aB aW a0)) (aB (cU "upto" [("Halves",bZ 2 [] BC)] aP (aB bL a0)) a0)))))
def FG:ao A->Mo A:=cM 3 Lr
def aG8:MS :=
 (bK (cU "between" [("Halves",bZ 3 [] FG)] aP (aB aW (aB aW a0))))
def YY:ao A->Mo A:=cM 2 aG8
def Ln:MS :=
 (aV (bO (cU "between" [("Halves",bZ 3 [] FG)] aP (aB bL (aB eE a0))) (gN 4))
  (aV (eM (cF (aC rE eE bL))
   (bK (aU (bR 3 JY) (aB kG (aB cK (aB cK a0)))))
   fM)
  (aV (bO (cU "below" [("Halves",bZ 2 [] BE)] aP (aB bL a0)) (gN 5))
  (aV (bO (cU "upto" [("Halves",bZ 2 [] BC)] aP (aB eE a0)) (gN 6))
  (aV (bO (aC (fU) (aU (bR 2 JZ) (aB aW (aB eE a0))) (aU (bR 2 QX) (aB aW (aB bL a0)))) (gN 7))
  (bK (vK (aU (bR 3 JY) (aB kG (aB xI (aB (aC (jN) jT (cU "off" [("Halves",bZ 1 [] BD)] aP a0)) a0)))) (aC mO kG (qW (aB (aU rD (aB cK (aB (aC (fU) (aC cW xJ cK) (aC cW oY cJ)) a0))) (aB (aC (fU) (aC cW xJ cJ) (aC cW oY cK)) a0)))))))))))
def Pu:ao A->Mo A:=cM 8 Ln
def acX:Ev->Mo A :=
 (nI au 2 [] (jJ aW) (mM 2 (eN (gN 0) (eN (gN 1) lJ))) tU aP)
def Ld:MS :=
 (aV (bO (cU "so_manieth" [("Halves",bZ 2 [] vG)] aP (aB bL a0)) (gN 3))
  (aV (bO (cU "off" [("Halves",bZ 1 [] BD)] aP a0) (gN 4))
  (aV (eM (cF (aC wG (cU "so_manieth" [("Halves",bZ 2 [] vG)] aP (aB bL a0)) eE))
   (bK (cB au))
   fM)
  (aV (eM (uA (mG (cF (aU (bR 1 QU) (aB eE a0)))) (uA (cF (aC (uS ax) eE (cU "numbers" [("Halves",bZ 1 [] ZA)] aP a0))) (cF (aC (uS ax) eE acX))))
   (bK (cB au))
   fM)
  (bK (vK (aC rE (aU (bR 2 QX) (aB aW (aB eE a0))) (aC cH bL kG)) (aC IH (aU (bR 2 JZ) (aB aW (aB eE a0))) (aC (fU) bL kG))))))))
def QV:ao A->Mo A:=cM 5 Ld
def Lg:ay->Exc->MS :=
 λp e=>(aV (bO (aU (NY p (qV ["NoPlace", "NoTimes", "Unlike"] ["RankError", "NoRow", "NoPlace", "NoPouch", "NoSize", "Wrong", "NoTimes", "Unlike", "NoText"] e.cls) (zI ["NoPlace", "NoTimes", "Unlike"] e.cls)) (aB eE (aB (qW (aB (cG "NoPouch") (aB (cG "NoRow") (aB (cG "NoSize") (aB (cG "NoText") (aB (cG "NoTimes") (aB (cG "Unlike") (aB (cG "Wrong") a0)))))))) a0))) (gN 4))
   (bO (fL au (aB (aU (NY p (qV ["NoPlace", "NoTimes", "Unlike"] ["RankError", "NoRow", "NoPlace", "NoPouch", "NoSize", "Wrong", "NoTimes", "Unlike", "NoText"] e.cls) (zI ["NoPlace", "NoTimes", "Unlike"] e.cls)) (aB eE (aB (cG "RankError") a0))) (aB (aU (NY p (qV ["NoPlace", "NoTimes", "Unlike"] ["RankError", "NoRow", "NoPlace", "NoPouch", "NoSize", "Wrong", "NoTimes", "Unlike", "NoText"] e.cls) (zI ["NoPlace", "NoTimes", "Unlike"] e.cls)) (aB eE (aB (cT "ValueError") a0))) (aB kG a0)))) (gN 2)))
def Lf:MS :=
 (kN (cU "so_manieth" [("Halves",bZ 2 [] vG)] aP (aB aW a0)))
def OW:MS :=
 (aV (bO cN (gN 2))
  (aV (CF 3 (λz=>qV ["NoPlace", "NoTimes", "Unlike"] ["RankError", "NoRow", "NoPlace", "NoPouch", "NoSize", "Wrong", "NoTimes", "Unlike", "NoText"] z "NoPlace" == ak ax) Lf Lg)
  (bK (aC mO bL (fL au (aB (cB ax) (aB (cB ax) (aB (cB au) a0))))))))
def Pq:ao A->Mo A:=MB (cM 5 OW)
def Le:MS :=
 (aV (bO (cU "off" [("Halves",bZ 1 [] BD)] aP a0) (gN 3))
  (aV (eM (uA (mG (cF (aU (bR 1 QU) (aB eE a0)))) (mG (cF (aU (bR 3 JY) (aB (cU "upto" [("Halves",bZ 2 [] BC)] aP (aB bL a0)) (aB (aU (bR 2 JZ) (aB aW (aB bL a0))) (aB eE a0)))))))
   (bK (cB au))
   fM)
  (aV (eM (mG (cF (aU (bR 3 JY) (aB (cU "below" [("Halves",bZ 2 [] BE)] aP (aB bL a0)) (aB (aU (bR 2 QX) (aB aW (aB bL a0))) (aB eE a0))))))
   (bK (cB au))
   fM)
  (aV (eM (cF (aC DS (aU rD (aB (aC cW (cU "upto" [("Halves",bZ 2 [] BC)] aP (aB bL a0)) cJ) (aB (aC cW (cU "below" [("Halves",bZ 2 [] BE)] aP (aB bL a0)) cJ) a0))) (cU "length" [("Halves",bZ 1 [] RD)] aP a0)))
   (bK (cB au))
   fM)
  (bK (aC mO (cU "counted" [("Halves",bZ 2 [] YY)] aP (aB bL a0)) (cU "between" [("Halves",bZ 3 [] FG)] aP (aB bL (aB bL a0)))))))))
def YW:ao A->Mo A:=cM 4 Le
def Lh:Ev->Mo A :=
 (nI au 2 [] (jJ (RX au aW (tZ (aC (fC) kG oZ)) (tZ (cI 40)) (tZ oZ))) (mM 2 (eN (gN 0) (eN (gN 1) lJ))) tU aP)
def XB:MS :=
 (aV (bO (aC cH kF (aC (jN) (aC cW (fL au (aB cK (aB cJ (aB (aC (fU) cK cJ) a0)))) (aC (fC) (aC cH kG xH) oZ)) (aU VY (aB (aC rE (aU WB (aB kF a0)) (aC (oQ) pA (cI 20))) a0)))) (gN 9))
   (aV (eM (mG (cF (aU (bR 3 YW) (aB aP (aB aW (aB kF a0))))))
    (bK (cB au))
    fM)
   (eM (mG (cF (aU (bR 4 Pu) (aB aP (aB aW (aB (aC cW xI (aC (fC) (aC cH xH kG) (aU nC (aB xI a0)))) (aB kF a0)))))))
    (bK (cB au))
    fM)))
def ac2:MS :=
 (eM (mG (cF (aU (bR 2 Pq) (aB aP (aB FU a0)))))
    (bK (cB au))
    fM)
def Li:MS :=
 (aV (bO (aC cW (fL au (aB cJ (aB oY (aB (aC cH cJ (aC (fC) (aU (bR 2 zC) (aB kG (aB xH a0))) oY)) a0)))) (aU AJ (aB xH (aB jT a0)))) (gN 10))
   (eM (mG (cF (aU (bR 3 QV) (aB aP (aB aW (aB FU a0))))))
    (bK (cB au))
    fM))
def Lj:MS :=
 (aV (bO (aU (bR 1 FF) (aB aW a0)) (gN 5))
  (aV (bO (aC (lZ) oY (aC (jN) jT bL)) (gN 6))
  (aV (eM (uA (cF (aC wG (fL au (aB (cU "length" [("Halves",bZ 1 [] RD)] aP a0) (aB (cU "puts" [("Halves",bZ 1 [] YZ)] aP a0) a0))) (fL au (aB oY (aB eE a0))))) (cF (aC DS (cU "off" [("Halves",bZ 1 [] BD)] aP a0) (aC (jN) (aU (bR 1 Pt) (aB xJ a0)) xJ))))
   (bK (cB au))
   fM)
  (aV (bO (aC cH Lh (fL au (aB cK (aB (aC cH (aC (fU) cK (aC (oQ) pA (cI 60))) cJ) (aB (aC (fU) (aC (oQ) pA (cI 60)) cJ) a0))))) (gN 7))
  (aV (nJ (KW xI) (mM 2 (eN (gN 8) (eN (gN 9) lJ))) XB)
  (aV (nJ (jJ (fL au (aB cK (aB (aC (fU) cK (aC (fC) kG KO)) (aB (aC cH oY cJ) (aB (aC cH oY (aC (oQ) pA KO)) a0)))))) (gN 10) ac2)
  (aV (nJ (FZ (aB (aU AJ (aB BP (aB oY a0))) a0)) (gN 8) Li)
  (bK (cB ax)))))))))
def Pr:ao A->Mo A:=cM 11 Lj
def Lo:MS :=
 (aV (eM (mG (cF (aU (bR 3 YW) (aB aP (aB aW (aB bL a0))))))
   (bK (cB au))
   fM)
  (aV (eM (cF (aC mO aW (fL au a0)))
   (bK (cB ax))
   fM)
  (bK (vK (aU (bR 3 QV) (aB aP (aB aW (aB cJ a0)))) (aU (bR 3 QV) (aB aP (aB aW (aB (aU (bR 1 FF) (aB aW a0)) a0))))))))
def QY:ao A->Mo A:=cM 3 Lo
def OV:MS :=
 (aV (bO (aU (bR 2 QW) (aB aP (aB oY a0))) (NX 3 (eN (gN 6) (eN (gN 7) (eN (gN 8) lJ)))))
   (aV (bO (aC (fC) (aC (lZ) xJ oZ) oZ) (gN 9))
   (aV (bO (aC (fC) (aC (lZ) xJ KO) oZ) (gN 10))
   (aV (bO (aU (bR 1 FF) (aB (aC cW eE kF) a0)) (gN 11))
   (eM (cF (aC mO (aC (fC) (aC (lZ) xJ (cI 27)) KP) cK))
    (aV (eM (mG (cF (aU (bR 3 QY) (aB (aC cW bL kF) (aB (aC cW eE kF) (aB xI a0))))))
     (bK (cB au))
     fM)
    (aV (eM (cF (aC wH (aC cH Sg (aU (bR 1 FF) (aB (aC cW eE FU) a0))) (cI 1000000000)))
     (aV (kN (cU "join" [("Halves",bZ 2 [] ZC)] (aC cW bL kF) (aB (aC cW bL FU) a0)))
     (aV (bO (aU (bR 2 YX) (aB (aC cW eE kF) (aB (aC cW eE FU) a0))) (yG eE kF))
     (bO (aC cH (aC cW kG kF) (aC cW kG FU)) (yG kG kF))))
     fM)
    (eM (mG (cF (aU (bR 3 QY) (aB (aC cW bL kF) (aB (aC cW eE kF) (aB xI a0))))))
     (bK (cB au))
     fM)))
    (eM (cF (aC wH (aC cH Sg xH) (cI 1000000000)))
     (aV (kN (cU "put" [("Halves",bZ 3 [] QZ)] (aC cW bL kF) (aB xI (aB xH a0))))
     (aV (bO (aU (bR 2 YX) (aB (aC cW eE kF) (aB (fL au (aB (qW (aB xI (aB xH a0))) a0)) a0))) (yG eE kF))
     (bO (aC cH (aC cW kG kF) cJ) (yG kG kF))))
     fM))))))
def acT:MS :=
 (eM (mG (cF (aU (bR 5 Pr) (aB (aC cW bL oY) (aB (aC cW eE oY) (aB aW (aB (aC cW kG oY) (aB (aC cH (aU (bR 2 xE) (aB aP (aB jT a0))) oY) a0))))))))
    (bK (cB au))
    fM)
def WZ:MS :=
 (aV (bO (aU (bR 1 sN) (aB aP a0)) (gN 1))
  (aV (bO (fL au (aB (aU (AK "Halves" 2 BF) (aB aW a0)) (aB (aU (AK "Halves" 2 BF) (aB aW a0)) (aB (aU (AK "Halves" 2 BF) (aB aW a0)) a0)))) (gN 2))
  (aV (bO (fL ax (aB (fL au a0) (aB (fL au a0) (aB (fL au a0) a0)))) (gN 3))
  (aV (bO (fL ax (aB cK (aB cK (aB cK a0)))) (gN 4))
  (aV (nJ (FZ (aB (aU (bR 3 YU) (aB aP (aB ZT (aB (cI 59) a0)))) a0)) (gN 5) OV)
  (aV (nJ (FZ (aB oZ a0)) (gN 5) acT)
  (bK (cB ax))))))))
def aeZ:ao A->Mo A:=cM 12 WZ
end
open PySem L2 V2
theorem SK:∀{l m:ao az},l.Nodup->(∀x∈l,x∈m)->l.length<=m.length
 |[],m,_,_=>by simp
 |x::l,m,nd,h=>by
  have z:=wZ.mp nd;have q:=h x (by simp);have:=SK (l:=l) (m:=m.erase x) z.2 λy j=>(List.mem_erase_of_ne (λe=>z.1 (by rw[<-e];exact j))).mpr (h y (by simp[j]));rw[List.length_erase_of_mem q]at this;have B:0<m.length:=List.length_pos_of_mem q;simp;omega
theorem ag7{row:ao Rn}(j:∀r∈row,0<r.2){x y:az}(h:x<=y):bW row x<=bW row y:=by
 induction row with
 |nil=>simp[bW]
 |cons r row ih =>
  have:=ih λs q=>j s (by simp[q]);have:=j r (by simp);simp only[bW];split <;> split <;> omega
theorem Uu:∀{l:ao Rn},(∀r∈l,0<=r.2)->0<=oH l
 |[],_=>by simp[oH]
 |r::l,h=>by
  have:=Uu (l:=l) λs j=>h s (by simp[j]);have:=h r (by simp);simp only[oH,dJ,vC]at *;omega
theorem ahQ{rs:ao Rn}(h:∀r∈rs,0<=r.2)(k:az):0<=fS rs k:=by
 induction rs with
 |nil=>simp[fS]
 |cons r rs ih =>
  have:=ih λs j=>h s (by simp[j]);have:=h r (by simp);rw[Tn];split <;> omega
theorem asN(rs:ao Rn)(B:∀r∈rs,0<=r.2)(p:az)(h1:1<=p)(h2:whole rs<p):na (lV rs) 0 p=aq:=by
 rcases Fb (lV rs) 0 p (by omega)with⟨q,_⟩|⟨pre,n,c,L,e,a,U,j⟩
 ·exact q
 ·have w:=Sb rs;have z:0<=oH L:=Uu λr hr=>by
   have:r∈lV rs:=by rw[e];simp[hr]
   obtain⟨k,_,rfl⟩:=oU.mp this;exact ahQ B k
  rw[e]at w;simp only[oH,tO,dJ,List.sum_append,vC]at w z j;omega
theorem Tf(n:az):∀rs:ao Rn,GF rs n=bW rs (n-1)
 |[]=>rfl
 |r::rs=>by
  have:=Tf n rs;simp only[GF,bW,dJ,vC]at this ⊢;rw[this]
  by_cases h:r.1<n
  ·rw[a7 h,a7 (by omega)]
  ·rw[ba h,ba (by omega)]
theorem Tc(n:az):∀rs:ao Rn,KY rs n=bW rs n
 |[]=>rfl
 |r::rs=>by
  have:=Tc n rs;simp only[KY,bW,dJ,vC]at this ⊢;rw[this]
theorem Ms{Z Z1 Z2:aG}{Y:Ev}{f g:Ev->Mo A}(h:f Y Z=aH (.bl ax) Z1)(h2:g Y Z1=aH (.bl ax) Z2):vK f g Y Z=aH (.bl ax) Z2:=by
 unfold vK;rw[cV h,cV (x:=ax) (Z':=Z1) (by rfl),a7 rfl];exact h2
section
variable{Z Z':aG}{keep:az}{p:a4}{row:ao Rn}{tk:az}{ls:ao (ao az)}{ts:ao az}{ov un:az}
theorem PH.zN(h:PH Z keep p row tk ls ts ov un)(z:keep<=1000):bN ls<=60000:=by
 obtain⟨t,q⟩:=oV h.s0;have:=h.su;have lb:=UL (T:=t) h.hv.last (by rw[h.hv.wt];omega);have:=Kq 30 t (by omega);have tl:bN ls<=1999*ls.length:=Ao λL j=>by have:=h.sm L j;omega
 omega
theorem PH.Et(h:PH Z keep p row tk ls ts ov un){n:az}(hn:n∈(stI 1 ls).map (·.1)):n∈row.map (·.1):=by
 obtain⟨r,hr,rfl⟩:=oU.mp hn;obtain⟨⟨L,j,hn⟩,_⟩:=Bi hr;exact h.hv.mem L j r.1 hn
theorem PH.aCU(h:PH Z keep p row tk ls ts ov un)(q:row.length<=100):(qP ((stI 1 ls).map (·.1))).length<4000:=by
 have:=SK (l:=qP ((stI 1 ls).map (·.1))) (m:=row.map (·.1)) (ar3 (by simp)) λx j=>by
  rcases Xz.mp j with z|z
  ·simp at z
  ·exact h.Et z
 rw[jQ]at this;omega
theorem PH.Yy(h:PH Z keep p row tk ls ts ov un)(q:row.length<=100):(mZ [] (stI 1 ls)).length<4000:=by
 have:=SK (l:=mZ [] (stI 1 ls)) (m:=row.map (·.1)) (Gj _ (by simp)) λx j=>by
  rcases(Fi _).mp j with z|⟨r,hr,rfl⟩
  ·simp at z
  ·exact h.Et (List.mem_map_of_mem hr)
 rw[jQ]at this;omega
theorem PH.Sd(h:PH Z keep p row tk ls ts ov un):whole (stI 1 ls)=aS row:=by rw[<-h.hv.wt,<-JU (dX ls),<-Uo,<-Be];rfl
theorem aIN(h:PH Z keep p row tk ls ts ov un)(B:keep<=1000)(j:row.length<=100)(q:az)(h1:1<=q)(h2:q<=aS row):∃n,vG [.aE p,.int q] Z=aH (.int n) Z/\n∈(stI 1 ls).map (·.1)/\cX ls (n-1)<q/\q<=cX ls n:=by
 have z:=h.zN B;have L:=h.Sd;obtain⟨n,e,a,b,c⟩:=asP (stI 1 ls) q h1 (by omega);rw[Tf,LL,JU]at a;rw[Tc,LL,JU]at b;refine⟨n,?_,c,a,b⟩;have m:=aeB (stI 1 ls) (by rw[BX];omega) (h.Yy j) q Z;rw[ba (by omega),e]at m;exact uG (eO (aN (LK h.obj z rfl) (aN (aQ rfl) bG)) rfl m)
theorem aIM(h:PH Z keep p row tk ls ts ov un)(U:keep<=1000)(z:row.length<=100)(q:az)(c:q<1\/aS row<q):vG [.aE p,.int q] Z=ak (.exc ⟨"NoPlace",[]⟩,Z):=by
 have B:=h.zN U;have b:=h.Sd;have m:=aeB (stI 1 ls) (by rw[BX];omega) (h.Yy z) q Z;have j:QT [.lst (aM (stI 1 ls)),.int q] Z=ak (.exc ⟨"NoPlace",[]⟩,Z):=by
  by_cases h1:q<1
  ·rw[a7 h1]at m;exact m
  ·rw[ba h1,asN (stI 1 ls) (λr hr=>by
    obtain⟨_,i,e⟩:=Bi hr;rw[e,JU];exact QN (TU i)) q (by omega) (by omega)]at m
   exact m
 have L:aU (bR 2 QT) (aB (cU "stand_ins" [("Halves",bZ 1 [] zD)] aP a0) (aB aW a0)) [aF p,aA q] Z=ak (.exc ⟨"NoPlace",[]⟩,Z):=by
  unfold aU;rw[cV (aN (LK h.obj B rfl) (aN (aQ (a:=.int q) rfl) bG))];simp only[bR];exact j
 show trim Z (bU (Me [aF p,aA q] Z))=_;unfold Me bK;simp only[sM,L,bU,trim];split <;> rfl
theorem YG(a b d w:az)(Z:aG)(h:0<=a/\a<=d/\d<=b/\b-a<=w):JY [.tup [.int a,.int b],.int d,.int w] Z=aH (.bl ax) Z:=by
 obtain⟨h1,h2,q,j⟩:=h;have p:=aqE (a,b) Z;simp only[bY]at p;refine uG (f:=vK _ _) (Y:=[ak (.tup [.int a,.int b]),aA d,aA w]) ?_;simp[bR,p,h1,h2,q,j]
theorem aJA(a b c d:az)(Z:aG):Po [.tup [.int a,.int b],.tup [.int c,.int d]] Z=aH (.tup [.int (max 0 (c-b)),.int (d-a)]) Z:=by
 have i:∀(j:a4) (x y z:az) (k:a4),(([ak (A.tup [.int a,.int b]),ak (.tup [.int c,.int d])]:Ev)[j]?).join=ak (.tup [.int x,.int y])->([A.int x,.int y])[k]?=(aA z)->(aC cW (dN j) (cI k)) [ak (.tup [.int a,.int b]),ak (.tup [.int c,.int d])] Z=aH (.int z) Z:=λj x y z k h e=>pO (k:=k) (aQ h) rfl (ds:=[.int x,.int y]) rfl e;show trim Z (bU (Kz [ak (.tup [.int a,.int b]),ak (.tup [.int c,.int d])] Z))=_;unfold Kz;exact uG (SF (aN (mB (aN (f:=cI 0) (a:=.int 0) rfl (aN (vL (i 1 c d c 0 rfl rfl) (i 0 a b b 1 rfl rfl)) bG)) (a:=.int (max 0 (c-b))) (by simp)) (aN (vL (i 1 c d d 1 rfl rfl) (i 0 a b a 0 rfl rfl)) bG)) (by simp))
def rA(ls:ao (ao az))(ov x:az):az:=max 0 (cX ls x-ov)
def rB(ls:ao (ao az))(un m x:az):az:=min m (cX ls x+un)
theorem Jx{Y:Ev}{j:a4}(h:PH Z keep p row tk ls ts ov un)(hz:bN ls<=60000)(x:az){i:a4}(q:(Y[i]?).join=(aF p))(h1:(Y[j]?).join=(aA x)):(cU "upto" [("Halves",bZ 2 [] BC)] (dN i) (aB (dN j) a0)) Y Z=aH (.tup [.int (rA ls ov x),.int (rB ls un (aS row) x)]) Z:=jX h.obj rfl q (as:=[.int x]) (das:=[]) (aN (aQ h1) bG) rfl (by simpa[rA,rB]using aIE h.obj hz x)
theorem Jz{Y:Ev}{j:a4}(h:PH Z keep p row tk ls ts ov un)(hz:bN ls<=60000)(x:az){i:a4}(q:(Y[i]?).join=(aF p))(h1:(Y[j]?).join=(aA x)):(cU "below" [("Halves",bZ 2 [] BE)] (dN i) (aB (dN j) a0)) Y Z=aH (.tup [.int (rA ls ov (x-1)),.int (rB ls un (aS row) (x-1))]) Z:=jX h.obj rfl q (as:=[.int x]) (das:=[]) (aN (aQ h1) bG) rfl (by simpa[rA,rB]using aI9 h.obj hz x)
theorem PH.WV(h:PH Z keep p row tk ls ts ov un)(x:az):0<=rA ls ov x/\rA ls ov x<=bW row x/\bW row x<=rB ls un (aS row) x/\rB ls un (aS row) x-rA ls ov x<=ov+un/\rB ls un (aS row) x<=aS row:=by
 have:=h.hv.bnd (λs j=>QN (h.pos s j)) x;unfold rA rB;omega
def EI(ls:ao (ao az))(ov un m x y:az):az×az:=if y<x then(0,0)else(max 0 (rA ls ov y-rB ls un m (x-1)),rB ls un m y-rA ls ov (x-1))
theorem aI8(h:PH Z keep p row tk ls ts ov un)(hz:bN ls<=60000)(x y:az):FG [.aE p,.int x,.int y] Z=aH (bY (EI ls ov un (aS row) x y)) Z:=by
 show trim Z (bU (Lr [aF p,aA x,aA y] Z))=_;have j:(cF (aC rE bL aW)) [aF p,aA x,aA y] Z=aH (decide (y<x)) Z:=gR (eV (aQ (a:=.int y) rfl) (aQ (a:=.int x) rfl) (by simp));unfold Lr EI
 by_cases hb:y<x
 ·rw[SW (a:=A.tup [.int 0,.int 0]) (Y1:=[aF p,aA x,aA y]) (Z':=Z) (by
   rw[xY j,a7 (by simpa using hb)];unfold bK;rw[eR (SF (aN (f:=cI 0) (a:=.int 0) (by rfl) (aN (f:=cI 0) (a:=.int 0) (by rfl) bG)) (by simp))]),a7 hb]
  exact iK rfl
 ·rw[bH (nA (by rw[j,nD hb])),ba hb];exact uG (eO (aN (Jz h hz x rfl rfl) (aN (Jx h hz y rfl rfl) bG)) rfl (aJA _ _ _ _ Z))
theorem Jy{Y:Ev}{j k:a4}(h:PH Z keep p row tk ls ts ov un)(hz:bN ls<=60000)(x y:az){i:a4}(q:(Y[i]?).join=(aF p))(h1:(Y[j]?).join=(aA x))(h2:(Y[k]?).join=(aA y)):(cU "between" [("Halves",bZ 3 [] FG)] (dN i) (aB (dN j) (aB (dN k) a0))) Y Z=aH (bY (EI ls ov un (aS row) x y)) Z:=jX h.obj rfl q (as:=[.int x,.int y]) (das:=[]) (aN (aQ h1) (aN (aQ h2) bG)) rfl (by simpa using aI8 h hz x y)
theorem aI4(h:PH Z keep p row tk ls ts ov un)(hz:bN ls<=60000)(x:az):YY [.aE p,.int x] Z=aH (bY (EI ls ov un (aS row) x x)) Z:=uG (Jy h hz x x (Y:=[aF p,aA x]) rfl rfl rfl)
theorem WI{Y:Ev}(h:PH Z keep p row tk ls ts ov un){i:a4}(j:(Y[i]?).join=(aF p)):(cU "off" [("Halves",bZ 1 [] BD)] (dN i) a0) Y Z=aH (.int (ov+un)) Z:=jX h.obj rfl j (as:=[]) (das:=[]) bG rfl (by simpa using aIR h.obj)
theorem aIX(h:PH Z keep p row tk ls ts ov un)(C:keep<=1000)(D:row.length<=100)(x y:az):Pu [.aE p,.lst (aM row),.int x,.int y] Z=aH (.bl ax) Z:=by
 have L:=h.zN C
 let q:=λ(B v u t:av A)=>[ak (A.aE p),ak (A.lst (aM row)),ak (A.int x),ak (A.int y),B,v,u,t]
 show trim Z (bU (Ln (q aq aq aq aq) Z))=_;unfold Ln;rw[bH (Y1:=q (ak (bY (EI ls ov un (aS row) x y))) aq aq aq) (mC (Jy h L x y (by rfl) (by rfl) (by rfl)))];have l:∀B,(cF (aC rE eE bL)) (q B aq aq aq) Z=aH (decide (y<x)) Z:=λB=>gR (eV (aQ (a:=.int y) rfl) (aQ (a:=.int x) rfl) (by simp));unfold EI
 by_cases hb:y<x
 ·rw[a7 hb,SW (a:=A.bl ax) (Y1:=q (ak (bY (0,0))) aq aq aq) (Z':=Z) (by
   rw[xY (l _),a7 (by simpa using hb)];unfold bK;rw[eR (eO (aN (aQ (a:=bY (0,0)) (by rfl)) (aN (f:=cI 0) (a:=.int 0) (by rfl) (aN (f:=cI 0) (a:=.int 0) (by rfl) bG))) (by rfl) (YG 0 0 0 0 Z ⟨by decide,by decide,by decide,by decide⟩))])]
  exact iK rfl
 ·rw[ba hb,bH (nA (by rw[l,nD hb]))];have e:=h.WV y;have d:=h.WV (x-1);have o:=ag7 h.pos (show x-1<=y by omega);have c:=λ(q:Ev) (i j:a4) (U:(q[i]?).join=(aF p)) (h1:(q[j]?).join=(aA x))=>Jz h L x U h1;have b:=λ(q:Ev) (i j:a4) (U:(q[i]?).join=(aF p)) (h1:(q[j]?).join=(aA y))=>Jx h L y U h1;have n:=Nx row y Z (by omega);have m:=Ny row x Z (by omega);generalize bW row y=s at e n o;generalize bW row (x-1)=r at d m o;generalize rB ls un (aS row) y=z at e b;generalize rA ls ov y=lo1 at e b;generalize rB ls un (aS row) (x-1)=hJ at d c;generalize rA ls ov (x-1)=kP at d c;rw[bH (Y1:=q (ak (bY (max 0 (lo1-hJ),z-kP))) (ak (.tup [.int kP,.int hJ])) aq aq) (mC (c _ 0 2 (by rfl) (by rfl)))];rw[bH (Y1:=q (ak (bY (max 0 (lo1-hJ),z-kP))) (ak (.tup [.int kP,.int hJ])) (ak (.tup [.int lo1,.int z])) aq) (mC (b _ 0 3 (by rfl) (by rfl)))];rw[bH (Y1:=q (ak (bY (max 0 (lo1-hJ),z-kP))) (ak (.tup [.int kP,.int hJ])) (ak (.tup [.int lo1,.int z])) (aA (s-r))) (mC (vL (eO (aN (aQ (by rfl)) (aN (aQ (by rfl)) bG)) (by rfl) n) (eO (aN (aQ (by rfl)) (aN (aQ (by rfl)) bG)) (by rfl) m)))];have w:=YG (max 0 (lo1-hJ)) (z-kP) (s-r) (2*(ov+un)) Z ⟨by omega,by omega,by omega,by omega⟩;refine uG (Ms (eO (aN (aQ (a:=bY (max 0 (lo1-hJ),z-kP)) rfl) (aN (aQ rfl) (aN (UD (f:=cI 2) rfl (WI h rfl) (Kj _)) bG))) rfl w) (eV (aQ (a:=bY (max 0 (lo1-hJ),z-kP)) rfl) (SF (xs:=[.int (max 0 (lo1-hJ)),.int (z-kP)]) (aN (mB (aN (f:=cI 0) (a:=.int 0) rfl (aN (vL (pO (k:=0) (g:=cI 0) (aQ (a:=.tup [.int lo1,.int z]) rfl) rfl (ds:=[.int lo1,.int z]) rfl rfl) (pO (k:=1) (g:=cI 1) (aQ (a:=.tup [.int kP,.int hJ]) rfl) rfl (ds:=[.int kP,.int hJ]) rfl rfl)) bG)) (by simp)) (aN (vL (pO (k:=1) (g:=cI 1) (aQ (a:=.tup [.int lo1,.int z]) rfl) rfl (ds:=[.int lo1,.int z]) rfl rfl) (pO (k:=0) (g:=cI 0) (aQ (a:=.tup [.int kP,.int hJ]) rfl) rfl (ds:=[.int kP,.int hJ]) rfl rfl)) bG)) (by simp)) (VZ (by simp[cY,bY]))))
theorem aeC(h:PH Z keep p row tk ls ts ov un)(o:keep<=1000)(t:row.length<=100)(x:az):YW [.aE p,.lst (aM row),.int x] Z=aH (.bl ax) Z:=by
 have U:=h.zN o;have f:=h.WV x;have e:=h.WV (x-1);have d:=λ(q:Ev) (i j:a4) (z:(q[i]?).join=(aF p)) (h1:(q[j]?).join=(aA x))=>Jz h U x z h1;have c:=λ(q:Ev) (i j:a4) (z:(q[i]?).join=(aF p)) (h1:(q[j]?).join=(aA x))=>Jx h U x z h1;have m:=Nx row x Z (by omega);have l:=Ny row x Z (by omega);have ct:=aI4 h U x;have bt:=λ(q:Ev) (i j:a4) (z:(q[i]?).join=(aF p)) (h1:(q[j]?).join=(aA x))=>Jy h U x x z h1 h1;generalize EI ls ov un (aS row) x x=B at ct bt;generalize bW row x=s at f m;generalize bW row (x-1)=r at e l;generalize rB ls un (aS row) x=L at f c;generalize rA ls ov x=lo1 at f c;generalize rB ls un (aS row) (x-1)=hJ at e d;generalize rA ls ov (x-1)=kP at e d
 let q:=λ(n:av A)=>[ak (A.aE p),ak (A.lst (aM row)),ak (A.int x),n]
 show trim Z (bU (Le (q aq) Z))=_;unfold Le;rw[bH (Y1:=q (aA (ov+un))) (mC (WI h (by rfl)))];rw[bH (nA (by
  rw[LS (sZ (b:=ax) (gR (eO (aN (aQ (a:=.int (ov+un)) (by rfl)) bG) (by rfl) (ad9 _ _))))];exact sZ (b:=ax) (gR (eO (aN (c _ 0 2 (by rfl) (by rfl)) (aN (eO (aN (aQ (by rfl)) (aN (aQ (by rfl)) bG)) (by rfl) m) (aN (aQ (by rfl)) bG))) (by rfl) (YG lo1 L s _ Z ⟨by omega,by omega,by omega,by omega⟩)))))]
 rw[bH (nA (sZ (b:=ax) (gR (eO (aN (d _ 0 2 (by rfl) (by rfl)) (aN (eO (aN (aQ (by rfl)) (aN (aQ (by rfl)) bG)) (by rfl) l) (aN (aQ (by rfl)) bG))) (by rfl) (YG kP hJ r _ Z ⟨by omega,by omega,by omega,by omega⟩)))))];rw[bH (nA (gR (b:=au) (eV (a:=.int (max L hJ)) (b:=.int (aS row)) (mB (aN (pO (k:=1) (g:=cI 1) (c _ 0 2 (by rfl) (by rfl)) (by rfl) (ds:=[.int lo1,.int L]) (by rfl) (by rfl)) (aN (pO (k:=1) (g:=cI 1) (d _ 0 2 (by rfl) (by rfl)) (by rfl) (ds:=[.int kP,.int hJ]) (by rfl) (by rfl)) bG)) (by simp)) (jX h.obj (by rfl) (by rfl) (as:=[]) (das:=[]) bG (by rfl) (by simpa using aeE h.obj)) (by
  have:¬aS row<max L hJ:=by omega
  simp[this]))))]
 exact uG (eV (jX h.obj rfl rfl (as:=[.int x]) (das:=[]) (aN (aQ rfl) bG) rfl (by simpa using ct)) (bt _ 0 2 rfl rfl) (VZ (by simp[cY,bY])))
end
noncomputable abbrev SY:ao a9:=["NoPlace", "NoTimes", "Unlike"]
noncomputable abbrev Kf:ao a9:=["RankError", "NoRow", "NoPlace", "NoPouch", "NoSize", "Wrong", "NoTimes", "Unlike", "NoText"]
theorem Vs:∀{X:ao A} {row:ao Rn},(∀a∈X,a∈aM row)->∃R:ao Rn,X=R.map bY
 |[],_,_=>⟨[],rfl⟩
 |a::X,row,h=>by
  obtain⟨R,e⟩:=Vs (X:=X) (row:=row) λb hb=>h b (by simp[hb]);obtain⟨r,_,j⟩:=oU.mp (h a (by simp));exact⟨r::R,by rw[e,<-j];rfl⟩
theorem ao7{α:Type}(ds:ao α)(lo hi st:av az):(nK ds lo hi st).length<=ds.length:=by
 have s:=slicePick_size_le (List.replicate ds.length Value.none).toArray lo hi st;have e:∀j:ao a4,(j.filterMap (ds[·]?)).length=(j.filterMap ((List.replicate ds.length Value.none)[·]?)).length:=by
  intro j
  induction j with
  |nil=>rfl
  |cons q j ih =>
   rw[xD,xD]
   rcases JH q ds.length with z|z
   ·rw[gM z,gM (by simpa using z)];simp only[eB,ih]
   ·rw[yY z,yY (by simpa using z)];exact ih
 have L:=e (sliceRange (cg lo hi st ds.length).1 (cg lo hi st ds.length).2.1 (cg lo hi st ds.length).2.2);unfold slicePick at s;simp only[hW,aeM]at s;unfold nK;rw[L];have B:(λx:a4=>(List.replicate ds.length Value.none).toArray[x]?)=λx:a4=>(List.replicate ds.length Value.none)[x]?:=by funext x;rw[List.getElem?_toArray]
 rw[B]at s;simpa using s
theorem Xy{x:A}:∀{n:a4} {xs:ao A},x∈rU n xs->∃(k:a4) (a:A),x=.tup [.int k,a]/\a∈xs/\k<n+xs.length
 |n,y::xs,h=>by
  rcases dY.mp h with e|e
  ·exact⟨n,y,e,by simp,by simp⟩
  ·obtain⟨k,a,h1,h2,j⟩:=Xy e;exact⟨k,a,h1,by simp[h2],by simp only[eB];omega⟩
section
variable{Z Z':aG}{keep:az}{p:a4}{row:ao Rn}{tk:az}{ls:ao (ao az)}{ts:ao az}{ov un:az}
theorem Nw(h:PH Z keep p row tk ls ts ov un)(s:keep<=1000)(l:row.length<=100)(q:az)(h1:1<=q)(h2:q<=aS row):QV [.aE p,.lst (aM row),.int q] Z=aH (.bl ax) Z:=by
 have C:=h.zN s;obtain⟨n,e,hm,a,b⟩:=aIN h s l q h1 h2;have U:=aIS h.obj C (h.aCU l);have m:n∈sortI (qP ((stI 1 ls).map (·.1))):=(sortI_perm _).mem_iff.mpr (Xz.mpr (.inr hm));generalize sortI (qP ((stI 1 ls).map (·.1)))=N at U m;have o:uS ax (.int n) (.aE Z.length) (Z++[.lst (N.map A.int)])=aH (.bl au) (Z++[.lst (N.map A.int)]):=by
  have g:(Z++[Cell.lst (N.map A.int)])[Z.length]?=ak (.lst (N.map A.int)):=by simp
  have e:uS ax (.int n) (.aE Z.length) (Z++[.lst (N.map A.int)])=uS ax (.int n) (.lst (N.map A.int)) (Z++[.lst (N.map A.int)]):=by
   unfold uS;rw[amU g,vQ (Ef N)]
  rw[e,abD];simp[m]
 have t:=h.Et hm;have d:=(ag6 row n h.pos).2 t;have E:=h.hv.cnt (n-1);have D:=h.hv.cnt n;have:=h.hv.CL;have:=h.hv.BW
 let j:=λ(L B:av A)=>[ak (A.aE p),ak (A.lst (aM row)),ak (A.int q),L,B]
 generalize c:Z++[Cell.lst (N.map A.int)]=z at U o;have i:=Ny row n z (by omega);have f:=Nx row n z (by omega);generalize bW row (n-1)=lo at d E i;generalize bW row n=hi at d D f;have k:∀L B,(cU "so_manieth" [("Halves",bZ 2 [] vG)] aP (aB bL a0)) (j L B) Z=aH (.int n) Z:=λL B=>jX h.obj rfl rfl (as:=[.int q]) (das:=[]) (aN (aQ rfl) bG) rfl (by simpa using e);have y:acX (j (aA n) (aA (ov+un))) z=aH (.lst ((row.map (·.1)).map A.int)) z:=by
  rw[tN];exact GB (S:=srcOf (.lst (aM row)) (aM row)) row bY (λr=>A.int r.1) (λj=>∃u v,j=[u,v]) (λa b e=>by simp only[bY,A.tup.injEq,nX,A.int.injEq,uZ]at e;rw[e.1]) (by simp[j]) (λw=>rfl) ⟨aq,aq,rfl⟩ rfl (by omega) (λr _ j ⟨u,v,e⟩ w=>by subst e;exact⟨[aA r.1,aA r.2],⟨_,_,rfl⟩,by simp[bY],by simp⟩) (λn _=>by simp[Cl])
 show trim Z (bU (Ld (j aq aq) Z))=_;unfold Ld;rw[bH (Y1:=j (aA n) aq) (mC (k _ _))];rw[bH (Y1:=j (aA n) (aA (ov+un))) (mC (WI h (by rfl)))];rw[bH (nA (gR (eV (k _ _) (aQ (a:=.int n) (by rfl)) (Jg (by simp[cY])))))];rw[bH (Z':=z) (nA (by
  rw[LS (sZ (b:=ax) (gR (eO (aN (aQ (a:=.int n) (by rfl)) bG) (by rfl) (ad9 _ _))))];rw[LS (gR (b:=au) (Xj (aQ (a:=.int n) (by rfl)) (jX h.obj (by rfl) (by rfl) (as:=[]) (das:=[]) bG (by rfl) (by simpa using U)) o))];exact gR (eV (aQ (a:=.int n) rfl) y (by rw[abD];simp only[t,EA,Bool.not_true])))) ]
 have G:lo<q+(ov+un):=by omega
 have F:q-(ov+un)<=hi:=by omega
 unfold bK;rw[eR (x:=A.bl ax) (Z':=z) (Ms (eV (eO (aN (aQ (by rfl)) (aN (aQ (by rfl)) bG)) (by rfl) i) (qR (aQ (by rfl)) (aQ (by rfl))) (by simp[G])) (eV (eO (aN (aQ (by rfl)) (aN (aQ (by rfl)) bG)) (by rfl) f) (vL (aQ (by rfl)) (aQ (by rfl))) (by simp[F]))),<-c];exact LC (by simp only[Cl])
theorem aIU(h:PH Z keep p row tk ls ts ov un)(r:keep<=1000)(i:row.length<=100)(q:az)(k:q<1\/aS row<q):Pq [.aE p,.int q] Z=aH (.bl ax) Z:=by
 have m:(3:a4)<=bc:=by decide
 have l:(7:a4)<=bc:=by decide
 have d:OZ (qV SY Kf "NoPlace") ["NoPouch", "NoRow", "NoSize", "NoText", "NoTimes", "Unlike", "Wrong"]=ak au:=by decide
 have c:qV SY Kf "NoPlace" "RankError" = ak ax:=by decide
 have b:zI SY "NoPlace" "ValueError" = ak ax:=by decide
 have e:=aIM h r i q k
 let j:=λ(U L B:av A)=>[ak (A.aE p),ak (A.int q),U,L,B]
 have em:cU "so_manieth" [("Halves",bZ 2 [] vG)] aP (aB aW a0) (j (ak .bQ) aq aq) Z=ak (.exc ⟨"NoPlace",[]⟩,Z):=by
  unfold cU;rw[cV (aQ (a:=.aE p) rfl)];have g:List.lookup ("Halves" : a9) [(("Halves" : a9),bZ 2 [] vG)]=ak (bZ 2 [] vG):=by simp[List.lookup]
  have hl:(iV keep (aS row) tk ls ts ov un).lookup ("so_manieth" : a9)=aq:=rfl;simp only[NW,h.obj,g,hl];rw[cV (aN (aQ (a:=.int q) rfl) bG)];simp only[bZ];rw[a7 (show [A.aE p,A.int q].length+([]:ao A).length=2 from rfl)];exact e
 have e0:Lf (j (ak .bQ) aq aq) Z=ak (.exc ⟨"NoPlace",[]⟩,j (ak .bQ) aq aq,Z):=by
  unfold Lf kN;simp only[sM,em]
 have e1:∀z,OI 3 (Lg z ⟨"NoPlace",[]⟩ ((j (ak .bQ) aq aq).set 3 (ak (.adr z))) Z)=eS (j (ak (.lst [.bl ax,.bl ax,.bl au])) aq (ak (.bl au))) Z:=by
  intro z;simp[Lg,m,l,isA,NV,Jc,d,c,b,OI,j]
 have o:=ahM (sub:=λz=>qV SY Kf z "NoPlace" == ak ax) e0 (by decide) e1;have n:cM 5 OW [.aE p,.int q] Z=aH (.bl ax) Z:=by
  show trim Z (bU (OW (j aq aq aq) Z))=_;unfold OW;rw[bH (Y1:=j (ak .bQ) aq aq) (mC (f:=cN) (a:=.bQ) (by rfl)),bH o];exact uG (eV (aQ rfl) (uM (xs:=[.bl ax,.bl ax,.bl au]) (aN (f:=cB ax) (a:=.bl ax) rfl (aN (f:=cB ax) (a:=.bl ax) rfl (aN (f:=cB au) (a:=.bl au) rfl bG))) (by simp)) (VZ (by simp[cY])))
 show MB (cM 5 OW) [.aE p,.int q] Z=_;simp only[MB,n]
theorem aJB(h:PH Z keep p row tk ls ts ov un)(z:keep<=1000)(q:row.length<=100)(x:az):QY [.aE p,.lst (aM row),.int x] Z=aH (.bl ax) Z:=by
 show trim Z (bU (Lo [aF p,dG (aM row),aA x] Z))=_;unfold Lo;rw[bH (nA (sZ (b:=ax) (gR (eO (aN (aQ (by rfl)) (aN (aQ (by rfl)) (aN (aQ (by rfl)) bG))) (by rfl) (aeC h z q x)))))];cases row with
 |nil =>
  rw[SW (a:=A.bl ax) (Y1:=[aF p,dG (aM []),aA x]) (Z':=Z) (by
   rw[xY (gR (b:=ax) (eV (aQ (a:=.lst (aM [])) (by rfl)) (uM (xs:=[]) bG (by simp)) (VZ (by simp[cY,aM])))),a7 rfl];unfold bK;rw[eR (x:=A.bl ax) (Z':=Z) (by rfl)])]
  exact iK rfl
 |cons r row =>
  have j:1<=aS (r::row):=by
   have U:=h.pos r (by simp);have:0<=aS row:=by
    have B:∀s∈row,0<s.2:=λs j=>h.pos s (by simp[j]);clear h q U
    induction row with
    |nil=>simp[aS]
    |cons a row ih=>have:=ih λs j=>B s (by simp[j]);have:=B a (by simp);simp only[aS];omega
   simp only[aS];omega
  have ne:mO (.lst (aM (r::row))) (.lst []) Z=aH (.bl au) Z:=by
   have L:cY 8 (.lst (aM (r::row)))=ax:=by simp[cY,aM,bY]
   unfold mO yH;rw[vQ L,vQ (show cY 8 (.lst [])=ax by simp[cY])];simp[aM,gX,cY,bY,yJ]
  rw[bH (nA (gR (eV (aQ (a:=.lst (aM (r::row))) (by rfl)) (uM (xs:=[]) bG (by simp)) ne)))];exact uG (Ms (eO (aN (aQ rfl) (aN (aQ rfl) (aN (f:=cI 1) (a:=.int 1) rfl bG))) rfl (Nw h z q 1 (by omega) j)) (eO (aN (aQ rfl) (aN (aQ rfl) (aN (eO (aN (aQ (a:=.lst (aM (r::row))) rfl) bG) rfl (PZ _ Z (by omega))) bG))) rfl (Nw h z q _ j (by omega))))
theorem atJ(h:PH Z keep p row tk ls ts ov un)(s:keep<=1000)(o:row.length<=100)(q:ao az)(jM:q≠[])(cell:az)(k:a4)(n:az)(d U L B e:av A)(hl:q.length<=1000):∃x,XB [aF p,dG (aM row),d,U,aA cell,L,B,dG (q.map A.int),aA k,aA n,e] Z=eS [aF p,dG (aM row),d,U,aA cell,L,B,dG (q.map A.int),aA k,aA x,e] Z:=by
 obtain⟨j,w⟩:=oV (show 0<=(cell+k)%3 by omega);obtain⟨v,hv,D,C⟩:∃v:az,[A.int 0,.int 1,.int (0-1)][j]?=(aA v)/\-10<v/\v<10:=by
  have:j=0\/j=1\/j=2:=by omega
  rcases this with z|z|z <;> subst z <;> exact⟨_,rfl,by decide,by decide⟩
 have l:sQ 10 20:=⟨by decide,by decide,by decide⟩
 let m:=λ(u:av A)=>[ak (A.aE p),ak (A.lst (aM row)),d,U,ak (A.int cell),L,B,ak (A.lst (q.map A.int)),ak (A.int k),u,e]
 generalize hb:(if decide ((if n<0 then -n else n)<10 ^ 20)then(1:az)else 0)=b;have r:(aC cH kF (aC (jN) (aC cW (fL au (aB cK (aB cJ (aB (aC (fU) cK cJ) a0)))) (aC (fC) (aC cH kG xH) oZ)) (aU VY (aB (aC rE (aU WB (aB kF a0)) (aC (oQ) pA (cI 20))) a0)))) (m (aA n)) Z=aH (.int (n+v*b)) Z:=by
  refine qR (aQ rfl) (UD (pO (k:=j) (uM (aN (f:=cI 0) (a:=.int 0) rfl (aN (f:=cI 1) (a:=.int 1) rfl (aN (vL (f:=cI 0) (g:=cI 1) rfl rfl) bG))) (by simp)) ?_ rfl hv) ?_ (yO (by omega) (by omega)))
  ·rw[<-w];exact CQ (g:=cI 3) (qR (aQ rfl) (aQ rfl)) rfl (by decide)
  ·rw[<-hb];exact mB (aN (eV (mB (aN (aQ (a:=.int n) rfl) bG) (a:=.int (if n<0 then -n else n)) (by simp)) (b:=.int (10 ^ 20)) (by simp[l]) (c:=.bl (decide ((if n<0 then -n else n)<10 ^ 20))) (by simp)) bG) (by simp)
 refine⟨n+v*b,?_⟩;generalize n+v*b=x at r;have t:(0:az)<((q.map A.int).length:a4):=by
  rw[jQ];have:=List.length_pos_iff.mpr jM;omega
 obtain⟨i,hi⟩:=oV (QO ((k:az)+cell) (show(((q.map A.int).length:a4):az)≠0 by omega));have hJ:=QP ((k:az)+cell) t;have y:i<q.length:=by rw[jQ]at hJ hi;omega
 unfold XB;rw[bH (Y1:=m (aA x)) (mC r)];rw[bH (nA (sZ (b:=ax) (gR (eO (aN (aQ (by rfl)) (aN (aQ (by rfl)) (aN (aQ (by rfl)) bG))) (by rfl) (aeC h s o x)))))];refine nA (sZ (b:=ax) (gR (eO (as:=[.aE p,.lst (aM row),.int q[i],.int x]) (aN (aQ rfl) (aN (aQ rfl) (aN (pO (k:=i) (aQ (a:=.lst (q.map A.int)) rfl) ?_ (ds:=q.map A.int) rfl (by simp[y])) (aN (aQ rfl) bG)))) rfl (aIX h s o _ x))));rw[<-hi];exact CQ (qR (aQ rfl) (aQ rfl)) (atV (aQ (a:=.lst (q.map A.int)) rfl) rfl rfl) t
theorem aIW(h:PH Z keep p row tk ls ts ov un)(hk:1<=keep)(D:keep<=1000)(H:row.length<=100)(cell:az)(Ik:0<=cell)(ID:cell<2147483600):Pr [.aE p,.lst (aM row),.int keep,.int tk,.int cell] Z=aH (.bl ax) Z:=by
 have C:=h.zN D;have hv:=h.hv;have su:=h.su;have s0:=h.s0;have tt:=PZ row Z (by omega);obtain⟨fS,M⟩:=oV h.s0;obtain⟨kp,AD⟩:=oV (show 0<=keep by omega);obtain⟨vX,AE,tF⟩:=hv.DL;rw[AD]at AE;have ob:=Xk (k:=kp) (by omega) (T:=fS) AE (by rw[hv.wt];omega);rw[tF]at ob;have W:=aI7 (fS/(2*kp)) (lt100 (nW (Nat.div_le_self _ _) (by omega))) Z;have bb:kS (fS/(2*kp))<=41:=aGP (nW (Nat.div_le_self _ _) (by omega));have cd:qB (aS row) (2*keep):=⟨by omega,by omega⟩;have ed:aS row/(2*keep)=((fS/(2*kp):a4):az):=by rw[M,AD];simp
 generalize fS/(2*kp)=P at ob W bb ed
 let B:=λ(x5 x6 x7 d c U:av A)=>[ak (A.aE p),ak (A.lst (aM row)),ak (A.int keep),ak (A.int tk),ak (A.int cell),x5,x6,x7,d,c,U]
 have T:av A:=(aA (aS row));have w:(RX au aW (tZ (aC (fC) kG oZ)) (tZ (cI 40)) (tZ oZ)) (B (aA (aS row)) (aA P) aq aq aq aq) Z=aH (.lst (nK (aM row) (ak (cell%3)) (ak 40) (ak 3))) Z:=by
  simp[B,Jf]
 have o:=ao7 (aM row) (ak (cell%3)) (ak 40) (ak 3);obtain⟨R,hR⟩:=Vs (row:=row) λa (ha:a∈nK (aM row) (ak (cell%3)) (ak 40) (ak 3))=>ao5 ha;rw[hR]at w o;have Iq:R.length<=100:=by simp[aM]at o;omega
 have E:Lh (B (aA (aS row)) (aA P) aq aq aq aq) Z=aH (.lst ((R.map (·.1)).map A.int)) Z:=by
  rw[tN];exact GB (S:=srcOf (.lst (R.map bY)) (R.map bY)) R bY (λr=>A.int r.1) (λB=>∃u v,B=[u,v]) (λa b e=>by simp only[bY,A.tup.injEq,List.cons.injEq,A.int.injEq,and_true]at e;rw[e.1]) (by unfold jJ;rw[cV w];rfl) (λys=>rfl) ⟨aq,aq,rfl⟩ rfl (by omega) (λr _ B ⟨u,v,e⟩ ys=>by subst e;exact⟨[aA r.1,aA r.2],⟨_,_,rfl⟩,by simp[bY],by simp⟩) (λn _=>by simp[Cl])
 have K:sQ 10 60:=⟨by decide,by decide,by decide⟩;have X:∀B,(aC (oQ) pA (cI 60)) B Z=aH (.int (10 ^ 60)) Z:=λB=>eV (a:=.int 10) (b:=.int 60) (f1:=cI 10) (f2:=cI 60) rfl rfl (by simp[K]);have N:∀B,(fL au (aB cK (aB (aC cH (aC (fU) cK (aC (oQ) pA (cI 60))) cJ) (aB (aC (fU) (aC (oQ) pA (cI 60)) cJ) a0)))) B Z=aH (.lst [.int 0,.int (0-10 ^ 60+1),.int (10 ^ 60-1)]) Z:=λB=>uM (aN (f:=cI 0) (a:=.int 0) rfl (aN (qR (g:=cI 1) (vL (f:=cI 0) rfl (X B)) rfl) (aN (vL (g:=cI 1) (X B) rfl) bG))) (by simp);generalize hF:(0-10 ^ 60+1:az)=f1 at N;generalize hG:(10 ^ 60-1:az)=f2 at N;have cat:(aC cH Lh (fL au (aB cK (aB (aC cH (aC (fU) cK (aC (oQ) pA (cI 60))) cJ) (aB (aC (fU) (aC (oQ) pA (cI 60)) cJ) a0))))) (B (aA (aS row)) (aA P) aq aq aq aq) Z=aH (.lst ((R.map (·.1)++[0,f1,f2]).map A.int)) Z:=by
  refine eV E (N _) ?_;rw[tO];have C:¬bc<((R.map (·.1)).map A.int).length+[A.int 0,A.int f1,A.int f2].length:=by rw[qH];simp;omega
  show WA au _ (A.lst [A.int 0,A.int f1,A.int f2]) Z=aH (.lst (_++[A.int 0,A.int f1,A.int f2])) Z;generalize (R.map (·.1)).map A.int=u at C;generalize [A.int 0,A.int f1,A.int f2]=v at C;simp[II,eU,DB,C]
 have s:(R.map (·.1)++[0,f1,f2]).length<=1000:=by simp;omega
 have t:R.map (·.1)++[0,f1,f2]≠[]:=by simp
 generalize R.map (·.1)++[0,f1,f2]=L at cat s t;obtain⟨Y1,G,d,c,U,rfl⟩:=OC (ok:=λZ'=>eU Z' (.lst (L.map A.int))=ak (L.map A.int)) (g:=mM 2 (eN (gN 8) (eN (gN 9) lJ))) (b:=XB) (Z:=Z) (λr=>∃d c U,r=B (aA (aS row)) (aA P) (ak (.lst (L.map A.int))) d c U) rfl (rU 0 (L.map A.int)) (B (aA (aS row)) (aA P) (ak (.lst (L.map A.int))) aq aq aq) ⟨_,_,_,rfl⟩ (by
  rintro x l _ ⟨d,c,U,rfl⟩;obtain⟨k,a,rfl,ha,_⟩:=Xy l;obtain⟨n,_,rfl⟩:=oU.mp ha;obtain⟨y,q⟩:=atJ h D H L t cell k n (aA keep) (aA tk) (aA (aS row)) (aA P) U s;exact⟨_,_,by simp[B],q,_,_,_,rfl⟩)
 obtain⟨Y2,Fm,qU,rfl⟩:=OC (ok:=λZ'=>jD Z' (.lst [.int 0,.int (0-cell%9),.int (aS row+1),.int (aS row+10 ^ 9)])=ak [.int 0,.int (0-cell%9),.int (aS row+1),.int (aS row+10 ^ 9)]) (g:=gN 10) (b:=ac2) (Z:=Z) (λr=>∃U,r=B (aA (aS row)) (aA P) (ak (.lst (L.map A.int))) d c U) rfl [.int 0,.int (0-cell%9),.int (aS row+1),.int (aS row+10 ^ 9)] (B (aA (aS row)) (aA P) (ak (.lst (L.map A.int))) d c U) ⟨_,rfl⟩ (by
  rintro x l _ ⟨U,rfl⟩;obtain⟨q,rfl,I⟩:∃q:az,x=.int q/\(q<1\/aS row<q):=by
   simp only[dY,BA,GY]at l
   rcases l with e|e|e|e <;> subst e
   ·exact⟨_,rfl,.inl (by omega)⟩
   ·exact⟨_,rfl,.inl (by omega)⟩
   ·exact⟨_,rfl,.inr (by omega)⟩
   ·exact⟨_,rfl,.inr (by omega)⟩
  exact⟨_,_,by simp[B],nA (sZ (b:=ax) (gR (eO (as:=[.aE p,.int q]) (aN (aQ rfl) (aN (aQ rfl) bG)) rfl (aIU h D H q I)))),aA q,rfl⟩)
 obtain⟨m,hm⟩:=oV (show 0<=min 8 (aS row)by omega);obtain⟨Y3,F,_⟩:=OC (ok:=λ_=>True) (g:=gN 8) (b:=Li) (Z:=Z) (λr=>∃d U,r=B (aA (aS row)) (aA P) (ak (.lst (L.map A.int))) d c U) trivial ((List.range m).map λ(i:a4)=>A.int (0+(i:az))) (B (aA (aS row)) (aA P) (ak (.lst (L.map A.int))) d c qU) ⟨_,_,rfl⟩ (by
  rintro x l _ ⟨d,U,rfl⟩;obtain⟨i,hi,rfl⟩:=oU.mp l;rw[List.mem_range]at hi;rw[QL];have V:=JJ cell i Z Ik (by omega) (by omega) (by omega);generalize xV cell i=z at V;have Q:0<aS row:=by omega
  have z0:=QO z (show aS row≠0 by omega);have z1:=QP z Q;obtain⟨j,hj⟩:=oV (show 0<=min (i:az) 2 by omega);obtain⟨q,I,E,q2⟩:∃q:az,[A.int 1,.int (aS row),.int (1+z%aS row)][j]?=(aA q)/\1<=q/\q<=aS row:=by
   have:j=0\/j=1\/j=2:=by omega
   rcases this with e|e|e <;> subst e <;> exact⟨_,rfl,by omega,by omega⟩
  have ej:(aU AJ (aB xH (aB jT a0))) (B (aA (aS row)) (aA P) (ak (.lst (L.map A.int))) (aA i) c U) Z=aH (.int j) Z:=by
   rw[<-hj];exact mB (aN (aQ (a:=.int i) rfl) (aN (f:=cI 2) (a:=.int 2) rfl bG)) (by simp)
  refine⟨_,B (aA (aS row)) (aA P) (ak (.lst (L.map A.int))) (aA i) c (aA q),rfl,?_,_,_,rfl⟩;unfold Li;rw[bH (Y1:=B (aA (aS row)) (aA P) (ak (.lst (L.map A.int))) (aA i) c (aA q)) (mC (pO (k:=j) (uM (aN (f:=cI 1) (a:=.int 1) (by rfl) (aN (aQ (by rfl)) (aN (qR (f:=cI 1) (by rfl) (CQ (eO (as:=[.int cell,.int i]) (aN (aQ (by rfl)) (aN (aQ (by rfl)) bG)) (by rfl) V) (aQ (by rfl)) Q)) bG))) (by simp)) ej (by rfl) I))];exact nA (sZ (b:=ax) (gR (eO (as:=[.aE p,.lst (aM row),.int q]) (aN (aQ rfl) (aN (aQ rfl) (aN (aQ rfl) bG))) rfl (Nw h D H q E q2)))))
 show trim Z (bU (Lj (B aq aq aq aq aq aq) Z))=_;unfold Lj;rw[bH (Y1:=B (aA (aS row)) aq aq aq aq aq) (mC (eO (aN (aQ (a:=.lst (aM row)) (by rfl)) bG) (by rfl) tt))];rw[bH (Y1:=B (aA (aS row)) (aA P) aq aq aq aq) (mC (by rw[<-ed];exact WL (aQ rfl) (UD (f:=cI 2) rfl (aQ rfl) (Kj _)) cd))];rw[bH (nA (by
  rw[LS (gR (b:=au) (eV (uM (aN (jX h.obj (by rfl) (by rfl) (as:=[]) (das:=[]) bG (by rfl) (by simpa using aeE h.obj)) (aN (jX h.obj (by rfl) (by rfl) (as:=[]) (das:=[]) bG (by rfl) (by simpa using aIO h.obj)) bG)) (by simp)) (uM (aN (aQ (by rfl)) (aN (aQ (by rfl)) bG)) (by simp)) (Jg (by simp[cY]))))];exact gR (b:=au) (eV (WI h rfl) (UD (eO (aN (aQ (a:=.int P) rfl) bG) rfl W) (aQ rfl) (yO (by omega) (by omega))) (by
   rw[Int.natCast_mul]at ob;simp[DR,Int.not_lt.mpr ob]))))]
 rw[bH (Y1:=B (aA (aS row)) (aA P) (ak (.lst (L.map A.int))) aq aq aq) (mC cat)];rw[bH (by
  rw[wI (S:=enumSrc (.lst (L.map A.int)) (L.map A.int)) (Z':=Z) (by unfold KW;rw[cV (aQ (a:=.lst (L.map A.int)) (by rfl))];rfl)];exact G)]
 rw[bH (by
  rw[wI (S:=srcOf (.lst [.int 0,.int (0-cell%9),.int (aS row+1),.int (aS row+10 ^ 9)]) [.int 0,.int (0-cell%9),.int (aS row+1),.int (aS row+10 ^ 9)]) (Z':=Z) (by
   have h9:sQ 10 9:=⟨by decide,by decide,by decide⟩;unfold jJ;rw[cV (uM (xs:=[.int 0,.int (0-cell%9),.int (aS row+1),.int (aS row+10 ^ 9)]) (aN (f:=cI 0) (a:=.int 0) (by rfl) (aN (vL (f:=cI 0) (by rfl) (CQ (g:=cI 9) (aQ (by rfl)) (by rfl) (by decide))) (aN (qR (g:=cI 1) (aQ (by rfl)) (by rfl)) (aN (qR (aQ (by rfl)) (eV (a:=.int 10) (b:=.int 9) (f1:=cI 10) (f2:=cI 9) (by rfl) (by rfl) (by simp[h9]))) bG)))) (by simp))];rfl)]
  exact Fm)]
 rw[bH (by
  rw[wI (Dx (aN (mB (aN (f:=cI 8) (a:=.int 8) (by rfl) (aN (aQ (a:=.int (aS row)) (by rfl)) bG)) (a:=.int (m:az)) (by rw[<-hm];simp)) bG) (by unfold CA;omega)),Int.toNat_natCast];exact F)]
 exact iK rfl
end
theorem adB{acc:ao Rn}(h:(acc.map (·.1)).Nodup)(l:ao Rn):((lM acc l).map (·.1)).Nodup:=by
 induction l generalizing acc with
 |nil=>exact h
 |cons r l ih=>exact ih (Ex acc r.1 r.2 h)
theorem My{N:ao az}:∀{l acc:ao Rn},(∀r∈acc,r.1∈N)->(∀r∈l,r.1∈N)->∀r∈lM acc l,r.1∈N
 |[],acc,h,_=>h
 | s::l,acc,h,g=>My (l:=l) (by
  have z:=g s (by simp);have:∀acc:ao Rn,(∀r∈acc,r.1∈N)->∀r∈gJ acc s.1 s.2,r.1∈N:=by
   intro acc
   induction acc with
   |nil=>intro _ r hr;simp[gJ]at hr;subst hr;exact z
   |cons q acc ih =>
    intro h r hr;simp only[gJ]at hr;have j:=h q (by simp);split at hr
    ·rcases dY.mp hr with e|e
     ·subst e;exact j
     ·exact h r (by simp[e])
    ·rcases dY.mp hr with e|e
     ·subst e;exact j
     ·exact ih (λr hr=>h r (by simp[hr])) r e
  exact this acc h) λr hr=>g r (by simp[hr])
theorem Kg{f:Ev->Mo A}{fs:Ev->Mo (ao A)}{a:A}{as:ao A}{Y:Ev}{Z Z' KH:aG}(h:f Y Z=aH a Z')(j:fs Y Z'=aH as KH):aB f fs Y Z=aH (a::as) KH:=by
 unfold aB;rw[cV h,cV j];rfl
abbrev JW:=ao Rn×az
structure tK(N:ao az)(Z:aG)(keep:az)(G:ao JW):Prop where
 n3:G.length=3
 ln:Z.length=5
 pt:∀(i:a4) (g:JW),G[i]?=ak g->∃ls ts ov un,PH Z keep i g.1 g.2 ls ts ov un
 nd:∀g∈G,(g.1.map (·.1)).Nodup
 ks:∀g∈G,∀r∈g.1,r.1∈N
 rows:Z[3]?=ak (.lst (G.map λg => .lst (aM g.1)))
 TK:Z[4]?=ak (.lst (G.map λg => .int g.2))
section
variable{N N':ao az}{Z Z':aG}{keep:az}{G:ao JW}
theorem tK.len(h:tK N Z keep G){g:JW}(j:g∈G):g.1.length<=N.length:=by
 have:=SK (h.nd g j) (m:=N) λx q=>by
  obtain⟨r,hr,rfl⟩:=oU.mp q;exact h.ks g j r hr
 simpa using this
theorem tK.more(h:tK N Z keep G)(n:az):tK (n::N) Z keep G:=⟨h.n3,h.ln,h.pt,h.nd,λg j r hr=>iP _ (h.ks g j r hr),h.rows,h.TK⟩
theorem tK.set(h:tK N Z keep G){i:a4}(hi:i<3){g:JW}{ls:ao (ao az)}{ts:ao az}{ov un:az}(hv:HV keep ls ts ov un g.1)(sm:∀L∈ls,(L.length:az)<2*keep)(pos:∀r∈g.1,0<r.2)(su:aS g.1<=1000000000)(nd:(g.1.map (·.1)).Nodup)(ks:∀r∈g.1,r.1∈N) :
  tK N (((Z.set i (aX keep (aS g.1) g.2 ls ts ov un)).set 3 (.lst ((G.map λg=>A.lst (aM g.1)).set i (.lst (aM g.1))))).set 4 (.lst ((G.map λg=>A.int g.2).set i (.int g.2)))) keep (G.set i g):=by
 have hl:=h.ln;have c:=h.n3;refine⟨by simpa using c,by simpa using hl,λj q B=>?_,λq B=>?_,λq B=>?_,?_,?_⟩
 ·have d:j<3:=by
   have:=(cR.mp B).1;simp at this;omega
  have e0:∀(U:aG) (a b:Cell),((U.set 3 a).set 4 b)[j]?=U[j]?:=λU a b=>by rw[eP (by omega),eP (by omega)]
  by_cases e:j=i
  ·subst e;rw[fP (by omega)]at B;cases B;exact⟨ls,ts,ov,un,by rw[e0,fP (by omega)],hv,sm,pos,su⟩
  ·rw[eP (cQ e)]at B;obtain⟨ls,ts,ov,un,p⟩:=h.pt j q B;exact⟨ls,ts,ov,un,p.mono (by rw[e0,eP (cQ e)])⟩
 ·rcases aeL B with z|z
  ·exact h.nd q z
  ·subst z;exact nd
 ·rcases aeL B with z|z
  ·exact h.ks q z
  ·subst z;exact ks
 ·rw[eP (by omega),fP (by simp;omega),List.map_set]
 ·rw[fP (by simp;omega),List.map_set]
theorem Xw{m:a9}{F:ao A->Mo A}{n p:a4}{as:ao A}{fo:Ev->Mo A}{fs:Ev->Mo (ao A)}{Y:Ev}{many tk ov un:az}{ls:ao (ao az)}{ts:ao az}{a:A}{Z1:aG}(h:Z[p]?=ak (aX keep many tk ls ts ov un))(hl:(iV keep many tk ls ts ov un).lookup m=aq)(z:fo Y Z=aH (.aE p) Z)(ha:fs Y Z=aH as Z1)(hn:as.length+1=n)
  (q:F (.aE p::as) Z1=aH a Z'):cU m [("Halves",bZ n [] F)] fo fs Y Z=aH a Z':=by
 unfold cU;rw[cV z];have j:List.lookup ("Halves" : a9) [(("Halves" : a9),bZ n [] F)]=ak (bZ n [] F):=by simp[List.lookup]
 simp only[NW,h,j,hl];rw[cV ha];simp only[bZ];rw[a7 (by simp only[eB,xC];omega),pY];exact q
noncomputable abbrev EO:A:=.lst [.aE 0,.aE 1,.aE 2]
theorem Wf{i:a4}(hi:i<3):[A.aE 0,.aE 1,.aE 2][i]?=(aF i):=by
 match i,hi with
 |0,_=>rfl
 |1,_=>rfl
 |2,_=>rfl
theorem ahI(ns:ao az)(DE:ns.length<=63)(hk:1<=keep)(dD:keep<=1000)(k:a4)(hk9:k<59)(h:tK N Z keep G)(hN:N.length<=k)(H F E p U L:av A):∃y6 y7 y8 y9 qU sS N' Z' G',N'.length<=k+1/\tK N' Z' keep G' /\
  OV [ak (.eQ ns),aA keep,ak EO,aF 3,aF 4,aA k,H,F,E,p,U,L] Z=eS [ak (.eQ ns),aA keep,ak EO,aF 3,aF 4,aA k,y6,y7,y8,y9,qU,sS] Z':=by
 obtain⟨c,n,t,t1,t2,hd⟩:=aI3 ns DE k (by omega);have d:=h.n3;have Zy:=h.ln;obtain⟨i,hi⟩:=oV (show 0<=c/3%3 by omega);obtain⟨j,hj⟩:=oV (show 0<=c/9%3 by omega);have DI:i<3:=by omega
 have hj3:j<3:=by omega
 obtain⟨g,M⟩:∃g,G[i]?=ak g:=⟨G[i]'(by omega),gM (by omega)⟩;obtain⟨q,T⟩:∃q,G[j]?=ak q:=⟨G[j]'(by omega),gM (by omega)⟩;have lg:=h.len (jP M);have lq:=h.len (jP T);obtain⟨ls,ts,ov,un,pg⟩:=h.pt i g M;obtain⟨os,us,lW,oE,pq⟩:=h.pt j q T
 let Y:=λ(H F E p U L:av A)=>[ak (A.eQ ns),ak (A.int keep),ak EO,ak (A.aE 3),ak (A.aE 4),ak (A.int k),H,F,E,p,U,L]
 let K:=Y (aA c) (aA n) (aA t) (aA i) (aA j) (aA (aS g.1))
 have d3:qB c 3:=⟨by omega,by omega⟩;have d9:qB c 9:=⟨by omega,by omega⟩;have d27:qB c 27:=⟨by omega,by omega⟩;have y:∀(B:aG) (D:ao A) (m v:a4) (a:A) (Y:Ev),B[3]?=ak (.lst D)->(Y[3]?).join=(aF 3)->(Y[v]?).join=(aA m)->D[m]?=ak a->(aC cW eE (dN v)) Y B=aH a B:=λB D m v a Y h1 h2 d W=>pO (k:=m) (aQ h2) (aQ d) (CB (tE h1)) W;have Ee:∀(B:aG) (D:ao A) (m v:a4) (a:A) (Y:Ev),B[4]?=ak (.lst D)->(Y[4]?).join=(aF 4)->(Y[v]?).join=(aA m)->D[m]?=ak a->(aC cW kG (dN v)) Y B=aH a B:=λB D m v a Y h1 h2 d W=>pO (k:=m) (aQ h2) (aQ d) (CB (tE h1)) W;have TJ:∀(B:aG) (m v:a4) (Y:Ev),(Y[2]?).join=ak EO->(Y[v]?).join=(aA m)->m<3->(aC cW bL (dN v)) Y B=aH (.aE m) B:=λB m v Y h2 d W=>pO (k:=m) (aQ h2) (aQ d) (ds:=[.aE 0,.aE 1,.aE 2]) rfl (Wf W);have I:(G.map λg=>A.lst (aM g.1))[i]?=ak (.lst (aM g.1)):=by rw[jH,M];rfl
 have rq:(G.map λg=>A.lst (aM g.1))[j]?=ak (.lst (aM q.1)):=by rw[jH,T];rfl
 have ug:(G.map λg=>A.int g.2)[i]?=(aA g.2):=by rw[jH,M];rfl
 have uq:(G.map λg=>A.int g.2)[j]?=(aA q.2):=by rw[jH,T];rfl
 have s1:∀s,aV (bO (aU (bR 2 QW) (aB aP (aB oY a0))) (NX 3 (eN (gN 6) (eN (gN 7) (eN (gN 8) lJ))))) s (Y H F E p U L) Z=s (Y (aA c) (aA n) (aA t) p U L) Z:=λs=>bH (by
  unfold bO;rw[eR (eO (aN (aQ (a:=.eQ ns) (by rfl)) (aN (aQ (a:=.int k) (by rfl)) bG)) (by rfl) (hd Z))];simp[Y])
 have go:∀(X:MS) (R:av (Out×Ev×aG)),X K Z=R->(aV (bO (aU (bR 2 QW) (aB aP (aB oY a0))) (NX 3 (eN (gN 6) (eN (gN 7) (eN (gN 8) lJ)))))
   (aV (bO (aC (fC) (aC (lZ) xJ oZ) oZ) (gN 9))
   (aV (bO (aC (fC) (aC (lZ) xJ KO) oZ) (gN 10))
   (aV (bO (aU (bR 1 FF) (aB (aC cW eE kF) a0)) (gN 11)) X)))) (Y H F E p U L) Z=R:=λX R e=>by
  rw[s1];rw[bH (Y1:=Y (aA c) (aA n) (aA t) (aA i) U L) (mC (by rw[<-hi];exact CQ (g:=cI 3) (WL (g:=cI 3) (aQ rfl) rfl d3) rfl (by decide)))];rw[bH (Y1:=Y (aA c) (aA n) (aA t) (aA i) (aA j) L) (mC (by rw[<-hj];exact CQ (g:=cI 3) (WL (g:=cI 9) (aQ rfl) rfl d9) rfl (by decide)))];rw[bH (Y1:=K) (mC (eO (aN (y Z _ i 9 _ _ h.rows (by rfl) (by rfl) I) bG) (by rfl) (PZ _ Z (by omega)))),e]
 have hC:=aCA (Y:=K) (Z:=Z) (g:=cI 0) (CQ (g:=cI 6) (WL (f:=dN 6) (g:=cI 27) (aQ (a:=.int c) rfl) rfl d27) rfl (by decide)) rfl;have tzg:=pg.zN dD;have tzq:=pq.zN dD;have XQ:∀(B:aG) (D:ao A) (R:ao Rn) (tk:az),(∃ls ts ov un,PH B keep i R tk ls ts ov un)->B[3]?=ak (.lst D)->D[i]?=ak (.lst (aM R))->R.length<=100->(eM (mG (cF (aU (bR 3 QY) (aB (aC cW bL kF) (aB (aC cW eE kF) (aB xI a0)))))) (bK (cB au)) fM) K B=eS K B:=λB D R tk ⟨ls,ts,ov,un,hp⟩ h1 h2 d =>
  nA (sZ (b:=ax) (gR (eO (aN (TJ B i 9 _ rfl rfl DI) (aN (y B D i 9 _ _ h1 rfl rfl h2) (aN (aQ rfl) bG))) rfl (aJB hp dD d n))))
 show ∃y6 y7 y8 y9 qU sS N' Z' G',_/\_/\OV (Y H F E p U L) Z=eS (Y y6 y7 y8 y9 qU sS) Z';unfold OV
 by_cases VN:(c/27%6==0)=ax
 ·by_cases hb:aS g.1+aS q.1<=1000000000
  ·obtain⟨bP,cP,dZ,dU,q1,q2,q3,S⟩:=aI0 (o:=j) hk (by omega) hb rfl rfl pg.obj pq.obj pg.hv pq.hv (by omega);have hR:=Mx (g.1++q.1) [];have u:=λx=>Mw x (g.1++q.1) [];have w:=λm=>Na m (g.1++q.1) [];have V:=Mz (g.1++q.1) [] (by simp) (λr hr=>by
    rcases hX.mp hr with z|z
    ·exact pg.pos r z
    ·exact pq.pos r z)
   have NT:=adB (acc:=[]) (by simp) (g.1++q.1);have hS:=My (N:=N) (acc:=[]) (l:=g.1++q.1) (by simp) (λr hr=>by
    rcases hX.mp hr with z|z
    ·exact h.ks g (jP M) r z
    ·exact h.ks q (jP T) r z)
   have ad:=λZ=>aeG g.1 q.1 Z (by omega);generalize lM [] (g.1++q.1)=R at hR u w V NT hS ad;rw[uD]at hR;simp only[aS,QL,bW,EW,BA,false_or]at hR u w;have st:=h.set DI (g:=(R,g.2+q.2)) (q1.rowOf (by rw[uD,hR]) u w) q3 V (by show aS R<=_;omega) NT hS;simp only[hR]at st;have Iq:=st.len (g:=(R,g.2+q.2)) (List.mem_iff_getElem?.mpr ⟨i,fP (by omega)⟩);generalize hC1:aX keep (aS g.1+aS q.1) (g.2+q.2) bP cP dZ dU=C at S st;refine⟨aA c,aA n,aA t,aA i,aA j,aA (aS g.1),N,_,_,by omega,st,go _ _ ?_⟩;have P:(Z.set i C)[3]?=ak (.lst (G.map λg=>A.lst (aM g.1))):=by rw[eP (by omega)];exact h.rows
   rw[xY hC,a7 VN];rw[bH (XQ Z _ _ _ ⟨_,_,_,_,pg⟩ h.rows I (by omega))];rw[bH (Y1:=K) (Z':=((Z.set i C).set 3 (.lst ((G.map λg=>A.lst (aM g.1)).set i (.lst (aM R))))).set 4 (.lst ((G.map λg=>A.int g.2).set i (.int (g.2+q.2))))) (by
    rw[xY (gR (b:=ax) (eV (qR (aQ (by rfl)) (eO (aN (y Z _ j 10 _ _ h.rows (by rfl) (by rfl) rq) bG) (by rfl) (PZ _ Z (by omega)))) (b:=.int 1000000000) (by rfl) (by simp[hb]))),a7 rfl];rw[bH (pT (Xw pg.obj (by rfl) (TJ Z i 9 _ (by rfl) (by rfl) DI) (as:=[.aE j]) (aN (TJ Z j 10 _ (by rfl) (by rfl) hj3) bG) (by rfl) S))];rw[bH (SM (k:=3) (ds:=G.map λg=>A.lst (aM g.1)) (a:=.lst (aM R)) (j:=i) (by rfl) P (aQ (by rfl)) (by simp;omega) (eO (aN (y _ _ i 9 _ _ P (by rfl) (by rfl) I) (aN (y _ _ j 10 _ _ P (by rfl) (by rfl) rq) bG)) (by rfl) (ad _)))];have Q:((Z.set i C).set 3 (.lst ((G.map λg=>A.lst (aM g.1)).set i (.lst (aM R)))))[4]?=ak (.lst (G.map λg=>A.int g.2)):=by rw[eP (by omega),eP (by omega)];exact h.TK
    exact SM (k:=4) (ds:=G.map λg=>A.int g.2) (a:=.int (g.2+q.2)) (j:=i) rfl Q (aQ rfl) (by simp;omega) (qR (Ee _ _ i 9 _ _ Q rfl rfl ug) (Ee _ _ j 10 _ _ Q rfl rfl uq)))]
   refine XQ _ ((G.set i (R,g.2+q.2)).map λg=>A.lst (aM g.1)) R (g.2+q.2) ?_ st.rows (by rw[jH,fP (by omega)];rfl) (by simp only at Iq;omega);exact st.pt i (R,g.2+q.2) (fP (by omega))
  ·refine⟨aA c,aA n,aA t,aA i,aA j,aA (aS g.1),N,Z,G,by omega,h,go _ _ ?_⟩;rw[xY hC,a7 VN];rw[bH (XQ Z _ _ _ ⟨_,_,_,_,pg⟩ h.rows I (by omega))];rw[bH (nA (gR (b:=au) (eV (qR (aQ (by rfl)) (eO (aN (y Z _ j 10 _ _ h.rows (by rfl) (by rfl) rq) bG) (by rfl) (PZ _ Z (by omega)))) (b:=.int 1000000000) (by rfl) (by simp[hb]))))];exact XQ Z _ _ _ ⟨_,_,_,_,pg⟩ h.rows I (by omega)
 ·by_cases hb:aS g.1+t<=1000000000
  ·obtain⟨bP,cP,dZ,dU,q1,q2,q3,S⟩:=aIP (tk:=g.2) n t hk (by omega) t1 t2 hb pg.obj pg.hv rfl (by omega);have hR:=Mx (g.1++[(n,(t:az))]) [];have u:=λx=>Mw x (g.1++[(n,(t:az))]) [];have w:=λm=>Na m (g.1++[(n,(t:az))]) [];have V:=Mz (g.1++[(n,(t:az))]) [] (by simp) (λr hr=>by
    rcases hX.mp hr with z|z
    ·exact pg.pos r z
    ·simp at z;subst z;show(0:az)<t;omega)
   have NT:=adB (acc:=[]) (by simp) (g.1++[(n,(t:az))]);have hS:=My (N:=n::N) (acc:=[]) (l:=g.1++[(n,(t:az))]) (by simp) (λr hr=>by
    rcases hX.mp hr with z|z
    ·exact iP _ (h.ks g (jP M) r z)
    ·simp at z;subst z;simp)
   have ad:=λZ=>aeG g.1 [(n,(t:az))] Z (by simp;omega);generalize lM [] (g.1++[(n,(t:az))])=R at hR u w V NT hS ad;have es:aS (g.1++[(n,(t:az))])=aS g.1+t:=by rw[uD];simp[aS]
   rw[es]at hR;simp only[aS,QL,bW,EW,BA,false_or]at hR u w;have st:=(h.more n).set DI (g:=(R,g.2+1)) (q1.rowOf (by rw[es,hR]) u w) q3 V (by show aS R<=_;omega) NT hS;simp only[hR]at st;generalize hC1:aX keep (aS g.1+t) (g.2+1) bP cP dZ dU=C at S st;refine⟨aA c,aA n,aA t,aA i,aA j,aA (aS g.1),n::N,_,_,by simp;omega,st,go _ _ ?_⟩;have P:(Z.set i C)[3]?=ak (.lst (G.map λg=>A.lst (aM g.1))):=by rw[eP (by omega)];exact h.rows
   have Q:((Z.set i C).set 3 (.lst ((G.map λg=>A.lst (aM g.1)).set i (.lst (aM R)))))[4]?=ak (.lst (G.map λg=>A.int g.2)):=by rw[eP (by omega),eP (by omega)];exact h.TK
   rw[xY hC,ba VN];rw[xY (gR (b:=ax) (eV (qR (aQ (by rfl)) (aQ (by rfl))) (b:=.int 1000000000) (by rfl) (by simp[hb]))),a7 rfl];rw[bH (pT (Xw pg.obj (by rfl) (TJ Z i 9 _ (by rfl) (by rfl) DI) (as:=[.int n,.int t]) (aN (aQ (by rfl)) (aN (aQ (by rfl)) bG)) (by rfl) S))];rw[bH (SM (k:=3) (ds:=G.map λg=>A.lst (aM g.1)) (a:=.lst (aM R)) (j:=i) (by rfl) P (aQ (by rfl)) (by simp;omega) (eO (as:=[.lst (aM g.1),.lst (aM [(n,(t:az))])]) (aN (y _ _ i 9 _ _ P (by rfl) (by rfl) I) (aN (uM (xs:=[.tup [.int n,.int t]]) (aN (SF (xs:=[.int n,.int t]) (aN (aQ (by rfl)) (aN (aQ (by rfl)) bG)) (by simp)) bG) (by simp)) bG)) (by rfl) (ad _)))];exact SM (k:=4) (ds:=G.map λg=>A.int g.2) (a:=.int (g.2+1)) (j:=i) rfl Q (aQ rfl) (by simp;omega) (qR (g:=cI 1) (Ee _ _ i 9 _ _ Q rfl rfl ug) rfl)
  ·refine⟨aA c,aA n,aA t,aA i,aA j,aA (aS g.1),N,Z,G,by omega,h,go _ _ ?_⟩;rw[xY hC,ba VN];exact nA (gR (b:=au) (eV (qR (aQ rfl) (aQ rfl)) (b:=.int 1000000000) rfl (by simp[hb])))
end
theorem at3(ns:ao az)(h:ns.length<=63):∃W,aeZ [.eQ ns] []=aH (.bl ax) W:=by
 obtain⟨keep,F,H,AD⟩:=aIZ ns;obtain⟨M,hM,kQ⟩:=aIJ ns
 let q:aG:=[aX keep 0 0 [] [] 0 0,aX keep 0 0 [] [] 0 0,aX keep 0 0 [] [] 0 0,.lst [.lst [],.lst [],.lst []],.lst [.int 0,.int 0,.int 0]]
 have D:∀i,i<3->PH q keep i [] 0 [] [] 0 0:=λi hi=>⟨by
  match i,hi with
  |0,_=>rfl
  |1,_=>rfl
  | 2,_=>rfl,hv0 keep,by simp,by simp,by simp[aS]⟩
 have s0:tK [] q keep [([],0),([],0),([],0)]:=⟨rfl,rfl,λi g B=>by
  have hi:=(cR.mp B).1;have e:g=([],0):=by
   have:=jP B;simpa using this
  subst e;exact⟨[],[],0,0,D i hi⟩,λg B=>by simp at B;subst B;simp,λg B=>by simp at B;subst B;simp,rfl,rfl⟩
 let Y:=λ(u x6 X V T iJ tV:av A)=>[ak (A.eQ ns),ak (A.int keep),ak EO,ak (A.aE 3),ak (A.aE 4),u,x6,X,V,T,iJ,tV]
 have MR:CA (M:az):=⟨by omega,by omega⟩;obtain⟨Y1,L,e1,t,l,d,c,U,o,m,N,G,rfl,w,hS⟩:=abM (ok:=λ_=>True) (g:=gN 5) (b:=OV)
  (λi r Z=>∃(t l d c U o m:av A) (N:ao az) (G:ao JW),r=Y t l d c U o m/\N.length<=i/\tK N Z keep G) (λ_ _ _ _=>trivial)
  ((List.range M).map λ(i:a4)=>A.int (0+(i:az))) 0 (Y aq aq aq aq aq aq aq) q ⟨_,_,_,_,_,_,_,[],_,rfl,by simp,s0⟩
  (by
   rintro i a r Z v ⟨t,l,d,c,U,o,m,N,G,rfl,w,hS⟩;have hi:i<M:=by simpa using(cR.mp v).1
   obtain rfl:A.int (0+(i:az))=a:=by
    have:=(cR.mp v).2;simpa using this
   rw[ET]at w ⊢;obtain⟨Q,P,K,I,C,y,N',Z',G',b1,b2,b3⟩:=ahI ns h F H i (by omega) hS w l d c U o m;exact⟨Y (aA i) l d c U o m,Z,_,Z',by simp[Y],.inl b3,aA i,Q,P,K,I,C,y,N',G',rfl,b1,b2⟩)
 simp only[ET,jQ,List.length_range]at w;have h3:=hS.n3;have z:=λZ=>QA ns 2 Z (by decide) (by decide);have S:=OR ns 2;have R:=acH ns 2;generalize wM ns 2=x at z S R;obtain⟨p,Fm,_⟩:=OC (ok:=λ_=>True) (g:=gN 5) (b:=acT) (Z:=L) (λr=>∃u,r=Y u l d c U o m) trivial ((List.range 3).map λ(i:a4)=>A.int (0+(i:az))) (Y t l d c U o m) ⟨_,rfl⟩ (by
  rintro a v _ ⟨u,rfl⟩;obtain⟨i,hi,rfl⟩:=oU.mp v;rw[List.mem_range]at hi;rw[QL];obtain⟨g,B⟩:∃g,G[i]?=ak g:=⟨G[i]'(by omega),gM (by omega)⟩;obtain⟨ls,ts,ov,un,pg⟩:=hS.pt i g B;have lg:=hS.len (jP B);have lk:=aIW pg F H (by omega) (x+i) (by omega) (by omega);refine⟨_,_,by simp[Y],nA (sZ (b:=ax) (gR (eO (as:=[.aE i,.lst (aM g.1),.int keep,.int g.2,.int (x+i)]) (aN (pO (k:=i) (aQ rfl) (aQ rfl) (ds:=[.aE 0,.aE 1,.aE 2]) rfl (Wf hi)) (aN (pO (k:=i) (aQ rfl) (aQ rfl) (CB (tE hS.rows)) (by rw[jH,B];rfl)) (aN (aQ rfl) (aN (pO (k:=i) (aQ rfl) (aQ rfl) (CB (tE hS.TK)) (by rw[jH,B];rfl)) (aN (qR (eO (as:=[.eQ ns,.int 2]) (aN (aQ rfl) (aN (f:=cI 2) (a:=.int 2) rfl bG)) rfl (z L)) (aQ rfl)) bG))))) rfl lk))),aA i,rfl⟩)
 refine⟨[],?_⟩
 suffices hh:∃s Z',WZ [ak (.eQ ns),aq,aq,aq,aq,aq,aq,aq,aq,aq,aq,aq] []=ak (.ret (.bl ax),s,Z')by
  obtain⟨s,Z',e⟩:=hh;show trim [] (bU (WZ [ak (.eQ ns),aq,aq,aq,aq,aq,aq,aq,aq,aq,aq,aq] []))=_;rw[e];simp only[bU];exact LC (Z:=[]) (by simp only[Cl])
 refine⟨p,L,?_⟩;unfold WZ;rw[bH (Y1:=[ak (.eQ ns),aA keep,aq,aq,aq,aq,aq,aq,aq,aq,aq,aq]) (mC (eO (aN (aQ (a:=.eQ ns) (by rfl)) bG) (by rfl) (AD [])))];have mk:=λ(Z:aG)=>mB (g:=AK "Halves" 2 BF) (Y:=[ak (.eQ ns),aA keep,aq,aq,aq,aq,aq,aq,aq,aq,aq,aq]) (fs:=aB aW a0) (aN (aQ (a:=.int keep) (by rfl)) bG) (aIV Z keep);rw[bH (Y1:=[ak (.eQ ns),aA keep,ak EO,aq,aq,aq,aq,aq,aq,aq,aq,aq]) (Z':=[aX keep 0 0 [] [] 0 0,aX keep 0 0 [] [] 0 0,aX keep 0 0 [] [] 0 0]) (mC (uM (xs:=[.aE 0,.aE 1,.aE 2]) (Kg (mk []) (Kg (mk [aX keep 0 0 [] [] 0 0]) (Kg (mk [aX keep 0 0 [] [] 0 0,aX keep 0 0 [] [] 0 0]) bG))) (by simp)))];have E:(3:a4)<=bc:=by decide
 rw[bH (Y1:=[ak (.eQ ns),aA keep,ak EO,aF 3,aq,aq,aq,aq,aq,aq,aq,aq]) (Z':=[aX keep 0 0 [] [] 0 0,aX keep 0 0 [] [] 0 0,aX keep 0 0 [] [] 0 0,.lst [.lst [],.lst [],.lst []]]) (by simp[E])];rw[bH (Y1:=Y aq aq aq aq aq aq aq) (Z':=q) (by simp[E,Y,q])];rw[bH (Y1:=Y t l d c U o m) (Z':=L) (by
  rw[wI (Dx (aN (eO (n:=3) (aN (aQ (i:=0) (a:=.eQ ns) (by rfl)) (aN (f:=cI 4) (a:=.int 4) (by rfl) (aN (f:=cI 59) (a:=.int 59) (by rfl) bG))) (by rfl) (kQ q)) bG) MR),zA];exact e1)]
 rw[bH (Y1:=p) (Z':=L) (by
  rw[wI (Dx (j:=((3:a4):az)) (aN (f:=cI 3) (a:=.int 3) (by rfl) bG) ⟨by decide,by decide⟩),zA];exact Fm)]
 rfl
end M
namespace Pb
open PySem L2 V2 PyProof.Rows M
noncomputable def top(i:a4):bw:=PySem.Challenge.pw_rankpouch_k53_halves_bounds.main.body.getD i (.Pass ⟨0,0,0,0⟩)
abbrev Bu:bw:=top 13
abbrev Bv:bw:=top 14
abbrev Br:bw:=top 15
abbrev Bq:bw:=top 16
abbrev Bw:bw:=top 18
abbrev Bt:bw:=top 23
abbrev Ck:bw:=top 26
abbrev Cp:bw:=top 27
abbrev Ci:bw:=top 28
abbrev Cb:bw:=top 29
abbrev Bz:bw:=top 30
abbrev Cq:bw:=top 31
abbrev Cf:bw:=top 32
abbrev By:bw:=top 33
abbrev Cc:bw:=top 34
abbrev Cd:bw:=top 35
abbrev Co:bw:=top 36
abbrev Cn:bw:=top 37
abbrev Cs:bw:=top 38
abbrev Bx:bw:=top 39
abbrev Cg:bw:=top 40
abbrev Cr:bw:=top 41
abbrev Ce:bw:=top 42
abbrev Cj:bw:=top 43
abbrev Cu:bw:=top 44
abbrev Ca:bw:=top 45
abbrev Cm:bw:=top 46
abbrev Ct:bw:=top 47
abbrev GP:bw:=inClass (top 20) 0
abbrev CD:bw:=inClass (top 20) 1
abbrev De:bw:=inClass (top 20) 2
abbrev Dc:bw:=inClass (top 20) 3
abbrev Dd:bw:=inClass (top 20) 4
abbrev Cy:bw:=inClass (top 20) 5
abbrev Cz:bw:=inClass (top 20) 7
abbrev Cw:bw:=inClass (top 21) 3
abbrev Cv:bw:=inClass (top 21) 4
abbrev GQ:bw:=inClass (top 24) 0
abbrev Dl:bw:=inClass (top 24) 1
abbrev Dh:bw:=inClass (top 24) 2
abbrev Dg:bw:=inClass (top 24) 3
abbrev Dp:bw:=inClass (top 24) 4
abbrev Dk:bw:=inClass (top 24) 5
abbrev Dr:bw:=inClass (top 24) 6
abbrev Di:bw:=inClass (top 24) 7
abbrev Dq:bw:=inClass (top 24) 9
abbrev Dm:bw:=inClass (top 24) 10
abbrev Df:bw:=inClass (top 24) 11
abbrev Du:bw:=inClass (top 24) 12
abbrev Ds:bw:=inClass (top 24) 13
abbrev Dj:bw:=inClass (top 24) 14
abbrev xO:bw:=top 48
structure dF(mg:a9->av ar):Prop where
 ValueError:mg "ValueError" = aq
 abs:mg "abs" = aq
 bool:mg "bool" = aq
 enumerate:mg "enumerate" = aq
 int:mg "int" = aq
 isinstance:mg "isinstance" = aq
 len:mg "len" = aq
 list:mg "list" = aq
 max:mg "max" = aq
 min:mg "min" = aq
 range:mg "range" = aq
 set:mg "set" = aq
 sorted:mg "sorted" = aq
 sum:mg "sum" = aq
 tuple:mg "tuple" = aq
section
variable(P:bg)(w:br)(K:bj)(mg:a9->av ar)(base:bz)
abbrev Ty0:=cO P w K mg base "count_upto" 1 ["row", "number"] Pm
abbrev Ty1:=cO P w K mg base "count_below" 1 ["row", "number"] Pn
abbrev Ty2:=cO P w K mg base "apart" 1 ["ahead", "through"] Po
abbrev Ty3:=cO P w K mg base "halved" 1 ["some", "turn"] Pl
abbrev PN:=cO P w K mg base "_law_mix" 1 ["_law_cell_here", "_law_k"] zC
abbrev Ty5:=cO P w K mg base "_law_number" 1 ["_law_cell_here", "_law_sort"] sL
abbrev Ty6:=cO P w K mg base "_law_times" 1 ["_law_cell_here"] rM
abbrev XS:=cO P w K mg base "_law_upto" 1 ["_law_row", "_law_number_here"] JZ
abbrev Ty8:=cO P w K mg base "_law_bits" 1 ["_law_number_here"] Pt
abbrev Ty9:=cO P w K mg base "_law_pair" 1 ["_law_found"] YV
abbrev Nm:=cO P w K mg base "_law_whole" 1 ["_law_found"] QU
abbrev XY:=cO P w K mg base "_law_below" 1 ["_law_row", "_law_number_here"] QX
abbrev adW:=cO P w K mg base "_law_added" 1 ["_law_row", "_law_more"] YX
abbrev XX:=cO P w K mg base "_law_total" 1 ["_law_row"] FF
abbrev adV:=cO P w K mg base "number_at" 2 ["row", "place"] QT
abbrev Nl:=bV P w K mg base "Halves" "lay" 1 3 [] KA
abbrev XW:=bV P w K mg base "Halves" "stand_ins" 1 1 [] zD
abbrev adU:=bV P w K mg base "Halves" "bounds" 1 2 [] RH
abbrev JA:=cO P w K mg base "_law_cell" 2 ["_law_script", "_law_k"] xE
abbrev Nk:=cO P w K mg base "_law_within" 2 ["_law_found", "_law_due", "_law_wide"] JY
abbrev Nj:=bV P w K mg base "Halves" "below" 2 2 [] BE
abbrev Ni:=bV P w K mg base "Halves" "upto" 2 2 [] BC
abbrev adS:=cO P w K mg base "_law_steps" 3 ["_law_script", "_law_start", "_law_most"] YU
abbrev adR:=cO P w K mg base "_law_step" 3 ["_law_script", "_law_start", "_law_k"] Pp
abbrev adQ:=cO P w K mg base "_law_keep" 3 ["_law_script"] sN
abbrev Nh:=bV P w K mg base "Halves" "between" 3 3 [] FG
abbrev adP:=bV P w K mg base "Halves" "settle" 3 1 [] RF
abbrev adO:=cO P w K mg base "_law_deed" 4 ["_law_script", "_law_k"] QW
abbrev XU:=bV P w K mg base "Halves" "off" 1 1 [] BD
abbrev adN:=cO P w K mg base "_law_between" 4 ["_law_pouch", "_law_row", "_law_one", "_law_other"] Pu
abbrev adL:=bV P w K mg base "Halves" "so_manieth" 3 2 [] vG
abbrev Ng:=cO P w K mg base "_law_place_asked" 4 ["_law_pouch", "_law_row", "_law_place"] QV
abbrev adK:=cO P w K mg base "_law_no_place" 4 ["_law_pouch", "_law_place"] Pq
abbrev XT:=bV P w K mg base "Halves" "look_room" 1 2 [] RC
abbrev Nf:=bV P w K mg base "Halves" "take" 4 3 [] ZE
abbrev adJ:=bV P w K mg base "Halves" "length" 1 1 [] RD
abbrev Nd:=cO P w K mg base "_law_number_asked" 5 ["_law_pouch", "_law_row", "_law_number_here"] YW
abbrev adI:=cO P w K mg base "_law_looked" 6 ["_law_pouch", "_law_row", "_law_keep_here", "_law_many", "_law_cell_here"] Pr
abbrev adH:=cO P w K mg base "_law_amid" 6 ["_law_pouch", "_law_row", "_law_number_here"] QY
end
section
variable{P:bg}{w:br}{K:bj}{mg:a9->av ar}{base:bz}
theorem ak4:cE ["row", "number"] ["row", "number"] (bB Bu):=dW
theorem aDB(B:dF mg)(h:HasFn K mg "count_upto" Bu):Ty0 P w K mg base :=
 cO.o h ak4 λhr=>(bE (cL (fB (OT rfl) rfl B.sum boot_sum (aD (tY au ["run"] [1] (pC (vv 0)) ⟨(fR 0),(RS (gF xS (dR (vv 0) aK dH) (vv 1) (fD _))),(dR (vv 0) aK dH)⟩) aO))))
theorem ak5:cE ["row", "number"] ["row", "number"] (bB Bv):=dW
theorem aDC(B:dF mg)(h:HasFn K mg "count_below" Bv):Ty1 P w K mg base :=
 cO.o h ak5 λhr=>(bE (cL (fB (OT rfl) rfl B.sum boot_sum (aD (tY au ["run"] [1] (pC (vv 0)) ⟨(fR 0),(RS (gF vS (dR (vv 0) aK dH) (vv 1) (fD _))),(dR (vv 0) aK dH)⟩) aO))))
theorem ak0:cE ["row", "times_of", "number", "times"] ["row"] (bB Bq):=dW
theorem aC5(B:dF mg)(h:HasFn K mg "packed" Bq):cO P w K mg base "packed" 1 ["row"] JX :=
 cO.o h ak0 λhr=>(bD (dQ 1 Sr)
  (bD (tW bA.passes rfl (pC (vv 0)) (tX rfl (jU (fR 2) (jU (fR 3) sV)))
   (bE (Sl (dP.LA hr) (vv 1) (vv 2) (aR (eG au) (Ss (dP.LA hr) (vv 1) (vv 2) aK ⟨rfl,rfl,rfl,rfl⟩) (vv 3)))))
  (bE (cL (tY au ["number"] [1] (pC (fB (aFX rfl au) rfl B.sorted boot_sorted (aD (vv 1) aO))) ⟨(fR 0),BS,(vJ (aD (vv 0) (aD (agT (dP.LA hr) (vv 1) (vv 0) dH) aO)))⟩)))))
theorem ak6:cE ["ahead", "through"] ["ahead", "through"] (bB Bw):=dW
theorem aDD(B:dF mg)(h:HasFn K mg "apart" Bw):Ty2 P w K mg base :=
 cO.o h ak6 λhr=>(bE (cL (vJ (aD (fB (yQ rfl) rfl B.max AO (aD aK (aD (aR jW (dR (vv 1) aK dH) (dR (vv 0) aK dH)) aO))) (aD (aR jW (dR (vv 1) aK dH) (dR (vv 0) aK dH)) aO)))))
theorem alY:cE ["self", "keep"] ["self", "keep"] (bB GP):=dW
theorem aG1(B:dF mg)(q:dM K ["Halves"] "keep")(L:dM K ["Halves"] "many")(z:dM K ["Halves"] "taken")(f:ay)(j:ar)(A:bu)(outer:ao Env)(s:aw)(H:Hp)(E:XK)(hr:dP 0 (A.deeper (c7 "Pouch.__init__" (bB GP) s.heap.objs.size f j))) :
  iX (rF P w K mg base ["self", "keep"] "Pouch.__init__" (bB GP) f j A outer s H E) (λ_=>E) (fV GP) XH:=by
 exact(bD (qF (vv 0) (vv 1) q)
  (bD (qF (vv 0) aK L)
  (bE (qF (vv 0) aK z))))
theorem aCR(B:dF mg)(q:dM K ["Halves"] "keep")(L:dM K ["Halves"] "many")(z:dM K ["Halves"] "taken"){rk:a9}(h:YT K mg rk "__init__" "Pouch.__init__" GP):FD P w K mg base rk "__init__" 1 2 RE:=FD.of h alY (λ_ _ _ _ _ _ j hl=>GD j hl dH) (aG1 B q L z)
theorem alV:cE ["self", "more"] ["self", "more"] (bB Dc):=dW
theorem aD5(B:dF mg)(q:∃t,mg "LONGEST" = ak (.int 1000000000 t))(j:dM K ["Halves"] "many"){cls:a9}(h:lE K mg cls "look_room" "Pouch.look_room" Dc):bV P w K mg base cls "look_room" 1 2 [] RC :=
 bV.o h alV λhr=>(bE (fY (gF LZ (aR (eG au) (fK (vv 0) j) (vv 1)) (agQ rfl q) (fD _))
   (bE Si)
   gQ))
theorem alW:cE ["self"] ["self"] (bB Dd):=dW
theorem aD6(B:dF mg)(j:dM K ["Halves"] "many"){cls:a9}(h:lE K mg cls "length" "Pouch.length" Dd):bV P w K mg base cls "length" 1 1 [] RD :=
 bV.o h alW λhr=>(bE (cL (fK (vv 0) j)))
theorem alT:cE ["self"] ["self"] (bB Cy):=dW
theorem aD2(B:dF mg)(j:dM K ["Halves"] "taken"){cls:a9}(h:lE K mg cls "puts" "Pouch.puts" Cy):bV P w K mg base cls "puts" 1 1 [] YZ :=
 bV.o h alT λhr=>(bE (cL (fK (vv 0) j)))
theorem ak3:cE ["some", "turn", "ordered", "even"] ["some", "turn"] (bB Bt):=dW
theorem aC8(B:dF mg)(h:HasFn K mg "halved" Bt):Ty3 P w K mg base :=
 cO.o h ak3 λhr=>(bD (dQ 2 (fB (aFW au) rfl B.sorted boot_sorted (aD (vv 0) aO)))
  (bD (dQ 3 (aR jW (fB wN rfl B.len PySem.boot_len (aD (vv 2) aO)) (aR iA (fB wN rfl B.len PySem.boot_len (aD (vv 2) aO)) aK)))
  (bE (cL (vJ (aD (Sn au (vv 2) (BR (vv 1)) (BR (vv 3)) (BR aK)) (aD (agL au (vv 2) (BR (vv 3)) agE) aO)))))))
theorem al5:cE ["self", "other"] ["self", "other"] (bB Dl):=dW
theorem aEE(B:dF mg)(j:Pj K mg "Halves")(q:Pf K ["Halves"]){cls:a9}(h:lE K mg cls "same_kind" "Halves.same_kind" Dl):bV P w K mg base cls "same_kind" 1 2 [] RG :=
 bV.o h al5 λhr=>(bE (cL (fB (aFZ q) rfl B.isinstance AQ (aD (vv 1) (aD (agR j rfl) aO)))))
theorem al7:cE ["self", "some", "level"] ["self", "some", "level"] (bB Dp):=dW
theorem aEG(B:dF mg)(j:dM K ["Halves"] "levels")(q:dM K ["Halves"] "turns"){cls:a9}(h:lE K mg cls "lay" "Halves.lay" Dp):bV P w K mg base cls "lay" 1 3 [] KA :=
 bV.o h al7 λhr=>(bD (RR (λ_ _=>1000000) bA.passes (gF Es (vv 2) (Sq (fB wN rfl B.len PySem.boot_len (aD (fK (vv 0) j) aO))) (fD _))
   (bD (Sj (i:=0) (f := "levels") (oC (ZZ PySem.F.plainAttrs_list PySem.F.slot_list_append PySem.F.type_list_append Xs Yg (fK (vv 0) j) (aD (jB au aO) aO))))
   (bE (oC (agS (ZZ PySem.F.plainAttrs_list PySem.F.slot_list_append PySem.F.type_list_append Xs Yg (fK (vv 0) q) (aD aK aO)) (an7 0))))))
  (bE (zK (aR (eG au) (RU (dR (fK (vv 0) j) (vv 2) dH) (CJ 2)) (vv 1)) (ZW (BU (fK (vv 0) j) (vv 2)) (CJ 2)))))
theorem al2:cE ["self", "runs", "weight", "some"] ["self"] (bB Di):=dW
theorem aEB(B:dF mg)(j:dM K ["Halves"] "levels"){cls:a9}(h:lE K mg cls "stand_ins" "Halves.stand_ins" Di):bV P w K mg base cls "stand_ins" 1 1 [] zD :=
 bV.o h al2 λhr=>(bD (dQ 1 (jB ax aO))
  (bD (dQ 2 aK)
  (bD (Sj (i:=0) (f := "levels") (tW bA.passes rfl (pC (fK (vv 0) j)) (fR 3)
   (bD (oC (ZZ PySem.F.plainAttrs_list PySem.F.slot_list_extend PySem.F.type_list_extend as0 atB (vv 1) (aD (tY au ["number"] [2] (pC (vv 3)) ⟨(fR 0),BS,(vJ (aD (vv 0) (aD (vv 1) aO)))⟩) aO)))
   (bE (dQ 2 (aR pK (vv 2) aK))))))
  (bE (cL (vf 1))))))
theorem al6:cE ["self"] ["self"] (bB Dm):=dW
theorem aEF(B:dF mg)(j:dM K ["Halves"] "over")(q:dM K ["Halves"] "under"){cls:a9}(h:lE K mg cls "off" "Halves.off" Dm):bV P w K mg base cls "off" 1 1 [] BD :=
 bV.o h al6 λhr=>(bE (cL (aR (eG au) (fK (vv 0) j) (fK (vv 0) q))))
theorem amA:cE ["self", "count"] ["self", "count"] (bB Ds):=dW
theorem aEJ(B:dF mg)(z:dM K ["Halves"] "many")(j:dM K ["Halves"] "over")(q:dM K ["Halves"] "under"){cls:a9}(h:lE K mg cls "bounds" "Halves.bounds" Ds):bV P w K mg base cls "bounds" 1 2 [] RH :=
 bV.o h amA λhr=>(bE (cL (vJ (aD (fB (yQ rfl) rfl B.max AO (aD aK (aD (aR jW (vv 1) (fK (vv 0) j)) aO))) (aD (fB (WS rfl) rfl B.min boot_min (aD (fK (vv 0) z) (aD (aR (eG au) (vv 1) (fK (vv 0) q)) aO))) aO)))))
theorem alI:cE ["_law_cell_here", "_law_k", "_law_first"] ["_law_cell_here", "_law_k"] (bB Ck):=dW
theorem aDQ(B:dF mg)(h:HasFn K mg "_law_mix" Ck):PN P w K mg base :=
 cO.o h alI λhr=>(bD (dQ 2 (aR iA (aR pK (aR (eG au) (vv 0) aK) (aR (eG au) aK (aR pK aK (vv 1)))) aK))
  (bE (cL (aR iA (aR (eG au) (aR (eG au) (aR pK (aR rQ (vv 2) aK) aK) (aR pK (vv 2) (aR (eG au) (aR pK (vv 1) (vv 1)) aK))) (vv 1)) aK))))
theorem alH:cE ["_law_cell_here", "_law_sort"] ["_law_cell_here", "_law_sort"] (bB Ci):=dW
theorem aDO(B:dF mg)(h:HasFn K mg "_law_number" Ci):Ty5 P w K mg base :=
 cO.o h alH λhr=>(bD (fY (gF (uH hr.units) (vv 1) aK (fD _))
   (bE (cL (aR iA (vv 0) aK)))
   gQ)
  (bD (fY (gF (uH hr.units) (vv 1) aK (fD _))
   (bE (cL (aR jW (aR iA (vv 0) aK) aK)))
   gQ)
  (bD (fY (gF (uH hr.units) (vv 1) aK (fD _))
   (bE (cL (aR jW (aR iA (aR pK (aR pK (vv 0) (vv 0)) aK) (aR (eG au) (aR pK aK (aR vR aK aK)) aK)) (aR vR aK aK))))
   gQ)
  (bD (fY (gF (uH hr.units) (vv 1) aK (fD _))
   (bE (cL (dR (jB au (aD (aR (eG au) (aR vR aK aK) (vv 0)) (aD (aR jW (aR jW aK (aR vR aK aK)) (vv 0)) (aD (aR jW (aR vR aK aK) aK) (aD (aR jW aK (aR vR aK aK)) aO))))) (aR iA (vv 0) aK) dH)))
   gQ)
  (bE (cL (dR (jB au (aD aK (aD (aR jW aK aK) (aD aK aO)))) (aR rQ (aR iA (vv 0) aK) aK) dH)))))))
theorem alB:cE ["_law_cell_here", "_law_far", "_law_power"] ["_law_cell_here"] (bB Cb):=dW
theorem aDI(B:dF mg)(h:HasFn K mg "_law_times" Cb):Ty6 P w K mg base :=
 cO.o h alB λhr=>(bD (dQ 1 (aR rQ (vv 0) aK))
  (bD (dQ 2 (aR arH aK (aR iA (vv 1) aK)))
  (bE (cL (dR (jB au (aD aK (aD aK (aD (aR (eG au) aK (aR iA (vv 1) aK)) (aD (aR (eG au) aK (aR iA (vv 1) aK)) (aD (aR (eG au) aK (aR iA (vv 1) aK)) (aD (vv 2) (aD (fB (yQ rfl) rfl B.max AO (aD aK (aD (aR jW (vv 2) aK) aO))) (aD aK aO))))))))) (aR iA (vv 0) aK) dH)))))
theorem ak9:cE ["_law_row", "_law_number_here"] ["_law_row", "_law_number_here"] (bB Bz):=dW
theorem aDG(B:dF mg)(h:HasFn K mg "_law_upto" Bz):XS P w K mg base :=
 cO.o h ak9 λhr=>(bE (cL (fB (OT rfl) rfl B.sum boot_sum (aD (tY au ["_law_value", "_law_times_here"] [1] (pC (vv 0)) ⟨(tX rfl (jU (fR 0) (jU (fR 1) sV))),(RS (gF xS (vv 0) (vv 2) (fD _))),(vv 1)⟩) aO))))
theorem Vm:cE ["_law_number_here", "_law_found"] ["_law_number_here"] (bB Cq):=dW
theorem aDV(B:dF mg)(h:HasFn K mg "_law_bits" Cq):Ty8 P w K mg base :=
 cO.o h Vm λhr=>(bD (dQ 1 aK)
  (bD (RR (λ_ _=>1000000) bA.passes (gF LZ (vv 0) aK (fD _))
   (bD (dQ 0 (aR rQ (vv 0) aK))
   (bE (agD (i:=1) Vm.nd rfl oIr aK))))
  (bE (cL (vv 1)))))
theorem alF:cE ["_law_found", "_law_one"] ["_law_found"] (bB Cf):=dW
theorem aDM(B:dF mg)(h:HasFn K mg "_law_pair" Cf):Ty9 P w K mg base :=
 cO.o h alF λhr=>(bD (fY (VW.vt (BQ (qE (pB (fB OU rfl B.isinstance AQ (aD (vv 0) (aD (FW rfl B.tuple PyProof.Rows.boot_tuple) aO))))) (FV (gF (TY hr.units) (fB wN rfl B.len PySem.boot_len (aD (vv 0) aO)) aK (fD _)))))
   (bE (cL kM))
   gQ)
  (bD (tW bA.passes rfl (pC (vv 0)) (fR 1)
   (bE (fY (VW.vt (BQ (qE (pB (fB OU rfl B.isinstance AQ (aD (vv 1) (aD (FW rfl B.int ad1) aO))))) (FV (pB (fB OU rfl B.isinstance AQ (aD (vv 1) (aD (FW rfl B.bool PyProof.Rows.boot_bool) aO)))))))
    (bE (cL kM))
    gQ)))
  (bE (cL kM))))
theorem ak8:cE ["_law_found"] ["_law_found"] (bB By):=dW
theorem aDF(B:dF mg)(h:HasFn K mg "_law_whole" By):Nm P w K mg base :=
 cO.o h ak8 λhr=>(bE (cL (FX (fB OU rfl B.isinstance AQ (aD (vv 0) (aD (FW rfl B.int ad1) aO))) (KQ (agM (fB OU rfl B.isinstance AQ (aD (vv 0) (aD (FW rfl B.bool PyProof.Rows.boot_bool) aO))))))))
theorem alO:cE ["_law_row", "_law_number_here"] ["_law_row", "_law_number_here"] (bB Cs):=dW
theorem aDX(B:dF mg)(h:HasFn K mg "_law_below" Cs):XY P w K mg base :=
 cO.o h alO λhr=>(bE (cL (fB (OT rfl) rfl B.sum boot_sum (aD (tY au ["_law_value", "_law_times_here"] [1] (pC (vv 0)) ⟨(tX rfl (jU (fR 0) (jU (fR 1) sV))),(RS (gF vS (vv 0) (vv 2) (fD _))),(vv 1)⟩) aO))))
theorem alQ:cE ["_law_row", "_law_more", "_law_totals", "_law_number_here", "_law_times_here"] ["_law_row", "_law_more"] (bB Cu):=dW
theorem aDZ(B:dF mg)(h:HasFn K mg "_law_added" Cu):adW P w K mg base :=
 cO.o h alQ λhr=>(bD (dQ 2 Sr)
  (bD (tW bA.passes rfl (pC (aR (eG au) (vv 0) (vv 1))) (tX rfl (jU (fR 3) (jU (fR 4) sV)))
   (bE (Sl (dP.LA hr) (vv 2) (vv 3) (aR (eG au) (Ss (dP.LA hr) (vv 2) (vv 3) aK ⟨rfl,rfl,rfl,rfl⟩) (vv 4)))))
  (bE (cL (tY au ["_law_number_here", "_law_times_here"] [] (agG (vv 2)) ⟨(tX rfl (jU (fR 0) (jU (fR 1) sV))),BS,(vJ (aD (vv 0) (aD (vv 1) aO)))⟩)))))
theorem alA:cE ["_law_row"] ["_law_row"] (bB Ca):=dW
theorem aDH(B:dF mg)(h:HasFn K mg "_law_total" Ca):XX P w K mg base :=
 cO.o h alA λhr=>(bE (cL (fB (OT rfl) rfl B.sum boot_sum (aD (tY au ["_law_number_here", "_law_times_here"] [] (pC (vv 0)) ⟨(tX rfl (jU (fR 0) (jU (fR 1) sV))),BS,(vv 1)⟩) aO))))
theorem ak1:cE ["row", "place", "last_place", "number", "times"] ["row", "place"] (bB Br):=dW
theorem aC6(B:dF mg)(h:HasFn K mg "number_at" Br)(q:cO P w K mg base "packed" 1 ["row"] JX)(j:JF K mg "NoPlace"):adV P w K mg base :=
 cO.o h ak1 λhr=>(bD (fY (gF vS (vv 1) aK (fD _))
   (bE (ZU bA rfl j rfl (aD ZX aO)))
   gQ)
  (bD (dQ 2 aK)
  (bD (tW bA.passes rfl (pC (dS bA q hr.m rfl (aD (vv 0) aO))) (tX rfl (jU (fR 3) (jU (fR 4) sV)))
   (bD (dQ 2 (aR (eG au) (vv 2) (vv 4)))
   (bE (fY (gF xS (vv 1) (vv 2) (fD _))
    (bE (cL (vv 3)))
    gQ))))
  (bE (ZU bA rfl j rfl (aD ZX aO))))))
theorem al9:cE ["self", "level", "weight", "turn", "parts"] ["self", "level", "weight"] (bB Dr):=dW
theorem aEI(B:dF mg)(a:Ty3 P w K mg base)(L:dM K ["Halves"] "levels")(q:dM K ["Halves"] "over")(j:dM K ["Halves"] "turns")(z:dM K ["Halves"] "under")(U:Nl P w K mg base){cls:a9}(h:lE K mg cls "halve" "Halves.halve" Dr):bV P w K mg base cls "halve" 2 3 [] ZF :=
 bV.o h al9 λhr=>(bD (dQ 3 (RU (dR (fK (vv 0) j) (vv 1) dH) (CJ 1)))
  (bD (dQ 4 (dS bA a hr.m rfl (aD (RU (dR (fK (vv 0) L) (vv 1) dH) (CJ 1)) (aD (vv 3) aO))))
  (bD (zK (dR (vv 4) aK dH) (ZW (BU (fK (vv 0) L) (vv 1)) (CJ 1)))
  (bD (oC (iS bA (bI.cons U hr.m bI.nil) (vv 0) (aD (dR (vv 4) aK dH) (aD (aR (eG au) (vv 1) aK) aO))))
  (bD (zK (aR jW aK (vv 3)) (ZW (BU (fK (vv 0) j) (vv 1)) (CJ 1)))
  (bE (fY (gF (uH hr.units) (vv 3) aK (fD _))
   (bE (qF (vv 0) (aR (eG au) (fK (vv 0) q) (vv 2)) q))
   (bE (qF (vv 0) (aR (eG au) (fK (vv 0) z) (vv 2)) z)))))))))
theorem al8:cE ["self"] ["self"] (bB Dq):=dW
theorem aEH(B:dF mg)(j:XW P w K mg base){cls:a9}(h:lE K mg cls "kept" "Halves.kept" Dq):bV P w K mg base cls "kept" 2 1 [] KC :=
 bV.o h al8 λhr=>(bE (cL (tY au ["run"] [] (pC (qG bA (bI.cons j hr.m bI.nil) (vv 0))) ⟨(fR 0),BS,(dR (vv 0) aK dH)⟩)))
theorem alZ:cE ["self", "number"] ["self", "number"] (bB Df):=dW
theorem aD8(B:dF mg)(q:Ty0 P w K mg base)(z:adU P w K mg base)(j:XW P w K mg base){cls:a9}(h:lE K mg cls "upto" "Halves.upto" Df):bV P w K mg base cls "upto" 2 2 [] BC :=
 bV.o h alZ λhr=>(bE (cL (iS bA (bI.cons z hr.m bI.nil) (vv 0) (aD (dS bA q hr.m rfl (aD (qG bA (bI.cons j hr.m bI.nil) (vv 0)) (aD (vv 1) aO))) aO))))
theorem amB:cE ["self", "number"] ["self", "number"] (bB Du):=dW
theorem aEK(B:dF mg)(q:Ty1 P w K mg base)(z:adU P w K mg base)(j:XW P w K mg base){cls:a9}(h:lE K mg cls "below" "Halves.below" Du):bV P w K mg base cls "below" 2 2 [] BE :=
 bV.o h amB λhr=>(bE (cL (iS bA (bI.cons z hr.m bI.nil) (vv 0) (aD (dS bA q hr.m rfl (aD (qG bA (bI.cons j hr.m bI.nil) (vv 0)) (aD (vv 1) aO))) aO))))
theorem alM:cE ["_law_script", "_law_k", "_law_cell_here"] ["_law_script", "_law_k"] (bB Cp):=dW
theorem aDU(B:dF mg)(h:HasFn K mg "_law_cell" Cp)(j:PN P w K mg base):JA P w K mg base :=
 cO.o h alM λhr=>(bD (dQ 2 aK)
  (bD (fY (gF vS (vv 1) (fB wN rfl B.len PySem.boot_len (aD (vv 0) aO)) (fD _))
   (bE (dQ 2 (aR iA (dR (vv 0) (vv 1) dH) aK)))
   gQ)
  (bE (cL (dS bA j hr.m rfl (aD (vv 2) (aD (aR (eG au) (vv 1) aK) aO)))))))
theorem ak7:cE ["_law_found", "_law_due", "_law_wide"] ["_law_found", "_law_due", "_law_wide"] (bB Bx):=dW
theorem aDE(B:dF mg)(h:HasFn K mg "_law_within" Bx)(j:Ty9 P w K mg base):Nk P w K mg base :=
 cO.o h ak7 λhr=>(bE (cL (FX (dS bA j hr.m rfl (aD (vv 0) aO)) (FX (agU xS xS xS aK (dR (vv 0) aK dH) (vv 1) (dR (vv 0) aK dH)) (KQ (BV xS (aR jW (dR (vv 0) aK dH) (dR (vv 0) aK dH)) (vv 2) (fD _)))))))
theorem alU:cE ["self"] ["self"] (bB Cz):=dW
theorem aD4(B:dF mg)(j:bV P w K mg base "Halves" "kept" 2 1 [] KC){cls:a9}(h:lE K mg cls "numbers" "Pouch.numbers" Cz):bV P w K mg base cls "numbers" 3 1 [] ZA :=
 bV.o h alU λhr=>(bE (cL (agK ax rfl rfl B.sorted rfl B.set (qG bA (bI.cons j hr.m bI.nil) (vv 0)))))
theorem alS:cE ["self", "one", "other"] ["self", "one", "other"] (bB Cw):=dW
theorem aD1(B:dF mg)(z:Ty2 P w K mg base)(j:Nj P w K mg base)(q:Ni P w K mg base){cls:a9}(h:lE K mg cls "between" "RankPouch.between" Cw):bV P w K mg base cls "between" 3 3 [] FG :=
 bV.o h alS λhr=>(bD (fY (gF vS (vv 2) (vv 1) (fD _))
   (bE (cL (vJ (aD aK (aD aK aO)))))
   gQ)
  (bE (cL (dS bA z hr.m rfl (aD (iS bA (bI.cons j hr.m bI.nil) (vv 0) (aD (vv 1) aO)) (aD (iS bA (bI.cons q hr.m bI.nil) (vv 0) (aD (vv 2) aO)) aO))))))
theorem amC:cE ["self", "keep"] ["self", "keep"] (bB GQ):=dW
theorem aG2(B:dF mg)(a:FD P w K mg base "RankPouch" "__init__" 1 2 RE)(U:dM K ["Halves"] "levels")(z:dM K ["Halves"] "over")(q:dM K ["Halves"] "turns")(L:dM K ["Halves"] "under")(f:ay)(j:ar)(A:bu)(outer:ao Env)(s:aw)(H:Hp)(E:XK)(hr:dP 2 (A.deeper (c7 "Halves.__init__" (bB GQ) s.heap.objs.size f j))) :
  iX (rF P w K mg base ["self", "keep"] "Halves.__init__" (bB GQ) f j A outer s H E) (λ_=>E) (fV GQ) XM:=by
 exact(bD (oC (agV bA a rfl hr.m (aD (vv 0) (aD (vv 1) aO))))
  (bD (Sk (qF (vv 0) (jB ax aO) U))
  (bD (Sk (qF (vv 0) (jB ax aO) q))
  (bD (qF (vv 0) aK z)
  (bE (qF (vv 0) aK L))))))
theorem aCP(B:dF mg)(a:FD P w K mg base "RankPouch" "__init__" 1 2 RE)(U:dM K ["Halves"] "levels")(z:dM K ["Halves"] "over")(q:dM K ["Halves"] "turns")(L:dM K ["Halves"] "under"){cls:a9}(h:Pg K mg cls "Halves.__init__" GQ):JI P w K mg base cls 3 2 BF:=JI.of h amC (λ_ _ _ _ _ _ j hl=>GD j hl dH) (aG2 B a U z q L)
theorem al4:cE ["self", "weight", "level"] ["self"] (bB Dk):=dW
theorem aED(B:dF mg)(q:dM K ["Halves"] "keep")(j:dM K ["Halves"] "levels")(z:bV P w K mg base "Halves" "halve" 2 3 [] ZF){cls:a9}(h:lE K mg cls "settle" "Halves.settle" Dk):bV P w K mg base cls "settle" 3 1 [] RF :=
 bV.o h al4 λhr=>(bD (dQ 1 aK)
  (bD (dQ 2 aK)
  (bE (RR (λ_ _=>1000000) bA.passes (gF vS (vv 2) (Sq (fB wN rfl B.len PySem.boot_len (aD (fK (vv 0) j) aO))) (fD _))
   (bD (fY (gF Es (fB wN rfl B.len PySem.boot_len (aD (RU (dR (fK (vv 0) j) (vv 2) dH) (CJ 2)) aO)) (aR pK aK (fK (vv 0) q)) (fD _))
    (bE (oC (iS bA (bI.cons z hr.m bI.nil) (vv 0) (aD (vv 2) (aD (vv 1) aO)))))
    gQ)
   (bD (dQ 1 (aR pK (vv 1) aK))
   (bE (dQ 2 (aR (eG au) (vv 2) aK)))))))))
theorem al3:cE ["self", "place"] ["self", "place"] (bB Dj):=dW
theorem aEC(B:dF mg)(q:adV P w K mg base)(j:XW P w K mg base){cls:a9}(h:lE K mg cls "so_manieth" "Halves.so_manieth" Dj):bV P w K mg base cls "so_manieth" 3 2 [] vG :=
 bV.o h al3 λhr=>(bE (cL (dS bA q hr.m rfl (aD (qG bA (bI.cons j hr.m bI.nil) (vv 0)) (aD (vv 1) aO)))))
theorem alC:cE ["_law_script", "_law_start", "_law_most", "_law_cells"] ["_law_script", "_law_start", "_law_most"] (bB Cc):=dW
theorem aDJ(B:dF mg)(h:HasFn K mg "_law_steps" Cc)(j:JA P w K mg base):adS P w K mg base :=
 cO.o h alC λhr=>(bD (dQ 3 (fB (yQ rfl) rfl B.max AO (aD aK (aD (aR jW (fB wN rfl B.len PySem.boot_len (aD (vv 0) aO)) (vv 1)) aO))))
  (bE (cL (fB (WS rfl) rfl B.min boot_min (aD (vv 2) (aD (fB (yQ rfl) rfl B.max AO (aD (vv 3) (aD (aR iA (dS bA j hr.m rfl (aD (vv 0) (aD (aR jW (vv 1) aK) aO))) (aR (eG au) (vv 2) aK)) aO))) aO))))))
theorem alD:cE ["_law_script", "_law_start", "_law_k", "_law_cells"] ["_law_script", "_law_start", "_law_k"] (bB Cd):=dW
theorem aDK(B:dF mg)(h:HasFn K mg "_law_step" Cd)(q:JA P w K mg base)(j:PN P w K mg base):adR P w K mg base :=
 cO.o h alD λhr=>(bD (dQ 3 (fB (yQ rfl) rfl B.max AO (aD aK (aD (aR jW (fB wN rfl B.len PySem.boot_len (aD (vv 0) aO)) (vv 1)) aO))))
  (bE (cL (dS bA j hr.m rfl (aD (dS bA q hr.m rfl (aD (vv 0) (aD (aR (eG au) (vv 1) (aR iA (vv 2) (fB (yQ rfl) rfl B.max AO (aD aK (aD (vv 3) aO))))) aO))) (aD (vv 2) aO))))))
theorem alK:cE ["_law_script", "_law_cell_here"] ["_law_script"] (bB Cn):=dW
theorem aDS(B:dF mg)(h:HasFn K mg "_law_keep" Cn)(j:JA P w K mg base):adQ P w K mg base :=
 cO.o h alK λhr=>(bD (dQ 1 (dS bA j hr.m rfl (aD (vv 0) (aD aK aO))))
  (bE (cL (dR (jB au (aD (aR (eG au) aK (aR iA (aR rQ (vv 1) aK) aK)) (aD (aR (eG au) aK (aR iA (aR rQ (vv 1) aK) aK)) (aD (aR (eG au) aK (aR iA (aR rQ (vv 1) aK) aK)) (aD aK aO))))) (dR (jB au (aD aK (aD aK (aD aK (aD aK (aD aK (aD aK (aD aK (aD aK aO))))))))) (aR iA (vv 1) aK) dH) dH))))
theorem alR:cE ["self", "number"] ["self", "number"] (bB Cv):=dW
theorem aD0(B:dF mg)(j:Nh P w K mg base){cls:a9}(h:lE K mg cls "counted" "RankPouch.counted" Cv):bV P w K mg base cls "counted" 4 2 [] YY :=
 bV.o h alR λhr=>(bE (cL (iS bA (bI.cons j hr.m bI.nil) (vv 0) (aD (vv 1) (aD (vv 1) aO)))))
theorem al1:cE ["self", "number", "times", "level"] ["self", "number", "times"] (bB Dh):=dW
theorem aEA(B:dF mg)(j:Nl P w K mg base)(q:adP P w K mg base){cls:a9}(h:lE K mg cls "take" "Halves.take" Dh):bV P w K mg base cls "take" 4 3 [] ZE :=
 bV.o h al1 λhr=>(bD (dQ 3 aK)
  (bD (RR (λ_ _=>1000000) bA.passes (gF LZ (vv 2) aK (fD _))
   (bD (fY (gF (uH hr.units) (aR iA (vv 2) aK) aK (fD _))
    (bE (oC (iS bA (bI.cons j hr.m bI.nil) (vv 0) (aD (jB au (aD (vv 1) aO)) (aD (vv 3) aO)))))
    gQ)
   (bD (dQ 2 (aR rQ (vv 2) aK))
   (bE (dQ 3 (aR (eG au) (vv 3) aK))))))
  (bE (oC (qG bA (bI.cons q hr.m bI.nil) (vv 0))))))
theorem al0:cE ["self", "other", "level", "some"] ["self", "other"] (bB Dg):=dW
theorem aD9(B:dF mg)(L:dM K ["Halves"] "levels")(j:dM K ["Halves"] "over")(q:dM K ["Halves"] "under")(z:Nl P w K mg base)(U:adP P w K mg base){cls:a9}(h:lE K mg cls "take_in" "Halves.take_in" Dg):bV P w K mg base cls "take_in" 4 2 [] ZD :=
 bV.o h al0 λhr=>(bD (tW bA.passes rfl (Sm rfl B.enumerate (agO (i:=1) (f := "levels") (Su (aFY au) rfl B.list PyProof.Rows.boot_list (aD (fK (vv 1) L) aO)))) (tX rfl (jU (fR 2) (jU (fR 3) sV)))
   (bE (oC (iS bA (bI.cons z hr.m bI.nil) (vv 0) (aD (vv 3) (aD (vv 2) aO))))))
  (bD (qF (vv 0) (aR (eG au) (fK (vv 0) j) (fK (vv 1) j)) j)
  (bD (qF (vv 0) (aR (eG au) (fK (vv 0) q) (fK (vv 1) q)) q)
  (bE (oC (qG bA (bI.cons U hr.m bI.nil) (vv 0)))))))
theorem alL:cE ["_law_script", "_law_k", "_law_cell_here", "_law_number_here"] ["_law_script", "_law_k"] (bB Co):=dW
theorem aDT(B:dF mg)(h:HasFn K mg "_law_deed" Co)(q:JA P w K mg base)(j:PN P w K mg base)(z:Ty5 P w K mg base)(L:adR P w K mg base)(U:Ty6 P w K mg base):adO P w K mg base :=
 cO.o h alL λhr=>(bD (dQ 2 (dS bA L hr.m rfl (aD (vv 0) (aD aK (aD (vv 1) aO)))))
  (bD (dQ 3 (dS bA z hr.m rfl (aD (dS bA j hr.m rfl (aD (vv 2) (aD aK aO))) (aD (aR rQ (aR pK (aR iA (dS bA q hr.m rfl (aD (vv 0) (aD aK aO))) aK) aK) aK) aO))))
  (bE (cL (jB au (aD (vv 2) (aD (vv 3) (aD (dS bA U hr.m rfl (aD (dS bA j hr.m rfl (aD (vv 2) (aD aK aO))) aO)) aO))))))))
theorem alN:cE ["_law_pouch", "_law_row", "_law_one", "_law_other", "_law_found", "_law_down", "_law_up", "_law_due"] ["_law_pouch", "_law_row", "_law_one", "_law_other"] (bB Cr):=dW
theorem aDW(B:dF mg)(h:HasFn K mg "_law_between" Cr)(q:XY P w K mg base)(z:XS P w K mg base)(j:Nk P w K mg base)(U:Nj P w K mg base)(L:Nh P w K mg base)(b:XU P w K mg base)(a:Ni P w K mg base):adN P w K mg base :=
 cO.o h alN λhr=>(bD (dQ 4 (iS bA (bI.cons L hr.m bI.nil) (vv 0) (aD (vv 2) (aD (vv 3) aO))))
  (bD (fY (gF vS (vv 3) (vv 2) (fD _))
   (bE (cL (dS bA j hr.m rfl (aD (vv 4) (aD aK (aD aK aO))))))
   gQ)
  (bD (dQ 5 (iS bA (bI.cons U hr.m bI.nil) (vv 0) (aD (vv 2) aO)))
  (bD (dQ 6 (iS bA (bI.cons a hr.m bI.nil) (vv 0) (aD (vv 3) aO)))
  (bD (dQ 7 (aR jW (dS bA z hr.m rfl (aD (vv 1) (aD (vv 3) aO))) (dS bA q hr.m rfl (aD (vv 1) (aD (vv 2) aO)))))
  (bE (cL (FX (dS bA j hr.m rfl (aD (vv 4) (aD (vv 7) (aD (aR pK aK (qG bA (bI.cons b hr.m bI.nil) (vv 0))) aO)))) (KQ (BV (uH hr.units) (vv 4) (vJ (aD (fB (yQ rfl) rfl B.max AO (aD aK (aD (aR jW (dR (vv 6) aK dH) (dR (vv 5) aK dH)) aO))) (aD (aR jW (dR (vv 6) aK dH) (dR (vv 5) aK dH)) aO))) (fD _)))))))))))
theorem alE:cE ["_law_pouch", "_law_row", "_law_place", "_law_found", "_law_off"] ["_law_pouch", "_law_row", "_law_place"] (bB Ce):=dW
theorem aDL(B:dF mg)(h:HasFn K mg "_law_place_asked" Ce)(q:XY P w K mg base)(z:XS P w K mg base)(a:Nm P w K mg base)(U:bV P w K mg base "Halves" "numbers" 3 1 [] ZA)(L:XU P w K mg base)(j:adL P w K mg base):Ng P w K mg base :=
 cO.o h alE λhr=>(bD (dQ 3 (iS bA (bI.cons j hr.m bI.nil) (vv 0) (aD (vv 2) aO)))
  (bD (dQ 4 (qG bA (bI.cons L hr.m bI.nil) (vv 0)))
  (bD (fY (gF (TY hr.units) (iS bA (bI.cons j hr.m bI.nil) (vv 0) (aD (vv 2) aO)) (vv 3) (fD _))
   (bE (cL kM))
   gQ)
  (bD (fY (VW.vt (BQ (qE (pB (dS bA a hr.m rfl (aD (vv 3) aO)))) (BQ (gF (Xn hr.units) (vv 3) (qG bA (bI.cons U hr.m bI.nil) (vv 0)) rfl) (FV (gF (Xn hr.units) (vv 3) (tY au ["_law_number_here", "_law_times_here"] [] (pC (vv 1)) ⟨(tX rfl (jU (fR 0) (jU (fR 1) sV))),BS,(vv 0)⟩) rfl)))))
   (bE (cL kM))
   gQ)
  (bE (cL (FX (BV vS (dS bA q hr.m rfl (aD (vv 1) (aD (vv 3) aO))) (aR (eG au) (vv 2) (vv 4)) (fD _)) (KQ (BV Es (dS bA z hr.m rfl (aD (vv 1) (aD (vv 3) aO))) (aR jW (vv 2) (vv 4)) (fD _))))))))))
theorem Vl:cE ["_law_pouch", "_law_place", "_law_told", "error", "_law_others"] ["_law_pouch", "_law_place"] (bB Cj):=dW
theorem aDP(B:dF mg)(h:HasFn K mg "_law_no_place" Cj)(z:mS K mg "NoPlace")(L:mS K mg "NoPouch")(U:mS K mg "NoRow")(a:mS K mg "NoSize")(b:mS K mg "NoText")(c:mS K mg "NoTimes")(d:mS K mg "RankError")(f:mS K mg "Unlike")(g:mS K mg "Wrong")(k:adL P w K mg base)(j:yU K ["NoPlace", "NoTimes", "Unlike"] ["RankError", "NoRow", "NoPlace", "NoPouch", "NoSize", "Wrong", "NoTimes", "Unlike", "NoText"]):adK P w K mg base:=by
 refine cO.ofN (ZG.of0 h Vl (λ_ _ _ _ _ _ q hl=>GD q hl dH) (λ_ _ _ _ _ _ _ hr=>?_));exact(Sh (VS.v0 (dQ 2 agN))
  (Sh (af8 (i:=3) (rs:=["NoPlace", "NoTimes", "Unlike"]) (ns:=["RankError", "NoRow", "NoPlace", "NoPouch", "NoSize", "Wrong", "NoTimes", "Unlike", "NoText"]) Tq rfl z rfl j Vl.nd rfl rfl (λW=>(iX.v0 (bE (oC (iS ah1 (bI.cons k hr.m bI.nil) (vv 0) (aD (vv 1) aO))))))
   (λp l e he=>(bD (dQ 4 (fB (Kn (lD _ (Om _)) j he) rfl B.isinstance AQ (aD (vv 3) (aD (vJ (aD (zL L rfl) (aD (zL U rfl) (aD (zL a rfl) (aD (zL b rfl) (aD (zL c rfl) (aD (zL f rfl) (aD (zL g rfl) aO)))))))) aO))))
   (bE (dQ 2 (jB au (aD (fB (Kn (lD _ (Om _)) j he) rfl B.isinstance AQ (aD (vv 3) (aD (zL d rfl) aO))) (aD (fB (Kn (lD _ (Om _)) j he) rfl B.isinstance AQ (aD (vv 3) (aD (FW rfl B.ValueError aGC) aO))) (aD (vv 4) aO)))))))))
  (iX.v0 (bE (cL (BV (uH hr.units) (vv 2) (jB au (aD kM (aD kM (aD kM aO)))) (fD _)))))))
theorem Vn:cE ["self", "number", "times"] ["self", "number", "times"] (bB CD):=dW
theorem acP(B:dF mg)(q:dM K ["Halves"] "many")(j:dM K ["Halves"] "taken")(L:XT P w K mg base)(U:Nf P w K mg base)(f:ay)(z:ar)(A:bu)(outer:ao Env)(s:aw)(H:Hp)(E:XK)(hr:dP 4 (A.deeper (c7 "Pouch.put" (bB CD) s.heap.objs.size f z))) :
  iX (rF P w K mg base ["self", "number", "times"] "Pouch.put" (bB CD) f z A outer s H E) (λ_=>E) (fV CD) XG:=by
 exact(bD (fY (gF vS (vv 2) aK (fD _))
   (bE Si)
   gQ)
  (bD (oC (iS bA (bI.cons L hr.m bI.nil) (vv 0) (aD (vv 2) aO)))
  (bD (oC (iS bA (bI.cons U hr.m bI.nil) (vv 0) (aD (vv 1) (aD (vv 2) aO))))
  (bD (qF (vv 0) (aR (eG au) (fK (vv 0) q) (vv 2)) q)
  (bE (qF (vv 0) (aR (eG au) (fK (vv 0) j) aK) j))))))
theorem aD3(B:dF mg)(L:dM K ["Halves"] "many")(z:dM K ["Halves"] "taken")(j:XT P w K mg base)(U:Nf P w K mg base){cls:a9}{tk:Tok}(h:YS K mg cls "put" "Pouch.put" CD #[.int 1 tk]):bV P w K mg base cls "put" 5 3 [] QZ:=bV.ofD (ds:=[]) (dvs:=[]) h .nil (λ_ _ => .nil) Vn (λ_ _ _ _ _ _ _ q hl=>match q,hl with|[_,_,_],_=>⟨_,rfl,rfl⟩) (acP B L z j U)
theorem aCM(B:dF mg)(L:dM K ["Halves"] "many")(z:dM K ["Halves"] "taken")(j:XT P w K mg base)(U:Nf P w K mg base){cls:a9}{tk:Tok}(h:YS K mg cls "put" "Pouch.put" CD #[.int 1 tk]):bV P w K mg base cls "put" 5 3 [.int 1] QZ:=bV.ofD (ds:=[.int 1 tk]) (dvs:=[.int 1]) h (.cons ⟨_,rfl⟩ .nil) (λ_ _ => .cons (by simp only[V2.Den]) .nil) Vn (λ_ _ _ _ _ _ _ q hl=>match q,hl with|[_,_],_=>⟨_,rfl,rfl⟩) (acP B L z j U)
theorem alX:cE ["self", "other"] ["self", "other"] (bB De):=dW
theorem aD7(B:dF mg)(z:dM K ["Halves"] "keep")(j:dM K ["Halves"] "many")(q:dM K ["Halves"] "taken")(L:XT P w K mg base)(U:bV P w K mg base "Halves" "same_kind" 1 2 [] RG)(a:bV P w K mg base "Halves" "take_in" 4 2 [] ZD)(b:JF K mg "Unlike"){cls:a9}(h:lE K mg cls "join" "Pouch.join" De):bV P w K mg base cls "join" 5 2 [] ZC :=
 bV.o h alX λhr=>(bD (fY (VW.vt (BQ (qE (pB (iS bA (bI.cons U hr.m bI.nil) (vv 0) (aD (vv 1) aO)))) (FV (gF (TY hr.units) (fK (vv 1) z) (fK (vv 0) z) (fD _)))))
   (bE (ZU bA rfl b rfl (aD ZX aO)))
   gQ)
  (bD (oC (iS bA (bI.cons L hr.m bI.nil) (vv 0) (aD (fK (vv 1) j) aO)))
  (bD (oC (iS bA (bI.cons a hr.m bI.nil) (vv 0) (aD (vv 1) aO)))
  (bD (qF (vv 0) (aR (eG au) (fK (vv 0) j) (fK (vv 1) j)) j)
  (bE (qF (vv 0) (aR (eG au) (fK (vv 0) q) (fK (vv 1) q)) q))))))
theorem alG:cE ["_law_pouch", "_law_row", "_law_number_here", "_law_off"] ["_law_pouch", "_law_row", "_law_number_here"] (bB Cg):=dW
theorem aDN(B:dF mg)(h:HasFn K mg "_law_number_asked" Cg)(L:XY P w K mg base)(U:XS P w K mg base)(d:Nm P w K mg base)(z:Nk P w K mg base)(j:Nj P w K mg base)(a:Nh P w K mg base)(c:bV P w K mg base "Halves" "counted" 4 2 [] YY)(e:adJ P w K mg base)(b:XU P w K mg base)(q:Ni P w K mg base):Nd P w K mg base :=
 cO.o h alG λhr=>(bD (dQ 3 (qG bA (bI.cons b hr.m bI.nil) (vv 0)))
  (bD (fY (VW.vt (BQ (qE (pB (dS bA d hr.m rfl (aD (vv 3) aO)))) (FV (qE (pB (dS bA z hr.m rfl (aD (iS bA (bI.cons q hr.m bI.nil) (vv 0) (aD (vv 2) aO)) (aD (dS bA U hr.m rfl (aD (vv 1) (aD (vv 2) aO))) (aD (vv 3) aO)))))))))
   (bE (cL kM))
   gQ)
  (bD (fY (qE (pB (dS bA z hr.m rfl (aD (iS bA (bI.cons j hr.m bI.nil) (vv 0) (aD (vv 2) aO)) (aD (dS bA L hr.m rfl (aD (vv 1) (aD (vv 2) aO))) (aD (vv 3) aO))))))
   (bE (cL kM))
   gQ)
  (bD (fY (gF LZ (fB (yQ rfl) rfl B.max AO (aD (dR (iS bA (bI.cons q hr.m bI.nil) (vv 0) (aD (vv 2) aO)) aK dH) (aD (dR (iS bA (bI.cons j hr.m bI.nil) (vv 0) (aD (vv 2) aO)) aK dH) aO))) (qG bA (bI.cons e hr.m bI.nil) (vv 0)) (fD _))
   (bE (cL kM))
   gQ)
  (bE (cL (BV (uH hr.units) (iS bA (bI.cons c hr.m bI.nil) (vv 0) (aD (vv 2) aO)) (iS bA (bI.cons a hr.m bI.nil) (vv 0) (aD (vv 2) (aD (vv 2) aO))) (fD _))))))))
theorem alJ:cE ["_law_pouch", "_law_row", "_law_keep_here", "_law_many", "_law_cell_here", "_law_total_here", "_law_part", "_law_numbers", "_law_k", "_law_number_here", "_law_place"] ["_law_pouch", "_law_row", "_law_keep_here", "_law_many", "_law_cell_here"] (bB Cm):=dW
theorem aDR(B:dF mg)(h:HasFn K mg "_law_looked" Cm)(L:adN P w K mg base)(U:Ty8 P w K mg base)(z:PN P w K mg base)(a:adK P w K mg base)(c:Nd P w K mg base)(e:Ng P w K mg base)(j:XX P w K mg base)(d:adJ P w K mg base)(q:XU P w K mg base)(b:bV P w K mg base "Halves" "puts" 1 1 [] YZ):adI P w K mg base :=
 cO.o h alJ λhr=>(bD (dQ 5 (dS bA j hr.m rfl (aD (vv 1) aO)))
  (bD (dQ 6 (aR rQ (vv 5) (aR pK aK (vv 2))))
  (bD (fY (VW.vt (BQ (gF (TY hr.units) (jB au (aD (qG bA (bI.cons d hr.m bI.nil) (vv 0)) (aD (qG bA (bI.cons b hr.m bI.nil) (vv 0)) aO))) (jB au (aD (vv 5) (aD (vv 3) aO))) (fD _)) (FV (gF LZ (qG bA (bI.cons q hr.m bI.nil) (vv 0)) (aR pK (dS bA U hr.m rfl (aD (vv 6) aO)) (vv 6)) (fD _)))))
   (bE (cL kM))
   gQ)
  (bD (dQ 7 (aR (eG au) (tY au ["_law_number_here", "_law_times_here"] [] (pC (Sn au (vv 1) (BR (aR iA (vv 4) aK)) (BR aK) (BR aK))) ⟨(tX rfl (jU (fR 0) (jU (fR 1) sV))),BS,(vv 0)⟩) (jB au (aD aK (aD (aR (eG au) (aR jW aK (aR vR aK aK)) aK) (aD (aR jW (aR vR aK aK) aK) aO))))))
  (bD (tW bA.passes rfl (Sm rfl B.enumerate (vv 7)) (tX rfl (jU (fR 8) (jU (fR 9) sV)))
   (bD (dQ 9 (aR (eG au) (vv 9) (aR pK (dR (jB au (aD aK (aD aK (aD (aR jW aK aK) aO)))) (aR iA (aR (eG au) (vv 4) (vv 8)) aK) dH) (Su aF0 rfl B.int ad1 (aD (BV vS (fB aF1 rfl B.abs PyProof.Rows.boot_abs (aD (vv 9) aO)) (aR vR aK aK) (fD _)) aO)))))
   (bD (fY (qE (pB (dS bA c hr.m rfl (aD (vv 0) (aD (vv 1) (aD (vv 9) aO))))))
    (bE (cL kM))
    gQ)
   (bE (fY (qE (pB (dS bA L hr.m rfl (aD (vv 0) (aD (vv 1) (aD (dR (vv 7) (aR iA (aR (eG au) (vv 8) (vv 4)) (fB wN rfl B.len PySem.boot_len (aD (vv 7) aO))) dH) (aD (vv 9) aO)))))))
    (bE (cL kM))
    gQ)))))
  (bD (tW bA.passes rfl (pC (jB au (aD aK (aD (aR jW aK (aR iA (vv 4) aK)) (aD (aR (eG au) (vv 5) aK) (aD (aR (eG au) (vv 5) (aR vR aK aK)) aO)))))) (fR 10)
   (bE (fY (qE (pB (dS bA a hr.m rfl (aD (vv 0) (aD (vv 10) aO)))))
    (bE (cL kM))
    gQ)))
  (bD (tW bA.passes rfl (ZV rfl B.range (aD (fB (WS rfl) rfl B.min boot_min (aD aK (aD (vv 5) aO))) aO)) (fR 8)
   (bD (dQ 10 (dR (jB au (aD aK (aD (vv 5) (aD (aR (eG au) aK (aR iA (dS bA z hr.m rfl (aD (vv 4) (aD (vv 8) aO))) (vv 5))) aO)))) (fB (WS rfl) rfl B.min boot_min (aD (vv 8) (aD aK aO))) dH))
   (bE (fY (qE (pB (dS bA e hr.m rfl (aD (vv 0) (aD (vv 1) (aD (vv 10) aO))))))
    (bE (cL kM))
    gQ))))
  (bE (cL kM)))))))))
theorem alP:cE ["_law_pouch", "_law_row", "_law_number_here"] ["_law_pouch", "_law_row", "_law_number_here"] (bB Ct):=dW
theorem aDY(B:dF mg)(h:HasFn K mg "_law_amid" Ct)(z:Nd P w K mg base)(j:Ng P w K mg base)(q:XX P w K mg base):adH P w K mg base :=
 cO.o h alP λhr=>(bD (fY (qE (pB (dS bA z hr.m rfl (aD (vv 0) (aD (vv 1) (aD (vv 2) aO))))))
   (bE (cL kM))
   gQ)
  (bD (fY (gF (uH hr.units) (vv 1) (jB au aO) (fD _))
   (bE (cL kM))
   gQ)
  (bE (cL (FX (dS bA j hr.m rfl (aD (vv 0) (aD (vv 1) (aD aK aO)))) (KQ (dS bA j hr.m rfl (aD (vv 0) (aD (vv 1) (aD (dS bA q hr.m rfl (aD (vv 1) aO)) aO))))))))))
theorem ak2:cE ["_law_script", "_law_keep_here", "_law_pouches", "_law_rows", "_law_puts", "_law_k", "_law_cell_here", "_law_number_here", "_law_times_here", "_law_at", "_law_other", "_law_total_here"] ["_law_script"] (bB xO):=dW
theorem aC7{f:ay}{fd:cy}(B:dF mg)(F:tQ K "law" "law" xO f fd)(z:adW P w K mg base)(L:adH P w K mg base)(U:JA P w K mg base)(a:adO P w K mg base)(b:adQ P w K mg base)(c:adI P w K mg base)(d:adS P w K mg base)(q:XX P w K mg base)(j:JI P w K mg base "Halves" 3 2 BF)(e:bV P w K mg base "Halves" "join" 5 2 [] ZC)(g:bV P w K mg base "Halves" "put" 5 3 [] QZ):jR P w K mg base (qA P w) 7 f fd ["_law_script"] (vM K 1 aeZ):=by
 refine abL F ak2 (λ_ _ _ _ _ _ _ hr=>?_);exact(bD (dQ 1 (dS bA b hr.m rfl (aD (vv 0) aO)))
  (bD (dQ 2 (jB au (aD (ZY j hr.m rfl (aD (vv 1) aO)) (aD (ZY j hr.m rfl (aD (vv 1) aO)) (aD (ZY j hr.m rfl (aD (vv 1) aO)) aO)))))
  (bD (dQ 3 (jB ax (aD (jB au aO) (aD (jB au aO) (aD (jB au aO) aO)))))
  (bD (dQ 4 (jB ax (aD aK (aD aK (aD aK aO)))))
  (bD (tW bA.passes rfl (ZV rfl B.range (aD (dS bA d hr.m rfl (aD (vv 0) (aD aK (aD aK aO)))) aO)) (fR 5)
   (bD (zK (dS bA a hr.m rfl (aD (vv 0) (aD (vv 5) aO))) (agI rfl (jU (fR 6) (jU (fR 7) (jU (fR 8) sV)))))
   (bD (dQ 9 (aR iA (aR rQ (vv 6) aK) aK))
   (bD (dQ 10 (aR iA (aR rQ (vv 6) aK) aK))
   (bD (dQ 11 (dS bA q hr.m rfl (aD (dR (vv 3) (vv 9) dH) aO)))
   (bE (fY (gF (uH hr.units) (aR iA (aR rQ (vv 6) aK) aK) aK (fD _))
    (bD (fY (qE (pB (dS bA L hr.m rfl (aD (dR (vv 2) (vv 9) dH) (aD (dR (vv 3) (vv 9) dH) (aD (vv 7) aO))))))
     (bE (cL kM))
     gQ)
    (bD (fY (gF xS (aR (eG au) (vv 11) (dS bA q hr.m rfl (aD (dR (vv 3) (vv 10) dH) aO))) aK (fD _))
     (bD (oC (iS bA (bI.cons e hr.m bI.nil) (dR (vv 2) (vv 9) dH) (aD (dR (vv 2) (vv 10) dH) aO)))
     (bD (zK (dS bA z hr.m rfl (aD (dR (vv 3) (vv 9) dH) (aD (dR (vv 3) (vv 10) dH) aO))) (BU (vv 3) (vv 9)))
     (bE (zK (aR (eG au) (dR (vv 4) (vv 9) dH) (dR (vv 4) (vv 10) dH)) (BU (vv 4) (vv 9))))))
     gQ)
    (bE (fY (qE (pB (dS bA L hr.m rfl (aD (dR (vv 2) (vv 9) dH) (aD (dR (vv 3) (vv 9) dH) (aD (vv 7) aO))))))
     (bE (cL kM))
     gQ))))
    (bE (fY (gF xS (aR (eG au) (vv 11) (vv 8)) aK (fD _))
     (bD (oC (iS bA (bI.cons g hr.m bI.nil) (dR (vv 2) (vv 9) dH) (aD (vv 7) (aD (vv 8) aO))))
     (bD (zK (dS bA z hr.m rfl (aD (dR (vv 3) (vv 9) dH) (aD (jB au (aD (vJ (aD (vv 7) (aD (vv 8) aO))) aO)) aO))) (BU (vv 3) (vv 9)))
     (bE (zK (aR (eG au) (dR (vv 4) (vv 9) dH) aK) (BU (vv 4) (vv 9))))))
     gQ)))))))))
  (bD (tW bA.passes rfl (ZV rfl B.range (aD aK aO)) (fR 5)
   (bE (fY (qE (pB (dS bA c hr.m rfl (aD (dR (vv 2) (vv 5) dH) (aD (dR (vv 3) (vv 5) dH) (aD (vv 1) (aD (dR (vv 4) (vv 5) dH) (aD (aR (eG au) (dS bA U hr.m rfl (aD (vv 0) (aD aK aO))) (vv 5)) aO))))))))
    (bE (cL kM))
    gQ)))
  (bE (cL kM))))))))
end
theorem all_mk{l:OpenLaw}{w:br}{K:bj}{h:bz}{mg:a9->av ar}{fa fl:ay}{od an:av ay}{sl:a6 (av ar)}{oc kV dc pm cd ct:ar}(X:K.In h)(G:h.Ns a5 mg)(hfa:mg "law" = ak (.ref fa))
  (al:cu K a5 "law" = ak (ak (.ref fl))) (ll:K.lookup fl=ak ⟨oc,od,.func (fnOf "law" "law" (lL xO) (fV xO) (bB xO) .none kV dc pm an cd ct),sl⟩) (lc:codeIn K cd "law" = ax) (lk:keepIn K (.ref fl)=ax)
  (B:dF mg)
  (azJ:HasFn K mg "count_upto" Bu)
  (azK:HasFn K mg "count_below" Bv)
  (azH:HasFn K mg "number_at" Br)
  (azG:HasFn K mg "packed" Bq)
  (azL:HasFn K mg "apart" Bw)
  (azI:HasFn K mg "halved" Bt)
  (azY:HasFn K mg "_law_mix" Ck)
  (az2:HasFn K mg "_law_cell" Cp)
  (azW:HasFn K mg "_law_number" Ci)
  (azQ:HasFn K mg "_law_times" Cb)
  (azO:HasFn K mg "_law_upto" Bz)
  (az3:HasFn K mg "_law_bits" Cq)
  (azU:HasFn K mg "_law_pair" Cf)
  (azN:HasFn K mg "_law_whole" By)
  (azR:HasFn K mg "_law_steps" Cc)
  (azS:HasFn K mg "_law_step" Cd)
  (az1:HasFn K mg "_law_deed" Co)
  (az0:HasFn K mg "_law_keep" Cn)
  (az5:HasFn K mg "_law_below" Cs)
  (azM:HasFn K mg "_law_within" Bx)
  (azV:HasFn K mg "_law_number_asked" Cg)
  (az4:HasFn K mg "_law_between" Cr)
  (azT:HasFn K mg "_law_place_asked" Ce)
  (azX:HasFn K mg "_law_no_place" Cj)
  (az7:HasFn K mg "_law_added" Cu)
  (azP:HasFn K mg "_law_total" Ca)
  (azZ:HasFn K mg "_law_looked" Cm)
  (az6:HasFn K mg "_law_amid" Ct)
  (Im:∃t,mg "LONGEST" = ak (.int 1000000000 t))
  {m:ay} (A:cu K a5 "RankError" = ak (ak (.ref m)))
  {ar6 am8 aH7 aF4 aGG ayQ aj3 ai4 aHT aET aCX avN avE au5 auW auN} (arK:K.lookup m=ak (c4 ar6 am8 m aH7 aF4 aGG ayQ aj3 ai4 aHT aET aCX avN avE au5 auW auN "ValueError.__new__"))
  (aBE:b5 K (.ref m) "__getattribute__" = ak (ak (.builtin "BaseException.__getattribute__"))) (aAY:b5 K (.ref m) "__getattr__" = ak aq) (aE5:b5 K (.ref m) "__class__" = ak (ak (.builtin "object.__class__"))) (aGU:b7 K (.ref m) (.type "BaseException")=ak ax) (aq4:b7 K (.ref m) (.type "object")=ak ax)
  {g:ay} (u:cu K a5 "NoRow" = ak (ak (.ref g)))
  {asA anC aIB aF8 aGK ayU aj7 ajH aHX aEX aC1 avR avI au9 au0 auR} (arO:K.lookup g=ak (c4 asA anC g aIB aF8 aGK ayU aj7 ajH aHX aEX aC1 avR avI au9 au0 auR "ValueError.__new__"))
  (aBI:b5 K (.ref g) "__getattribute__" = ak (ak (.builtin "BaseException.__getattribute__"))) (aA2:b5 K (.ref g) "__getattr__" = ak aq) (aE9:b5 K (.ref g) "__class__" = ak (ak (.builtin "object.__class__"))) (aGY:b7 K (.ref g) (.type "BaseException")=ak ax) (aq8:b7 K (.ref g) (.type "object")=ak ax)
  {L:ay} (b:cu K a5 "NoPlace" = ak (ak (.ref L)))
  {asC anE aID aGA aGM ayW aj9 ajS aHZ aEZ aC3 avT avK avB au2 auT} (arQ:K.lookup L=ak (c4 asC anE L aID aGA aGM ayW aj9 ajS aHZ aEZ aC3 avT avK avB au2 auT "ValueError.__new__"))
  (aBK:b5 K (.ref L) "__getattribute__" = ak (ak (.builtin "BaseException.__getattribute__"))) (aA4:b5 K (.ref L) "__getattr__" = ak aq) (aFB:b5 K (.ref L) "__class__" = ak (ak (.builtin "object.__class__"))) (aG0:b7 K (.ref L) (.type "BaseException")=ak ax) (arA:b7 K (.ref L) (.type "object")=ak ax)
  {f:ay} (r:cu K a5 "NoPouch" = ak (ak (.ref f)))
  {asB anD aIC aF9 aGL ayV aj8 ajI aHY aEY aC2 avS avJ avA au1 auS} (arP:K.lookup f=ak (c4 asB anD f aIC aF9 aGL ayV aj8 ajI aHY aEY aC2 avS avJ avA au1 auS "ValueError.__new__"))
  (aBJ:b5 K (.ref f) "__getattribute__" = ak (ak (.builtin "BaseException.__getattribute__"))) (aA3:b5 K (.ref f) "__getattr__" = ak aq) (aFA:b5 K (.ref f) "__class__" = ak (ak (.builtin "object.__class__"))) (aGZ:b7 K (.ref f) (.type "BaseException")=ak ax) (aq9:b7 K (.ref f) (.type "object")=ak ax)
  {i:ay} (x:cu K a5 "NoSize" = ak (ak (.ref i)))
  {ar9 anB aIA aF7 aGJ ayT aj6 ajG aHW aEW aC0 avQ avH au8 auZ auQ} (arN:K.lookup i=ak (c4 ar9 anB i aIA aF7 aGJ ayT aj6 ajG aHW aEW aC0 avQ avH au8 auZ auQ "ValueError.__new__"))
  (aBH:b5 K (.ref i) "__getattribute__" = ak (ak (.builtin "BaseException.__getattribute__"))) (aA1:b5 K (.ref i) "__getattr__" = ak aq) (aE8:b5 K (.ref i) "__class__" = ak (ak (.builtin "object.__class__"))) (aGX:b7 K (.ref i) (.type "BaseException")=ak ax) (aq7:b7 K (.ref i) (.type "object")=ak ax)
  {n:ay} (C:cu K a5 "Wrong" = ak (ak (.ref n)))
  {ar4 am6 aH5 aF2 aGE ayO aj1 aiT aHR aER aCV avL avC au3 auU auL} (arI:K.lookup n=ak (c4 ar4 am6 n aH5 aF2 aGE ayO aj1 aiT aHR aER aCV avL avC au3 auU auL "ValueError.__new__"))
  (aBC:b5 K (.ref n) "__getattribute__" = ak (ak (.builtin "BaseException.__getattribute__"))) (aAW:b5 K (.ref n) "__getattr__" = ak aq) (aE3:b5 K (.ref n) "__class__" = ak (ak (.builtin "object.__class__"))) (aGS:b7 K (.ref n) (.type "BaseException")=ak ax) (aq2:b7 K (.ref n) (.type "object")=ak ax)
  {U:ay} (c:cu K a5 "NoTimes" = ak (ak (.ref U)))
  {ar7 am9 aH8 aF5 aGH ayR aj4 ajE aHU aEU aCY avO avF au6 auX auO} (arL:K.lookup U=ak (c4 ar7 am9 U aH8 aF5 aGH ayR aj4 ajE aHU aEU aCY avO avF au6 auX auO "ValueError.__new__"))
  (aBF:b5 K (.ref U) "__getattribute__" = ak (ak (.builtin "BaseException.__getattribute__"))) (aAZ:b5 K (.ref U) "__getattr__" = ak aq) (aE6:b5 K (.ref U) "__class__" = ak (ak (.builtin "object.__class__"))) (aGV:b7 K (.ref U) (.type "BaseException")=ak ax) (aq5:b7 K (.ref U) (.type "object")=ak ax)
  {a:ay} (d:cu K a5 "Unlike" = ak (ak (.ref a)))
  {ar5 am7 aH6 aF3 aGF ayP aj2 ai3 aHS aES aCW avM avD au4 auV auM} (arJ:K.lookup a=ak (c4 ar5 am7 a aH6 aF3 aGF ayP aj2 ai3 aHS aES aCW avM avD au4 auV auM "ValueError.__new__"))
  (aBD:b5 K (.ref a) "__getattribute__" = ak (ak (.builtin "BaseException.__getattribute__"))) (aAX:b5 K (.ref a) "__getattr__" = ak aq) (aE4:b5 K (.ref a) "__class__" = ak (ak (.builtin "object.__class__"))) (aGT:b7 K (.ref a) (.type "BaseException")=ak ax) (aq3:b7 K (.ref a) (.type "object")=ak ax)
  {k:ay} (y:cu K a5 "NoText" = ak (ak (.ref k)))
  {ar8 anA aH9 aF6 aGI ayS aj5 ajF aHV aEV aCZ avP avG au7 auY auP} (arM:K.lookup k=ak (c4 ar8 anA k aH9 aF6 aGI ayS aj5 ajF aHV aEV aCZ avP avG au7 auY auP "ValueError.__new__"))
  (aBG:b5 K (.ref k) "__getattribute__" = ak (ak (.builtin "BaseException.__getattribute__"))) (aA0:b5 K (.ref k) "__getattr__" = ak aq) (aE7:b5 K (.ref k) "__class__" = ak (ak (.builtin "object.__class__"))) (aGW:b7 K (.ref k) (.type "BaseException")=ak ax) (aq6:b7 K (.ref k) (.type "object")=ak ax)
  (agY:b7 K (.ref L) (.type "ValueError")=ak ax)
  (ajL:b7 K (.ref L) (.ref m)=ak ax)
  (ajP:b7 K (.ref L) (.ref g)=ak au)
  (ajR:b7 K (.ref L) (.ref L)=ak ax)
  (ajQ:b7 K (.ref L) (.ref f)=ak au)
  (ajO:b7 K (.ref L) (.ref i)=ak au)
  (ajJ:b7 K (.ref L) (.ref n)=ak au)
  (ajM:b7 K (.ref L) (.ref U)=ak au)
  (ajK:b7 K (.ref L) (.ref a)=ak au)
  (ajN:b7 K (.ref L) (.ref k)=ak au)
  (agX:b7 K (.ref U) (.type "ValueError")=ak ax)
  (ai7:b7 K (.ref U) (.ref m)=ak ax)
  (ajB:b7 K (.ref U) (.ref g)=ak au)
  (ajD:b7 K (.ref U) (.ref L)=ak au)
  (ajC:b7 K (.ref U) (.ref f)=ak au)
  (ajA:b7 K (.ref U) (.ref i)=ak au)
  (ai5:b7 K (.ref U) (.ref n)=ak au)
  (ai8:b7 K (.ref U) (.ref U)=ak ax)
  (ai6:b7 K (.ref U) (.ref a)=ak au)
  (ai9:b7 K (.ref U) (.ref k)=ak au)
  (agW:b7 K (.ref a) (.type "ValueError")=ak ax)
  (aiW:b7 K (.ref a) (.ref m)=ak ax)
  (ai0:b7 K (.ref a) (.ref g)=ak au)
  (ai2:b7 K (.ref a) (.ref L)=ak au)
  (ai1:b7 K (.ref a) (.ref f)=ak au)
  (aiZ:b7 K (.ref a) (.ref i)=ak au)
  (aiU:b7 K (.ref a) (.ref n)=ak au)
  (aiX:b7 K (.ref a) (.ref U)=ak au)
  (aiV:b7 K (.ref a) (.ref a)=ak ax)
  (aiY:b7 K (.ref a) (.ref k)=ak au)
  (YB:JF K mg "NoPlace")
  (Nr:JF K mg "Unlike")
  {j:ay} (q:cu K a5 "Halves" = ak (ak (.ref j))) (z:nE K j)
  (asW:b5 K (.ref j) "keep" = ak aq)
  (asV:b5 K (.ref j) "levels" = ak aq)
  (asU:b5 K (.ref j) "many" = ak aq)
  (asT:b5 K (.ref j) "over" = ak aq)
  (asS:b5 K (.ref j) "taken" = ak aq)
  (asR:b5 K (.ref j) "turns" = ak aq)
  (asQ:b5 K (.ref j) "under" = ak aq)
  (awR:b5 K (.ref j) "__class__" = ak (ak (.builtin "object.__class__"))) (awK:specialIn K (.builtin "object.__class__") "__get__" = ak (ak (.builtin "getset_descriptor.__get__"))) (av6:takesIn K (.builtin "object.__class__")=ak ax) (awM:mroIn K j (.type "object")=ak ax)
  {ahW:Tok} (We:YF K j "put" "Pouch.put" CD #[.int 1 ahW])
  (anT:kZ K j "join" "Pouch.join" De)
  (anP:kZ K j "look_room" "Pouch.look_room" Dc)
  (anQ:kZ K j "length" "Pouch.length" Dd)
  (anM:kZ K j "puts" "Pouch.puts" Cy)
  (anO:kZ K j "numbers" "Pouch.numbers" Cz)
  (anY:kZ K j "between" "RankPouch.between" Cw)
  (anV:kZ K j "counted" "RankPouch.counted" Cv)
  (an0:YQ K j "Halves.__init__" GQ)
  (anL:kZ K j "same_kind" "Halves.same_kind" Dl)
  (anH:kZ K j "take" "Halves.take" Dh)
  (anG:kZ K j "take_in" "Halves.take_in" Dg)
  (anR:kZ K j "lay" "Halves.lay" Dp)
  (anK:kZ K j "settle" "Halves.settle" Dk)
  (anU:kZ K j "halve" "Halves.halve" Dr)
  (anI:kZ K j "stand_ins" "Halves.stand_ins" Di)
  (anS:kZ K j "kept" "Halves.kept" Dq)
  (anN:kZ K j "off" "Halves.off" Dm)
  (anF:kZ K j "upto" "Halves.upto" Df)
  (anZ:kZ K j "below" "Halves.below" Du)
  (anW:kZ K j "bounds" "Halves.bounds" Ds)
  (anJ:kZ K j "so_manieth" "Halves.so_manieth" Dj)
  (ay6:YT K mg "RankPouch" "__init__" "Pouch.__init__" GP)
  : ∃fd:cy,(∀(s:aw) (v:ar),BindsTo s fd ⟨[v],[]⟩ [("_law_script",v)])/\∀base:bz,K.In base->base.Ns a5 mg->jR l.prog w K mg base zH 7 fa fd ["_law_script"] (SR K):=by
 have e:=hfa.symm.trans (mg_of X G al);cases e;have Rc:XC K m:=⟨⟨_,_,_,_,_,_,_,_,_,_,_,_,_,_,_,_,arK⟩,aBE,aAY,aE5,aGU,aq4⟩;have Qp:mS K mg "RankError":=⟨m,Rc,mg_of X G A,A⟩;have Ri:XC K g:=⟨⟨_,_,_,_,_,_,_,_,_,_,_,_,_,_,_,_,arO⟩,aBI,aA2,aE9,aGY,aq8⟩;have Qt:mS K mg "NoRow":=⟨g,Ri,mg_of X G u,u⟩;have Rk:XC K L:=⟨⟨_,_,_,_,_,_,_,_,_,_,_,_,_,_,_,_,arQ⟩,aBK,aA4,aFB,aG0,arA⟩;have Qv:mS K mg "NoPlace":=⟨L,Rk,mg_of X G b,b⟩;have Rj:XC K f:=⟨⟨_,_,_,_,_,_,_,_,_,_,_,_,_,_,_,_,arP⟩,aBJ,aA3,aFA,aGZ,aq9⟩;have Qu:mS K mg "NoPouch":=⟨f,Rj,mg_of X G r,r⟩;have Rh:XC K i:=⟨⟨_,_,_,_,_,_,_,_,_,_,_,_,_,_,_,_,arN⟩,aBH,aA1,aE8,aGX,aq7⟩;have Qs:mS K mg "NoSize":=⟨i,Rh,mg_of X G x,x⟩;have Ra:XC K n:=⟨⟨_,_,_,_,_,_,_,_,_,_,_,_,_,_,_,_,arI⟩,aBC,aAW,aE3,aGS,aq2⟩;have Qn:mS K mg "Wrong":=⟨n,Ra,mg_of X G C,C⟩;have Rf:XC K U:=⟨⟨_,_,_,_,_,_,_,_,_,_,_,_,_,_,_,_,arL⟩,aBF,aAZ,aE6,aGV,aq5⟩;have Qq:mS K mg "NoTimes":=⟨U,Rf,mg_of X G c,c⟩;have Rb:XC K a:=⟨⟨_,_,_,_,_,_,_,_,_,_,_,_,_,_,_,_,arJ⟩,aBD,aAX,aE4,aGT,aq3⟩;have Qo:mS K mg "Unlike":=⟨a,Rb,mg_of X G d,d⟩;have Rg:XC K k:=⟨⟨_,_,_,_,_,_,_,_,_,_,_,_,_,_,_,_,arM⟩,aBG,aA0,aE7,aGW,aq6⟩;have Qr:mS K mg "NoText":=⟨k,Rg,mg_of X G y,y⟩;have JB:yU K ["NoPlace", "NoTimes", "Unlike"] ["RankError", "NoRow", "NoPlace", "NoPouch", "NoSize", "Wrong", "NoTimes", "Unlike", "NoText"]:=⟨(eY (sY A Rc) (eY (sY u Ri) (eY (sY b Rk) (eY (sY r Rj) (eY (sY x Rh) (eY (sY C Ra) (eY (sY c Rf) (eY (sY d Rb) (eY (sY y Rg) IM))))))))),(eY (eY (jE b A ajL) (eY (jE b u ajP) (eY (jE b b ajR) (eY (jE b r ajQ) (eY (jE b x ajO) (eY (jE b C ajJ) (eY (jE b c ajM) (eY (jE b d ajK) (eY (jE b y ajN) IM))))))))) (eY (eY (jE c A ai7) (eY (jE c u ajB) (eY (jE c b ajD) (eY (jE c r ajC) (eY (jE c x ajA) (eY (jE c C ai5) (eY (jE c c ai8) (eY (jE c d ai6) (eY (jE c y ai9) IM))))))))) (eY (eY (jE d A aiW) (eY (jE d u ai0) (eY (jE d b ai2) (eY (jE d r ai1) (eY (jE d x aiZ) (eY (jE d C aiU) (eY (jE d c aiX) (eY (jE d d aiV) (eY (jE d y aiY) IM))))))))) IM))),(eY (sY b agY) (eY (sY c agX) (eY (sY d agW) IM))),by decide⟩;have tT:dM K ["Halves"] "keep":=EE q z asW (ED);have p:dM K ["Halves"] "levels":=EE q z asV (ED);have o:dM K ["Halves"] "many":=EE q z asU (ED);have E:dM K ["Halves"] "over":=EE q z asT (ED);have H:dM K ["Halves"] "taken":=EE q z asS (ED);have tS:dM K ["Halves"] "turns":=EE q z asR (ED);have F:dM K ["Halves"] "under":=EE q z asQ (ED);have Nn:=av8 q z awR awK av6 awM;have Pk:Pj K mg "Halves":=⟨j,mg_of X G q,q⟩;have FL:=OA (st:=xO) ll lc lk;refine⟨fnOf "law" "law" (lL xO) (fV xO) (bB xO) .none kV dc pm an cd ct,λs v => .of_eq rfl,λbase _ _=>?_⟩;have Pz:=@aDB l.prog w K mg base B azJ;have Qa:=@aDC l.prog w K mg base B azK;have Pw:=@aC5 l.prog w K mg base B azG;have Qb:=@aDD l.prog w K mg base B azL;have Py:=@aC8 l.prog w K mg base B azI;have P:=@aDQ l.prog w K mg base B azY;have Qg:=@aDO l.prog w K mg base B azW;have Qc:=@aDI l.prog w K mg base B azQ;have R:=@aDG l.prog w K mg base B azO;have Ql:=@aDV l.prog w K mg base B az3;have Qf:=@aDM l.prog w K mg base B azU;have KD:=@aDF l.prog w K mg base B azN;have Q:=@aDX l.prog w K mg base B az5;have ZI:=@aDZ l.prog w K mg base B az7;have V:=@aDH l.prog w K mg base B azP;have QQ:=@aCR l.prog w K mg base B tT o H _ ay6;have vB:=@aD5 l.prog w K mg base B Im o _ (anP.has X G q z);have JL:=@aD6 l.prog w K mg base B o _ (anQ.has X G q z);have Oc:=@aD2 l.prog w K mg base B H _ (anM.has X G q z);have Ob:=@aEE l.prog w K mg base B Pk Nn _ (anL.has X G q z);have T:=@aEG l.prog w K mg base B p tS _ (anR.has X G q z);have N:=@aEB l.prog w K mg base B p _ (anI.has X G q z);have I:=@aEF l.prog w K mg base B E F _ (anN.has X G q z);have JM:=@aEJ l.prog w K mg base B o E F _ (anW.has X G q z);have Px:=@aC6 l.prog w K mg base B azH Pw YB;have D:=@aDU l.prog w K mg base B az2 P;have BG:=@aDE l.prog w K mg base B azM Qf;have Oh:=@aEI l.prog w K mg base B Py p E tS F T _ (anU.has X G q z);have Of:=@aEH l.prog w K mg base B N _ (anS.has X G q z);have wW:=@aD8 l.prog w K mg base B Pz JM N _ (anF.has X G q z);have W:=@aEK l.prog w K mg base B Qa JM N _ (anZ.has X G q z);have Qd:=@aDJ l.prog w K mg base B azR D;have Qe:=@aDK l.prog w K mg base B azS D P;have Qj:=@aDS l.prog w K mg base B az0 D;have Oe:=@aD4 l.prog w K mg base B Of _ (anO.has X G q z);have S:=@aD1 l.prog w K mg base B Qb W wW _ (anY.has X G q z);have QK:=@aCP l.prog w K mg base B QQ p E tS F _ (an0.has X G q);have JK:=@aED l.prog w K mg base B tT p Oh _ (anK.has X G q z);have EU:=@aEC l.prog w K mg base B Px N _ (anJ.has X G q z);have Qk:=@aDT l.prog w K mg base B az1 D P Qg Qe Qc;have Qm:=@aDW l.prog w K mg base B az4 Q R BG W S I wW;have FI:=@aDL l.prog w K mg base B azT Q R KD Oe I EU;have Qh:=@aDP l.prog w K mg base B azX Qv Qu Qt Qs Qr Qq Qp Qo Qn EU JB;have Oi:=@aD0 l.prog w K mg base B S _ (anV.has X G q z);have AY:=@aEA l.prog w K mg base B T JK _ (anH.has X G q z);have Oa:=@aD9 l.prog w K mg base B p E F T JK _ (anG.has X G q z);have KG:=@aDN l.prog w K mg base B azV Q R KD BG W S Oi JL I wW;have Od:=@aD3 l.prog w K mg base B o H vB AY _ _ (We.has X G q z);have aL9:=@aCM l.prog w K mg base B o H vB AY _ _ (We.has X G q z);have Og:=@aD7 l.prog w K mg base B tT o H vB Ob Oa Nr _ (anT.has X G q z);have Qi:=@aDR l.prog w K mg base B azZ Qm Ql P Qh KG FI V JL I Oc;have ZH:=@aDY l.prog w K mg base B az6 KG FI V;exact at0 (aC7 B FL ZI ZH D Qk Qj Qi Qd V QK Og Od) M.at3
theorem walk{l:OpenLaw}{q:bg}{loose:ao a9}{XP:(a9->av ar)->bz->Prop}{YP:br->bz->Prop}{d:DefRec}{K:Params->bj}(hn:l.most=ak 63)(B:d.params.defaults=[])
  (j:∀(w:br) (h:bz),YP w h->(K w.params).In h)
  (F:∀(w:br) (mg:a9->av ar) (fa:ay) (h:bz),(K w.params).In h->h.Ns a5 mg->mg d.name=ak (.ref fa) ->
   ∃fd:cy,(∀(s:aw) (u:ar),BindsTo s fd ⟨[u],[]⟩ [("_law_script",u)])/\∀base:bz,(K w.params).In base->base.Ns a5 mg->jR l.prog w (K w.params) mg base zH 7 fa fd ["_law_script"] (SR (K w.params))) :
  PySem.W.WalkO q loose XP YP l.row.toRowW d [] (λf vs=>PySem.call f vs) :=
 L2.af7 (n:=63) (k:=7) (x := "_law_script") (CX:=λ_=>zH) (sp:=λw=>SR (K w.params)) hn (by decide) B ⟨rfl,by decide,by decide⟩ j F (λ_ _ a ns hl _ hS=>⟨a,ns,rfl,hS,hl,λ_=>rfl⟩) λ_ _ _ _ _ z=>z
end Pb
open PySem PySem.W PyProof.Rows
namespace HD
open PySem PySem.W PyProof.Rows L2
noncomputable def SX(B:cj->av Builtin)(p:bg)(w:br)(lo:a4)(j:av ar):a4->et->Thread->av et
 |0,_,_=>aq
 |m+1,x,th=>bif through th then ak x else bif stepOk lo j th then(stepT (denote B) p w x th).bind (λy=>SX B p w lo j m y.1 y.2)else aq
theorem amO{B:cj->av Builtin}{p:bg}{w:br}{lo:a4}{j:av ar}(m:a4) :
  ∀(x y:et) (th:Thread),SX B p w lo j m x th=ak y->topRun B p w lo j m x.abs th=ak y.abs:=by
 induction m with
 |zero=>intro x y th z;cases z
 |succ m ih =>
  intro x y th z;unfold SX at z;unfold topRun;cases a:through th <;> rw[a]at z
  ·cases b:stepOk lo j th <;> rw[b]at z
   ·cases z
   ·obtain⟨u,L,q⟩:=JG.mp (show(stepT (denote B) p w x th).bind _=ak y from z);dsimp only;rw[stepT_spec (s':=u.1) (t':=u.2) L];exact ih _ _ _ q
  ·cases z;rfl
noncomputable def grow:ao cp->BT->a4->BT
 |[],T,_=>T
 |o::l,T,n=>grow l (T.ins n o) (n+1)
noncomputable def SS(s:cj)(t:a4):ar:=.str (Str.ofString s) t
def en(w:br)(s:cj)(t:a4)(v:ar):DictEntry:=⟨reduceHash (w.params.strHash (Str.ofString s).cps),SS s t,v⟩
noncomputable def ob(c:cj)(d:Data):cp:=⟨.type c,aq,d,#[]⟩
def tp(l:ao ar):cp:=ob "tuple" (.seq ⟨l⟩ 0)
def di(l:ao DictEntry)(n:a4):cp:=ob "dict" (.dict ⟨l⟩ n)
noncomputable def fl(l:ao ar):cp:=⟨.none,aq,.fields ⟨l⟩,#[]⟩
noncomputable def nn(i:a4):ar:=.int i 0
def bm(b:cj)(v:ar):cp:=ob "builtin_function_or_method" (.fields ⟨[.builtin b,v]⟩)
def co(n q:cj)(t l k f x:a4)(b:bh)(r:ao ar)(u:a4):cp:=ob "code" (.fields ⟨[SS n t,SS q (t+1),SS "/claim/cut.py" (t+2),nn l,nn k,nn 0,nn 0,nn f,.ref x,.bool b,nn 181,.ref (x+1),.none]++r++[nn u,nn l,SS "/claim/cut.py" (u+1)]⟩)
noncomputable def fr(c n:a4)(m:ar):cp:=⟨.type "frame",aq,.plain,⟨[ak (.ref c),ak (.ref 3),ak (.ref n),aq,ak m,aq,ak (.ref 0)]⟩⟩
def fu(st:bw)(n q:cj)(g:a4)(m c:ar):Data:=.func ⟨Str.ofString n,Str.ofString q,lL st,.stmts (fV st),bB st,g,[],.none,.none,.none,m,aq,c,.none,0⟩
def ty(n:cj)(b:ar)(j:ao ar)(c ns a t:a4)(su:ao ar):cp:=⟨.type "type",aq,.cls {name:=Str.ofString n,bases:=[b],mro:=.ref c::j,ns:=ns,qualname:=Str.ofString n,subclasses:=su},⟨[ak (.ref a),aq,ak (SS n t),ak (SS n (t+8)),ak (.builtin "ValueError.__new__"),ak (.bool ax)]⟩⟩
noncomputable def Fc:ao ar:=[.type "ValueError",.type "Exception",.type "BaseException",.type "object"]
noncomputable def n3:ao ar:=[.none,.none,.none]
def su(c:a4):ao cp:=[ob "super" (.fields ⟨[.ref c,.ref c,.ref c]⟩),bm "object.__init_subclass__" (.ref c)]
def kW(st:bw):ao cp:=[tp [],fl [],tp [SS "k" 190],tp [],⟨.none,aq,fu st "_wall" "_wall" 0 .none .none,#[]⟩,co "_wall" "_wall" 187 1 1 3 15 ax [.ref 17,.ref 18,.ref 19] 191,ob "function" (fu st "_wall" "_wall" 3 (SS "__main__" 164) (.ref 20))]
section
variable(w:br)(m:ar)(n:cj)
def e0(l t:a4):ao DictEntry:=[en w "__module__" (t+7) m,en w "__firstlineno__" (t+11) (.int l (t+10))]
def e1(l t:a4):ao DictEntry:=[en w "__module__" (t+7) m,en w "__qualname__" (t+9) (SS n (t+8)),en w "__firstlineno__" (t+11) (.int l (t+10))]
def k0(l a t:a4)(b:ar):ao cp:=[tp [b],bm "type.__prepare__" (.type "type"),di (e1 w m n l t++[en w "__static_attributes__" (t+12) (.ref (a+7))]) 4,tp [],fl [],co n n (t+2) l 0 0 (a+3) au n3 (t+5),fr (a+5) (a+2) m,tp []]
def kR(l a t:a4)(j:ao ar):ao cp:=k0 w m n l a t (.type "ValueError")++[di (e0 w m l t++[en w "__static_attributes__" (t+12) (.ref (a+7)),en w "__weakref__" (t+14) (.ref (a+10)),en w "__doc__" (t+15) .none]) 3,ty n (.type "ValueError") Fc (a+9) (a+8) a t j,ob "getset_descriptor" (.fields ⟨[SS "__weakref__" (t+13),.ref (a+9),.builtin "ExceptionGroup.__weakref__",.none]⟩)]++su (a+9)
def kA(r l a t:a4):ao cp:=k0 w m n l a t (.ref r)++[di (e0 w m l t++[en w "__static_attributes__" (t+12) (.ref (a+7)),en w "__doc__" (t+13) .none]) 2,ty n (.ref r) (.ref r::Fc) (a+9) (a+8) a t []]++su (a+9)
def kB(f:cj)(st:bw)(r l k a t:a4):ao cp:=[tp [.ref r],bm "type.__prepare__" (.type "type"),di (e1 w m n l t++[en w "__init__" (t+19) (.ref (a+13)),en w "__static_attributes__" (t+21) (.ref (a+14))]) 5,tp [],fl [nn k,nn 4,.ref (a+12)],co n n (t+2) l 0 0 (a+3) au n3 (t+5),fr (a+5) (a+2) m,
 tp [],fl [],tp [SS "self" (t+15),SS f (t+16)],tp [],⟨.none,aq,fu st "__init__" (n ++ ".__init__") 0 .none .none,#[]⟩,co "__init__" (n ++ ".__init__") (t+12) k 2 3 (a+7) ax [.ref (a+9),.ref (a+10),.ref (a+11)] (t+17),ob "function" (fu st "__init__" (n ++ ".__init__") 3 m (.ref (a+12))),tp [SS f (t+20)],
 di (e0 w m l t++[en w "__init__" (t+19) (.ref (a+13)),en w "__static_attributes__" (t+21) (.ref (a+14)),en w "__doc__" (t+22) .none]) 2,ty n (.ref r) (.ref r::Fc) (a+16) (a+15) a t []]++su (a+16)
def gl(es:ao DictEntry)(k:a4):cp:=di ([en w "__name__" 165 m,en w "__doc__" 166 .none,en w "__package__" 167 .none,en w "__loader__" 168 (.builtin "__main__.__loader__#opaque"),en w "__spec__" 169 .none,en w "__annotations__" 170 (.ref 6),en w "__builtins__" 171 (.ref 4),en w "__file__" 173 (SS "/claim/cut.py" 172),en w "__cached__" 174 .none]++es) k
end
noncomputable def bt(w:br):ao cp:=(d8 w.params).objs.toList
def hd4(l:ao ar):ao cp:=[tp [],fl l,co "<module>" "<module>" 182 1 0 0 11 au n3 185,fr 13 3 (SS "__main__" 164)]
noncomputable def Bj(w:br)(os:c6)(l:ao cp)(n k:a4):et:=⟨grow l .nil 0,n,(d8 w.params).life,#[],boot_drawn,k,os⟩
noncomputable def boot(w:br)(os:c6):et:=Bj w os (bt w) 11 boot_toks
noncomputable def sa(w:br)(os:c6):et:=Bj w os (bt w++hd4 []) 15 187
noncomputable def yK(p:bg):Env:={scope:=p.main.scope,locals:=mainNs,globals:=mainNs,cells:=[],code:=.ref 13,frame:=ak 14}
def c0(p:bg):Code:=.body (ea p) (yK p)
noncomputable def qY:dg:=⟨0,0,0,0⟩
noncomputable def thr(p:bg)(k:a4)(q:dg):Thread:=restOf ((ea p).drop k) (yK p) (c0 p) q [topFrame qY]
theorem aGB(w:br):((d8 w.params).isNs a5&&(#[]:a6 GenState).size==0,(d8 w.params).objs.size,(d8 w.params).nsMap a5 "__annotations__")=(ax,11,ak (Value.ref 6)):=by kernel_rfl
theorem boot_abs(w:br)(os:c6):(boot w os).abs=⟨d8 w.params,#[],boot_drawn,boot_toks,os⟩:=by kernel_rfl
noncomputable def fits(p:bg)(h:bz)(y:et):bh:=staticsOk (importedModules p.main.body) h y.abs.heap&&namesBound p y.abs.heap&&gensDone y.abs&&laidKept h y.abs.heap
noncomputable def ends(p:bg)(N:a4)(w:br)(x:et)(k:a4)(q:dg):av et:=SX du p w 11 (ak (.ref 6)) N x (thr p k q)
noncomputable def Vk(p:bg)(n:a4)(w:br)(x:et)(k:a4):av (Flow×et×Code×dg):=segRunT du p w 11 (ak (.ref 6)) 1 n x (piecesOf ((ea p).take k) (yK p) (c0 p) qY [topFrame qY])
theorem left{p q:bg}{loose:ao a9}{Xt:aw->bh}{α:Type}{Yf:aw->α}{Ya:br->α}{N j L k:a4}{b:bh}{mid:br->c6->et}{po:dg}
  (plain:opening p=plainProg p.main.scope.names) (h:Nat.ble 600 N=ax) (l:12+(1+(L+j))=N) (fence:∀s,fenceModules? p s=ak s)
  (pre:∀(w:br) (os:c6),topGo du p w 11 (ak (.ref 6)) 12 (boot w os).abs (topStub p)=ak ((sa w os).abs,⟨denote du (c0 p),c0 p,qY,[topFrame qY]⟩))
  (Kp:∀(w:br) (os:c6),segRun du p w 11 (ak (.ref 6)) 1 1 (sa w os).abs (blockOf (ea p) (yK p) (c0 p) qY [topFrame qY])=ak (.next,(sa w os).abs,c0 p,qY))
  (one:∀(w:br) (os:c6),Vk p L w (sa w os) k=ak (.next,mid w os,c0 p,po))
  (tests:∀(w:br) (os:c6),(ends p j w (mid w os) k po).map (fits p (d8 w.params))=ak ax)
  (Fp:∀(w:br) (os:c6),(ends p j w (mid w os) k po).map (λy=>openSeen q loose (importedModules p.main.body) Xt b y.abs)=ak (openGood q loose))
  (hook:∀(w:br) (os:c6),(ends p j w (mid w os) k po).map (λy=>Yf y.abs)=ak (Ya w)) :
  LeftO p q loose Xt Yf Ya N b:=by
 intro w;obtain⟨⟨m,n,o,tk,os⟩,g,a⟩:=AV.mp (boot_open plain h fence w);simp only[wU]at a;obtain⟨rfl,rfl,rfl,rfl⟩:=a;have bs:=aGB w;simp only[wU]at bs;obtain⟨y,U,i⟩:=AV.mp (tests w os);have d:=Fp w os;have c:=hook w os;rw[U]at d c;have f:=amO _ _ _ _ U;have B:=piece_app (segRun_of (one w os)) f;rw[sI]at B;have z:=go_top (pre w os) (piece_block (Kp w os) B);rw[boot_abs,l]at z;have e:topFrom du p w N ⟨d8 w.params,#[],boot_drawn,boot_toks,os⟩=ak y.abs:=by
  unfold topFrom;dsimp only;rw[bs.1,bs.2.1,bs.2.2,z];show(match fits p (d8 w.params) y with|true=>ak y.abs|false=>aq)=ak y.abs;rw[i]
 show((fencedOpening du p w N).bind (topFrom du p w N)).map _=_;rw[g,Option.bind_some,e,PV,iZ,wU];exact⟨nV d,nV c⟩
set_option maxRecDepth 100000
set_option compiler.extract_closed false
set_option genSizeOf false
set_option bootstrap.genMatcherCode false
set_option maxHeartbeats 0
noncomputable def auK(ds:ao a4)(l:ao bw):ao bw:=@List.rec bw (λ_=>a4->ao bw) (λ_=>[]) (λs _ f i=>@Bool.rec (λ_=>ao bw) (s::f (Nat.succ i)) (f (Nat.succ i)) (ds.any (Nat.beq i))) l 0
noncomputable def kept:bg:={PySem.Challenge.pw_rankpouch_k53_halves_bounds with main:={PySem.Challenge.pw_rankpouch_k53_halves_bounds.main with body:=auK [1,11,17,19,22,25] PySem.Challenge.pw_rankpouch_k53_halves_bounds.main.body} }
noncomputable def seenX(s:aw):bh:=xlAt kept [] s&&recOk (RowW.records (OpenRow.toRowW (OpenLaw.row PySem.Challenge.rw_rankpouch_k53_halves_bounds))) s
noncomputable def bd(i:a4):bw:=PySem.Challenge.pw_rankpouch_k53_halves_bounds.main.body.getD i (.Pass qY)
def em:ar:=SS "rankpouch.errors" 194
noncomputable def mid(w:br)(os:c6):et:=Bj w os ((bt w).take 3++gl w em [en w "_wall" 193 (.ref 21),en w "RankError" 213 (.ref 31),en w "NoRow" 238 (.ref 51),en w "NoPlace" 254 (.ref 63),en w "NoPouch" 279 (.ref 82),en w "NoSize" 295 (.ref 94),en w "Wrong" 320 (.ref 113),en w "NoTimes" 336 (.ref 125),en w "Unlike" 352 (.ref 137),en w "NoText" 377 (.ref 156)] 19::(bt w).drop 4++hd4 [nn 1,nn 0,.ref 20,nn 5,nn 0,.ref 27,nn 7,nn 0,.ref 40,nn 12,nn 0,.ref 59,nn 14,nn 0,.ref 71,nn 19,nn 0,.ref 90,nn 21,nn 0,.ref 102,nn 26,nn 0,.ref 121,nn 28,nn 0,.ref 133,nn 30,nn 0,.ref 145]++kW (bd 0)++kR w em "RankError" 5 22 196 [.ref 51,.ref 63,.ref 82,.ref 94,.ref 113,.ref 125,.ref 137,.ref 156]++kB w em "NoRow" "at" (inClass (bd 3) 0) 31 7 9 35 214++kA w em "NoPlace" 31 12 54 239++kB w em "NoPouch" "at" (inClass (bd 5) 0) 31 14 16 66 255++kA w em "NoSize" 31 19 85 280++kB w em "Wrong" "at" (inClass (bd 7) 0) 31 21 23 97 296++kA w em "NoTimes" 31 26 116 321++kA w em "Unlike" 31 28 128 337++kB w em "NoText" "row" (inClass (bd 10) 0) 31 30 32 140 353) 159 378
noncomputable def po:dg:=⟨30,0,34,22⟩
theorem said:OpenLaw.wellSaid PySem.Challenge.rw_rankpouch_k53_halves_bounds=ax:=by kernel_rfl
theorem plain:opening PySem.Challenge.pw_rankpouch_k53_halves_bounds=plainProg PySem.Challenge.pw_rankpouch_k53_halves_bounds.main.scope.names:=by kernel_rfl
theorem fence(s:aw):fenceModules? PySem.Challenge.pw_rankpouch_k53_halves_bounds s=ak s:=by kernel_rfl
theorem pre(w:br)(os:c6):topGo du PySem.Challenge.pw_rankpouch_k53_halves_bounds w 11 (ak (.ref 6)) 12 (boot w os).abs (topStub PySem.Challenge.pw_rankpouch_k53_halves_bounds)=ak ((sa w os).abs,⟨denote du (c0 PySem.Challenge.pw_rankpouch_k53_halves_bounds),c0 PySem.Challenge.pw_rankpouch_k53_halves_bounds,qY,[topFrame qY]⟩):=by kernel_rfl
theorem Kp(w:br)(os:c6):segRun du PySem.Challenge.pw_rankpouch_k53_halves_bounds w 11 (ak (.ref 6)) 1 1 (sa w os).abs (blockOf (ea PySem.Challenge.pw_rankpouch_k53_halves_bounds) (yK PySem.Challenge.pw_rankpouch_k53_halves_bounds) (c0 PySem.Challenge.pw_rankpouch_k53_halves_bounds) qY [topFrame qY])=ak (.next,(sa w os).abs,c0 PySem.Challenge.pw_rankpouch_k53_halves_bounds,qY):=by kernel_rfl
theorem one(w:br)(os:c6):Vk PySem.Challenge.pw_rankpouch_k53_halves_bounds 2057 w (sa w os) 11=ak (.next,mid w os,c0 PySem.Challenge.pw_rankpouch_k53_halves_bounds,po):=by kernel_rfl
theorem tests(w:br)(os:c6):(ends PySem.Challenge.pw_rankpouch_k53_halves_bounds 5414 w (mid w os) 11 po).map (fits PySem.Challenge.pw_rankpouch_k53_halves_bounds (d8 w.params))=ak ax:=by kernel_rfl
theorem Fp(w:br)(os:c6):(ends PySem.Challenge.pw_rankpouch_k53_halves_bounds 5414 w (mid w os) 11 po).map (λy=>openSeen kept [] (importedModules PySem.Challenge.pw_rankpouch_k53_halves_bounds.main.body) seenX ax y.abs)=ak (openGood kept []):=by kernel_rfl
end HD
open PySem PySem.W PyProof.Rows
local macro_rules
 | `(tactic| o_head $H) => `(tactic| refine holds_open (q := HD.kept) (loose := []) (N := 7484) (Xt := HD.seenX)
   (XP := XL HD.kept []) (Yf := Hook.obs $H) (Ya := Hook.val $H) (YP := Hook.says $H)
   ?_ (Hook.of $H) (Hook.keeps $H) (fun s e => xl_of s (Bool.and_eq_true_iff.mp e).1) XL.keeps
   (by rfl) (by rfl) (by rfl) (fun s e => recFacts_of (Bool.and_eq_true_iff.mp e).2)
   (by rfl) (by assumption) (by decide +kernel) ⟨rfl, rfl, rfl, rfl, rfl, by decide +kernel⟩ ?_ ?_)
set_option maxRecDepth 100000 in
set_option maxHeartbeats 0 in
theorem PySem.Challenge.cw_rankpouch_k53_halves_bounds_holds : PySem.Challenge.rw_rankpouch_k53_halves_bounds.Holds := by
 w_on
 refine holds_law HD.said λsaid=>?_
 k_head
 ·clear said
  refine HD.left HD.plain (by kernel_rfl) (by kernel_rfl) HD.fence HD.pre HD.Kp HD.one HD.tests HD.Fp ?_
  intro w os
  kernel_rfl
 ·clear said
  w_witness2
 clear said
 k_fill
 refine Pb.walk (l:=PySem.Challenge.rw_rankpouch_k53_halves_bounds) rfl rfl (λw h ρ=>PySem.W.kIn_of ρ) ?F
 case F =>
  as_aux_lemma =>
   intro w mg fa h KX G MX
   refine' Pb.all_mk KX G MX ?_ ?_ ?_ ?_ ⟨qZ KX G ?_,qZ KX G ?_,qZ KX G ?_,qZ KX G ?_,qZ KX G ?_,qZ KX G ?_,qZ KX G ?_,qZ KX G ?_,qZ KX G ?_,qZ KX G ?_,qZ KX G ?_,qZ KX G ?_,qZ KX G ?_,qZ KX G ?_,qZ KX G ?_⟩ (L2.iU KX G ?_ ?_ ?_ ?_) (L2.iU KX G ?_ ?_ ?_ ?_) (L2.iU KX G ?_ ?_ ?_ ?_) (L2.iU KX G ?_ ?_ ?_ ?_) (L2.iU KX G ?_ ?_ ?_ ?_) (L2.iU KX G ?_ ?_ ?_ ?_) (L2.iU KX G ?_ ?_ ?_ ?_) (L2.iU KX G ?_ ?_ ?_ ?_) (L2.iU KX G ?_ ?_ ?_ ?_) (L2.iU KX G ?_ ?_ ?_ ?_) (L2.iU KX G ?_ ?_ ?_ ?_) (L2.iU KX G ?_ ?_ ?_ ?_) (L2.iU KX G ?_ ?_ ?_ ?_) (L2.iU KX G ?_ ?_ ?_ ?_) (L2.iU KX G ?_ ?_ ?_ ?_) (L2.iU KX G ?_ ?_ ?_ ?_) (L2.iU KX G ?_ ?_ ?_ ?_) (L2.iU KX G ?_ ?_ ?_ ?_) (L2.iU KX G ?_ ?_ ?_ ?_) (L2.iU KX G ?_ ?_ ?_ ?_) (L2.iU KX G ?_ ?_ ?_ ?_) (L2.iU KX G ?_ ?_ ?_ ?_) (L2.iU KX G ?_ ?_ ?_ ?_) (L2.iU KX G ?_ ?_ ?_ ?_) (L2.iU KX G ?_ ?_ ?_ ?_) (L2.iU KX G ?_ ?_ ?_ ?_) (L2.iU KX G ?_ ?_ ?_ ?_) (L2.iU KX G ?_ ?_ ?_ ?_) (V2.aEN KX G ?_) ?_ ?_ ?_ ?_ ?_ ?_ ?_ ?_ ?_ ?_ ?_ ?_ ?_ ?_ ?_ ?_ ?_ ?_ ?_ ?_ ?_ ?_ ?_ ?_ ?_ ?_ ?_ ?_ ?_ ?_ ?_ ?_ ?_ ?_ ?_ ?_ ?_ ?_ ?_ ?_ ?_ ?_ ?_ ?_ ?_ ?_ ?_ ?_ ?_ ?_ ?_ ?_ ?_ ?_ ?_ ?_ ?_ ?_ ?_ ?_ ?_ ?_ ?_ ?_ ?_ ?_ ?_ ?_ ?_ ?_ ?_ ?_ ?_ ?_ ?_ ?_ ?_ ?_ ?_ ?_ ?_ ?_ ?_ ?_ ?_ ?_ ?_ ?_ ?_ ?_ ?_ ?_ ?_ (V2.Xf KX G ?_ ?_) (V2.Xf KX G ?_ ?_) ?_ ⟨?_,?_,?_,?_⟩ ?_ ?_ ?_ ?_ ?_ ?_ ?_ ?_ ?_ ?_ ?_ (V2.asZ ?_ ?_ ?_ ?_ ?_ ?_) (V2.mJ ?_ ?_ ?_ ?_ ?_) (V2.mJ ?_ ?_ ?_ ?_ ?_) (V2.mJ ?_ ?_ ?_ ?_ ?_) (V2.mJ ?_ ?_ ?_ ?_ ?_) (V2.mJ ?_ ?_ ?_ ?_ ?_) (V2.mJ ?_ ?_ ?_ ?_ ?_) (V2.mJ ?_ ?_ ?_ ?_ ?_) (V2.awJ ?_ ?_ ?_ ?_ ?_ ?_ ?_) (V2.mJ ?_ ?_ ?_ ?_ ?_) (V2.mJ ?_ ?_ ?_ ?_ ?_) (V2.mJ ?_ ?_ ?_ ?_ ?_) (V2.mJ ?_ ?_ ?_ ?_ ?_) (V2.mJ ?_ ?_ ?_ ?_ ?_) (V2.mJ ?_ ?_ ?_ ?_ ?_) (V2.mJ ?_ ?_ ?_ ?_ ?_) (V2.mJ ?_ ?_ ?_ ?_ ?_) (V2.mJ ?_ ?_ ?_ ?_ ?_) (V2.mJ ?_ ?_ ?_ ?_ ?_) (V2.mJ ?_ ?_ ?_ ?_ ?_) (V2.mJ ?_ ?_ ?_ ?_ ?_) (V2.mJ ?_ ?_ ?_ ?_ ?_) (V2.aG3 KX G ?_ ?_ ?_ ?_ ?_ ?_ ?_) <;> try first|k_is|kernel_rfl|k_exc
