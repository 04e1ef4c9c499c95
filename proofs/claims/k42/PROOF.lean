import PyProof.Rows.All
import KE.IntTextLaws
import KE.KIsAll
import KE.KItemsList
import KE.KLam
import KE.KNestM
import KE.KRevIter
import KE.KSortTup
import KE.LcSums
import PySem.Challenge.RW_rankpouch_k42_gaps_joined
set_option Elab.async false
set_option linter.all false
set_option maxRecDepth 100000
set_option compiler.extract_closed false
set_option genSizeOf false
set_option bootstrap.genMatcherCode false
noncomputable section
open PySem renaming wpAny_bind->aM,wpAny_pure->bL,sizeLine_eq->oS,wpAny_mono->pZ,wpAny_newObj_type->uO,codeAny_mono->vN,wpAny_rule->vX,wpAny_ite_false->vY,wpAny_call_entry->vZ,wpAny_holding->xO,wpAny_Call_Name_kw->xP,wpAny_truthy_bool->zW,wpAny_setField_rec->zX,wpAny_setState_of->CH,wpAny_askSetting->CI,wpAny_setEntries_of->FW,wpAny_passesOwn->FX,wpAny_call->FY,wpAny_attempt->FZ,wpAny_fieldsOf->LB,wpAny_callSpecial?_slot->LC,codeAny_builtin->OO,call_meetsIn->OU,wpAny_field->RM,plainId_quiet->TL,wpAny_ite_true->ZG,wpAny_isInstance->ZH,wpAny_execs_nil->ZI,tupleKind_room_in1->Ag,fits_of_scanBound->Iw,wpAny_Call_method0_late->Qc
open PyProof.Rows renaming wpS_bind->bM,wpS_pure->dC,wpS_mono->oM,wpS_forRange->pY,wpS_get->xN,wpS_modify->FV,boot_isinstance->OX,get?_update_seq->VR,callWith_type1->XW
open List renaming map_cons->cP,getElem?_eq_some_iff->cY,mem_cons->dU,getElem?_eq_getElem->dZ,getElem?_set_ne->fF,getElem?_set_self->fN,mem_cons_of_mem->fS,length_cons->fT,length_append->iR,getElem?_append_left->iS,getElem?_map->jN,append_assoc->jX,mem_map->kW,size_toArray->lE,mem_append->lP,length_map->lQ,mem_singleton->mJ,sum_cons->mZ,mem_of_getElem?->nA,mem_append_right->nP,set_set->qT,mem_append_left->qU,getElem?_append_right->qV,nodup_cons->rY,append_nil->tG,pairwise_append->uH,map_nil->uI,drop_eq_getElem_cons->vV,take_append_drop->xC,map_append->xD,eq_nil_of_length_eq_zero->xE,not_mem_nil->zJ,nil_append->zK,map_map->zL,pairwise_cons->BW,length_nil->BX,getElem_of_mem->BY,perm_append_comm->FG,find?_cons->FH,ext_getElem?->FI,map_congr_left->JQ,lookup_cons->JR,length_take->JS,length_set->JT,getElem?_take->JU,getElem?_eq_none->JV,drop_length->JW,all_eq_true->JX,getElem_mem->QD,getElem?_cons_succ->QE,take_sublist->YD,nodup_append->YE,mem_map_of_mem->YF,take_zero->Mv,take_of_length_le->Mw,of_mem_zip->Mx,mem_filter->My,map_set->Mz,length_drop->Na,getElem_drop->Nb,filterMap_cons->Nc,any_cons->Nd,take_add_one->ad7,mem_of_mem_take->ad8,mem_of_find?_eq_some->ad9,length_filter_le->aeA,getElem?_take_of_lt->aeB,getElem?_drop->aeC,getElem?_cons_zero->aeD,flatten_cons->aeE,filter_sublist->aeF,length_filter_eq_length_iff->aCL
open Ne renaming symm->dM
open PySem.Heap renaming lt_size->eG,get?_push_of_some->eI,get?_push_size->gO,get?_update_other->tH,size_push->KI,get?_update_self->QM
open Nat renaming ne_of_lt->gF,lt_of_lt_of_le->mY,le_refl->qS,le_trans->rX,zero_add->zG,zero_le->BU,ne_of_gt->JF,le_succ->JG,lt_succ_self->XX,lt_succ_of_lt->XY,add_assoc->XZ,lt_or_ge->Mh,le_of_not_lt->Mi,le_of_lt->Mj
open Array renaming length_toList->gG,getElem?_toList->nB,toList_push->FU,getElem?_eq_some_iff->RJ,toList_extract->ZC,perm_iff_toList_perm->ZD,getElem?_eq_getElem->Pa,toList_append->aeS,getElem?_eq_none_iff->aeT
open _root_ renaming if_true->gT,if_false->gU,decide_eq_false->oH,getElem?_pos->pB,decide_eq_true->vM,or_false->yD,beq_eq_false_iff_ne->zE,decide_eq_true_eq->BN,beq_iff_eq->EW,decide_false->IL,decide_true->OM,decide_eq_false_iff_not->ON,of_decide_eq_true->Dz
open Bool renaming false_eq_true->kB,and_eq_true->rC,not_eq_true'->Ox,false_ne_true->Oy
open Option.some renaming inj->kJ,injEq->lD
open Int renaming le_refl->mK,le_trans->zN,toNat_natCast->KH,eq_ofNat_of_zero_le->QH,emod_lt_of_pos->QI,add_comm->QJ,zero_add->YI,mul_add->YJ,emod_nonneg->YK,le_of_lt->Np,le_of_eq->Nq
open List.cons renaming injEq->qW
open PySem.W renaming mg_none_of->tR
open Function renaming comp_def->zP
open Option renaming map_eq_some_iff->FD,map_some->JE,bind_eq_some_iff->Me,isSome_map->adU
open List.Perm renaming refl->FJ,append_left->JY
open PySem.Calls renaming spliced_cons->KY,spliced_nil->RH,callWith_builtin->RI,evalArgs_plain->aeO
open Prod.mk renaming injEq->PY
open Classical renaming choose_spec->YY
open PySem.Around renaming under_plainId->ZE
open PyProof.Rows.F renaming plain_set_update_loop->adQ,entry_set_update_loop->aBT
open Option renaming some->aq,none->av
open _root_ renaming List->ar,Option->ax,Int->a8,Nat->a9,Array->ba,if_pos->bb,if_neg->bc,Bool->bt,absurd->b8,False->cq,Decidable->cy,congrArg->c3,StateT->c8,String->dk,ForInStep->d7,beq_eq_false_iff_ne->eh
open PySem renaming Value->au,Shared->ay,Addr->az,sizeLine->bg,Str->bh,starEach->bj,mainGlobals->bo,Program->bp,model->bw,Around->bx,World->bz,Expr->b7,Heap->b9,Stmt->cb,eval->cg,compareOp->ck,attributeBase->cm,rawInt->cn,SetTable->cp,Scope->cu,backTo->cw,FuncData->cx,Obj->cz,binaryOp->c4,intKind->c5,Arguments->de,foldedSetIterable->df,bindArgs->dh,keywordEach->di,Pos->dj,behindInMarks->dm,assignEach->dn,NameKind->dr,sysModules->dy,bootBuiltins->dz,holding->d8,firstArgMember->d9,scanBound->ea,pyNext->ei,swapsWith->ez
open Bool renaming false->aw,true->a5
open PyProof.Rows renaming Keyed->bf,SortSt->bq,arrOf->br,pendingOf->cj,elem'->cv,envOfC->c6,IntsAre->c7,seqObj->c9,wpS_pure->da,SortKind->du,failedOf->dw,reverseSlice'->en,sortedHeap->eu,lo1->e7
open PySem.W renaming Frag->bu,findIn->dq,boot_heap->ee,keepIn->ek,fnOf->et,emptyDict->e4
theorem oIr{α:Sort _}{a:α}{q:Prop}:a=a\/q:=Or.inl rfl
theorem bC{α β j:Sort _}{f:α->β->j}:∀x y,f x y=f x y:=λ_ _=>rfl
theorem cX{n:a9}:n<=n:=qS n
theorem yK{n:a8}:n<=n:=mK n
theorem mB{α:Type _}{a:α}{l:ar α}:a∈a::l:=List.mem_cons_self ..
theorem AQ{n:a9}:0<=n:=BU n
open PySem.W (Frag OpenLaw callWith_K cellsFrom_some codeHdIn codeIn emptyDict envX findIn fnOf hasDictIn instObj isFn keepIn kia_one kitOne kla_fn kla_obj lookIn makesIn methodCall_KW methodObj mg_of mroIn noTabs nsIn plainGet plainGet_of specialIn tabIn tabObj takerIn takesIn)
namespace L2
open PySem PySem.Spec PyProof.Rows
abbrev Key:=Sum a8 bh
noncomputable def HG:Key->au->bt
 |.inl k,v=>Value.isInt k v
 |.inr x,v=>Value.isStrOf x v
noncomputable def arC(w:bz):Key->a8
 |.inl k=>hashInt k
 |.inr x=>hashStr w x
theorem vE:∀{k:Key} {v:au},HG k v=a5->(∃i t,k=Sum.inl i/\v=Value.int i t)\/(∃x t,k=Sum.inr x/\v=Value.str x t)
 |.inl i,v,h=>by
  obtain⟨t,e⟩:=Value.isInt_shape (k:=i) (v:=v) h;exact .inl ⟨i,t,rfl,e⟩
 |.inr x,v,h=>by
  obtain⟨t,e⟩:=Value.isStrOf_shape (x:=x) (v:=v) h;exact .inr ⟨x,t,rfl,e⟩
theorem arB(i:a8)(t:Tok):HG (.inl i) (.int i t)=a5:=by simp[HG,Value.isInt]
theorem arA(x:bh)(t:Tok):HG (.inr x) (.str x t)=a5:=by simp[HG,Value.isStrOf]
theorem aq9(a b:a8):decide ((Sum.inl a:Key)=Sum.inl b)=(a==b):=by
 by_cases e:a=b
 ·subst e;simp
 ·have h:¬(Sum.inl a:Key)=Sum.inl b:=λq=>e (Sum.inl.inj q);rw[oH h];exact(zE.mpr e).symm
theorem aq6(a b:bh):decide ((Sum.inr a:Key)=Sum.inr b)=decide (a=b):=by
 by_cases e:a=b
 ·subst e;simp
 ·have h:¬(Sum.inr a:Key)=Sum.inr b:=λq=>e (Sum.inr.inj q);rw[oH h,oH e]
theorem aq8(a:a8)(b:bh):decide ((Sum.inl a:Key)=Sum.inr b)=aw:=oH (λq=>nomatch q)
theorem aq7(a:bh)(b:a8):decide ((Sum.inr a:Key)=Sum.inl b)=aw:=oH (λq=>nomatch q)
def kF(prog:bp)(w:bz):PySem.KeyKind prog w Key where
 is:=HG
 hash:=arC w
 inj:=λv a b ha hb=>by
  rcases vE ha with⟨i,t,rfl,rfl⟩|⟨x,t,rfl,rfl⟩
  ·rcases vE hb with⟨j,u,rfl,e⟩|⟨y,u,rfl,e⟩
   ·injection e with q _;rw[q]
   ·exact nomatch e
  ·rcases vE hb with⟨j,u,rfl,e⟩|⟨y,u,rfl,e⟩
   ·exact nomatch e
   ·injection e with q _;rw[q]
 byValue:=λk v h=>by
  rcases vE h with⟨i,t,rfl,rfl⟩|⟨x,t,rfl,rfl⟩ <;> rfl
 pyHash:=λhv h=>by
  rcases vE hv with⟨i,t,rfl,rfl⟩|⟨x,t,rfl,rfl⟩
  ·exact wpAny_pyHash_int h
  ·exact wpAny_pyHash_str h
 eqBool:=λz hv h=>by
  rcases vE z with⟨i,t,rfl,rfl⟩|⟨x,t,rfl,rfl⟩
  ·rcases vE hv with⟨j,u,rfl,rfl⟩|⟨y,u,rfl,rfl⟩
   ·rw[aq9]at h;exact wpAny_eqBool_int h
   ·rw[aq8]at h;exact SeqAt.EqAt.int_str i t y u _ _ _ _ h
  ·rcases vE hv with⟨j,u,rfl,rfl⟩|⟨y,u,rfl,rfl⟩
   ·rw[aq7]at h;exact SeqAt.EqAt.str_int x t j u _ _ _ _ h
   ·rw[aq6]at h;exact wpAny_eqBool_str h
 «strs»:=λk x t v h=>by
  rcases vE h with⟨i,u,rfl,e⟩|⟨y,u,rfl,e⟩
  ·exact nomatch e
  ·injection e with q _;subst q;cases v <;> rfl
theorem apV(prog:bp)(w:bz)(i:a8)(t:Tok):(kF prog w).is (.inl i) (.int i t)=a5:=arB i t
theorem apU(prog:bp)(w:bz)(x:bh)(t:Tok):(kF prog w).is (.inr x) (.str x t)=a5:=arA x t
inductive V where
 |cZ|bl (b:bt)|int (i:a8)|str (x:bh)|WQ (b:ba UInt8)|EH (b:UInt64)|ref (a:az)|ty (n:dk)
 deriving DecidableEq
def RelV:V->au->Prop
 |.cZ,u=>u=Value.none
 |.bl b,u=>u=Value.bool b
 |.int i,u=>∃t,u=Value.int i t
 |.str x,u=>∃t,u=Value.str x t
 |.WQ b,u=>∃t,u=Value.bytes b t
 |.EH b,u=>∃t,u=Value.float b t
 |.ref a,u=>u=Value.ref a
 |.ty n,u=>u=Value.type n
abbrev Vals:ar V->ar au->Prop:=Paired RelV
theorem Vals.length{xs:ar V}{us:ar au}(r:Vals xs us):xs.length=us.length:=Paired.length r
theorem Vals.get:∀{xs:ar V} {us:ar au} {i:a9} {x:V},Vals xs us->xs[i]?=aq x->∃u,us[i]?=aq u/\RelV x u
 |_,_,_,_,.nil,e=>by simp at e
 |_,_,0,_,.cons r _,e=>by simp at e;subst e;exact⟨_,rfl,r⟩
 |_,_,i+1,x,.cons _ t,e=>by
  obtain⟨u,h1,h2⟩:=Vals.get (i:=i) (x:=x) t (by simpa using e);exact⟨u,by simpa using h1,h2⟩
theorem Vals.set{x:V}{u:au}(r:RelV x u):∀{xs:ar V} {us:ar au} (i:a9),Vals xs us->Vals (xs.set i x) (us.set i u)
 |_,_,_,.nil => .nil
 |_,_,0,.cons _ t => .cons r t
 |_,_,i+1,.cons q t => .cons q (Vals.set r i t)
theorem Vals.append:∀{xs ys:ar V} {us ws:ar au},Vals xs us->Vals ys ws->Vals (xs++ys) (us++ws)
 |_,_,_,_,.nil,s=>s
 |_,_,_,_,.cons r t,s => .cons r (Vals.append t s)
def nO:ax V->ax au->Prop
 |some v,aq u=>RelV v u
 |none,av=>True
 |_,_=>cq
def KV{κ:Type}:ar (κ×V)->ar (κ×au)->Prop:=Paired λ(p:κ×V) (q:κ×au)=>p.1=q.1/\RelV p.2 q.2
noncomputable def kV:Key->V
 |.inl i => .int i
 |.inr x => .str x
inductive HO where
 |lst (xs:ar V)
 |tup (xs:ar V)
 |dK (kvs:ar (Key×V))|dT (kvs:ar (ar Key×V))
 |set (S:a8->bt) (n:a9)
 |ins (C dx:az) (fs:ar (bh×V))
 |own (x:az)
 |xd (fs:ar (bh×V))
 |met (f x:az)
 |Df (lo hi:a8)
 |eU (o:cz) (u:HO)
 |jI (ps:ba au)
 |ext (φ:b9->Prop)
abbrev Hp:=az->ax HO
noncomputable def upd(H:Hp)(a:az)(o:HO):Hp:=λb=>if b=a then aq o else H b
theorem eA{H:Hp}{a:az}{o:HO}:upd H a o a=aq o:=by unfold upd;rw[bb rfl]
theorem bJ{H:Hp}{a b:az}{o:HO}(h:b≠a):upd H a o b=H b:=by unfold upd;rw[bc h]
theorem MJ{H:Hp}{a b:az}{o u:HO}(h:H a=aq o)(h':H b=aq u)(d:o≠u):a≠b:=by
 intro e;subst e;rw[h]at h';exact d (kJ h')
theorem iV{H:Hp}{a b:az}{o:HO}(h:H a=aq o)(h':H b=av):a≠b:=by
 intro e;subst e;rw[h]at h';cases h'
section
variable(P:bp)(w:bz)
def jF(H:Hp)(h:b9)(a:az):HO->Prop
 | .lst xs=>xs.length<=bg/\∃(j:ar au) (n:a9),Vals xs j/\h.get? a=aq {cls:=.type "list",data:=.seq j.toArray n}
 |.tup xs=>xs.length<=bg/\∃j:ar au,Vals xs j/\IsTup h a j.toArray
 |.dK kvs=>kvs.length<=bg/\(a==dy)=aw/\∃vs,KV kvs vs/\h.DictOf (kF P w) a vs
 |.dT kvs=>kvs.length<=bg/\(a==dy)=aw/\∃xs:ar (ar Key×az×au),
   Paired (λ(p:ar Key×V) (q:ar Key×az×au)=>p.1=q.1/\H q.2.1=aq (.tup (p.1.map kV))/\RelV p.2 q.2.2) kvs xs /\
   ∃o es ep,h.get? a=aq o/\o.ExactDict/\o.data=.dict es ep/\es.toList=xs.map (entryOfKey (tupleKind (kF P w)))/\(xs.map (·.1)).Nodup
 |.set S n=>h.SetOf (c5 P w) a S n
 |.ins C dx fs=>H dx=aq (.own a)/\fs.length<=1000/\dx≠a/\h.get? a=aq (instObj C dx) /\
   ∃mA,h.Ns1 dx mA/\(∀f,nO (fs.lookup f) (mA f))/\PySem.Within mA (fs.map (·.1))
 |.own _=>∃o,h.get? a=aq o
 |.xd fs=>∃mA,h.Ns1 a mA/\∀f,nO (fs.lookup f) (mA f)
 | .Df lo hi=>∃t u v,h.get? a=aq {cls:=.type "range",data:=.fields #[.int lo t,.int hi u,.int 1 v]}
 |.eU o u=>h.get? a=aq o/\jF H h a u
 |.jI ps=>h.get? a=aq {cls:=.none,data:=.fields ps}
 |.met f x=>h.get? a=aq (methodObj (.ref f) (.ref x))
 |.ext z=>z h/\(∃o,h.get? a=aq o)/\∀h1 h2:b9,z h1->(∀o,h1.get? a=aq o->h2.get? a=aq o)->z h2
def fU(H:Hp)(h:b9):Prop:=∀a o,H a=aq o->jF P w H h a o
end
section
variable{P:bp}{w:bz}{H H':Hp}{h h':b9}{a:az}{o:HO}
theorem jF.lt(x:jF P w H h a o):a<h.objs.size:=by
 cases o with
 |lst xs=>obtain⟨_,_,_,_,e⟩:=x;exact eG e
 |tup xs=>obtain⟨_,_,_,p⟩:=x;exact p.lt
 |dK j=>obtain⟨_,_,_,_,o,_,_,e,_⟩:=x;exact eG e
 |dT j=>obtain⟨_,_,_,_,o,_,_,e,_⟩:=x;exact eG e
 |set S n=>obtain⟨o,_,_,_,e,_⟩:=x;exact eG e
 |ins C N fs=>obtain⟨_,_,_,e,_⟩:=x;exact eG e
 |own y=>obtain⟨_,e⟩:=x;exact eG e
 |xd fs=>obtain⟨_,⟨_,_,_,e,_⟩,_⟩:=x;exact eG e
 |Df lo hi=>obtain⟨_,_,_,e⟩:=x;exact eG e
 |eU B u=>obtain⟨e,_⟩:=x;exact eG e
 |jI z=>exact eG (show h.get? a=aq _ from x)
 |met f y=>exact eG (show h.get? a=aq _ from x)
 |ext q=>obtain⟨_,⟨_,e⟩,_⟩:=x;exact eG e
theorem Paired.Em{α β:Type}{F G:α->β->Prop}:∀{q:ar α} {j:ar β},Paired F q j->(∀a b,F a b->G a b)->Paired G q j
 |_,_,.nil,_ => .nil
 |_,_,.cons r t,f => .cons (f _ _ r) (Paired.Em t f)
theorem jF.oR(x:jF P w H h a o)(k:∀b u,(b=a\/H b=aq (.own a))->h.get? b=aq u->h'.get? b=aq u)
  (A:∀b,H b=aq (.own a)->H' b=aq (.own a)) (s:∀b xs,H b=aq (.tup xs)->H' b=aq (.tup xs)):jF P w H' h' a o:=by
 induction o with
 |lst xs=>obtain⟨z,i,n,r,e⟩:=x;exact⟨z,i,n,r,k _ _ (.inl rfl) e⟩
 |tup xs=>obtain⟨z,i,r,j,e,c⟩:=x;exact⟨z,i,r,j,k _ _ (.inl rfl) e,c⟩
 |dK g=>obtain⟨z,y,m,r,j,es,B,e,c⟩:=x;exact⟨z,y,m,r,j,es,B,k _ _ (.inl rfl) e,c⟩
 |dT g =>
  obtain⟨z,y,xs,r,j,es,B,e,c⟩:=x;exact⟨z,y,xs,Paired.Em r λp q z=>⟨z.1,s _ _ z.2.1,z.2.2⟩,j,es,B,k _ _ (.inl rfl) e,c⟩
 |set S n=>obtain⟨j,es,B,t,e,c⟩:=x;exact⟨j,es,B,t,k _ _ (.inl rfl) e,c⟩
 |ins C F fs =>
  obtain⟨d,z,ne,e,U,⟨N,es,B,D,c⟩,r⟩:=x;exact⟨A _ d,z,ne,k _ _ (.inl rfl) e,U,⟨N,es,B,k _ _ (.inr d) D,c⟩,r⟩
 |own y=>obtain⟨j,e⟩:=x;exact⟨j,k _ _ (.inl rfl) e⟩
 |xd fs=>obtain⟨U,⟨N,es,B,e,c⟩,r⟩:=x;exact⟨U,⟨N,es,B,k _ _ (.inl rfl) e,c⟩,r⟩
 |Df lo hi=>obtain⟨t,u,v,e⟩:=x;exact⟨t,u,v,k _ _ (.inl rfl) e⟩
 |eU j u ih=>obtain⟨e,q⟩:=x;exact⟨k _ _ (.inl rfl) e,ih q⟩
 |jI l =>
  have e:h.get? a=aq {cls:=.none,data:=.fields l}:=x;show h'.get? a=aq {cls:=.none,data:=.fields l};exact k a _ (.inl rfl) e
 |met f y =>
  have e:h.get? a=aq (methodObj (.ref f) (.ref y)):=x;show h'.get? a=aq (methodObj (.ref f) (.ref y));exact k a _ (.inl rfl) e
 |ext E=>obtain⟨p,⟨o,e⟩,st⟩:=x;exact⟨st _ _ p λo q=>k _ _ (.inl rfl) q,⟨o,k _ _ (.inl rfl) e⟩,st⟩
theorem fU.lt(x:fU P w H h)(e:H a=aq o):a<h.objs.size:=(x a o e).lt
theorem fU.fresh(x:fU P w H h)(e:h.objs.size<=a):H a=av:=by
 cases q:H a with
 |none=>rfl
 |some u=>exact b8 (mY (x.lt q) e) (Nat.lt_irrefl _)
theorem fU.kept(x:fU P w H h)(k:∀b u,h.get? b=aq u->h'.get? b=aq u):fU P w H h':=λa o e =>
 (x a o e).oR (λb u _ q=>k b u q) (λ_ q=>q) λ_ _ q=>q
theorem fU.laid(x:fU P w H h)(k:∀b u,h.get? b=aq u->h'.get? b=aq u)(j:h.objs.size<=a)(new:jF P w (upd H a o) h' a o):fU P w (upd H a o) h':=λb u e=>by
 have hn:=x.fresh j
 by_cases hb:b=a
 ·subst hb;rw[eA]at e;cases e;exact new
 ·rw[bJ hb]at e;exact(x b u e).oR (λc v _ q=>k c v q) (λc q=>by rw[bJ (iV q hn)];exact q) λc xs q=>by rw[bJ (iV q hn)];exact q
end
def Rd(H:Hp)(a:az)(u:HO):Prop:=H a=aq u\/∃o,H a=aq (.eU o u)
theorem Rd.ok{P:bp}{w:bz}{H:Hp}{h:b9}{a:az}{u:HO}(r:Rd H a u)(x:fU P w H h):jF P w H h a u:=by
 rcases r with r|⟨o,r⟩
 ·exact x a u r
 ·obtain⟨_,q⟩:=x a _ r;exact q
def QB:ax HO->Prop
 |some (.lst _)=>True
 |some (.dK _)=>True
 |some (.dT _)=>True
 |some (.set _ _)=>True
 |some (.ins _ _ _)=>True
 |some (.ext _)=>True
 |_=>cq
section
variable{P:bp}{w:bz}{H:Hp}{h h':b9}{x e:az}{o':HO}
theorem fU.write(ok:fU P w H h)(j:QB (H x))(he:e=x\/H e=aq (.own x))(k:∀b u,b≠e->h.get? b=aq u->h'.get? b=aq u)(f:∃u,h'.get? e=aq u)
  (new:jF P w (upd H x o') h' x o'):fU P w (upd H x o') h':=λb u q=>by
 have d:∀c y,H c=aq (.own y)->c≠x:=λc y r z=>by subst z;rw[r]at j;exact j
 have U:∀c xs,H c=aq (.tup xs)->c≠x:=λc xs r z=>by subst z;rw[r]at j;exact j
 by_cases hb:b=x
 ·subst hb;rw[eA]at q;cases q;exact new
 ·rw[bJ hb]at q
  by_cases N:b=e
  ·have a:H b=aq (.own x):=by
    rcases he with z|z
    ·exact b8 (N.trans z) hb
    ·rw[N];exact z
   rw[q]at a;cases a;obtain⟨v,hv⟩:=f;exact⟨v,by rw[N];exact hv⟩
  ·refine(ok b u q).oR (λc v B r=>k c v ?_ r) (λc r=>by rw[bJ (d c b r)];exact r) λc xs r=>by rw[bJ (U c xs r)];exact r
   rcases B with rfl|B
   ·exact N
   ·rintro rfl
    rcases he with z|z
    ·exact d c b B z
    ·rw[B]at z;cases z;exact hb rfl
end
structure Un(fs ex:ar az)(H H':Hp)(h h':b9):Prop where
 keep:∀b o,h.get? b=aq o->H b=av->b∉fs->b∉ex->h'.get? b=aq o
 slot:∀b o,h.get? b=aq o->H b=av->b∈fs->b∉ex->∃sl,h'.get? b=aq {o with slots:=sl}
 free:∀b o,h.get? b=aq o->H b=av->b∉ex->H' b=av
 there:∀b o,h.get? b=aq o->b∉ex->∃o',h'.get? b=aq o'
 oP:∀b xs,H b=aq (.tup xs)->H' b=aq (.tup xs)
 mV:∀b o u,H b=aq (.eU o u)->H' b=aq (.eU o u)
 nT:∀b ps,H b=aq (.jI ps)->∃more,H' b=aq (.jI (ps++more))
section
variable{fs iO ex ex':ar az}{H H1 H2:Hp}{h h1 h2 h':b9}{a x e:az}{o:HO}
theorem Un.any(u:Un fs ex H H1 h h1){b:az}{j:cz}(q:h.get? b=aq j)(n:H b=av)(z:b∉ex):∃sl,h1.get? b=aq {j with slots:=sl}:=by
 by_cases hb:b∈fs
 ·exact u.slot b j q n hb z
 ·exact⟨j.slots,u.keep b j q n hb z⟩
theorem Un.trans(a:Un fs ex H H1 h h1)(b:Un fs ex H1 H2 h1 h2):Un fs ex H H2 h h2 where
 keep:=λc j q n N z=>b.keep c j (a.keep c j q n N z) (a.free c j q n z) N z
 slot:=λc j q n N z=>by
  obtain⟨sl,B⟩:=a.slot c j q n N z;obtain⟨i,d⟩:=b.slot c _ B (a.free c j q n z) N z;exact⟨i,d⟩
 free:=λc j q n z=>by
  obtain⟨U,B⟩:=a.there c j q z;exact b.free c U B (a.free c j q n z) z
 there:=λc j q z=>by
  obtain⟨U,B⟩:=a.there c j q z;exact b.there c U B z
 oP:=λc xs q=>b.oP c xs (a.oP c xs q)
 mV:=λc j xs q=>b.mV c j xs (a.mV c j xs q)
 nT:=λc e q=>by
  obtain⟨g,B⟩:=a.nT c e q;obtain⟨f,d⟩:=b.nT c _ B;exact⟨g++f,by rw[d,Array.append_assoc]⟩
theorem Un.kept(k:∀b u,h.get? b=aq u->h'.get? b=aq u):Un fs ex H H h h' :=
 ⟨λb j q _ _ _=>k b j q,λb j q _ _ _=>⟨j.slots,k b j q⟩,λ_ _ _ n _=>n,λb j q _=>⟨j,k b j q⟩,λ_ _ q=>q,λ_ _ _ q=>q,λ_ z q=>⟨#[],by rw[q];simp⟩⟩
theorem Un.refl:Un fs ex H H h h:=Un.kept λ_ _ q=>q
theorem Un.laid(k:∀b u,h.get? b=aq u->h'.get? b=aq u)(j:h.objs.size<=a)(hn:H a=av):Un fs ex H (upd H a o) h h' where
 keep:=λb u q _ _ _=>k b u q
 slot:=λb u q _ _ _=>⟨u.slots,k b u q⟩
 free:=λb u q n _=>by rw[bJ (gF (mY (eG q) j))];exact n
 there:=λb u q _=>⟨u,k b u q⟩
 oP:=λb xs q=>by rw[bJ (iV q hn)];exact q
 mV:=λb u xs q=>by rw[bJ (iV q hn)];exact q
 nT:=λb z q=>⟨#[],by rw[bJ (iV q hn),q];simp⟩
theorem Un.write(j:QB (H x))(he:e=x\/H e=aq (.own x))(k:∀b u,b≠e->h.get? b=aq u->h'.get? b=aq u)(U:∃u,h'.get? e=aq u):Un fs ex H (upd H x o) h h':=by
 have B:∀b,H b=av->b≠x:=λb n z=>by subst z;rw[n]at j;exact j
 have hb:∀b,H b=av->b≠e:=λb n z=>by
  subst z
  rcases he with r|r
  ·exact B b n r
  ·rw[n]at r;cases r
 have hm:∀b u,H b=aq u->¬QB (aq u)->b≠x:=λb u q nm z=>by subst z;rw[q]at j;exact nm j
 refine⟨λb u q n _ _=>k b u (hb b n) q,λb u q n _ _=>⟨u.slots,k b u (hb b n) q⟩,λb u q n _=>by rw[bJ (B b n)];exact n,λb u q _=>?_,
  λb xs q=>by rw[bJ (hm b _ q λz=>z)];exact q,λb u xs q=>by rw[bJ (hm b _ q λz=>z)];exact q,λb a q=>⟨#[],by rw[bJ (hm b _ q λz=>z),q];simp⟩⟩
 by_cases N:b=e
 ·subst N;exact U
 ·exact⟨u,k b u N q⟩
theorem Un.mono(u:Un fs ex H H1 h h1)(N:∀b∈fs,b∈iO)(B:∀b∈ex,b∈ex'):Un iO ex' H H1 h h1 :=
 ⟨λb j q n hb he=>u.keep b j q n (λz=>hb (N b z)) λz=>he (B b z),λ_ _ q n _ he=>u.any q n λz=>he (B _ z),λb j q n he=>u.free b j q n λz=>he (B b z),λb j q he=>u.there b j q λz=>he (B b z),u.oP,u.mV,u.nT⟩
end
noncomputable def RY(h:b9)(H:Hp):ar az:=(List.range h.objs.size).filter λa=>(H a).isSome
def wN(h:b9)(H:Hp):b9:=PySem.W.hideAll h (RY h H)
theorem auB(h:b9)(H:Hp):(wN h H).objs.size=h.objs.size:=PySem.W.hideAll_size _ _
theorem auC{h:b9}{H:Hp}{b:az}{o:cz}(e:h.get? b=aq o)(n:H b=av):(wN h H).get? b=aq o :=
 PySem.W.hideAll_get _ e λhm=>by
  have q:(H b).isSome=a5:=(My.mp hm).2;rw[n]at q;simp at q
theorem aoK{h:b9}{H:Hp}{b:az}{o:cz}(e:(wN h H).get? b=aq o):h.get? b=aq o/\H b=av:=by
 have j:h.get? b=aq o:=PySem.W.of_hideAll (RY h H) e;refine⟨j,?_⟩;cases q:H b with
 |none=>rfl
 |some x =>
  have hm:b∈RY h H:=My.mpr ⟨List.mem_range.mpr (eG j),by simp[q]⟩;have z:(wN h H).get? b=av:=PySem.W.hideAll_none (RY h H) hm;rw[z]at e;cases e
structure Mod(K:bu)(mg:bh->ax au)(base:b9):Prop where
 tT:K.In base
 glob:base.Ns bo mg
 blt:∃mb,base.Ns builtinsNs mb/\∀x:bh,x≠"__name__"->mb x=dz x
 nolimit:base.NoLimit
structure Cx where
 prog:bp
 w:bz
 K:bu
 mg:bh->ax au
 base:b9
 A:bx
 N:ar bh
 s₀:ay
 H₀:Hp
 env:Env
 outer:ar Env
 stack:ar Env
 ex:ar az
 fn:bh->bt
 calm:bt
 pn:ar (az×cz)
 xe:au->ay->Prop
noncomputable def jD(l:ar Env):ar az:=l.filterMap (·.frame)
abbrev Cx.fs(X:Cx):ar az:=jD X.outer
def PQ(sc:cu)(x:bh):Prop:=sc.names.lookup x=aq .local\/sc.names.lookup x=aq .cell\/sc.names.lookup x=aq .free
def Loc(sc:cu)(x:bh):Prop:=sc.names.lookup x=aq .local\/sc.names.lookup x=aq .cell
def Look(env:Env)(h:b9)(m:bh->ax au)(x:bh)(u:au):Prop :=
 (env.kindOf x=aq .local/\m x=aq u)\/((env.kindOf x=aq .cell\/env.kindOf x=aq .free)/\∃c,env.cells.lookup x=aq c/\h.IsCell c (aq u))
structure Cx.Ok(X:Cx):Prop where
 mod:Mod X.K X.mg X.base
 kind:X.env.scope.kind=.function
 glob:X.env.globals=bo
 blt:X.env.builtins=builtinsNs
 above:X.s₀.heap.objs.size<=X.env.locals
 inj:∀x y c,X.env.cells.lookup x=aq c->X.env.cells.lookup y=aq c->x=y
 has:∀x,(X.env.kindOf x=aq .cell\/X.env.kindOf x=aq .free)->∃c,X.env.cells.lookup x=aq c
 IP:∀x c,X.fn x=a5->X.env.cells.lookup x=aq c->X.s₀.heap.objs.size<=c
 hd:X.calm=a5->X.A.handled=av
 frames:X.A.frames=aq X.stack
 uV:X.stack=X.outer\/(X.stack=X.env::X.outer/\X.env.frame=aq X.env.locals)
 IF:∀b∈X.ex,b≠X.env.locals/\∀x c,X.env.cells.lookup x=aq c->c≠b
 bs:∀b o,X.base.get? b=aq o->X.s₀.heap.get? b=aq o/\X.H₀ b=av
 sX:X.base.objs.size<=X.s₀.heap.objs.size
 AO:∀b o,X.base.get? b=aq o->b∉X.ex
 EJ:∀b∈X.ex,b∉X.fs
 pS:X.s₀.heap.FunFrames X.base X.outer
 vL:∀b∈X.fs,X.H₀ b=av
structure Inv(X:Cx)(aa:ar (az×cz))(J:ar (ax V))(H:Hp)(s:ay):Prop where
 ok:X.Ok
 os:s.os=X.s₀.os
 bare:AllBare s.gens
 base:Un X.fs X.ex X.H₀ H X.s₀.heap s.heap
 loc:∃m,s.heap.Ns X.env.locals m/\∀(i:a9) (x:bh) (v:V),X.N[i]?=aq x->J[i]?=aq (aq v)->PQ X.env.scope x->∃u,RelV v u/\Look X.env s.heap m x u
 cell:∀x c,X.env.cells.lookup x=aq c->∃v,s.heap.IsCell c v
 free:H X.env.locals=av
 oG:∀x c,X.env.cells.lookup x=aq c->H c=av
 pin:∀p∈X.pn++aa,s.heap.get? p.1=aq p.2/\H p.1=av/\p.1≠X.env.locals/\p.1∉X.fs/\∀v,p.2.data≠.cell v
 aJ:fU X.prog X.w H s.heap
 len:J.length=X.N.length
section
variable{X:Cx}{aa:ar (az×cz)}{J:ar (ax V)}{H H':Hp}{s:ay}{h':b9}
theorem Cx.Ok.ao4(ok:X.Ok){b:az}{o:cz}(e:X.base.get? b=aq o):b∉X.fs:=λhb=>by
 have:=(ok.pS.mem hb).1;rw[e]at this;cases this
theorem Inv.bs(I:Inv X aa J H s):∀b o,X.base.get? b=aq o->s.heap.get? b=aq o/\H b=av:=λb o e =>
 ⟨I.base.keep b o (I.ok.bs b o e).1 (I.ok.bs b o e).2 (I.ok.ao4 e) (I.ok.AO b o e),I.base.free b o (I.ok.bs b o e).1 (I.ok.bs b o e).2 (I.ok.AO b o e)⟩
theorem Inv.bk(I:Inv X aa J H s):∀b o,X.base.get? b=aq o->s.heap.get? b=aq o:=λb o e=>(I.bs b o e).1
theorem Inv.mod(I:Inv X aa J H s):Mod X.K X.mg X.base:=I.ok.mod
theorem Inv.fZ(I:Inv X aa J H s):X.K.In s.heap:=I.ok.mod.tT.keeps I.bk
theorem Inv.nolimit(I:Inv X aa J H s):s.heap.NoLimit:=I.ok.mod.nolimit.keeps I.bk
theorem Inv.lt(I:Inv X aa J H s):X.env.locals<s.heap.objs.size:=let ⟨_,hn,_⟩:=I.loc;hn.lt
theorem Inv.sz(I:Inv X aa J H s):X.s₀.heap.objs.size<=s.heap.objs.size:=rX I.ok.above (Mj I.lt)
theorem Inv.ao2(I:Inv X aa J H s){a:az}(h:s.heap.objs.size<=a):a∉X.fs:=λhb=>by
 obtain⟨_,o,j,_⟩:=I.ok.pS.mem hb;exact b8 (mY (eG j) (rX I.sz h)) (Nat.lt_irrefl _)
theorem Inv.EO(I:Inv X aa J H s):∀x c,X.env.cells.lookup x=aq c->c≠X.env.locals:=λx c e z=>by
 obtain⟨v,o,j,hd⟩:=I.cell x c e;obtain⟨m,⟨N,es,U,q,B,_⟩,_⟩:=I.loc;rw[z,q]at j;cases j;rw[B]at hd;cases hd
theorem Inv.pS(I:Inv X aa J H s):s.heap.FunFrames X.base X.outer:=by
 have all:∀(l:ar Env),(∀b∈jD l,b∈X.fs)->X.s₀.heap.FunFrames X.base l->s.heap.FunFrames X.base l:=by
  intro l
  induction l with
  |nil=>intro _ _;trivial
  |cons env r ih =>
   intro j hl;obtain⟨B,⟨L,o,hf,hn,q,hd⟩,hr⟩:=hl;have hL:L∈X.fs:=j L (by unfold jD;rw[List.filterMap_cons,hf];exact List.mem_cons_self);obtain⟨sl,e⟩:=I.base.slot L o q (I.ok.vL L hL) hL λz=>I.ok.EJ L z hL;exact⟨B,⟨L,_,hf,hn,e,hd⟩,ih (λb hb=>j b (by unfold jD;rw[List.filterMap_cons,hf];exact List.mem_cons_of_mem _ hb)) hr⟩
 exact all X.outer (λ_ hb=>hb) I.ok.pS
theorem Inv.stack(I:Inv X aa J H s):s.heap.FunFrames X.base X.stack:=by
 rcases I.ok.uV with e|⟨e,hf⟩
 ·rw[e];exact I.pS
 ·rw[e];obtain⟨m,hn,_⟩:=I.loc;refine .cons (by rw[I.ok.kind];decide) hf hn ?_ I.pS;exact Heap.get?_none_of_le (rX I.ok.sX I.ok.above)
theorem Inv.LQ(I:Inv X aa J H s):∀b∈jD X.stack,b∈X.env.locals::X.fs:=λb hb=>by
 rcases I.ok.uV with e|⟨e,hf⟩
 ·rw[e]at hb;exact fS _ hb
 ·rw[e]at hb;unfold jD at hb;rw[Nc,hf]at hb;exact hb
theorem Inv.Ax(I:Inv X aa J H s):∀b∈jD X.stack,H b=av:=λb hb=>by
 rcases dU.mp (I.LQ b hb)with e|hb
 ·rw[e];exact I.free
 ·obtain⟨_,o,j,_⟩:=I.ok.pS.mem hb;exact I.base.free b o j (I.ok.vL b hb) λz=>I.ok.EJ b z hb
theorem Inv.step{g':ba GenState}{t':a9}{d':Drawn}{ch:ar az}(I:Inv X aa J H s)
  (U:∀b∈ch,(b∈X.ex\/X.s₀.heap.objs.size<=b)/\b≠X.env.locals/\(∀x c,X.env.cells.lookup x=aq c->c≠b)/\∀p∈X.pn++aa,p.1≠b)
  (keep:∀b o,b≠X.env.locals->b∉X.fs->b∉ch->s.heap.get? b=aq o->H b=av->h'.get? b=aq o)
  (slot:∀b o,b≠X.env.locals->b∈X.fs->b∉ch->s.heap.get? b=aq o->H b=av->∃sl,h'.get? b=aq {o with slots:=sl}) (free:∀b o,b∉ch->s.heap.get? b=aq o->H b=av->H' b=av)
  (there:∀b o,b∉ch->s.heap.get? b=aq o->∃o',h'.get? b=aq o')
  (oP:∀b xs,H b=aq (.tup xs)->H' b=aq (.tup xs)) (mV:∀b o u,H b=aq (.eU o u)->H' b=aq (.eU o u)) (nT:∀b ps,H b=aq (.jI ps)->∃more,H' b=aq (.jI (ps++more)))
  (ns:∀m,s.heap.Ns X.env.locals m->h'.Ns X.env.locals m) (aJ:fU X.prog X.w H' h') (E:AllBare g') :
  Inv X aa J H' {s with heap:=h',gens:=g',drawn:=d',toks:=t' }:=by
 have A:∀b o,X.s₀.heap.get? b=aq o->b≠X.env.locals:=λb o e=>gF (mY (eG e) I.ok.above);have g:∀b o,X.s₀.heap.get? b=aq o->b∉X.ex->b∉ch:=λb o e j hb=>by
  rcases(U b hb).1 with z|z
  ·exact j z
  ·exact b8 (mY (eG e) z) (Nat.lt_irrefl _)
 have cellK:∀x c,X.env.cells.lookup x=aq c->∀v,s.heap.IsCell c v->h'.IsCell c v:=λx c e v ⟨o,N,hd⟩=>by
  have f:c∉ch:=λz=>(U c z).2.2.1 x c e rfl
  by_cases y:c∈X.fs
  ·obtain⟨sl,q⟩:=slot c o (I.EO x c e) y f N (I.oG x c e);exact⟨_,q,hd⟩
  ·exact⟨o,keep c o (I.EO x c e) y f N (I.oG x c e),hd⟩
 refine⟨I.ok,I.os,E,⟨λb o e n hb j=>?_,λb o e n hb j=>?_,λb o e n j=>?_,λb o e j=>?_,λb xs e=>oP b xs (I.base.oP b xs e),λb o xs e=>mV b o xs (I.base.mV b o xs e),λb ps e=>?_⟩,?_,λx c e=>?_,?_,λx c e=>?_,λp t=>?_,aJ,I.len⟩
 ·exact keep b o (A b o e) hb (g b o e j) (I.base.keep b o e n hb j) (I.base.free b o e n j)
 ·obtain⟨sl,B⟩:=I.base.slot b o e n hb j;obtain⟨G,a⟩:=slot b _ (A b o e) hb (g b o e j) B (I.base.free b o e n j);exact⟨G,a⟩
 ·obtain⟨o',B⟩:=I.base.there b o e j;exact free b o' (g b o e j) B (I.base.free b o e n j)
 ·obtain⟨o',B⟩:=I.base.there b o e j;exact there b o' (g b o e j) B
 ·obtain⟨D,B⟩:=I.base.nT b ps e;obtain⟨C,a⟩:=nT b _ B;exact⟨D++C,by rw[a,Array.append_assoc]⟩
 ·obtain⟨m,hn,hl⟩:=I.loc;refine⟨m,ns m hn,λi x v B a F=>?_⟩;obtain⟨u,r,l⟩:=hl i x v B a F;refine⟨u,r,?_⟩
  rcases l with l|⟨k,c,e,z⟩
  ·exact .inl l
  ·exact .inr ⟨k,c,e,cellK x c e _ z⟩
 ·obtain⟨v,z⟩:=I.cell x c e;exact⟨v,cellK x c e v z⟩
 ·obtain⟨m,⟨o,_,_,N,_⟩,_⟩:=I.loc;exact free _ o (λz=>(U _ z).2.1 rfl) N I.free
 ·obtain⟨v,o,N,hd⟩:=I.cell x c e;exact free c o (λz=>(U c z).2.2.1 x c e rfl) N (I.oG x c e)
 ·obtain⟨e,n,ne,h,d⟩:=I.pin p t;have f:p.1∉ch:=λz=>(U p.1 z).2.2.2 p t rfl;exact⟨keep p.1 p.2 ne h f e n,free p.1 p.2 f e n,ne,h,d⟩
theorem Inv.un{t':a9}(I:Inv X aa J H s)(u:Un X.fs [] H H' s.heap h')(aJ:fU X.prog X.w H' h'):Inv X aa J H' {s with heap:=h',toks:=t' }:=by
 obtain⟨m,⟨o,es,c,q,r⟩,_⟩:=id I.loc;obtain⟨sl,hL⟩:=u.any q I.free (by simp);exact I.step (g':=s.gens) (d':=s.drawn) (ch:=[]) (λ_ z=>nomatch z) (λb o _ hb _ e n=>u.keep b o e n hb (by simp)) (λb o _ hb _ e n=>u.slot b o e n hb (by simp)) (λb o _ e n=>u.free b o e n (by simp)) (λb o _ e=>u.there b o e (by simp)) u.oP u.mV u.nT (λa hm=>by
  obtain⟨U,dY,N,j,B⟩:=hm;rw[q]at j;cases j;exact⟨_,dY,N,hL,B⟩) aJ I.bare
theorem Inv.call{g':ba GenState}{t':a9}{d':Drawn}{ch:ar az}(I:Inv X aa J H s)(u:Un (jD X.stack) ch H H' s.heap h')(aJ:fU X.prog X.w H' h')(a:AllBare g')
  (q:∀b∈ch,(b∈X.ex\/X.s₀.heap.objs.size<=b)/\b≠X.env.locals/\(∀x c,X.env.cells.lookup x=aq c->c≠b)/\∀p∈X.pn++aa,p.1≠b) :
  Inv X aa J H' {s with heap:=h',gens:=g',drawn:=d',toks:=t' }:=by
 obtain⟨m,⟨o,es,h,N,r⟩,_⟩:=id I.loc;obtain⟨sl,hL⟩:=u.any N I.free λz=>(q _ z).2.1 rfl;exact I.step (ch:=ch) q (λb o hL hb j e n=>u.keep b o e n (λz=>(dU.mp (I.LQ b z)).elim hL hb) j) (λb o _ _ j e n=>u.any e n j) (λb o j e n=>u.free b o e n j) (λb o j e=>u.there b o e j) u.oP u.mV u.nT (λg hm=>by
  obtain⟨f,dY,d,B,U⟩:=hm;rw[N]at B;cases B;exact⟨_,dY,d,hL,U⟩) aJ a
theorem Inv.turned{t':a9}{it:az}(I:Inv X aa J H s)(k:∀b o,b≠it->s.heap.get? b=aq o->h'.get? b=aq o)(hn:H it=av)(hL:it≠X.env.locals)
  (h1:it∈X.ex\/X.s₀.heap.objs.size<=it) (h2:∀x c,X.env.cells.lookup x=aq c->c≠it) (U:∀p∈X.pn++aa,p.1≠it):Inv X aa J H {s with heap:=h',toks:=t' }:=by
 have B:∀b u,H b=aq u->b≠it:=λb u e z=>by rw[z,hn]at e;cases e
 refine I.step (g':=s.gens) (d':=s.drawn) (ch:=[it]) (λb hb=>?_) (λb o _ _ j e _=>k b o (λz=>j (by simp[z])) e) (λb o _ _ j e _=>⟨o.slots,k b o (λz=>j (by simp[z])) e⟩) (λ_ _ _ _ n=>n)
  (λb o j e=>⟨o,k b o (λz=>j (by simp[z])) e⟩) (λ_ _ e=>e) (λ_ _ _ e=>e) (λb d e=>⟨#[],by rw[e];simp⟩) (λm hm=>?_) (λb u e=>?_) I.bare
 ·have e:b=it:=by simpa using hb
  subst e;exact⟨h1,hL,h2,U⟩
 ·obtain⟨o,es,a,N,r⟩:=hm;exact⟨o,es,a,k _ o (dM hL) N,r⟩
 ·refine(I.aJ b u e).oR (λc v j q=>k c v ?_ q) (λ_ q=>q) λ_ _ q=>q
  rcases j with z|z
  ·rw[z];exact B b u e
  ·exact B c _ z
theorem Inv.tok(I:Inv X aa J H s)(t:a9):Inv X aa J H {s with toks:=t}:=I.un (h':=s.heap) (t':=t) Un.refl I.aJ
theorem Inv.kept{t':a9}(I:Inv X aa J H s)(k:∀b u,s.heap.get? b=aq u->h'.get? b=aq u):Inv X aa J H {s with heap:=h',toks:=t' }:=I.un (Un.kept k) (I.aJ.kept k)
theorem Inv.laid{a:az}{o:HO}{t':a9}(I:Inv X aa J H s)(k:∀b u,s.heap.get? b=aq u->h'.get? b=aq u)(j:s.heap.objs.size<=a)(new:jF X.prog X.w (upd H a o) h' a o) :
  Inv X aa J (upd H a o) {s with heap:=h',toks:=t' }:=I.un (Un.laid k j (I.aJ.fresh j)) (I.aJ.laid k j new)
theorem Inv.write{x e:az}{o:HO}{t':a9}(I:Inv X aa J H s)(j:QB (H x))(he:e=x\/H e=aq (.own x))(k:∀b u,b≠e->s.heap.get? b=aq u->h'.get? b=aq u)(q:∃u,h'.get? e=aq u)
  (new:jF X.prog X.w (upd H x o) h' x o):Inv X aa J (upd H x o) {s with heap:=h',toks:=t' }:=I.un (Un.write j he k q) (I.aJ.write j he k q new)
theorem Inv.Dq{j:ar (az×cz)}(I:Inv X aa J H s)(h:∀p∈j,s.heap.get? p.1=aq p.2/\H p.1=av/\p.1≠X.env.locals/\p.1∉X.fs/\∀v,p.2.data≠.cell v):Inv X j J H s :=
 ⟨I.ok,I.os,I.bare,I.base,I.loc,I.cell,I.free,I.oG,λp q=>(lP.mp q).elim (λz=>I.pin p (qU _ z)) (h p),I.aJ,I.len⟩
theorem Vw{N:ar bh}(q:N.Nodup){i j:a9}{x:bh}(a:N[i]?=aq x)(b:N[j]?=aq x):i=j:=by
 obtain⟨h1,B⟩:=cY.mp a;obtain⟨h2,z⟩:=cY.mp b;exact(List.getElem_inj q).mp (B.trans z.symm)
theorem ah4{M:Model}{A:bx}{E:au->ay->Prop}{i:a9}{x:bh}{v:V}{u:au}{Q:Unit->ay->Prop}(I:Inv X aa J H s)(hN:X.N.Nodup)(hi:X.N[i]?=aq x)(g:Loc X.env.scope x)(r:RelV v u)
  (h:∀s',Inv X aa (J.set i (aq v)) H s'->(∃a,Heap.SameBut a s.heap s'.heap/\(a=X.env.locals\/X.env.cells.lookup x=aq a))->Q () s') (hf:X.fn x=a5\/X.env.scope.names.lookup x=aq .local:=by first|exact .inl rfl|exact .inr rfl|assumption):wpAny M A (storeName X.env x u) Q E s:=by
 obtain⟨m,hn,hl⟩:=id I.loc;have auW:(X.env.scope.kind == .class||(X.env.scope.kind == .module&&X.env.locals != X.env.globals))=aw:=by rw[I.ok.kind];rfl
 have Zd:i<J.length:=by rw[I.len];exact(cY.mp hi).1
 have EO:=I.EO;have tracked:∀{a:az} {h':b9},(∃o,s.heap.get? a=aq o/\H a=av)->Heap.SameBut a s.heap h'->fU X.prog X.w H h':=λ{a h'} ha B b ob e=>by
  obtain⟨_,_,HV⟩:=ha;refine(I.aJ b ob e).oR (λc D f q=>(B.2 c ?_).trans q) (λ_ q=>q) λ_ _ q=>q;rintro rfl
  rcases f with rfl|f
  ·rw[HV]at e;cases e
  ·rw[HV]at f;cases f
 rcases g with t|t
 ·refine wpAny_storeName_local t hn (λh' T B=>?_) auW;obtain⟨oL,_,_,yO,_⟩:=id hn;refine h _ ⟨I.ok,I.os,I.bare,⟨λb o e n hb g=>?_,λb o e n hb g=>?_,I.base.free,λb o e g=>?_,I.base.oP,I.base.mV,I.base.nT⟩,⟨_,T,λj y G U l W=>?_⟩,λy c e=>?_,I.free,I.oG,λp S=>?_,tracked ⟨oL,yO,I.free⟩ B,by simpa using I.len⟩ ⟨_,B,.inl rfl⟩
  ·exact(B.2 b (gF (mY (eG e) I.ok.above))).trans (I.base.keep b o e n hb g)
  ·obtain⟨sl,U⟩:=I.base.slot b o e n hb g;exact⟨sl,(B.2 b (gF (mY (eG e) I.ok.above))).trans U⟩
  ·obtain⟨P,U⟩:=I.base.there b o e g;exact⟨P,(B.2 b (gF (mY (eG e) I.ok.above))).trans U⟩
  ·by_cases C:j=i
   ·subst C;rw[hi]at U;cases U;rw[fN Zd]at l;cases l;exact⟨u,r,.inl ⟨t,by simp⟩⟩
   ·rw[fF (dM C)]at l;obtain⟨K,L,q⟩:=hl j y G U l W;refine⟨K,L,?_⟩
    rcases q with⟨k,e⟩|⟨k,c,e,z⟩
    ·refine .inl ⟨k,?_⟩;have:y≠x:=λe=>C (Vw hN U (e ▸ hi));simp[this,e]
    ·exact .inr ⟨k,c,e,z.sameBut B (EO y c e)⟩
  ·obtain⟨D,z⟩:=I.cell y c e;exact⟨D,z.sameBut B (EO y c e)⟩
  ·obtain⟨e,n,ne,R,d⟩:=I.pin p S;exact⟨(B.2 p.1 ne).trans e,n,ne,R,d⟩
 ·have Hg:X.fn x=a5:=by
   rcases hf with z|z
   ·exact z
   ·rw[z]at t;cases t
  obtain⟨c,f⟩:=I.ok.has x (.inl t);obtain⟨D,z⟩:=I.cell x c f;refine wpAny_storeName_cell I.ok.kind t f z (λh' wO B=>?_);obtain⟨oc,NH,atD⟩:=id z;refine h {s with heap:=h' } ⟨I.ok,I.os,I.bare,⟨λb o e n hb g=>?_,λb o e n hb g=>?_,I.base.free,λb o e g=>?_,I.base.oP,I.base.mV,I.base.nT⟩,⟨m,hn.sameBut B (dM (EO x c f)),λj y G U l W=>?_⟩,λy F e=>?_,I.free,I.oG,λp S=>?_,tracked ⟨oc,NH,I.oG x c f⟩ B,by simpa using I.len⟩ ⟨c,B,.inr f⟩
  ·exact(B.2 b (gF (mY (eG e) (I.ok.IP x c Hg f)))).trans (I.base.keep b o e n hb g)
  ·obtain⟨sl,U⟩:=I.base.slot b o e n hb g;exact⟨sl,(B.2 b (gF (mY (eG e) (I.ok.IP x c Hg f)))).trans U⟩
  ·obtain⟨P,U⟩:=I.base.there b o e g;exact⟨P,(B.2 b (gF (mY (eG e) (I.ok.IP x c Hg f)))).trans U⟩
  ·by_cases C:j=i
   ·subst C;rw[hi]at U;cases U;rw[fN Zd]at l;cases l;exact⟨u,r,.inr ⟨.inl t,c,f,wO⟩⟩
   ·rw[fF (dM C)]at l;obtain⟨K,L,q⟩:=hl j y G U l W;refine⟨K,L,?_⟩
    rcases q with q|⟨k,F,e,z'⟩
    ·exact .inl q
    ·refine .inr ⟨k,F,e,z'.sameBut B ?_⟩;rintro rfl;exact C (Vw hN U (I.ok.inj _ _ _ e f ▸ hi))
  ·by_cases Zs:F=c
   ·subst Zs;exact⟨_,wO⟩
   ·obtain⟨w2,z2⟩:=I.cell y F e;exact⟨w2,z2.sameBut B Zs⟩
  ·obtain⟨e,n,ne,R,d⟩:=I.pin p S;refine⟨(B.2 p.1 ?_).trans e,n,ne,R,d⟩;intro q;rw[q,NH]at e;have q':oc=p.2:=kJ e;exact d D (by rw[<-q'];exact atD)
theorem So{M:Model}{A:bx}{E:au->ay->Prop}{i:a9}{x:bh}{v:V}{u:au}{Q:Unit->ay->Prop}(I:Inv X aa J H s)(z:X.N.Nodup)(hi:X.N[i]?=aq x)(j:Loc X.env.scope x)(r:RelV v u)
  (h:∀s',Inv X aa (J.set i (aq v)) H s'->Q () s') (q:X.fn x=a5\/X.env.scope.names.lookup x=aq .local:=by first|exact .inl rfl|exact .inr rfl|assumption):wpAny M A (storeName X.env x u) Q E s :=
 ah4 I z hi j r (λs' B _=>h s' B) q
theorem Inv.OV{s':ay}{ch:ar az}(I:Inv X aa J H s)(z:s'.os=s.os)(u:Un (jD X.stack) ch H H' s.heap s'.heap)(aJ:fU X.prog X.w H' s'.heap)(B:AllBare s'.gens)
  (j:∀b∈ch,(b∈X.ex\/X.s₀.heap.objs.size<=b)/\b≠X.env.locals/\(∀x c,X.env.cells.lookup x=aq c->c≠b)/\∀p∈X.pn++aa,p.1≠b):Inv X aa J H' s':=by
 obtain⟨h',g',d',t',q⟩:=s';have e:q=s.os:=z;subst e;exact I.call (g':=g') (t':=t') (d':=d') u aJ B j
end
abbrev XK:=au->ax az->Hp->Prop
abbrev St:=ar (ax V)
abbrev VK:=V->Hp->Prop
abbrev TE:=St->Hp->VK->Prop
abbrev TT:=St->Hp->(bt->Hp->Prop)->Prop
abbrev TA:=St->Hp->(ar V->Hp->Prop)->Prop
structure Ends where
 nx:St->Hp->Prop
 rt:VK
 bk:St->Hp->Prop:=λ_ _=>cq
 ct:St->Hp->Prop:=λ_ _=>cq
abbrev TS:=Ends->St->Hp->Prop
def EP(X:Cx)(aa:ar (az×cz))(J:St)(Q:VK)(u:au)(s':ay):Prop:=∃v H',Inv X aa J H' s'/\RelV v u/\Q v H'
def TP(X:Cx)(aa:ar (az×cz))(J:St)(Q:bt->Hp->Prop)(b:bt)(s':ay):Prop:=∃H',Inv X aa J H' s'/\Q b H'
def AP(X:Cx)(aa:ar (az×cz))(J:St)(Q:ar V->Hp->Prop)(us:ar au)(s':ay):Prop:=∃vs H',Inv X aa J H' s'/\Vals vs us/\Q vs H'
def SP(X:Cx)(aa:ar (az×cz))(D:Ends)(f:Flow)(s':ay):Prop :=
 match f with
 |.next=>∃j H',Inv X aa j H' s'/\D.nx j H'
 |.brk=>∃j H',Inv X aa j H' s'/\D.bk j H'
 |.cont=>∃j H',Inv X aa j H' s'/\D.ct j H'
 |.ret u=>∃v j H',Inv X aa j H' s'/\RelV v u/\D.rt v H'
def PE(X:Cx)(e:b7)(t:TE):Prop :=
 ∀(aa:ar (az×cz)) (s:ay) (J:St) (H:Hp) (Q:VK),Inv X aa J H s->t J H Q->wpAny (bw X.prog X.w) X.A (cg e X.env) (EP X aa J Q) X.xe s
def PT(X:Cx)(e:b7)(t:TT):Prop :=
 ∀(aa:ar (az×cz)) (s:ay) (J:St) (H:Hp) (Q:bt->Hp->Prop),Inv X aa J H s->t J H Q->wpAny (bw X.prog X.w) X.A (isTrue e X.env (cg e X.env)) (TP X aa J Q) X.xe s
def PW(X:Cx)(e:b7)(t:TT):Prop :=
 ∀(whole:Sem au) (aa:ar (az×cz)) (s:ay) (J:St) (H:Hp) (Q:bt->Hp->Prop),Inv X aa J H s->t J H Q->wpAny (bw X.prog X.w) X.A (isTrue e X.env whole) (TP X aa J Q) X.xe s
theorem PW.pt{X:Cx}{e:b7}{t:TT}(h:PW X e t):PT X e t:=h _
def PA(X:Cx)(es:ar b7)(t:TA):Prop :=
 ∀(pos:dj) (aa:ar (az×cz)) (s:ay) (J:St) (H:Hp) (Q:ar V->Hp->Prop),Inv X aa J H s->t J H Q->wpAny (bw X.prog X.w) X.A (spliced (cw pos (bj es X.env))) (AP X aa J Q) X.xe s
def PS(X:Cx)(st:cb)(t:TS):Prop :=
 ∀(aa:ar (az×cz)) (s:ay) (J:St) (H:Hp) (D:Ends),Inv X aa J H s->t D J H->wpAny (bw X.prog X.w) X.A (exec st X.env) (SP X aa D) X.xe s
def tF(X:Cx)(st:ar cb)(t:TS):Prop :=
 ∀(aa:ar (az×cz)) (s:ay) (J:St) (H:Hp) (D:Ends),Inv X aa J H s->t D J H->wpAny (bw X.prog X.w) X.A (execs st X.env) (SP X aa D) X.xe s
theorem bI{α:Type}{t:Sem α}{Q j:α->ay->Prop}{M:Model}{A:bx}{E:au->ay->Prop}{s:ay}(h:wpAny M A t Q E s)(q:∀a s,Q a s->j a s):wpAny M A t j E s:=pZ h q λ_ _ x=>x
section
variable{X:Cx}
def Am(i:a9):TE:=λJ H Q=>∃v,J[i]?=aq (aq v)/\Q v H
def tC(v:V):TE:=λ_ H Q=>Q v H
theorem Ds{i:a9}{x:bh}{pos:dj}(U:X.N[i]?=aq x)(hv:PQ X.env.scope x)(hd:(x==("__debug__" : bh))=aw:=by decide)(B:(x==("__classdict__" : bh))=aw:=by decide):PE X (.Name x pos) (Am i):=by
 intro aa s J H Q I h;obtain⟨v,e,h⟩:=h;obtain⟨m,hn,hl⟩:=I.loc;obtain⟨u,r,l⟩:=hl i x v U e hv;have fin:EP X aa J Q u s:=⟨v,H,I,r,h⟩
 rcases l with⟨j,hm⟩|⟨j,c,q,z⟩
 ·exact wpAny_Name (wpAny_loadName_local I.ok.kind j hn hm fin) hd
 ·rcases j with j|j
  ·exact wpAny_Name (wpAny_loadName_cell I.ok.kind j q z fin) hd
  ·exact wpAny_Name (wpAny_loadName_free I.ok.kind j q z fin B) hd
theorem anB{i j pos}:PE X (.Constant (.int i) j pos) (tC (.int i)):=λ_ _ _ H _ I h=>wpAny_Constant_int ⟨.int i,H,I.tok _,⟨_,rfl⟩,h⟩
theorem anP{b j pos}:PE X (.Constant (.bool b) j pos) (tC (.bl b)):=λ_ _ _ H _ I h=>Constant_bool ⟨.bl b,H,I,rfl,h⟩
def Gl(X:Cx)(x:bh):Prop:=X.env.kindOf x=aq .globalImplicit
theorem HF{E:au->ay->Prop}{aa:ar (az×cz)}{s:ay}{J:St}{H:Hp}{x:bh}{u:au}{pos:dj}{Q:au->ay->Prop}(I:Inv X aa J H s)(j:Gl X x)(hm:X.mg x=aq u)(h:Q u s)
  (hd:(x==("__debug__" : bh))=aw:=by decide):wpAny (bw X.prog X.w) X.A (cg (.Name x pos) X.env) Q E s :=
 Calls.Name_function_global I.ok.kind j (Calls.loadGlobal_global (by rw[I.ok.glob];exact I.mod.glob.keeps I.bk) hm h) hd
theorem DL{E:au->ay->Prop}{aa:ar (az×cz)}{s:ay}{J:St}{H:Hp}{x:bh}{u:au}{pos:dj}{Q:au->ay->Prop}(I:Inv X aa J H s)(j:Gl X x)(hm:X.mg x=av)(hv:dz x=aq u)(h:Q u s)
  (hn:x≠"__name__":=by decide) (hd:(x==("__debug__" : bh))=aw:=by decide):wpAny (bw X.prog X.w) X.A (cg (.Name x pos) X.env) Q E s:=by
 obtain⟨mb,h1,h2⟩:=I.mod.blt;exact Calls.Name_function_global I.ok.kind j (Calls.loadGlobal_builtin (by rw[I.ok.glob];exact I.mod.glob.keeps I.bk) hm (by rw[I.ok.blt];exact h1.keeps I.bk) ((h2 x hn).trans hv) h) hd
theorem Vd{x:bh}{v:V}{u:au}{pos:dj}(j:Gl X x)(hm:X.mg x=aq u)(r:RelV v u)(hd:(x==("__debug__" : bh))=aw:=by decide):PE X (.Name x pos) (tC v) :=
 λ_ _ _ H _ I h=>HF I j hm ⟨v,H,I,r,h⟩ hd
theorem anO{x:bh}{v:V}{u:au}{pos:dj}(j:Gl X x)(hm:X.mg x=av)(hv:dz x=aq u)(r:RelV v u)(hn:x≠"__name__":=by decide)(hd:(x==("__debug__" : bh))=aw:=by decide):PE X (.Name x pos) (tC v) :=
 λ_ _ _ H _ I h=>DL I j hm hv ⟨v,H,I,r,h⟩ hn hd
variable{a b:b7}{ta tb:TE}{pos:dj}
def PC(X:Cx)(j:CmpOp)(a b:b7)(t:TE):Prop :=
 ∀(aa:ar (az×cz)) (s:ay) (J:St) (H:Hp) (Q:VK),Inv X aa J H s->t J H Q ->
  wpAny (bw X.prog X.w) X.A (cg a X.env) (λv s₁=>wpAny (bw X.prog X.w) X.A (cg b X.env) (λu s₂=>wpAny (bw X.prog X.w) X.A (ck j v u) (EP X aa J Q) X.xe s₂) X.xe s₁) X.xe s
def tB(t:TE):TT:=λJ H Q=>t J H λx H1=>∃c,x=.bl c/\Q c H1
theorem alZ{j:CmpOp}{t:TE}(h:PC X j a b t)(h1:dm j b=aw:=by first|exact N _ (by decide) (by decide)|rfl):PT X (.Compare a [j] [b] pos) (tB t):=by
 intro aa s J H Q I hw;refine wpAny_isTrue_Compare1 (bI (h aa s J H _ I hw) λv g h1=>bI h1 λu s2 h2=>bI h2 λc f ⟨x,e,U,z,B⟩=>?_) h1;obtain⟨d,rfl,q⟩:=B;cases z;exact zW ⟨e,U,q⟩
theorem alW{e:b7}{t:TE}(h:PE X e t)(he:∀whole,isTrue e X.env whole=(do let v<-whole;standAt e.pos;d8 [v] (truthy v)):=by intro _;rfl):PT X e (tB t):=by
 intro aa s J H Q I hw;refine isTrue_plain (bI (h aa s J H _ I hw) λv U ⟨x,N,B,j,z⟩=>?_) (he _);obtain⟨d,rfl,q⟩:=z;cases j;exact zW ⟨N,B,q⟩
variable{tA SK:TT}{af:ar b7}
def ah1(t u:TT):TT:=λJ H Q=>t J H λc H1=>if c=a5 then u J H1 Q else Q aw H1
def tOr(t u:TT):TT:=λJ H Q=>t J H λc H1=>if c=a5 then Q a5 H1 else u J H1 Q
def ahM(t:TT):TT:=λJ H Q=>t J H λc H1=>Q (!c) H1
theorem pw_and1(ha:PT X a tA):PW X (.BoolOp .And [a] pos) tA:=by
 intro j aa s J H Q I h;refine isTrue_and (bI (ha aa s J H Q I h) λc q e=>?_);cases c with
 |true=>exact isTrue_and_nil e
 |false=>exact e
theorem pw_or1(ha:PT X a tA):PW X (.BoolOp .Or [a] pos) tA:=by
 intro j aa s J H Q I h;refine isTrue_or (bI (ha aa s J H Q I h) λc q e=>?_);cases c with
 |false=>exact isTrue_or_nil e
 |true=>exact e
theorem pw_and(ha:PT X a tA)(hb:PW X (.BoolOp .And (b::af) pos) SK):PW X (.BoolOp .And (a::b::af) pos) (ah1 tA SK):=by
 intro B aa s J H Q I h;refine isTrue_and (bI (ha aa s J H _ I h) λc N ⟨z,q,j⟩=>?_);cases c with
 |true=>exact hb B aa N J z Q q j
 |false=>exact⟨z,q,j⟩
theorem pw_or(ha:PT X a tA)(hb:PW X (.BoolOp .Or (b::af) pos) SK):PW X (.BoolOp .Or (a::b::af) pos) (tOr tA SK):=by
 intro B aa s J H Q I h;refine isTrue_or (bI (ha aa s J H _ I h) λc N ⟨z,q,j⟩=>?_);cases c with
 |true=>exact⟨z,q,j⟩
 |false=>exact hb B aa N J z Q q j
theorem alX(ha:PT X a tA):PT X (.UnaryOp .Not a pos) (ahM tA):=by
 intro aa s J H Q I h;exact isTrue_not (ha aa s J H (λc j=>Q (!c) j) I h)
def ah0(ta tb:TE):TE:=λJ H Q=>ta J H λx H1=>∃c,x=.bl c/\if c=a5 then tb J H1 Q else Q (.bl aw) H1
def ahK(ta tb:TE):TE:=λJ H Q=>ta J H λx H1=>∃c,x=.bl c/\if c=a5 then Q (.bl a5) H1 else tb J H1 Q
theorem am1{j}{t:TE}(h:PE X a t):PE X (.BoolOp j [a] pos) t:=λaa s J H Q I hw=>BoolOp_one (h aa s J H Q I hw)
theorem anR(ha:PE X a ta)(hb:PE X (.BoolOp .And (b::af) pos) tb):PE X (.BoolOp .And (a::b::af) pos) (ah0 ta tb):=by
 intro aa s J H Q I h;refine BoolOp_and (bI (ha aa s J H _ I h) λv B ⟨x,z,q,N,j⟩=>?_);obtain⟨c,rfl,j⟩:=j;cases N;refine zW ?_;cases c with
 |true=>exact hb aa B J z Q q j
 |false=>exact⟨.bl aw,z,q,rfl,j⟩
theorem amZ(ha:PE X a ta)(hb:PE X (.BoolOp .Or (b::af) pos) tb):PE X (.BoolOp .Or (a::b::af) pos) (ahK ta tb):=by
 intro aa s J H Q I h;refine BoolOp_or (bI (ha aa s J H _ I h) λv B ⟨x,z,q,N,j⟩=>?_);obtain⟨c,rfl,j⟩:=j;cases N;refine zW ?_;cases c with
 |false=>exact hb aa B J z Q q j
 |true=>exact⟨.bl a5,z,q,rfl,j⟩
def tIf(t:TT)(ta tb:TE):TE:=λJ H Q=>t J H λc H1=>if c=a5 then ta J H1 Q else tb J H1 Q
theorem anC{c:b7}(N:PT X c tA)(ha:PE X a ta)(hb:PE X b tb):PE X (.IfExp c a b pos) (tIf tA ta tb):=by
 intro aa s J H Q I h;refine wpAny_IfExp (bI (N aa s J H _ I h) λd j ⟨B,z,q⟩=>?_);cases d with
 |true=>exact ha aa j J B Q z q
 |false=>exact hb aa j J B Q z q
end
def fW(K:bu)(H:Hp)(a:az)(xs:ar V):Prop :=
 Rd H a (.lst xs) \/
  ∃(o:cz) (j:ba au) (n:a9),K.lookup a=aq o/\o.cls=.type "list"/\o.dict=av/\o.data=.seq j n/\j.size<=bg/\Vals xs j.toList
def kI(K:bu)(H:Hp)(a:az)(xs:ar V):Prop :=
 Rd H a (.tup xs) \/
  ∃(o:cz) (j:ba au) (n:a9),K.lookup a=aq o/\o.cls=.type "tuple"/\o.data=.seq j n/\j.size<=bg/\Vals xs j.toList
noncomputable def aBP:au->ax V
 |.none=>aq .cZ
 |.bool b=>aq (.bl b)
 |.int i _=>aq (.int i)
 |.str x _=>aq (.str x)
 |.bytes b _=>aq (.WQ b)
 |.float b _=>aq (.EH b)
 |.ref a=>aq (.ref a)
 |.type n=>aq (.ty n)
 |_=>av
theorem RelV.abs{x:V}{u:au}(r:RelV x u):aBP u=aq x:=by
 cases x with
 |cZ=>cases r;rfl
 |bl _=>cases r;rfl
 |int _=>obtain⟨t,rfl⟩:=r;rfl
 |str _=>obtain⟨t,rfl⟩:=r;rfl
 |WQ _=>obtain⟨t,rfl⟩:=r;rfl
 |EH _=>obtain⟨t,rfl⟩:=r;rfl
 |ref _=>cases r;rfl
 |ty _=>cases r;rfl
theorem RelV.inj{x y:V}{u:au}(r:RelV x u)(q:RelV y u):x=y:=kJ (r.abs.symm.trans q.abs)
theorem Vals.inj:∀{xs ys:ar V} {us:ar au},Vals xs us->Vals ys us->xs=ys
 |_,_,_,.nil,.nil=>rfl
 |_,_,_,.cons r t,.cons q j=>by rw[r.inj q,Vals.inj t j]
section
variable{X:Cx}{aa:ar (az×cz)}{J:St}{H:Hp}{s:ay}{a:az}{xs ys:ar V}
theorem fW.of{K:bu}(h:H a=aq (.lst xs)):fW K H a xs:=.inl (.inl h)
theorem kI.of{K:bu}(h:H a=aq (.tup xs)):kI K H a xs:=.inl (.inl h)
theorem Inv.list(I:Inv X aa J H s)(h:fW X.K H a xs):∃j:ar au,Vals xs j/\PlainL s.heap a j.toArray/\xs.length<=bg:=by
 rcases h with h|⟨o,j,n,B,N,hd,q,U,r⟩
 ·obtain⟨z,j,n,r,e⟩:=h.ok I.aJ;exact⟨j,r,⟨_,n,e,rfl,rfl,rfl⟩,z⟩
 ·refine⟨j.toList,r,⟨o,n,I.fZ a o B,N,hd,by simpa using q⟩,?_⟩;have e:=r.length;simp only[gG]at e;omega
theorem Inv.tuple(I:Inv X aa J H s)(h:kI X.K H a xs):∃j:ar au,Vals xs j/\IsTup s.heap a j.toArray/\xs.length<=bg:=by
 rcases h with h|⟨o,j,n,B,N,q,U,r⟩
 ·obtain⟨z,j,r,p⟩:=h.ok I.aJ;exact⟨j,r,p,z⟩
 ·refine⟨j.toList,r,⟨o,I.fZ a o B,N,n,by simpa using q⟩,?_⟩;have e:=r.length;simp only[gG]at e;omega
theorem Inv.Wz(I:Inv X aa J H s)(h:fW X.K H a xs)(h':fW X.K H a ys):xs=ys:=by
 obtain⟨N,r,⟨o,n,e,_,_,d⟩,_⟩:=I.list h;obtain⟨j,z,⟨U,b,q,_,_,d'⟩,_⟩:=I.list h';rw[e]at q;cases q;rw[d]at d';injection d' with B _;have:N=j:=by simpa using c3 Array.toList B
 subst this;exact r.inj z
theorem Inv.agV(I:Inv X aa J H s)(h:kI X.K H a xs)(h':kI X.K H a ys):xs=ys:=by
 obtain⟨N,r,⟨o,e,_,n,d⟩,_⟩:=I.tuple h;obtain⟨j,z,⟨U,q,_,b,d'⟩,_⟩:=I.tuple h';rw[e]at q;cases q;rw[d]at d';injection d' with B _;have:N=j:=by simpa using c3 Array.toList B
 subst this;exact r.inj z
end
noncomputable abbrev Cx.uP(X:Cx)(E:au->ay->Prop):Cx:={X with xe:=E}
theorem Cx.Ok.uP{X:Cx}(ok:X.Ok)(E:au->ay->Prop):(X.uP E).Ok :=
 ⟨ok.mod,ok.kind,ok.glob,ok.blt,ok.above,ok.inj,ok.has,ok.IP,ok.hd,ok.frames,ok.uV,ok.IF,ok.bs,ok.sX,ok.AO,ok.EJ,ok.pS,ok.vL⟩
theorem Cx.Ok.xV{X:Cx}{E:au->ay->Prop}(ok:(X.uP E).Ok):X.Ok :=
 ⟨ok.mod,ok.kind,ok.glob,ok.blt,ok.above,ok.inj,ok.has,ok.IP,ok.hd,ok.frames,ok.uV,ok.IF,ok.bs,ok.sX,ok.AO,ok.EJ,ok.pS,ok.vL⟩
section
variable{X:Cx}{aa:ar (az×cz)}{J:St}{H:Hp}{s:ay}{E:au->ay->Prop}
theorem Inv.uP(I:Inv X aa J H s)(E:au->ay->Prop):Inv (X.uP E) aa J H s:=⟨I.ok.uP E,I.os,I.bare,I.base,I.loc,I.cell,I.free,I.oG,I.pin,I.aJ,I.len⟩
theorem Inv.xV(I:Inv (X.uP E) aa J H s):Inv X aa J H s:=⟨I.ok.xV,I.os,I.bare,I.base,I.loc,I.cell,I.free,I.oG,I.pin,I.aJ,I.len⟩
theorem SP.xV{D:Ends}{f:Flow}{s':ay}(h:SP (X.uP E) aa D f s'):SP X aa D f s':=by
 cases f with
 |next=>obtain⟨j,z,I,q⟩:=h;exact⟨j,z,I.xV,q⟩
 |brk=>obtain⟨j,z,I,q⟩:=h;exact⟨j,z,I.xV,q⟩
 |cont=>obtain⟨j,z,I,q⟩:=h;exact⟨j,z,I.xV,q⟩
 |ret u=>obtain⟨v,j,z,I,r,q⟩:=h;exact⟨v,j,z,I.xV,r,q⟩
end
section
variable{X:Cx}{st:cb}{af:ar cb}{t u:TS}{e:b7}{te:TE}{pos:dj}
def ahN:TS:=λD J H=>D.nx J H
def Rz(t u:TS):TS:=λD J H=>t {D with nx:=u D} J H
theorem al2:tF X [] ahN:=λ_ _ J H _ I h=>ZI ⟨J,H,I,h⟩
theorem al3(h1:PS X st t)(h2:tF X af u):tF X (st::af) (Rz t u):=by
 intro aa s J H D I h;refine wpAny_execs_cons (bI (h1 aa s J H {D with nx:=u D} I h) λf z q=>?_);cases f with
 |next =>
  obtain⟨j,N,B,q⟩:=q;exact h2 aa z j N D B q
 |ret v=>exact q
 |brk=>exact q
 |cont=>exact q
theorem al1(h1:PS X st t):tF X [st] t:=by
 intro aa s J H D I h;refine wpAny_execs_cons (bI (h1 aa s J H D I h) λf j q=>?_);cases f with
 |next=>exact ZI q
 |ret v=>exact q
 |brk=>exact q
 |cont=>exact q
theorem Inv.quiet{aa:ar (az×cz)}{J:St}{H:Hp}{s:ay}(I:Inv X aa J H s):interactive X.env=aw:=by simp[interactive,I.ok.kind]
def ahT(te:TE):TS:=λD J H=>te J H λ_ H1=>D.nx J H1
theorem amB(he:PE X e te)(q:ez e av pos.line X.env=pure aw:=by rfl):PS X (.Expr e pos) (ahT te):=by
 intro aa s J H D I h;exact wpAny_Expr_any (bI (he aa s J H _ I h) λv N ⟨x,B,z,U,j⟩=>⟨J,B,z,j⟩) I.quiet q
def ahJ(te:TE):TS:=λD J H=>te J H D.rt
theorem al6(he:PE X e te):PS X (.Return (aq e) pos) (ahJ te):=by
 intro aa s J H D I h;exact wpAny_Return_some (bI (he aa s J H _ I h) λv N ⟨x,B,z,j,q⟩=>⟨x,J,B,z,j,q⟩)
def ahR(c:TT)(t u:TS):TS:=λD J H=>c J H λb H1=>if b=a5 then t D J H1 else u D J H1
theorem al8{c:b7}{a b:ar cb}{tc:TT}(N:PT X c tc)(ha:tF X a t)(hb:tF X b u):PS X (.If c a b pos) (ahR tc t u):=by
 intro aa s J H D I h;refine wpAny_If (bI (N aa s J H _ I h) λd j ⟨B,z,q⟩=>?_);cases d with
 |true=>exact ha aa j J B D z q
 |false=>exact hb aa j J B D z q
def ahO:TS:=λ_ _ _=>cq
theorem al7:PS X st ahO:=λ_ _ _ _ _ _ h=>h.elim
end
abbrev TG:=V->St->Hp->(St->Hp->Prop)->Prop
abbrev BS:=ar V->St->Hp->(St->Hp->Prop)->Prop
def PG(X:Cx)(target:b7)(t:TG):Prop :=
 ∀(aa:ar (az×cz)) (s:ay) (J:St) (H:Hp) (v:V) (u:au) (Q:St->Hp->Prop),Inv X aa J H s->RelV v u->t v J H Q ->
  wpAny (bw X.prog X.w) X.A (assign target X.env u) (λ_ s'=>∃j H',Inv X aa j H' s'/\Q j H') X.xe s
def QA(X:Cx)(q:ar b7)(t:BS):Prop :=
 ∀(aa:ar (az×cz)) (s:ay) (J:St) (H:Hp) (vs:ar V) (us:ar au) (Q:St->Hp->Prop),Inv X aa J H s->Vals vs us->t vs J H Q ->
  wpAny (bw X.prog X.w) X.A (assignInOrder ((dn q X.env).map (·.2)) us) (λ_ s'=>∃j H',Inv X aa j H' s'/\Q j H') X.xe s
abbrev Md:=V->V->V->Hp->(Hp->Prop)->Prop
def adS(X:Cx)(t:Md):Prop :=
 ∀(aa:ar (az×cz)) (s:ay) (J:St) (H:Hp) (o i v:V) (j q u:au) (Q:Hp->Prop),Inv X aa J H s->RelV o j->RelV i q->RelV v u->t o i v H Q ->
  wpAny (bw X.prog X.w) X.A (setItem j q u) (λ_ s'=>∃H',Inv X aa J H' s'/\Q H') X.xe s
section
variable{X:Cx}{pos:dj}
def aaT(i:a9):TG:=λv J H Q=>Q (J.set i (aq v)) H
theorem amW{i:a9}{x:bh}(z:X.N.Nodup)(hi:X.N[i]?=aq x)(j:Loc X.env.scope x)(q:X.fn x=a5\/X.env.scope.names.lookup x=aq .local:=by first|exact .inl rfl|exact .inr rfl|assumption):PG X (.Name x pos) (aaT i):=by
 intro aa s J H v u Q I r h;exact wpAny_assign_Name (So I z hi j r (λs' B=>⟨_,H,B,h⟩) q)
def aw4:BS:=λvs J H Q=>vs=[]/\Q J H
def aw8(t:TG)(u:BS):BS:=λvs J H Q=>∃v r,vs=v::r/\t v J H λj H'=>u r j H' Q
theorem amR:QA X [] aw4:=by
 intro aa s J H j q Q I r h;obtain⟨e,h⟩:=h;subst e;cases r;exact assignInOrder_nil ⟨J,H,I,h⟩
theorem amS{e:b7}{es:ar b7}{t:TG}{u:BS}(h1:PG X e t)(h2:QA X es u)
  (N:(dn (e::es) X.env).map (·.2)=assign e X.env::(dn es X.env).map (·.2):=by rfl):QA X (e::es) (aw8 t u):=by
 intro aa s J H c f Q I r h;obtain⟨v,d,U,h⟩:=h;subst U;cases r with
 |cons r z =>
  rw[N];refine assignInOrder_cons (bI (h1 aa s J H _ _ _ I r h) λ_ q ⟨j,b,a,B⟩=>?_);exact h2 aa q j b _ _ Q a z B
def aw2(K:bu)(n:a9)(t:BS):TG:=λv J H Q=>∃a xs,v=.ref a/\kI K H a xs/\xs.length=n/\t xs J H Q
theorem amU{es:ar b7}{k:a9}{t:BS}{n:a9}(c:X.calm=a5)(h:QA X es t)
  (hn:(dn es X.env).length=n:=by rfl) (z:(dn es X.env).findIdx? (·.1)=av:=by rfl):PG X (.Tuple es k pos) (aw2 X.K n t):=by
 intro aa s J H v u Q I r hw;obtain⟨a,q,d,U,hl,hw⟩:=hw;subst d;cases r;obtain⟨i,j,N,g⟩:=I.tuple U;refine assign_Tuple_tuple (I.ok.hd c) N (by simp[hn,<-hl,j.length]) z λh' B=>?_;have f:Inv X aa J H {s with heap:=h' }:=I.kept (t':=s.toks) λb o e=>B b o (gF (eG e)) e;exact h aa _ J H q _ Q f (by simpa using j) hw
noncomputable def nN(to j:TE)(t:Md):TG:=λv J H Q=>to J H λo H1=>j J H1 λi H2=>t o i v H2 λq=>Q J q
theorem amV{o i:b7}{to z:TE}{t:Md}(e:PE X o to)(hi:PE X i z)(d:adS X t)
  (ha:∀v,assign (.Subscript o i pos) X.env v=(do
   let j<-d8 [v] (cg o X.env)
   let q<-d8 [v,j] (cg i X.env)
   standAt pos
   d8 [v,j,q] (setItem j q v)
   release [v,j,q] []):=by intro _;rfl):PG X (.Subscript o i pos) (nN to z t):=by
 intro aa s J H v u Q I r h;rw[ha];refine aM (xO (bI (e aa s J H _ I h) λj B ⟨x,n,k,U,c⟩=>?_));refine aM (xO (bI (hi aa B J n _ k c) λq s2 ⟨y,m,g,N,b⟩=>?_));refine aM (wpAny_standAt (aM (xO (bI (d aa s2 J m x y v j q u _ g U N r b) λ_ p ⟨l,f,a⟩=>?_))));exact wpAny_release ⟨J,l,f,a⟩
def Au(te:TE)(g:TG):TS:=λD J H=>te J H λx H1=>g x J H1 D.nx
theorem amD{tg e:b7}{te:TE}{g:TG}(he:PE X e te)(U:PG X tg g)(N:swapsWithSole [tg] e pos.line X.env=pure aw:=by rfl)(hw:swappedStores [tg] e X.env=pure av:=by rfl)
  (h1:(dn [tg] X.env).map (·.2)=[assign tg X.env]:=by rfl):PS X (.Assign [tg] e pos) (Au te g):=by
 intro aa s J H D I h;refine wpAny_Assign_stores (bI (he aa s J H _ I h) λv j ⟨x,b,a,z,B⟩=>?_) N hw;rw[h1];exact bI (U aa j J b x v _ a z B) λ_ s2 q=>q
theorem al5{i:a9}{x:bh}{e:b7}{te:TE}{pos':dj}(a:X.N.Nodup)(hi:X.N[i]?=aq x)(z:Loc X.env.scope x)(he:PE X e te)(B:ez e (aq (.Name x pos')) pos.line X.env=pure aw:=by rfl)(U:X.fn x=a5\/X.env.scope.names.lookup x=aq .local:=by first|exact .inl rfl|exact .inr rfl|assumption) :
  PS X (.Assign [.Name x pos'] e pos) (Au te (aaT i)):=by
 intro aa s J H D I h;refine wpAny_Assign_Name (bI (he aa s J H _ I h) λv f ⟨y,d,c,j,q⟩=>?_) B;exact So c a hi z j (λs2 b=>⟨_,d,b,q⟩) U
def Ry(c:TT)(tb:TS):TS:=λD J H=>∃W:a9->St->Hp->Prop,(∃m,W m J H)/\∀m J H,W m J H ->
 c J H λb H1=>if b=a5 then ∃N:St->Hp->Prop,(∀j H',N j H'->∃q,q<m/\W q j H')/\tb {D with nx:=N,ct:=N,bk:=D.nx} J H1 else D.nx J H1
theorem al4{c:b7}{body:ar cb}{tc:TT}{tb:TS}(k:PassesOwn (bw X.prog X.w) X.A X.env X.xe)(C:PT X c tc)(hb:tF X body tb):PS X (.While c body [] pos) (Ry tc tb):=by
 intro aa s J H D I h;obtain⟨W,⟨y,u⟩,turn⟩:=h;refine wpAny_While (codeAny_whileLoop (λn s'=>∃z r,Inv X aa z r s'/\W n z r) ?_ y ⟨J,H,I,u⟩);rintro n x ⟨q,p,E,t⟩;refine FX k (bI (C aa x q p _ E (turn n q p t)) λb s2 ⟨o,m,a⟩=>?_);cases b with
 |true =>
  obtain⟨N,l,a⟩:=a;rw[bb rfl];refine FX k (bI (hb aa s2 q o _ m a) λf F U=>?_);cases f with
  |next =>
   obtain⟨j,B,i,e⟩:=U;obtain⟨g,hm,d⟩:=l j B e;exact⟨g,hm,j,B,i,d⟩
  |cont =>
   obtain⟨j,B,i,e⟩:=U;obtain⟨g,hm,d⟩:=l j B e;exact⟨g,hm,j,B,i,d⟩
  |brk=>exact U
  |ret v=>exact U
 |false =>
  rw[bc Oy];exact ZI ⟨q,o,m,a⟩
end
structure It where
 go:a9->Hp->Prop
 CG:a9->Hp->V->Hp->Prop
 stop:a9->Hp->Prop
def qY(X:Cx)(aa:ar (az×cz))(H:Hp)(b:az):Prop :=
 H b=av/\b≠X.env.locals/\b∉X.fs/\(b∈X.ex\/X.s₀.heap.objs.size<=b)/\(∀x c,X.env.cells.lookup x=aq c->c≠b)/\∀p∈X.pn++aa,p.1≠b
theorem Inv.wR{X:Cx}{aa:ar (az×cz)}{J:St}{H H':Hp}{s:ay}{b:az}(I:Inv X aa J H s)(hb:s.heap.objs.size<=b)(hn:H' b=av):qY X aa H' b:=by
 refine⟨hn,JF (mY I.lt hb),I.ao2 hb,.inr (rX I.sz hb),λx c e z=>?_,λp j z=>?_⟩
 ·obtain⟨v,q⟩:=I.cell x c e;exact b8 (mY q.lt (by rw[z];exact hb)) (Nat.lt_irrefl _)
 ·exact b8 (mY (eG (I.pin p j).1) (by rw[z];exact hb)) (Nat.lt_irrefl _)
structure Turn(P:bp)(w:bz)(K:bu)(tg:b7)(σ:It)(fp:ar az)(it:az)(tn:a9->b9->Prop):Prop where
 mem:it∈fp
 obj:∀i h,tn i h->∀b∈fp,∃o,h.get? b=aq o/\∀v,o.data≠.cell v
 keep:∀i h h',tn i h->(∀b∈fp,∀o,h.get? b=aq o->h'.get? b=aq o)->tn i h'
 item:∀(X:Cx),X.prog=P->X.w=w->X.K=K->X.calm=a5->∀(i:a9) (aa:ar (az×cz)) (s:ay) (J:St) (H:Hp) (E:au->ay->Prop),Inv X aa J H s->(∀b∈fp,qY X aa H b)->tn i s.heap->σ.go i H ->
  wpAny (bw P w) X.A (ei (.ref it)) (λr s1=>∃u,r=aq u /\
   wpAny (bw P w) X.A (letOwnedTupleGo tg (.ref it) u) (λ_ s2=>∃x H',Inv X aa J H' s2/\RelV x u/\σ.CG i H x H'/\tn (i+1) s2.heap/\∀b∈fp,H' b=av) E s1) E s
 done:∀(X:Cx),X.prog=P->X.w=w->X.K=K->X.calm=a5->∀(i:a9) (aa:ar (az×cz)) (s:ay) (J:St) (H:Hp) (E:au->ay->Prop),Inv X aa J H s->(∀b∈fp,qY X aa H b)->tn i s.heap->σ.stop i H ->
  wpAny (bw P w) X.A (ei (.ref it)) (λr s1=>r=av/\Inv X aa J H s1) E s
 self:∀(A:bx) (i:a9) (s:ay) (Q:au->ay->Prop) (E:au->ay->Prop),tn i s.heap->Q (.ref it) s->wpAny (bw P w) A (pyIter (.ref it)) Q E s
abbrev TI:=St->Hp->(It->Hp->Prop)->Prop
def PIE(X:Cx)(aa:ar (az×cz))(J:St)(tg:b7)(R:It->Hp->Prop)(q:au)(s2:ay):Prop :=
 ∃(j:az) (fp:ar az) (tn:a9->b9->Prop) (σ:It) (H':Hp),q=.ref j/\Inv X aa J H' s2/\Turn X.prog X.w X.K tg σ fp j tn/\tn 0 s2.heap/\(∀b∈fp,qY X aa H' b)/\R σ H'
def PI(X:Cx)(tg iter:b7)(j:TI):Prop :=
 ∀(aa:ar (az×cz)) (s:ay) (J:St) (H:Hp) (R:It->Hp->Prop),Inv X aa J H s->j J H R ->
  wpAny (bw X.prog X.w) X.A (cg iter X.env) (λv q=>wpAny (bw X.prog X.w) X.A (pyIter v) (PIE X aa J tg R) X.xe q) X.xe s
theorem Ii{M:Model}{A:bx}{E:au->ay->Prop}{s:ay}{tg:b7}{q:az}{u:au}{o:cz}{n:dk}{vs:ba au}{Q:Unit->ay->Prop}(z:s.heap.get? q=aq o)(B:o.cls=.type n)(hd:o.data=.fields vs)
  (hn:["enumerate", "zip", "dict_itemiterator", "dict_reverseitemiterator", "odict_iterator", "itertools.zip_longest", "itertools.pairwise"].contains n=aw) (j:Q () s):wpAny M A (letOwnedTupleGo tg (.ref q) u) Q E s:=by
 unfold letOwnedTupleGo;cases tg <;> first
  |exact bL j
  | (cases u <;> first
    |exact bL j
    | (refine aM (wpAny_load z ?_)
       rw[B,hd];show wpAny M A (if(["enumerate", "zip", "dict_itemiterator", "dict_reverseitemiterator", "odict_iterator", "itertools.zip_longest", "itertools.pairwise"].contains n&&vs[0]? == aq (cn _))=a5 then _ else _) Q E s;rw[bc (by intro h;rw[hn,Bool.false_and]at h;cases h)];exact bL j))
noncomputable def Nk(K:bu)(a:az):It :=
 ⟨λi H=>∃xs x,fW K H a xs/\xs[i]?=aq x,λi H x H'=>H'=H/\∀xs,fW K H a xs->xs[i]?=aq x,λi H=>∃xs,fW K H a xs/\xs.length<=i⟩
noncomputable def Nj(K:bu)(a:az):It :=
 ⟨λi H=>∃xs x,kI K H a xs/\xs[i]?=aq x,λi H x H'=>H'=H/\∀xs,kI K H a xs->xs[i]?=aq x,λi H=>∃xs,kI K H a xs/\xs.length<=i⟩
noncomputable def YG(lo:a8)(n:a9):It:=⟨λi _=>i<n,λi H x H'=>H'=H/\x=.int (lo+i),λi _=>n<=i⟩
theorem agR{P:bp}{w:bz}{K:bu}{tg:b7}(a j:az):Turn P w K tg (Nk K a) [j] j (λi h=>h.IsListIter j a i)where
 mem:=by simp
 obj:=λi h st b hb=>by
  have e:b=j:=by simpa using hb
  subst e;obtain⟨o,e,c,d⟩:=st;exact⟨o,e,λv z=>by rw[d]at z;cases z⟩
 keep:=λi h h' st k=>st.at λo e=>k j (by simp) o e
 item:=by
  intro X g hw l A i aa s J H E I B st f;subst g hw l;obtain⟨D,x,q,U⟩:=f;obtain⟨R,N,p,G⟩:=I.list q;obtain⟨u,M,F⟩:=N.get U;obtain⟨y,t,f2,r,n,m⟩:=B j (by simp);refine wpAny_pyNext_list_item st p.isList (x:=u) (by simpa using M) λh' C sb=>?_;have S:Inv X aa J H {s with heap:=h' }:=I.turned (t':=s.toks) (λb o hb e=>(sb.2 b hb).trans e) y t r n m;obtain⟨o,e,c,d⟩:=id C;exact⟨u,rfl,Ii (s:={s with heap:=h' }) e c d (by decide) ⟨x,H,S,F,⟨rfl,λT L=>by rw[I.Wz L q];exact U⟩,C,λb hb=>(B b hb).1⟩⟩
 done:=by
  intro X g hw l A i aa s J H E I B st f;subst g hw l;obtain⟨D,q,U⟩:=f;obtain⟨R,N,p,G⟩:=I.list q;obtain⟨y,t,f2,r,n,m⟩:=B j (by simp);have hl:=N.length;exact wpAny_pyNext_list_end (I.ok.hd A) st p.isList (by simp;omega) λh' Q=>⟨rfl,I.turned (t':=s.toks) (λb o hb e=>Q b o hb e) y t r n m⟩
 self:=λ_ _ _ _ _ st h=>wpAny_pyIter_listiter st h
theorem agP{P:bp}{w:bz}{K:bu}{tg:b7}(a j:az):Turn P w K tg (Nj K a) [j] j (λi h=>h.IsTupleIter j a i)where
 mem:=by simp
 obj:=λi h st b hb=>by
  have e:b=j:=by simpa using hb
  subst e;obtain⟨o,e,c,d⟩:=st;exact⟨o,e,λv z=>by rw[d]at z;cases z⟩
 keep:=λi h h' st k=>st.at λo e=>k j (by simp) o e
 item:=by
  intro X g hw l C i aa s J H E I B st f;subst g hw l;obtain⟨F,x,q,U⟩:=f;obtain⟨A,N,p,L⟩:=I.tuple q;obtain⟨u,Q,G⟩:=N.get U;obtain⟨y,t,f2,r,n,m⟩:=B j (by simp);refine wpAny_pyNext_tuple_item st (show s.heap.IsTuple a A.toArray from p) (x:=u) (by simpa using Q) λh' D sb=>?_;have S:Inv X aa J H {s with heap:=h' }:=I.turned (t':=s.toks) (λb o hb e=>(sb.2 b hb).trans e) y t r n m;obtain⟨o,e,c,d⟩:=id D;exact⟨u,rfl,Ii (s:={s with heap:=h' }) e c d (by decide) ⟨x,H,S,G,⟨rfl,λT M=>by rw[I.agV M q];exact U⟩,D,λb hb=>(B b hb).1⟩⟩
 done:=by
  intro X g hw l C i aa s J H E I B st f;subst g hw l;obtain⟨F,q,U⟩:=f;obtain⟨A,N,p,L⟩:=I.tuple q;obtain⟨y,t,f2,r,n,m⟩:=B j (by simp);have hl:=N.length;exact wpAny_pyNext_tuple_end (I.ok.hd C) st (show s.heap.IsTuple a A.toArray from p) (by simp;omega) λh' R=>⟨rfl,I.turned (t':=s.toks) (λb o hb e=>R b o hb e) y t r n m⟩
 self:=λ_ _ _ _ _ st h=>wpAny_pyIter_tupleiter st h
theorem agQ{P:bp}{w:bz}{K:bu}{tg:b7}(j:az)(lo:a8)(n:a9):Turn P w K tg (YG lo n) [j] j (λi h=>IsRangeIter h j (lo+(i:a9)*1) ((n:a8)-(i:a9)) 1)where
 mem:=by simp
 obj:=λi h st b hb=>by
  have e:b=j:=by simpa using hb
  subst e;exact⟨_,st,λv z=>by
   have p:Data.fields _=Data.cell v:=z;cases p⟩
 keep:=λi h h' st k=>k j (by simp) _ st
 item:=by
  intro X U hw a N i aa s J H E I q st B;subst U hw a;obtain⟨l,g,f2,f,d,c⟩:=q j (by simp);have W:=Walks.range (prog:=X.prog) (w:=X.w) (I.ok.hd N) j lo 1 n;refine W.item i s _ _ B st λv h' tk hv m r=>?_;obtain⟨t,rfl⟩:=hv;have x:Inv X aa J H {s with heap:=h',toks:=tk}:=I.turned (λb o hb e=>r b o (by simpa using hb) e) l g f d c;refine⟨_,rfl,Ii (s:={s with heap:=h',toks:=tk}) (n := "range_iterator") m rfl rfl (by decide) ⟨.int (lo+i),H,x,⟨t,?_⟩,⟨rfl,rfl⟩,m,λb hb=>(q b hb).1⟩⟩;rw[Int.mul_one]
 done:=by
  intro X U hw a N i aa s J H E I q st B;subst U hw a;obtain⟨l,g,f2,f,d,c⟩:=q j (by simp);exact wpAny_pyNext_range_end (I.ok.hd N) st (by have:n<=i:=B;omega) λh' u=>⟨rfl,I.turned (t':=s.toks) (λb o hb e=>u b o hb e) l g f d c⟩
 self:=λ_ _ _ _ _ st h=>wpAny_pyIter_rangeiter st h
section
variable{X:Cx}{tg:b7}
theorem akW{aa:ar (az×cz)}{J:St}{H:Hp}{s:ay}{R:It->Hp->Prop}{E:au->ay->Prop}{lo hi:a8}{t u v:Tok}{tk:a9}(I:Inv X aa J H s)(h1 : -(2 ^ 62)<=lo)(h2:lo<2 ^ 62)(B : -(2 ^ 62)<=hi)(z:hi<2 ^ 62)
  (q:R (YG lo (hi-lo).toNat) H):wpAny (bw X.prog X.w) X.A (pyIter (.ref s.heap.objs.size)) (PIE X aa J tg R) E {s with heap:=s.heap.push {cls:=.type "range",data:=.fields #[.int lo t,.int hi u,.int 1 v]},toks:=tk}:=by
 refine wpAny_pyIter_range (IsRange.new ..) (small_one h1 h2 B z) ?_;have j:Inv X aa J H {s with heap:=s.heap.push {cls:=.type "range",data:=.fields #[.int lo t,.int hi u,.int 1 v]},toks:=tk}:=I.kept λb o e=>eI _ e;refine⟨(s.heap.push {cls:=.type "range",data:=.fields #[.int lo t,.int hi u,.int 1 v]}).objs.size,[(s.heap.push {cls:=.type "range",data:=.fields #[.int lo t,.int hi u,.int 1 v]}).objs.size],_,_,H,rfl,
  j.kept (t':=tk) λb o e=>eI _ e,agQ _ lo (hi-lo).toNat,?_,λb hb=>?_,q⟩
 ·have U:lo+((0:a9):a8)*1=lo:=by simp
  have N:(((hi-lo).toNat:a9):a8)-((0:a9):a8)=Builtin.Range.rangeSize lo hi 1:=by rw[rangeSize_one];split <;> omega
  show IsRangeIter _ _ (lo+((0:a9):a8)*1) ((((hi-lo).toNat:a9):a8)-((0:a9):a8)) 1;rw[U,N];exact gO _ rfl
 ·have e:b=(s.heap.push {cls:=.type "range",data:=.fields #[.int lo t,.int hi u,.int 1 v]}).objs.size:=by simpa using hb
  subst e;exact j.wR cX (j.aJ.fresh cX)
def asC(ta:TA):TI:=λJ H R=>ta J H λvs H1=>∃j:a8,vs=[.int j]/\-(2 ^ 62)<=j/\j<2 ^ 62/\R (YG 0 j.toNat) H1
theorem amO{a:b7}{ta:TA}{p pos:dj}(c:Gl X "range")(hm:X.mg "range" = av)(ha:PA X [a] ta)(b:bj [a] X.env=[(aw,cg a X.env)]:=by rfl):PI X tg (.Call (.Name "range" p) [a] [] pos) (asC ta):=by
 intro aa s J H R I h;refine Call_ (DL I c hm boot_range (XW (bI (ha pos aa s J H _ I h) λg i ⟨f,k,d,N,z⟩=>?_) b rfl));obtain⟨j,e,z,U,q⟩:=z;subst e;cases N with
 |cons r B =>
  cases B;obtain⟨t,rfl⟩:=r;exact call_range_1 (akW d (by omega) (by omega) z U (by simpa using q))
def Sa(B:TI)(g:TG)(tb:TS):TS:=λD J H=>B J H λσ H1=>∃W:a9->a9->St->Hp->Prop,(∃m,W 0 m J H1)/\∀i m J H,W i m J H ->
 (σ.stop i H/\D.nx J H)\/(σ.go i H/\∃N:St->Hp->Prop,(∀j H',N j H'->∃z,z<m/\W (i+1) z j H')/\∀x H',σ.CG i H x H'->g x J H' λq H2=>tb {D with nx:=N,ct:=N,bk:=D.nx} q H2)
noncomputable def LZ(fp:ar az)(h:b9):ar (az×cz):=fp.filterMap λb=>(h.get? b).map λo=>(b,o)
theorem UC{fp:ar az}{h:b9}{b:az}{o:cz}(hb:b∈fp)(e:h.get? b=aq o):(b,o)∈LZ fp h:=List.mem_filterMap.mpr ⟨b,hb,by rw[e];rfl⟩
theorem aoJ{fp:ar az}{h:b9}{p:az×cz}(j:p∈LZ fp h):p.1∈fp/\h.get? p.1=aq p.2:=by
 obtain⟨b,hb,e⟩:=List.mem_filterMap.mp j;cases q:h.get? b with
 |none=>rw[q]at e;cases e
 |some o =>
  rw[q]at e;have z:(b,o)=p:=kJ e;subst z;exact⟨hb,q⟩
theorem Inv.pinned{aa:ar (az×cz)}{J:St}{H:Hp}{s:ay}{fp:ar az}(I:Inv X aa J H s)(hf:∀b∈fp,qY X aa H b)(B:∀b∈fp,∃o,s.heap.get? b=aq o/\∀v,o.data≠.cell v):Inv X (aa++LZ fp s.heap) J H s :=
 I.Dq λp q=>(lP.mp q).elim (λz=>I.pin p (nP _ z)) λz=>by
  obtain⟨hb,e⟩:=aoJ z;obtain⟨f0,f1,f2,_⟩:=hf p.1 hb;obtain⟨o,j,d⟩:=B p.1 hb;rw[e]at j;cases j;exact⟨e,f0,f1,f2,d⟩
theorem Inv.RX{aa pl:ar (az×cz)}{J:St}{H:Hp}{s:ay}(I:Inv X (aa++pl) J H s):Inv X aa J H s:=I.Dq λp j=>I.pin p (nP _ (qU _ j))
theorem al9{iter:b7}{body:ar cb}{L:TI}{g:TG}{tb:TS}{pos:dj}(l:PassesOwn (bw X.prog X.w) X.A X.env X.xe)(R:X.calm=a5)(hi:PI X tg iter L)(hg:PG X tg g)(hb:tF X body tb)
  (hs:∀x,df iter X.env x=pure x:=by intro _;rfl):PS X (.For tg iter body [] pos) (Sa L g tb):=by
 intro aa s J H D I h;refine wpAny_For (bI (hi aa s J H _ I h) λv s1 h1=>bI h1 λFm s2 h2=>?_) hs;obtain⟨it,t,tn,σ,H2,e,I2,T,hJ,f2,W,⟨m0,w0⟩,turn⟩:=h2;subst e;have K:∀{a:Hp},(∀b∈t,a b=av)->∀b∈t,qY X aa a b:=λhn b hb=>⟨hn b hb,(f2 b hb).2⟩
 refine codeAny_forLoop_any (λn s'=>∃i z a,Inv X aa z a s'/\tn i s'.heap/\(∀b∈t,a b=av)/\W i n z a) ?_ m0 ⟨0,J,H2,I2,hJ,λb hb=>(f2 b hb).1,w0⟩;rintro n P ⟨i,q,y,S,Q,p,w3⟩
 rcases turn i n q y w3 with⟨stop,qn⟩|⟨go,N,hN,step⟩
 ·refine FX l (bI (T.done X rfl rfl rfl R i aa P q y X.xe S (K p) Q stop) λr s4 ⟨hr,I4⟩=>?_);subst hr;exact ZI ⟨q,y,I4,qn⟩
 ·refine FX l (bI (T.item X rfl rfl rfl R i aa P q y X.xe S (K p) Q go) λr s4 ⟨u,hr,h4⟩=>?_);subst hr;refine FX l (bI h4 λ_ M zz=>?_);obtain⟨x,V,I5,r5,y5,G,VY⟩:=zz;have F:=I5.pinned (K VY) (T.obj _ _ G);refine FX l (bI (hg _ M q V x u _ F r5 (step x V y5)) λ_ s6 ⟨C,H6,I6,q6⟩=>?_);refine FX l (bI (hb _ s6 C H6 _ I6 q6) λf E c=>?_);have again:∀{j:St} {U:Hp},Inv X (aa++LZ t M.heap) j U E->N j U->∃m,m<n/\∃i z a,Inv X aa z a E/\tn i E.heap/\(∀b∈t,a b=av)/\W i m z a:=λ{j U} B k=>by
   obtain⟨m',hm,w7⟩:=hN j U k;refine⟨m',hm,i+1,j,U,B.RX,T.keep _ _ _ G λb hb o e=>(B.pin (b,o) (nP _ (nP _ (UC hb e)))).1,λb hb=>?_,w7⟩;obtain⟨o,e,d⟩:=T.obj _ _ G b hb;exact(B.pin (b,o) (nP _ (nP _ (UC hb e)))).2.1
  cases f with
  |next=>obtain⟨j,U,B,k⟩:=c;exact again B k
  |cont=>obtain⟨j,U,B,k⟩:=c;exact again B k
  |brk=>obtain⟨j,U,B,c⟩:=c;exact⟨j,U,B.RX,c⟩
  |ret v=>obtain⟨x7,j,U,B,r7,c⟩:=c;exact⟨x7,j,U,B.RX,r7,c⟩
end
abbrev R2:=V->V->Hp->VK->Prop
def iH(X:Cx)(f:au->au->Sem au)(r:R2):Prop :=
 ∀(aa:ar (az×cz)) (s:ay) (J:St) (H:Hp) (x y:V) (v u:au) (Q:VK),Inv X aa J H s->RelV x v->RelV y u->r x y H Q ->
  wpAny (bw X.prog X.w) X.A (f v u) (EP X aa J Q) X.xe s
def Lw(X:Cx)(f:au->Sem au)(r:V->Hp->VK->Prop):Prop :=
 ∀(aa:ar (az×cz)) (s:ay) (J:St) (H:Hp) (x:V) (v:au) (Q:VK),Inv X aa J H s->RelV x v->r x H Q ->
  wpAny (bw X.prog X.w) X.A (f v) (EP X aa J Q) X.xe s
def tK(X:Cx)(f:au)(r:ar V->Hp->VK->Prop):Prop :=
 ∀(aa:ar (az×cz)) (s:ay) (J:St) (H:Hp) (xs:ar V) (us:ar au) (Q:VK),Inv X aa J H s->Vals xs us->r xs H Q ->
  wpAny (bw X.prog X.w) X.A (call f us) (EP X aa J Q) X.xe s
def LN(r:R2)(ta tb:TE):TE:=λJ H Q=>ta J H λx H1=>tb J H1 λy H2=>r x y H2 Q
def tUn(r:V->Hp->VK->Prop)(ta:TE):TE:=λJ H Q=>ta J H λx H1=>r x H1 Q
def rI(C:a8->a8->Prop)(g:a8->a8->V):R2:=λx y H Q=>∃i j,x=.int i/\y=.int j/\C i j/\Q (g i j) H
def yC(g:a8->a8->V):R2:=λx y H Q=>∃i j,x=.int i/\y=.int j/\Q (g i j) H
def rU(g:a8->V):V->Hp->VK->Prop:=λx H Q=>∃i,x=.int i/\Q (g i) H
section
variable{X:Cx}{a b c:b7}{ta tb tc:TE}{pos:dj}
theorem Jx(ha:PE X a ta)(hb:PE X b tb){aa:ar (az×cz)}{s:ay}{J:St}{H:Hp}{R:V->V->Hp->Prop}(I:Inv X aa J H s)
  (h:ta J H λx H1=>tb J H1 λy H2=>R x y H2) {Q:au->ay->Prop} {f:au->au->Sem au}
  (U:∀v u s2 x y H2,Inv X aa J H2 s2->RelV x v->RelV y u->R x y H2->wpAny (bw X.prog X.w) X.A (f v u) Q X.xe s2) :
  wpAny (bw X.prog X.w) X.A (cg a X.env) (λv s₁=>wpAny (bw X.prog X.w) X.A (cg b X.env) (λu s₂=>wpAny (bw X.prog X.w) X.A (f v u) Q X.xe s₂) X.xe s₁) X.xe s:=by
 refine bI (ha aa s J H _ I h) λv j ⟨x,H1,d,z,N⟩=>?_;refine bI (hb aa j J H1 _ d N) λu s2 ⟨y,H2,c,q,B⟩=>?_;exact U v u s2 x y H2 c z q B
theorem am0{j:Operator}{r:R2}(N:iH X (c4 j) r)(ha:PE X a ta)(hb:PE X b tb):PE X (.BinOp a j b pos) (LN r ta tb):=by
 intro aa s J H Q I h;exact wpAny_BinOp (Jx ha hb I h λv u s2 x y c U B z q=>N aa s2 J c x y v u Q U B z q)
theorem amX{j:UnaryOp}{r:V->Hp->VK->Prop}(N:Lw X (unaryOp j) r)(ha:PE X a ta):PE X (.UnaryOp j a pos) (tUn r ta):=by
 intro aa s J H Q I h;exact UnaryOp_ (bI (ha aa s J H _ I h) λv q ⟨x,b,U,z,B⟩=>N aa q J b x v Q U z B)
theorem TQ{f:au->au->Sem au}{C:a8->a8->Prop}{g:a8->a8->a8}
  (rule:∀(i j:a8) (t u:Tok) (s:ay) (Q:au->ay->Prop) (E:au->ay->Prop),C i j->Q (.int (g i j) s.toks) {s with toks:=s.toks+1}->wpAny (bw X.prog X.w) X.A (f (.int i t) (.int j u)) Q E s) :
  iH X f (rI C λi j => .int (g i j)):=by
 intro aa s J H x y v u Q I N B h;obtain⟨i,j,rfl,rfl,U,q⟩:=h;obtain⟨t,rfl⟩:=N;obtain⟨z,rfl⟩:=B;exact rule i j t z s _ _ U ⟨.int (g i j),H,I.tok _,⟨_,rfl⟩,q⟩
theorem Vk{f:au->au->Sem au}{g:a8->a8->a8}
  (rule:∀(i j:a8) (t u:Tok) (s:ay) (Q:au->ay->Prop) (E:au->ay->Prop),Q (.int (g i j) s.toks) {s with toks:=s.toks+1}->wpAny (bw X.prog X.w) X.A (f (.int i t) (.int j u)) Q E s) :
  iH X f (yC λi j => .int (g i j)):=by
 intro aa s J H x y v u Q I N B h;obtain⟨i,j,rfl,rfl,q⟩:=h;obtain⟨t,rfl⟩:=N;obtain⟨z,rfl⟩:=B;exact rule i j t z s _ _ ⟨.int (g i j),H,I.tok _,⟨_,rfl⟩,q⟩
theorem TR{f:au->au->Sem au}{g:a8->a8->bt}
  (rule:∀(i j:a8) (t u:Tok) (s:ay) (Q:au->ay->Prop) (E:au->ay->Prop),Q (.bool (g i j)) s->wpAny (bw X.prog X.w) X.A (f (.int i t) (.int j u)) Q E s) :
  iH X f (yC λi j => .bl (g i j)):=by
 intro aa s J H x y v u Q I N B h;obtain⟨i,j,rfl,rfl,q⟩:=h;obtain⟨t,rfl⟩:=N;obtain⟨z,rfl⟩:=B;exact rule i j t z s _ _ ⟨.bl (g i j),H,I,rfl,q⟩
def rB(i j:a8):Prop:=0<j/\j<1073741824
def KZ(i j:a8):Prop:=0<=j/\j<=1000000/\i.natAbs<2 ^ 64
def lT(i j:a8):Prop:=(-(2 ^ 64)<i/\i<2 ^ 64)\/(-(2 ^ 64)<j/\j<2 ^ 64)
theorem lT.ok{i j:a8}(h:lT i j):IntMulOk i j:=by
 rcases h with⟨h1,h2⟩|⟨h1,h2⟩
 ·exact .of_left (intBits_le_64 h1 h2)
 ·exact .of_right (intBits_le_64 h1 h2)
theorem aoD:iH X (c4 .Add) (yC λi j => .int (i+j)):=Vk λ_ _ _ _ _ _ _ q=>add_int q
theorem an0:iH X (c4 .Sub) (yC λi j => .int (i-j)):=Vk λ_ _ _ _ _ _ _ q=>sub_int q
theorem an3:iH X (c4 .Mult) (rI lT λi j => .int (i*j)):=TQ λ_ _ _ _ _ _ _ z q=>mul_int q z.ok
theorem an9:iH X (c4 .FloorDiv) (rI rB λi j => .int (i/j)):=TQ λi j _ _ _ _ _ z q=>by
 have h1:(0:a8)<j:=z.1;have h2:j<1073741824:=z.2;exact floordiv_int (by omega) (by rw[Int.fdiv_eq_ediv_of_nonneg i (by omega)];exact q) (.inl (PyProof.noPylong_small (by omega)))
theorem an4:iH X (c4 .Mod) (rI (λ_ j=>0<j) λi j => .int (i%j)):=TQ λi j _ _ _ _ _ z q=>by
 have h1:(0:a8)<j:=z;exact mod_int' (by omega) (by rw[Int.fmod_eq_emod_of_nonneg i (by omega)];exact q)
theorem an1:iH X (c4 .Pow) (rI KZ λi j => .int (i ^ j.toNat)):=TQ λ_ _ _ _ _ _ _ z q=>pow_int_small z.1 z.2.1 z.2.2 q
theorem unI{f:au->Sem au}{g:a8->a8}
  (rule:∀(i:a8) (t:Tok) (s:ay) (Q:au->ay->Prop) (E:au->ay->Prop),Q (.int (g i) s.toks) {s with toks:=s.toks+1}->wpAny (bw X.prog X.w) X.A (f (.int i t)) Q E s) :
  Lw X f (rU λi => .int (g i)):=by
 intro aa s J H x v Q I j h;obtain⟨i,rfl,q⟩:=h;obtain⟨t,rfl⟩:=j;exact rule i t s _ _ ⟨.int (g i),H,I.tok _,⟨_,rfl⟩,q⟩
theorem agH:Lw X (unaryOp .USub) (rU λi => .int (-i)):=unI λ_ _ _ _ _ q=>neg_int q
theorem an5:iH X (ck .Lt) (yC λi j => .bl (decide (i<j))):=TR λ_ _ _ _ _ _ _ q=>lt_int q
theorem an6:iH X (ck .LtE) (yC λi j => .bl (decide (i<=j))):=TR λ_ _ _ _ _ _ _ q=>le_int q
theorem an7:iH X (ck .Gt) (yC λi j => .bl (decide (j<i))):=TR λ_ _ _ _ _ _ _ q=>gt_int q
theorem an8:iH X (ck .GtE) (yC λi j => .bl (decide (j<=i))):=TR λ_ _ _ _ _ _ _ q=>ge_int q
theorem iH.or{f:au->au->Sem au}{r B:R2}(h:iH X f r)(h':iH X f B):iH X f (λx y H Q=>r x y H Q\/B x y H Q):=by
 intro aa s J H x y v u Q I z j q
 rcases q with q|q
 ·exact h aa s J H x y v u Q I z j q
 ·exact h' aa s J H x y v u Q I z j q
theorem eP(b:b7){j:CmpOp}(h:j≠.In:=by decide)(h2:j≠.NotIn:=by decide):dm j b=aw:=by
 have z:(j==CmpOp.In)=aw:=by cases j <;> first|rfl|exact b8 rfl h
 have q:(j==CmpOp.NotIn)=aw:=by cases j <;> first|rfl|exact b8 rfl h2
 cases b <;> simp[dm,z,q]
theorem anJ{j:CmpOp}{r:R2}(N:iH X (ck j) r)(ha:PE X a ta)(hb:PE X b tb)(hm:dm j b=aw):PE X (.Compare a [j] [b] pos) (LN r ta tb):=by
 intro aa s J H Q I h;exact wpAny_Compare1 (Jx ha hb I h λv u s2 x y c U B z q=>N aa s2 J c x y v u Q U B z q) hm
def An(t:TE):TT:=λJ H Q=>t J H λx H'=>∃k,x=.bl k/\Q k H'
theorem alY{j:CmpOp}{r:R2}(i:iH X (ck j) r)(ha:PE X a ta)(hb:PE X b tb)(hm:dm j b=aw):PT X (.Compare a [j] [b] pos) (An (LN r ta tb)):=by
 intro aa s J H Q I h;refine wpAny_isTrue_Compare1 (bI (ha aa s J H _ I h) λv q ⟨x,t,n,U,g⟩=>bI (hb aa q J t _ n g) λu s2 ⟨y,p,m,N,f⟩ =>
  bI (i aa s2 J p x y v u _ m U N f) λc w ⟨z,o,l,B,k,e,d⟩=>?_) hm
 subst e;cases B;exact zW ⟨o,l,d⟩
def Se(r B:R2)(ta tb tc:TE):TE:=λJ H Q=>ta J H λx H1=>tb J H1 λy H2=>r x y H2 λz j=>∃k,z=.bl k /\
 (if k=a5 then tc J j λq N=>B y q N Q else Q (.bl aw) j)
theorem al0{q j:CmpOp}{r N:R2}(L:iH X (ck q) r)(K:iH X (ck j) N)(ha:PE X a ta)(hb:PE X b tb)(M:PE X c tc)
  (hm:lastMarks [q,j] [b,c]=aw:=by with_unfolding_all rfl):PT X (.Compare a [q,j] [b,c] pos) (An (Se r N ta tb tc)):=by
 intro aa s J H Q I h;refine isTrue_chain (bI (ha aa s J H _ I h) λv o ⟨x,H1,W,A,F⟩=>test_link (bI (hb aa o J H1 _ W F) λu s2 ⟨y,H2,V,B,E⟩ =>
  bI (L aa s2 J H2 x y v u _ V A B E) λd n ⟨z,g,f,w,k,e,U⟩=>?_)) hm
 subst e;cases w;refine zW ?_;cases k with
 |false =>
  obtain⟨k',R,G⟩:=U;cases R;exact ite_ff ⟨g,f,G⟩
 |true =>
  refine ite_tt (test_last (bI (M aa n J g _ f U) λl m ⟨i,H4,T,t,D⟩=>bI (K aa m J H4 y i u l _ T B t D) λd' s5 zz=>?_));obtain⟨z2,H5,S,p,k2,P,C⟩:=zz;subst P;cases p;exact zW ⟨H5,S,C⟩
theorem MQ:(bg:a9)<2 ^ 63:=by rw[oS];decide
theorem vals1{x:V}{us:ar au}(r:Vals [x] us):∃u,us=[u]/\RelV x u:=by
 cases r with
 |cons q j=>cases j;exact⟨_,rfl,q⟩
theorem vals2{x y:V}{us:ar au}(r:Vals [x,y] us):∃u j,us=[u,j]/\RelV x u/\RelV y j:=by
 cases r with
 |cons N B =>
  cases B with
  |cons z q=>cases q;exact⟨_,_,rfl,N,z⟩
theorem aAL(B:X.calm=a5):tK X (.builtin "max") (λxs H Q=>∃i j,xs=[.int i,.int j]/\Q (.int (if j>i then j else i)) H):=by
 intro aa s J H xs U Q I r h;obtain⟨i,j,rfl,q⟩:=h;obtain⟨u,N,rfl,⟨t,rfl⟩,⟨a,rfl⟩⟩:=vals2 r;refine max_two_ints (I.ok.hd B) λh' tk k=>⟨_,H,I.kept k,?_,q⟩
 by_cases z:j>i
 ·rw[bb z,bb z];exact⟨_,rfl⟩
 ·rw[bc z,bc z];exact⟨_,rfl⟩
theorem aAK(B:X.calm=a5):tK X (.builtin "min") (λxs H Q=>∃i j,xs=[.int i,.int j]/\Q (.int (if j<i then j else i)) H):=by
 intro aa s J H xs U Q I r h;obtain⟨i,j,rfl,q⟩:=h;obtain⟨u,N,rfl,⟨t,rfl⟩,⟨a,rfl⟩⟩:=vals2 r;refine min_two_ints (I.ok.hd B) λh' tk k=>⟨_,H,I.kept k,?_,q⟩
 by_cases z:j<i
 ·rw[bb z,bb z];exact⟨_,rfl⟩
 ·rw[bc z,bc z];exact⟨_,rfl⟩
end
structure FE(h:b9)(x dx C:az)(mA:bh->ax au):Prop where
 obj:h.get? x=aq (instObj C dx)
 ns:h.Ns1 dx mA
 ne:dx≠x
theorem aqD{h:b9}{dx:az}{mA:bh->ax au}(n:h.Ns1 dx mA):∃od,h.get? dx=aq od/\∀name,lookIn name od=aq (mA name):=by
 obtain⟨o,es,c,N,hd,U,_,hm⟩:=n;refine⟨o,N,λname=>?_⟩;have e:=hm name;unfold nsFind findBy at e;rw[<-Array.find?_toList]at e;unfold lookIn;rw[hd];dsimp only;split
 ·rename_i y q;rw[q]at e;exact c3 aq e
 ·rename_i q;rw[q]at e;have a:es.toList.any (·.refKey)=aw:=by
   rw[List.any_eq_false];intro y B;obtain⟨z,t,j⟩:=U y (Array.mem_toList_iff.mp B);simp[DictEntry.refKey,j]
  have b:¬es.toList.any (·.refKey)=a5:=by rw[a];exact Oy
  rw[bc b];exact c3 aq e
theorem FE.look{h:b9}{x dx C:az}{mA:bh->ax au}(I:FE h x dx C mA):∃od,PySem.W.InstAt h x (instObj C dx) C (aq od)/\∀name,lookIn name od=aq (mA name) :=
 let ⟨od,j,hl⟩:=aqD I.ns
 ⟨od,⟨I.obj,rfl,rfl,j⟩,hl⟩
section
variable{prog:bp}{w:bz}{A:bx}{E:au->ay->Prop}{s:ay}{K:bu}{x dx C f:az}{mA:bh->ax au}{name:bh}{v:au}
theorem get_map{expr:bt}{Q:au->ay->Prop}(X:K.In s.heap)(I:FE s.heap x dx C mA)(q:plainGet K C name=a5)(hh:hasDictIn K C=a5)
  (ha:dq K (.ref C) name=aq av) (hv:mA name=aq v) (j:PySem.W.handedIn v=a5) (h:Q v {s with toks:=s.toks+1}) :
  wpAny (bw prog w) A (getAttr (.ref x) name expr) Q E s:=by
 obtain⟨z,σ,hl⟩:=I.look;exact PySem.W.get_value X σ (plainGet_of q).1 (PySem.W.findObj_own hh ha rfl (by rw[hl,hv])) j h
theorem awZ{pl:Sem bt}{Q:au×ar au->ay->Prop}(X:K.In s.heap)(I:FE s.heap x dx C mA)(j:plainGet K C name=a5)
  (B:dq K (.ref C) name=aq (aq (.ref f))) (z:isFn K (.ref f)=a5) (hv:mA name=av) (h:Q (.ref f,[.ref x]) s) :
  wpAny (bw prog w) A (getMethod (.ref x) name pl) Q E s:=by
 obtain⟨q,σ,hl⟩:=I.look;exact PySem.W.method_fn X σ (plainGet_of j).1 (plainGet_of j).2 B (EW.mp z) (by show(lookIn name q).map (·.isSome)=aq aw;rw[hl,hv];rfl) h
theorem aiR{ns:ar bh}{Q:Unit->ay->Prop}(X:K.In s.heap)(I:FE s.heap x dx C mA)
  (d:dq K (.ref C) "__setattr__" = aq (aq (.builtin "object.__setattr__"))) (e:PySem.W.plainOver K C=a5) (c:takerIn K C name=aq av) (hh:hasDictIn K C=a5)
  (hw:PySem.Within mA ns) (hsz:ns.length<=bg)
  (h:∀h',FE h' x dx C (λy=>if y=name then aq v else mA y)->Heap.SameBut dx s.heap h'->Q () {s with heap:=h',toks:=s.toks+2}) :
  wpAny (bw prog w) A (setAttr (.ref x) name v) Q E s:=by
 obtain⟨l,σ,hl⟩:=I.look;refine PySem.W.set_plain X σ d (PySem.W.osa_open (s:={s with toks:=s.toks+1}) (r:=av) X σ e c λb=>?_);obtain⟨n,f,k⟩:=PySem.W.any_some hh;have U:s.heap.get? x=aq ⟨.ref C,aq dx,.plain,#[]⟩:=I.obj;refine aM (bL (aM (aM (wpAny_loadPart U (aM (PySem.W.Looks.here (s:={s with toks:=s.toks+1}) (PySem.W.looks_clsIn X f) ?_))))));rw[k];refine bL (a:=aq dx) (aM (bL (aM ?_)));refine wpAny_nsSet1 (s:={s with toks:=s.toks+1}) I.ns λh' N B=>?_;obtain⟨m,g,i,j,q,z⟩:=N.count (PySem.Within.cons name v hw);refine aM (wpAny_lookBehind j (by rw[q];exact pastItsLine_dict (rX z (by rw[fT];omega))) ?_);exact bL (h _ ⟨(B.2 _ (dM I.ne)).trans I.obj,N,I.ne⟩ B)
theorem ap6{R:Result->ay->Prop}{vs:ar au}{j:ar (bh×au)}(X:K.In s.heap)(hm:makesIn K C=a5)
  (hi:dq K (.ref C) "__init__" = aq (aq (.ref f))) (q:PySem.W.typeIn K (.ref f)=aq (.type "function"))
  (h:codeAny (bw prog w) (A.under (.builtin "type.__call__" ⟨.ref C::vs,j⟩)) (.call (.ref f) ⟨.ref (s.heap.objs.size+1)::vs,j⟩) (PySem.W.InitBack (s.heap.objs.size+1) R)
   {s with heap:=(s.heap.push e4).push (instObj C s.heap.objs.size)}) :
  codeAny (bw prog w) A (.call (.ref C) ⟨vs,j⟩) R s:=by
 obtain⟨hh,g,d,t,os⟩:=s;exact PySem.W.make_core (PySem.W.makes_of X hm) (PySem.W.looks_findIn X hi) (λself=>PySem.W.bind_fn X self q) (.inl rfl) h
end
noncomputable def jS(f:bh)(v:V):ar (bh×V)->ar (bh×V)
 |[]=>[(f,v)]
 |(g,x)::r=>if g=f then(g,v)::r else(g,x)::jS f v r
theorem Wq(f g:bh)(v:V):∀fs:ar (bh×V),(jS f v fs).lookup g=if g=f then aq v else fs.lookup g
 |[]=>by
  show List.lookup g [(f,v)]=_
  by_cases h:g=f
  ·have hb:(g==f)=a5:=EW.mpr h;simp only[List.lookup,hb,bb h]
  ·have hb:(g==f)=aw:=zE.mpr h;simp only[List.lookup,hb,bc h]
 |(k,x)::r=>by
  have ih:=Wq f g v r;rw[show jS f v ((k,x)::r)=(if k=f then(k,v)::r else(k,x)::jS f v r)from rfl]
  by_cases j:k=f
  ·rw[bb j]
   by_cases h:g=k
   ·have hb:(g==k)=a5:=EW.mpr h;simp only[List.lookup,hb,bb (h.trans j)]
   ·have hb:(g==k)=aw:=zE.mpr h;simp only[List.lookup,hb,bc (λe:g=f=>h (e.trans j.symm))]
  ·rw[bc j]
   by_cases h:g=k
   ·have hb:(g==k)=a5:=EW.mpr h;simp only[List.lookup,hb,bc (λe:g=f=>j (h.symm.trans e))]
   ·have hb:(g==k)=aw:=zE.mpr h;simp only[List.lookup,hb];exact ih
theorem Fg(f:bh)(v:V):∀fs:ar (bh×V),f∈(jS f v fs).map (·.1)/\∀g,g∈fs.map (·.1)->g∈(jS f v fs).map (·.1)
 |[]=>⟨by simp[jS],λg h=>by simp at h⟩
 |(k,x)::r=>by
  obtain⟨z,q⟩:=Fg f v r;rw[show jS f v ((k,x)::r)=(if k=f then(k,v)::r else(k,x)::jS f v r)from rfl]
  by_cases j:k=f
  ·rw[bb j];subst j;exact⟨by simp,λg h=>by simpa using h⟩
  ·rw[bc j];refine⟨?_,λg h=>?_⟩
   ·rw[cP];exact fS _ z
   ·rw[cP]at h ⊢
    rcases dU.mp h with e|e
    ·exact dU.mpr (.inl e)
    ·exact fS _ (q g e)
theorem Xb(f:bh)(v:V):∀fs:ar (bh×V),(jS f v fs).length<=fs.length+1
 |[]=>by simp[jS]
 |(k,x)::r=>by
  have ih:=Xb f v r;rw[show jS f v ((k,x)::r)=(if k=f then(k,v)::r else(k,x)::jS f v r)from rfl]
  by_cases j:k=f
  ·rw[bb j,fT,fT];omega
  ·rw[bc j,fT,fT];omega
theorem nO.some_of{v:V}{o:ax au}(r:nO (aq v) o):∃u,o=aq u/\RelV v u:=by
 cases o with
 |none=>exact(show cq from r).elim
 |some u=>exact⟨u,rfl,r⟩
theorem nO.none_of{o:ax au}(r:nO av o):o=av:=by
 cases o with
 |none=>rfl
 |some u=>exact(show cq from r).elim
theorem aaB{v:V}{u:au}(r:RelV v u):PySem.W.handedIn u=a5:=by
 cases v with
 |cZ=>cases(show u=Value.none from r);rfl
 |bl b=>cases(show u=Value.bool b from r);rfl
 |int i=>obtain⟨t,e⟩:=(show ∃t,u=Value.int i t from r);cases e;rfl
 |str x=>obtain⟨t,e⟩:=(show ∃t,u=Value.str x t from r);cases e;rfl
 |WQ b=>obtain⟨t,e⟩:=(show ∃t,u=Value.bytes b t from r);cases e;rfl
 |EH b=>obtain⟨t,e⟩:=(show ∃t,u=Value.float b t from r);cases e;rfl
 |ref a=>cases(show u=Value.ref a from r);rfl
 |ty n=>cases(show u=Value.type n from r);rfl
section
variable{P:bp}{w:bz}{H H':Hp}{h h':b9}{a C dx:az}{fs iO:ar (bh×V)}
theorem UR(aJ:fU P w H h)(e:H a=aq (.ins C dx fs)):∃mA,FE h a dx C mA/\(∀f,nO (fs.lookup f) (mA f))/\PySem.Within mA (fs.map (·.1))/\fs.length<=1000/\H dx=aq (.own a):=by
 obtain⟨d,z,ne,j,mA,n,r,q⟩:=(show jF P w H h a (.ins C dx fs)from aJ a _ e);exact⟨mA,⟨j,n,ne⟩,r,q,z,d⟩
end
structure nQ(K:bu)(C:az):Prop where
 pg:plainGet K C Str.empty=a5
 hd:hasDictIn K C=a5
 po:PySem.W.plainOver K C=a5
 sa:dq K (.ref C) "__setattr__" = aq (aq (.builtin "object.__setattr__"))
theorem nQ.get{K:bu}{C:az}(c:nQ K C)(f:bh):plainGet K C f=a5:=c.pg
def FF(K:bu)(C:az)(f:bh):Prop:=dq K (.ref C) f=aq av
theorem FF.ahD{K:bu}{C:az}{f:bh}(n:FF K C f):takerIn K C f=aq av:=by
 unfold takerIn;rw[show dq K (.ref C) f=aq av from n];rfl
structure Meth(K:bu)(C:az)(m:bh)(f:az):Prop where
 at_:dq K (.ref C) m=aq (aq (.ref f))
 fn:isFn K (.ref f)=a5
 kp:ek K (.ref f)=a5
section
variable{X:Cx}{aa:ar (az×cz)}{J:St}{H:Hp}{s:ay}{a C dx:az}{fs:ar (bh×V)}{f:bh}{v:V}{A:bx}{E:au->ay->Prop}
theorem awX{b:bt}{Q:au->ay->Prop}(I:Inv X aa J H s)(e:H a=aq (.ins C dx fs))(c:nQ X.K C)(n:FF X.K C f)(l:fs.lookup f=aq v)
  (h:∀u s',Inv X aa J H s'->RelV v u->Q u s'):wpAny (bw X.prog X.w) A (getAttr (.ref a) f b) Q E s:=by
 obtain⟨q,ι,r,_,_,_⟩:=UR I.aJ e;obtain⟨u,z,j⟩:=nO.some_of (v:=v) (o:=q f) (by rw[<-l];exact r f);exact get_map I.fZ ι (c.get f) c.hd n z (aaB j) (h u _ (I.tok _) j)
theorem aaO{m:bh}{g:az}{pl:Sem bt}{Q:au×ar au->ay->Prop}(I:Inv X aa J H s)(e:H a=aq (.ins C dx fs))(c:nQ X.K C)(k:Meth X.K C m g)(l:fs.lookup m=av)
  (h:Q (.ref g,[.ref a]) s):wpAny (bw X.prog X.w) A (getMethod (.ref a) m pl) Q E s:=by
 obtain⟨j,ι,r,_,_,_⟩:=UR I.aJ e;have hn:j m=av:=nO.none_of (by rw[<-l];exact r m);exact awZ I.fZ ι (c.get m) k.at_ k.fn hn h
theorem aiP{y:V}{u:au}{Q:Unit->ay->Prop}(I:Inv X aa J H s)(e:H a=aq (.ins C dx fs))(c:nQ X.K C)(n:FF X.K C f)(hl:fs.length<1000)(d:RelV y u)
  (h:∀s',Inv X aa J (upd H a (.ins C dx (jS f y fs))) s'->Q () s'):wpAny (bw X.prog X.w) A (setAttr (.ref a) f u) Q E s:=by
 obtain⟨N,ι,r,B,_,U⟩:=UR I.aJ e;have i:(fs.map (·.1)).length<=bg:=by rw[lQ,oS];omega
 refine aiR I.fZ ι c.sa c.po n.ahD c.hd B i λh' j sb=>h _ ?_;have hd:∃o,h'.get? dx=aq o:=let ⟨o,_,_,l,_⟩:=j.ns; ⟨o,l⟩;refine I.write (x:=a) (e:=dx) (by rw[e];exact True.intro) (.inr U) (λb q hb z=>(sb.2 b hb).trans z) hd ?_;refine⟨by rw[bJ ι.ne];exact U,?_,ι.ne,j.obj,_,j.ns,λg=>?_,λg k=>?_⟩
 ·have:=Xb f y fs;omega
 ·show nO ((jS f y fs).lookup g) (if g=f then aq u else N g);rw[Wq]
  by_cases q:g=f
  ·rw[bb q,bb q];exact d
  ·rw[bc q,bc q];exact r g
 ·by_cases q:g=f
  ·rw[q];exact(Fg f y fs).1
  ·refine(Fg f y fs).2 g (B g λz=>k ?_);show(if g=f then aq u else N g)=av;rw[bc q];exact z
theorem Inv.made(I:Inv X aa J H s):Inv X aa J (upd (upd H s.heap.objs.size (.own (s.heap.objs.size+1))) (s.heap.objs.size+1) (.ins C s.heap.objs.size []))
  {s with heap:=(s.heap.push e4).push (instObj C s.heap.objs.size)}:=by
 have j:(s.heap.push e4).get? s.heap.objs.size=aq e4:=gO s.heap rfl;have N:((s.heap.push e4).push (instObj C s.heap.objs.size)).get? (s.heap.objs.size+1)=aq (instObj C s.heap.objs.size):=by
  have:=gO (s.heap.push e4) (o:=instObj C s.heap.objs.size) rfl;rwa[KI]at this
 have B:(s.heap.push e4).Ns s.heap.objs.size (λ_=>av):=⟨e4,#[],_,j,rfl,(λe he=>b8 he (by simp)),λ_=>rfl⟩;have U:=I.laid (a:=s.heap.objs.size) (o:=.own (s.heap.objs.size+1)) (h':=s.heap.push e4) (t':=s.toks) (λb u q=>eI _ q) cX ⟨_,j⟩;refine U.laid (a:=s.heap.objs.size+1) (o:=.ins C s.heap.objs.size []) (t':=s.toks) (λb u q=>eI _ q) (Nat.le_of_eq (KI _ _)) ?_;have ne:s.heap.objs.size≠s.heap.objs.size+1:=gF (XX _);refine⟨by rw[bJ ne,eA],BU _,ne,N,λ_=>av,(Heap.Ns1.of_empty B).at λo q=>eI _ q,λ_=>True.intro,λy z=>b8 rfl z⟩
theorem aA6{prog:bp}{w:bz}{env:Env}{e:b7}{f:bh}{pos:dj}{s:ay}{Q:au->ay->Prop}(hb:cm e f env (cg e env)=cg e env)
  (h:wpAny (bw prog w) A (cg e env) (λo s₁=>wpAny (bw prog w) A (getAttr o f a5) Q E s₁) E s):wpAny (bw prog w) A (cg (.Attribute e f pos) env) Q E s :=
 Attribute_any_ h (by rw[arm_eval_Attribute,hb])
end
def LO(K:bu)(ta:TE)(f:bh):TE:=λJ H Q=>ta J H λx H1=>∃a C dx fs v,x=.ref a/\H1 a=aq (.ins C dx fs)/\nQ K C/\FF K C f/\fs.lookup f=aq v/\Q v H1
def akE(K:bu)(ta tv:TE)(f:bh):TS:=λD J H=>tv J H λy H1=>ta J H1 λx H2=>∃a C dx fs,x=.ref a/\H2 a=aq (.ins C dx fs)/\nQ K C/\FF K C f/\fs.length<1000 /\
 D.nx J (upd H2 a (.ins C dx (jS f y fs)))
section
variable{X:Cx}{o e value:b7}{f:bh}{pos pos' agZ:dj}{ta tv:TE}
theorem MA(he:PE X e ta)(hb:cm e f X.env (cg e X.env)=cg e X.env):PE X (.Attribute e f pos) (LO X.K ta f):=by
 intro aa s J H Q I h;refine aA6 hb (bI (he aa s J H _ I h) λu g zz=>?_);obtain⟨x,b,U,j,a,C,i,fs,v,ex,B,c,n,l,q⟩:=zz;subst ex;obtain rfl:u=Value.ref a:=j;exact awX U B c n l λd s2 N z=>⟨v,b,N,z,q⟩
theorem amA(ha:PE X o ta)(hv:PE X value tv)(b:ez value (aq (.Attribute o f pos')) pos.line X.env=pure aw):PS X (.Assign [.Attribute o f pos'] value pos) (akE X.K ta tv f):=by
 intro aa s J H D I h;refine plainObj_wpAny_Assign_Attribute (bI (hv aa s J H _ I h) λu j ⟨y,k,i,z,q⟩=>bI (ha aa j J k _ i q) λU s2 zz=>?_) b;obtain⟨x,r,g,B,a,C,p,fs,ex,d,c,n,l,N⟩:=zz;subst ex;obtain rfl:U=Value.ref a:=B;exact aiP g d c n l z λm e=>⟨J,_,e,N⟩
end
section
variable{X:Cx}{aa:ar (az×cz)}{J:St}{H:Hp}{s:ay}{A:bx}{E:au->ay->Prop}{Q:au->ay->Prop}{c:au}{b:bt}
inductive rT(K:bu)(H:Hp):V->au->Prop where
 | cZ:rT K H .cZ (.type "NoneType")
 | bl (x:bt):rT K H (.bl x) (.type "bool")
 | int (i:a8):rT K H (.int i) (.type "int")
 | str (x:bh):rT K H (.str x) (.type "str")
 | EH (x:UInt64):rT K H (.EH x) (.type "float")
 | lst {a:az} {xs:ar V} (e:H a=aq (.lst xs)):rT K H (.ref a) (.type "list")
 | eU {a:az} {o:cz} {xs:ar V} (e:H a=aq (.eU o (.lst xs))):rT K H (.ref a) (.type "list")
 | tup {a:az} {xs:ar V} (e:H a=aq (.tup xs)):rT K H (.ref a) (.type "tuple")
 | dK {a:az} {kvs:ar (Key×V)} (e:H a=aq (.dK kvs)):rT K H (.ref a) (.type "dict")
 | dT {a:az} {kvs:ar (ar Key×V)} (e:H a=aq (.dT kvs)):rT K H (.ref a) (.type "dict")
 | ins {a C dx:az} {fs:ar (bh×V)} (e:H a=aq (.ins C dx fs)) (cl:nQ K C) (ha:dq K (.ref C) "__class__" = aq (aq (.builtin "object.__class__")))
   (hn:specialIn K (.builtin "object.__class__") "__get__" = aq (aq (.builtin "getset_descriptor.__get__"))) (Yg:takesIn K (.builtin "object.__class__")=aq a5)
   (hm:mroIn K C (.type "object")=aq a5):rT K H (.ref a) (.ref C)
theorem arW{x:V}{u t:au}(I:Inv X aa J H s)(j:RelV x u)(ty:rT X.K H x t)(e:kitOne X.K t c=aq b)(h:∀tk,Q (.bool b) {s with toks:=tk}) :
  wpAny (bw X.prog X.w) A (call (.builtin "isinstance") [u,c]) Q E s:=by
 cases ty with
 |cZ=>cases(show u=Value.none from j);exact kia_one PySem.W.kitx_none I.fZ True.intro e (λz=>nomatch z) h
 |bl y=>cases(show u=Value.bool y from j);exact kia_one PySem.W.kitx_bool I.fZ True.intro e (λz=>nomatch z) h
 |int i=>obtain⟨t,q⟩:=(show ∃t,u=Value.int i t from j);cases q;exact kia_one PySem.W.kitx_int I.fZ True.intro e (λz=>nomatch z) h
 |str y=>obtain⟨t,q⟩:=(show ∃t,u=Value.str y t from j);cases q;exact kia_one PySem.W.kitx_str I.fZ True.intro e (λz=>nomatch z) h
 |EH y=>obtain⟨t,q⟩:=(show ∃t,u=Value.float y t from j);cases q;exact kia_one PySem.W.kitx_float I.fZ True.intro e (λz=>nomatch z) h
 | @lst a U B =>
  cases(show u=Value.ref a from j);obtain⟨_,_,n,_,h1⟩:=(show jF X.prog X.w H s.heap a (.lst U)from I.aJ a _ B);exact kia_one PySem.W.kitx_list I.fZ ⟨_,h1,rfl⟩ e (λz=>nomatch z) h
 | @eU a d U B =>
  cases(show u=Value.ref a from j);obtain⟨_,_,_,n,_,h1⟩:=(show jF X.prog X.w H s.heap a (.eU d (.lst U))from I.aJ a _ B);exact kia_one PySem.W.kitx_list I.fZ ⟨_,h1,rfl⟩ e (λz=>nomatch z) h
 | @tup a U B =>
  cases(show u=Value.ref a from j);obtain⟨_,_,_,p⟩:=(show jF X.prog X.w H s.heap a (.tup U)from I.aJ a _ B);obtain⟨o,h1,h2,_⟩:=p;exact kia_one PySem.W.kitx_tuple I.fZ ⟨o,h1,h2⟩ e (λz=>nomatch z) h
 | @dK a N B =>
  cases(show u=Value.ref a from j);obtain⟨_,_,k,_,p⟩:=(show jF X.prog X.w H s.heap a (.dK N)from I.aJ a _ B);obtain⟨o,es,f,h1,h2,_⟩:=p;exact kia_one PySem.W.kitx_dict I.fZ ⟨o,h1,h2.1⟩ e (λz=>nomatch z) h
 | @dT a N B =>
  cases(show u=Value.ref a from j);obtain⟨_,_,U,_,o,es,f,h1,h2,_⟩:=(show jF X.prog X.w H s.heap a (.dT N)from I.aJ a _ B);exact kia_one PySem.W.kitx_dict I.fZ ⟨o,h1,h2.1⟩ e (λz=>nomatch z) h
 | @ins a C r fs B cl ha hn g hm =>
  cases(show u=Value.ref a from j);obtain⟨m,ι,_⟩:=UR I.aJ B;obtain⟨l,σ,_⟩:=ι.look;exact kia_one (PySem.W.kitx_own (cl.get _) cl.hd ha hn g hm) I.fZ σ e (λz=>nomatch z) h
end
structure cR(k:a9)(A:bx):Prop where
 hd:A.handled=av
 dp:A.depth+3*k+5<recursionLimit
 un:A.units+16*k+200<cLine
theorem cR.mono{j k:a9}{A:bx}(r:cR k A)(h:j<=k):cR j A:=⟨r.hd,by have:=r.dp;omega,by have:=r.un;omega⟩
theorem cR.deeper{k:a9}{A:bx}(r:cR (k+1) A)(env:Env):cR k (A.deeper env) :=
 ⟨r.hd,by have:=r.dp;show A.depth+1+3*k+5<_;omega,by have:=r.un;show A.units+3+16*k+200<_;omega⟩
theorem ap7{A:bx}{C:az}{us:ar au}{j:ar (bh×au)}:(A.under (.builtin "type.__call__" ⟨.ref C::us,j⟩)).depth=A.depth+1:=by
 first|rfl|simp[Around.under,Code.weight,Code.isCreation,Code.isGuard,Code.isCaller,Code.frames,Code.isFrame,guardIds]
theorem ap5{A:bx}{C:az}{us:ar au}{j:ar (bh×au)}:(A.under (.builtin "type.__call__" ⟨.ref C::us,j⟩)).units=A.units+1:=by
 first|rfl|simp[Around.under,Code.cUnits,Code.frames,Code.isFrame]
theorem cR.make{k:a9}{A:bx}(r:cR (k+1) A)(C:az)(us:ar au)(kw:ar (bh×au)):cR k (A.under (.builtin "type.__call__" ⟨.ref C::us,kw⟩)) :=
 ⟨r.hd,by have:=r.dp;rw[ap7];omega,by have:=r.un;rw[ap5];omega⟩
theorem cR.depth{k:a9}{A:bx}(r:cR k A):A.depth<recursionLimit:=by have:=r.dp;omega
theorem cR.units{k:a9}{A:bx}(r:cR k A):A.units+64<cLine:=by have:=r.un;omega
def SJ:TA:=λ_ H Q=>Q [] H
def LP(ta:TE)(j:TA):TA:=λJ H Q=>ta J H λx H1=>j J H1 λxs H2=>Q (x::xs) H2
section
variable{X:Cx}{e:b7}{es:ar b7}{te:TE}{t:TA}{pos:dj}
theorem GS:PA X [] SJ:=λ_ _ _ _ H Q I h=>RH ⟨[],H,I,.nil,h⟩
theorem DA(ha:PE X e te)(hr:PA X es t)(a:bj (e::es) X.env=(aw,cg e X.env)::bj es X.env:=by rfl):PA X (e::es) (LP te t):=by
 intro pos aa s J H Q I h;rw[a];show wpAny _ _ (spliced ((aw,cg e X.env)::cw pos (bj es X.env))) _ _ s;refine KY (bI (ha aa s J H _ I h) λu q ⟨x,f,c,B,U⟩=>?_);exact bI (hr pos aa q J f _ c U) λg s2 ⟨j,d,b,z,N⟩=>⟨x::j,d,b,.cons B z,N⟩
def ahI(t:TA):TE:=λJ H Q=>t J H λxs H1=>xs.length<=bg/\∀p,H1 p=av->Q (.ref p) (upd H1 p (.tup xs))
def ahQ(t:TA):TE:=λJ H Q=>t J H λxs H1=>xs.length<=bg/\∀p,H1 p=av->Q (.ref p) (upd H1 p (.lst xs))
theorem amY{a}(h:PA X es t):PE X (.Tuple es a pos) (ahI t):=by
 intro aa s J H Q I d;refine wpAny_Tuple_spliced (bI (h pos aa s J H _ I d) λc j ⟨U,N,B,r,z,q⟩=>⟨by rw[<-r.length];exact z,?_⟩);have f:N j.heap.objs.size=av:=B.aJ.fresh cX;refine⟨.ref j.heap.objs.size,upd N j.heap.objs.size (.tup U),B.laid (t':=j.toks) (λb u e=>eI _ e) cX ?_,rfl,q _ f⟩;exact⟨z,c,r,⟨_,gO _ rfl,rfl,_,rfl⟩⟩
theorem am5(h:PA X es t):PE X (.List es pos) (ahQ t):=by
 intro aa s J H Q I c;refine wpAny_List_spliced (bI (h pos aa s J H _ I c) λa j ⟨U,N,B,r,z,q⟩=>⟨by rw[<-r.length];exact z,?_⟩);have d:N j.heap.objs.size=av:=B.aJ.fresh cX;refine⟨.ref j.heap.objs.size,upd N j.heap.objs.size (.lst U),B.laid (t':=j.toks) (λb u e=>eI _ e) cX ?_,rfl,q _ d⟩;exact⟨z,a,0,r,gO _ rfl⟩
end
abbrev Sp:=ar V->Hp->VK->XK->Prop
abbrev rA:=ar Env->Hp->ay->XK->au->ay->Prop
structure zU(P:bp)(w:bz)(K:bu)(mg:bh->ax au)(base:b9)(A:bx)(outer:ar Env)(s:ay)(H:Hp):Prop where
 frames:A.frames=aq outer
 mod:Mod K mg base
 bs:∀b o,base.get? b=aq o->s.heap.get? b=aq o/\H b=av
 sX:base.objs.size<=s.heap.objs.size
 pS:s.heap.FunFrames base outer
 vL:∀b∈jD outer,H b=av
 aJ:fU P w H s.heap
 bare:AllBare s.gens
def CE(outer:ar Env)(P:bp)(w:bz)(H:Hp)(s:ay)(Q:VK)(u:au)(s':ay):Prop :=
 ∃v H',s'.os=s.os/\AllBare s'.gens/\Un (jD outer) [] H H' s.heap s'.heap/\fU P w H' s'.heap/\RelV v u/\Q v H'
def CR(CX:rA)(outer:ar Env)(P:bp)(w:bz)(H:Hp)(s:ay)(Q:VK)(E:XK)(r:Result)(s':ay):Prop :=
 match r with
 |.ok (.ret u)=>CE outer P w H s Q u s'
 |.ok _=>cq
 |.error e=>CX outer H s E e s'
structure iI(P:bp)(w:bz)(K:bu)(mg:bh->ax au)(base:b9)(CX:rA)(k:a9)(f:az)(fd:cx)(ps:ar bh)(sp:Sp):Prop where
 len:∀vs H Q E,sp vs H Q E->vs.length=ps.length
 run:∀(A:bx) (outer:ar Env) (s:ay) (H:Hp) (args:Args) (us:ar au) (vs:ar V) (Q:VK) (E:XK),cR k A->zU P w K mg base A outer s H->BindsTo s fd args (ps.zip us)->Vals vs us->sp vs H Q E ->
  codeAny (bw P w) A (.call (.ref f) args) (CR CX outer P w H s Q E) s
theorem iI.mono{P:bp}{w:bz}{K:bu}{mg:bh->ax au}{base:b9}{CX:rA}{j k:a9}{f:az}{fd:cx}{ps:ar bh}{sp:Sp}(F:iI P w K mg base CX j f fd ps sp)(h:j<=k) :
  iI P w K mg base CX k f fd ps sp:=⟨F.len,λA outer s H args us q Q E hr=>F.run A outer s H args us q Q E (hr.mono h)⟩
theorem iI.imp{P:bp}{w:bz}{K:bu}{mg:bh->ax au}{base:b9}{CX:rA}{k:a9}{f:az}{fd:cx}{ps:ar bh}{sp j:Sp}(F:iI P w K mg base CX k f fd ps sp)
  (h:∀vs H Q E,j vs H Q E->sp vs H Q E):iI P w K mg base CX k f fd ps j :=
 ⟨λvs H Q E q=>F.len vs H Q E (h _ _ _ _ q),λA outer s H args us vs Q E hr he hb hv z=>F.run A outer s H args us vs Q E hr he hb hv (h _ _ _ _ z)⟩
theorem zU.make{P:bp}{w:bz}{K:bu}{mg:bh->ax au}{base:b9}{A:bx}{outer:ar Env}{s:ay}{H:Hp}(e:zU P w K mg base A outer s H)(C:az)(us:ar au)(kw:ar (bh×au)) :
  zU P w K mg base (A.under (.builtin "type.__call__" ⟨.ref C::us,kw⟩)) outer s H:=⟨by first|exact e.frames|(simpa[Around.under,Code.envs,Code.isFrame,pushEnvs]using e.frames),e.mod,e.bs,e.sX,e.pS,e.vL,e.aJ,e.bare⟩
section
variable{X:Cx}{aa:ar (az×cz)}{J:St}{H:Hp}{s s':ay}
theorem Inv.IG(I:Inv X aa J H s):zU X.prog X.w X.K X.mg X.base X.A X.stack s H :=
 ⟨I.ok.frames,I.ok.mod,I.bs,rX I.ok.sX I.sz,I.stack,I.Ax,I.aJ,I.bare⟩
theorem Inv.after{Q:VK}{u:au}(I:Inv X aa J H s)(h:CE X.stack X.prog X.w H s Q u s'):EP X aa J Q u s':=by
 obtain⟨v,j,os,bare,un,aJ,r,q⟩:=h;obtain⟨hh,g,d,t,Dx⟩:=s';obtain rfl:Dx=s.os:=os;exact⟨v,j,I.call (h':=hh) (g':=g) (d':=d) (t':=t) (ch:=[]) un aJ bare (λb z=>b8 z (by simp)),r,q⟩
end
def Si(sp:Sp)(dvs:ar V)(E:XK)(t:TA):TE:=λJ H Q=>t J H λvs H1=>sp (vs++dvs) H1 Q E
def ahP(C:az)(sp:Sp)(dvs:ar V)(E:XK)(t:TA):TE:=λJ H Q=>t J H λvs H1=>∀x dx,H1 x=av->H1 dx=av->dx≠x ->
 sp (.ref x::(vs++dvs)) (upd (upd H1 dx (.own x)) x (.ins C dx [])) (λv H2=>v=.cZ/\Q (.ref x) H2) E
def Binds(K:bu)(fd:cx)(ps:ar bh)(ds:ar au):Prop :=
 ∀(s:ay) (us:ar au),K.In s.heap->(us++ds).length=ps.length->BindsTo s fd ⟨us,[]⟩ (ps.zip (us++ds))
theorem Binds.all{K:bu}{fd:cx}{ps:ar bh}(h:∀us:ar au,us.length=ps.length->dh fd ⟨us,[]⟩=pure (ps.zip us)):Binds K fd ps []:=λs us _ hl=>by
 rw[tG]at hl ⊢;exact .of_eq (h us hl)
def Passes(CX:rA)(X:Cx)(E:XK):Prop:=∀(aa:ar (az×cz)) (J:St) (H:Hp) (s:ay) (e:au) (s':ay),Inv X aa J H s->CX X.stack H s E e s'->X.xe e s'
section
variable{X:Cx}{CX:rA}{k:a9}{f C:az}{fd:cx}{ps:ar bh}{sp:Sp}{dvs:ar V}{ds:ar au}{E:XK}{x m:bh}{p pos ai:dj}{e o:b7}{es:ar b7}{ta:TE}{t:TA}
theorem akO{aa:ar (az×cz)}{J:St}{H:Hp}{s:ay}{Q:VK}{us:ar au}{vs:ar V}(F:iI X.prog X.w X.K X.mg X.base CX k f fd ps sp)(hr:cR k X.A)(hb:Binds X.K fd ps ds)(hd:Vals dvs ds)(z:Passes CX X E)
  (I:Inv X aa J H s) (r:Vals vs us) (h:sp (vs++dvs) H Q E):wpAny (bw X.prog X.w) X.A (call (.ref f) us) (EP X aa J Q) X.xe s:=by
 have q:Vals (vs++dvs) (us++ds):=r.append hd;have hl:(us++ds).length=ps.length:=by rw[<-q.length];exact F.len _ _ _ _ h
 refine FY (vN (F.run X.A X.stack s H ⟨us,[]⟩ (us++ds) (vs++dvs) Q E hr I.IG (hb s us I.fZ hl) q h) λr s' j=>?_);cases r with
 |error e=>exact z aa J H s e s' I j
 |ok fl =>
  cases fl with
  |ret u=>exact I.after j
  |next=>exact False.elim j
  |brk=>exact False.elim j
  |cont=>exact False.elim j
theorem anM(F:iI X.prog X.w X.K X.mg X.base CX k f fd ps sp)(hr:cR k X.A)(U:Gl X x)(hm:X.mg x=aq (.ref f))(N:ek X.K (.ref f)=a5)(hb:Binds X.K fd ps ds)(hd:Vals dvs ds)(B:Passes CX X E)
  (ha:PA X (e::es) t) (z:(x==("__debug__" : bh))=aw:=by decide) (he:bj (e::es) X.env=(aw,cg e X.env)::bj es X.env:=by rfl) (a:(cw pos (bj es X.env)).any (·.1)=aw:=by rfl) :
  PE X (.Call (.Name x p) (e::es) [] pos) (Si sp dvs E t):=by
 intro aa s J H Q I h;refine xP (HF I U hm ?_ z);refine callWith_K (h₀:=X.base) I.ok.mod.tT N (bI (ha pos aa s J H _ I h) λc d ⟨b,g,j,r,q⟩=>⟨j.fZ,?_⟩) he a;exact akO F hr hb hd B j r q
structure Mk(K:bu)(C f:az):Prop where
 makes:makesIn K C=a5
 init:dq K (.ref C) "__init__" = aq (aq (.ref f))
 fn:isFn K (.ref f)=a5
 kp:ek K (.ref C)=a5
theorem akN{aa:ar (az×cz)}{J:St}{H:Hp}{s:ay}{Q:VK}{us:ar au}{vs:ar V}(M:Mk X.K C f)(F:iI X.prog X.w X.K X.mg X.base CX k f fd ps sp)(hr:cR (k+1) X.A)(hb:Binds X.K fd ps ds)(hd:Vals dvs ds)
  (a:Passes CX X E) (I:Inv X aa J H s) (r:Vals vs us)
  (h:∀x dx,H x=av->H dx=av->dx≠x->sp (.ref x::(vs++dvs)) (upd (upd H dx (.own x)) x (.ins C dx [])) (λv H2=>v=.cZ/\Q (.ref x) H2) E) :
  wpAny (bw X.prog X.w) X.A (call (.ref C) us) (EP X aa J Q) X.xe s:=by
 have B:=h (s.heap.objs.size+1) s.heap.objs.size (I.aJ.fresh (JG _)) (I.aJ.fresh cX) (gF (XX _));have q:=Inv.made (C:=C) I;have z:Vals (V.ref (s.heap.objs.size+1)::(vs++dvs)) (Value.ref (s.heap.objs.size+1)::(us++ds)):=.cons rfl (r.append hd);have hl:(Value.ref (s.heap.objs.size+1)::us++ds).length=ps.length:=by
  have e:=z.length;rw[F.len _ _ _ _ B]at e;exact e.symm
 refine FY (ap6 (f:=f) I.fZ M.makes M.init (EW.mp M.fn) (vN (F.run _ X.stack _ _ ⟨Value.ref (s.heap.objs.size+1)::us,[]⟩ (Value.ref (s.heap.objs.size+1)::(us++ds)) _ _ E (hr.make C us [])
  (q.IG.make C us []) (hb _ (Value.ref (s.heap.objs.size+1)::us) q.fZ hl) z B) λr s' j=>?_))
 cases r with
 |error e=>exact a aa J _ _ e s' q j
 |ok fl =>
  cases fl with
  |ret u =>
   obtain⟨v,d,c,N,b,U⟩:=q.after j;subst b;exact⟨N,⟨V.ref (s.heap.objs.size+1),d,c,rfl,U⟩⟩
  |next=>exact False.elim j
  |brk=>exact False.elim j
  |cont=>exact False.elim j
theorem am4(M:Mk X.K C f)(F:iI X.prog X.w X.K X.mg X.base CX k f fd ps sp)(hr:cR (k+1) X.A)(N:Gl X x)(hm:X.mg x=aq (.ref C))(hb:Binds X.K fd ps ds)(hd:Vals dvs ds)(B:Passes CX X E)
  (ha:PA X (e::es) t) (z:(x==("__debug__" : bh))=aw:=by decide) (he:bj (e::es) X.env=(aw,cg e X.env)::bj es X.env:=by rfl) (U:(cw pos (bj es X.env)).any (·.1)=aw:=by rfl) :
  PE X (.Call (.Name x p) (e::es) [] pos) (ahP C sp dvs E t):=by
 intro aa s J H Q I h;refine xP (HF I N hm ?_ z);refine callWith_K (h₀:=X.base) I.ok.mod.tT M.kp (bI (ha pos aa s J H _ I h) λb c ⟨a,d,j,r,q⟩=>⟨j.fZ,?_⟩) he U;exact akN M F hr hb hd B j r q
end
structure cS(N P:ar bh)(sc:cu):Prop where
 kind:sc.kind=.function
 co:sc.isCoroutine=aw
 gen:sc.isGenerator=aw
 nd:N.Nodup
 pre:N.take P.length=P
 par:∀x∈P,sc.names.lookup x=aq .local\/sc.names.lookup x=aq .cell
 ao3:∀y∈sc.names,y.2≠.free
theorem acB{kindOf:bh->ax dr}{x:bh}:∀{binds:ar (bh×au)} {m:bh->ax au},(∀v,(x,v)∉binds)->bindL kindOf binds m x=m x
 |[],_,_=>rfl
 |(n,v)::r,m,h=>by
  unfold bindL;rw[acB λw hw=>h w (fS _ hw)];split
  ·have:x≠n:=by rintro rfl;exact h v List.mem_cons_self
   simp[this]
  ·rfl
theorem acD{kindOf:bh->ax dr}{x:bh}:∀{binds:ar (bh×au)} {m:bh->ax au},(∀v,(x,v)∉binds)->bindC kindOf binds m x=m x
 |[],_,_=>rfl
 |(n,v)::r,m,h=>by
  unfold bindC;rw[acD λw hw=>h w (fS _ hw)];split
  ·rfl
  ·have:x≠n:=by rintro rfl;exact h v List.mem_cons_self
   simp[this]
theorem acC{kindOf:bh->ax dr}{x:bh}{v:au}:∀{P:ar bh} {vs:ar au} {i:a9} {m:bh->ax au},P.Nodup->P[i]?=aq x->vs[i]?=aq v->kindOf x=aq .local ->
  bindL kindOf (P.zip vs) m x=aq v
 |[],_,_,_,_,h,_,_=>by simp at h
 |_::_,[],_,_,_,_,h,_=>by simp at h
 |p::P,w::vs,0,m,nd,h1,h2,j=>by
  simp at h1 h2;subst h1;subst h2;show bindL kindOf ((p,w)::P.zip vs) m p=_;unfold bindL;rw[acB λv hv=>(rY.mp nd).1 (Mx hv).1,bb j];simp
 |p::P,w::vs,i+1,m,nd,h1,h2,j=>by
  show bindL kindOf ((p,w)::P.zip vs) m x=_;unfold bindL;exact acC (i:=i) (rY.mp nd).2 (by simpa using h1) (by simpa using h2) j
theorem acE{kindOf:bh->ax dr}{x:bh}{v:au}:∀{P:ar bh} {vs:ar au} {i:a9} {m:bh->ax au},P.Nodup->P[i]?=aq x->vs[i]?=aq v->kindOf x≠aq .local ->
  bindC kindOf (P.zip vs) m x=aq v
 |[],_,_,_,_,h,_,_=>by simp at h
 |_::_,[],_,_,_,_,h,_=>by simp at h
 |p::P,w::vs,0,m,nd,h1,h2,j=>by
  simp at h1 h2;subst h1;subst h2;show bindC kindOf ((p,w)::P.zip vs) m p=_;unfold bindC;rw[acD λv hv=>(rY.mp nd).1 (Mx hv).1,bc j];simp
 |p::P,w::vs,i+1,m,nd,h1,h2,j=>by
  show bindC kindOf ((p,w)::P.zip vs) m x=_;unfold bindC;exact acE (i:=i) (rY.mp nd).2 (by simpa using h1) (by simpa using h2) j
noncomputable def start(N:ar bh)(vs:ar V):St:=vs.map aq++List.replicate (N.length-vs.length) av
noncomputable def uD(CX:rA)(P:bp)(w:bz)(K:bu)(mg:bh->ax au)(base:b9)(N:ar bh)(qual:bh)(scope:cu)(f:az)(j:au)(A:bx)(outer:ar Env)(s:ay)(H:Hp)(E:XK):Cx where
 prog:=P
 w:=w
 K:=K
 mg:=mg
 base:=base
 A:=A.deeper (c6 qual scope s.heap.objs.size f j)
 N:=N
 s₀:=s
 H₀:=H
 env:=c6 qual scope s.heap.objs.size f j
 outer:=outer
 stack:=c6 qual scope s.heap.objs.size f j::outer
 ex:=[]
 calm:=a5
 fn:=λ_=>a5
 pn:=[]
 xe:=λe s'=>wpAny (bw P w) (A.deeper (c6 qual scope s.heap.objs.size f j)) (leaving (c6 qual scope s.heap.objs.size f j) e) (λ_ q=>CX outer H s E e q) (λz q=>CX outer H s E z q) s'
theorem ab4{sc:cu}{n:a9}{x:bh}(h:sc.names.lookup x=aq .cell):∃c,(cellsFrom n sc.names []).lookup x=aq c:=by
 have q:=cellsFrom_some sc.names n [] (.inl h);exact Option.isSome_iff_exists.mp q
theorem Xn{CX:rA}{P:bp}{w:bz}{K:bu}{mg:bh->ax au}{base:b9}{N ps:ar bh}{qual:bh}{scope:cu}{f:az}{d:au}{A:bx}{outer:ar Env}{s l:ay}{H:Hp}{E:XK}{us:ar au}{vs:ar V}
  (S:cS N ps scope) (hd:A.handled=av) (j:zU P w K mg base A outer s H) (hl:vs.length=ps.length) (r:Vals vs us)
  (x:InCallC s s.heap.objs.size (bindL (c6 qual scope s.heap.objs.size f d).kindOf (ps.zip us) λ_=>av) (cellsFrom (s.heap.objs.size+1) scope.names []) (bindC (c6 qual scope s.heap.objs.size f d).kindOf (ps.zip us) λ_=>av) l) :
  Inv (uD CX P w K mg base N qual scope f d A outer s H E) [] (start N vs) H l:=by
 have F:ps.length<=N.length:=by have:=c3 List.length S.pre;rw[JS]at this;omega
 obtain⟨h1,tk,rfl,o⟩:=x.done;have g:∀b:az,b∉(uD CX P w K mg base N qual scope f d A outer s H E).ex:=λb z=>b8 (show b∈([]:ar az)from z) (by simp);refine⟨⟨j.mod,S.kind,rfl,rfl,qS _,λy z c h1 h2=>?_,λy B=>?_,λy c _ h=>?_,λ_=>hd,Around.frames_deeper j.frames,.inr ⟨rfl,rfl⟩,λb z=>b8 z (g b),j.bs,j.sX,λb _ _=>g b,λb z=>b8 z (g b),j.pS,j.vL⟩,
  rfl,j.bare,Un.kept o,⟨_,x.toInCall.ns,λi y v h1 h2 D=>?_⟩,λy c h=>⟨_,x.cell y c h⟩,j.aJ.fresh cX,λy c h=>?_,λp U=>b8 (show p∈([]:ar (az×cz))from U) (by simp),j.aJ.kept o,?_⟩
 ·exact name_of_addr x.apart (PySem.mem_of_lookup h1) (PySem.mem_of_lookup h2)
 ·have B:scope.names.lookup y=aq .cell\/scope.names.lookup y=aq .free:=B
  rcases B with B|B
  ·exact ab4 B
  ·exact b8 rfl (S.ao3 _ (PySem.mem_of_lookup B))
 ·exact Mj (x.above y c (PySem.mem_of_lookup h))
 ·have hi:i<vs.length:=by
   unfold start at h2
   by_cases hi:i<vs.length
   ·exact hi
   ·rw[qV (by simpa using hi)]at h2;rw[List.getElem?_replicate]at h2;split at h2 <;> cases h2
  have ha:vs[i]?=aq v:=by
   unfold start at h2;rw[iS (by simpa using hi),jN]at h2;cases e:vs[i]? with
   |none=>rw[e]at h2;cases h2
   |some a=>rw[e]at h2;cases h2;rfl
  obtain⟨u,m,C⟩:=r.get ha;have U:ps[i]?=aq y:=by
   rw[<-S.pre,aeB (by omega)];exact h1
  have t:ps.Nodup:=by rw[<-S.pre];exact S.nd.sublist (YD _ _)
  refine⟨u,C,?_⟩
  rcases S.par y (nA U)with k|k
  ·exact .inl ⟨k,acC t U m k⟩
  ·obtain⟨c,e⟩:=ab4 (n:=s.heap.objs.size+1) k;refine .inr ⟨.inl k,c,e,?_⟩;have q:=x.cell y c e;rw[acE t U m (by show scope.names.lookup y≠_;rw[k];decide)]at q;exact q
 ·exact j.aJ.fresh (Mj (x.above y c (PySem.mem_of_lookup h)))
 ·unfold start;show _=N.length;rw[iR,lQ,List.length_replicate];omega
theorem VZ{CX:rA}{P:bp}{w:bz}{K:bu}{mg:bh->ax au}{base:b9}{k:a9}{f:az}{name qual:bh}{params:de}{body:ar cb}{scope:cu}{h kV doc d z ct p:au}{i od:ax az}
  {G:ba (ax au)} {N ps:ar bh} {sp:Sp} (C:K.lookup f=aq ⟨p,od,.func (et name qual params body scope h kV doc d i z ct),G⟩) (F:codeIn K z qual=a5) (S:cS N ps scope)
  (len:∀vs H Q E,sp vs H Q E->vs.length=ps.length)
  (D:∀(A:bx) (outer:ar Env) (s:ay) (H:Hp) (vs:ar V) (Q:VK) (E:XK),cR k (A.deeper (c6 qual scope s.heap.objs.size f z))->sp vs H Q E ->
   ∃t,tF (uD CX P w K mg base N qual scope f z A outer s H E) body t/\t {nx:=λ_ H'=>Q .cZ H',rt:=Q} (start N vs) H) :
  iI P w K mg base CX (k+1) f (et name qual params body scope h kV doc d i z ct) ps sp:=by
 refine⟨len,λA outer s H args m vs Q E hr U hb r g=>?_⟩;have hl:=len _ _ _ _ g;have l:K.In s.heap:=U.mod.tT.keeps λb o e=>(U.bs b o e).1;have lim:s.heap.NoLimit:=U.mod.nolimit.keeps λb o e=>(U.bs b o e).1;have T:∀y∈ps.zip m,scope.names.lookup y.1=aq .local\/(scope.names.lookup y.1=aq .cell/\((cellsFrom (s.heap.objs.size+1) scope.names []).lookup y.1).isSome=a5):=λ⟨n,v⟩ L=>by
  rcases S.par n (Mx L).1 with q|q
  ·exact .inl q
  ·exact .inr ⟨q,cellsFrom_some _ _ _ (.inl q)⟩
 refine codeAny_call_function hr.depth (l _ _ C) rfl S.co S.gen rfl (PySem.W.codeRec_of l F) (hb _ _ _ _ ?_);refine wpAny_newFunctionEnv_cells S.kind T λenv he c x=>?_;subst he;refine⟨lim.keeps x.toInCall.keep,codeAny_func ?_⟩;obtain⟨t,M,R⟩:=D A outer s H vs Q E (hr.deeper _) g;have I:Inv (uD CX P w K mg base N qual scope f z A outer s H E) [] (start N vs) H c:=Xn S hr.hd U hl r x;refine pZ (M [] c (start N vs) H _ I R) (λfl s' B=>?_) λe s' B=>B;have fin:∀{j:St} {H':Hp} {v:V} {u:au},Inv (uD CX P w K mg base N qual scope f z A outer s H E) [] j H' s'->RelV v u->Q v H'->CE outer P w H s Q u s' :=
  λ{j H' v u} σ a q=>⟨v,H',σ.os,σ.bare,σ.base,σ.aJ,a,q⟩
 cases fl with
 |ret u =>
  obtain⟨v,j,H',σ,a,q⟩:=B;exact fin σ a q
 |next =>
  obtain⟨j,H',σ,q⟩:=B;exact fin (v:=V.cZ) (u:=Value.none) σ rfl q
 |brk =>
  obtain⟨_,_,_,q⟩:=B;exact False.elim q
 |cont =>
  obtain⟨_,_,_,q⟩:=B;exact False.elim q
section
variable{X:Cx}{x:bh}{p pos:dj}{e:b7}{es:ar b7}{t:TA}{id T:dk}{r:ar V->Hp->VK->Prop}
def As(r:ar V->Hp->VK->Prop)(t:TA):TE:=λJ H Q=>t J H λvs H1=>r vs H1 Q
theorem Du(b:tK X (.builtin id) r)(a:Gl X x)(hm:X.mg x=av)(hv:dz x=aq (.builtin id))(ha:PA X (e::es) t)(hn:x≠"__name__":=by decide)(U:(x==("__debug__" : bh))=aw:=by decide)
  (he:bj (e::es) X.env=(aw,cg e X.env)::bj es X.env:=by rfl) (c:(cw pos (bj es X.env)).any (·.1)=aw:=by rfl):PE X (.Call (.Name x p) (e::es) [] pos) (As r t):=by
 intro aa s J H Q I h;refine xP (DL I a hm hv ?_ hn U);exact PyProof.Rows.callWith_builtin1 (bI (ha pos aa s J H _ I h) λq z ⟨j,f,d,B,N⟩=>b aa z J f j q Q d B N) he c
theorem anL(b:tK X (.type T) r)(a:Gl X x)(hm:X.mg x=av)(hv:dz x=aq (.type T))(ha:PA X (e::es) t)(hn:x≠"__name__":=by decide)(U:(x==("__debug__" : bh))=aw:=by decide)
  (he:bj (e::es) X.env=(aw,cg e X.env)::bj es X.env:=by rfl) (c:(cw pos (bj es X.env)).any (·.1)=aw:=by rfl):PE X (.Call (.Name x p) (e::es) [] pos) (As r t):=by
 intro aa s J H Q I h;refine xP (DL I a hm hv ?_ hn U);exact XW (bI (ha pos aa s J H _ I h) λq z ⟨j,f,d,B,N⟩=>b aa z J f j q Q d B N) he c
end
end L2
namespace HT
open PySem PyProof.Rows
section
variable{prog:bp}{w:bz}{A:bx}{E:au->ay->Prop}{s:ay}
theorem aAE{t b:az}{vs j:ar au}{Q:au->ay->Prop}(f:IsTup s.heap t vs.toArray)(hb:IsTup s.heap b j.toArray)(hv:vs≠[])
  (h1:j=[]->Q (.ref t) s) (h2:j≠[]->Q (.ref s.heap.objs.size) {s with heap:=s.heap.push {cls:=.type "tuple",data:=.seq (vs++j).toArray} })
  (hsz:vs.length+j.length<=bg):wpAny (bw prog w) A (c4 .Add (.ref t) (.ref b)) Q E s:=by
 obtain⟨⟨cls,c,data,sl⟩,B,a,n,hd⟩:=id f;obtain⟨⟨g,q,data2,d⟩,z,N,U,hd2⟩:=id hb;simp only at a hd N hd2;subst a hd N hd2;have e:vs.toArray++j.toArray=(vs++j).toArray:=by simp
 by_cases hw:j=[]
 ·exact concat_meets ⟨_,B,rfl⟩ ⟨_,z,rfl⟩ noFill_tuple_add seq_tuple_add PySem.F.slot_tuple_add PySem.F.entry_tuple_add (PySem.F.args_tuple_add_2 _ _)
   (tuple_addW1 t b vs.toArray j.toArray n U c q sl d (by simpa using hv) (by simp[hw])) ⟨B,z,h1 hw⟩
 ·refine concat_meets ⟨_,B,rfl⟩ ⟨_,z,rfl⟩ noFill_tuple_add seq_tuple_add PySem.F.slot_tuple_add PySem.F.entry_tuple_add (PySem.F.args_tuple_add_2 _ _)
   (tuple_addW2 t b vs.toArray j.toArray n U c q sl d (by simpa using hv) (by simpa using hw) (by rw[lE,lE];exact hsz)) ⟨B,z,?_⟩
  rw[e];exact h2 hw
noncomputable def LW(n d:a9):ax a8->a9
 |none=>d
 |some v=>if v<0 then(v+(n:a8)).toNat else min v.toNat n
end
end HT
namespace L2
open PySem PySem.Spec PyProof.Rows
abbrev TO:=St->Hp->(ax a8->Hp->Prop)->Prop
theorem intsAre_of{ns:ar a8}:∀{us:ar au},Vals (ns.map V.int) us->c7 us ns:=by
 induction ns with
 |nil=>intro us r;rw[uI]at r;cases r;exact .nil
 |cons n ns ih =>
  intro us r;rw[cP]at r;cases r with
  |cons q j =>
   obtain⟨t,e⟩:=q;subst e;exact .cons n t (ih j)
section
variable{X:Cx}{e:b7}{te:TE}{lo hi:ax b7}{tl th:TO}{pos p2:dj}
def ak0(K:bu):R2:=λx y H Q=>∃a b xs ys,x=.ref a/\y=.ref b/\kI K H a xs/\kI K H b ys/\xs≠[]/\xs.length+ys.length<=bg /\
 (ys=[]->Q (.ref a) H)/\(ys≠[]->∀p,H p=av->Q (.ref p) (upd H p (.tup (xs++ys))))
theorem Vals.Ek{xs:ar V}{us:ar au}(r:Vals xs us):us=[]<->xs=[]:=by
 cases r with
 |nil=>simp
 |cons _ _=>simp
theorem aoB:iH X (c4 .Add) (ak0 X.K):=by
 intro aa s J H x y v u Q I e d h;obtain⟨a,b,c,U,rfl,rfl,ha,hb,k,N,g,f⟩:=h;cases e;cases d;obtain⟨m,B,i,_⟩:=I.tuple ha;obtain⟨n,j,p2,_⟩:=I.tuple hb;refine HT.aAE i p2 (λz=>k (B.Ek.mp z)) (λz=>⟨.ref a,H,I,rfl,g (j.Ek.mp z)⟩) (λz=>?_) (by rw[<-B.length,<-j.length];exact N);refine⟨.ref s.heap.objs.size,_,I.laid (t':=s.toks) (o:=.tup (c++U)) (λb l q=>eI _ q) cX ?_,rfl,f (λw=>z (j.Ek.mpr w)) _ (I.aJ.fresh cX)⟩;exact⟨by rw[iR];exact N,_,B.append j,IsTup.new _ _⟩
end
noncomputable def sN(n:a9)(i:a8):ax a9:=if 0<=i then(if i<n then aq i.toNat else av)else if -(n:a8)<=i then aq (i+n).toNat else av
def eO{α:Type}(xs:ar α)(i:a8):ax α:=(sN xs.length i).bind λj=>xs[j]?
theorem Xj{n:a9}{i:a8}{j:a9}(h:sN n i=aq j):seqIndex? i n=aq j/\j<n/\-(n:a8)<=i/\i<n:=by
 unfold sN at h
 by_cases q:0<=i
 ·rw[bb q]at h
  by_cases h1:i<n
  ·rw[bb h1]at h;have e:i.toNat=j:=kJ h;exact⟨by rw[seqIndex_of q h1,e],by omega,by omega,h1⟩
  ·rw[bc h1]at h;cases h
 ·rw[bc q]at h
  by_cases h1 : -(n:a8)<=i
  ·rw[bb h1]at h;have e:(i+n).toNat=j:=kJ h;exact⟨by rw[seqIndex_neg (by omega) h1,e],by omega,h1,by omega⟩
  ·rw[bc h1]at h;cases h
theorem Lp{α:Type}{xs:ar α}{i:a8}{v:α}(h:eO xs i=aq v):∃j,seqIndex? i xs.length=aq j/\xs[j]?=aq v/\j<xs.length/\-(xs.length:a8)<=i/\i<xs.length:=by
 unfold eO at h;cases e:sN xs.length i with
 |none=>rw[e]at h;cases h
 |some j =>
  rw[e]at h;obtain⟨h1,h2,z,q⟩:=Xj e;exact⟨j,h1,h,h2,z,q⟩
theorem aA8{α:Type}(xs:ar α)(v:α):eO (xs++[v]) (-1)=aq v:=by
 have hl:(xs++[v]).length=xs.length+1:=by simp
 have e:sN (xs++[v]).length (-1)=aq xs.length:=by
  unfold sN;rw[hl,bc (by decide),bb (by omega)];congr 1;omega
 unfold eO;rw[e];show(xs++[v])[xs.length]?=aq v;simp
def adR(b:b7):Prop:=∀o i,subscripted b aw o i=operate [o,i] (getItem o i)
def zM(X:Cx)(r:R2):Prop :=
 ∀(value slice:b7) (aa:ar (az×cz)) (s:ay) (J:St) (H:Hp) (x y:V) (v u:au) (Q:VK),Inv X aa J H s->RelV x v->RelV y u->r x y H Q ->
  subscripted slice aw v u=operate [v,u] (getItem v u)->wpAny (bw X.prog X.w) X.A (subscriptTail value slice v u) (EP X aa J Q) X.xe s
def MtR(X:Cx)(id:dk)(r:V->ar V->Hp->VK->Prop):Prop :=
 ∀(aa:ar (az×cz)) (s:ay) (J:St) (H:Hp) (x:V) (xs:ar V) (v:au) (us:ar au) (Q:VK),Inv X aa J H s->RelV x v->Vals xs us->r x xs H Q ->
  wpAny (bw X.prog X.w) X.A (call (.builtin id) (v::us)) (EP X aa J Q) X.xe s
section
variable{X:Cx}{a b:b7}{ta tb:TE}{pos:dj}
theorem zM.or{r B:R2}(h:zM X r)(h':zM X B):zM X (λx y H Q=>r x y H Q\/B x y H Q):=by
 intro value slice aa s J H x y v u Q I z j q N
 rcases q with q|q
 ·exact h value slice aa s J H x y v u Q I z j q N
 ·exact h' value slice aa s J H x y v u Q I z j q N
theorem anA{r:R2}(hr:zM X r)(ha:PE X a ta)(hb:PE X b tb)(B:adR b):PE X (.Subscript a b pos) (LN r ta tb):=by
 intro aa s J H Q I h;exact Subscript_ (Jx ha hb I h λv u s2 x y U N z j q=>hr a b aa s2 J U x y v u Q N z j q (B _ _))
def Tx(K:bu):R2:=λx y H Q=>∃p xs i v,x=.ref p/\y=.int i/\fW K H p xs/\eO xs i=aq v/\Q v H
def Tv(K:bu):R2:=λx y H Q=>∃p xs i v,x=.ref p/\y=.int i/\kI K H p xs/\eO xs i=aq v/\Q v H
def Tw:R2:=λx y H Q=>∃z i c,x=.str z/\y=.int i/\z.length<=bg/\eO z.cps.toList i=aq c/\Q (.str ⟨#[c]⟩) H
theorem arM:zM X (Tx X.K):=by
 intro value slice aa s J H x y v u Q I c b h N;obtain⟨p,l,i,z,rfl,rfl,e,he,q⟩:=h;cases c;obtain⟨t,rfl⟩:=b;obtain⟨k,r,pl,m⟩:=I.list e;obtain⟨j,h1,h2,n,g,f⟩:=Lp he;obtain⟨w,a,d⟩:=r.get h2;have hl:=r.length;have hn:=MQ;have fin:EP X aa J Q w s:=⟨z,H,I,d,q⟩
 by_cases U:0<=i
 ·have B:i.toNat=j:=by
   rw[seqIndex_of U f]at h1;exact kJ h1
  exact item_listR pl.isList U (by omega) (by rw[B];simpa using a) fin N
 ·have B:(i+(k.toArray.size:a8)).toNat=j:=by
   rw[seqIndex_neg (by omega) g]at h1;rw[lE,<-hl];exact kJ h1
  exact subscriptTail_builtinR (x:=w) pl.isList.typeIs slot_list_getitem.lookup
   (wpAny_getItem_list_neg (Q:=λr s'=>r=w/\EP X aa J Q r s') pl.isList (by omega) (by rw[lE] <;> omega) (by omega) (by rw[B];simpa using a) ⟨rfl,fin⟩) N
theorem arJ:zM X (Tv X.K):=by
 intro value slice aa s J H x y v u Q I N B h a;obtain⟨p,d,i,z,rfl,rfl,b,he,q⟩:=h;cases N;obtain⟨t,rfl⟩:=B;obtain⟨l,r,pl,e⟩:=I.tuple b;obtain⟨j,h1,h2,k,g,f⟩:=Lp he;obtain⟨w,c,U⟩:=r.get h2;have hl:=r.length;have hn:=MQ;have fin:EP X aa J Q w s:=⟨z,H,I,U,q⟩;exact subscriptTail_builtinR (x:=w) pl.typeIs slot_tuple_getitem.lookup
  (getItem_tuple (j:=j) (Q:=λr s'=>r=w/\EP X aa J Q r s') pl (by omega) (by omega) (by rw[lE,<-hl];exact h1) (by simpa using c) ⟨rfl,fin⟩) a
theorem arK:zM X Tw:=by
 intro value slice aa s J H x y v u Q I N B h U;obtain⟨z,i,c,rfl,rfl,g,he,q⟩:=h;obtain⟨t,rfl⟩:=N;obtain⟨f,rfl⟩:=B;obtain⟨j,h1,h2,k,b,a⟩:=Lp he;have hl:z.cps.toList.length=z.length:=by simp[Str.length]
 rw[hl]at h1 b a;have hn:=MQ;exact tail_any (typeIs_str s z t) slot_str_getitem.lookup (getItem_str (c:=c) (by
  have e:decide (i < -(2 ^ 63:a8))=aw:=oH (by omega);have d:decide (i>=2 ^ 63)=aw:=oH (by omega);rw[e,d,Bool.or_false]) (by rw[h1];simpa using h2) ⟨.str ⟨#[c]⟩,H,I.tok _,⟨_,rfl⟩,q⟩) U
def rIx(K:bu):R2:=λx y H Q=>Tx K x y H Q\/Tv K x y H Q\/Tw x y H Q
theorem arL:zM X (rIx X.K):=arM.or (arJ.or arK)
theorem ap3(q:ar au)(n j:a9)(u:au):Obj.mapSeq (·.setIfInBounds j u) {cls:=.type "list",data:=.seq q.toArray n}={cls:=.type "list",data:=.seq (q.set j u).toArray n}:=by
 simp[Obj.mapSeq]
theorem Inv.lst{aa:ar (az×cz)}{J:St}{H:Hp}{s:ay}{p:az}{xs:ar V}(I:Inv X aa J H s)(h:H p=aq (.lst xs)) :
  ∃(j:ar au) (n:a9),Vals xs j/\s.heap.get? p=aq {cls:=.type "list",data:=.seq j.toArray n}/\xs.length<=bg:=by
 obtain⟨z,j,n,r,e⟩:=I.aJ p _ h;exact⟨j,n,r,e,z⟩
theorem Inv.aqB{aa:ar (az×cz)}{J:St}{H:Hp}{s:ay}{p:az}{xs ys:ar V}{z its':ar au}{n j:a9}{f:cz->cz}(I:Inv X aa J H s)(h:H p=aq (.lst xs))
  (B:s.heap.get? p=aq {cls:=.type "list",data:=.seq z.toArray n}) (hf:f {cls:=.type "list",data:=.seq z.toArray n}={cls:=.type "list",data:=.seq its'.toArray j}) (r:Vals ys its') (hz:ys.length<=bg) (t:a9) :
  Inv X aa J (upd H p (.lst ys)) {s with heap:=s.heap.update p f,toks:=t}:=by
 have e:(s.heap.update p f).get? p=aq {cls:=.type "list",data:=.seq its'.toArray j}:=by
  rw[QM f B (by rw[hf] <;> rfl),hf]
 refine I.write (x:=p) (e:=p) (by rw[h];trivial) (.inl rfl) (λb u hb q=>(tH _ _ (dM hb)).trans q) ⟨_,e⟩ ?_;exact⟨hz,its',j,r,e⟩
def akY:V->V->V->Hp->(Hp->Prop)->Prop:=λo i v H Q=>∃p xs k j,o=.ref p/\i=.int k/\H p=aq (.lst xs)/\sN xs.length k=aq j/\Q (upd H p (.lst (xs.set j v)))
theorem set_list:adS X akY:=by
 intro aa s J H o i v x y u Q I g l f h;obtain⟨p,e,k,j,rfl,rfl,N,w,q⟩:=h;cases g;obtain⟨t,rfl⟩:=l;obtain⟨c,n,r,z,m⟩:=I.lst N;obtain⟨h1,h2,a,U⟩:=Xj w;have hl:=r.length;have hn:=MQ;have d:Inv X aa J (upd H p (.lst (e.set j v))) {s with heap:=s.heap.update p (Obj.mapSeq (·.setIfInBounds j u))} :=
  I.aqB N z (ap3 c n j u) (r.set f j) (by rw[JT];exact m) s.toks
 by_cases b:0<=k
 ·have B:k.toNat=j:=by
   rw[seqIndex_of b U]at h1;exact kJ h1
  exact PySem.W.ki_setAt z b (by omega) (by rw[lE,<-hl];exact U) (by rw[B];exact⟨_,d,q⟩)
 ·have B:(k+(c.toArray.size:a8)).toNat=j:=by
   rw[seqIndex_neg (by omega) a]at h1;rw[lE,<-hl];exact kJ h1
  exact PySem.W.ki_setBack z (by omega) (by rw[lE,<-hl];exact a) (by omega) (by rw[B];exact⟨_,d,q⟩)
theorem aAM:tK X (.builtin "len") (λxs H Q=>∃p ys,xs=[.ref p]/\(fW X.K H p ys\/kI X.K H p ys)/\Q (.int ys.length) H):=by
 intro aa s J H xs a Q I r h;obtain⟨p,ys,rfl,j,q⟩:=h;obtain⟨u,rfl,B⟩:=vals1 r;cases B;have hn:=MQ
 rcases j with j|j
 ·obtain⟨U,z,pl,N⟩:=I.list j;have hlen:=z.length;exact Calls.call_len_list pl.isList (by simp only[lE] <;> omega) ⟨.int ys.length,H,I.tok _,⟨s.toks+1,by rw[lE,hlen]⟩,q⟩
 ·obtain⟨U,z,pl,N⟩:=I.tuple j;have hlen:=z.length;exact len_tuple pl (by simp only[lE] <;> omega) ⟨.int ys.length,H,I.tok _,⟨s.toks+1,by rw[lE,hlen]⟩,q⟩
def Af(K:bu)(T:dk)(x:V)(H:Hp):Prop:=match x with
 |.str _=>T = "str"
 |.int _=>T = "int"
 | .ref p=>(T = "list"/\∃xs,fW K H p xs)\/(T = "tuple"/\∃o,K.lookup p=aq o/\o.cls=.type "tuple"/\o.dict=av) \/
   (T = "dict"/\((∃kvs,H p=aq (.dK kvs))\/∃kvs,H p=aq (.dT kvs)))\/(T = "set"/\∃S n,H p=aq (.set S n))
 |_=>cq
theorem agM{aa:ar (az×cz)}{J:St}{H:Hp}{s:ay}{T:dk}{x:V}{v:au}(I:Inv X aa J H s)(r:RelV x v)(ty:Af X.K T x H) :
  s.TypeIs v T/\∀a,v=.ref a->∃N,s.heap.get? a=aq N/\N.dict=av:=by
 cases x with
 |str z =>
  obtain⟨t,rfl⟩:=r;cases(show T = "str" from ty);exact⟨typeIs_str s z t,λ_ e=>nomatch e⟩
 |int i =>
  obtain⟨t,rfl⟩:=r;cases(show T = "int" from ty);exact⟨typeIs_int s i t,λ_ e=>nomatch e⟩
 |ref p =>
  cases r
  rcases ty with⟨rfl,d,U⟩|⟨rfl,o,j,b,hd⟩|⟨rfl,j⟩|⟨rfl,S,n,j⟩
  ·obtain⟨f,_,pl,_⟩:=I.list U;refine⟨pl.isList.typeIs,λa e=>?_⟩;cases e;obtain⟨o,n,e,c,hd,_⟩:=pl;exact⟨o,e,hd⟩
  ·refine⟨⟨o,I.fZ p o j,b⟩,λa e=>?_⟩;cases e;exact⟨o,I.fZ _ o j,hd⟩
  ·have z:∃o,s.heap.get? p=aq o/\o.ExactDict:=by
    rcases j with⟨q,j⟩|⟨q,j⟩
    ·obtain⟨_,_,_,_,o,_,_,e,ex,_⟩:=I.aJ p _ j;exact⟨o,e,ex⟩
    ·obtain⟨_,_,_,_,o,_,_,e,ex,_⟩:=I.aJ p _ j;exact⟨o,e,ex⟩
   obtain⟨o,e,ex⟩:=z;refine⟨⟨o,e,ex.1⟩,λa B=>?_⟩;cases B;exact⟨o,e,ex.2.1⟩
  ·obtain⟨o,_,_,_,e,ex,_⟩:=I.aJ p _ j;refine⟨⟨o,e,ex.1⟩,λa B=>?_⟩;cases B;exact⟨o,e,ex.2.1⟩
 |_=>exact False.elim ty
def tBM(K:bu)(T:dk)(r:V->ar V->Hp->VK->Prop)(to:TE)(t:TA):TE:=λJ H Q=>to J H λx H1=>Af K T x H1/\t J H1 λxs H2=>r x xs H2 Q
variable{o e:b7}{es:ar b7}{to:TE}{t:TA}{name:bh}{ai kT:dj}{T id:dk}{r:V->ar V->Hp->VK->Prop}
theorem anN(pa:PlainAttrs T)(slot:Slot T name id)(u:typeOf (.builtin id)=pure (.type "method_descriptor"))(hm:MtR X id r)(i:PE X o to)(ha:PA X (e::es) t)
  (b:cm o name X.env (cg o X.env)=cg o X.env:=by rfl)
  (l:((cw kT (bj (e::es) X.env)).all (λx=>!x.1)&&(backToKw kT (di [] X.env)).all (λx=>x.1.isSome)
   && decide ((e::es).length+([]:ar Keyword).length+(if([]:ar Keyword).isEmpty then 0 else 1)<30))=a5:=by rfl)
  (c:(ai.endLine==kT.line)=a5:=by rfl) (g:bj (e::es) X.env=(aw,cg e X.env)::bj es X.env:=by rfl) (p:(cw kT (bj es X.env)).any (·.1)=aw:=by rfl) :
  PE X (.Call (.Attribute o name ai) (e::es) [] kT) (tBM X.K T r to t):=by
 intro aa s J H Q I h;refine wpAny_Call_method_late b l c rfl (bI (i aa s J H _ I h) λv U ⟨x,n,z,j,ty,f⟩=>?_);obtain⟨h1,h2⟩:=agM z j ty;refine⟨T,id,pa,slot,u,h1,h2,?_⟩;have q:=ha kT aa U J n _ z f;rw[g]at q ⊢;refine RI (by show(aw||(cw kT (bj es X.env)).any (·.1))=aw;rw[p] <;> rfl) (aeO ?_);exact bI q λN s2 ⟨B,m,k,a,d⟩=>hm aa s2 J m x B v N Q k j a d
end
def MtM(X:Cx)(id:dk)(r:V->ar V->Hp->VK->Prop):Prop :=
 ∀(aa:ar (az×cz)) (s:ay) (J:St) (H:Hp) (x:V) (xs:ar V) (v:au) (us:ar au) (Q:VK),Inv X aa J H s->RelV x v->Vals xs us->r x xs H Q ->
  wpAny (bw X.prog X.w) X.A (call (.builtin id) (v::us)) (EP X aa J Q) X.xe s
theorem Vals.one:∀{x:V} {us:ar au},Vals [x] us->∃u,us=[u]/\RelV x u
 |_,_,.cons r .nil=>⟨_,rfl,r⟩
section
variable{X:Cx}{aa:ar (az×cz)}{J:St}{H:Hp}{s:ay}{l b:az}{xs ys zs:ar V}
theorem Inv.En{j its':ar au}{n:a9}{f:ba au->ba au}{t':a9}(I:Inv X aa J H s)(B:H l=aq (.lst xs))
  (e:s.heap.get? l=aq {cls:=.type "list",data:=.seq j.toArray n}) (hf:f j.toArray=its'.toArray) (hv:Vals ys its') (hz:ys.length<=bg) :
  Inv X aa J (upd H l (.lst ys)) {s with heap:=s.heap.update l (Obj.mapSeq f),toks:=t' }:=by
 have q:=PySem.IsL.update e f;rw[hf]at q;refine I.write (x:=l) (e:=l) (by rw[B];exact trivial) (.inl rfl) (λN u hb z=>(tH s.heap (Obj.mapSeq f) (dM hb)).trans z) ⟨_,q⟩ ?_;exact⟨hz,its',_,hv,q⟩
theorem Inv.aqF{j:ar au}{t':a9}(I:Inv X aa J H s)(hv:Vals ys j)(hz:ys.length<=bg) :
  Inv X aa J (upd H s.heap.objs.size (.lst ys)) {s with heap:=s.heap.push {cls:=.type "list",data:=.seq j.toArray},toks:=t' } :=
 I.laid (λ_ _ q=>eI _ q) cX ⟨hz,j,0,hv,gO _ rfl⟩
theorem Inv.fresh(I:Inv X aa J H s):H s.heap.objs.size=av:=I.aJ.fresh cX
theorem Inv.HB(I:Inv X aa J H s)(q:H l=aq (.lst xs)):xs.length<=bg/\∃(j:ar au) (n:a9),Vals xs j/\xs.length=j.length/\s.heap.get? l=aq {cls:=.type "list",data:=.seq j.toArray n}:=by
 obtain⟨z,j,n,r,e⟩:=I.aJ l _ q;exact⟨z,j,n,r,r.length,e⟩
theorem ao0{n:a9}(h:n<=bg):Builtin.List.listTooLong n=aw:=by
 unfold Builtin.List.listTooLong;exact oH (by omega)
end
section
variable{X:Cx}
def Ub:V->ar V->Hp->VK->Prop:=λx vs H Q=>∃l xs y,x=.ref l/\vs=[y]/\H l=aq (.lst xs)/\xs.length<bg/\Q .cZ (upd H l (.lst (xs++[y])))
theorem GW:MtM X "list.append" Ub:=by
 intro aa s J H x c v d Q I N U h;obtain⟨l,b,y,rfl,rfl,j,f,q⟩:=h;cases N;obtain⟨u,rfl,a⟩:=U.one;obtain⟨z,B,n,r,hl,e⟩:=I.HB j;refine call_meets F.slot_list_append ⟨_,e,rfl⟩ F.entry_list_append (F.args_list_append_2 _ _) (PySem.list_append l B.toArray n u (by rw[lE];omega)) ⟨e,?_⟩;refine⟨.cZ,_,I.En (its':=B++[u]) j e (by simp) (r.append (.cons a .nil)) ?_,rfl,q⟩;rw[iR,List.length_singleton];omega
def Tz:V->ar V->Hp->VK->Prop:=λx vs H Q=>∃l b xs zs,x=.ref l/\vs=[.ref b]/\H l=aq (.lst xs)/\H b=aq (.lst zs)/\xs.length+zs.length<=bg/\Q .cZ (upd H l (.lst (xs++zs)))
theorem apP:MtM X "list.extend" Tz:=by
 intro aa s J H x w v y Q I c d h;obtain⟨l,b,t,o,rfl,rfl,a,k,C,q⟩:=h;cases c;obtain⟨u,rfl,f⟩:=d.one;cases f;obtain⟨z,j,n,r,hl,e⟩:=I.HB a;obtain⟨p,B,i,g,A,m⟩:=I.HB k;have N:j.toArray.size+B.toArray.size<=bg:=by rw[lE,lE];omega
 have U:¬(!j.toArray.isEmpty&&Builtin.List.listTooLong (j.toArray.size+B.toArray.size))=a5:=by
  rw[ao0 N,Bool.and_false];exact Oy
 refine call_meets F.slot_list_extend ⟨_,e,rfl⟩ F.entry_list_extend (F.args_list_extend_2 _ _)
  (AutoSeq1.list_extend_list_list_0 l j.toArray n b B.toArray i U (by rw[lE];omega) (by omega)) ⟨e,m,?_⟩
 refine⟨.cZ,_,I.En (its':=j++B) a e (by simp) (r.append g) ?_,rfl,q⟩;rw[iR];omega
def Ua:R2:=λx y H Q=>∃l b xs zs,x=.ref l/\y=.ref b/\H l=aq (.lst xs)/\H b=aq (.lst zs)/\xs.length+zs.length<=bg/\∀p,H p=av->Q (.ref p) (upd H p (.lst (xs++zs)))
theorem aoC:iH X (c4 .Add) Ua:=by
 intro aa s J H x y v u Q I U N h;obtain⟨l,b,m,i,rfl,rfl,c,d,t,q⟩:=h;cases U;cases N;obtain⟨z,j,n,r,hl,e⟩:=I.HB c;obtain⟨k,B,o,a,p,g⟩:=I.HB d;refine PySem.P.add_list e g ?_ (by rw[lE,lE];omega);have f:j.toArray++B.toArray=(j++B).toArray:=by simp
 rw[f];exact⟨.ref _,_,I.aqF (t':=s.toks) (r.append a) (by rw[iR];omega),rfl,q _ I.fresh⟩
end
section
variable{κ:Type} [DecidableEq κ]
noncomputable def lI(kvs:ar (κ×V))(k:κ):ax V:=(kvs.find? λj=>decide (j.1=k)).map (·.2)
noncomputable def putK(kvs:ar (κ×V))(k:κ)(v:V):ar (κ×V) :=
 if(kvs.any λj=>decide (j.1=k))=a5 then kvs.map (λj=>if j.1=k then(j.1,v)else j)else kvs++[(k,v)]
noncomputable def sV(kvs:ar (κ×V))(k:κ):ar (κ×V):=kvs.filter λj=>decide (j.1≠k)
theorem ZR{p:κ×V}{r:ar (κ×V)}{k:κ}(e:p.1=k):lI (p::r) k=aq p.2:=by simp[lI,FH,e]
theorem ZS{p:κ×V}{r:ar (κ×V)}{k:κ}(e:¬p.1=k):lI (p::r) k=lI r k:=by simp[lI,FH,e]
theorem Qt(k:κ):∀kvs:ar (κ×V),(kvs.any λj=>decide (j.1=k))=(lI kvs k).isSome
 |[]=>rfl
 |p::r=>by
  rw[Nd]
  by_cases e:p.1=k
  ·simp only[ZR e,vM e,Bool.true_or,Option.isSome_some]
  ·rw[ZS e,oH e,Bool.false_or];exact Qt k r
theorem Xa(kvs:ar (κ×V))(k:κ)(v:V):(putK kvs k v).length<=kvs.length+1:=by
 unfold putK;split
 ·rw[lQ];omega
 ·rw[iR,fT,BX];omega
theorem nO.Fn{o:ax V}{u:ax au}(r:nO o u):o.isSome=u.isSome:=by
 cases o with
 |none=>cases u with
  |none=>rfl
  |some _=>exact(show cq from r).elim
 |some _=>cases u with
  |none=>exact(show cq from r).elim
  |some _=>rfl
theorem nO.getD{o:ax V}{u:ax au}{d:V}{d':au}(r:nO o u)(j:RelV d d'):RelV (o.getD d) (u.getD d'):=by
 cases o with
 |none=>cases u with
  |none=>exact j
  |some _=>exact(show cq from r).elim
 |some _=>cases u with
  |none=>exact(show cq from r).elim
  |some _=>exact r
theorem KV.val{kvs:ar (κ×V)}{vs:ar (κ×au)}(r:KV kvs vs)(k:κ):nO (lI kvs k) (valueAt vs k):=by
 unfold KV at r
 induction r with
 |nil=>exact True.intro
 | @cons p q N j h t ih =>
  obtain⟨h1,h2⟩:=h
  by_cases e:p.1=k
  ·have B:q.1=k:=h1.symm.trans e;have b:valueAt (q::j) k=aq q.2:=by simp[valueAt,FH,B]
   rw[ZR e,b];exact h2
  ·have B:¬q.1=k:=λz=>e (h1.trans z);have b:valueAt (q::j) k=valueAt j k:=by simp[valueAt,FH,B]
   rw[ZS e,b];exact ih
theorem KV.any{kvs:ar (κ×V)}{vs:ar (κ×au)}(r:KV kvs vs)(k:κ):(kvs.any λj=>decide (j.1=k))=vs.any λj=>decide (j.1=k):=by
 unfold KV at r
 induction r with
 |nil=>rfl
 |cons h t ih=>rw[Nd,Nd,ih,h.1]
theorem KV.Dg{kvs:ar (κ×V)}{vs:ar (κ×au)}(r:KV kvs vs)(k:κ){y:V}{u:au}(B:RelV y u) :
  KV (kvs.map λj=>if j.1=k then(j.1,y)else j) (vs.map λj=>if j.1=k then(j.1,u)else j):=by
 unfold KV at r ⊢
 induction r with
 |nil=>exact .nil
 | @cons p q U N h t ih =>
  rw[cP,cP];refine .cons ?_ ih;obtain⟨h1,h2⟩:=h
  by_cases e:p.1=k
  ·rw[bb e,bb (h1.symm.trans e)];exact⟨h1,B⟩
  ·rw[bc e,bc (λz=>e (h1.trans z))];exact⟨h1,h2⟩
theorem KV.put{kvs:ar (κ×V)}{vs:ar (κ×au)}(r:KV kvs vs)(k:κ){y:V}{u:au}(j:RelV y u):KV (putK kvs k y) (stored vs k u):=by
 unfold putK stored;rw[r.any k]
 by_cases e:(vs.any λq=>decide (q.1=k))=a5
 ·rw[bb e,bb e];exact r.Dg k j
 ·rw[bc e,bc e];exact Paired.snoc r ⟨rfl,j⟩
theorem KV.drop{kvs:ar (κ×V)}{vs:ar (κ×au)}(r:KV kvs vs)(k:κ):KV (sV kvs k) (without vs k):=by
 unfold KV at r ⊢;unfold sV without
 induction r with
 |nil=>exact .nil
 | @cons p q N B h t ih =>
  obtain⟨h1,h2⟩:=h;rw[List.filter_cons,List.filter_cons]
  by_cases e:p.1=k
  ·have a:¬decide (p.1≠k)=a5:=by simp[e]
   have b:¬decide (q.1≠k)=a5:=by simp[h1.symm.trans e]
   rw[bc a,bc b];exact ih
  ·have j:¬q.1=k:=λz=>e (h1.trans z);have a:decide (p.1≠k)=a5:=by simp[e]
   have b:decide (q.1≠k)=a5:=by simp[j]
   rw[bb a,bb b];exact .cons ⟨h1,h2⟩ ih
theorem KV.keys{kvs:ar (κ×V)}{vs:ar (κ×au)}(r:KV kvs vs):kvs.map (·.1)=vs.map (·.1):=by
 unfold KV at r
 induction r with
 |nil=>rfl
 |cons h t ih=>rw[cP,cP,ih,h.1]
theorem KV.length{kvs:ar (κ×V)}{vs:ar (κ×au)}(r:KV kvs vs):kvs.length=vs.length:=Paired.length r
theorem ax6(kvs:ar (κ×V))(k:κ):(sV kvs k).length<=kvs.length:=aeA _ _
end
theorem HH{P:bp}{w:bz}{k:Key}{u:au}(r:RelV (kV k) u):(kF P w).is k u=a5:=by
 cases k with
 |inl i=>obtain⟨t,e⟩:=(show ∃t,u=Value.int i t from r);subst e;exact apV P w i t
 |inr x=>obtain⟨t,e⟩:=(show ∃t,u=Value.str x t from r);subst e;exact apU P w x t
theorem Xk{P:bp}{w:bz}:∀{j:ar Key} {us:ar au},Vals (j.map kV) us->ItemsAre (kF P w) j us
 |[],_,r=>by rw[uI]at r;cases r;exact .nil
 |k::j,_,r=>by
  rw[cP]at r;cases r with
  |cons h t=>exact .cons (HH h) (Xk t)
abbrev KT(H:Hp):ar (ar Key×V)->ar (ar Key×az×au)->Prop:=Paired λp q=>p.1=q.1/\H q.2.1=aq (.tup (p.1.map kV))/\RelV p.2 q.2.2
theorem KT.val{H:Hp}{kvs:ar (ar Key×V)}{xs:ar (ar Key×az×au)}(r:KT H kvs xs)(k:ar Key):nO (lI kvs k) ((atKey xs k).map (·.2)):=by
 induction r with
 |nil=>exact True.intro
 | @cons p q N j h t ih =>
  obtain⟨h1,_,h2⟩:=h
  by_cases e:p.1=k
  ·have B:q.1=k:=h1.symm.trans e;have b:atKey (q::j) k=aq q.2:=by simp[atKey,FH,B]
   rw[ZR e,b];exact h2
  ·have B:¬q.1=k:=λz=>e (h1.trans z);have b:atKey (q::j) k=atKey j k:=by simp[atKey,FH,B]
   rw[ZS e,b];exact ih
theorem KT.Dg{H:Hp}{kvs:ar (ar Key×V)}{xs:ar (ar Key×az×au)}(r:KT H kvs xs)(k:ar Key){y:V}{u:au}(B:RelV y u) :
  KT H (kvs.map λj=>if j.1=k then(j.1,y)else j) (xs.map (putAt k u)):=by
 induction r with
 |nil=>exact .nil
 | @cons p q a U h t ih =>
  rw[cP,cP];refine .cons ?_ ih;obtain⟨h1,h2,N⟩:=h;unfold putAt
  by_cases e:p.1=k
  ·rw[bb e,bb (h1.symm.trans e)];exact⟨h1,h2,B⟩
  ·rw[bc e,bc (λz=>e (h1.trans z))];exact⟨h1,h2,N⟩
theorem KT.put{H:Hp}{kvs:ar (ar Key×V)}{xs:ar (ar Key×az×au)}(r:KT H kvs xs)(k:ar Key){b:az}{y:V}{u:au}(hb:H b=aq (.tup (k.map kV)))(j:RelV y u) :
  KT H (putK kvs k y) (storedH xs k b u):=by
 have e:(kvs.any λz=>decide (z.1=k))=(atKey xs k).isSome:=by
  rw[Qt,(r.val k).Fn,adU]
 unfold putK storedH;rw[e]
 by_cases q:(atKey xs k).isSome=a5
 ·rw[bb q,bb q];exact r.Dg k j
 ·rw[bc q,bc q];exact Paired.snoc r ⟨rfl,hb,j⟩
theorem KT.keeps{H H':Hp}{kvs:ar (ar Key×V)}{xs:ar (ar Key×az×au)}(r:KT H kvs xs)(j:∀b ys,H b=aq (.tup ys)->H' b=aq (.tup ys)):KT H' kvs xs :=
 Paired.Em r λ_ _ z=>⟨z.1,j _ _ z.2.1,z.2.2⟩
section
variable{P:bp}{w:bz}{H:Hp}{h:b9}{a:az}
theorem Tu{u:HO}(ok:fU P w H h)(e:Rd H a u):jF P w H h a u:=e.ok ok
theorem EM{kvs:ar (Key×V)}(ok:fU P w H h)(e:Rd H a (.dK kvs)):kvs.length<=bg/\(a==dy)=aw/\∃vs,KV kvs vs/\h.DictOf (kF P w) a vs :=
 show jF P w H h a (.dK kvs)from Tu ok e
theorem IJ{kvs:ar (Key×V)}(ok:fU P w H h)(e:H a=aq (.dK kvs)):kvs.length<=bg/\(a==dy)=aw/\∃vs,KV kvs vs/\h.DictOf (kF P w) a vs:=EM ok (.inl e)
theorem MT{j:ar Key}(ok:fU P w H h)(e:H a=aq (.tup (j.map kV))):(tupleKind (kF P w)).is h j a:=by
 obtain⟨_,z,r,o,h1,h2,n,q⟩:=(show jF P w H h a (.tup (j.map kV))from ok a _ e);exact⟨o,z.toArray,n,h1,h2,q,by simpa using Xk r⟩
theorem II{kvs:ar (ar Key×V)}(ok:fU P w H h)(e:Rd H a (.dT kvs)):kvs.length<=bg/\(a==dy)=aw /\
  ∃xs,KT H kvs xs/\h.DictOfH (tupleKind (kF P w)) a xs:=by
 obtain⟨z,y,xs,r,o,es,c,h1,h2,b,U,N⟩:=(show jF P w H h a (.dT kvs)from Tu ok e);refine⟨z,y,xs,r,o,es,c,h1,h2,b,U,λx j=>?_,N⟩;have all:∀{l:ar (ar Key×V)} {m:ar (ar Key×az×au)},KT H l m->∀x∈m,(tupleKind (kF P w)).is h x.1 x.2.1:=by
  intro l m q
  induction q with
  |nil=>intro x j;exact nomatch j
  | @cons p q f d B t ih =>
   intro x j
   rcases dU.mp j with e|j
   ·subst e;exact MT ok (by rw[<-B.1];exact B.2.1)
   ·exact ih x j
 exact all r x j
theorem ax5{kvs:ar (ar Key×V)}(ok:fU P w H h)(e:H a=aq (.dT kvs)):kvs.length<=bg/\(a==dy)=aw /\
  ∃xs,KT H kvs xs/\h.DictOfH (tupleKind (kF P w)) a xs:=II ok (.inl e)
end
def qZ(H:Hp)(a:az)(y:V)(r:ax V):Prop :=
 (∃kvs k,Rd H a (.dK kvs)/\y=kV k/\r=lI kvs k)\/∃kvs k b,Rd H a (.dT kvs)/\y=.ref b/\H b=aq (.tup (k.map kV))/\r=lI kvs k
def RG(H:Hp)(a:az)(y v:V)(H':Hp):Prop :=
 (∃kvs k,H a=aq (.dK kvs)/\y=kV k/\kvs.length<bg/\H'=upd H a (.dK (putK kvs k v))) \/
 ∃kvs k b,H a=aq (.dT kvs)/\y=.ref b/\H b=aq (.tup (k.map kV))/\kvs.length<bg/\H'=upd H a (.dT (putK kvs k v))
theorem qZ.k{H:Hp}{a:az}{kvs:ar (Key×V)}{k:Key}(e:H a=aq (.dK kvs)):qZ H a (kV k) (lI kvs k):=.inl ⟨kvs,k,.inl e,rfl,rfl⟩
theorem RG.k{H:Hp}{a:az}{kvs:ar (Key×V)}{k:Key}{v:V}(e:H a=aq (.dK kvs))(hl:kvs.length<bg):RG H a (kV k) v (upd H a (.dK (putK kvs k v))):=.inl ⟨kvs,k,e,rfl,hl,rfl⟩
section
variable{X:Cx}{aa:ar (az×cz)}{J:St}{H:Hp}{s:ay}{a:az}{y v:V}{u r:au}{o:ax V}{A:bx}{E:au->ay->Prop}
theorem Inv.big(I:Inv X aa J H s):dy<s.heap.objs.size:=by
 have h:bo<s.heap.objs.size:=(I.mod.glob.keeps I.bk).lt;exact Nat.lt_trans (by decide) h
theorem ayX{Q:au->ay->Prop}(m:A.units+1<cLine)(I:Inv X aa J H s)(g:qZ H a y (aq v))(c:RelV y u)(h:∀j s',Inv X aa J H s'->RelV v j->Q j s') :
  wpAny (bw X.prog X.w) A (getItem (.ref a) u) Q E s:=by
 rcases g with⟨B,k,e,N,l⟩|⟨B,k,b,e,N,r,l⟩
 ·subst N;obtain⟨z,hd,f,rel,U⟩:=EM I.aJ e;obtain⟨j,hw,q⟩:=nO.some_of (v:=v) (o:=valueAt f k) (by rw[l];exact rel.val k);exact wpAny_getItem_of (HH c) U.mapOf hw (h j _ (I.tok _) q)
 ·subst N;cases(show u=Value.ref b from c);obtain⟨z,hd,d,rel,U⟩:=II I.aJ e;obtain⟨j,hw,q⟩:=nO.some_of (v:=v) (o:=(atKey d k).map (·.2)) (by rw[l];exact rel.val k);obtain⟨p,n,i⟩:=FD.mp hw;refine wpAny_getItem_heap (Ag m) (MT I.aJ r) U n ?_;rw[i];exact h j _ (I.tok _) q
theorem ayV{Q:au->ay->Prop}(c:A.units+1<cLine)(I:Inv X aa J H s)(g:qZ H a y o)(U:RelV y u)(h:∀s',Inv X aa J H s'->Q (.bool o.isSome) s') :
  wpAny (bw X.prog X.w) A (ck .In u (.ref a)) Q E s:=by
 rcases g with⟨j,k,e,B,l⟩|⟨j,k,b,e,B,d,l⟩
 ·subst B;obtain⟨z,hd,i,rel,N⟩:=EM I.aJ e;refine wpAny_in_of (HH U) hd N.mapOf ?_;rw[<-(rel.val k).Fn,<-l];exact h _ (I.tok _)
 ·subst B;cases(show u=Value.ref b from U);obtain⟨z,hd,f,rel,N⟩:=II I.aJ e;refine wpAny_in_heap (Ag c) (MT I.aJ d) hd N ?_;have q:=(rel.val k).Fn;rw[adU]at q;rw[<-q,<-l];exact h _ (I.tok _)
theorem Jo{h':b9}{t':a9}{j:HO}(I:Inv X aa J H s)(B:QB (H a))(N:Heap.SameBut a s.heap h')(he:∃q,h'.get? a=aq q)(new:jF X.prog X.w (upd H a j) h' a j) :
  Inv X aa J (upd H a j) {s with heap:=h',toks:=t' } :=
 I.write (x:=a) (e:=a) B (.inl rfl) (λb q hb z=>(N.2 b hb).trans z) he new
theorem abM{P:bp}{w:bz}{H':Hp}{h':b9}{kvs:ar (Key×V)}{vs:ar (Key×au)}(z:kvs.length<=bg)(hd:(a==dy)=aw)(rel:KV kvs vs)(j:h'.DictOf (kF P w) a vs) :
  jF P w H' h' a (.dK kvs):=⟨z,hd,vs,rel,j⟩
theorem ayI{H':Hp}{Q:Unit->ay->Prop}(D:A.units+1<cLine)(I:Inv X aa J H s)(g:RG H a y v H')(n:RelV y u)(o:RelV v r)(h:∀s',Inv X aa J H' s'->Q () s') :
  wpAny (bw X.prog X.w) A (setItem (.ref a) u r) Q E s:=by
 rcases g with⟨j,k,e,f,l,i⟩|⟨j,k,b,e,f,t,l,i⟩
 ·subst f i;obtain⟨z,hd,C,rel,m⟩:=IJ I.aJ e;have U:C.length<=bg:=by rw[<-rel.length];exact z
  have hl:(putK j k v).length<=bg:=by have:=Xa j k v;omega
  refine wpAny_setItem_pairs (hsz:=U) (HH n) m λh' N d=>h _ ?_;have he:∃q,h'.get? a=aq q:=let ⟨q,_,_,B,_⟩:=N; ⟨q,B⟩;exact Jo I (by rw[e];exact True.intro) d he (abM hl hd (rel.put k o) N)
 ·subst f i;cases(show u=Value.ref b from n);obtain⟨z,hd,x,rel,m⟩:=ax5 I.aJ e;have U:x.length<=bg:=by rw[<-Paired.length rel];exact z
  have hl:(putK j k v).length<=bg:=by have:=Xa j k v;omega
  refine wpAny_setItem_heap (hsz:=U) (Ag D) (MT I.aJ t) m λh' N d=>h _ ?_;obtain⟨q,es,L,B,h2,K,G,_,F⟩:=N;refine Jo I (by rw[e];exact True.intro) d ⟨q,B⟩ ⟨hl,hd,_,(rel.put k t o).keeps λc M p=>?_,q,es,L,B,h2,K,G,F⟩;rw[bJ (MJ p e (λz=>nomatch z))];exact p
end
section
variable{X:Cx}{aa:ar (az×cz)}{J:St}{H:Hp}{s:ay}{a:az}{kvs:ar (Key×V)}{k:Key}{u:au}{A:bx}{E:au->ay->Prop}
theorem ayJ{v:V}{more:ar au}{Q:au->ay->Prop}(I:Inv X aa J H s)(e:H a=aq (.dK kvs))(B:RelV (kV k) u)(l:lI kvs k=aq v)(hm:more=[]\/∃x,more=[x])
  (h:∀j s',Inv X aa J (upd H a (.dK (sV kvs k))) s'->RelV v j->Q j s'):wpAny (bw X.prog X.w) A (call (.builtin "dict.pop") (.ref a::u::more)) Q E s:=by
 obtain⟨z,hd,N,rel,U⟩:=IJ I.aJ e;obtain⟨j,hw,c⟩:=nO.some_of (v:=v) (o:=valueAt N k) (by rw[<-l];exact rel.val k);have g:(keyPart u).isSome=a5:=by
  cases k with
  |inl i=>obtain⟨t,q⟩:=(show ∃t,u=Value.int i t from B);subst q;rfl
  |inr x=>obtain⟨t,q⟩:=(show ∃t,u=Value.str x t from B);subst q;rfl
 have ha:argsOk "dict.pop" ⟨.ref a::u::more,[]⟩:=by
  rcases hm with q|⟨x,q⟩
  ·subst q;exact PySem.F.args_dict_pop_2 _ _
  ·subst q;exact PySem.F.args_dict_pop_3 _ _ _
 refine OU PySem.F.slot_dict_pop U.typeIs PySem.F.entry_dict_pop ha (meets_dict_pop_there (kF X.prog X.w) a (HH B) more hm g)
  ⟨N,j,U,by rw[<-rel.length];exact z,hw,λh' b d=>h j _ ?_ c⟩
 have he:∃q,h'.get? a=aq q:=let ⟨q,_,_,f,_⟩:=b; ⟨q,f⟩;exact Jo I (by rw[e];exact True.intro) d he (abM (rX (ax6 kvs k) z) hd (rel.drop k) b)
theorem ayS{Q:au->ay->Prop}(I:Inv X aa J H s)(e:Rd H a (.dK kvs))(h:∀t s',Inv X aa J H s'->Q (.int kvs.length t) s'):wpAny (bw X.prog X.w) A (call (.builtin "len") [.ref a]) Q E s:=by
 obtain⟨z,hd,q,rel,j⟩:=EM I.aJ e;refine call_len_dict hd j (by rw[<-rel.length];rw[oS]at z;omega) ?_;rw[<-rel.length];exact h _ _ (I.tok _)
end
def Mg(i:b7):Prop:=∀j q,subscripted i aw j q=operate [j,q] (getItem j q)
theorem ah3{prog:bp}{w:bz}{A:bx}{E:au->ay->Prop}{s:ay}{env:Env}{value slice:b7}{pos:dj}{T id:dk}{Q:au->ay->Prop}
  (hl:typeLookup (.type T) "__getitem__" = pure (aq (.builtin id))) (N:Mg slice)
  (h:wpAny (bw prog w) A (cg value env) (λo s₁=>wpAny (bw prog w) A (cg slice env) (λi s₂=>s₂.TypeIs o T/\wpAny (bw prog w) A (getItem o i) Q E s₂) E s₁) E s) :
  wpAny (bw prog w) A (cg (.Subscript value slice pos) env) Q E s:=by
 refine Subscript_ (pZ h (λo s₁ B=>pZ B (λi s₂ j=>?_) λ_ _ x=>x) λ_ _ x=>x);obtain⟨hT,j⟩:=j;unfold subscriptTail;refine aM ?_;rw[getitemInPython_of_ne hT.not_modules];refine aM (wpAny_specialOf hT hl ?_);have fin:wpAny (bw prog w) A (subscripted slice aw o i) (λr q=>wpAny (bw prog w) A (letTemporaryGo value o r >>= λ_=>pure r) Q E q) E s₂:=by
  rw[N o i];exact wpAny_operating (pZ j (λr q z=>aM (wpAny_letTemporaryGo (bL z))) λ_ _ x=>x)
 first
  |exact bL (aM fin)
  |exact aM (bL (aM fin))
  |exact aM fin
theorem ayB{X:Cx}{aa:ar (az×cz)}{J:St}{H:Hp}{s:ay}{a:az}{y:V}{o:ax V}(I:Inv X aa J H s)(g:qZ H a y o):s.TypeIs (.ref a) "dict":=by
 rcases g with⟨j,k,e,_,_⟩|⟨j,k,b,e,_,_,_⟩
 ·obtain⟨_,_,B,_,q⟩:=EM I.aJ e;exact q.typeIs
 ·obtain⟨_,_,z,_,q⟩:=II I.aJ e;exact q.typeIs
def ahY(td ty:TE):TE:=λJ H Q=>td J H λx H1=>ty J H1 λy H2=>∃a v,x=.ref a/\qZ H2 a y (aq v)/\Q v H2
def Sb(ty td:TE):TE:=λJ H Q=>ty J H λy H1=>td J H1 λx H2=>∃a o,x=.ref a/\qZ H2 a y o/\Q (.bl o.isSome) H2
def ahV(ty td:TE):TE:=λJ H Q=>ty J H λy H1=>td J H1 λx H2=>∃a o,x=.ref a/\qZ H2 a y o/\Q (.bl (!o.isSome)) H2
def akF(td ty tv:TE):TS:=λD J H=>tv J H λv H1=>td J H1 λx H2=>ty J H2 λy q=>∃a j,x=.ref a/\RG q a y v j/\D.nx J j
section
variable{X:Cx}{o i e value:b7}{pos pos' agZ:dj}{td ty tv:TE}
theorem anG(c:X.A.units+1<cLine)(e:PE X o td)(hi:PE X i ty)(d:Mg i):PE X (.Subscript o i pos) (ahY td ty):=by
 intro aa s J H Q I h;refine ah3 PySem.F.slot_dict_getitem.lookup d (bI (e aa s J H _ I h) λu q ⟨x,m,k,B,b⟩=>bI (hi aa q J m _ k b) λr s2 zz=>?_);obtain⟨y,l,j,z,a,v,ex,g,U⟩:=zz;subst ex;obtain rfl:u=Value.ref a:=B;exact⟨ayB j g,ayX c j g z λn p f N=>⟨v,l,f,N,U⟩⟩
theorem anS(b:X.A.units+1<cLine)(hi:PE X i ty)(c:PE X o td):PC X .In i o (Sb ty td):=by
 intro aa s J H Q I h;refine bI (hi aa s J H _ I h) λn j ⟨y,l,f,q,N⟩=>bI (c aa j J l _ f N) λu s2 zz=>?_;obtain⟨x,k,e,z,a,U,ex,g,B⟩:=zz;subst ex;obtain rfl:u=Value.ref a:=z;exact ayV b e g q λm d=>⟨.bl U.isSome,k,d,rfl,B⟩
theorem amC(c:X.A.units+1<cLine)(e:PE X o td)(hi:PE X i ty)(hv:PE X value tv)(d:ez value (aq (.Subscript o i pos')) pos.line X.env=pure aw) :
  PS X (.Assign [.Subscript o i pos'] value pos) (akF td ty tv):=by
 intro aa s J H D I h;refine wpAny_Assign_Subscript (bI (hv aa s J H _ I h) λr j ⟨v,t,m,B,b⟩=>bI (e aa j J t _ m b) λu s2 ⟨x,p,l,z,U⟩=>bI (hi aa s2 J p _ l U) λE C zz=>?_) d;obtain⟨y,F,k,q,a,n,ex,g,N⟩:=zz;subst ex;obtain rfl:u=Value.ref a:=z;exact ayI c k g q B λw f=>⟨J,n,f,N⟩
end
theorem ax9{P:bp}{w:bz}{H:Hp}(h:b9)(hb:dy<h.objs.size):jF P w H (h.push {cls:=.type "dict",data:=.dict #[]}) h.objs.size (.dK []) :=
 ⟨BU _,zE.mpr (dM (gF hb)),[],.nil,Heap.DictOf.new h⟩
def ahW:TE:=λ_ H Q=>∀p,H p=av->Q (.ref p) (upd H p (.dK []))
section
variable{X:Cx}{pos:dj}
theorem anE:PE X (.Dict [] [] pos) ahW:=λaa s J H Q I h =>
 wpAny_Dict_empty ⟨.ref s.heap.objs.size,_,I.laid (a:=s.heap.objs.size) (o:=.dK []) (t':=s.toks) (λ_ _ q=>eI _ q) cX (ax9 s.heap I.big),rfl,h _ (I.aJ.fresh cX)⟩
end
def apZ(kvs more:ar (Key×V)):ar (Key×V):=more.foldl (λae j=>putK ae j.1 j.2) kvs
theorem KV.merge:∀{more:ar (Key×V)} {rs:ar (Key×au)} {kvs:ar (Key×V)} {vs:ar (Key×au)},KV more rs->KV kvs vs->KV (apZ kvs more) (merged vs rs):=by
 intro more rs kvs vs r;unfold KV at r
 induction r generalizing kvs vs with
 |nil=>intro q;exact q
 | @cons p q B z h t ih =>
  intro j;have e:KV (putK kvs p.1 p.2) (stored vs q.1 q.2):=by
   have:=j.put p.1 h.2;rw[<-h.1];exact this
  exact ih e
structure M1(X:Cx)(o:b7)(m:bh)(ai:dj)(e:b7)(kT:dj):Prop where
 base:cm o m X.env (cg o X.env)=cg o X.env
 Iy:((cw kT (bj [e] X.env)).all (λx=>!x.1)&&(backToKw kT (di [] X.env)).all (λx=>x.1.isSome)
  && decide (([e]:ar b7).length+([]:ar Keyword).length+(if([]:ar Keyword).isEmpty then 0 else 1)<30))=a5
 line:(ai.endLine==kT.line)=a5
 trees:cw kT (bj [e] X.env)=[(aw,cg e X.env)]
structure M2(X:Cx)(o:b7)(m:bh)(ai:dj)(e f:b7)(kT:dj):Prop where
 base:cm o m X.env (cg o X.env)=cg o X.env
 Iy:((cw kT (bj [e,f] X.env)).all (λx=>!x.1)&&(backToKw kT (di [] X.env)).all (λx=>x.1.isSome)
  && decide (([e,f]:ar b7).length+([]:ar Keyword).length+(if([]:ar Keyword).isEmpty then 0 else 1)<30))=a5
 line:(ai.endLine==kT.line)=a5
 trees:cw kT (bj [e,f] X.env)=[(aw,cg e X.env),(aw,cg f X.env)]
def Nn(H:Hp)(a:az):Prop:=(∃kvs,Rd H a (.dK kvs))\/∃kvs,Rd H a (.dT kvs)
theorem MZ{X:Cx}{aa:ar (az×cz)}{J:St}{H:Hp}{s:ay}{a:az}(I:Inv X aa J H s)(d:Nn H a) :
  s.TypeIs (.ref a) "dict"/\(∀b,Value.ref a=.ref b->∃j,s.heap.get? b=aq j/\j.dict=av)/\(a==dy)=aw:=by
 rcases d with⟨B,e⟩|⟨B,e⟩
 ·obtain⟨_,hd,U,_,z⟩:=EM I.aJ e;refine⟨z.typeIs,λb q=>?_,hd⟩;cases q;obtain⟨j,_,_,h1,h2,_⟩:=z;exact⟨j,h1,h2.2.1⟩
 ·obtain⟨_,hd,N,_,z⟩:=II I.aJ e;refine⟨z.typeIs,λb q=>?_,hd⟩;cases q;obtain⟨j,_,_,h1,h2,_⟩:=z;exact⟨j,h1,h2.2.1⟩
section
variable{X:Cx}{aa:ar (az×cz)}{J:St}{H:Hp}{s:ay}{a:az}{y d:V}{u r:au}{o:ax V}{A:bx}{E:au->ay->Prop}
theorem ayY{Q:au->ay->Prop}(i:A.units+1<cLine)(I:Inv X aa J H s)(g:qZ H a y o)(U:RelV y u)(c:RelV d r)(h:∀N s',Inv X aa J H s'->RelV (o.getD d) N->Q N s') :
  wpAny (bw X.prog X.w) A (call (.builtin "dict.get") [.ref a,u,r]) Q E s:=by
 rcases g with⟨q,k,e,B,l⟩|⟨q,k,b,e,B,m,l⟩
 ·subst B;obtain⟨z,hd,n,rel,j⟩:=EM I.aJ e;refine OU PySem.F.slot_dict_get j.typeIs PySem.F.entry_dict_get (PySem.F.args_dict_get_3 _ _ _) (meets_dict_get_default (kF X.prog X.w) a (HH U) hd r) ⟨_,j.mapOf,h _ _ (I.tok _) ?_⟩;rw[l];exact(rel.val k).getD c
 ·subst B;cases(show u=Value.ref b from U);obtain⟨z,hd,f,rel,j⟩:=II I.aJ e;refine OU PySem.F.slot_dict_get j.typeIs PySem.F.entry_dict_get (PySem.F.args_dict_get_3 _ _ _) (meetsH_dict_get_default (tupleKind (kF X.prog X.w)) a b hd r) ⟨Ag i,k,f,MT I.aJ m,j,h _ _ (I.tok _) ?_⟩;rw[l];exact(rel.val k).getD c
end
def ahX(td ty tx:TE):TE:=λJ H Q=>td J H λx H1=>∃a,x=.ref a/\Nn H1 a/\ty J H1 λy H2=>tx J H2 λz j=>∃o,qZ j a y o/\Q (o.getD z) j
def ahU(td ty:TE):TE:=λJ H Q=>td J H λx H1=>∃a,x=.ref a/\Nn H1 a/\ty J H1 λy H2=>∃kvs k v,H2 a=aq (.dK kvs)/\y=kV k/\lI kvs k=aq v/\Q v (upd H2 a (.dK (sV kvs k)))
section
variable{X:Cx}{o e f:b7}{ai kT:dj}{td ty tx:TE}
theorem anF(p:X.A.units+1<cLine)(r:PE X o td)(he:PE X e ty)(t:PE X f tx)(m:M2 X o "get" ai e f kT):PE X (.Call (.Attribute o "get" ai) [e,f] [] kT) (ahX td ty tx):=by
 intro aa s J H Q I h;refine wpAny_Call_method m.base m.Iy m.line PySem.F.plainAttrs_dict PySem.F.slot_dict_get PySem.F.type_dict_get (bI (r aa s J H _ I h) λu N zz=>?_);obtain⟨x,G,j,c,a,ex,d,n⟩:=zz;subst ex;obtain rfl:u=Value.ref a:=c;obtain⟨B,q,_⟩:=MZ j d;refine⟨B,q,?_⟩;rw[m.trees];refine RI rfl (aeO (KY (bI (he aa N J G _ j n) λR s2 ⟨y,E,C,b,l⟩ =>
  KY (bI (t aa s2 J E _ C l) λS M ⟨z,D,w,U,P,g,k⟩=>RH ?_))))
 exact ayY p w g b U λK L v i=>⟨_,D,v,i,k⟩
theorem anD(i:PE X o td)(he:PE X e ty)(m:M1 X o "pop" ai e kT):PE X (.Call (.Attribute o "pop" ai) [e] [] kT) (ahU td ty):=by
 intro aa s J H Q I h;refine wpAny_Call_method m.base m.Iy m.line PySem.F.plainAttrs_dict PySem.F.slot_dict_pop PySem.F.type_dict_pop (bI (i aa s J H _ I h) λu B zz=>?_);obtain⟨x,w,j,U,a,ex,d,f⟩:=zz;subst ex;obtain rfl:u=Value.ref a:=U;obtain⟨z,q,_⟩:=MZ j d;refine⟨z,q,?_⟩;rw[m.trees];refine RI rfl (aeO (KY (bI (he aa B J w _ j f) λD s2 ⟨y,E,t,N,g,k,v,p,n,l,c⟩=>RH ?_)));subst n;exact ayJ t p N l (.inl rfl) λA C r b=>⟨v,_,r,b,c⟩
end
end L2
namespace Att
open PySem PySem.W PySem.Calls PyProof.Rows
theorem arY{P:Params}{h:b9}:∀(ns:ar a8) (vs:ar au),WellAll P h vs (ns.map WData.int)->c7 vs ns:=by
 intro ns
 induction ns with
 |nil =>
  intro vs w;rw[uI]at w;cases w;exact .nil
 |cons n ns ih =>
  intro vs w;rw[cP]at w;cases w with
  |cons a b =>
   cases a;exact .cons _ _ (ih _ b)
theorem aiZ{l:OpenLaw}{n:a9}(hn:l.most=aq n){P:Params}{h:b9}{args:ar WData}{vals:ar au}
  (U:l.row.toRowW.claim.pre args=a5) (i:WellAll P h vals args) :
  ∃a vs ns,vals=[Value.ref a]/\args=[WData.list (ns.map WData.int)]/\h.get? a=aq {cls:=.type "list",data:=.seq vs.toArray}/\c7 vs ns/\ns.length<=n:=by
 have B:WShape.hasAll [] args [.list .int]=a5:=(pre_splitW U).1;have N:l.pre.holds [] {args:=args}=a5:=(pre_splitW U).2;obtain⟨d,r,rfl,h1,h2⟩:=hasAllW_cons B;obtain rfl:=hasAllW_nil h2;obtain⟨k,rfl,g⟩:=hasW_list h1;obtain⟨ns,rfl⟩:=items_int g;have hlen:ns.length<=n:=by
  unfold OpenLaw.pre at N;have z:(WTm.not (.lt (.lit (.int (n:a8))) (.len (.arg 0)))).holds [] {args:=[.list (ns.map .int)]}=a5:=by
   have z:=(holds_andW N).1;rw[hn]at z;exact z
  have j:=condW_of z (w_not (w_lt w_lit (w_len_list (w_arg rfl))));rw[lQ]at j;refine Mi λq=>?_;have e:(n:a8)<((ns.length:a9):a8):=by omega
  first
   |(rw[vM e]at j;exact b8 j (by decide))
   |(simp at j;omega)
 cases i with
 |cons c b =>
  cases b;cases c with
  |list f hall=>exact⟨_,_,ns,rfl,rfl,f,arY ns _ hall,hlen⟩
theorem amF(l:OpenLaw)(args:ar WData):l.row.toRowW.claim.post args (.bool a5) args=a5 :=
 postW_of (r:=l.row.toRowW) (X:=(a5==a5))
  (show WShape.has [] (.bool a5) .bool=a5 by first|rfl|decide|simp[WShape.has,WShape.arms,WShape.armsAll])
  (show(WTm.eq .res (.lit (.bool a5))).value [] {args:=args,res:=aq (.bool a5),after:=args}=aq (.bool (a5==a5))from w_eq_bool (w_res rfl) w_lit) rfl
theorem aA7{l:OpenLaw}{n:a9}{q:bp}{loose:ar bh}{XP:(bh->ax au)->b9->Prop}{YP:bz->b9->Prop}{d:DefRec}
  (hn:l.most=aq n) (p:d.params.defaults=[])
  (call:∀(w:bz) (s₀ s₁:ay) (mg mb:bh->ax au) (fa:az) (o:cz) (z j doc:au) (a:az) (vs:ar au) (ns:ar a8),
   Ground q loose [] XP w s₀ mg mb s₁.heap->YP w s₁.heap ->
   s₁.heap.get? fa=aq o->o.data=.func (docDef d.name d.params d.body d.scope z j doc)->s₁.heap.CodeRec j d.name->mg d.name=aq (.ref fa) ->
   s₁.heap.get? a=aq {cls:=.type "list",data:=.seq vs.toArray}->c7 vs ns->ns.length<=n->s₁.gens=#[] ->
   codeAny (bw l.prog w) callerA (.call (.ref fa) ⟨[.ref a],[]⟩) (λr s'=>r=.ok (.ret (.bool a5))/\OldK s₁.heap s'.heap/\s'.os=s₁.os/\AllBare s'.gens) s₁) :
  WalkO q loose XP YP l.row.toRowW d [] (λf vs=>PySem.call f vs):=by
 intro w s₀ s₁ mg mb G ρ fa o z j doc i kV c hd N B s e args vals x m k U t v;obtain rfl:i=.none:=Dflts.none B p;obtain rfl:kV=.none:=Dflts.noKw B;obtain⟨a,vs,ns,rfl,rfl,u,hints,hlen⟩:=aiZ hn m t;refine enter_call (vN (call w s₀ s₁ mg mb fa o z j doc a vs ns G ρ c (fd_plain hd) N s u hints hlen e) λr s' b=>?_);obtain⟨rfl,h2,h,g⟩:=b;exact⟨.inl ⟨.bool a5,.bool a5,[],rfl,λ_=>rfl,.bool a5,amF l _,λ_=>⟨List.Pairwise.nil,λ_ hm=>(nomatch hm)⟩⟩,h2,h,g⟩
section
variable{prog:bp}{w:bz}{A:bx}{E:au->ay->Prop}{s:ay}{K:bu}
noncomputable def ledger(h:b9)(L d:az):ar (az×cz):=(List.range h.objs.size).filterMap λa=>if a=L\/a=d then av else(h.get? a).map λo=>(a,o)
end
end Att
namespace L2
open PySem PySem.Spec PyProof.Rows
theorem RV:∀{vs:ar au} {ns:ar a8},c7 vs ns->Vals (ns.map V.int) vs
 |_,_,.nil => .nil
 |_,_,.cons n t h => .cons ⟨t,rfl⟩ (RV h)
noncomputable def inClass(s:cb)(j:a9):cb:=match s with
 |.ClassDef _ _ _ body _ _ _ _ _ _ _=>body.getD j (.Pass ⟨0,0,0,0⟩)
 |_ => .Pass ⟨0,0,0,0⟩
noncomputable def jE(s:cb):de:=match s with
 |.FunctionDef _ a _ _ _ _ _ _ _ _=>a
 |_=>{posonlyargs:=[],args:=[],vararg:=av,kwonlyargs:=[],kw_defaults:=[],kwarg:=av,defaults:=[]}
noncomputable def eQ(s:cb):ar cb:=match s with
 |.FunctionDef _ _ b _ _ _ _ _ _ _=>b
 |_=>[]
noncomputable def aW(s:cb):cu:=match s with
 |.FunctionDef _ _ _ _ _ _ sc _ _ _=>sc
 |_=>{kind:=.function,names:=[],isGenerator:=aw,isCoroutine:=aw}
abbrev CF:rA:=λ_ _ _ _ _ _=>cq
abbrev E0:XK:=λ_ _ _=>cq
theorem Ve{X:Cx}:Passes CF X E0:=λ_ _ _ _ _ _ _ h=>h.elim
structure uJ(K:bu)(x qual:bh)(st:cb)(f:az)(fd:cx):Prop where
 ex:∃(oc:au) (od:ax az) (kV doc pm:au) (an:ax az) (aX ct:au) (iC:ba (ax au)),
  fd=et x qual (jE st) (eQ st) (aW st) .none kV doc pm an aX ct/\K.lookup f=aq ⟨oc,od,.func fd,iC⟩/\codeIn K aX qual=a5
 kp:ek K (.ref f)=a5
section
variable{P:bp}{w:bz}{K:bu}{mg:bh->ax au}{base:b9}
theorem uJ.binds{x qual:bh}{st:cb}{f:az}{fd:cx}{ps:ar bh}(F:uJ K x qual st f fd)
  (h:∀(kV doc pm:au) (an:ax az) (j ct:au) (us:ar au),us.length=ps.length->dh (et x qual (jE st) (eQ st) (aW st) .none kV doc pm an j ct) ⟨us,[]⟩=pure (ps.zip us)):Binds K fd ps []:=by
 obtain⟨z,q,kV,doc,pm,an,j,ct,U,rfl,B,N⟩:=F.ex;exact .all (h kV doc pm an j ct)
theorem OF{x qual:bh}{st:cb}{f:az}{B:au}{od z:ax az}{N:ba (ax au)}{kV doc q j ct:au}(l:K.lookup f=aq ⟨B,od,.func (et x qual (jE st) (eQ st) (aW st) .none kV doc q z j ct),N⟩)
  (c:codeIn K j qual=a5) (k:ek K (.ref f)=a5):uJ K x qual st f (et x qual (jE st) (eQ st) (aW st) .none kV doc q z j ct):=⟨⟨B,od,kV,doc,q,z,j,ct,N,rfl,l,c⟩,k⟩
end
section
variable{X:Cx}
theorem aAN:tK X (.builtin "len") (λxs H Q=>∃a kvs,xs=[V.ref a]/\H a=aq (.dK kvs)/\Q (.int kvs.length) H):=by
 intro aa s J H xs B Q I r h;obtain⟨a,kvs,rfl,ha,q⟩:=h;obtain⟨u,rfl,j⟩:=vals1 r;cases j;exact ayS I (.inl ha) λt s' z=>⟨.int kvs.length,H,z,⟨t,rfl⟩,q⟩
end
def pC(H H':Hp):Prop:=∀b o,H b=aq o->H' b=aq o
theorem pC.refl(H:Hp):pC H H:=λ_ _ h=>h
theorem pC.trans{H H1 H2:Hp}(a:pC H H1)(b:pC H1 H2):pC H H2:=λc o h=>b c o (a c o h)
theorem pC.seq{K:bu}{H H':Hp}{a:az}{xs:ar V}(e:pC H H')(h:fW K H a xs):fW K H' a xs:=by
 rcases h with(h|⟨o,h⟩)|h
 ·exact .inl (.inl (e _ _ h))
 ·exact .inl (.inr ⟨o,e _ _ h⟩)
 ·exact .inr h
theorem Jp(env:Env):∀(names:ar (bh×dr)) (cs:ar (bh×az)),(∀y∈names,y.2=.free->∃c,env.cells.lookup y.1=aq c) ->
  ∃cl,(forIn names cs (λ(x:bh×dr) (cs:ar (bh×az))=>(match x with|(name,kind)=>if(kind==NameKind.free)=a5 then(do let c<-cellOf env name;pure (ForInStep.yield ((name,c)::cs)))else pure (ForInStep.yield cs))):Sem (ar (bh×az)))=pure cl /\
   (∀x c,cl.lookup x=aq c->cs.lookup x=aq c\/env.cells.lookup x=aq c)/\(∀y∈names,y.2=.free->∃c,cl.lookup y.1=aq c)/\(∀x c,cs.lookup x=aq c->∃c',cl.lookup x=aq c')
 |[],cs,_=>⟨cs,rfl,λ_ _ h => .inl h,λ_ h=>(nomatch h),λ_ c h=>⟨c,h⟩⟩
 |(n,k)::r,cs,h=>by
  by_cases a:k=.free
  ·subst a;obtain⟨c,b⟩:=h (n,.free) mB rfl;obtain⟨cl,e,h1,h2,B⟩:=Jp env r ((n,c)::cs) λy j=>h y (fS _ j);refine⟨cl,?_,λx d hd=>?_,λy j U=>?_,λx d hd=>?_⟩
   ·rw[List.forIn_cons];simp only[beq_self_eq_true,gT,cellOf,b,pure_bind];exact e
   ·rcases h1 x d hd with q|q
    ·rw[JR]at q;split at q
     ·rename_i N;have f:x=n:=by simpa using N
      subst f;exact .inr (b.trans q)
     ·exact .inl q
    ·exact .inr q
   ·rcases dU.mp j with z|z
    ·subst z;exact B n c (by simp)
    ·exact h2 y z U
   ·by_cases N:x=n
    ·subst N;exact B x c (by simp)
    ·have hb:(x==n)=aw:=by simpa using N
     exact B x d (by rw[JR,hb];exact hd)
  ·obtain⟨cl,e,h1,h2,B⟩:=Jp env r cs λy j=>h y (fS _ j);have hb:(k==NameKind.free)=aw:=by simpa using a
   refine⟨cl,?_,h1,λy j U=>?_,B⟩
   ·rw[List.forIn_cons];simp only[hb,kB,gU,pure_bind];exact e
   ·rcases dU.mp j with z|z
    ·subst z;exact b8 U a
    ·exact h2 y z U
theorem abT{scope:cu}{env:Env}(h:∀y∈scope.names,y.2=.free->∃c,env.cells.lookup y.1=aq c) :
  ∃cl,closureFor scope env=pure cl/\(∀x c,cl.lookup x=aq c->env.cells.lookup x=aq c)/\∀y∈scope.names,y.2=.free->∃c,cl.lookup y.1=aq c:=by
 obtain⟨cl,e,h1,h2,_⟩:=Jp env scope.names [] h;refine⟨cl,?_,λx c j=>(h1 x c j).resolve_left (by simp),h2⟩;unfold closureFor;refine Eq.trans (c3 (λm=>m >>= λcs=>pure cs) e) ?_;rfl
section
variable{prog:bp}{w:bz}{A:bx}{R:Result->ay->Prop}{s:ay}
theorem az2{elt target iter:b7}{ifs:ar b7}{scope:cu}{pos:dj}{e ae:au}{env:Env}(I:a9->ay->Prop)
  (turn:∀n s,I n s->wpAny (bw prog w) A (ei e) (λr s₁=>match r with
   |none=>R (.ok .next) s₁
   | some v=>wpAny (bw prog w) A (letOwnedTupleGo target e v) (λ_ f=>wpAny (bw prog w) A (assign target env v) (λ_ s₂ =>
     wpAny (bw prog w) A (forIn ifs a5 λc r=>if r=a5 then do let ok<-isTrue c env (cg c env);pure (ForInStep.yield ok)else pure (ForInStep.yield r)) (λok j =>
      if ok=a5 then wpAny (bw prog w) A (cg elt env) (λx z =>
       wpAny (bw prog w) A (call (.builtin "list.append") [ae,x]) (λ_ q=>∃m,m<n/\I m q) (λ_ _=>cq) z) (λ_ _=>cq) j
      else ∃m,m<n/\I m j) (λ_ _=>cq) s₂) (λ_ _=>cq) f) (λ_ _=>cq) s₁) (λ_ _=>cq) s)
  (n:a9) (h:I n s) :
  codeAny (bw prog w) A (.compLoop (.ListComp elt [⟨target,iter,ifs,0⟩] scope pos) 0 e ae env) R s:=by
 refine codeAny_loop rfl I (λn s g=>?_) n h;show wpAny _ A ((compTurn (.ListComp elt [⟨target,iter,ifs,0⟩] scope pos) 0 e ae env).onRaise (λx=>do noteFrame x env;theTreesLotGoes x)) _ _ s;refine wpAny_noted ?_;rw[compTurn_list];refine aM (wpAny_standAt (aM (pZ (turn n s g) (λr s₁ N=>?_) λ_ _ h'=>h'.elim)));cases r with
 |none=>exact bL N
 |some v =>
  refine aM (pZ N (λ_ f U=>?_) λ_ _ h'=>h'.elim);refine aM (pZ U (λ_ s₂ d=>aM (pZ d (λok j B=>?_) λ_ _ h'=>h'.elim)) λ_ _ h'=>h'.elim);cases ok with
  |false=>exact bL ⟨rfl,B⟩
  |true =>
   exact aM (aM (pZ B (λx z b=>aM (pZ b (λ_ q a=>bL (bL ⟨rfl,a⟩)) λ_ _ h'=>h'.elim)) λ_ _ h'=>h'.elim))
end
def PZ(X:Cx)(ifs:ar b7)(t:TT):Prop :=
 ∀(aa:ar (az×cz)) (s:ay) (J:St) (H:Hp) (Q:bt->Hp->Prop),Inv X aa J H s->t J H Q ->
  wpAny (bw X.prog X.w) X.A (forIn ifs a5 λc r=>if r=a5 then do let ok<-isTrue c X.env (cg c X.env);pure (ForInStep.yield ok)else pure (ForInStep.yield r)) (TP X aa J Q) X.xe s
def ahG:TT:=λ_ H Q=>Q a5 H
theorem amM{X:Cx}:PZ X [] ahG:=λ_ _ _ H _ I h=>wpAny_tests_nil ⟨H,I,h⟩
noncomputable def kN(X:Cx)(scope:cu)(q:ar bh)(js:ar a9)(cl:ar (bh×az))(C:az)(s:ay)(H:Hp)(fp:ar az):Cx :=
 {X with N:=q++js.map (λj=>X.N.getD j Str.empty),s₀:=s,H₀:=H,env:=compEnvC scope cl C X.env,outer:=X.stack,ex:=fp,fn:=λ_=>aw,xe:=λ_ _=>cq}
noncomputable def AV(q:ar bh)(js:ar a9)(J:St):St:=q.map (λ_=>av)++js.map (λj=>(J[j]?).join)
noncomputable def gk(env:Env)(n:bh)(k:dr):dr:=if(k==NameKind.free&&env.scope.kind == .function&&env.kindOf n==aq .cell)=a5 then .cell else k
theorem Tt(env:Env)(names:ar (bh×dr)):(names.map λ(n,k)=>if(k==NameKind.free&&env.scope.kind == .function&&env.kindOf n==aq .cell)then(n,NameKind.cell)else(n,k))=names.map λp=>(p.1,gk env p.1 p.2):=by
 refine JQ λp _=>?_;obtain⟨n,k⟩:=p;show(if(k==NameKind.free&&env.scope.kind == .function&&env.kindOf n==aq .cell)=a5 then(n,NameKind.cell)else(n,k))=(n,gk env n k);unfold gk;split <;> rfl
theorem Eo(env:Env)(x:bh):∀names:ar (bh×dr),(names.map λp=>(p.1,gk env p.1 p.2)).lookup x=(names.lookup x).map (gk env x)
 |[]=>rfl
 |(n,k)::r=>by
  rw[cP];cases j:x==n with
  |true =>
   have e:x=n:=by simpa using j
   subst e;rw[JR,JR];simp
  |false =>
   rw[JR,JR];simp only[j];exact Eo env x r
theorem lookup_mem{x:bh}{k:dr}:∀{names:ar (bh×dr)},names.lookup x=aq k->(x,k)∈names
 |[],h=>by simp at h
 |(n,q)::r,h=>by
  rw[JR]at h;cases j:x==n with
  |true =>
   have e:x=n:=by simpa using j
   subst e;simp only[beq_self_eq_true]at h;cases h;exact List.mem_cons_self ..
  |false =>
   simp only[j]at h;exact fS _ (lookup_mem h)
theorem Ep{env:Env}{names:ar (bh×dr)}{x:bh}(h:names.lookup x=aq .free) :
  (names.map λ(n,k)=>if(k==NameKind.free&&env.scope.kind == .function&&env.kindOf n==aq .cell)then(n,NameKind.cell)else(n,k)).lookup x=aq .cell \/
  (names.map λ(n,k)=>if(k==NameKind.free&&env.scope.kind == .function&&env.kindOf n==aq .cell)then(n,NameKind.cell)else(n,k)).lookup x=aq .free:=by
 rw[Tt,Eo,h];show aq (gk env x .free)=aq .cell\/aq (gk env x .free)=aq .free;unfold gk;split
 ·exact .inl rfl
 ·exact .inr rfl
theorem Dh{env:Env}{names:ar (bh×dr)}{x:bh}(B:∀y∈names,y.2≠.cell)
  (h:(names.map λ(n,k)=>if(k==NameKind.free&&env.scope.kind == .function&&env.kindOf n==aq .cell)then(n,NameKind.cell)else(n,k)).lookup x=aq .cell \/
   (names.map λ(n,k)=>if(k==NameKind.free&&env.scope.kind == .function&&env.kindOf n==aq .cell)then(n,NameKind.cell)else(n,k)).lookup x=aq .free):(x,NameKind.free)∈names:=by
 rw[Tt,Eo]at h;cases e:names.lookup x with
 |none=>rw[e]at h;rcases h with h|h <;> cases h
 |some k =>
  have hm:=lookup_mem e
  by_cases j:k=.free
  ·rw[j]at hm;exact hm
  ·rw[e]at h;have q:gk env x k=k:=by
    unfold gk;have hb:(k==NameKind.free)=aw:=by simpa using j
    rw[hb];rfl
   have h':gk env x k=.cell\/gk env x k=.free:=h.imp (λz=>kJ z) λz=>kJ z;rw[q]at h'
   rcases h' with z|z
   ·exact b8 z (B _ hm)
   ·exact b8 z j
structure JZ(X:Cx)(scope:cu)(ls:ar bh)(js:ar a9):Prop where
 kind:scope.kind=.function
 cell:∀y∈scope.names,y.2≠.cell
 names:∀y∈scope.names,y.2=.local->scope.names.lookup y.1=aq .local
 free:∀y∈scope.names,y.2=.free->X.env.kindOf y.1=aq .cell\/X.env.kindOf y.1=aq .free
 WN:∀j∈js,∃x,X.N[j]?=aq x/\scope.names.lookup x=aq .free
section
variable{X:Cx}{aa:ar (az×cz)}{J:St}{H:Hp}{s:ay}
theorem aqT{scope:cu}{j:ar bh}{js:ar a9}{cl:ar (bh×az)}{C:az}{fp:ar az}(L:JZ X scope j js)(I:Inv X aa J H s)
  (h1:∀x c,cl.lookup x=aq c->X.env.cells.lookup x=aq c) (h2:∀y∈scope.names,y.2=.free->∃c,cl.lookup y.1=aq c)
  {s':ay} {H':Hp} (B:s'.heap.objs.size<=C) (bs:∀b o,X.base.get? b=aq o->s'.heap.get? b=aq o/\H' b=av) (sX:X.base.objs.size<=s'.heap.objs.size)
  (pS:s'.heap.FunFrames X.base X.stack) (vL:∀b∈jD X.stack,H' b=av)
  (IF:∀b∈fp,b≠C/\∀x c,X.env.cells.lookup x=aq c->c≠b) (AO:∀b o,X.base.get? b=aq o->b∉fp) (EJ:∀b∈fp,b∉jD X.stack) :
  (kN X scope j js cl C s' H' fp).Ok where
 mod:=I.ok.mod
 kind:=L.kind
 glob:=I.ok.glob
 blt:=I.ok.blt
 above:=B
 inj:=λx y c a b=>I.ok.inj x y c (h1 x c a) (h1 y c b)
 has:=λx q=>h2 (x,.free) (Dh (env:=X.env) L.cell q) rfl
 IP:=λx c z=>by cases z
 hd:=I.ok.hd
 frames:=I.ok.frames
 uV:=.inl rfl
 IF:=λb hb=>⟨(IF b hb).1,λx c e=>(IF b hb).2 x c (h1 x c e)⟩
 bs:=bs
 sX:=sX
 AO:=AO
 EJ:=EJ
 pS:=pS
 vL:=vL
theorem aqR{z:ar bh}{js:ar a9}{i:a9}{v:V}(h:(AV z js J)[i]?=aq (aq v)):∃k j,i=z.length+k/\js[k]?=aq j/\J[j]?=aq (aq v):=by
 unfold AV at h
 by_cases hi:i<z.length
 ·rw[iS (by simpa using hi),jN]at h;cases e:z[i]? with
  |none=>rw[e]at h;cases h
  |some y=>rw[e]at h;cases h
 ·rw[qV (by simpa using Mi hi),jN,lQ]at h;cases e:js[i-z.length]? with
  |none=>rw[e]at h;cases h
  |some j =>
   rw[e]at h;refine⟨i-z.length,j,by omega,e,?_⟩;have h':(J[j]?).join=aq v:=kJ h;cases q:J[j]? with
   |none=>rw[q]at h';cases h'
   |some o =>
    rw[q]at h';exact c3 aq h'
def LcR(b:ar bh)(js:ar a9)(g:TG)(tc:TT)(te:TE)(J:St)(Q:VK)(σ:It)(H1:Hp):Prop:=∀D,H1 D=av ->
 ∃W:a9->a9->St->Hp->Prop,(∃m,W 0 m (AV b js J) (upd H1 D (.lst [])))/\∀i m z H',W i m z H' ->
  (σ.stop i H'/\Q (.ref D) H')\/(σ.go i H'/\∃N:St->Hp->Prop,(∀q H2,N q H2->∃B,B<m/\W (i+1) B q H2) /\
   ∀x H2,σ.CG i H' x H2->g x z H2 λj d=>tc j d λc a=>if c=a5 then te j a λy U=>∃ys,U D=aq (.lst ys)/\ys.length<bg/\N j (upd U D (.lst (ys++[y])))else N j a)
def Aq(q:ar bh)(js:ar a9)(j:TI)(g:TG)(tc:TT)(te:TE):TE:=λJ H Q=>j J H (LcR q js g tc te J Q)
theorem aqP{elt tg iter:b7}{ifs:ar b7}{scope:cu}{pos amE:dj}{f:ar bh}{js:ar a9}{wi:TI}{g:TG}{tc:TT}{te:TE}{use:ax (au->Sem Unit)}{R:au->ay->Prop}{Q:V->Hp->Prop}(hc:X.calm=a5)(L:JZ X scope f js)(hi:PI X tg iter wi)
  (hb:∀cl C s H fp,PG (kN X scope f js cl C s H fp) tg g/\PZ (kN X scope f js cl C s H fp) ifs tc/\PE (kN X scope f js cl C s H fp) elt te)
  (hs:∀x,df iter X.env x=pure x) (I:Inv X aa J H s) (h:Aq f js wi g tc te J H Q)
  (fin:∀d C M P m,Inv X aa J M P->qY X aa M C->P.heap.Ns C m->Q (.ref d) M->compPost (bw X.prog X.w) X.A X.xe use R (.ref d) C (.ok .next) P) :
  wpAny (bw X.prog X.w) X.A (comprehension (.ListComp elt [⟨tg,iter,ifs,0⟩] scope pos) scope X.env amE (newList []) aw (cg iter X.env) use) R X.xe s:=by
 obtain⟨cl,gM,fI,mD⟩:=abT (scope:=scope) (env:=X.env) λy S hf=>I.ok.has y.1 (L.free y S hf);refine wpAny_comprehension_free rfl hs gM L.kind L.names (bI (hi aa s J H _ I h) λv s1 h1=>bI h1 λFm s2 h2=>?_);obtain⟨it,fp,tn,σ,a,e,I2,T,hJ,f2,h2⟩:=h2;subst e;refine uO (wpAny_newFunctionEnv L.cell (by intro y S;simp at S) (λU Gj Fy=>?_) L.kind);dsimp only at Gj Fy ⊢;generalize Hx:s2.heap.push {cls:=.type "list",dict:=av,data:=.seq ([]:ar au).toArray}=B at Gj Fy ⊢;have hCz:B.objs.size=s2.heap.objs.size+1:=by rw[<-Hx,KI]
 have hD0:a s2.heap.objs.size=av:=I2.aJ.fresh cX;have hC0:a B.objs.size=av:=I2.aJ.fresh (by omega);have hDC:s2.heap.objs.size≠B.objs.size:=by omega
 have awH:B.get? s2.heap.objs.size=aq {cls:=.type "list",dict:=av,data:=.seq ([]:ar au).toArray}:=by rw[<-Hx];exact gO _ rfl
 have Fi:∀b o,s2.heap.get? b=aq o->B.get? b=aq o:=λb o e=>by rw[<-Hx];exact eI _ e
 have t:Inv X aa J (upd a s2.heap.objs.size (.lst [])) {s2 with heap:=B,toks:=s2.toks} :=
  I2.laid (t':=s2.toks) Fi cX (show jF X.prog X.w _ B _ (.lst [])from⟨by simp,[],0,.nil,awH⟩)
 have Fj:∀b o,B.get? b=aq o->U.get? b=aq o:=λb o e=>(Fy.2 b (gF (eG e))).trans (eI _ e);have I4:Inv X aa J (upd a s2.heap.objs.size (.lst [])) {s2 with heap:=U,toks:=s2.toks+0}:=t.kept (h':=U) (t':=s2.toks+0) Fj;generalize hT:(a,(⟨tg,iter,ifs,0⟩:Comprehension))=arH;clear hT arH;have Iu:∀b∈fp,b<s2.heap.objs.size:=λb hb=>by
  obtain⟨o,e,_⟩:=T.obj 0 _ hJ b hb;exact eG e
 have fpD:s2.heap.objs.size∉fp:=λz=>Nat.lt_irrefl _ (Iu _ z);have fpC:∀b∈fp,b≠B.objs.size:=λb hb=>gF (by rw[hCz];exact XY (Iu b hb));have okC:(kN X scope f js cl B.objs.size {s2 with heap:=B} (upd a s2.heap.objs.size (.lst [])) fp).Ok:=by
  refine aqT L t fI mD cX t.bs (rX t.ok.sX t.sz) t.stack t.Ax (λb hb=>⟨fpC b hb,(f2 b hb).2.2.2.2.1⟩) (λb o e hb=>?_) (λb hb z=>?_)
  ·rcases(f2 b hb).2.2.2.1 with q|q
   ·exact I2.ok.AO b o e q
   ·exact b8 (mY (eG (I2.ok.bs b o e).1) q) (Nat.lt_irrefl _)
  ·rcases dU.mp (t.LQ b z)with q|q
   ·exact(f2 b hb).2.1 q
   ·exact(f2 b hb).2.2.1 q
 have IC:Inv (kN X scope f js cl B.objs.size {s2 with heap:=B} (upd a s2.heap.objs.size (.lst [])) fp) [] (AV f js J) (upd a s2.heap.objs.size (.lst [])) {s2 with heap:=U,toks:=s2.toks+0}:=by
  refine⟨okC,rfl,I4.bare,Un.kept Fj,⟨_,Gj,λi x v e1 e2 e3=>?_⟩,λx c e=>I4.cell x c (fI x c e),?_,λx c e=>I4.oG x c (fI x c e),λp hp=>?_,I4.aJ,?_⟩
  ·obtain⟨k,j,qJ,hj,hσ⟩:=aqR e2;obtain⟨y,S,Fu⟩:=L.WN j (nA hj);have HJ:x=y:=by
    have wV:(f++js.map (λj=>X.N.getD j Str.empty))[i]?=aq x:=e1;rw[qJ,qV (Nat.le_add_right ..),Nat.add_sub_cancel_left,jN,hj]at wV;have Ji:X.N.getD j Str.empty=x:=kJ wV;rw[<-Ji,List.getD_eq_getElem?_getD,S];rfl
   subst HJ;have Zb:X.env.kindOf x=aq .cell\/X.env.kindOf x=aq .free:=by
    have hm:(x,NameKind.free)∈scope.names:=by
     have q:=Dh (env:=X.env) L.cell (Ep (env:=X.env) Fu);exact q
    exact L.free _ hm rfl
   obtain⟨m,hn,hl⟩:=I4.loc;obtain⟨u,r,l⟩:=hl j x v S hσ (Zb.elim (λz => .inr (.inl z)) λz => .inr (.inr z));refine⟨u,r,.inr ⟨Ep (env:=X.env) Fu,?_⟩⟩
   rcases l with⟨kl,_⟩|⟨_,c,wO,z⟩
   ·rcases Zb with q|q
    ·rw[q]at kl;cases kl
    ·rw[q]at kl;cases kl
   ·have hm:(x,NameKind.free)∈scope.names:=Dh (env:=X.env) L.cell (Ep (env:=X.env) Fu);obtain⟨c',Zw⟩:=mD _ hm rfl;have:=fI _ _ Zw;rw[wO]at this;cases this;exact⟨c,Zw,z⟩
  ·show upd a s2.heap.objs.size (.lst []) B.objs.size=av;rw[bJ (dM hDC)];exact hC0
  ·have AZ:p∈X.pn:=by simpa[kN]using hp
   obtain⟨e,n,ne,nf,d⟩:=I4.pin p (qU _ AZ);obtain⟨e3,_⟩:=t.pin p (qU _ AZ);refine⟨e,n,?_,λz=>?_,d⟩
   ·exact gF (eG e3)
   ·rcases dU.mp (t.LQ p.1 z)with q|q
    ·exact ne q
    ·exact nf q
  ·simp[AV,kN]
 obtain⟨Ho,hbI,hbE⟩:=hb cl B.objs.size {s2 with heap:=B} (upd a s2.heap.objs.size (.lst [])) fp;obtain⟨W,⟨m0,w0⟩,turn⟩:=h2 s2.heap.objs.size hD0;have Sr:tn 0 U:=T.keep _ _ _ hJ λb hb o e=>Fj b o (Fi b o e);have eU:∀{G:Hp},(∀b∈fp,G b=av)->∀b∈fp,qY (kN X scope f js cl B.objs.size {s2 with heap:=B} (upd a s2.heap.objs.size (.lst [])) fp) [] G b:=λhn b hb=>by
  refine⟨hn b hb,fpC b hb,λz=>?_,.inl hb,λx c e=>(f2 b hb).2.2.2.2.1 x c (fI x c e),λp hp=>?_⟩
  ·rcases dU.mp (t.LQ b z)with q|q
   ·exact(f2 b hb).2.1 q
   ·exact(f2 b hb).2.2.1 q
  ·have AZ:p∈X.pn:=by simpa[kN]using hp
   exact(f2 b hb).2.2.2.2.2 p (qU _ AZ)
 have fr0:∀b∈fp,(upd a s2.heap.objs.size (.lst [])) b=av:=λb hb=>by
  rw[bJ (show b≠s2.heap.objs.size from gF (Iu b hb))];exact(f2 b hb).1
 have loop:∀s4:ay,s4={s2 with heap:=U,toks:=s2.toks+0} ->
   codeAny (bw X.prog X.w) X.A (.compLoop (.ListComp elt [⟨tg,iter,ifs,0⟩] scope pos) 0 (.ref it) (.ref s2.heap.objs.size) (compEnvC scope cl B.objs.size X.env))
    (compPost (bw X.prog X.w) X.A X.xe use R (.ref s2.heap.objs.size) B.objs.size) s4:=by
  rintro s4 rfl;refine az2 (λn s'=>∃i E G,Inv (kN X scope f js cl B.objs.size {s2 with heap:=B} (upd a s2.heap.objs.size (.lst [])) fp) [] E G s'/\tn i s'.heap/\(∀b∈fp,G b=av)/\W i n E G) ?_ m0 ⟨0,_,_,IC,Sr,fr0,w0⟩;rintro n s5 ⟨i,K,M,I5,CQ,VY,w5⟩
  rcases turn i n K M w5 with⟨stop,qn⟩|⟨go,N,hN,step⟩
  ·refine bI (T.done (kN X scope f js cl B.objs.size {s2 with heap:=B} (upd a s2.heap.objs.size (.lst [])) fp) rfl rfl rfl hc i [] s5 K M _ I5 (eU VY) CQ stop) λr P ⟨hr,I6⟩=>?_;subst hr;obtain⟨m6,hn6,_⟩:=I6.loc;have un1:Un (jD X.stack) fp (upd a s2.heap.objs.size (.lst [])) M B P.heap:=I6.base;have un:=(Un.laid Fi cX hD0).trans un1;exact fin _ _ _ _ _ (I2.OV (s':=P) (ch:=fp) I6.os un I6.aJ I6.bare λb hb=>⟨(f2 b hb).2.2.2.1,(f2 b hb).2.1,(f2 b hb).2.2.2.2.1,(f2 b hb).2.2.2.2.2⟩) (t.wR cX I6.free) hn6 qn
  ·refine bI (T.item (kN X scope f js cl B.objs.size {s2 with heap:=B} (upd a s2.heap.objs.size (.lst [])) fp) rfl rfl rfl hc i [] s5 K M _ I5 (eU VY) CQ go) λr P ⟨u,hr,h6⟩=>?_;subst hr;refine bI h6 λ_ s7 zz=>?_;obtain⟨x,H7,I7,r7,y7,Az,fr7⟩:=zz;have I7':=I7.pinned (eU fr7) (T.obj _ _ Az);refine bI (Ho _ s7 K H7 x u _ I7' r7 (step x H7 y7)) λ_ s8 ⟨J8,H8,I8,q8⟩=>?_;refine bI (hbI _ s8 J8 H8 _ I8 q8) λok s9 ⟨H9,I9,q9⟩=>?_;have again:∀{D:St} {Ha:Hp} {sa:ay},Inv (kN X scope f js cl B.objs.size {s2 with heap:=B} (upd a s2.heap.objs.size (.lst [])) fp) ([]++LZ fp s7.heap) D Ha sa->N D Ha ->
     ∃m,m<n/\∃i E G,Inv (kN X scope f js cl B.objs.size {s2 with heap:=B} (upd a s2.heap.objs.size (.lst [])) fp) [] E G sa/\tn i sa.heap/\(∀b∈fp,G b=av)/\W i m E G:=λ{D Ha sa} Ia na=>by
    obtain⟨m',hm,wa⟩:=hN D Ha na;refine⟨m',hm,i+1,D,Ha,Ia.RX,T.keep _ _ _ Az λb hb o e=>(Ia.pin (b,o) (nP _ (nP _ (UC hb e)))).1,λb hb=>?_,wa⟩;obtain⟨o,e,d⟩:=T.obj _ _ Az b hb;exact(Ia.pin (b,o) (nP _ (nP _ (UC hb e)))).2.1
   cases ok with
   |false=>exact again I9 q9
   |true =>
    refine bI (hbE _ s9 J8 H9 _ I9 q9) λy s10 zz=>?_;obtain⟨z,H10,I10,r10,ys,hD,bZ,nn⟩:=zz;obtain⟨zz,aZ,k,r,hl,e⟩:=I10.HB hD;refine call_meets F.slot_list_append ⟨_,e,rfl⟩ F.entry_list_append (F.args_list_append_2 _ _) (PySem.list_append s2.heap.objs.size aZ.toArray k y (by rw[lE];omega)) ⟨e,?_⟩;refine again (I10.En (its':=aZ++[y]) (t':=s10.toks) hD e ?_ (r.append (.cons r10 .nil)) ?_) nn
    ·simp
    ·simp;omega
 exact codeAny_compStart_list (loop _ rfl) (T.self _ 0 _ _ _ Sr (loop _ rfl))
theorem Inv.back{C:az}{h':b9}(I:Inv X aa J H s)(f:qY X aa H C)(j:Heap.SameBut C s.heap h'):Inv X aa J H {s with heap:=h' }:=by
 have ne1:∀b,b∉[C]->b≠C:=λb hb z=>hb (by rw[z];exact List.mem_singleton_self _);have B:Un (jD X.stack) [C] H H s.heap h':=⟨λb o e n a x=>(j.2 b (ne1 b x)).trans e,λb o e n a x=>⟨o.slots,(j.2 b (ne1 b x)).trans e⟩,λ_ _ _ n _=>n,λb o e x=>⟨o,(j.2 b (ne1 b x)).trans e⟩,λ_ _ q=>q,λ_ _ _ q=>q,λ_ d q=>⟨#[],by rw[q];simp⟩⟩;have U:fU X.prog X.w H h':=λb o e=>by
  refine(I.aJ b o e).oR (λc u N q=>(j.2 c ?_).trans q) (λ_ q=>q) λ_ _ q=>q;rintro rfl
  rcases N with z|z
  ·subst z;rw[f.1]at e;cases e
  ·rw[f.1]at z;cases z
 exact I.OV (s':={s with heap:=h' }) (ch:=[C]) rfl B U I.bare λb hb=>by
  rw[mJ.mp hb];exact⟨f.2.2.2.1,f.2.1,f.2.2.2.2.1,f.2.2.2.2.2⟩
theorem am8{elt tg iter:b7}{ifs:ar b7}{scope:cu}{pos:dj}{j:ar bh}{js:ar a9}{z:TI}{g:TG}{tc:TT}{te:TE}(U:X.calm=a5)(L:JZ X scope j js)(hi:PI X tg iter z)
  (hb:∀cl C s H fp,PG (kN X scope j js cl C s H fp) tg g/\PZ (kN X scope j js cl C s H fp) ifs tc/\PE (kN X scope j js cl C s H fp) elt te)
  (N:∀x,df iter X.env x=pure x:=by intro _;rfl):PE X (.ListComp elt [⟨tg,iter,ifs,0⟩] scope pos) (Aq j js z g tc te):=by
 intro aa s J H Q I h;rw[eval_ListComp];exact aqP U L hi hb N I h λd C b c m a f hn q=>⟨m,hn,λh' B=>⟨.ref d,b,a.back f B,rfl,q⟩⟩
end
section
variable{X:Cx}
theorem aAF(c:X.calm=a5):tK X (.builtin "sum") (λxs H Q=>∃(a:az) (ns:ar a8),xs=[.ref a]/\fW X.K H a (ns.map V.int)/\Q (.int ns.sum) H):=by
 intro aa s J H xs d Q I r h;obtain⟨a,ns,rfl,U,q⟩:=h;obtain⟨u,rfl,N⟩:=vals1 r;cases N;obtain⟨j,B,pl,f⟩:=I.list U;have hi:c7 j ns:=intsAre_of B;obtain⟨xs,z⟩:=hi.allInts.items;have hl:s.heap.IsList a (intItems xs):=z ▸ pl.isList;refine sum_intListG (I.ok.hd c) hl λh' tk t' b=>?_;have e:preSum (numAt xs) xs.size=ns.sum:=by
  rw[preSum_eq,Mw (by simp),<-nums_intItems,<-z,show j.toArray.toList=j from rfl,hi.numsOf]
 exact⟨.int ns.sum,H,I.kept (t':=tk) b,⟨t',by rw[e]⟩,q⟩
theorem aAO:tK X (.builtin "isinstance") (λxs H Q=>∃x n t b,xs=[x,.ty n]/\rT X.K H x t/\kitOne X.K t (.type n)=aq b/\Q (.bl b) H):=by
 intro aa s J H xs B Q I r h;obtain⟨x,n,t,b,rfl,ty,e,q⟩:=h;obtain⟨u,v,rfl,z,j⟩:=vals2 r;cases j;exact arW I z ty e λtk=>⟨.bl b,H,I.tok tk,rfl,q⟩
end
inductive Dt where
 |int (i:a8)|bl (b:bt)|str (x:bh)|cZ|tup (ds:ar Dt)|lst (ds:ar Dt)
def Den(K:bu)(H:Hp):a9->V->Dt->Prop
 |_,v,.int j=>v=.int j
 |_,v,.bl b=>v=.bl b
 |_,v,.str x=>v=.str x
 |_,v,.cZ=>v=.cZ
 |0,_,.tup _=>cq
 |0,_,.lst _=>cq
 |n+1,v,.tup ds=>∃a xs,v=.ref a/\kI K H a xs/\Paired (Den K H n) xs ds
 |n+1,v,.lst ds=>∃a xs,v=.ref a/\fW K H a xs/\Paired (Den K H n) xs ds
structure HasFn(K:bu)(mg:bh->ax au)(x:bh)(st:cb):Prop where
 ex:∃f fd,mg x=aq (.ref f)/\uJ K x x st f fd
theorem iZ{K:bu}{h:b9}{mg:bh->ax au}{x:bh}{st:cb}{f:az}{z:au}{od N:ax az}{B:ba (ax au)}{kV doc q j ct:au}(X:K.In h)(G:h.Ns bo mg)
  (a:nsIn K bo x=aq (aq (.ref f))) (l:K.lookup f=aq ⟨z,od,.func (et x x (jE st) (eQ st) (aW st) .none kV doc q N j ct),B⟩)
  (c:codeIn K j x=a5) (k:ek K (.ref f)=a5):HasFn K mg x st:=⟨⟨f,_,mg_of X G a,OF l c k⟩⟩
structure Def(P:bp)(w:bz)(K:bu)(mg:bh->ax au)(base:b9)(x:bh)(k:a9)(ps:ar bh)(sp:Sp):Prop where
 ex:∃f fd,iI P w K mg base CF k f fd ps sp/\mg x=aq (.ref f)/\ek K (.ref f)=a5/\Binds K fd ps []
theorem anI{X:Cx}{k:a9}{x:bh}{ps:ar bh}{sp:Sp}{e:b7}{es:ar b7}{t:TA}{p pos:dj}(D:Def X.prog X.w X.K X.mg X.base x k ps sp)(hr:cR k X.A)(z:Gl X x)(ha:PA X (e::es) t)
  (j:(x==("__debug__" : bh))=aw:=by decide) (he:bj (e::es) X.env=(aw,cg e X.env)::bj es X.env:=by rfl) (B:(cw pos (bj es X.env)).any (·.1)=aw:=by rfl) :
  PE X (.Call (.Name x p) (e::es) [] pos) (Si sp [] E0 t):=by
 obtain⟨f,N,F,hm,q,hb⟩:=D.ex;exact anM F hr z hm q hb .nil Ve ha j he B
theorem pC.new{H:Hp}{p:az}{o:HO}(h:H p=av):pC H (upd H p o):=λb u e=>by rw[bJ (iV e h)];exact e
def aCP(K:bu)(H:Hp)(v:V)(ns:ar a8):Prop:=∃p,v=.ref p/\kI K H p (ns.map V.int)
def Rows(K:bu)(H:Hp)(xs:ar V)(rs:ar (ar a8)):Prop:=Paired (aCP K H) xs rs
def aBQ(h₀ h:b9)(H:Hp)(x:az)(vs:ba au):Prop :=
 ∃T q j,vs[1]?=aq (.ref T)/\T≠x/\h₀.get? T=av/\H T=av/\h.get? T=aq q/\q.data=.fields j/\3<j.size
def pD(h₀ h:b9)(H:Hp)(x:az)(cls:au)(dx:ax az)(tb:bt):Prop :=
 h₀.get? x=av/\H x=av/\∃j vs,h.get? x=aq j/\j.cls=cls/\j.dict=dx/\j.data=.fields vs/\1<vs.size/\((tb=aw/\vs[1]?=aq .none)\/aBQ h₀ h H x vs)
theorem pD.any{h₀ h:b9}{H:Hp}{x:az}{cls:au}{dx:ax az}{tb:bt}(e:pD h₀ h H x cls dx tb):pD h₀ h H x cls dx aw:=by
 obtain⟨a,b,q,j,f,d,c,U,N,B⟩:=e;exact⟨a,b,q,j,f,d,c,U,N,B.imp (λz=>⟨rfl,z.2⟩) id⟩
structure wZ(X:Cx):Prop where
 uV:X.stack=X.env::X.outer
 OG:X.env.frame=aq X.env.locals
 pn:X.pn=[]
theorem wZ.mem{X:Cx}(t:wZ X){b:az}:b∈jD X.stack<->b=X.env.locals\/b∈X.fs:=by
 rw[t.uV];unfold jD;rw[Nc,t.OG];exact dU
section
variable{X:Cx}{J:St}{H:Hp}{s:ay}
theorem Inv.Dj{h':b9}{ch:ar az}(I:Inv X [] J H s)(t:wZ X)(g:∀b∈ch,X.s₀.heap.get? b=av/\H b=av/\∃o vs,s.heap.get? b=aq o/\o.data=.fields vs)
  (keep:∀b o,b∉jD X.stack->b∉ch->s.heap.get? b=aq o->h'.get? b=aq o) (slot:∀b o,b∈jD X.stack->s.heap.get? b=aq o->∃sl,h'.get? b=aq {o with slots:=sl}) :
  Inv X [] J H {s with heap:=h' }:=by
 have C:∀c v,s.heap.IsCell c v->c∉ch:=λc v ⟨o,B,hd⟩ j=>by
  obtain⟨_,_,h,vs,e,d⟩:=g c j;rw[B]at e;cases e;rw[hd]at d;cases d
 have any:∀b o,b∉ch->s.heap.get? b=aq o->∃sl,h'.get? b=aq {o with slots:=sl}:=λb o j e=>by
  by_cases hb:b∈jD X.stack
  ·exact slot b o hb e
  ·exact⟨o.slots,keep b o hb j e⟩
 have cellK:∀c v,s.heap.IsCell c v->h'.IsCell c v:=λc v z=>by
  obtain⟨o,B,hd⟩:=id z;obtain⟨sl,e⟩:=any c o (C c v z) B;exact⟨_,e,hd⟩
 have old:∀b o,X.s₀.heap.get? b=aq o->b≠X.env.locals/\b∉ch:=λb o e =>
  ⟨gF (mY (eG e) I.ok.above),λj=>by rw[(g b j).1]at e;cases e⟩
 have w:∀b,b≠X.env.locals->b∉X.fs->b∉jD X.stack:=λb h1 h2 z=>(t.mem.mp z).elim h1 h2;refine⟨I.ok,I.os,I.bare,⟨λb o e n hb N=>?_,λb o e n hb N=>?_,I.base.free,λb o e N=>?_,I.base.oP,I.base.mV,I.base.nT⟩,?_,λx c e=>?_,I.free,I.oG,λp D=>?_,λb u e=>?_,I.len⟩
 ·exact keep b o (w b (old b o e).1 hb) (old b o e).2 (I.base.keep b o e n hb N)
 ·obtain⟨sl,a⟩:=I.base.slot b o e n hb N;obtain⟨L,U⟩:=any b _ (old b o e).2 a;exact⟨L,U⟩
 ·obtain⟨h,a⟩:=I.base.there b o e N;obtain⟨sl,U⟩:=any b h (old b o e).2 a;exact⟨_,U⟩
 ·obtain⟨m,hn,hl⟩:=I.loc;obtain⟨o,es,F,B,hd,r⟩:=id hn;have A:X.env.locals∉ch:=λj=>by
   obtain⟨_,_,h,vs,e,d⟩:=g _ j;rw[B]at e;cases e;rw[hd]at d;cases d
  obtain⟨sl,e⟩:=any _ o A B;refine⟨m,⟨_,es,F,e,hd,r⟩,λi x v a U K=>?_⟩;obtain⟨u,E,l⟩:=hl i x v a U K;refine⟨u,E,?_⟩
  rcases l with l|⟨k,c,G,z⟩
  ·exact .inl l
  ·exact .inr ⟨k,c,G,cellK c _ z⟩
 ·obtain⟨v,z⟩:=I.cell x c e;exact⟨v,cellK c v z⟩
 ·rw[t.pn]at D;simp at D
 ·refine(I.aJ b u e).oR (λc v j q=>keep c v ?_ ?_ q) (λ_ q=>q) λ_ _ q=>q
  ·intro z;have f:=I.Ax c z
   rcases j with y|y
   ·rw[y,e]at f;cases f
   ·rw[y]at f;cases f
  ·intro z;have f:=(g c z).2.1
   rcases j with y|y
   ·rw[y,e]at f;cases f
   ·rw[y]at f;cases f
variable{M:Model}{E:au->ay->Prop}{x:az}{cls:au}{dx:ax az}
theorem pD.Ej(I:Inv X [] J H s){b:az}{o:cz}{vs:ba au}(e:s.heap.get? b=aq o)(d:o.data=.fields vs):b∉jD X.stack:=λhm=>by
 obtain⟨_,z,q,j⟩:=I.stack.mem hm;rw[e]at q;cases q;exact j vs d
theorem abF(I:Inv X [] J H s)(t:wZ X){j:cz}{vs:ba au}{head:au}{h:bt}{Q:Unit->ay->Prop}(m:X.s₀.heap.get? x=av)(n:H x=av)(he:s.heap.get? x=aq j)(hd:j.data=.fields vs)(hsz:1<vs.size)
  (q:∀h',Inv X [] J H {s with heap:=h' }->pD X.s₀.heap h' H x j.cls j.dict a5->Q () {s with heap:=h' }) :
  wpAny M X.A (do let a<-frameOf X.env;let pl<-entryPlaceOf X.env.locals h;let b<-EntryCells.newEntry head a .none (cn X.env.locals) .none pl;setField (.ref x) 1 b) Q E s:=by
 have K:X.A.frames=aq (X.env::X.outer):=by rw[<-t.uV];exact I.ok.frames
 have hl:s.heap.FunFrames X.base (X.env::X.outer):=by rw[<-t.uV];exact I.stack
 have gD:x∉jD X.stack:=pD.Ej I he hd;have k:(X.env::X.outer).filterMap (·.frame)=jD X.stack:=by rw[t.uV];rfl
 refine aM (wpAny_frameOf_fun K hl t.OG λh1 B=>aM (wpAny_entryPlaceOf λpl y=>?_));rw[k]at B;unfold EntryCells.newEntry;unfold newFields;refine aM (uO ?_ (y.sizeOk5 _ _ _ _ _));have r:h1.get? x=aq j:=(B.2.1 x gD).trans he;generalize u:({cls:=.type "traceback",dict:=av,data:=.fields ([head,.ref X.env.locals,.none,cn X.env.locals,.none]++(if pl.isEmpty then List.replicate 6 Value.none else pl)).toArray}:cz)=to;have f:∃N,to.data=.fields N/\3<N.size:=⟨_,by rw[<-u],by simp only[lE,iR,fT,BX];omega⟩;have U:to.isFreed=aw:=by rw[<-u];rfl
 have p:(h1.push to).get? x=aq j:=eI _ r;have l:h1.objs.size≠x:=JF (eG r);refine wpAny_setField p hd hsz ?_;have v:=Obj.data_mapFields hd (·.setIfInBounds 1 (Value.ref h1.objs.size));have g:=QM (Obj.mapFields (·.setIfInBounds 1 (Value.ref h1.objs.size))) p (Obj.isFreed_of_fields v);have i:=(tH (h1.push to) (Obj.mapFields (·.setIfInBounds 1 (Value.ref h1.objs.size))) (dM l)).trans (gO h1 U);have kp:∀b o,b≠x->h1.get? b=aq o->((h1.push to).update x (Obj.mapFields (·.setIfInBounds 1 (Value.ref h1.objs.size)))).get? b=aq o:=λb o hb e =>
  (tH _ _ (dM hb)).trans (eI _ e)
 have L:X.s₀.heap.get? h1.objs.size=av:=by
  cases e:X.s₀.heap.get? h1.objs.size with
  |none=>rfl
  |some o =>
   have h2:=mY (eG e) I.sz;rw[B.1]at h2;exact b8 h2 (Nat.lt_irrefl _)
 have P:H h1.objs.size=av:=by rw[B.1];exact I.aJ.fresh cX
 refine q _ (I.Dj t (ch:=[x]) (λb hb=>?_) (λb o hb w e=>?_) λb o hb e=>?_) ⟨m,n,_,_,g,Obj.cls_mapFields _ _,?_,v,by simpa using hsz,.inr ⟨h1.objs.size,to,?_⟩⟩
 ·rw[mJ.mp hb];exact⟨m,n,j,vs,he,hd⟩
 ·exact kp b o (λz=>w (by rw[z];exact mJ.mpr rfl)) ((B.2.1 b hb).trans e)
 ·obtain⟨sl,C⟩:=B.2.2 b o e;exact⟨sl,kp b _ (λz=>gD (z ▸ hb)) C⟩
 ·obtain⟨c,d,D,sl⟩:=j;cases D <;> rfl
 ·obtain⟨N,G,F⟩:=f;exact⟨N,by simp[hsz],l,L,P,i,G,F⟩
theorem Vu(I:Inv X [] J H s)(t:wZ X){tb:bt}{Q:Unit->ay->Prop}(e:pD X.s₀.heap s.heap H x cls dx tb)
  (q:∀h',Inv X [] J H {s with heap:=h' }->pD X.s₀.heap h' H x cls dx a5->Q () {s with heap:=h' }):wpAny M X.A (noteFrame (.ref x) X.env) Q E s:=by
 obtain⟨U,a,n,m,he,rfl,rfl,hd,j,r⟩:=id e;unfold noteFrame;simp only[t.OG]
 rcases r with⟨_,h1⟩|⟨T,i,N,h1,h,k,l,hT,B,f⟩
 ·refine aM (RM he hd h1 ?_);rw[bc (by decide)];exact abF I t U a he hd j q
 ·refine aM (RM he hd h1 ?_);rw[bb (show(Value.ref T != Value.none)=a5 from by simp)];obtain⟨c,d⟩:∃c,N[3]?=aq c:=⟨N[3],Pa f⟩;refine aM (RM hT B d ?_)
  by_cases hb:(c==cn X.env.locals)=a5
  ·rw[bb hb];exact bL (q s.heap I ⟨U,a,n,m,he,rfl,rfl,hd,j,.inr ⟨T,i,N,h1,h,k,l,hT,B,f⟩⟩)
  ·rw[bc hb];refine aM (wpAny_setField hT B f ?_);have g:∀b,b≠T->(s.heap.update T (Obj.mapFields (·.setIfInBounds 3 Value.none))).get? b=s.heap.get? b:=λb hb=>tH _ _ (dM hb);have v:T∉jD X.stack:=pD.Ej I hT B;have u:Inv X [] J H {s with heap:=s.heap.update T (Obj.mapFields (·.setIfInBounds 3 Value.none))}:=I.Dj t (ch:=[T]) (λb hb=>by
    rw[mJ.mp hb];exact⟨k,l,i,N,hT,B⟩) (λb o _ p e=>(g b (λz=>p (by rw[z];exact mJ.mpr rfl))).trans e) λb o hb e=>⟨o.slots,(g b (λz=>v (z ▸ hb))).trans e⟩
   exact abF u t U a ((g x (dM h)).trans he) hd j q
theorem aa2{A:bx}(I:Inv X [] J H s)(t:wZ X){fo:ax az}{Q:Unit->ay->Prop}(e:pD X.s₀.heap s.heap H x cls dx a5)
  (q:∀h',Inv X [] J H {s with heap:=h' }->pD X.s₀.heap h' H x cls dx a5->Q () {s with heap:=h' }):wpAny M A (setFlight (.ref x) fo) Q E s:=by
 obtain⟨i,k,n,l,he,rfl,rfl,hd,B,u⟩:=id e
 rcases u with⟨z,_⟩|⟨T,p,m,h1,U,g,h,hT,j,a⟩
 ·cases z
 unfold setFlight;refine aM (RM he hd h1 ?_);rw[bb (show(Value.ref T != Value.none)=a5 from by simp)];refine wpAny_setField hT j a ?_;generalize (fo.elim Value.none λf=>cn f)=c;have N:∀b,b≠T->(s.heap.update T (Obj.mapFields (·.setIfInBounds 3 c))).get? b=s.heap.get? b:=λb hb=>tH _ _ (dM hb);have v:T∉jD X.stack:=pD.Ej I hT j;have d:=Obj.data_mapFields j (·.setIfInBounds 3 c);refine q _ (I.Dj t (ch:=[T]) (λb hb=>?_) (λb o _ r e=>(N b (λz=>r (by rw[z];exact mJ.mpr rfl))).trans e) λb o hb e=>⟨o.slots,(N b (λz=>v (z ▸ hb))).trans e⟩)
  ⟨i,k,n,l,(N x (dM U)).trans he,rfl,rfl,hd,B,.inr ⟨T,_,_,h1,U,g,h,QM _ hT (Obj.isFreed_of_fields d),d,by simpa using a⟩⟩
 rw[mJ.mp hb];exact⟨g,h,p,m,hT,j⟩
end
abbrev WX:=St->au->ax az->Hp->Prop
def XE(X:Cx)(W:WX):au->ay->Prop:=λe s'=>∃J H' x cls dx,e=.ref x/\Inv X [] J H' s'/\pD X.s₀.heap s'.heap H' x cls dx aw/\W J cls dx H'
section
variable{X:Cx}
theorem anT(t:wZ X){W:WX}:PassesOwn (bw X.prog X.w) X.A X.env (XE X W):=by
 rintro e s' ⟨J,d,x,cls,U,rfl,I,ex,w⟩;unfold notedBy;refine Vu I t ex λh1 c j=>?_;unfold cameBackBy;obtain⟨g,h,m,i,he,o,r,hd,B,a⟩:=id j
 rcases a with⟨z,_⟩|⟨T,n,l,q,f,s,u,hT,k,p⟩
 ·cases z
 refine aM (RM he hd q ?_);rw[bc (show ¬((Value.ref T==Value.none)=a5)from by simp)];exact aa2 c t j λh2 b N=>⟨J,d,x,cls,U,rfl,b,N.any,w⟩
def pE(P:bp)(w:bz):rA:=λouter H s E e s'=>∃x cls dx H',e=.ref x/\s'.os=s.os/\AllBare s'.gens/\Un (jD outer) [] H H' s.heap s'.heap/\fU P w H' s'.heap/\pD s.heap s'.heap H' x cls dx a5/\E cls dx H'
end
structure tE(X:Cx)(W:WX):Prop where
 top:wZ X
 ex:X.ex=[]
 to:∀e s',XE X W e s'->X.xe e s'
 passes:PassesOwn (bw X.prog X.w) X.A X.env X.xe
theorem tE.of{X:Cx}(t:wZ X)(j:X.ex=[])(W:WX):tE (X.uP (XE X W)) W where
 top:=⟨t.uV,t.OG,t.pn⟩
 ex:=j
 to:=λe s' ⟨J,z,x,cls,q,a,I,b,c⟩=>⟨J,z,x,cls,q,a,I.xV,b,c⟩
 passes:=anT t
theorem Inv.Va{X:Cx}{aa:ar (az×cz)}{J:St}{H:Hp}{s:ay}(I:Inv X aa J H s):Inv X [] J H s:=I.Dq λp j=>b8 j (by simp)
theorem Inv.first{X:Cx}{aa:ar (az×cz)}{J:St}{H:Hp}{s:ay}(I:Inv X aa J H s)(q:X.ex=[]){b:az}(h:s.heap.get? b=av):X.s₀.heap.get? b=av:=by
 cases e:X.s₀.heap.get? b with
 |none=>rfl
 |some o =>
  obtain⟨z,j⟩:=I.base.there b o e (by rw[q];simp);rw[h]at j;cases j
theorem pD.first{X:Cx}{aa:ar (az×cz)}{J:St}{H H':Hp}{s:ay}{h':b9}{x:az}{cls:au}{dx:ax az}{tb:bt}(I:Inv X aa J H s)(j:X.ex=[])(e:pD s.heap h' H' x cls dx tb) :
  pD X.s₀.heap h' H' x cls dx tb:=by
 obtain⟨a,b,B,q,p,o,n,m,l,k⟩:=e;refine⟨I.first j a,b,B,q,p,o,n,m,l,k.imp id λ⟨T,N,z,i,h,g,f,d,c,U⟩=>⟨T,N,z,i,h,I.first j g,f,d,c,U⟩⟩
section
variable{P:bp}{w:bz}{K:bu}{mg:bh->ax au}{base:b9}
abbrev oI(P:bp)(w:bz)(K:bu)(mg:bh->ax au)(base:b9)(N:ar bh)(qual:bh)(scope:cu)(f:az)(j:au)(A:bx)(outer:ar Env)(s:ay)(H:Hp)(E:XK):Cx :=
 (uD (pE P w) P w K mg base N qual scope f j A outer s H E).uP (XE (uD (pE P w) P w K mg base N qual scope f j A outer s H E) λ_=>E)
theorem Aj{CX:rA}{N:ar bh}{qual:bh}{scope:cu}{f:az}{j:au}{A:bx}{outer:ar Env}{s:ay}{H:Hp}{E:XK}:wZ (uD CX P w K mg base N qual scope f j A outer s H E):=⟨rfl,rfl,rfl⟩
theorem bK{N:ar bh}{qual:bh}{scope:cu}{f:az}{j:au}{A:bx}{outer:ar Env}{s:ay}{H:Hp}{E:XK}:tE (oI P w K mg base N qual scope f j A outer s H E) (λ_=>E):=tE.of Aj rfl _
theorem MR{N:ar bh}{qual:bh}{scope:cu}{f:az}{z:au}{A:bx}{outer:ar Env}{s:ay}{H:Hp}{E:XK}{st:ar cb}{t:TS}(h:tF (oI P w K mg base N qual scope f z A outer s H E) st t) :
  tF (uD (pE P w) P w K mg base N qual scope f z A outer s H E) st t:=by
 intro aa U J l D I hw;refine pZ (h aa U J l D (I.uP _) hw) (λ_ _ q=>q.xV) λe s' a=>?_;obtain⟨B,m,x,cls,g,rfl,k,ex,q⟩:=a;show wpAny _ _ (leaving _ _) _ _ _;unfold leaving;refine aM (Vu (E:=λd n=>pE P w outer H s E d n) k Aj ex λh1 i c=>?_);refine aa2 i Aj c λh2 j b=>?_;exact⟨x,cls,g,m,rfl,j.os,j.bare,j.base,j.aJ,b,q⟩
structure RE(P:bp)(w:bz)(K:bu)(mg:bh->ax au)(base:b9)(x:bh)(k:a9)(ps:ar bh)(sp:Sp):Prop where
 ex:∃f fd,iI P w K mg base (pE P w) k f fd ps sp/\mg x=aq (.ref f)/\ek K (.ref f)=a5/\Binds K fd ps []
end
section
variable{X:Cx}{W:WX}{x:bh}{p pos np kT:dj}{e:b7}{es:ar b7}{t:TA}
def Sh(sp:Sp)(W:WX)(t:TA):TE:=λJ H Q=>t J H λvs H1=>sp vs H1 Q λcls dx H'=>W J cls dx H'
theorem anH{k:a9}{ps:ar bh}{sp:Sp}(T:tE X W)(D:RE X.prog X.w X.K X.mg X.base x k ps sp)(hr:cR k X.A)(m:Gl X x)(ha:PA X (e::es) t)
  (i:(x==("__debug__" : bh))=aw:=by decide) (he:bj (e::es) X.env=(aw,cg e X.env)::bj es X.env:=by rfl) (n:(cw pos (bj es X.env)).any (·.1)=aw:=by rfl) :
  PE X (.Call (.Name x p) (e::es) [] pos) (Sh sp W t):=by
 obtain⟨f,E,F,hm,l,hb⟩:=D.ex;intro aa s J H Q I h;refine xP (HF I m hm ?_ i);refine callWith_K (h₀:=X.base) I.ok.mod.tT l (bI (ha pos aa s J H _ I h) λN U ⟨d,y,j,r,q⟩=>⟨j.fZ,?_⟩) he n;have hl:N.length=ps.length:=by rw[<-r.length];exact F.len _ _ _ _ q
 have c:=hb U N j.fZ (by rw[tG];exact hl);rw[tG]at c;refine FY (vN (F.run X.A X.stack U y ⟨N,[]⟩ N d Q _ hr j.IG c r q) λr s' B=>?_);cases r with
 |error G =>
  obtain⟨a,cls,o,C,rfl,os,bare,un,aJ,ex,g⟩:=B;have v:=(j.OV os un aJ bare (λb z=>b8 z (by simp))).Va;exact T.to _ _ ⟨J,C,a,cls,o,rfl,v,(ex.first j T.ex).any,g⟩
 |ok fl =>
  cases fl with
  |ret u=>exact j.after B
  |next=>exact False.elim B
  |brk=>exact False.elim B
  |cont=>exact False.elim B
end
abbrev TH:=az->au->ax az->TS
noncomputable def Fc(scope sc:cu)(N:ar bh)(js:ar a9):bt :=
 scope.kind == .function&&(scope.names.all λy=>y.2 != .cell&&(y.2 != .local||scope.names.lookup y.1==aq .local)&&(y.2 != .free||(sc.names.lookup y.1==aq .cell||sc.names.lookup y.1==aq .free))) &&
 js.all λj=>match N[j]? with
  |some x=>scope.names.lookup x==aq .free
  |none=>aw
theorem JZ.of{X:Cx}{scope:cu}{ls:ar bh}{js:ar a9}(sc:cu)(N:ar bh)(c:X.env.scope=sc)(b:X.N=N)(ok:Fc scope sc N js=a5):JZ X scope ls js:=by
 unfold Fc at ok;rw[rC,rC]at ok;obtain⟨⟨h1,h2⟩,U⟩:=ok;rw[JX]at h2 U;refine⟨by simpa using h1,λy z=>?_,λy z hl=>?_,λy z hf=>?_,λj a=>?_⟩
 ·have q:=h2 y z;rw[rC,rC]at q;simpa using q.1.1
 ·have q:=h2 y z;rw[rC,rC]at q;simpa[hl]using q.1.2
 ·have q:=h2 y z;rw[rC,rC]at q;have B:=q.2;rw[hf]at B;unfold Env.kindOf;rw[c];simpa using B
 ·have q:=U j a;rw[b];cases e:N[j]? with
  |none=>rw[e]at q;cases q
  |some x=>rw[e]at q;exact⟨x,rfl,by simpa using q⟩
end L2
namespace PyProof.Rows
open PySem
noncomputable def qM:bt->bf->ba bf->a9->a9->a9->c8 bq Sem (ax a9):=sortPriv% PySem.Builtin.gallop
noncomputable def AG:a9->c8 bq Sem Unit:=sortPriv% PySem.Builtin.setMinGallop
noncomputable def MM:ba bf->ba bf->c8 bq Sem (ba bf):=sortPriv% PySem.Builtin.mergeLo
noncomputable def MN:ba bf->ba bf->c8 bq Sem (ba bf):=sortPriv% PySem.Builtin.mergeHi
def iQ(M:Model)(A:bx)(E:au->ay->Prop)(s:ay)(kd:du)(P:bf->Prop)(rk:bf->a8):Prop :=
 ∀x y,P x->P y->∀(st:bq) (Q:ax bt->bq->Prop),kindOf st=kd->Q (aq (decide (rk x<rk y))) st->wpS M A E s (lt' x y) Q st
theorem aw1(left:bt)(key:bf)(arr:ba bf)(base n aj:a9):qM left key arr base n aj=(do
 let beyond (i:a9):c8 bq Sem (ax bt):=do
  let x<-cv arr (base+i)
  if left then lt' x key else return (<-lt' key x).map (!·)
 let mut sL:=0
 let mut iU:=1
 let mut lo:=0
 let mut hi:=0
 let aq right<-beyond aj|return av
 if right then
  let j:=n-aj
  for _ in [0:n] do
   if iU>=j then break
   let aq more<-beyond (aj+iU)|return av
   if !more then break
   sL:=iU
   iU:=2*iU+1
  lo:=aj+sL+1
  hi:=aj+min iU j
 else
  let j:=aj+1
  for _ in [0:n] do
   if iU>=j then break
   let aq found<-beyond (aj-iU)|return av
   if found then break
   sL:=iU
   iU:=2*iU+1
  lo:=aj+1-min iU j
  hi:=aj-sL
 for _ in [0:n] do
  if lo>=hi then break
  let m:=lo+(hi-lo)/2
  let aq more<-beyond m|return av
  if more then lo:=m+1 else hi:=m
 return aq hi):=rfl
section
variable{M:Model}{A:bx}{E:au->ay->Prop}{s:ay}{kd:du}{P:bf->Prop}{rk:bf->a8}
theorem afJ(hL:iQ M A E s kd P rk){st:bq}(q:kindOf st=kd){left:bt}{key:bf}{arr:ba bf}{base i:a9}{x:bf}(j:P key)(B:arr[base+i]?=aq x)(z:P x){Q:ax bt->bq->Prop}
  (h:Q (aq (if left then decide (rk x<rk key)else !decide (rk key<rk x))) st):wpS M A E s (do
  let x<-cv arr (base+i)
  if left then lt' x key else return (<-lt' key x).map (!·)) Q st:=by
 have e:cv arr (base+i)=pure x:=by rw[elem'_eq,B]
 rw[e,pure_bind];cases left with
 |true=>exact hL x key z j st Q q h
 |false=>exact bM (hL key x j z st _ q (dC h))
noncomputable def aaQ(left:bt)(key:bf)(arr:ba bf)(base n j q:a9):c8 bq Sem (ax a9):=do
 let beyond (i:a9):c8 bq Sem (ax bt):=do
  let x<-cv arr (base+i)
  if left then lt' x key else return (<-lt' key x).map (!·)
 let mut lo:=j
 let mut hi:=q
 for _ in [0:n] do
  if lo>=hi then break
  let m:=lo+(hi-lo)/2
  let aq more<-beyond m|return av
  if more then lo:=m+1 else hi:=m
 return aq hi
theorem Px{st:bq}{left:bt}{key:bf}{arr:ba bf}{base n:a9}(q:a9->bt)
  (t:∀i,i<n->∀{Q:ax bt->bq->Prop},Q (aq (q i)) st->wpS M A E s (do
  let x<-cv arr (base+i)
  if left then lt' x key else return (<-lt' key x).map (!·)) Q st) (mono:∀i j,i<=j->j<n->q j=a5->q i=a5) {Q:ax a9->bq->Prop}
  (h:∀k,k<=n->(∀i,i<k->q i=a5)->(∀i,k<=i->i<n->q i=aw)->Q (aq k) st) {lo hi:a9} (h1:lo<=hi) (h2:hi<=n) (o:∀i,i<lo->q i=a5) (m:∀i,hi<=i->i<n->q i=aw) :
  wpS M A E s (aaQ left key arr base n lo hi) Q st:=by
 unfold aaQ;dsimp only;refine bM (oM (pY
  (I:=λi (c:ax (ax a9)×a9×a9) z=>z=st/\c.1=av/\c.2.1<=c.2.2/\c.2.2<=n/\(∀i,i<c.2.1->q i=a5)/\(∀i,c.2.2<=i->i<n->q i=aw)/\c.2.2-c.2.1<=n-i)
  (Q:=λ(c:ax (ax a9)×a9×a9) z=>z=st/\c.1=av/\c.2.1=c.2.2/\c.2.2<=n/\(∀i,i<c.2.1->q i=a5)/\(∀i,c.2.2<=i->i<n->q i=aw)) ?step ?fin ⟨rfl,rfl,h1,h2,o,m,by dsimp only;omega⟩) ?post)
 case fin =>
  rintro⟨r,lo,hi⟩ z ⟨e,b,f,U,N,B,p⟩;dsimp only at *;exact⟨e,b,by omega,U,N,B⟩
 case step =>
  rintro i ⟨r,lo,hi⟩ z _ u ⟨rfl,b,f,U,N,B,p⟩;dsimp only at *
  by_cases g:lo>=hi
  ·rw[bb g];exact da ⟨rfl,rfl,by dsimp only;omega,U,N,B⟩
  ·rw[bc g];refine bM (t (lo+(hi-lo)/2) (by omega) ?_);dsimp only;cases hm:q (lo+(hi-lo)/2)with
   |true =>
    simp only[gT];refine da ⟨rfl,rfl,by dsimp only;omega,U,λj a=>mono j _ (by dsimp only at a;omega) (by omega) hm,B,by dsimp only;omega⟩
   |false =>
    simp only[kB,gU];refine da ⟨rfl,rfl,by dsimp only;omega,by dsimp only;omega,N,λj a l=>?_,by dsimp only;omega⟩;dsimp only at a;cases d:q j with
    |false=>rfl
    |true=>rw[mono _ j a l d]at hm;cases hm
 case post =>
  rintro⟨r,lo,hi⟩ z ⟨rfl,b,f,U,N,B⟩;dsimp only at *;subst b;exact dC (h hi U (by rw[<-f];exact N) B)
theorem Pu(hL:iQ M A E s kd P rk){st:bq}(y:kindOf st=kd){left:bt}{key:bf}{arr:ba bf}{base n aj:a9}(v:P key)(o:∀i,i<n->∃x,arr[base+i]?=aq x/\P x)(hh:aj<n)(B:a9->bt)
  (hb:∀i x,i<n->arr[base+i]?=aq x->B i=if left then decide (rk x<rk key)else !decide (rk key<rk x)) (mono:∀i j,i<=j->j<n->B j=a5->B i=a5) {Q:ax a9->bq->Prop}
  (h:∀k,k<=n->(∀i,i<k->B i=a5)->(∀i,k<=i->i<n->B i=aw)->Q (aq k) st):wpS M A E s (qM left key arr base n aj) Q st:=by
 have m:∀i,i<n->∀{Q:ax bt->bq->Prop},Q (aq (B i)) st->wpS M A E s (do
  let x<-cv arr (base+i)
  if left then lt' x key else return (<-lt' key x).map (!·)) Q st:=λi hi Q q=>by
  obtain⟨x,u,w⟩:=o i hi;rw[hb i x hi u]at q;exact afJ hL y v u w q
 rw[aw1];dsimp only;refine bM (m aj hh ?_);dsimp only;cases l:B aj with
 |true =>
  simp only[gT];refine bM (oM (pY
   (I:=λi (c:ax (ax a9)×a9×a9) U=>U=st/\c.1=av/\B (aj+c.2.1)=a5/\c.2.1<c.2.2/\i+1<=c.2.2/\aj+c.2.1<n)
   (Q:=λ(c:ax (ax a9)×a9×a9) U=>U=st/\c.1=av/\B (aj+c.2.1)=a5/\c.2.1<c.2.2/\aj+c.2.1<n/\(n-aj<=c.2.2\/B (aj+c.2.2)=aw)) ?step ?fin (show _/\_/\B (aj+0)=a5/\(0:a9)<1/\0+1<=(1:a9)/\aj+0<n from⟨rfl,rfl,l,by decide,by decide,hh⟩)) ?post)
  case fin =>
   rintro⟨r,sL,iU⟩ U ⟨e,d,N,b,t,a⟩;dsimp only at *;exact⟨e,d,N,b,a,.inl (by omega)⟩
  case step =>
   rintro i ⟨r,sL,iU⟩ U _ g ⟨rfl,d,N,b,t,a⟩;dsimp only at *
   by_cases f:iU>=n-aj
   ·rw[bb f];exact dC ⟨rfl,rfl,N,b,a,.inl f⟩
   ·rw[bc f];refine bM (m (aj+iU) (by omega) ?_);dsimp only;cases hm:B (aj+iU)with
    |true =>
     simp only[Bool.not_true,kB,gU];exact da ⟨rfl,rfl,hm,by dsimp only;omega,by dsimp only;omega,by dsimp only;omega⟩
    |false =>
     simp only[Bool.not_false,gT];exact dC ⟨rfl,rfl,N,b,a,.inr hm⟩
  case post =>
   rintro⟨r,sL,iU⟩ U ⟨rfl,d,N,b,a,p⟩;dsimp only at *;subst d;refine Px (lo:=aj+sL+1) (hi:=aj+min iU (n-aj)) B (λi hi=>m i hi) mono h (by omega) (by omega) (λi hi=>mono i (aj+sL) (by omega) (by omega) N) (λi hi g=>?_)
   rcases p with z|z
   ·omega
   ·cases VN:B i with
    |false=>rfl
    |true =>
     by_cases hle:aj+iU<=i
     ·rw[mono _ i hle g VN]at z;cases z
     ·omega
 |false =>
  simp only[kB,gU];refine bM (oM (pY
   (I:=λi (c:ax (ax a9)×a9×a9) U=>U=st/\c.1=av/\B (aj-c.2.1)=aw/\c.2.1<c.2.2/\i+1<=c.2.2/\c.2.1<=aj)
   (Q:=λ(c:ax (ax a9)×a9×a9) U=>U=st/\c.1=av/\B (aj-c.2.1)=aw/\c.2.1<c.2.2/\c.2.1<=aj/\(aj+1<=c.2.2\/(c.2.2<=aj/\B (aj-c.2.2)=a5))) ?step ?fin (show _/\_/\B (aj-0)=aw/\(0:a9)<1/\0+1<=(1:a9)/\0<=aj from⟨rfl,rfl,l,by decide,by decide,BU _⟩)) ?post)
  case fin =>
   rintro⟨r,sL,iU⟩ U ⟨e,d,N,b,t,a⟩;dsimp only at *;exact⟨e,d,N,b,a,.inl (by omega)⟩
  case step =>
   rintro i ⟨r,sL,iU⟩ U _ g ⟨rfl,d,N,b,t,a⟩;dsimp only at *
   by_cases f:iU>=aj+1
   ·rw[bb f];exact dC ⟨rfl,rfl,N,b,a,.inl f⟩
   ·rw[bc f];refine bM (m (aj-iU) (by omega) ?_);dsimp only;cases hm:B (aj-iU)with
    |true =>
     simp only[gT];exact da ⟨rfl,rfl,N,b,a,.inr ⟨by dsimp only;omega,hm⟩⟩
    |false =>
     simp only[kB,gU];exact da ⟨rfl,rfl,hm,by dsimp only;omega,by dsimp only;omega,by dsimp only;omega⟩
  case post =>
   rintro⟨r,sL,iU⟩ U ⟨rfl,d,N,b,a,p⟩;dsimp only at *;subst d;refine Px (lo:=aj+1-min iU (aj+1)) (hi:=aj-sL) B (λi hi=>m i hi) mono h (by omega) (by omega) (λi hi=>?_) (λi hi g=>?_)
   ·rcases p with z|⟨C,z⟩
    ·omega
    ·exact mono i (aj-iU) (by omega) (by omega) z
   ·cases VN:B i with
    |false=>rfl
    |true=>rw[mono _ i hi g VN]at N;cases N
end
theorem apY(a b:ba bf):MM a b=(do
 rule "list.sort.merge-lo"
 let ao:=a.size+b.size
 let done (ab:ba bf) (ia ib:a9):=ab++a.extract ia a.size++b.extract ib b.size
 let j (ab:ba bf) (ia ib:a9):=ab++b.extract ib b.size++a.extract ia a.size
 let mut ab:ba bf:=#[<-cv b 0]
 let mut ia:=0
 let mut ib:=1
 if ib==b.size then return done ab ia ib
 if ia+1==a.size then return j ab ia ib
 let mut ak:=gallopOf (<-get)
 for _ in [0:ao] do
  let mut sZ:=0
  let mut sY:=0
  for _ in [0:ao] do
   let aq q<-lt' (<-cv b ib) (<-cv a ia)|return done ab ia ib
   if q then
    ab:=ab.push (<-cv b ib);ib:=ib+1;sY:=sY+1;sZ:=0
    if ib==b.size then return done ab ia ib
    if sY>=ak then break
   else
    ab:=ab.push (<-cv a ia);ia:=ia+1;sZ:=sZ+1;sY:=0
    if ia+1==a.size then return j ab ia ib
    if sZ>=ak then break
  rule "list.sort.gallop"
  ak:=ak+1
  for _ in [0:ao] do
   if ak>1 then ak:=ak-1
   AG ak
   let aq k<-qM aw (<-cv b ib) a ia (a.size-ia) 0|return done ab ia ib
   sZ:=k
   if k>0 then
    ab:=ab++a.extract ia (ia+k);ia:=ia+k
    if ia+1==a.size then return j ab ia ib
    if ia==a.size then return done ab ia ib
   ab:=ab.push (<-cv b ib);ib:=ib+1
   if ib==b.size then return done ab ia ib
   let aq k<-qM a5 (<-cv a ia) b ib (b.size-ib) 0|return done ab ia ib
   sY:=k
   if k>0 then
    ab:=ab++b.extract ib (ib+k);ib:=ib+k
    if ib==b.size then return done ab ia ib
   ab:=ab.push (<-cv a ia);ia:=ia+1
   if ia+1==a.size then return j ab ia ib
   if sZ<7&&sY<7 then break
  ak:=ak+1
  AG ak
 unsupported "internal:list.sort.merge-bound"):=rfl
section
variable{α:Type}{rk:α->a8}{al bl ab:ar α}{ia ib:a9}
abbrev dJ(rk:α->a8)(l:ar α):Prop:=l.Pairwise λx y=>rk x<=rk y
structure MI(rk:α->a8)(al bl ab:ar α)(ia ib:a9):Prop where
 la:ia<=al.length
 lb:ib<=bl.length
 perm:ab.Perm (al.take ia++bl.take ib)
 AD:dJ rk ab
 low:∀x∈ab,∀y∈al.drop ia++bl.drop ib,rk x<=rk y
theorem MI.TJ(h:MI rk al bl ab ia ib){y:α}(U:bl[ib]?=aq y)(sb:dJ rk bl)(ha:∀x∈al.drop ia,rk y<=rk x):MI rk al bl (ab++[y]) ia (ib+1):=by
 have b:ib<bl.length:=(cY.mp U).1;have c:bl[ib]=y:=(cY.mp U).2;have ed:bl.drop ib=y::bl.drop (ib+1):=by rw[vV b,c]
 have e:bl.take (ib+1)=bl.take ib++[y]:=by rw[ad7,U];rfl
 refine⟨h.la,b,?_,?_,λx a z B=>?_⟩
 ·rw[e,<-jX];exact h.perm.append_right [y]
 ·refine uH.mpr ⟨h.AD,by simp,λx a z B=>?_⟩;simp only[mJ]at B;subst B;exact h.low x a z (by rw[ed];simp)
 ·have N:z∈al.drop ia++bl.drop ib:=by
   rw[ed]
   rcases lP.mp B with q|q
   ·exact qU _ q
   ·exact nP _ (fS _ q)
  rcases lP.mp a with q|q
  ·exact h.low x q z N
  ·simp only[mJ]at q;subst q
   rcases lP.mp B with q|q
   ·exact ha z q
   ·have:=(List.pairwise_iff_getElem (R:=λx y=>rk x<=rk y)).mp sb;obtain⟨j,d,rfl⟩:=BY q;rw[Nb];rw[<-c];exact this ib (ib+1+j) b (by simp at d;omega) (by omega)
theorem MI.swap(h:MI rk al bl ab ia ib):MI rk bl al ab ib ia :=
 ⟨h.lb,h.la,h.perm.trans FG,h.AD,λx z y j=>h.low x z y (by
  rcases lP.mp j with q|q
  ·exact nP _ q
  ·exact qU _ q)⟩
theorem MI.GR(h:MI rk al bl ab ia ib){x:α}(j:al[ia]?=aq x)(sa:dJ rk al)(hb:∀y∈bl.drop ib,rk x<=rk y):MI rk al bl (ab++[x]) (ia+1) ib:=(h.swap.TJ j sa hb).swap
theorem MI.GN(h:MI rk al bl ab ia ib)(sa:dJ rk al):∀k,ia+k<=al.length->(∀j x,j<k->al[ia+j]?=aq x->∀y∈bl.drop ib,rk x<=rk y)->MI rk al bl (ab++(al.drop ia).take k) (ia+k) ib
 |0,_,_=>by simpa using h
 |k+1,z,hb=>by
  have ih:=h.GN sa k (by omega) λj x B=>hb j x (by omega);have q:al[ia+k]?=aq (al[ia+k]'(by omega)):=dZ _;have e:(al.drop ia).take (k+1)=(al.drop ia).take k++[al[ia+k]'(by omega)]:=by
   rw[ad7,aeC,q];rfl
  rw[e,<-jX];exact ih.GR q sa (hb k _ (by omega) q)
theorem MI.aiY(h:MI rk al bl ab ia ib)(sb:dJ rk bl)(k:a9)(q:ib+k<=bl.length)(ha:∀j y,j<k->bl[ib+j]?=aq y->∀x∈al.drop ia,rk y<=rk x):MI rk al bl (ab++(bl.drop ib).take k) ia (ib+k):=(h.swap.GN sb k q ha).swap
theorem MI.EL(h:MI rk al bl ab ia ib)(sa:dJ rk al)(he:ib=bl.length):(ab++al.drop ia++bl.drop ib).Perm (al++bl)/\dJ rk (ab++al.drop ia++bl.drop ib):=by
 subst he;have e:bl.drop bl.length=[]:=JW;rw[e,tG];have p:=h.perm;rw[List.take_length]at p;refine⟨?_,uH.mpr ⟨h.AD,sa.sublist (List.drop_sublist _ _),λx z y j=>h.low x z y (qU _ j)⟩⟩;have q:(al.take ia++bl++al.drop ia).Perm (al++bl):=by
  have:(al.take ia++bl++al.drop ia).Perm (al.take ia++al.drop ia++bl):=by
   rw[jX,jX];exact JY _ FG
  rwa[xC]at this
 exact(p.append_right _).trans q
theorem MI.UO(h:MI rk al bl ab ia ib)(sb:dJ rk bl)(he:ia+1=al.length)(hl:∀x∈al.drop ia,∀y∈bl,rk y<=rk x):(ab++bl.drop ib++al.drop ia).Perm (al++bl)/\dJ rk (ab++bl.drop ib++al.drop ia):=by
 constructor
 ·have p:=h.perm;have q:(al.take ia++bl.take ib++(bl.drop ib++al.drop ia)).Perm (al++bl):=by
   have N:al.take ia++bl.take ib++(bl.drop ib++al.drop ia)=al.take ia++(bl.take ib++bl.drop ib++al.drop ia):=by simp only[jX]
   rw[N,xC];have:(al.take ia++(bl++al.drop ia)).Perm (al.take ia++(al.drop ia++bl)):=JY _ FG;rwa[<-jX (al.take ia) (al.drop ia),xC]at this
  rw[jX];exact(p.append_right _).trans q
 ·refine uH.mpr ⟨uH.mpr ⟨h.AD,sb.sublist (List.drop_sublist _ _),λx B y j=>h.low x B y (nP _ j)⟩,?_,λx B y j=>?_⟩
  ·have e:(al.drop ia).length=1:=by simp;omega
   match hd:al.drop ia,e with
   |[z],_=>simp
  ·rcases lP.mp B with q|q
   ·exact h.low x q y (qU _ j)
   ·exact hl y j x (List.mem_of_mem_drop q)
end
section
variable{M:Model}{A:bx}{E:au->ay->Prop}{s:ay}
theorem lG{arr:ba bf}{i:a9}{x:bf}{st:bq}{Q:bf->bq->Prop}(h:arr[i]?=aq x)(q:Q x st):wpS M A E s (cv arr i) Q st:=by
 rw[elem'_eq,h];exact dC q
theorem aiS(g:a9):AG g=modify λs=>SortSt.mk' (kindOf s) (br s) (cj s) g (dw s):=rfl
structure eV(st aI:bq):Prop where
 kind:kindOf aI=kindOf st
 arr:br aI=br st
 pend:cj aI=cj st
 failed:dw aI=dw st
theorem eV.refl(st:bq):eV st st:=⟨rfl,rfl,rfl,rfl⟩
theorem RK{g:a9}{st:bq}{Q:Unit->bq->Prop}(h:∀j,eV st j->Q () j):wpS M A E s (AG g) Q st:=by
 rw[aiS];exact FV (h _ ⟨rfl,rfl,rfl,rfl⟩)
theorem eV.trans{a b c:bq}(h:eV a b)(k:eV b c):eV a c:=⟨k.kind.trans h.kind,k.arr.trans h.arr,k.pend.trans h.pend,k.failed.trans h.failed⟩
end
theorem zA(ab a b:ba bf)(ia ib:a9):(ab++a.extract ia a.size++b.extract ib b.size).toList=ab.toList++a.toList.drop ia++b.toList.drop ib:=by
 simp[ZC,Mw]
theorem Tf(a:ba bf)(i k:a9):(a.extract i (i+k)).toList=(a.toList.drop i).take k:=by
 simp[ZC]
abbrev YC:=ax (ba bf)×ba bf×a9×a9×a9×a9
noncomputable def Et(a b:ba bf)(mg:a9)(z:ba bf)(j q:a9):c8 bq Sem YC :=
 forIn [0:a.size+b.size] ((av,z,j,q,0,0):YC) λ_ c=>do
  let y<-cv b c.2.2.2.1
  let x<-cv a c.2.2.1
  let r<-lt' y x
  match r with
  |some B =>
   if B=a5 then do
    let y<-cv b c.2.2.2.1
    if(c.2.2.2.1+1==b.size)=a5 then pure (ForInStep.done (aq (c.2.1.push y++a.extract c.2.2.1 a.size++b.extract (c.2.2.2.1+1) b.size),c.2.1.push y,c.2.2.1,c.2.2.2.1+1,0,c.2.2.2.2.2+1))
    else if c.2.2.2.2.2+1>=mg then pure (ForInStep.done (av,c.2.1.push y,c.2.2.1,c.2.2.2.1+1,0,c.2.2.2.2.2+1))
    else pure (ForInStep.yield (av,c.2.1.push y,c.2.2.1,c.2.2.2.1+1,0,c.2.2.2.2.2+1))
   else do
    let x<-cv a c.2.2.1
    if(c.2.2.1+1+1==a.size)=a5 then pure (ForInStep.done (aq (c.2.1.push x++b.extract c.2.2.2.1 b.size++a.extract (c.2.2.1+1) a.size),c.2.1.push x,c.2.2.1+1,c.2.2.2.1,c.2.2.2.2.1+1,0))
    else if c.2.2.2.2.1+1>=mg then pure (ForInStep.done (av,c.2.1.push x,c.2.2.1+1,c.2.2.2.1,c.2.2.2.2.1+1,0))
    else pure (ForInStep.yield (av,c.2.1.push x,c.2.2.1+1,c.2.2.2.1,c.2.2.2.2.1+1,0))
  |_=>pure (ForInStep.done (aq (c.2.1++a.extract c.2.2.1 a.size++b.extract c.2.2.2.1 b.size),c.2.1,c.2.2.1,c.2.2.2.1,c.2.2.2.2.1,c.2.2.2.2.2))
structure FC(P:bf->Prop)(rk:bf->a8)(a b:ba bf):Prop where
 pa:∀x∈a.toList,P x
 pb:∀x∈b.toList,P x
 sa:dJ rk a.toList
 sb:dJ rk b.toList
 top:∀x∈a.toList.drop (a.size-1),∀y∈b.toList,rk y<=rk x
def jO(rk:bf->a8)(a b m:ba bf):Prop:=m.toList.Perm (a.toList++b.toList)/\dJ rk m.toList
section
variable{M:Model}{A:bx}{E:au->ay->Prop}{s:ay}{kd:du}{P:bf->Prop}{rk:bf->a8}{a b:ba bf}
theorem GL{l:ar bf}(h:dJ rk l){i:a9}{x:bf}(q:l[i]?=aq x):∀z∈l.drop i,rk x<=rk z:=λz B=>by
 have hi:i<l.length:=(cY.mp q).1;have ex:l[i]=x:=(cY.mp q).2;obtain⟨j,N,rfl⟩:=BY B;rw[Nb,<-ex]
 by_cases U:j=0
 ·subst U;exact mK _
 ·exact(List.pairwise_iff_getElem (R:=λx y=>rk x<=rk y)).mp h i (i+j) hi (by simp at N;omega) (by omega)
theorem afA(hL:iQ M A E s kd P rk)(T:FC P rk a b){st:bq}(D:kindOf st=kd){mg:a9}{v:ba bf}{B N:a9}(F:MI rk a.toList b.toList v.toList B N)(h1:B+1<a.size)(h2:N<b.size){Q:YC->bq->Prop}
  (hr:∀m o i j x y,jO rk a b m->Q (aq m,o,i,j,x,y) st)
  (hn:∀ab ia ib x y,MI rk a.toList b.toList ab.toList ia ib->ia+1<a.size->ib<b.size->B+N<=ia+ib->Q (av,ab,ia,ib,x,y) st):wpS M A E s (Et a b mg v B N) Q st:=by
 unfold Et;refine pY (I:=λ_ (c:YC) h=>h=st/\c.1=av/\MI rk a.toList b.toList c.2.1.toList c.2.2.1 c.2.2.2.1/\c.2.2.1+1<a.size/\c.2.2.2.1<b.size/\B+N<=c.2.2.1+c.2.2.2.1) ?step ?fin ⟨rfl,rfl,F,h1,h2,qS _⟩
 case fin =>
  rintro⟨r,ab,ia,ib,x,y⟩ h ⟨rfl,t,l,k,d,C⟩;dsimp only at *;subst t;exact hn ab ia ib x y l k d C
 case step =>
  rintro i ⟨r,ab,ia,ib,H,G⟩ h _ K ⟨rfl,t,l,k,d,C⟩;dsimp only at *;subst t;have e:b[ib]?=aq b[ib]:=pB b ib d;have f:a[ia]?=aq (a[ia]'(by omega)):=pB a ia (by omega);generalize b[ib]=y at e;generalize a[ia]'(by omega)=x at f;have n:b.toList[ib]?=aq y:=by rw[nB];exact e
  have u:a.toList[ia]?=aq x:=by rw[nB];exact f
  refine bM (lG e (bM (lG f (bM (hL y x (T.pb y (nA n)) (T.pa x (nA u)) h _ D ?_)))));dsimp only
  by_cases w:rk y<rk x
  ·rw[vM w,bb rfl];refine bM (lG e ?_);have q:=l.TJ n T.sb λz p=>by have:=GL T.sa u z p;omega
   rw[<-FU]at q
   by_cases he:ib+1=b.size
   ·rw[bb (by simpa using he)];refine dC (hr _ _ _ _ _ _ ?_);have g:=q.EL T.sa (by simpa using he);unfold jO;rw[zA];exact g
   ·rw[bc (by simpa using he)]
    by_cases U:G+1>=mg
    ·rw[bb U];exact dC (hn _ _ _ _ _ q k (by omega) (by omega))
    ·rw[bc U];exact da ⟨rfl,rfl,q,k,by dsimp only;omega,by dsimp only;omega⟩
  ·rw[oH w,bc (by simp)];refine bM (lG f ?_);have q:=l.GR u T.sa λz p=>by have:=GL T.sb n z p;omega
   rw[<-FU]at q
   by_cases he:ia+1+1=a.size
   ·rw[bb (by simpa using he)];refine dC (hr _ _ _ _ _ _ ?_);have g:=q.UO T.sb (by simpa using he) (by rw[show ia+1=a.size-1 by omega];exact T.top);unfold jO;rw[zA];exact g
   ·rw[bc (by simpa using he)]
    by_cases U:H+1>=mg
    ·rw[bb U];exact dC (hn _ _ _ _ _ q (by omega) d (by omega))
    ·rw[bc U];exact da ⟨rfl,rfl,q,by dsimp only;omega,d,by dsimp only;omega⟩
end
abbrev xB:=ax (ba bf)×ba bf×a9×a9×a9×a9×a9
noncomputable def UG(a b:ba bf)(ab:ba bf)(ia ib mg q j:a9):c8 bq Sem (d7 xB):=do
 let x<-cv a ia
 if(ia+1+1==a.size)=a5 then pure (ForInStep.done (aq (ab.push x++b.extract ib b.size++a.extract (ia+1) a.size),ab.push x,ia+1,ib,mg,q,j))
 else if(decide (q<7)&&decide (j<7))=a5 then pure (ForInStep.done (av,ab.push x,ia+1,ib,mg,q,j))
 else pure (ForInStep.yield (av,ab.push x,ia+1,ib,mg,q,j))
def Eu(a b:ba bf)(ab:ba bf)(ia ib mg j q:a9):c8 bq Sem (d7 xB):=do
 let x<-cv a ia
 let r<-qM a5 x b ib (b.size-ib) 0
 match r with
 |some k =>
  if k>0 then
   if(ib+k==b.size)=a5 then pure (ForInStep.done (aq (ab++b.extract ib (ib+k)++a.extract ia a.size++b.extract (ib+k) b.size),ab++b.extract ib (ib+k),ia,ib+k,mg,j,k))
   else UG a b (ab++b.extract ib (ib+k)) ia (ib+k) mg j k
  else UG a b ab ia ib mg j k
 |_=>pure (ForInStep.done (aq (ab++a.extract ia a.size++b.extract ib b.size),ab,ia,ib,mg,j,q))
def UH(a b:ba bf)(ab:ba bf)(ia ib mg q j:a9):c8 bq Sem (d7 xB):=do
 let y<-cv b ib
 if(ib+1==b.size)=a5 then pure (ForInStep.done (aq (ab.push y++a.extract ia a.size++b.extract (ib+1) b.size),ab.push y,ia,ib+1,mg,q,j))
 else Eu a b (ab.push y) ia (ib+1) mg q j
def dA(a b:ba bf)(ab:ba bf)(ia ib mg q j:a9):c8 bq Sem (d7 xB):=do
 AG mg
 let y<-cv b ib
 let r<-qM aw y a ia (a.size-ia) 0
 match r with
 |some k =>
  if k>0 then
   if(ia+k+1==a.size)=a5 then pure (ForInStep.done (aq (ab++a.extract ia (ia+k)++b.extract ib b.size++a.extract (ia+k) a.size),ab++a.extract ia (ia+k),ia+k,ib,mg,k,j))
   else if(ia+k==a.size)=a5 then pure (ForInStep.done (aq (ab++a.extract ia (ia+k)++a.extract (ia+k) a.size++b.extract ib b.size),ab++a.extract ia (ia+k),ia+k,ib,mg,k,j))
   else UH a b (ab++a.extract ia (ia+k)) (ia+k) ib mg k j
  else UH a b ab ia ib mg k j
 |_=>pure (ForInStep.done (aq (ab++a.extract ia a.size++b.extract ib b.size),ab,ia,ib,mg,q,j))
section
variable{M:Model}{A:bx}{E:au->ay->Prop}{s:ay}{kd:du}{P:bf->Prop}{rk:bf->a8}{a b:ba bf}
def BV(rk:bf->a8)(a b:ba bf)(lo:a9)(st:bq)(r:d7 xB)(j:bq):Prop:=eV st j/\(match r with
 |.done c=>(∃m,c.1=aq m/\jO rk a b m)\/(c.1=av/\MI rk a.toList b.toList c.2.1.toList c.2.2.1 c.2.2.2.1/\c.2.2.1+1<a.size/\c.2.2.2.1<b.size/\lo<=c.2.2.1+c.2.2.2.1)
 | .yield c=>c.1=av/\MI rk a.toList b.toList c.2.1.toList c.2.2.1 c.2.2.2.1/\c.2.2.1+1<a.size/\c.2.2.2.1<b.size/\lo<=c.2.2.1+c.2.2.2.1)
theorem oK{a:ba bf}{i:a9}(h:i<a.size):∃x,a[i]?=aq x/\a.toList[i]?=aq x/\x∈a.toList:=by
 refine⟨a[i],pB a i h,?_,?_⟩
 ·rw[nB];exact pB a i h
 ·exact Array.getElem_mem_toList h
theorem Pn(T:FC P rk a b){st:bq}{ab:ba bf}{ia ib mg c U lo:a9}(h:MI rk a.toList b.toList ab.toList ia ib)(h1:ia+1<a.size)(h2:ib<b.size)(N:∀x,a.toList[ia]?=aq x->∀z∈b.toList.drop ib,rk x<=rk z)(d:lo<=ia+ib+1) :
  wpS M A E s (UG a b ab ia ib mg c U) (BV rk a b lo st) st:=by
 obtain⟨x,B,q,_⟩:=oK (show ia<a.size by omega);unfold UG;refine bM (lG B ?_);have j:=h.GR q T.sa (N x q);rw[<-FU]at j
 by_cases he:ia+1+1=a.size
 ·rw[bb (by simpa using he)];refine dC ⟨eV.refl _,.inl ⟨_,rfl,?_⟩⟩;have g:=j.UO T.sb (by simpa using he) (by rw[show ia+1=a.size-1 by omega];exact T.top);unfold jO;rw[zA];exact g
 ·rw[bc (by simpa using he)];split
  ·exact da ⟨eV.refl _,.inr ⟨rfl,j,by dsimp only;omega,h2,by dsimp only;omega⟩⟩
  ·exact da ⟨eV.refl _,rfl,j,by dsimp only;omega,h2,by dsimp only;omega⟩
theorem GK{l:ar bf}(h:dJ rk l){i j:a9}{x y:bf}(B:i<=j)(z:l[i]?=aq x)(q:l[j]?=aq y):rk x<=rk y :=
 GL h z y (nA (i:=j-i) (by rw[aeC,show i+(j-i)=j by omega];exact q))
theorem abL{l:ar bf}{i:a9}{z:bf}(h:z∈l.drop i):∃j,i<=j/\l[j]?=aq z:=by
 obtain⟨j,q⟩:=List.getElem?_of_mem h;rw[aeC]at q;exact⟨i+j,by omega,q⟩
theorem Py(hL:iQ M A E s kd P rk){st:bq}(g:kindOf st=kd){left:bt}{key:bf}{arr:ba bf}(d:P key)(f:∀x∈arr.toList,P x)(e:dJ rk arr.toList){base:a9}(hb:base<arr.size){Q:ax a9->bq->Prop}
  (h:∀k,base+k<=arr.size->(∀j x,j<k->arr.toList[base+j]?=aq x->(if left then rk x<rk key else rk x<=rk key))->(∀j x,base+k<=j->arr.toList[j]?=aq x->(if left then rk key<=rk x else rk key<rk x))->Q (aq k) st) :
  wpS M A E s (qM left key arr base (arr.size-base) 0) Q st:=by
 have NR:∀i,i<arr.size-base->∃x,arr[base+i]?=aq x/\arr.toList[base+i]?=aq x/\x∈arr.toList:=λi hi=>oK (by omega);refine Pu hL g d (λi hi=>let ⟨x,N,_,b⟩:=NR i hi; ⟨x,N,f x b⟩) (by omega) (λi=>match arr[base+i]? with|some x=>if left then decide (rk x<rk key)else !decide (rk key<rk x)|none=>aw) (λi x hi z=>by simp only[z]) (λi j o B hb=>?_) (λk p n m=>h k (by omega) (λj x B z=>?_) (λj x B z=>?_))
 ·obtain⟨x,N,c,_⟩:=NR i (by omega);obtain⟨y,a,U,_⟩:=NR j B;simp only[N,a]at hb ⊢;have:=GK e (show base+i<=base+j by omega) c U;cases left with
  |true=>simp only[gT,BN]at hb ⊢;omega
  |false=>simp only[kB,gU,Ox,ON]at hb ⊢;omega
 ·have q:=n j B;rw[nB]at z;simp only[z]at q;cases left with
  |true=>simpa using q
  |false=>simp only[kB,gU,Ox,ON]at q ⊢;omega
 ·have l:j<arr.size:=by have:=(cY.mp z).1;simpa using this
  have q:=m (j-base) (by omega) (by omega);rw[nB]at z;rw[show base+(j-base)=j by omega]at q;simp only[z]at q;cases left with
  |true=>simp only[gT,ON]at q ⊢;omega
  |false=>simp only[kB,gU,Bool.not_eq_false',BN]at q ⊢;exact q
theorem afB(hL:iQ M A E s kd P rk)(T:FC P rk a b){st:bq}(o:kindOf st=kd){ab:ba bf}{ia ib mg u t lo:a9}(h:MI rk a.toList b.toList ab.toList ia ib)(h1:ia+1<a.size)(h2:ib<b.size)(n:lo<=ia+ib+1) :
  wpS M A E s (Eu a b ab ia ib mg u t) (BV rk a b lo st) st:=by
 obtain⟨x,l,c,i⟩:=oK (show ia<a.size by omega);unfold Eu;refine bM (lG l (bM (Py hL o (T.pa x i) T.pb T.sb h2 λk p f e=>?_)));dsimp only;simp only[gT]at f e;have B:=h.aiY T.sb k (by simpa using p) λj y U q z N=>by
  have:=f j y U q;have:=GL T.sa c z N;omega
 rw[<-Tf,<-aeS]at B;have last:∀y,a.toList[ia]?=aq y->∀z∈b.toList.drop (ib+k),rk y<=rk z:=λy q z N=>by
  rw[c]at q;cases q;obtain⟨j,U,r⟩:=abL N;exact e j z U r
 by_cases d:k>0
 ·rw[bb d]
  by_cases he:ib+k=b.size
  ·rw[bb (by simpa using he)];refine dC ⟨eV.refl _,.inl ⟨_,rfl,?_⟩⟩;have g:=B.EL T.sa (by simpa using he);unfold jO;rw[zA];exact g
  ·rw[bc (by simpa using he)];exact Pn T B h1 (by omega) last (by omega)
 ·rw[bc d];have m:k=0:=by omega
  subst m;exact Pn T h h1 h2 last n
theorem Pp(hL:iQ M A E s kd P rk)(T:FC P rk a b){st:bq}(U:kindOf st=kd){ab:ba bf}{ia ib mg d c lo:a9}(h:MI rk a.toList b.toList ab.toList ia ib)(h1:ia+1<a.size)(h2:ib<b.size)(N:∀y,b.toList[ib]?=aq y->∀z∈a.toList.drop ia,rk y<=rk z)(e:lo<=ia+ib+2) :
  wpS M A E s (UH a b ab ia ib mg d c) (BV rk a b lo st) st:=by
 obtain⟨y,B,q,_⟩:=oK h2;unfold UH;refine bM (lG B ?_);have j:=h.TJ q T.sb (N y q);rw[<-FU]at j
 by_cases he:ib+1=b.size
 ·rw[bb (by simpa using he)];refine dC ⟨eV.refl _,.inl ⟨_,rfl,?_⟩⟩;have g:=j.EL T.sa (by simpa using he);unfold jO;rw[zA];exact g
 ·rw[bc (by simpa using he)];exact afB hL T U j h1 (by omega) (by omega)
end
def Es(a b:ba bf)(z:ba bf)(j q U B N:a9):c8 bq Sem xB :=
 forIn [0:a.size+b.size] ((av,z,j,q,U,B,N):xB) λ_ c =>
  if c.2.2.2.2.1>1 then dA a b c.2.1 c.2.2.1 c.2.2.2.1 (c.2.2.2.2.1-1) c.2.2.2.2.2.1 c.2.2.2.2.2.2 else dA a b c.2.1 c.2.2.1 c.2.2.2.1 c.2.2.2.2.1 c.2.2.2.2.2.1 c.2.2.2.2.2.2
section
variable{M:Model}{A:bx}{E:au->ay->Prop}{s:ay}{kd:du}{P:bf->Prop}{rk:bf->a8}{a b:ba bf}
theorem BV.trans{lo:a9}{st j q:bq}{r:d7 xB}(g:eV st j)(h:BV rk a b lo j r q):BV rk a b lo st r q:=⟨g.trans h.1,h.2⟩
theorem afC(hL:iQ M A E s kd P rk)(T:FC P rk a b){st:bq}(w:kindOf st=kd){ab:ba bf}{ia ib mg I H lo:a9}(h:MI rk a.toList b.toList ab.toList ia ib)(h1:ia+1<a.size)(h2:ib<b.size)(v:lo<=ia+ib+2) :
  wpS M A E s (dA a b ab ia ib mg I H) (BV rk a b lo st) st:=by
 obtain⟨y,t,i,p⟩:=oK h2;unfold dA;refine bM (RK λC B=>?_);have f:kindOf C=kd:=B.kind.trans w;refine bM (lG t (bM (Py hL f (T.pb y p) T.pa T.sa (by omega) λk K n m=>?_)));dsimp only;simp only[kB,gU]at n m;have N:=h.GN T.sa k (by simpa using K) λj x e d z U=>by
  have:=n j x e d;have:=GL T.sb i z U;omega
 rw[<-Tf,<-aeS]at N;have o:∀z,b.toList[ib]?=aq z->∀x∈a.toList.drop (ia+k),rk z<=rk x:=λz U x d=>by
  rw[i]at U;cases U;obtain⟨j,e,F⟩:=abL d;have:=m j x e F;omega
 by_cases l:k>0
 ·rw[bb l]
  by_cases he:ia+k+1=a.size
  ·rw[bb (by simpa using he)];refine dC ⟨B,.inl ⟨_,rfl,?_⟩⟩;have g:=N.UO T.sb (by simpa using he) (by rw[show ia+k=a.size-1 by omega];exact T.top);unfold jO;rw[zA];exact g
  ·rw[bc (by simpa using he)]
   by_cases c:ia+k=a.size
   ·rw[bb (by simpa using c)];refine dC ⟨B,.inl ⟨_,rfl,?_⟩⟩;have g:=N.swap.EL T.sb (by simpa using c);have G:a.toList.drop (ia+k)=[]:=List.drop_of_length_le (by simp;omega);unfold jO;rw[zA];rw[G,tG]at g ⊢;exact⟨g.1.trans FG,g.2⟩
   ·rw[bc (by simpa using c)];exact oM (Pp hL T f N (by omega) h2 o (by omega)) λr D q=>q.trans B
 ·rw[bc l];have u:k=0:=by omega
  subst u;exact oM (Pp hL T f h h1 h2 o v) λr D q=>q.trans B
theorem ae9(hL:iQ M A E s kd P rk)(T:FC P rk a b){st:bq}(y:kindOf st=kd){p:ba bf}{z B S K L:a9}(C:MI rk a.toList b.toList p.toList z B)(h1:z+1<a.size)(h2:B<b.size){Q:xB->bq->Prop}
  (hr:∀m c j,eV st j->jO rk a b m->Q (aq m,c) j)
  (hn:∀ab ia ib c j,eV st j->MI rk a.toList b.toList ab.toList ia ib->ia+1<a.size->ib<b.size->z+B+2<=ia+ib->Q (av,ab,ia,ib,c) j):wpS M A E s (Es a b p z B S K L) Q st:=by
 unfold Es;refine pY (I:=λi (c:xB) j=>eV st j/\c.1=av/\MI rk a.toList b.toList c.2.1.toList c.2.2.1 c.2.2.2.1/\c.2.2.1+1<a.size/\c.2.2.2.1<b.size/\(i=0->c.2.2.1=z/\c.2.2.2.1=B)/\(0<i->z+B+2<=c.2.2.1+c.2.2.2.1)) ?step ?fin ⟨eV.refl _,rfl,C,h1,h2,λ_=>⟨rfl,rfl⟩,λh=>b8 h (by decide)⟩
 case fin =>
  rintro⟨r,ab,ia,ib,c⟩ j ⟨g,f,o,n,l,t,k⟩;dsimp only at *;subst f;exact hn ab ia ib c j g o n l (k (by omega))
 case step =>
  rintro i ⟨r,ab,ia,ib,mg,G,F⟩ j _ V ⟨g,f,o,n,l,t,k⟩;dsimp only at *;subst f;have X:z+B<=ia+ib:=by
   by_cases hi:i=0
   ·have:=t hi;omega
   ·have:=k (by omega);omega
  have H:∀mg,wpS M A E s (dA a b ab ia ib mg G F) (BV rk a b (z+B+2) j) j:=λmg=>afC hL T (g.kind.trans y) o n l (by omega);split
  all_goals
   refine oM (H _) λr x q=>?_;obtain⟨d,q⟩:=q
   match r,q with
   |.done (aq m,c),.inl ⟨W,e,D⟩=>dsimp only at e;cases e;exact hr _ _ _ (g.trans d) D
   |.done (av,R,U,N,c),.inr ⟨_,m,w,v,u⟩=>exact hn R U N c x (g.trans d) m w v u
   |.yield c,q=>exact⟨g.trans d,q.1,q.2.1,q.2.2.1,q.2.2.2.1,λh=>by omega,λ_=>q.2.2.2.2⟩
theorem gH{J α:Type}{c:Prop} [cy c]{t e:c8 J Sem α}{Q:α->J->Prop}{st:J}(h1:c->wpS M A E s t Q st)(h2:¬c->wpS M A E s e Q st):wpS M A E s (if c then t else e) Q st:=by
 split
 ·exact h1 ‹_›
 ·exact h2 ‹_›
theorem ae5(hL:iQ M A E s kd P rk)(T:FC P rk a b)(ha:0<a.size)(hb:0<b.size)(n:∀y,b.toList[0]?=aq y->∀x∈a.toList,rk y<=rk x){st:bq}(w:kindOf st=kd):wpS M A E s (MM a b) (λm q=>eV st q/\jO rk a b m) st:=by
 rw[apY];refine bM (wpS_lift (vX ⟨rfl,?_⟩));obtain⟨y,D,v,y3⟩:=oK hb;refine bM (lG D ?_);have N:MI rk a.toList b.toList (#[y]:ba bf).toList 0 1:=by
  have S:MI rk a.toList b.toList [] 0 0:=⟨by simp,by simp,by simp,by simp,by simp⟩;exact S.TJ v T.sb (by simpa using n y v)
 refine gH (λhe=>?_) (λhe=>?_)
 ·have he:1=b.size:=by simpa using he
  refine dC ⟨eV.refl _,?_⟩;have g:=N.EL T.sa (by simpa using he);unfold jO;rw[zA];exact g
 have he:¬1=b.size:=by simpa using he
 refine gH (λz=>?_) (λz=>?_)
 ·have z:0+1=a.size:=by simpa using z
  refine dC ⟨eV.refl _,?_⟩;have g:=N.UO T.sb (by simpa using z) (by rw[show 0=a.size-1 by omega];exact T.top);unfold jO;rw[zA];exact g
 have z:¬0+1=a.size:=by simpa using z
 refine bM (xN ?_);refine bM (oM (pY
  (I:=λi (c:ax (ba bf)×ba bf×a9×a9×a9) q=>eV st q/\c.1=av/\MI rk a.toList b.toList c.2.1.toList c.2.2.1 c.2.2.2.1/\c.2.2.1+1<a.size/\c.2.2.2.1<b.size/\i<=c.2.2.1+c.2.2.2.1)
  (Q:=λ(c:ax (ba bf)×ba bf×a9×a9×a9) q=>eV st q/\∃m,c.1=aq m/\jO rk a b m) ?step ?fin ⟨eV.refl _,rfl,N,by dsimp only;omega,by dsimp only;omega,by dsimp only;omega⟩) ?post)
 case fin =>
  rintro⟨r,ab,h,d,c⟩ q ⟨g,l,u,t,p,C⟩;dsimp only at *;omega
 case post =>
  rintro⟨r,ab,h,d,c⟩ q ⟨g,m,e,B⟩;dsimp only at e;subst e;exact dC ⟨g,B⟩
 case step =>
  rintro i ⟨r,ab,h,d,mg⟩ q _ mU ⟨g,l,u,t,p,C⟩;dsimp only at l u t p C;subst l;refine bM (show wpS M A E s (Et a b mg ab h d) _ _ from afA hL T (g.kind.trans w) u t p (λm o i j x y B=>?_) (λab f U x y R L K n4=>?_))
  ·exact dC ⟨g,m,rfl,B⟩
  ·refine bM (wpS_lift (vX ⟨rfl,?_⟩));refine bM (show wpS M A E s (Es a b ab f U (mg+1) x y) _ _ from ae9 hL T (g.kind.trans w) R L K (λm c X k B=>?_) (λab W V c X k H G F o4=>?_))
   ·exact dC ⟨g.trans k,m,rfl,B⟩
   ·refine bM (RK λhJ g2=>?_);exact da ⟨(g.trans k).trans g2,rfl,H,G,F,by dsimp only;omega⟩
end
section
variable{α:Type}{rk:α->a8}{al bl ab:ar α}{na nb:a9}
structure MH(rk:α->a8)(al bl ab:ar α)(na nb:a9):Prop where
 la:na<=al.length
 lb:nb<=bl.length
 perm:ab.Perm (al.drop na++bl.drop nb)
 AD:ab.Pairwise λx y=>rk y<=rk x
 high:∀x∈ab,∀y∈al.take na++bl.take nb,rk y<=rk x
theorem Rv{l:ar α}{n:a9}{x:α}(j:l[n]?=aq x):l.take (n+1)=l.take n++[x]:=by rw[ad7,j];rfl
theorem WH{l:ar α}{n:a9}{x:α}(j:l[n]?=aq x):l.drop n=x::l.drop (n+1):=by
 have h:=(cY.mp j);rw[vV h.1,h.2]
theorem ah7{l:ar α}(h:dJ rk l){n:a9}{x:α}(q:l[n]?=aq x):∀y∈l.take n,rk y<=rk x:=λy j=>by
 have e:l=l.take n++x::l.drop (n+1):=by rw[<-WH q,xC]
 rw[e]at h;exact(uH.mp h).2.2 y j x (by simp)
theorem MH.swap(h:MH rk al bl ab na nb):MH rk bl al ab nb na :=
 ⟨h.lb,h.la,h.perm.trans FG,h.AD,λx z y j=>h.high x z y (by
  rcases lP.mp j with q|q
  ·exact nP _ q
  ·exact qU _ q)⟩
theorem MH.GR(h:MH rk al bl ab (na+1) nb){x:α}(N:al[na]?=aq x)(sa:dJ rk al)(hb:∀y∈bl.take nb,rk y<=rk x):MH rk al bl (ab++[x]) na nb:=by
 have U:=Rv N;have ed:=WH N;have hi:=h.high;rw[U]at hi;refine⟨by have:=h.la;omega,h.lb,?_,?_,λy B z j=>?_⟩
 ·rw[ed];exact FG.trans (JY [x] h.perm)
 ·refine uH.mpr ⟨h.AD,by simp,λy B z j=>?_⟩;simp only[mJ]at j;subst j;exact hi y B z (by simp)
 ·rcases lP.mp B with q|q
  ·refine hi y q z ?_
   rcases lP.mp j with r|r
   ·exact qU _ (qU _ r)
   ·exact nP _ r
  ·simp only[mJ]at q;subst q
   rcases lP.mp j with r|r
   ·exact ah7 sa N z r
   ·exact hb z r
theorem MH.GN(sa:dJ rk al):∀k na,MH rk al bl ab (na+k) nb->(∀j x,na<=j->j<na+k->al[j]?=aq x->∀y∈bl.take nb,rk y<=rk x)->MH rk al bl (ab++((al.drop na).take k).reverse) na nb
 |0,na,h,_=>by simpa using h
 |k+1,na,h,hb=>by
  have q:al[na]?=aq (al[na]'(by have:=h.la;omega)):=dZ _;have ih:=MH.GN sa k (na+1) (by rw[show na+1+k=na+(k+1)by omega];exact h) λj x h1 h2=>hb j x (by omega) (by omega);have e:((al.drop na).take (k+1)).reverse=((al.drop (na+1)).take k).reverse++[al[na]'(by have:=h.la;omega)]:=by
   rw[WH q,List.take_succ_cons,List.reverse_cons]
  rw[e,<-jX];exact ih.GR q sa (hb na _ (by omega) (by omega) q)
theorem MH.all(h:MH rk al bl ab na nb):(al.take na++bl.take nb++ab.reverse).Perm (al++bl):=by
 have p:(al.take na++bl.take nb++ab.reverse).Perm (al.take na++bl.take nb++(al.drop na++bl.drop nb)):=JY _ ((List.reverse_perm _).trans h.perm);refine p.trans ?_;have e:al.take na++bl.take nb++(al.drop na++bl.drop nb)=al.take na++(bl.take nb++al.drop na++bl.drop nb):=by simp only[jX]
 have j:al++bl=al.take na++(al.drop na++bl.take nb++bl.drop nb):=by
  rw[jX (al.drop na),xC,<-jX,xC]
 rw[e,j];exact JY _ (FG.append_right _)
theorem MH.rev(h:MH rk al bl ab na nb):dJ rk ab.reverse:=List.pairwise_reverse.mpr h.AD
theorem MH.abG(h:MH rk al bl ab na nb)(sb:dJ rk bl)(he:na=0):(al.take na++bl.take nb++ab.reverse).Perm (al++bl)/\dJ rk (al.take na++bl.take nb++ab.reverse):=by
 refine⟨h.all,?_⟩;have hi:=h.high;have r:=h.rev;subst he;rw[Mv,zK]at hi ⊢;exact uH.mpr ⟨sb.sublist (YD _ _),r,λx q y j=>hi y (List.mem_reverse.mp j) x q⟩
theorem MH.EL(h:MH rk al bl ab na nb)(sa:dJ rk al)(he:nb=0):(al.take na++bl.take nb++ab.reverse).Perm (al++bl)/\dJ rk (al.take na++bl.take nb++ab.reverse):=by
 have q:=h.swap.abG sa he;subst he;refine⟨h.all,?_⟩;rw[Mv,zK]at q;rw[Mv,tG];exact q.2
theorem MH.axI(h:MH rk al bl ab na nb)(sa:dJ rk al)(sb:dJ rk bl)(hl:∀y∈bl.take nb,∀x∈al,rk y<=rk x):(bl.take nb++al.take na++ab.reverse).Perm (al++bl)/\dJ rk (bl.take nb++al.take na++ab.reverse):=by
 refine⟨h.swap.all.trans FG,uH.mpr ⟨uH.mpr ⟨sb.sublist (YD _ _),sa.sublist (YD _ _),λx q y j=>hl x q y (ad8 j)⟩,h.rev,λx q y j=>?_⟩⟩;refine h.high y (List.mem_reverse.mp j) x ?_
 rcases lP.mp q with r|r
 ·exact nP _ r
 ·exact qU _ r
end
theorem Jk(ab a b:ba bf)(na nb:a9):(a.extract 0 na++b.extract 0 nb++ab.reverse).toList=a.toList.take na++b.toList.take nb++ab.toList.reverse:=by
 simp[ZC]
theorem aiW(a:ba bf)(i k:a9):((a.extract i (i+k)).reverse).toList=((a.toList.drop i).take k).reverse:=by
 simp[ZC]
section
variable{M:Model}{A:bx}{E:au->ay->Prop}{s:ay}{kd:du}{P:bf->Prop}{rk:bf->a8}{a b:ba bf}
theorem ZF(hL:iQ M A E s kd P rk){st:bq}(e:kindOf st=kd){left:bt}{key:bf}{arr:ba bf}{base n aj:a9}(c:P key)(N:∀i,i<n->∃x,arr[base+i]?=aq x/\P x)(d:∀i j x y,i<=j->j<n->arr[base+i]?=aq x->arr[base+j]?=aq y->rk x<=rk y)(hb:aj<n){Q:ax a9->bq->Prop}
  (h:∀k,k<=n->(∀j x,j<k->arr[base+j]?=aq x->(if left then rk x<rk key else rk x<=rk key))->(∀j x,k<=j->j<n->arr[base+j]?=aq x->(if left then rk key<=rk x else rk key<rk x))->Q (aq k) st) :
  wpS M A E s (qM left key arr base n aj) Q st:=by
 refine Pu hL e c N hb (λi=>match arr[base+i]? with|some x=>if left then decide (rk x<rk key)else !decide (rk key<rk x)|none=>aw) (λi x hi B=>by simp only[B]) (λi j f z hb=>?_) (λk m l g=>h k (by omega) (λj x z B=>?_) (λj x z b B=>?_))
 ·obtain⟨x,a,_⟩:=N i (by omega);obtain⟨y,U,_⟩:=N j z;simp only[a,U]at hb ⊢;have:=d i j x y f z a U;cases left with
  |true=>simp only[gT,BN]at hb ⊢;omega
  |false=>simp only[kB,gU,Ox,ON]at hb ⊢;omega
 ·have q:=l j z;simp only[B]at q;cases left with
  |true=>simpa using q
  |false=>simp only[kB,gU,Ox,ON]at q ⊢;omega
 ·have q:=g j z b;simp only[B]at q;cases left with
  |true=>simp only[gT,ON]at q ⊢;omega
  |false=>simp only[kB,gU,Bool.not_eq_false',BN]at q ⊢;exact q
end
theorem ap0(a b:ba bf):MN a b=(do
 rule "list.sort.merge-hi"
 let ao:=a.size+b.size
 let done (ab:ba bf) (na nb:a9):=a.extract 0 na++b.extract 0 nb++ab.reverse
 let j (ab:ba bf) (na nb:a9):=b.extract 0 nb++a.extract 0 na++ab.reverse
 let mut na:=a.size-1
 let mut nb:=b.size
 let mut ab:ba bf:=#[<-cv a na]
 if na==0 then return done ab na nb
 if nb==1 then return j ab na nb
 let mut ak:=gallopOf (<-get)
 for _ in [0:ao] do
  let mut sZ:=0
  let mut sY:=0
  for _ in [0:ao] do
   let aq q<-lt' (<-cv b (nb-1)) (<-cv a (na-1))|return done ab na nb
   if q then
    na:=na-1;ab:=ab.push (<-cv a na);sZ:=sZ+1;sY:=0
    if na==0 then return done ab na nb
    if sZ>=ak then break
   else
    nb:=nb-1;ab:=ab.push (<-cv b nb);sY:=sY+1;sZ:=0
    if nb==1 then return j ab na nb
    if sY>=ak then break
  rule "list.sort.gallop"
  ak:=ak+1
  for _ in [0:ao] do
   if ak>1 then ak:=ak-1
   AG ak
   let aq at_<-qM aw (<-cv b (nb-1)) a 0 na (na-1)|return done ab na nb
   let k:=na-at_
   sZ:=k
   if k>0 then
    ab:=ab++(a.extract at_ na).reverse;na:=at_
    if na==0 then return done ab na nb
   nb:=nb-1;ab:=ab.push (<-cv b nb)
   if nb==1 then return j ab na nb
   let aq at_<-qM a5 (<-cv a (na-1)) b 0 nb (nb-1)|return done ab na nb
   let k:=nb-at_
   sY:=k
   if k>0 then
    ab:=ab++(b.extract at_ nb).reverse;nb:=at_
    if nb==1 then return j ab na nb
    if nb==0 then return done ab na nb
   na:=na-1;ab:=ab.push (<-cv a na)
   if na==0 then return done ab na nb
   if sZ<7&&sY<7 then break
  ak:=ak+1
  AG ak
 unsupported "internal:list.sort.merge-bound"):=rfl
abbrev YM:=ax (ba bf)×a9×a9×ba bf×a9×a9
abbrev zO:=ax (ba bf)×a9×a9×ba bf×a9×a9×a9
noncomputable def Gz(a b:ba bf)(mg:a9)(j q:a9)(z:ba bf):c8 bq Sem YM :=
 forIn [0:a.size+b.size] ((av,j,q,z,0,0):YM) λ_ c=>do
  let y<-cv b (c.2.2.1-1)
  let x<-cv a (c.2.1-1)
  let r<-lt' y x
  match r with
  |some B =>
   if B=a5 then do
    let x<-cv a (c.2.1-1)
    if(c.2.1-1==0)=a5 then pure (ForInStep.done (aq (a.extract 0 (c.2.1-1)++b.extract 0 c.2.2.1++(c.2.2.2.1.push x).reverse),c.2.1-1,c.2.2.1,c.2.2.2.1.push x,c.2.2.2.2.1+1,0))
    else if c.2.2.2.2.1+1>=mg then pure (ForInStep.done (av,c.2.1-1,c.2.2.1,c.2.2.2.1.push x,c.2.2.2.2.1+1,0))
    else pure (ForInStep.yield (av,c.2.1-1,c.2.2.1,c.2.2.2.1.push x,c.2.2.2.2.1+1,0))
   else do
    let y<-cv b (c.2.2.1-1)
    if(c.2.2.1-1==1)=a5 then pure (ForInStep.done (aq (b.extract 0 (c.2.2.1-1)++a.extract 0 c.2.1++(c.2.2.2.1.push y).reverse),c.2.1,c.2.2.1-1,c.2.2.2.1.push y,0,c.2.2.2.2.2+1))
    else if c.2.2.2.2.2+1>=mg then pure (ForInStep.done (av,c.2.1,c.2.2.1-1,c.2.2.2.1.push y,0,c.2.2.2.2.2+1))
    else pure (ForInStep.yield (av,c.2.1,c.2.2.1-1,c.2.2.2.1.push y,0,c.2.2.2.2.2+1))
  |_=>pure (ForInStep.done (aq (a.extract 0 c.2.1++b.extract 0 c.2.2.1++c.2.2.2.1.reverse),c.2.1,c.2.2.1,c.2.2.2.1,c.2.2.2.2.1,c.2.2.2.2.2))
noncomputable def VF(a b:ba bf)(na nb:a9)(ab:ba bf)(mg q j:a9):c8 bq Sem (d7 zO):=do
 let x<-cv a (na-1)
 if(na-1==0)=a5 then pure (ForInStep.done (aq (a.extract 0 (na-1)++b.extract 0 nb++(ab.push x).reverse),na-1,nb,ab.push x,mg,q,j))
 else if(decide (q<7)&&decide (j<7))=a5 then pure (ForInStep.done (av,na-1,nb,ab.push x,mg,q,j))
 else pure (ForInStep.yield (av,na-1,nb,ab.push x,mg,q,j))
def Hc(a b:ba bf)(na nb:a9)(ab:ba bf)(mg j q:a9):c8 bq Sem (d7 zO):=do
 let x<-cv a (na-1)
 let r<-qM a5 x b 0 nb (nb-1)
 match r with
 |some k =>
  if nb-k>0 then
   if(k==1)=a5 then pure (ForInStep.done (aq (b.extract 0 k++a.extract 0 na++(ab++(b.extract k nb).reverse).reverse),na,k,ab++(b.extract k nb).reverse,mg,j,nb-k))
   else if(k==0)=a5 then pure (ForInStep.done (aq (a.extract 0 na++b.extract 0 k++(ab++(b.extract k nb).reverse).reverse),na,k,ab++(b.extract k nb).reverse,mg,j,nb-k))
   else VF a b na k (ab++(b.extract k nb).reverse) mg j (nb-k)
  else VF a b na nb ab mg j (nb-k)
 |_=>pure (ForInStep.done (aq (a.extract 0 na++b.extract 0 nb++ab.reverse),na,nb,ab,mg,j,q))
def VH(a b:ba bf)(na nb:a9)(ab:ba bf)(mg q j:a9):c8 bq Sem (d7 zO):=do
 let y<-cv b (nb-1)
 if(nb-1==1)=a5 then pure (ForInStep.done (aq (b.extract 0 (nb-1)++a.extract 0 na++(ab.push y).reverse),na,nb-1,ab.push y,mg,q,j))
 else Hc a b na (nb-1) (ab.push y) mg q j
def tX(a b:ba bf)(na nb:a9)(ab:ba bf)(mg q j:a9):c8 bq Sem (d7 zO):=do
 AG mg
 let y<-cv b (nb-1)
 let r<-qM aw y a 0 na (na-1)
 match r with
 |some k =>
  if na-k>0 then
   if(k==0)=a5 then pure (ForInStep.done (aq (a.extract 0 k++b.extract 0 nb++(ab++(a.extract k na).reverse).reverse),k,nb,ab++(a.extract k na).reverse,mg,na-k,j))
   else VH a b k nb (ab++(a.extract k na).reverse) mg (na-k) j
  else VH a b na nb ab mg (na-k) j
 |_=>pure (ForInStep.done (aq (a.extract 0 na++b.extract 0 nb++ab.reverse),na,nb,ab,mg,q,j))
def Gy(a b:ba bf)(j q:a9)(z:ba bf)(U B N:a9):c8 bq Sem zO :=
 forIn [0:a.size+b.size] ((av,j,q,z,U,B,N):zO) λ_ c =>
  if c.2.2.2.2.1>1 then tX a b c.2.1 c.2.2.1 c.2.2.2.1 (c.2.2.2.2.1-1) c.2.2.2.2.2.1 c.2.2.2.2.2.2 else tX a b c.2.1 c.2.2.1 c.2.2.2.1 c.2.2.2.2.1 c.2.2.2.2.2.1 c.2.2.2.2.2.2
structure BR(P:bf->Prop)(rk:bf->a8)(a b:ba bf):Prop where
 pa:∀x∈a.toList,P x
 pb:∀x∈b.toList,P x
 sa:dJ rk a.toList
 sb:dJ rk b.toList
 bot:∀y∈b.toList.take 1,∀x∈a.toList,rk y<=rk x
section
variable{M:Model}{A:bx}{E:au->ay->Prop}{s:ay}{kd:du}{P:bf->Prop}{rk:bf->a8}{a b:ba bf}
theorem Al{l:ar bf}{i:a9}{z:bf}(h:z∈l.take i):∃j,j<i/\l[j]?=aq z:=by
 obtain⟨j,q⟩:=List.getElem?_of_mem h;rw[JU]at q;split at q
 ·exact⟨j,‹_›,q⟩
 ·cases q
theorem SR{l:ar bf}(h:dJ rk l){i:a9}{x:bf}(hi:0<i)(z:l[i-1]?=aq x):∀y∈l.take i,rk y<=rk x:=λy q=>by
 obtain⟨j,B,e⟩:=Al q;exact GK h (by omega) e z
theorem MH.TK{ab:ba bf}{na nb:a9}(h:MH rk a.toList b.toList ab.toList na nb)(hn:0<na){x:bf}(j:a.toList[na-1]?=aq x)(sa:dJ rk a.toList)(hb:∀y∈b.toList.take nb,rk y<=rk x):MH rk a.toList b.toList (ab.push x).toList (na-1) nb:=by
 rw[FU];exact MH.GR (na:=na-1) (by rw[show na-1+1=na by omega];exact h) j sa hb
theorem MH.Uo{ab:ba bf}{na nb:a9}(h:MH rk a.toList b.toList ab.toList na nb)(hn:0<nb){x:bf}(j:b.toList[nb-1]?=aq x)(sb:dJ rk b.toList)(hb:∀y∈a.toList.take na,rk y<=rk x):MH rk a.toList b.toList (ab.push x).toList na (nb-1):=(h.swap.TK hn j sb hb).swap
theorem MH.Tg{ab:ba bf}{na nb k:a9}(h:MH rk a.toList b.toList ab.toList na nb)(sa:dJ rk a.toList)(q:k<=na)(hb:∀j x,k<=j->j<na->a.toList[j]?=aq x->∀y∈b.toList.take nb,rk y<=rk x):MH rk a.toList b.toList (ab++(a.extract k na).reverse).toList k nb:=by
 obtain⟨d,rfl⟩:∃d,na=k+d:=⟨na-k,by omega⟩;rw[aeS,aiW];exact MH.GN sa d k h hb
theorem MH.aiX{ab:ba bf}{na nb k:a9}(h:MH rk a.toList b.toList ab.toList na nb)(sb:dJ rk b.toList)(q:k<=nb)(hb:∀j x,k<=j->j<nb->b.toList[j]?=aq x->∀y∈a.toList.take na,rk y<=rk x):MH rk a.toList b.toList (ab++(b.extract k nb).reverse).toList na k:=(h.swap.Tg sb q hb).swap
theorem MH.VP{ab:ba bf}{na nb:a9}(h:MH rk a.toList b.toList ab.toList na nb)(sb:dJ rk b.toList)(he:na=0):jO rk a b (a.extract 0 na++b.extract 0 nb++ab.reverse):=by
 unfold jO;rw[Jk];exact h.abG sb he
theorem MH.awT{ab:ba bf}{na nb:a9}(h:MH rk a.toList b.toList ab.toList na nb)(sa:dJ rk a.toList)(he:nb=0):jO rk a b (a.extract 0 na++b.extract 0 nb++ab.reverse):=by
 unfold jO;rw[Jk];exact h.EL sa he
theorem MH.VO{ab:ba bf}{na nb:a9}(h:MH rk a.toList b.toList ab.toList na nb)(T:BR P rk a b)(he:nb=1):jO rk a b (b.extract 0 nb++a.extract 0 na++ab.reverse):=by
 unfold jO;rw[Jk];exact h.axI T.sa T.sb (by rw[he];exact T.bot)
theorem afE(hL:iQ M A E s kd P rk)(T:BR P rk a b){st:bq}(C:kindOf st=kd){mg:a9}{p:ba bf}{B N:a9}(D:MH rk a.toList b.toList p.toList B N)(h1:0<B)(h2:1<N){Q:YM->bq->Prop}
  (hr:∀m c,jO rk a b m->Q (aq m,c) st)
  (hn:∀ab na nb c,MH rk a.toList b.toList ab.toList na nb->0<na->1<nb->na+nb<=B+N->Q (av,na,nb,ab,c) st):wpS M A E s (Gz a b mg B N p) Q st:=by
 unfold Gz;refine pY (I:=λ_ (c:YM) d=>d=st/\c.1=av/\MH rk a.toList b.toList c.2.2.2.1.toList c.2.1 c.2.2.1/\0<c.2.1/\1<c.2.2.1/\c.2.1+c.2.2.1<=B+N) ?step ?fin ⟨rfl,rfl,D,h1,h2,qS _⟩
 case fin =>
  rintro⟨r,na,nb,ab,c⟩ d ⟨rfl,h,q,U,e,u⟩;dsimp only at *;subst h;exact hn ab na nb c q U e u
 case step =>
  rintro i ⟨r,na,nb,ab,H,G⟩ d _ F ⟨rfl,h,q,U,e,u⟩;dsimp only at *;subst h;have la:=q.la;have lb:=q.lb;rw[gG]at la lb;obtain⟨y,l,k,v⟩:=oK (show nb-1<b.size by omega);obtain⟨x,o,n,w⟩:=oK (show na-1<a.size by omega);refine bM (lG l (bM (lG o (bM (hL y x (T.pb y v) (T.pa x w) d _ C ?_)))));dsimp only
  by_cases t:rk y<rk x
  ·rw[vM t,bb rfl];refine bM (lG o ?_);have j:=q.TK U n T.sa λz f=>by have:=SR T.sb (by omega) k z f;omega
   refine gH (λhe=>?_) (λhe=>?_)
   ·exact dC (hr _ _ (j.VP T.sb (by simpa using he)))
   ·have he:¬na-1=0:=by simpa using he
    refine gH (λg=>?_) (λg=>?_)
    ·exact dC (hn _ _ _ _ j (by omega) e (by omega))
    ·exact da ⟨rfl,rfl,j,by dsimp only;omega,e,by dsimp only;omega⟩
  ·rw[oH t,bc (by simp)];refine bM (lG l ?_);have j:=q.Uo (by omega) k T.sb λz f=>by have:=SR T.sa (by omega) n z f;omega
   refine gH (λhe=>?_) (λhe=>?_)
   ·exact dC (hr _ _ (j.VO T (by simpa using he)))
   ·have he:¬nb-1=1:=by simpa using he
    refine gH (λg=>?_) (λg=>?_)
    ·exact dC (hn _ _ _ _ j U (by omega) (by omega))
    ·exact da ⟨rfl,rfl,j,U,by dsimp only;omega,by dsimp only;omega⟩
def QL(rk:bf->a8)(a b:ba bf)(hi:a9)(st:bq)(r:d7 zO)(j:bq):Prop:=eV st j/\(match r with
 |.done c=>(∃m,c.1=aq m/\jO rk a b m)\/(c.1=av/\MH rk a.toList b.toList c.2.2.2.1.toList c.2.1 c.2.2.1/\0<c.2.1/\1<c.2.2.1/\c.2.1+c.2.2.1<=hi)
 | .yield c=>c.1=av/\MH rk a.toList b.toList c.2.2.2.1.toList c.2.1 c.2.2.1/\0<c.2.1/\1<c.2.2.1/\c.2.1+c.2.2.1<=hi)
theorem Pq(T:BR P rk a b){st:bq}{ab:ba bf}{na nb mg d c hi:a9}(h:MH rk a.toList b.toList ab.toList na nb)(h1:0<na)(h2:1<nb)(N:∀x,a.toList[na-1]?=aq x->∀z∈b.toList.take nb,rk z<=rk x)(e:na+nb<=hi+1) :
  wpS M A E s (VF a b na nb ab mg d c) (QL rk a b hi st) st:=by
 have la:=h.la;rw[gG]at la;obtain⟨x,B,q,_⟩:=oK (show na-1<a.size by omega);unfold VF;refine bM (lG B ?_);have j:=h.TK h1 q T.sa (N x q);refine gH (λhe=>?_) (λhe=>?_)
 ·exact dC ⟨eV.refl _,.inl ⟨_,rfl,j.VP T.sb (by simpa using he)⟩⟩
 ·have he:¬na-1=0:=by simpa using he
  refine gH (λU=>?_) (λU=>?_)
  ·exact da ⟨eV.refl _,.inr ⟨rfl,j,by dsimp only;omega,h2,by dsimp only;omega⟩⟩
  ·exact da ⟨eV.refl _,rfl,j,by dsimp only;omega,h2,by dsimp only;omega⟩
theorem Pw(hL:iQ M A E s kd P rk){st:bq}(e:kindOf st=kd){left:bt}{key:bf}{arr:ba bf}(b:P key)(d:∀x∈arr.toList,P x)(c:dJ rk arr.toList){n:a9}(g:0<n)(hn:n<=arr.size){Q:ax a9->bq->Prop}
  (h:∀k,k<=n->(∀j x,j<k->arr.toList[j]?=aq x->(if left then rk x<rk key else rk x<=rk key))->(∀j x,k<=j->j<n->arr.toList[j]?=aq x->(if left then rk key<=rk x else rk key<rk x))->Q (aq k) st) :
  wpS M A E s (qM left key arr 0 n (n-1)) Q st:=by
 refine ZF hL e b (λi hi=>?_) (λi j x y l z q B=>?_) (by omega) (λk f h1 h2=>h k f (λj x z q=>h1 j x z ?_) (λj x z a q=>h2 j x z a ?_))
 ·obtain⟨x,U,_,N⟩:=oK (show 0+i<arr.size by omega);exact⟨x,U,d x N⟩
 ·rw[<-nB]at q B;exact GK c (show 0+i<=0+j by omega) q B
 ·rw[zG,<-nB];exact q
 ·rw[zG,<-nB];exact q
theorem afF(hL:iQ M A E s kd P rk)(T:BR P rk a b){st:bq}(p:kindOf st=kd){ab:ba bf}{na nb mg v u hi:a9}(h:MH rk a.toList b.toList ab.toList na nb)(h1:0<na)(h2:1<nb)(o:na+nb<=hi+1) :
  wpS M A E s (Hc a b na nb ab mg v u) (QL rk a b hi st) st:=by
 have la:=h.la;have lb:=h.lb;rw[gG]at la lb;obtain⟨x,i,d,g⟩:=oK (show na-1<a.size by omega);unfold Hc;refine bM (lG i (bM (Pw hL p (T.pa x g) T.pb T.sb (by omega) lb λk r f e=>?_)));dsimp only;simp only[gT]at f e;have N:=h.aiX T.sb r λj y c l B z U=>by
  have:=e j y c l B;have:=SR T.sa h1 d z U;omega
 have last:∀y,a.toList[na-1]?=aq y->∀z∈b.toList.take k,rk z<=rk y:=λy B z U=>by
  rw[d]at B;cases B;obtain⟨j,c,t⟩:=Al U;have:=f j z c t;omega
 refine gH (λm=>?_) (λm=>?_)
 ·refine gH (λhe=>?_) (λhe=>?_)
  ·exact dC ⟨eV.refl _,.inl ⟨_,rfl,N.VO T (by simpa using he)⟩⟩
  ·have he:¬k=1:=by simpa using he
   refine gH (λq=>?_) (λq=>?_)
   ·exact dC ⟨eV.refl _,.inl ⟨_,rfl,N.awT T.sa (by simpa using q)⟩⟩
   ·have q:¬k=0:=by simpa using q
    exact Pq T N h1 (by omega) last (by omega)
 ·have n:k=nb:=by omega
  subst n;exact Pq T h h1 h2 last o
theorem Pr(hL:iQ M A E s kd P rk)(T:BR P rk a b){st:bq}(U:kindOf st=kd){ab:ba bf}{na nb mg d c hi:a9}(h:MH rk a.toList b.toList ab.toList na nb)(h1:0<na)(h2:1<nb)(N:∀y,b.toList[nb-1]?=aq y->∀z∈a.toList.take na,rk z<=rk y)(e:na+nb<=hi+2) :
  wpS M A E s (VH a b na nb ab mg d c) (QL rk a b hi st) st:=by
 have lb:=h.lb;rw[gG]at lb;obtain⟨y,B,j,_⟩:=oK (show nb-1<b.size by omega);unfold VH;refine bM (lG B ?_);have q:=h.Uo (by omega) j T.sb (N y j);refine gH (λhe=>?_) (λhe=>?_)
 ·exact dC ⟨eV.refl _,.inl ⟨_,rfl,q.VO T (by simpa using he)⟩⟩
 ·have he:¬nb-1=1:=by simpa using he
  exact afF hL T U q h1 (by omega) (by omega)
theorem afG(hL:iQ M A E s kd P rk)(T:BR P rk a b){st:bq}(v:kindOf st=kd){ab:ba bf}{na nb mg G F hi:a9}(h:MH rk a.toList b.toList ab.toList na nb)(h1:0<na)(h2:1<nb)(u:na+nb<=hi+2) :
  wpS M A E s (tX a b na nb ab mg G F) (QL rk a b hi st) st:=by
 have la:=h.la;have lb:=h.lb;rw[gG]at la lb;obtain⟨y,n,e,m⟩:=oK (show nb-1<b.size by omega);unfold tX;refine bM (RK λw N=>?_);have d:kindOf w=kd:=N.kind.trans v;refine bM (lG n (bM (Pw hL d (T.pb y m) T.pa T.sa h1 la λk H i g=>?_)));dsimp only;simp only[kB,gU]at i g;have f:=h.Tg T.sa H λj x c o U z B=>by
  have:=g j x c o U;have:=SR T.sb (by omega) e z B;omega
 have l:∀z,b.toList[nb-1]?=aq z->∀x∈a.toList.take k,rk x<=rk z:=λz B x U=>by
  rw[e]at B;cases B;obtain⟨j,c,D⟩:=Al U;exact i j x c D
 refine gH (λp=>?_) (λp=>?_)
 ·refine gH (λhe=>?_) (λhe=>?_)
  ·exact dC ⟨N,.inl ⟨_,rfl,f.VP T.sb (by simpa using he)⟩⟩
  ·have he:¬k=0:=by simpa using he
   exact oM (Pr hL T d f (by omega) h2 l (by omega)) λr C q=>⟨N.trans q.1,q.2⟩
 ·have t:k=na:=by omega
  subst t;exact oM (Pr hL T d h h1 h2 l u) λr C q=>⟨N.trans q.1,q.2⟩
theorem afD(hL:iQ M A E s kd P rk)(T:BR P rk a b){st:bq}(C:kindOf st=kd){t:ba bf}{z B S K L:a9}(d:MH rk a.toList b.toList t.toList z B)(h1:0<z)(h2:1<B){Q:zO->bq->Prop}
  (hr:∀m c j,eV st j->jO rk a b m->Q (aq m,c) j)
  (hn:∀ab na nb c j,eV st j->MH rk a.toList b.toList ab.toList na nb->0<na->1<nb->na+nb+2<=z+B->Q (av,na,nb,ab,c) j):wpS M A E s (Gy a b z B t S K L) Q st:=by
 unfold Gy;have la:=d.la;have lb:=d.lb;rw[gG]at la lb;refine pY (I:=λi (c:zO) j=>eV st j/\c.1=av/\MH rk a.toList b.toList c.2.2.2.1.toList c.2.1 c.2.2.1/\0<c.2.1/\1<c.2.2.1/\(i=0->c.2.1=z/\c.2.2.1=B)/\(0<i->c.2.1+c.2.2.1+2<=z+B)) ?step ?fin ⟨eV.refl _,rfl,d,h1,h2,λ_=>⟨rfl,rfl⟩,λh=>b8 h (by decide)⟩
 case fin =>
  rintro⟨r,na,nb,ab,c⟩ j ⟨g,k,p,o,n,u,l⟩;dsimp only at *;subst k;exact hn ab na nb c j g p o n (l (by omega))
 case step =>
  rintro i ⟨r,na,nb,ab,mg,G,F⟩ j _ V ⟨g,k,p,o,n,u,l⟩;dsimp only at *;subst k;have X:na+nb<=z+B:=by
   by_cases hi:i=0
   ·have:=u hi;omega
   ·have:=l (by omega);omega
  have H:∀mg,wpS M A E s (tX a b na nb ab mg G F) (QL rk a b (z+B-2) j) j:=λmg=>afG hL T (g.kind.trans C) p o n (by omega);split
  all_goals
   refine oM (H _) λr y q=>?_;obtain⟨f,q⟩:=q
   match r,q with
   |.done (aq m,c),.inl ⟨W,e,D⟩=>dsimp only at e;cases e;exact hr _ _ _ (g.trans f) D
   |.done (av,U,N,R,c),.inr ⟨_,m,x,w,v⟩=>exact hn R U N c y (g.trans f) m x w (by dsimp only at v;omega)
   |.yield c,q=>exact⟨g.trans f,q.1,q.2.1,q.2.2.1,q.2.2.2.1,λh=>by omega,λ_=>by have:=q.2.2.2.2;omega⟩
theorem ae6(hL:iQ M A E s kd P rk)(T:BR P rk a b)(ha:0<a.size)(hb:0<b.size)(h:∀x,a.toList[a.size-1]?=aq x->∀y∈b.toList,rk y<=rk x){st:bq}(p:kindOf st=kd):wpS M A E s (MN a b) (λm j=>eV st j/\jO rk a b m) st:=by
 rw[ap0];refine bM (wpS_lift (vX ⟨rfl,?_⟩));obtain⟨x,u,o,V⟩:=oK (show a.size-1<a.size by omega);refine bM (lG u ?_);have U:MH rk a.toList b.toList (#[x]:ba bf).toList (a.size-1) b.size:=by
  have L:MH rk a.toList b.toList (#[]:ba bf).toList a.size b.size:=⟨by simp,by simp,by simp,by simp,by simp⟩;exact L.TK ha o T.sa (by rw[Mw (by simp)];exact h x o)
 refine gH (λhe=>?_) (λhe=>?_)
 ·exact dC ⟨eV.refl _,U.VP T.sb (by simpa using he)⟩
 have he:¬a.size-1=0:=by simpa using he
 refine gH (λz=>?_) (λz=>?_)
 ·exact dC ⟨eV.refl _,U.VO T (by simpa using z)⟩
 have z:¬b.size=1:=by simpa using z
 refine bM (xN ?_);refine bM (oM (pY
  (I:=λi (c:ax (ba bf)×a9×a9×ba bf×a9) j=>eV st j/\c.1=av/\MH rk a.toList b.toList c.2.2.2.1.toList c.2.1 c.2.2.1/\0<c.2.1/\1<c.2.2.1/\i+c.2.1+c.2.2.1<=a.size+b.size)
  (Q:=λ(c:ax (ba bf)×a9×a9×ba bf×a9) j=>eV st j/\∃m,c.1=aq m/\jO rk a b m) ?step ?fin ⟨eV.refl _,rfl,U,by dsimp only;omega,by dsimp only;omega,by dsimp only;omega⟩) ?post)
 case fin =>
  rintro⟨r,na,nb,ab,c⟩ j ⟨g,f,n,l,k,t⟩;dsimp only at *;omega
 case post =>
  rintro⟨r,na,nb,ab,c⟩ j ⟨g,m,e,q⟩;dsimp only at e;subst e;exact dC ⟨g,q⟩
 case step =>
  rintro i ⟨r,na,nb,ab,mg⟩ j _ X ⟨g,f,n,l,k,t⟩;dsimp only at f n l k t;subst f;refine bM (show wpS M A E s (Gz a b mg na nb ab) _ _ from afE hL T (g.kind.trans p) n l k (λm c q=>?_) (λab N B c K H G n4=>?_))
  ·exact dC ⟨g,m,rfl,q⟩
  ·refine bM (wpS_lift (vX ⟨rfl,?_⟩));refine bM (show wpS M A E s (Gy a b N B ab (mg+1) c.1 c.2) _ _ from afD hL T (g.kind.trans p) K H G (λm c R d q=>?_) (λab F D c R d C w v W=>?_))
   ·exact dC ⟨g.trans d,m,rfl,q⟩
   ·refine bM (RK λhJ S=>?_);exact da ⟨(g.trans d).trans S,rfl,C,w,v,by dsimp only;omega⟩
end
noncomputable def Kr(rk:bf->a8)(xs:ba bf)(i:a9):a8:=match xs[i]? with
 |some p=>rk p
 |none=>0
theorem QG{rk:bf->a8}{xs ys:ba bf}{i j:a9}(h:xs[i]?=ys[j]?):Kr rk xs i=Kr rk ys j:=by unfold Kr;rw[h]
def Up(rk:bf->a8)(xs:ba bf)(lo n:a9):Prop:=∀i j,i<=j->j<n->Kr rk xs (lo+i)<=Kr rk xs (lo+j)
def Dn(rk:bf->a8)(xs:ba bf)(lo n:a9):Prop:=∀i j,i<=j->j<n->Kr rk xs (lo+j)<=Kr rk xs (lo+i)
theorem aCO{rk:bf->a8}{xs:ba bf}{src d:a9}(j:src<xs.size)(hd:d<=src)(k:a9) :
  Kr rk (bubble xs src d) k=if k=src-d then Kr rk xs src else if src-d<k/\k<=src then Kr rk xs (k-1)else Kr rk xs k:=by
 have e:=getElem?_bubble j d hd k
 by_cases h1:k=src-d
 ·rw[bb h1]at e ⊢;exact QG e
 ·rw[bc h1]at e ⊢
  by_cases h2:src-d<k/\k<=src
  ·rw[bb h2]at e ⊢;exact QG e
  ·rw[bc h2]at e ⊢;exact QG e
theorem Ng{rk:bf->a8}{xs:ba bf}{i j:a9}(q:j<=xs.size)(k:a9) :
  Kr rk (mirror xs i j ((j-i)/2)) k=if i<=k/\k<j then Kr rk xs (i+j-1-k)else Kr rk xs k:=by
 have e:=getElem?_mirror_all (i:=i) q k
 by_cases h1:i<=k/\k<j
 ·rw[bb h1]at e ⊢;exact QG e
 ·rw[bc h1]at e ⊢;exact QG e
theorem QF{rk:bf->a8}{xs:ba bf}{i j:a9}(q:j<=xs.size)(heq:∀k,i<=k->k<j->Kr rk xs k=Kr rk xs (j-1))(k:a9) :
  Kr rk (mirror xs i j ((j-i)/2)) k=Kr rk xs k:=by
 rw[Ng q];split
 ·rw[heq _ (by omega) (by omega),heq k (by omega) (by omega)]
 ·rfl
structure Bs(kd:du)(x0:ba bf)(lo:a9)(p0:ba (a9×a9×a9))(st:bq):Prop where
 kind:kindOf st=kd
 failed:dw st=av
 pend:cj st=p0
 perm:(br st).Perm x0
 pre:∀k,k<lo->(br st)[k]?=x0[k]?
section
variable{M:Model}{A:bx}{E:au->ay->Prop}{s:ay}{kd:du}{P:bf->Prop}{rk:bf->a8}{x0:ba bf}{lo:a9}{p0:ba (a9×a9×a9)}
theorem Bs.size{st:bq}(h:Bs kd x0 lo p0 st):(br st).size=x0.size:=h.perm.size_eq
theorem Bs.mirror{st:bq}(h:Bs kd x0 lo p0 st){i j:a9}(hi:lo<=i)(z:j<=x0.size):Bs kd x0 lo p0 (setArr st (mirror (br st) i j ((j-i)/2))) :=
 ⟨h.kind,h.failed,h.pend,(mirror_perm _ _ _ _).trans h.perm,λk q=>by
  rw[<-h.pre k q];show(PyProof.Rows.mirror (br st) i j ((j-i)/2))[k]?=_;rw[getElem?_mirror_all (by rw[h.size];exact z),bc (by omega)]⟩
theorem Bs.bubble{st:bq}(h:Bs kd x0 lo p0 st){src d:a9}(j:src<x0.size)(hd:lo+d<=src):Bs kd x0 lo p0 (setArr st (bubble (br st) src d)) :=
 ⟨h.kind,h.failed,h.pend,(bubble_perm _ _ _).trans h.perm,λk q=>by
  rw[<-h.pre k q];show(PyProof.Rows.bubble (br st) src d)[k]?=_;rw[getElem?_bubble (by rw[h.size];exact j) d (by omega),bc (by omega),bc (by omega)]⟩
theorem LA(hL:iQ M A E s kd P rk)(N:∀x∈x0.toList,P x){st:bq}(q:Bs kd x0 lo p0 st){i j:a9}{Q:ax bt->bq->Prop}(hi:i<x0.size)(d:j<x0.size)
  (h:Q (aq (decide (Kr rk (br st) i<Kr rk (br st) j))) st):wpS M A E s (ltAt' i j) Q st:=by
 obtain⟨x,B,_,b⟩:=oK (show i<(br st).size by rw[q.size];exact hi);obtain⟨y,z,_,U⟩:=oK (show j<(br st).size by rw[q.size];exact d);have c:=(ZD.mp q.perm).mem_iff (a:=x);have g:=(ZD.mp q.perm).mem_iff (a:=y);rw[ltAt'_eq];refine bM (xN ?_);show wpS _ _ _ _ (do let x<-cv (br st) i;let y<-cv (br st) j;lt' x y) Q st;refine bM (lG B (bM (lG z ?_)));refine hL x y (N x (c.mp b)) (N y (g.mp U)) st Q q.kind ?_;have f:Kr rk (br st) i=rk x:=by unfold Kr;rw[B]
 have e:Kr rk (br st) j=rk y:=by unfold Kr;rw[z]
 rw[f,e]at h;exact h
theorem RL{st:bq}{i j:a9}{Q:Unit->bq->Prop}(h:Q () (setArr st (mirror (br st) i j ((j-i)/2)))):wpS M A E s (en i j) Q st:=by
 rw[reverseSlice'_eq];exact FV h
theorem afI(hL:iQ M A E s kd P rk)(D:∀x∈x0.toList,P x){st:bq}{n ok:a9}{Q:bt->bq->Prop}(hn:lo+n<=x0.size)(aJ:ok<=n)(F:Bs kd x0 lo p0 st)(u:Up rk (br st) lo ok)
  (h:∀q,Bs kd x0 lo p0 q->Up rk (br q) lo n->Q a5 q):wpS M A E s (binarySort' lo n ok) Q st:=by
 rw[binarySort'_eq];refine bM (oM (pY (I:=λk c q=>c=(av,())/\Bs kd x0 lo p0 q/\Up rk (br q) lo (min k n))
  (Q:=λc q=>c=(av,())/\Bs kd x0 lo p0 q/\Up rk (br q) lo n) ?step ?fin ?init) ?post)
 case post =>
  rintro c q ⟨rfl,N,B⟩;exact dC (h q N B)
 case init =>
  refine⟨rfl,F,λi j g w=>?_⟩
  by_cases h1:ok=0
  ·have:i=j:=by omega
   subst this;exact mK _
  ·exact u i j g (by omega)
 case fin =>
  rintro c q ⟨y,N,B⟩;refine⟨y,N,?_⟩;rwa[show min (max (max ok 1) n) n=n by omega]at B
 case step =>
  rintro k c q C v ⟨rfl,N,B⟩;rw[show min k n=k by omega]at B;have e:lo+k<x0.size:=by omega
  refine bM (oM (pY (I:=λx c z=>z=q/\∃l r,c=(av,l,r)/\l<=r/\r<=k/\r-l<=k-x /\
    (∀i,i<l->Kr rk (br q) (lo+i)<=Kr rk (br q) (lo+k))/\(∀i,r<=i->i<k->Kr rk (br q) (lo+k)<Kr rk (br q) (lo+i)))
   (Q:=λc z=>z=q/\∃l r,c=(av,l,r)/\l<=k /\
    (∀i,i<l->Kr rk (br q) (lo+i)<=Kr rk (br q) (lo+k))/\(∀i,l<=i->i<k->Kr rk (br q) (lo+k)<Kr rk (br q) (lo+i))) ?istep ?ifin ?iinit) ?ipost)
  case iinit=>exact⟨rfl,0,k,rfl,by omega,by omega,by omega,λi hi=>by omega,λi h1 h2=>by omega⟩
  case ifin =>
   rintro c z ⟨rfl,l,r,rfl,d,f,hm,a,U⟩;have:l=r:=by omega
   subst this;exact⟨rfl,l,l,rfl,f,a,U⟩
  case istep =>
   rintro x c z _ t ⟨rfl,l,r,rfl,d,f,hm,a,U⟩;dsimp only
   by_cases m:l>=r
   ·rw[bb m];have:l=r:=by omega
    subst this;exact dC ⟨rfl,l,l,rfl,f,a,U⟩
   ·rw[bc m];refine bM (LA hL D N e (by omega) ?_)
    by_cases b:Kr rk (br z) (lo+k)<Kr rk (br z) (lo+(l+r)/2)
    ·simp only[b,OM,gT];refine dC ⟨rfl,l,(l+r)/2,rfl,by omega,by omega,by omega,a,λi h1 h2=>?_⟩;exact Int.lt_of_lt_of_le b (B _ _ h1 h2)
    ·simp only[b,IL,kB,gU];refine dC ⟨rfl,(l+r)/2+1,r,rfl,by omega,by omega,by omega,λi h1=>?_,U⟩;exact zN (B i ((l+r)/2) (by omega) (by omega)) (Int.not_lt.mp b)
  case ipost =>
   rintro c z ⟨rfl,l,r,rfl,G,a,U⟩;show wpS _ _ _ _ (do moveDown' (lo+k) (lo+l);pure (ForInStep.yield (av,()))) _ _;rw[moveDown'_eq];refine bM (FV (dC ⟨rfl,N.bubble e (by omega),?_⟩));rw[show min (k+1) n=k+1 by omega];have p:lo+k<(br z).size:=by rw[N.size];exact e
   intro i j g w;show Kr rk (bubble (br z) (lo+k) (lo+k-(lo+l))) (lo+i)<=Kr rk (bubble (br z) (lo+k) (lo+k-(lo+l))) (lo+j);have o:∀i,Kr rk (bubble (br z) (lo+k) (lo+k-(lo+l))) (lo+i)=if i=l then Kr rk (br z) (lo+k)else if l<i/\i<=k then Kr rk (br z) (lo+(i-1))else Kr rk (br z) (lo+i):=λi=>by
    rw[aCO p (by omega)]
    by_cases h1:i=l
    ·rw[bb h1,bb (by omega)]
    ·rw[bc h1,bc (by omega)]
     by_cases h2:l<i/\i<=k
     ·rw[bb h2,bb (by omega),show lo+i-1=lo+(i-1)by omega]
     ·rw[bc h2,bc (by omega)]
   rw[o,o]
   repeat' split
   all_goals first
    |(exfalso;omega)
    |exact mK _
    |exact a _ (by omega)
    |exact Np (U _ (by omega) (by omega))
    |exact B _ _ (by omega) (by omega)
end
noncomputable def XM(lo a nrem:a9):c8 bq Sem AscSt :=
 forIn [a:nrem] ((av,a):AscSt) λ_ c=>do
  let x<-ltAt' (lo+c.2) (lo+c.2-1)
  match x with
  |some j=>if j=a5 then pure (ForInStep.done (av,c.2))else pure (ForInStep.yield (av,c.2+1))
  |_=>pure (ForInStep.done (aq av,c.2))
noncomputable def SI(lo n0 nrem:a9):c8 bq Sem (ax a9):=do
 let mut n:=n0
 en lo (lo+n)
 for _ in [n:nrem] do
  let aq j<-ltAt' (lo+n) (lo+n-1)|return av
  if j then break
  n:=n+1
 return aq n
noncomputable def Jm(lo n nrem:a9):c8 bq Sem DescSt :=
 forIn [n:nrem] ((av,n,0):DescSt) λ_ c=>do
  let x<-ltAt' (lo+c.2.1) (lo+c.2.1-1)
  match x with
  |some j =>
   if j=a5 then
    if c.2.2>0 then do
     en (lo+c.2.1-(c.2.2+1)) (lo+c.2.1)
     pure (ForInStep.yield (av,c.2.1+1,0))
    else pure (ForInStep.yield (av,c.2.1+1,0))
   else do
    let x<-ltAt' (lo+c.2.1-1) (lo+c.2.1)
    match x with
    |some q =>
     if q=a5 then pure (ForInStep.done (av,c.2.1,c.2.2))
     else pure (ForInStep.yield (av,c.2.1+1,c.2.2+1))
    |_=>pure (ForInStep.done (aq av,c.2.1,c.2.2))
  |_=>pure (ForInStep.done (aq av,c.2.1,c.2.2))
noncomputable def WI(lo n0 nrem:a9):c8 bq Sem (ax a9):=do
 let mut n:=n0
 rule "list.sort.descending-run"
 n:=n+1
 let mut lZ:=0
 for _ in [n:nrem] do
  let aq j<-ltAt' (lo+n) (lo+n-1)|return av
  if j then
   if lZ>0 then en (lo+n-(lZ+1)) (lo+n)
   lZ:=0
  else
   let aq q<-ltAt' (lo+n-1) (lo+n)|return av
   if q then break
   lZ:=lZ+1
  n:=n+1
 if lZ>0 then en (lo+n-(lZ+1)) (lo+n)
 en lo (lo+n)
 for _ in [n:nrem] do
  let aq j<-ltAt' (lo+n) (lo+n-1)|return av
  if j then break
  n:=n+1
 return aq n
section
variable{M:Model}{A:bx}{E:au->ay->Prop}{s:ay}{kd:du}{P:bf->Prop}{rk:bf->a8}{x0:ba bf}{lo:a9}{p0:ba (a9×a9×a9)}
theorem Qa(hL:iQ M A E s kd P rk)(f:∀x∈x0.toList,P x){st:bq}{a nrem:a9}{Q:AscSt->bq->Prop}(hn:lo+nrem<=x0.size)(ha:1<=a)(U:a<=nrem)(g:Bs kd x0 lo p0 st)(e:Up rk (br st) lo a)
  (h:∀n,a<=n->n<=nrem->Up rk (br st) lo n->(n=nrem\/Kr rk (br st) (lo+n)<Kr rk (br st) (lo+n-1))->Q (av,n) st) :
  wpS M A E s (XM lo a nrem) Q st:=by
 unfold XM;refine pY (I:=λx c B=>B=st/\c=(av,x)/\Up rk (br st) lo x) ?step ?fin ⟨rfl,rfl,e⟩
 case fin =>
  rintro c B ⟨rfl,rfl,z⟩;rw[show max a nrem=nrem by omega]at z ⊢;exact h nrem U cX z (.inl rfl)
 case step =>
  rintro x c B m d ⟨rfl,rfl,z⟩;dsimp only;refine bM (LA hL f g (by omega) (by omega) ?_)
  by_cases N:Kr rk (br B) (lo+x)<Kr rk (br B) (lo+x-1)
  ·simp only[N,OM,gT];exact dC (h x m (by omega) z (.inr N))
  ·simp only[N,IL,kB,gU];refine dC ⟨rfl,rfl,λi j k p=>?_⟩
   by_cases l:j<x
   ·exact z i j k l
   ·have o:j=x:=by omega
    subst o
    by_cases b:i=j
    ·subst b;exact mK _
    ·have q:=z i (j-1) (by omega) (by omega);rw[show lo+(j-1)=lo+j-1 by omega]at q;exact zN q (Int.not_lt.mp N)
theorem Pk(hL:iQ M A E s kd P rk)(c:∀x∈x0.toList,P x){st:bq}{n nrem:a9}{Q:ax a9->bq->Prop}(hn:lo+nrem<=x0.size)(h1:1<=n)(a:n<=nrem)(U:Bs kd x0 lo p0 st)
  (b:Dn rk (br st) lo n) (h:∀m B,Bs kd x0 lo p0 B->1<=m->m<=nrem->Up rk (br B) lo m->Q (aq m) B) :
  wpS M A E s (SI lo n nrem) Q st:=by
 unfold SI;have z:lo+n<=(br st).size:=by rw[U.size];omega
 refine bM (RL ?_);have N:=U.mirror (i:=lo) (j:=lo+n) cX (by omega);refine bM (show wpS M A E s (XM lo n nrem) _ _ from Qa hL c hn h1 a N ?_ λm k d e _=>dC (h m _ N (by omega) d e));intro i j g f;show Kr rk (mirror (br st) lo (lo+n) ((lo+n-lo)/2)) (lo+i)<=Kr rk (mirror (br st) lo (lo+n) ((lo+n-lo)/2)) (lo+j);rw[Ng z,Ng z,bb (by omega),bb (by omega)];have q:=b (n-1-j) (n-1-i) (by omega) (by omega);rw[show lo+(n-1-j)=lo+(lo+n)-1-(lo+j)by omega,show lo+(n-1-i)=lo+(lo+n)-1-(lo+i)by omega]at q;exact q
theorem afH(hL:iQ M A E s kd P rk)(r:∀x∈x0.toList,P x){st:bq}{n nrem:a9}{Q:DescSt->bq->Prop}(hn:lo+nrem<=x0.size)(h1:1<=n)(w:n<=nrem)(F:Bs kd x0 lo p0 st)
  (C:Dn rk (br st) lo n)
  (h:∀m lZ z,Bs kd x0 lo p0 z->n<=m->m<=nrem->Dn rk (br z) lo m->lZ+1<=m->(∀i,lo+m-(lZ+1)<=i->i<lo+m->Kr rk (br z) i=Kr rk (br z) (lo+m-1))->Q (av,m,lZ) z) :
  wpS M A E s (Jm lo n nrem) Q st:=by
 unfold Jm;refine pY (I:=λx c z=>∃lZ,c=(av,x,lZ)/\Bs kd x0 lo p0 z/\Dn rk (br z) lo x/\lZ+1<=x /\
   (∀i,lo+x-(lZ+1)<=i->i<lo+x->Kr rk (br z) i=Kr rk (br z) (lo+x-1))) ?step ?fin ⟨0,rfl,F,C,by omega,λi h1 h2=>by congr 1;omega⟩
 case fin =>
  rintro c z ⟨lZ,rfl,B,N,U,he⟩;rw[show max n nrem=nrem by omega]at N U he ⊢;exact h nrem lZ z B w cX N U he
 case step =>
  rintro x c z G y ⟨lZ,rfl,B,N,U,he⟩;dsimp only;have e:lo+x<=(br z).size:=by rw[B.size];omega
  refine bM (LA hL r B (by omega) (by omega) ?_)
  by_cases b:Kr rk (br z) (lo+x)<Kr rk (br z) (lo+x-1)
  ·simp only[b,OM,gT];have v:∀a:ba bf,(∀k,Kr rk a k=Kr rk (br z) k)->Dn rk a lo (x+1):=by
    intro a p i j g D;rw[p,p]
    by_cases l:j<x
    ·exact N i j g l
    ·have o:j=x:=by omega
     subst o
     by_cases d:i=j
     ·subst d;exact mK _
     ·have q:=N i (j-1) (by omega) (by omega);rw[show lo+(j-1)=lo+j-1 by omega]at q;exact zN (Np b) q
   refine gH (λH=>?_) (λH=>?_)
   ·exact bM (RL (dC ⟨0,rfl,B.mirror (by omega) (by omega),v _ (QF e he),by omega,λi h1 h2=>by congr 1;omega⟩))
   ·exact dC ⟨0,rfl,B,v _ (λ_=>rfl),by omega,λi h1 h2=>by congr 1;omega⟩
  ·simp only[b,IL,kB,gU];refine bM (LA hL r B (by omega) (by omega) ?_)
   by_cases u:Kr rk (br z) (lo+x-1)<Kr rk (br z) (lo+x)
   ·simp only[u,OM,gT];exact dC (h x lZ z B G (by omega) N U he)
   ·simp only[u,IL,kB,gU];have t:Kr rk (br z) (lo+x)=Kr rk (br z) (lo+x-1):=by omega
    refine dC ⟨lZ+1,rfl,B,λi j g D=>?_,by omega,λi h1 h2=>?_⟩
    ·by_cases l:j<x
     ·exact N i j g l
     ·have o:j=x:=by omega
      subst o
      by_cases d:i=j
      ·subst d;exact mK _
      ·have q:=N i (j-1) (by omega) (by omega);rw[show lo+(j-1)=lo+j-1 by omega]at q;rw[t];exact q
    ·rw[show lo+(x+1)-1=lo+x by omega]
     by_cases f:i=lo+x
     ·subst f;rfl
     ·rw[t];exact he i (by omega) (by omega)
theorem Pz(hL:iQ M A E s kd P rk)(N:∀x∈x0.toList,P x){st:bq}{n nrem:a9}{Q:ax a9->bq->Prop}(hn:lo+nrem<=x0.size)(b:n+1<=nrem)(e:Bs kd x0 lo p0 st)
  (c:Dn rk (br st) lo (n+1)) (h:∀m q,Bs kd x0 lo p0 q->1<=m->m<=nrem->Up rk (br q) lo m->Q (aq m) q) :
  wpS M A E s (WI lo n nrem) Q st:=by
 unfold WI;refine bM (wpS_lift (vX ⟨rfl,?_⟩));refine bM (show wpS M A E s (Jm lo (n+1) nrem) _ _ from afH hL N hn (by omega) b e c λm lZ q B l a U k he=>?_);have z:lo+m<=(br q).size:=by rw[B.size];omega
 refine gH (λg=>?_) (λg=>?_)
 ·refine wpS_bind (RL (show wpS M A E s (SI lo m nrem) _ _ from Pk hL N hn (by omega) a (B.mirror (by dsimp only;omega) (by dsimp only;omega)) ?_ h));intro i j f d;show Kr rk (mirror (br q) _ _ _) (lo+j)<=Kr rk (mirror (br q) _ _ _) (lo+i);rw[QF z he,QF z he];exact U i j f d
 ·exact(show wpS M A E s (SI lo m nrem) _ _ from Pk hL N hn (by omega) a B U h)
theorem ae4(hL:iQ M A E s kd P rk)(U:∀x∈x0.toList,P x){st:bq}{nrem:a9}{Q:ax a9->bq->Prop}(hn:lo+nrem<=x0.size)(h1:1<=nrem)(z:Bs kd x0 lo p0 st)
  (h:∀m e,Bs kd x0 lo p0 e->1<=m->m<=nrem->Up rk (br e) lo m->Q (aq m) e) :
  wpS M A E s (countRun' lo nrem) Q st:=by
 rw[countRun'_eq];refine bM (show wpS M A E s (XM lo 1 nrem) _ _ from Qa hL U hn (qS 1) h1 z (λi j l g=>by
  have:i=j:=by omega
  subst this;exact mK _) λn u f a y=>?_)
 refine gH (λN=>?_) (λN=>?_)
 ·exact dC (h n st z u f a)
 ·have N:¬n=nrem:=by simpa using N
  have o:=y.resolve_left N;refine gH (λb=>?_) (λb=>?_)
  ·have b:n>1:=b;refine wpS_bind (LA hL U z (by omega) (by dsimp only;omega) ?_);dsimp only
   by_cases t:Kr rk (br st) lo<Kr rk (br st) (lo+n-1)
   ·refine gH (λ_=>dC (h n st z u f a)) (λq=>b8 (vM t) q)
   ·refine gH (λq=>b8 (Dz q) t) (λ_=>?_);have B:lo+n<=(br st).size:=by rw[z.size];omega
    have hall:∀k,lo<=k->k<lo+n->Kr rk (br st) k=Kr rk (br st) (lo+n-1):=by
     intro k F G;have r:=a 0 (k-lo) (by omega) (by omega);have p:=a (k-lo) (n-1) (by omega) (by omega);rw[show lo+(k-lo)=k by omega]at r p;rw[show lo+(n-1)=lo+n-1 by omega]at p;rw[Nat.add_zero]at r;omega
    refine bM (RL (show wpS M A E s (WI lo n nrem) _ _ from Pz hL U hn (by omega) (z.mirror cX (by omega)) ?_ h));intro i j l g;show Kr rk (mirror (br st) _ _ _) (lo+j)<=Kr rk (mirror (br st) _ _ _) (lo+i);rw[QF B hall,QF B hall]
    by_cases D:j<n
    ·rw[hall (lo+i) (by omega) (by omega),hall (lo+j) (by omega) (by omega)];exact mK _
    ·have C:j=n:=by omega
     subst C
     by_cases c:i=j
     ·subst c;exact mK _
     ·rw[hall (lo+i) (by omega) (by omega)];exact Np o
  ·have d:n=1:=by dsimp only at b;omega
   subst d;refine(show wpS M A E s (WI lo 1 nrem) _ _ from Pz hL U hn (by omega) z ?_ h);intro i j l g
   by_cases c:i=j
   ·subst c;exact mK _
   ·have v:i=0:=by omega
    have w:j=1:=by omega
    subst v;subst w;exact Np o
end
theorem ap1(i:a9):mergeAt' i=(do
 let s<-get
 let (aq (sa,na,power),aq (sb,nb,_)):=((cj s)[i]?,(cj s)[i+1]?)|unsupported "internal:list.sort.pending"
 set (setPending s (((cj s).setIfInBounds i (sa,na+nb,power)).eraseIdxIfInBounds (i+1)))
 let aq k<-qM aw (<-cv (br s) sb) (br s) sa na 0|return aw
 let (sa,na):=(sa+k,na-k)
 if na==0 then return a5
 let aq nb<-qM a5 (<-cv (br s) (sa+na-1)) (br s) sb nb (nb-1)|return aw
 if nb==0 then return a5
 let x:=(br s).extract sa sb
 let y:=(br s).extract sb (sb+nb)
 let merged<-if na<=nb then MM x y else MN x y
 modify λs=>setArr s (merged.toList.zipIdx.foldl (λa (p,j)=>a.setIfInBounds (sa+j) p) (br s))
 return (dw (<-get)).isNone):=rfl
theorem acH{p:a9}:∀(l:ar bf) (k:a9) (arr:ba bf),p+k+l.length<=arr.size->∀i,((l.zipIdx k).foldl (λa (x,j)=>a.setIfInBounds (p+j) x) arr)[i]?=if p+k<=i/\i<p+k+l.length then l[i-(p+k)]? else arr[i]?
 |[],k,arr,h,i=>by
  rw[bc (by simp only[BX];omega)];rfl
 |x::l,k,arr,h,i=>by
  rw[fT]at h;have ih:=acH (p:=p) l (k+1) (arr.setIfInBounds (p+k) x) (by rw[Array.size_setIfInBounds];omega) i;rw[List.zipIdx_cons,List.foldl_cons];refine ih.trans ?_;rw[fT]
  by_cases h1:p+(k+1)<=i/\i<p+(k+1)+l.length
  ·rw[bb h1,bb (by omega),show i-(p+k)=i-(p+(k+1))+1 by omega,QE]
  ·rw[bc h1]
   by_cases h2:i=p+k
   ·subst h2;rw[bb (by omega),Nat.sub_self,aeD,Array.getElem?_setIfInBounds_self_of_lt (by omega)]
   ·rw[bc (by omega),Array.getElem?_setIfInBounds_ne (by omega)]
theorem aA3{p:a9}{l pre mid post:ar bf}{arr:ba bf}(h:arr.toList=pre++mid++post)(q:pre.length=p)(hl:l.length=mid.length):(l.zipIdx.foldl (λa (x,j)=>a.setIfInBounds (p+j) x) arr).toList=pre++l++post:=by
 have z:arr.size=pre.length+mid.length+post.length:=by rw[<-gG,h];simp[XZ]
 refine FI λi=>?_;rw[nB,acH l 0 arr (by omega) i,<-nB,h]
 by_cases h1:p+0<=i/\i<p+0+l.length
 ·rw[bb h1,jX,qV (by omega),iS (by omega),q];rfl
 ·rw[bc h1]
  by_cases h2:i<p
  ·rw[jX,jX,iS (by omega),iS (by omega)]
  ·rw[qV (by simp only[iR];omega),qV (by simp only[iR];omega),iR,iR,hl]
theorem ae3{J:Type}{M:Model}{A:bx}{E:au->ay->Prop}{s:ay}{x:J}{Q:PUnit->J->Prop}{st:J}(h:Q ⟨⟩ x):wpS M A E s (set x:c8 J Sem PUnit) Q st:=by
 unfold wpS;rw[StateT.run_set];exact wpAny_pure ⟨rfl,h⟩
section
variable{M:Model}{A:bx}{E:au->ay->Prop}{s:ay}{kd:du}{P:bf->Prop}{rk:bf->a8}
theorem Wf{pre mid post:ar bf}{arr:ba bf}(h:arr.toList=pre++(mid++post)){j:a9}(q:j<mid.length):arr[pre.length+j]?=mid[j]?:=by
 rw[<-nB,h,qV (by omega),iS (by omega)];congr 1;omega
theorem Wg{pre mid post:ar bf}{arr:ba bf}(h:arr.toList=pre++mid++post){i j:a9}(hi:i=pre.length)(q:j=pre.length+mid.length):(arr.extract i j).toList=mid:=by
 subst hi q;rw[ZC,List.extract_eq_take_drop,h,jX,List.drop_left];rw[show pre.length+mid.length-pre.length=mid.length by omega,List.take_left]
theorem SQ{q j:ar bf}(h1:dJ rk q)(h2:dJ rk j)(h:∀x∈q,∀y∈j,rk x<=rk y):dJ rk (q++j):=uH.mpr ⟨h1,h2,h⟩
theorem Ss{q j:ar bf}(h:dJ rk (q++j)):dJ rk q/\dJ rk j/\∀x∈q,∀y∈j,rk x<=rk y:=uH.mp h
theorem ae8(hL:iQ M A E s kd P rk){a b:ba bf}(pa:∀x∈a.toList,P x)(pb:∀x∈b.toList,P x)(sa:dJ rk a.toList)(sb:dJ rk b.toList)(ha:0<a.size)(hb:0<b.size)(top:∀x,a.toList[a.size-1]?=aq x->∀y∈b.toList,rk y<=rk x)(bot:∀y,b.toList[0]?=aq y->∀x∈a.toList,rk y<=rk x){c:Prop} [cy c]{st:bq}(N:kindOf st=kd) :
  wpS M A E s (if c then MM a b else MN a b) (λm U=>eV st U/\jO rk a b m) st:=by
 obtain⟨x,g,B,f⟩:=oK (show a.size-1<a.size by omega);obtain⟨y,e,q,d⟩:=oK hb;refine gH (λ_=>ae5 hL ⟨pa,pb,sa,sb,λz j=>?_⟩ ha hb bot N) (λ_=>ae6 hL ⟨pa,pb,sa,sb,λz j=>?_⟩ ha hb top N)
 ·rw[WH B,List.drop_of_length_le (by simp;omega)]at j;simp only[mJ]at j;subst j;exact top z B
 ·rw[Rv q,Mv,zK]at j;simp only[mJ]at j;subst j;exact bot z q
theorem ae7(hL:iQ M A E s kd P rk){st:bq}(S:kindOf st=kd)(hf:dw st=av){i pw q:a9}{pre RA RB post:ar bf}(h:(br st).toList=pre++(RA++(RB++post)))(hP:∀x∈(br st).toList,P x)
  (p1:(cj st)[i]?=aq (pre.length,RA.length,pw)) (p2:(cj st)[i+1]?=aq (pre.length+RA.length,RB.length,q)) (hA:dJ rk RA) (H:dJ rk RB) (a0:0<RA.length) (b0:0<RB.length) {Q:bt->bq->Prop}
  (R:∀u C,kindOf u=kd->dw u=av->cj u=((cj st).setIfInBounds i (pre.length,RA.length+RB.length,pw)).eraseIdxIfInBounds (i+1)->(br u).toList=pre++(C++post)->C.Perm (RA++RB)->dJ rk C->Q a5 u) :
  wpS M A E s (mergeAt' i) Q st:=by
 rw[ap1];refine bM (xN ?_);rw[p1,p2];refine bM (ae3 ?_);generalize hp:((cj st).setIfInBounds i (pre.length,RA.length+RB.length,pw)).eraseIdxIfInBounds (i+1)=pend at R ⊢;have L:∀j,j<RA.length->(br st)[pre.length+j]?=RA[j]?:=λj b=>Wf h b;have h':(br st).toList=(pre++RA)++(RB++post):=by rw[h,jX]
 have K:∀j,j<RB.length->(br st)[pre.length+RA.length+j]?=RB[j]?:=λj b=>by
  have:=Wf h' b;rwa[iR]at this
 have PA:∀x∈RA,P x:=λx d=>hP x (by rw[h];simp[d]);have PB:∀x∈RB,P x:=λx d=>hP x (by rw[h];simp[d]);obtain⟨y,G⟩:∃y,RB[0]?=aq y:=⟨RB[0],pB RB 0 b0⟩;have X:=nA G;refine bM (lG (by rw[<-G];exact K 0 b0) ?_);have BD:kindOf (setPending st pend)=kd:=S;refine bM (ZF hL BD (PB y X) (λj b=>?_) (λj1 j2 x1 x2 Gu b p t=>?_) a0 (λk fI bZ eT=>?_))
 ·exact⟨RA[j],by rw[L j b];exact pB RA j b,PA _ (QD _)⟩
 ·rw[L _ (by omega)]at p t;exact GK hA Gu p t
 simp only[kB,gU]at bZ eT;obtain⟨N,B,rfl,lA1⟩:∃N B,RA=N++B/\N.length=k:=⟨RA.take k,RA.drop k,(xC k RA).symm,by rw[JS];omega⟩;have lA:(N++B).length=N.length+B.length:=iR;obtain⟨To,Tj,akJ⟩:=Ss hA;have Wo:∀x∈N,rk x<=rk y:=λx d=>by
  obtain⟨j,b,e⟩:=BY d;exact bZ j x (by omega) (by rw[L j (by omega),iS b,pB N j b,e])
 have aqC:∀x∈B,rk y<=rk x:=λx d=>by
  obtain⟨j,b,e⟩:=BY d;have:=eT (k+j) x (by omega) (by omega) (by rw[L _ (by omega),qV (by omega),show k+j-N.length=j by omega,pB B j b,e]);omega
 have Wn:∀x∈RB,rk y<=rk x:=λx d=>GL H G x (by simpa using d);refine gH (λhe=>?_) (λhe=>?_)
 ·have he:(N++B).length-k=0:=by simpa using he
  have eA2:B=[]:=xE (by omega);subst eA2;rw[tG]at *;exact dC (R _ (N++RB) S hf rfl (by rw[jX];exact h) (FJ _) (SQ To H λx d z U=>by have:=Wo x d;have:=Wn z U;omega))
 have he:¬(N++B).length-k=0:=by simpa using he
 obtain⟨x,d⟩:∃x,B[B.length-1]?=aq x:=⟨B[B.length-1],pB B _ (by omega)⟩;have hxA:=nA d;have ex:(br st)[pre.length+k+((N++B).length-k)-1]?=aq x:=by
  rw[show pre.length+k+((N++B).length-k)-1=pre.length+((N++B).length-1)by omega,L _ (by omega),qV (by omega),show(N++B).length-1-N.length=B.length-1 by omega];exact d
 refine bM (lG ex ?_);refine bM (ZF hL BD (PA x (nP _ hxA)) (λj b=>?_) (λj1 j2 x1 x2 Gu b p t=>?_) (by omega) (λn mD Yt Zi=>?_))
 ·exact⟨RB[j],by rw[K j b];exact pB RB j b,PB _ (QD _)⟩
 ·rw[K _ (by omega)]at p t;exact GK H Gu p t
 simp only[gT]at Yt Zi;obtain⟨f,l,rfl,lB1⟩:∃f l,RB=f++l/\f.length=n:=⟨RB.take n,RB.drop n,(xC n RB).symm,by rw[JS];omega⟩;have lB:(f++l).length=f.length+l.length:=iR;obtain⟨W,V,akH⟩:=Ss H;have DS:∀z∈f,rk z<=rk x:=λz U=>by
  obtain⟨j,b,e⟩:=BY U;have:=Yt j z (by omega) (by rw[K j (by omega),iS b,pB f j b,e]);omega
 have tX:∀z∈l,rk x<=rk z:=λz U=>by
  obtain⟨j,b,e⟩:=BY U;exact Zi (n+j) z (by omega) (by omega) (by rw[K _ (by omega),qV (by omega),show n+j-f.length=j by omega,pB l j b,e])
 have Rk:∀z∈B,rk z<=rk x:=λz U=>by
  obtain⟨j,b,e⟩:=BY U;exact GK Tj (show j<=B.length-1 by omega) (by rw[pB B j b,e]) d
 have Pc:∀z∈N,∀v∈f++l,rk z<=rk v:=λz U v hv=>by have:=Wo z U;have:=Wn v hv;omega
 refine gH (λF=>?_) (λF=>?_)
 ·have F:n=0:=by simpa using F
  have eB1:f=[]:=xE (by omega);subst eB1;rw[zK]at *;refine dC (R _ (N++B++l) S hf rfl (by rw[h,jX (N++B)]) (FJ _) (SQ hA H λz U v hv=>?_))
  rcases lP.mp U with r|r
  ·exact Pc z r v hv
  ·have:=Rk z r;have:=tX v hv;omega
 have F:¬n=0:=by simpa using F
 have D:((br st).extract (pre.length+k) (pre.length+(N++B).length)).toList=B:=Wg (pre:=pre++N) (post:=f++l++post) (by rw[h];simp only[jX]) (by simp only[iR];omega) (by simp only[iR];omega);have w:((br st).extract (pre.length+(N++B).length) (pre.length+(N++B).length+n)).toList=f:=Wg (pre:=pre++(N++B)) (post:=l++post) (by rw[h];simp only[jX]) (by simp only[iR]) (by simp only[iR];omega);have T:((br st).extract (pre.length+k) (pre.length+(N++B).length)).size=B.length:=by rw[<-gG,D]
 have szb:((br st).extract (pre.length+(N++B).length) (pre.length+(N++B).length+n)).size=f.length:=by rw[<-gG,w]
 have both:∀(c:Prop) [cy c],wpS M A E s (if c then MM ((br st).extract (pre.length+k) (pre.length+(N++B).length)) ((br st).extract (pre.length+(N++B).length) (pre.length+(N++B).length+n))else MN ((br st).extract (pre.length+k) (pre.length+(N++B).length)) ((br st).extract (pre.length+(N++B).length) (pre.length+(N++B).length+n))) (λm u=>eV (setPending st pend) u/\jO rk ((br st).extract (pre.length+k) (pre.length+(N++B).length)) ((br st).extract (pre.length+(N++B).length) (pre.length+(N++B).length+n)) m) (setPending st pend):=λc _=>by
  refine ae8 hL (by rw[D];exact λz U=>PA z (nP _ U)) (by rw[w];exact λz U=>PB z (qU _ U)) (by rw[D];exact Tj) (by rw[w];exact W) (by omega) (by omega) (λz U=>?_) (λz U=>?_) BD
  ·rw[D,T,d]at U;cases U;rw[w];exact DS
  ·rw[w]at U;rw[iS (by omega)]at G;rw[G]at U;cases U;rw[D];exact aqC
 have bT:=both True;have bF:=both cq;rw[bb trivial]at bT;rw[bc id]at bF;refine gH (λ_=>bM (oM bT λm o gm=>?_)) (λ_=>bM (oM bF λm o gm=>?_))
 all_goals
  obtain⟨g,I,gs⟩:=gm;rw[D,w]at I;refine bM (FV (bM (xN (dC ?_))));have p:dw o=av:=g.failed.trans hf;have ef:(dw (setArr o (m.toList.zipIdx.foldl (λa (x,j)=>a.setIfInBounds (pre.length+k+j) x) (br o)))).isNone=a5:=by
   show(dw o).isNone=a5;rw[p];rfl
  have fin:Q a5 (setArr o (m.toList.zipIdx.foldl (λa (x,j)=>a.setIfInBounds (pre.length+k+j) x) (br o))):=by
   refine R _ (N++m.toList++l) (g.kind.trans S) p g.pend ?_ ?_ ?_
   ·show(m.toList.zipIdx.foldl (λa (x,j)=>a.setIfInBounds (pre.length+k+j) x) (br o)).toList=_;rw[show br o=br st from g.arr];rw[aA3 (pre:=pre++N) (mid:=B++f) (post:=l++post) (by rw[h];simp only[jX]) (by rw[iR];omega) I.length_eq];simp only[jX]
   ·have t:N++B++(f++l)=N++(B++f)++l:=by simp only[jX]
    rw[t];exact(JY N I).append_right l
   ·refine SQ (SQ To gs λz U v hv=>?_) V λz U v hv=>?_
    ·rcases lP.mp (I.mem_iff.mp hv)with r|r
     ·exact akJ z U v r
     ·exact Pc z U v (qU _ r)
    ·rcases lP.mp U with r|r
     ·exact Pc z r v (nP _ hv)
     ·rcases lP.mp (I.mem_iff.mp r)with r|r
      ·have:=Rk z r;have:=tX v hv;omega
      ·exact akH z r v hv
  rw[<-ef]at fin;exact fin
end
noncomputable def starts:a9->ar (ar bf)->ar (a9×a9)
 |_,[]=>[]
 |o,R::Rs=>(o,R.length)::starts (o+R.length) Rs
theorem SO:∀(o:a9) (j R2:ar (ar bf)),starts o (j++R2)=starts o j++starts (o+j.flatten.length) R2
 |o,[],R2=>by simp[starts]
 |o,R::j,R2=>by
  rw[List.cons_append,starts,starts,SO,aeE,iR,List.cons_append,XZ]
theorem LR:∀(o:a9) (Rs:ar (ar bf)),(starts o Rs).length=Rs.length
 |_,[]=>rfl
 |o,R::Rs=>by rw[starts,fT,fT,LR]
noncomputable abbrev sl(p:a9×a9×a9):a9×a9:=(p.1,p.2.1)
def uN(rk:bf->a8)(pend:ba (a9×a9×a9))(l af:ar bf):Prop :=
 ∃Rs:ar (ar bf),l=Rs.flatten++af/\pend.toList.map sl=starts 0 Rs/\∀R∈Rs,0<R.length/\dJ rk R
section
variable{rk:bf->a8}{pend:ba (a9×a9×a9)}{l af:ar bf}
theorem uN.push{R:ar bf}(h:uN rk pend l (R++af))(h0:0<R.length)(z:dJ rk R){lo q:a9}(j:lo+R.length+af.length=l.length):uN rk (pend.push (lo,R.length,q)) l af:=by
 obtain⟨Rs,e,m,hR⟩:=h;refine⟨Rs++[R],by rw[e];simp,?_,λS hS=>?_⟩
 ·rw[FU,xD,m,SO];have:lo=0+Rs.flatten.length:=by
   rw[e]at j;simp only[iR]at j;omega
  rw[this];rfl
 ·rcases lP.mp hS with q|q
  ·exact hR S q
  ·simp only[mJ]at q;subst q;exact⟨h0,z⟩
theorem uN.last{pw i:a9}(h:uN rk pend l af):uN rk (pend.modify i λx=>match x with|(st,len,_)=>(st,len,pw)) l af:=by
 obtain⟨Rs,e,m,hR⟩:=h;refine⟨Rs,e,?_,hR⟩;rw[<-m];refine FI λj=>?_;rw[jN,jN,nB,nB,Array.getElem?_modify];split
 ·cases pend[j]? <;> rfl
 ·rfl
theorem uN.size(h:uN rk pend l af):pend.size+af.length<=l.length:=by
 obtain⟨Rs,rfl,m,hR⟩:=h;have e:pend.size=Rs.length:=by
  have:=c3 List.length m;rwa[lQ,gG,LR]at this
 rw[iR,e];have:∀Rs:ar (ar bf),(∀R∈Rs,0<R.length/\dJ rk R)->Rs.length<=Rs.flatten.length:=by
  intro Rs
  induction Rs with
  |nil=>intro _;simp
  |cons R Rs ih =>
   intro h;have h1:=ih λS hS=>h S (fS _ hS);have h2:=(h R (by simp)).1;rw[fT,aeE,iR];omega
 have:=this Rs hR;omega
theorem uN.done(h:uN rk pend l [])(h1:pend.size<=1):dJ rk l:=by
 obtain⟨Rs,rfl,m,hR⟩:=h;have e:pend.size=Rs.length:=by
  have:=c3 List.length m;rwa[lQ,gG,LR]at this
 rw[tG]
 match Rs,hR with
 |[],_=>simp
 |[R],hR=>simpa using(hR R (by simp)).2
 |_::_::_,_=>simp only[fT]at e;omega
theorem Rf{β:Type}{l:ar β}{i:a9}(h:i+1<l.length):∃j x y q,l=j++x::y::q/\j.length=i :=
 ⟨l.take i,l[i],l[i+1],l.drop (i+2),by rw[<-vV,<-vV,xC],by rw[JS];omega⟩
variable{M:Model}{A:bx}{E:au->ay->Prop}{s:ay}{kd:du}{P:bf->Prop}
structure Go(rk:bf->a8)(kd:du)(x0:ba bf)(af:ar bf)(st:bq):Prop where
 kind:kindOf st=kd
 failed:dw st=av
 perm:(br st).Perm x0
 WL:uN rk (cj st) (br st).toList af
theorem Pm(hL:iQ M A E s kd P rk){x0:ba bf}(W:∀x∈x0.toList,P x){st:bq}(h:Go rk kd x0 af st){i:a9}(hi:i+1<(cj st).size){Q:bt->bq->Prop}
  (S:∀j,Go rk kd x0 af j->(cj j).size+1=(cj st).size->Q a5 j):wpS M A E s (mergeAt' i) Q st:=by
 obtain⟨T,V,f,Rs,e,m,hR⟩:=h;have el:(cj st).size=Rs.length:=by
  have:=c3 List.length m;rwa[lQ,gG,LR]at this
 obtain⟨B,RA,RB,R2,rfl,l1⟩:=Rf (show i+1<Rs.length by omega);obtain⟨N,x,y,t,q,H⟩:=Rf (show i+1<(cj st).toList.length by rw[gG];omega);rw[q,xD,SO,zG]at m;have G:=List.append_inj m (by rw[lQ,LR];omega);obtain⟨F,d⟩:=G;simp only[cP,starts,qW]at d;obtain⟨c,b,D⟩:=d;obtain⟨x1,x2,a⟩:=x;obtain⟨y1,y2,p⟩:=y;simp only[PY]at c b;obtain⟨rfl,rfl⟩:=c;obtain⟨rfl,rfl⟩:=b;have v:(cj st)[i]?=aq (B.flatten.length,RA.length,a):=by
  rw[<-nB,q,qV (by omega),show i-N.length=0 by omega];rfl
 have u:(cj st)[i+1]?=aq (B.flatten.length+RA.length,RB.length,p):=by
  rw[<-nB,q,qV (by omega),show i+1-N.length=1 by omega];rfl
 have k:=hR RA (by simp);have g:=hR RB (by simp);refine ae7 hL T V (pre:=B.flatten) (RA:=RA) (RB:=RB) (post:=R2.flatten++af) (by rw[e];simp) (λz L=>W z ((ZD.mp f).mem_iff.mp L)) v u k.2 g.2 k.1 g.1 λj C K X w n l c2=>?_;have I:C.length=RA.length+RB.length:=by rw[l.length_eq,iR]
 have o:(cj j).toList=N++(B.flatten.length,RA.length+RB.length,a)::t:=by
  rw[w,Array.toList_eraseIdxIfInBounds,Array.toList_setIfInBounds,q,<-H];simp[List.eraseIdx_append_of_length_le]
 refine S j ⟨K,X,?_,B++C::R2,?_,?_,λR U=>?_⟩ ?_
 ·refine Array.Perm.trans ?_ f;rw[ZD,n,e];simp only[List.flatten_append,aeE,jX];refine JY _ ?_;rw[<-jX RA RB];exact l.append_right _
 ·rw[n];simp
 ·rw[o,xD,SO,F,cP,D,starts,I,zG,XZ]
 ·rcases lP.mp U with r|r
  ·exact hR R (qU _ r)
  ·rcases dU.mp r with r|r
   ·subst r;exact⟨by omega,c2⟩
   ·exact hR R (by simp[r])
 ·rw[<-gG,o,<-gG,q];simp;omega
end
section
variable{M:Model}{A:bx}{E:au->ay->Prop}{s:ay}{kd:du}{P:bf->Prop}{rk:bf->a8}
theorem Up.ah6{xs:ba bf}{lo n:a9}(h:Up rk xs lo n)(hn:lo+n<=xs.size):dJ rk ((xs.toList.drop lo).take n):=by
 refine List.pairwise_iff_getElem.mpr λi j hi B N=>?_;rw[JS,Na,gG]at hi B;have q:=h i j (by omega) (by omega);have g:∀k (z:lo+k<xs.size),Kr rk xs (lo+k)=rk xs[lo+k]:=λk z=>by unfold Kr;rw[getElem?_pos xs (lo+k) z]
 rw[g i (by omega),g j (by omega)]at q;rw[List.getElem_take,List.getElem_take,Nb,Nb];exact q
theorem Go.made{x0:ba bf}{af:ar bf}{st j:bq}(h:Go rk kd x0 af st){lo n:a9}(a:lo+af.length=(br st).size)(q:Bs kd (br st) lo (cj st) j)(hn:lo+n<=(br st).size)(B:Up rk (br j) lo n) :
  ∃R z,Go rk kd x0 (R++z) j/\R.length=n/\dJ rk R/\lo+n+z.length=(br st).size:=by
 obtain⟨b,hf,N,Rs,e,m,hR⟩:=h;have sz:=q.size;have lf:Rs.flatten.length=lo:=by
  have:=c3 List.length e;rw[gG,iR]at this;omega
 have U:(br j).toList.take lo=Rs.flatten:=by
  refine FI λi=>?_
  by_cases hi:i<lo
  ·rw[aeB hi,nB,q.pre i hi,<-nB,e,iS (by omega)]
  ·rw[JV (by rw[JS];omega),JV (by omega)]
 refine⟨((br j).toList.drop lo).take n,((br j).toList.drop lo).drop n,⟨q.kind,q.failed,q.perm.trans N,Rs,?_,by rw[q.pend];exact m,hR⟩,?_,B.ah6 (by omega),?_⟩
 ·rw[xC,<-U,xC]
 ·rw[JS,Na,gG];omega
 ·rw[Na,Na,gG];omega
theorem Go.Te{x0:ba bf}{af j:ar bf}{st:bq}(h:Go rk kd x0 af st){p:ba (a9×a9×a9)}(q:uN rk p (br st).toList j):Go rk kd x0 j (setPending st p):=⟨h.kind,h.failed,h.perm,q⟩
theorem Go.bs{x0:ba bf}{af:ar bf}{st:bq}(h:Go rk kd x0 af st)(lo:a9):Bs kd (br st) lo (cj st) st:=⟨h.kind,h.failed,rfl,.refl _,λ_ _=>rfl⟩
theorem ae2(hL:iQ M A E s kd P rk){x0:ba bf}(D:∀x∈x0.toList,P x){st:bq}(hk:kindOf st=kd)(hf:dw st=av)(ha:br st=x0)(hp:cj st=#[]){Q:Unit->bq->Prop}
  (h:∀z,(br z).Perm x0->dw z=av->dJ rk (br z).toList->Q () z):wpS M A E s sortRuns' Q st:=by
 have g0:Go rk kd x0 x0.toList st:=⟨hk,hf,by rw[ha],[],by rw[ha];rfl,by rw[hp];rfl,by simp⟩;rw[sortRuns'_eq];refine bM (xN ?_);dsimp only;rw[ha];generalize minRun' x0.size x0.size 0=m;refine bM (oM (pY
  (I:=λi c z=>∃lo af,c=(av,lo)/\i<=lo/\lo+af.length=x0.size/\Go rk kd x0 af z)
  (Q:=λc z=>c.1=av/\Go rk kd x0 [] z) ?step ?fin ⟨0,x0.toList,rfl,qS _,by simp,g0⟩) ?post)
 case fin =>
  rintro c z ⟨lo,af,rfl,h1,h2,g⟩;have:af=[]:=xE (by omega);subst this;exact⟨rfl,g⟩
 case step =>
  rintro i c z _ hi ⟨lo,af,rfl,h1,h2,g⟩;have w:(br z).size=x0.size:=g.perm.size_eq;refine gH (λl=>?_) (λl=>?_)
  ·have l:lo>=x0.size:=l;have:af=[]:=xE (by omega);subst this;exact dC ⟨rfl,g⟩
  have l:¬lo>=x0.size:=l;have BI:∀x∈(br z).toList,P x:=λx hx=>D x ((ZD.mp g.perm).mem_iff.mp hx);refine bM (ae4 hL BI (lo:=lo) (nrem:=x0.size-lo) (by omega) (by omega) (g.bs lo) λn o X Gm tV V=>?_);refine gH (λH=>?a) (λH=>?b)
  case' a =>
   have H:n<m:=H;refine bM (wpS_lift (vX ⟨rfl,?_⟩));refine bM (afI hL BI (lo:=lo) (n:=min (x0.size-lo) m) (by omega) (by omega) X V λB F Yc=>?_);refine gH (λq=>b8 q (by decide)) (λ_=>?_);have C:1<=min (x0.size-lo) m:=by omega
   have y:min (x0.size-lo) m<=x0.size-lo:=by omega
   dsimp only;generalize min (x0.size-lo) m=n2 at C y Yc ⊢;obtain⟨R,U,N,v,S,kY⟩:=g.made (by omega) F (by omega) Yc
  case' b =>
   dsimp only;obtain⟨R,U,N,v,S,kY⟩:=g.made (by omega) X (by omega) V
  all_goals
   refine bM (xN ?_);generalize u:R.length=rl at v;subst v;have fin:∀B,Go rk kd x0 (R++U) B->Go rk kd x0 U (setPending B ((cj B).push (lo,rl,0))):=λB d=>d.Te (by
    rw[<-u];exact d.WL.push (by omega) S (by have:=d.perm.size_eq;have e:=gG (xs:=br B);omega))
   have last:∀B,Go rk kd x0 (R++U) B->∃K LX,((av,lo+rl):ax Unit×a9)=(av,K)/\i+1<=K/\K+LX.length=x0.size/\Go rk kd x0 LX (setPending B ((cj B).push (lo,rl,0))):=λB d=>⟨lo+rl,U,rfl,by omega,by omega,fin B d⟩
   split
   ·rename_i T p q1 _;generalize power' x0.size (2*T+p) (2*T+p+p+rl) x0.size=pw;refine bM (oM (pY (I:=λ_ c z=>c=(av,())/\Go rk kd x0 (R++U) z) (Q:=λc z=>c=(av,())/\Go rk kd x0 (R++U) z) ?istep (λ_ _ hh=>hh) ⟨rfl,N⟩) ?ipost)
    case istep =>
     rintro j c L _ _ ⟨rfl,f⟩;refine bM (xN ?_)
     by_cases W:(cj L).size>1
     ·rw[bb W,pB _ _ (by omega)];refine gH (λ_=>dC ⟨rfl,f⟩) (λ_=>?_);refine bM (Pm hL D f (by omega) λCQ G _=>?_);exact gH (λq=>b8 q (by decide)) (λ_=>dC ⟨rfl,G⟩)
     ·rw[bc W];exact dC ⟨rfl,f⟩
    case ipost =>
     rintro c L ⟨rfl,f⟩;have G:=f.Te (f.WL.last (pw:=pw) (i:=(cj L).size-1));refine bM (FV (bM (FV (dC ?_))));exact last _ G
   ·exact bM (FV (dC (last _ N)))
 case post =>
  rintro⟨r,lo⟩ z ⟨e,g⟩;dsimp only at e;subst e;have w:(br z).size=x0.size:=g.perm.size_eq;have hc:=g.WL.size;have e:=gG (xs:=br z);rw[BX]at hc;refine bM (oM (pY (I:=λt c k=>c=(av,())/\Go rk kd x0 [] k/\(cj k).size+t<=x0.size+1) (Q:=λc k=>c=(av,())/\Go rk kd x0 [] k/\(cj k).size<=1) ?s2 ?f2 ⟨rfl,g,by omega⟩) ?p2)
  case f2 =>
   rintro c o ⟨e,N,h2⟩;exact⟨e,N,by omega⟩
  case p2 =>
   rintro c o ⟨rfl,N,h2⟩;exact dC (h o N.perm N.failed (N.WL.done h2))
  case s2 =>
   rintro t c o _ _ ⟨rfl,N,h2⟩;refine bM (xN (gH (λh1=>dC ⟨rfl,N,h1⟩) (λh1=>?_)));refine bM (Pm hL D N ?_ λB d h3=>?_)
   ·generalize Option.any _ _=cc;cases cc <;> simp only[kB,gT,gU] <;> omega
   ·exact gH (λq=>b8 q (by decide)) (λ_=>dC ⟨rfl,d,by omega⟩)
end
section
variable{prog:bp}{w:bz}{A:bx}{E:au->ay->Prop}{s:ay}
theorem aqA:iQ (bw prog w) A E s oneType' (λp=>∃n t,p.1=.int n t) (λp=>numOf p.1):=by
 rintro⟨x,N⟩ ⟨y,B⟩ ⟨n,t,q⟩ ⟨m,u,j⟩ st Q z h;dsimp only at q j;subst q j;rw[lt'_eq];refine bM (xN ?_);rw[z,keyLt'_oneType];refine bM (wpS_lift (FZ (oneLt_int ⟨rfl,?_⟩)));exact dC h
theorem ah5{xs:ba bf}{n:a9}(h:dJ (λp=>numOf p.1) xs.toList)(hn:n<=xs.size):SortedTo xs n:=λi j z q=>by
 rw[K_eq (show i<xs.size by omega),K_eq (show j<xs.size by omega)]
 by_cases e:i=j
 ·subst e;exact mK _
 ·have:=List.pairwise_iff_getElem.mp h i j (by rw[gG];omega) (by rw[gG];omega) (by omega);simpa using this
theorem Wy{a:az}{vs:ar au}{ns:ar a8}{n:a9}{P:PySem.Fin->ay->Prop}(b:s.heap.get? a=aq (c9 "list" vs.toArray n))
  (g:c7 vs ns) (hl:vs.length<=bg)
  (h:∀(ab:ba au) (N:ar a8),c7 ab.toList N->N.Perm ns->N.Pairwise (· <= ·)->P (.done (.ret .none)) {s with heap:=eu s.heap a vs ab}) :
  wpAny (bw prog w) A (Builtin.«list.sort» ⟨[.ref a],[]⟩) P E s:=by
 rw[list_sort_plain];have ha:a<s.heap.objs.size:=eG b;refine aM (listItems_at b rfl ?_);refine aM (listUpdate_at b rfl ?_ (by rw[lE];exact hl) AQ);obtain⟨k,l⟩:∃k,(s.heap.update a (Obj.mapSeq λ_=>#[])).get? a=aq (c9 "list" #[] k):=⟨_,VR b (λ_=>#[])⟩;refine aM (seqEpoch_at l rfl ?_);refine aM (wpAny_newTuple ?_ (by show vs.length<=_;exact hl));refine aM (wpAny_newList ?_ AQ);refine xO ?_;have c:(((s.heap.update a (Obj.mapSeq λ_=>#[])).push (c9 "tuple" vs.toArray 0)).push (c9 "list" #[] 0)).get? a=aq (c9 "list" #[] k):=by
  rw[Heap.get?_push_ne _ _ _ (by rw[size_push',Heap.size_update];exact gF (XY ha)),Heap.get?_push_ne _ _ _ (by rw[Heap.size_update];exact gF ha)];exact l
 show wpAny (bw prog w) A _ P E {s with heap:=((s.heap.update a (Obj.mapSeq λ_=>#[])).push (c9 "tuple" vs.toArray 0)).push (c9 "list" #[] 0)};dsimp only;have d:vs.toArray.size=vs.length:=by simp
 have fin:∀B:bq,(br B).Perm (pairsOf vs)->SortedTo (br B) (pairsOf vs).size ->
   P (.done (.ret .none)) {s with heap:=eu s.heap a vs ((br B).map (·.2))}:=by
  intro B U f;obtain⟨N,h1,h2,r⟩:=sorted_out g U f;exact h _ N h1 h2 r
 by_cases h2:vs.toArray.size<2
 ·rw[bb h2,bb h2];refine aM (bL ?_);rw[StateT.run_pure];refine aM (bL ?_);dsimp only;refine aM (seqEpoch_at c rfl ?_);refine aM (listUpdate_at c rfl ?_ AQ (by rw[Array.size_map];show(pairsOf vs).size<=_;rw[pairsOf_size];omega));simp only[bne_self_eq_false,kB,gU];refine bL (fin (SortSt.mk' general' (vs.toArray.zip vs.toArray) #[] 7 av) (Array.Perm.refl _) ?_);intro i j v o;have:i=j:=by rw[pairsOf_size]at o;omega
  subst this;exact mK _
 ·rw[bc h2,bc h2];obtain⟨z,q,af,rfl⟩:∃z q af,vs=z::q::af:=by
   match vs,d,h2 with
   |[],_,h2=>simp at h2
   |[_],_,h2=>simp at h2
   |z::q::af,_,_=>exact⟨z,q,af,rfl⟩
  rw[keyKind_ints g];refine aM (bL ?_);refine aM (pZ (ae2 aqA (x0:=pairsOf (z::q::af)) (st:=SortSt.mk' oneType' ((z::q::af).toArray.zip (z::q::af).toArray) #[] 7 av)
   (Q:=λ_ B=>(br B).Perm (pairsOf (z::q::af))/\dw B=av/\SortedTo (br B) (pairsOf (z::q::af)).size)
   g.intKeys rfl rfl rfl rfl λB m u t=>⟨m,u,ah5 t (by rw[m.size_eq];exact qS _)⟩) ?_ λ_ _ e=>e)
  rintro⟨⟨⟩,B⟩ s' ⟨rfl,U,p,f⟩;dsimp only;refine aM (seqEpoch_at c rfl ?_);refine aM (listUpdate_at c rfl ?_ AQ (by refine rX (Nat.le_of_eq ((Array.size_map ..).trans (U.size_eq.trans (pairsOf_size _)))) ?_;omega));rw[p];simp only[bne_self_eq_false,kB,gU];exact bL (fin B U f)
end
end PyProof.Rows
namespace L2
open PySem PySem.Spec PyProof.Rows
section
variable{X:Cx}
theorem aAH(hc:X.calm=a5):tK X (.builtin "sorted") (λxs H Q=>∃d kvs B,xs=[.ref d]/\H d=aq (.dK kvs)/\kvs.map (·.1)=B.map Sum.inl/\B.length<4000 /\
  ∀(ms:ar a8) (l:az),ms.Perm B->ms.Pairwise (· <= ·)->H l=av->Q (.ref l) (upd H l (.lst (ms.map V.int)))):=by
 intro aa s J H xs N Q I r h;obtain⟨d,kvs,B,rfl,hd,D,Hz,q⟩:=h;obtain⟨u,rfl,P⟩:=vals1 r;cases P;obtain⟨z,lo,o,rel,dd⟩:=IJ I.aJ hd;obtain⟨ep,M⟩:=dd.dictAt;have y:o.length=B.length:=by
  rw[<-rel.length,<-lQ (f:=(·.1)),D,lQ]
 have S:(4000:a9)<=bg:=by decide
 refine Calls.call_function_entry kind_sorted plain_sorted entry_sorted (args_sorted1 _) ?_;unfold Builtin.«sorted»;refine aM (m:=checkCount "sorted" 1 1 _) (bL ?_);refine aM (PySem.W.kdu_collect (A:=X.A.in1) (PySem.W.kdl_dict (knd:=kF X.prog X.w) (kvs:=o) (ep:=ep) lo) (I.ok.hd hc) M (by omega) λh' tk ae NN C=>?_);have hl:ae.toList.length=B.length:=by rw[gG,C.1,y]
 have hI:c7 ae.toList B:=by
  refine intsAre_of (ns:=B) ?_;have key:∀(js:ar a8) (N:ar au),N.length=js.length->(∀(i:a9) (v:au),N[i]?=aq v->∃(j:a8) (t:Tok),js[i]?=aq j/\v=Value.int j t)->Vals (js.map V.int) N:=by
   intro js
   induction js with
   |nil=>intro N hl _;cases N with
    |nil=>exact .nil
    |cons _ _=>simp at hl
   |cons j js ih =>
    intro N hl hv;cases N with
    |nil=>simp at hl
    |cons v N =>
     obtain⟨j',t,a,U⟩:=hv 0 v rfl;cases a;exact .cons ⟨t,U⟩ (ih N (by simpa using hl) λi w hw=>hv (i+1) w (by simpa using hw))
  refine key B ae.toList hl λi v hv=>?_;obtain⟨k,x,a,U⟩:=C.2 i v (by rw[<-nB];exact hv);have c:(o.map (·.1))[i]?=aq k:=by rw[jN,a];rfl
  rw[<-rel.keys,D,jN]at c;cases E:B[i]? with
  |none=>rw[E]at c;cases c
  |some j =>
   rw[E]at c;have e5:(Sum.inl j:Key)=k:=kJ c;subst e5
   rcases vE (k:=Sum.inl j) (v:=v) U with⟨i',t,p,R⟩|⟨_,_,p,_⟩
   ·cases p;exact⟨j,t,rfl,R⟩
   ·cases p
 refine aM (wpAny_newList ?_ (by rw[hl];omega));have n:(h'.push (c9 "list" ae.toList.toArray 0)).get? h'.objs.size=aq (c9 "list" ae.toList.toArray 0):=gO _ rfl;refine aM (xO (vZ slot_list_sort ⟨_,n,rfl⟩ entry_list_sort (Wy n hI (by omega) λab g a1 F a3=>⟨_,rfl,?_⟩) (args_list_sort _)));refine bL ⟨_,rfl,?_⟩;have G:Inv X aa J H {s with heap:=h',toks:=tk}:=I.kept NN;have T:H h'.objs.size=av:=G.aJ.fresh cX;obtain⟨a,K⟩:∃a,((h'.push (c9 "list" ae.toList.toArray 0)).update h'.objs.size (Obj.mapSeq λ_=>#[])).get? h'.objs.size=aq (c9 "list" #[] a):=⟨_,VR n (λ_=>#[])⟩;have L:=eI (c9 "list" #[] 0) (eI (c9 "tuple" ae.toList.toArray 0) K);obtain⟨U,Gi⟩:∃U,(eu (h'.push (c9 "list" ae.toList.toArray 0)) h'.objs.size ae.toList ab).get? h'.objs.size=aq (c9 "list" ab U):=⟨_,VR L (λ_=>ab)⟩;have kp:∀b u,h'.get? b=aq u->(eu (h'.push (c9 "list" ae.toList.toArray 0)) h'.objs.size ae.toList ab).get? b=aq u:=λb u e=>by
  have hb:b≠h'.objs.size:=gF (eG e);unfold eu;exact(tH _ _ (dM hb)).trans (eI _ (eI _ ((tH _ _ (dM hb)).trans (eI _ e))))
 have hv:Vals (g.map V.int) ab.toList:=RV a1;have Yw:g.length=B.length:=F.length_eq;refine⟨.ref h'.objs.size,upd H h'.objs.size (.lst (g.map V.int)),G.laid (t':=tk) kp cX ?_,rfl,q g _ F a3 T⟩;exact⟨by rw[lQ];omega,ab.toList,U,hv,Gi⟩
end
end L2
namespace V2
open PySem PySem.Spec PyProof.Rows L2
inductive A where
 |int (i:a8)|bl (b:bt)|str (x:bh)|cZ|ty (n:dk)|adr (p:az)|WD (p d:az) (f:bh) (i:a8)|gl (x:bh)|kL (ns:ar a8)
 |tup (ds:ar A)|lst (ds:ar A)|aH (k:a9)
inductive Fd where
 |val (a:A)|lst (ds:ar A)|bB (kvs:ar (Key×A))
@[simp] noncomputable def Fd.own:Fd->bt
 |.val _=>aw
 |_=>a5
inductive Cell where
 |lst (ds:ar A)|bB (kvs:ar (Key×A))|ins (cls:bh) (fs:ar (bh×Fd))|tab (x:bh) (pos:dj) (qual:bh)|dead
@[simp] def Cell.noOwn:Cell->bt
 |.ins _ fs=>fs.all λp=>!p.2.own
 |_=>a5
structure Exc where
 cls:bh
 fs:ar (bh×A)
inductive Rs(α:Type)where
 |ok (a:α)|exc (x:Exc)
abbrev aG:=ar Cell
abbrev Ev:=ar (ax A)
abbrev Mo(α:Type):=aG->ax (Rs α×aG)
@[simp] noncomputable def ret{α:Type}(a:α):Mo α:=λZ=>aq (.ok a,Z)
@[simp] noncomputable def mb{α β:Type}(m:Mo α)(k:α->Mo β):Mo β:=λZ =>
 match m Z with
 |some (.ok a,Z1)=>k a Z1
 |some (.exc x,Z1)=>aq (.exc x,Z1)
 |none=>av
@[simp] noncomputable def stuck{α:Type}:Mo α:=λ_=>av
@[simp] noncomputable def need{α:Type}(o:ax α):Mo α:=λZ=>o.map λa=>(.ok a,Z)
@[simp] noncomputable def pU(p:Prop) [cy p]:Mo Unit:=λZ=>if p then aq (.ok (),Z)else av
mutual
def Den(K:bu)(G:Hp)(O:ar az):V->A->Prop
 |v,.int j=>v=.int j
 |v,.bl b=>v=.bl b
 |v,.str x=>v=.str x
 |v,.cZ=>v=.cZ
 |v,.ty n=>v=.ty n
 |v,.adr p=>v=.ref p
 |v,.WD p d f i=>v=.ref p/\G d=aq (.xd [(f,.int i)])
 |v,.gl x=>∃C,nsIn K bo x=aq (aq (.ref C))/\v=.ref C
 |v,.kL ns=>∃a,v=.ref a/\fW K G a (ns.map V.int)
 |v,.tup ds=>∃a xs,v=.ref a/\G a=aq (.tup xs)/\bE K G O xs ds
 |v,.lst ds=>∃a xs,v=.ref a/\G a=aq (.lst xs)/\bE K G O xs ds
 |v,.aH k=>∃a,v=.ref a/\O[k]?=aq a
def bE(K:bu)(G:Hp)(O:ar az):ar V->ar A->Prop
 |xs,[]=>xs=[]
 |xs,d::ds=>∃x r,xs=x::r/\Den K G O x d/\bE K G O r ds
end
structure Ext(G:Hp)(O:ar az)(G':Hp)(O':ar az):Prop where
 same:pC G G'
 pre:∀(k:a9) (a:az),O[k]?=aq a->O'[k]?=aq a
theorem Ext.refl(G:Hp)(O:ar az):Ext G O G O:=⟨pC.refl _,λ_ _ h=>h⟩
theorem Ext.trans{G B z:Hp}{O q j:ar az}(a:Ext G O B q)(b:Ext B q z j):Ext G O z j:=⟨a.same.trans b.same,λk x h=>b.pre k x (a.pre k x h)⟩
section
variable{K:bu}{G G':Hp}{O O':ar az}
mutual
theorem Den.ext(e:Ext G O G' O'):∀{v:V} {d:A},Den K G O v d->Den K G' O' v d
 |_,.int _,h=>by simpa only[Den]using h
 |_,.bl _,h=>by simpa only[Den]using h
 |_,.str _,h=>by simpa only[Den]using h
 |_,.cZ,h=>by simpa only[Den]using h
 |_,.ty _,h=>by simpa only[Den]using h
 |_,.adr _,h=>by simpa only[Den]using h
 |_,.WD _ _ _ _,h=>by
  simp only[Den]at h ⊢;exact⟨h.1,e.same _ _ h.2⟩
 |_,.gl _,h=>by simpa only[Den]using h
 |_,.kL _,h=>by
  simp only[Den]at h ⊢;obtain⟨a,h1,h2⟩:=h;exact⟨a,h1,e.same.seq h2⟩
 |_,.tup ds,h=>by
  simp only[Den]at h ⊢;obtain⟨a,xs,h1,h2,j⟩:=h;exact⟨a,xs,h1,e.same _ _ h2,bE.ext e j⟩
 |_,.lst ds,h=>by
  simp only[Den]at h ⊢;obtain⟨a,xs,h1,h2,j⟩:=h;exact⟨a,xs,h1,e.same _ _ h2,bE.ext e j⟩
 |_,.aH k,h=>by
  simp only[Den]at h ⊢;obtain⟨a,h1,h2⟩:=h;exact⟨a,h1,e.pre _ _ h2⟩
theorem bE.ext(e:Ext G O G' O'):∀{xs:ar V} {ds:ar A},bE K G O xs ds->bE K G' O' xs ds
 |_,[],h=>by simpa only[bE]using h
 |_,d::ds,h=>by
  simp only[bE]at h ⊢;obtain⟨x,r,h1,h2,j⟩:=h;exact⟨x,r,h1,Den.ext e h2,bE.ext e j⟩
end
theorem wW{xs:ar V}:bE K G O xs []<->xs=[]:=by simp only[bE]
theorem bE.length:∀{xs:ar V} {ds:ar A},bE K G O xs ds->xs.length=ds.length
 |_,[],h=>by simp only[bE]at h;subst h;rfl
 |_,d::ds,h=>by
  simp only[bE]at h;obtain⟨x,r,rfl,h2,j⟩:=h;simp only[fT,bE.length j]
theorem bE.nil:bE K G O [] []:=by simp only[bE]
theorem bE.cons{x:V}{xs:ar V}{d:A}{ds:ar A}(h:Den K G O x d)(t:bE K G O xs ds):bE K G O (x::xs) (d::ds):=by
 simp only[bE];exact⟨x,xs,rfl,h,t⟩
theorem bE.pJ{xs:ar V}{d:A}{ds:ar A}(h:bE K G O xs (d::ds)):∃x r,xs=x::r/\Den K G O x d/\bE K G O r ds:=by simpa only[bE]using h
theorem bE.get:∀{xs:ar V} {ds:ar A} {i:a9} {d:A},bE K G O xs ds->ds[i]?=aq d->∃x,xs[i]?=aq x/\Den K G O x d
 |_,[],_,_,_,e=>by simp at e
 |_,_::_,0,_,h,e=>by
  obtain⟨x,r,rfl,h2,j⟩:=h.pJ;simp at e;subst e;exact⟨x,rfl,h2⟩
 |_,_::_,i+1,_,h,e=>by
  obtain⟨x,r,rfl,h2,j⟩:=h.pJ;simp at e;obtain⟨y,z,q⟩:=bE.get j e;exact⟨y,by simpa using z,q⟩
theorem bE.append:∀{xs ys:ar V} {ds es:ar A},bE K G O xs ds->bE K G O ys es->bE K G O (xs++ys) (ds++es)
 |_,_,[],_,h,t=>by rw[wW]at h;subst h;exact t
 |_,_,d::ds,_,h,t=>by
  obtain⟨x,r,rfl,h2,j⟩:=h.pJ;exact .cons h2 (bE.append j t)
theorem bE.set{x:V}{d:A}(q:Den K G O x d):∀{xs:ar V} {ds:ar A} (n:a9),bE K G O xs ds->bE K G O (xs.set n x) (ds.set n d)
 |_,[],n,h=>by rw[wW]at h;subst h;exact bE.nil
 |_,e::ds,0,h=>by
  obtain⟨y,r,rfl,h2,j⟩:=h.pJ;exact .cons q j
 |_,e::ds,n+1,h=>by
  obtain⟨y,r,rfl,h2,j⟩:=h.pJ;exact .cons h2 (bE.set q n j)
theorem WJ:∀(ns:ar a8),bE K G O (ns.map V.int) (ns.map A.int)
 |[] => .nil
 |n::ns => .cons (by simp only[Den]) (WJ ns)
end
def aBR(K:bu)(G H:Hp)(a:az)(x:bh)(pos:dj)(qual:bh):Prop :=
 G a=av/\(∃c,tabIn K x=aq (c,a))/\∃ps,H a=aq (.jI ps)/\TriplesOk ps.toList /\
  (codeAmong pos ps.toList=av\/∃c' j vs t,codeAmong pos ps.toList=aq (.ref c')/\G c'=aq (.eU j (.own 0))/\j.data=.fields vs/\vs[1]?=aq (.str qual t))
def kK(K:bu)(G:Hp)(O:ar az)(H:Hp)(v:V):Fd->Prop
 |.val a=>Den K G O v a
 |.lst ds=>∃b xs,v=.ref b/\G b=av/\b∉O/\H b=aq (.lst xs)/\bE K G O xs ds
 |.bB kvs=>∃b,∃j:ar (Key×V),v=.ref b/\G b=av/\b∉O/\H b=aq (.dK j)/\j.map (·.1)=kvs.map (·.1)/\bE K G O (j.map (·.2)) (kvs.map (·.2))
def jZ(K:bu)(G:Hp)(O:ar az)(H:Hp):ar (bh×V)->ar (bh×Fd)->Prop
 |[],[]=>True
 |(f,v)::j,(g,d)::fs=>f=g/\kK K G O H v d/\jZ K G O H j fs
 |_,_=>cq
def tJ(K:bu)(G:Hp)(O:ar az)(H:Hp)(a:az):Cell->Prop
 |.lst ds=>G a=av/\∃xs,H a=aq (.lst xs)/\bE K G O xs ds
 |.bB kvs=>G a=av/\∃j:ar (Key×V),H a=aq (.dK j)/\j.map (·.1)=kvs.map (·.1)/\bE K G O (j.map (·.2)) (kvs.map (·.2))
 |.ins cls fs=>G a=av/\∃C dx,∃j:ar (bh×V),nsIn K bo cls=aq (aq (.ref C))/\H a=aq (.ins C dx j)/\jZ K G O H j fs
 |.tab x pos qual=>aBR K G H a x pos qual
 |.dead=>True
def jW(H:Hp)(O:ar az)(Z:aG)(k i:a9)(b:az):Prop:=∃a cls fs C dx j g h fd,O[k]?=aq a/\Z[k]?=aq (.ins cls fs)/\H a=aq (.ins C dx j)/\fs[i]?=aq (g,fd)/\fd.own=a5/\j[i]?=aq (h,.ref b)
structure Wd(K:bu)(G:Hp)(O:ar az)(Z:aG)(H:Hp):Prop where
 sub:pC G H
 inj:O.Nodup
 len:O.length=Z.length
 live:∀a∈O,∃o,H a=aq o
 aH:∀(k:a9) (c:Cell) (a:az),Z[k]?=aq c->O[k]?=aq a->tJ K G O H a c
 sep:∀(b:az) (k i k' i':a9),jW H O Z k i b->jW H O Z k' i' b->k=k'/\i=i'
section
variable{K:bu}{G G' H H':Hp}{O O':ar az}{Z:aG}{a p:az}
theorem kK.mono{v:V}{fd:Fd}(h:kK K G O H v fd)(e:Ext G O G' O')(c:∀b o,b∉O->G b=av->H b=aq o->b∉O'/\G' b=av/\H' b=aq o):kK K G' O' H' v fd:=by
 cases fd with
 |val a=>exact Den.ext e h
 |lst ds =>
  obtain⟨b,xs,h1,h2,U,N,B⟩:=h;obtain⟨z,q,j⟩:=c b _ U h2 N;exact⟨b,xs,h1,q,z,j,B.ext e⟩
 |bB d =>
  obtain⟨b,ws,h1,h2,U,N,B,f⟩:=h;obtain⟨z,q,j⟩:=c b _ U h2 N;exact⟨b,ws,h1,q,z,j,B,f.ext e⟩
theorem jZ.map{j:bu}{G' H':Hp}{O':ar az}(f:∀v fd,kK K G O H v fd->kK j G' O' H' v fd):∀{ws:ar (bh×V)} {fs:ar (bh×Fd)},jZ K G O H ws fs->jZ j G' O' H' ws fs
 |[],[],_=>trivial
 |(_,_)::_,(_,_)::_,h=>⟨h.1,f _ _ h.2.1,jZ.map f h.2.2⟩
 |[],_::_,h=>h.elim
 |_::_,[],h=>h.elim
theorem tJ.mono{c:Cell}(h:tJ K G O H a c)(e:Ext G O G' O')(j:G' a=G a)(hh:H' a=H a)(l:∀b o,b∉O->G b=av->H b=aq o->b∉O'/\G' b=av/\H' b=aq o):tJ K G' O' H' a c:=by
 cases c with
 |lst ds=>obtain⟨g,xs,h1,h2⟩:=h;exact⟨j.trans g,xs,hh.trans h1,h2.ext e⟩
 |bB k=>obtain⟨g,ws,h1,h2,z⟩:=h;exact⟨j.trans g,ws,hh.trans h1,h2,z.ext e⟩
 |ins cls fs=>obtain⟨g,C,n,ws,h0,h1,h2⟩:=h;exact⟨j.trans g,C,n,ws,h0,hh.trans h1,h2.map λ_ _ q=>q.mono e l⟩
 |tab x pos qual =>
  obtain⟨g,m,f,h1,h2,z⟩:=h;exact⟨j.trans g,m,f,hh.trans h1,h2,z.imp id λ⟨p,i,B,t,d,U,N⟩=>⟨p,i,B,t,d,e.same _ _ U,N⟩⟩
 |dead=>trivial
theorem Wd.addr(w:Wd K G O Z H){k:a9}{c:Cell}(h:Z[k]?=aq c):∃a,O[k]?=aq a:=by
 have j:=(cY.mp h).1;exact⟨O[k]'(by rw[w.len];exact j),dZ _⟩
theorem Wd.ne(w:Wd K G O Z H)(j:H p=av)(ha:a∈O):a≠p:=by
 obtain⟨o,q⟩:=w.live a ha;exact iV q j
theorem Wd.pA(w:Wd K G O Z H)(j:H p=av):G p=av:=by
 cases e:G p with
 |none=>rfl
 |some o=>rw[w.sub _ _ e]at j;cases j
theorem jW.to{k i:a9}{b:az}{O':ar az}{Z Z':aG}(h:jW H O Z k i b)(h1:∀a,O[k]?=aq a->O'[k]?=aq a/\∀o,H a=aq o->H' a=aq o)(h2:∀cls fs,Z[k]?=aq (.ins cls fs)->Z'[k]?=aq (.ins cls fs)):jW H' O' Z' k i b:=by
 obtain⟨a,cls,fs,C,c,ws,g,h',fd,j,U,N,B,z,q⟩:=h;exact⟨a,cls,fs,C,c,ws,g,h',fd,(h1 a j).1,h2 _ _ U,(h1 a j).2 _ N,B,z,q⟩
theorem jW.no{k i:a9}{b:az}{c:Cell}(h:jW H O Z k i b)(B:Z[k]?=aq c)(hn:c.noOwn=a5):cq:=by
 obtain⟨a,cls,fs,C,e,ws,g,h',fd,d,j,U,z,q,N⟩:=h;rw[B]at j;cases j;simp only[Cell.noOwn,JX]at hn;have:=hn _ (nA z);simp only[]at this;rw[q]at this;cases this
theorem Wd.grow(w:Wd K G O Z H)(s:pC H H'):Wd K G O Z H' where
 sub:=w.sub.trans s
 inj:=w.inj
 len:=w.len
 live:=λa ha=>let ⟨o,j⟩:=w.live a ha; ⟨o,s _ _ j⟩
 aH:=λk c a h1 h2=>by
  have q:=w.aH k c a h1 h2;cases c with
  |lst ds=>obtain⟨g,xs,h1,h2⟩:=q;exact⟨g,xs,s _ _ h1,h2⟩
  |bB U=>obtain⟨g,ws,h1,h2,l⟩:=q;exact⟨g,ws,s _ _ h1,h2,l⟩
  |ins cls fs=>obtain⟨g,C,m,ws,h0,h1,h2⟩:=q;exact⟨g,C,m,ws,h0,s _ _ h1,h2.map λ_ _ q=>q.mono (Ext.refl _ _) λb o x y z=>⟨x,y,s _ _ z⟩⟩
  |tab x pos qual =>
   obtain⟨g,f,N,h1,h2⟩:=q;exact⟨g,f,N,s _ _ h1,h2⟩
  |dead=>trivial
 sep:=λb k i d e h1 h2=>by
  have back:∀{k i},jW H' O Z k i b->jW H O Z k i b:=λh=>h.to (λa ha=>⟨ha,λo j=>by
   obtain⟨n,B⟩:=w.live a (nA ha);have:=s _ _ B;rw[j]at this;cases this;exact B⟩) λ_ _ q=>q
  exact w.sep b k i d e (back h1) (back h2)
theorem GV{α:Type}:∀{l:ar α} {i j:a9} {x:α},l.Nodup->l[i]?=aq x->l[j]?=aq x->i=j
 |[],_,_,_,_,h,_=>by simp at h
 |y::l,0,0,_,_,_,_=>rfl
 |y::l,0,j+1,x,n,h1,h2=>by
  simp at h1 h2;subst h1;exact b8 (nA h2) (rY.mp n).1
 |y::l,i+1,0,x,n,h1,h2=>by
  simp at h1 h2;subst h2;exact b8 (nA h1) (rY.mp n).1
 |y::l,i+1,j+1,x,n,h1,h2=>by
  simp at h1 h2;rw[GV (rY.mp n).2 h1 h2]
theorem GY{α:Type}{l:ar α}{k:a9}{x:α}(h:l[k]?=aq x):x∈l:=nA h
theorem Ext.new(j:G p=av)(o:HO):Ext G O (upd G p o) O:=⟨pC.new j,λ_ _ h=>h⟩
theorem Wd.new(w:Wd K G O Z H)(j:H p=av)(o:HO):Wd K (upd G p o) O Z (upd H p o)where
 sub:=λb u h=>by
  by_cases e:b=p
  ·subst e;rw[eA]at h ⊢;exact h
  ·rw[bJ e]at h ⊢;exact w.sub _ _ h
 inj:=w.inj
 len:=w.len
 live:=λa ha=>by rw[bJ (w.ne j ha)];exact w.live a ha
 aH:=λk c a h1 h2=>by
  have n:=w.ne j (GY h2);exact(w.aH k c a h1 h2).mono (Ext.new (w.pA j) o) (bJ n) (bJ n) λb u x y z=>by
   have nb:b≠p:=iV z j;exact⟨x,by rw[bJ nb];exact y,by rw[bJ nb];exact z⟩
 sep:=λb k i B N h1 h2=>by
  have back:∀{k i},jW (upd H p o) O Z k i b->jW H O Z k i b:=λh=>h.to (λa ha=>⟨ha,λu U=>by rwa[bJ (w.ne j (nA ha))]at U⟩) λ_ _ q=>q;exact w.sep b k i B N (back h1) (back h2)
theorem Ext.cell(x:az):Ext G O G (O++[x]):=⟨pC.refl _,λk a h=>by
 rw[iS (cY.mp h).1];exact h⟩
theorem Wd.cell(w:Wd K G O Z H)(j:H p=av){o:HO}{c:Cell}(t:tJ K G (O++[p]) (upd H p o) p c)(f:c.noOwn=a5:=by rfl):Wd K G (O++[p]) (Z++[c]) (upd H p o)where
 sub:=λb u h=>by
  have e:b≠p:=λe=>by subst e;rw[w.sub _ _ h]at j;cases j
  rw[bJ e];exact w.sub _ _ h
 inj:=by
  rw[YE];exact⟨w.inj,by simp,λa ha b hb=>by simp at hb;subst hb;exact w.ne j ha⟩
 len:=by simp[w.len]
 live:=λa ha=>by
  rcases lP.mp ha with h|h
  ·rw[bJ (w.ne j h)];exact w.live a h
  ·simp at h;subst h;exact⟨o,eA⟩
 aH:=λk A a h1 h2=>by
  by_cases q:k<O.length
  ·rw[iS q]at h2;rw[iS (by rw[<-w.len];exact q)]at h1;exact(w.aH k A a h1 h2).mono (Ext.cell p) rfl (bJ (w.ne j (GY h2))) λb u x y z=>by
    have nb:b≠p:=iV z j;exact⟨by simp[x,nb],y,by rw[bJ nb];exact z⟩
  ·have U:k=O.length:=by
    have:=(cY.mp h2).1;simp at this;omega
   subst U;simp at h2;subst h2;rw[w.len]at h1;simp at h1;subst h1;exact t
 sep:=λb k i r s h1 h2=>by
  have back:∀{k i},jW (upd H p o) (O++[p]) (Z++[c]) k i b->jW H O Z k i b:=λ{k i} h=>by
   have h0:=h;obtain⟨a,cls,fs,C,v,ws,g,h',fd,N,B,d,n,m,l⟩:=h
   by_cases q:k<Z.length
   ·rw[iS q]at B;rw[iS (by rw[w.len];exact q)]at N;rw[bJ (w.ne j (GY N))]at d;exact⟨a,cls,fs,C,v,ws,g,h',fd,N,B,d,n,m,l⟩
   ·have U:k=Z.length:=by
     have:=(cY.mp B).1;simp at this;omega
    subst U;exact(h0.no (by simp) f).elim
  exact w.sep b k i r s (back h1) (back h2)
theorem Wd.put(w:Wd K G O Z H){k:a9}{c:Cell}{o:HO}(B:O[k]?=aq a)(t:G a=av)(v:tJ K G O (upd H a o) a c)(l:c.noOwn=a5:=by rfl):Wd K G O (Z.set k c) (upd H a o)where
 sub:=λb u h=>by
  have e:b≠a:=λe=>by subst e;rw[t]at h;cases h
  rw[bJ e];exact w.sub _ _ h
 inj:=w.inj
 len:=by rw[JT];exact w.len
 live:=λb hb=>by
  by_cases e:b=a
  ·subst e;exact⟨o,eA⟩
  ·rw[bJ e];exact w.live b hb
 aH:=λj D b h1 h2=>by
  by_cases q:j=k
  ·subst q;rw[B]at h2;cases h2;have hl:j<Z.length:=by rw[<-w.len];exact(cY.mp B).1
   rw[fN hl]at h1;cases h1;exact v
  ·rw[fF (dM q)]at h1;have gD:b≠a:=λe=>by
    subst e;exact q (GV w.inj h2 B)
   exact(w.aH j D b h1 h2).mono (Ext.refl _ _) rfl (bJ gD) λb u x y z=>by
    have nb:b≠a:=λe=>by subst e;exact x (GY B)
    exact⟨x,y,by rw[bJ nb];exact z⟩
 sep:=λb j i r s h1 h2=>by
  have back:∀{j i},jW (upd H a o) O (Z.set k c) j i b->jW H O Z j i b:=λ{j i} h=>by
   have h0:=h;obtain⟨f,cls,fs,C,A,ws,g,h',fd,d,U,N,p,n,m⟩:=h
   by_cases q:j=k
   ·subst q;have hl:j<Z.length:=by rw[<-w.len];exact(cY.mp B).1
    exact(h0.no (by rw[fN hl]) l).elim
   ·rw[fF (dM q)]at U;have gD:f≠a:=λe=>by subst e;exact q (GV w.inj d B)
    rw[bJ gD]at N;exact⟨f,cls,fs,C,A,ws,g,h',fd,d,U,N,p,n,m⟩
  exact w.sep b j i r s (back h1) (back h2)
theorem Wd.freeze(w:Wd K G O Z H){k:a9}{o:HO}(B:O[k]?=aq a)(r:G a=av)(p:H a=aq o):Wd K (upd G a o) O (Z.set k .dead) H where
 sub:=λb u h=>by
  by_cases e:b=a
  ·subst e;rw[eA]at h;cases h;exact p
  ·rw[bJ e]at h;exact w.sub _ _ h
 inj:=w.inj
 len:=by rw[JT];exact w.len
 live:=w.live
 aH:=λj t b h1 h2=>by
  by_cases q:j=k
  ·subst q;have hl:j<Z.length:=by rw[<-w.len];exact(cY.mp B).1
   rw[fN hl]at h1;cases h1;trivial
  ·rw[fF (dM q)]at h1;have gD:b≠a:=λe=>by
    subst e;exact q (GV w.inj h2 B)
   exact(w.aH j t b h1 h2).mono (Ext.new r o) (bJ gD) rfl λb u x y z=>by
    have nb:b≠a:=λe=>by subst e;exact x (GY B)
    exact⟨x,by rw[bJ nb];exact y,z⟩
 sep:=λb j i m n h1 h2=>by
  have back:∀{j i},jW H O (Z.set k .dead) j i b->jW H O Z j i b:=λ{j i} h=>by
   have h0:=h;obtain⟨v,cls,fs,C,s,ws,g,h',fd,l,N,f,d,c,U⟩:=h
   by_cases q:j=k
   ·subst q;have hl:j<Z.length:=by rw[<-w.len];exact(cY.mp B).1
    exact(h0.no (by rw[fN hl]) rfl).elim
   ·rw[fF (dM q)]at N;exact⟨v,cls,fs,C,s,ws,g,h',fd,l,N,f,d,c,U⟩
  exact w.sep b j i m n (back h1) (back h2)
end
def iJ(K:bu)(G:Hp)(O:ar az)(J:L2.St)(Y:Ev):Prop:=J.length=Y.length/\∀(i:a9) (d:A),Y[i]?=aq (aq d)->∃v,J[i]?=aq (aq v)/\Den K G O v d
theorem iJ.ext{K:bu}{G G':Hp}{O O':ar az}{J:L2.St}{Y:Ev}(r:iJ K G O J Y)(e:Ext G O G' O'):iJ K G' O' J Y:=⟨r.1,λi d h=>let ⟨v,h1,h2⟩:=r.2 i d h; ⟨v,h1,h2.ext e⟩⟩
theorem iJ.set{K:bu}{G:Hp}{O:ar az}{J:L2.St}{Y:Ev}(r:iJ K G O J Y)(j:a9){v:V}{d:A}(h:Den K G O v d):iJ K G O (J.set j (aq v)) (Y.set j (aq d)):=by
 refine⟨by rw[JT,JT];exact r.1,λi e he=>?_⟩
 by_cases q:i=j
 ·subst q;have hl:i<Y.length:=by
   have:=(cY.mp he).1;rwa[JT]at this
  rw[fN hl]at he;cases he;exact⟨v,fN (by rw[r.1];exact hl),h⟩
 ·rw[fF (dM q)]at he ⊢;exact r.2 i e he
def aeL(K:bu)(G:Hp)(O:ar az)(H:Hp)(x:Exc)(cls:au)(dx:ax az):Prop :=
 (∃C,nsIn K bo x.cls=aq (aq (.ref C))/\cls=.ref C)/\((x.fs=[]/\dx=av)\/∃d f i,dx=aq d/\x.fs=[(f,.int i)]/\G d=aq (.xd [(f,.int i)]))
abbrev Rl(α β:Type):=Hp->ar az->β->α->Prop
def bN{α β:Type}(K:bu)(rel:Rl α β)(W:WX)(G:Hp)(O:ar az)(J:L2.St)(Q:β->Hp->Prop):ax (Rs α×aG)->Prop
 |some (.ok a,Z')=>∀v H' G' O',Ext G O G' O'->Wd K G' O' Z' H'->rel G' O' v a->Q v H'
 |some (.exc x,Z')=>∀cls dx H' G' O',Ext G O G' O'->Wd K G' O' Z' H'->aeL K G' O' H' x cls dx->W J cls dx H'
 |none=>cq
theorem bN.ext{α β:Type}{K:bu}{rel:Rl α β}{W:WX}{G U:Hp}{O q:ar az}{J:L2.St}{Q:β->Hp->Prop}{r:ax (Rs α×aG)}(h:bN K rel W G O J Q r)(e:Ext G O U q):bN K rel W U q J Q r:=by
 match r,h with
 |some (.ok a,z),h=>exact λv B N j x w d=>h v B N j (e.trans x) w d
 |some (.exc x,z),h=>exact λcls b B N j x w d=>h cls b B N j (e.trans x) w d
theorem bN.mb{α β B z:Type}{K:bu}{rel:Rl α β}{U:Rl B z}{W:WX}{G:Hp}{O:ar az}{J:L2.St}{Q:z->Hp->Prop}{N:β->Hp->Prop}{m:Mo α}{k:α->Mo B}{Z:aG}(h:bN K U W G O J Q (mb m k Z))
  (b:∀a Z1 v H1 q j,Ext G O q j->Wd K q j Z1 H1->rel q j v a->bN K U W q j J Q (k a Z1)->N v H1):bN K rel W G O J N (m Z):=by
 unfold V2.mb at h
 revert h
 generalize m Z=r;intro h
 match r,h with
 |some (.ok a,Z1),h=>exact λv H1 q j x w d=>b a Z1 v H1 q j x w d (bN.ext h x)
 |some (.exc x,Z1),h=>exact h
theorem bN.need{α β j:Type}{K:bu}{q:Rl α β}{W:WX}{G:Hp}{O:ar az}{J:L2.St}{Q:β->Hp->Prop}{o:ax j}{k:j->Mo α}{Z:aG}(h:bN K q W G O J Q (V2.mb (need o) k Z)):∃a,o=aq a/\bN K q W G O J Q (k a Z):=by
 cases o with
 |none=>exact False.elim h
 |some a=>exact⟨a,rfl,h⟩
theorem bN.pU{α β:Type}{K:bu}{q:Rl α β}{W:WX}{G:Hp}{O:ar az}{J:L2.St}{Q:β->Hp->Prop}{p:Prop} [cy p]{k:Unit->Mo α}{Z:aG}(h:bN K q W G O J Q (V2.mb (pU p) k Z)):p/\bN K q W G O J Q (k () Z):=by
 unfold V2.mb V2.pU at h
 by_cases j:p
 ·rw[bb j]at h;exact⟨j,h⟩
 ·rw[bc j]at h;exact False.elim h
def fC{α β:Type}(K:bu)(rel:Rl α β)(W:WX)(t:L2.St->Hp->(β->Hp->Prop)->Prop)(f:Ev->Mo α):Prop :=
 ∀G O Z H J Y Q,Wd K G O Z H->iJ K G O J Y->bN K rel W G O J Q (f Y Z)->t J H Q
def CW:Rl bt bt:=λ_ _ b c=>b=c
def VE(X:Cx)(W:WX)(e:b7)(f:Ev->Mo A):Prop:=∃t,PE X e t/\fC X.K (Den X.K) W t f
def VT(X:Cx)(W:WX)(e:b7)(f:Ev->Mo bt):Prop:=∃t,PT X e t/\fC X.K CW W t f
def VW(X:Cx)(W:WX)(e:b7)(f:Ev->Mo bt):Prop:=∃t,PW X e t/\fC X.K CW W t f
def VA(X:Cx)(W:WX)(es:ar b7)(f:Ev->Mo (ar A)):Prop:=∃t,PA X es t/\fC X.K (bE X.K) W t f
end V2
namespace V2
open PySem PySem.Spec PyProof.Rows L2
section
variable{K:bu}{G H:Hp}{O:ar az}{Z:aG}{v:V}{a:A}
noncomputable def fV(Z:aG):A->ax (ar A)
 |.lst ds=>aq ds
 |.kL ns=>aq (ns.map A.int)
 |.aH k=>match Z[k]? with
  |some (.lst ds)=>aq ds
  |_=>av
 |_=>av
def hZ(Z:aG):A->ax (ar A)
 |.tup ds=>aq ds
 |a=>fV Z a
theorem AU(w:Wd K G O Z H)(d:Den K G O v a){ds:ar A}(h:fV Z a=aq ds):∃p xs,v=.ref p/\fW K H p xs/\bE K G O xs ds:=by
 cases a with
 |lst es =>
  simp only[fV,lD]at h;subst h;simp only[Den]at d;obtain⟨p,xs,h1,h2,j⟩:=d;exact⟨p,xs,h1,fW.of (w.sub _ _ h2),j⟩
 |kL ns =>
  simp only[fV,lD]at h;subst h;simp only[Den]at d;obtain⟨p,h1,h2⟩:=d;exact⟨p,_,h1,w.sub.seq h2,WJ ns⟩
 |aH k =>
  simp only[fV]at h;cases e:Z[k]? with
  |none=>rw[e]at h;cases h
  |some c =>
   rw[e]at h;cases c with
   |lst es =>
    simp only[lD]at h;subst h;simp only[Den]at d;obtain⟨p,h1,h2⟩:=d;obtain⟨g,xs,j,q⟩:=w.aH k _ p e h2;exact⟨p,xs,h1,fW.of j,q⟩
   |_=>cases h
 |_=>simp[fV]at h
theorem Bc(w:Wd K G O Z H)(d:Den K G O v a){ds:ar A}(h:hZ Z a=aq ds):∃p xs,v=.ref p/\(fW K H p xs\/kI K H p xs)/\bE K G O xs ds:=by
 cases a with
 |tup es =>
  simp only[hZ,lD]at h;subst h;simp only[Den]at d;obtain⟨p,xs,h1,h2,j⟩:=d;exact⟨p,xs,h1,.inr (kI.of (w.sub _ _ h2)),j⟩
 |_ =>
  obtain⟨p,xs,h1,h2,j⟩:=AU w d h;exact⟨p,xs,h1,.inl h2,j⟩
theorem Us(w:Wd K G O Z H)(d:Den K G O v a){ds:ar A}(h:fV Z a=aq ds)(q:∀ns,a≠.kL ns):∃p xs,v=.ref p/\H p=aq (.lst xs)/\bE K G O xs ds:=by
 cases a with
 |lst es =>
  simp only[fV,lD]at h;subst h;simp only[Den]at d;obtain⟨p,xs,h1,h2,j⟩:=d;exact⟨p,xs,h1,w.sub _ _ h2,j⟩
 |kL ns=>exact b8 rfl (q ns)
 |aH k =>
  simp only[fV]at h;cases e:Z[k]? with
  |none=>rw[e]at h;cases h
  |some c =>
   rw[e]at h;cases c with
   |lst es =>
    simp only[lD]at h;subst h;simp only[Den]at d;obtain⟨p,h1,h2⟩:=d;obtain⟨g,xs,j,z⟩:=w.aH k _ p e h2;exact⟨p,xs,h1,j,z⟩
   |_=>cases h
 |_=>simp[fV]at h
end
@[simp] noncomputable def lK(c:bt)(ds:ar A):Mo A:=λZ=>if c then aq (.ok (.aH Z.length),Z++[.lst ds])else aq (.ok (.lst ds),Z)
section
variable{K:bu}{G H:Hp}{O:ar az}{Z:aG}{W:WX}{J:L2.St}{Q:VK}
theorem GX{c:bt}{ds:ar A}{xs:ar V}{p:az}(w:Wd K G O Z H)(j:H p=av)(d:bE K G O xs ds)(h:bN K (Den K) W G O J Q (lK c ds Z)):Q (.ref p) (upd H p (.lst xs)):=by
 cases c with
 |true =>
  refine h _ _ G (O++[p]) (Ext.cell p) (w.cell j ⟨w.pA j,xs,eA,d.ext (Ext.cell p)⟩) ?_;simp only[Den];exact⟨p,rfl,by rw[<-w.len];simp⟩
 |false =>
  refine h _ _ _ _ (Ext.new (w.pA j) (.lst xs)) (w.new j _) ?_;simp only[Den];exact⟨p,xs,rfl,eA,d.ext (Ext.new (w.pA j) _)⟩
@[simp] def El(ds:ar A):Mo A:=ret (.tup ds)
theorem We{ds:ar A}{xs:ar V}{p:az}(w:Wd K G O Z H)(j:H p=av)(d:bE K G O xs ds)(h:bN K (Den K) W G O J Q (El ds Z)):Q (.ref p) (upd H p (.tup xs)):=by
 refine h _ _ _ _ (Ext.new (w.pA j) (.tup xs)) (w.new j _) ?_;simp only[Den];exact⟨p,xs,rfl,eA,d.ext (Ext.new (w.pA j) _)⟩
theorem lX{α β:Type}{rel:Rl α β}{Q:β->Hp->Prop}{a:α}{b:β}(w:Wd K G O Z H)(d:rel G O b a)(h:bN K rel W G O J Q (ret a Z)):Q b H:=h b H G O (Ext.refl _ _) w d
end
section
variable{X:Cx}{W:WX}{e a b:b7}{es:ar b7}{pos:dj}{fa fb:Ev->Mo A}{fs:Ev->Mo (ar A)}
@[simp] def dR(i:a9):Ev->Mo A:=λY=>need (Y[i]?).join
theorem join_some{α:Type}{o:ax (ax α)}{x:α}(h:o.join=aq x):o=aq (aq x):=by
 cases o with
 |none=>cases h
 |some y=>cases y with
  |none=>cases h
  |some z=>cases h;rfl
theorem aiF{K:bu}{i:a9}:fC K (Den K) W (Am i) (dR i):=by
 intro G q z H J j Q w r h;unfold dR need at h;cases e:(j[i]?).join with
 |none=>rw[e]at h;exact False.elim h
 |some d =>
  rw[e]at h;obtain⟨v,h1,h2⟩:=r.2 i d (join_some e);exact⟨v,h1,h v H G q (Ext.refl _ _) w h2⟩
theorem vv(i:a9){x:bh}(q:X.N[i]?=aq x:=by rfl)(hv:PQ X.env.scope x:=by first|exact Or.inl rfl|exact Or.inr (Or.inl rfl)|exact Or.inr (Or.inr rfl))(hd:(x==("__debug__" : bh))=aw:=by decide)
  (j:(x==("__classdict__" : bh))=aw:=by decide):VE X W (.Name x pos) (dR i):=⟨_,Ds q hv hd j,aiF⟩
@[simp] noncomputable def xR(i:a9):Ev->Mo A:=λY Z=>match (Y[i]?).join with
 |some (.aH k)=>match Z[k]? with
  |some (.lst ds)=>aq (.ok (.lst ds),Z.set k .dead)
  |_=>av
 |_=>av
theorem aiI{K:bu}{i:a9}:fC K (Den K) W (Am i) (xR i):=by
 intro G N U H J B Q w r h;unfold xR at h;cases e:(B[i]?).join with
 |none=>rw[e]at h;exact False.elim h
 |some d =>
  rw[e]at h;cases d with
  |aH k =>
   simp only at h;cases j:U[k]? with
   |none=>rw[j]at h;exact False.elim h
   |some c =>
    rw[j]at h;cases c with
    |lst ds =>
     obtain⟨v,h1,h2⟩:=r.2 i _ (join_some e);simp only[Den]at h2;obtain⟨p,rfl,z⟩:=h2;obtain⟨g,q,b,a⟩:=w.aH k _ p j z;refine⟨_,h1,h _ H (upd G p (.lst q)) N (Ext.new g _) (w.freeze z g b) ?_⟩;simp only[Den];exact⟨p,q,rfl,eA,a.ext (Ext.new g _)⟩
    |_=>exact False.elim h
  |_=>exact False.elim h
theorem vf(i:a9){x:bh}(q:X.N[i]?=aq x:=by rfl)(hv:PQ X.env.scope x:=by first|exact Or.inl rfl|exact Or.inr (Or.inl rfl)|exact Or.inr (Or.inr rfl))(hd:(x==("__debug__" : bh))=aw:=by decide)
  (j:(x==("__classdict__" : bh))=aw:=by decide):VE X W (.Name x pos) (xR i):=⟨_,Ds q hv hd j,aiI⟩
theorem LU{K:bu}{v:V}{d:A}(h:∀G O,Den K G O v d):fC K (Den K) W (tC v) (λ_=>ret d):=λG O _ _ _ _ _ w _ q=>lX w (h G O) q
theorem aL{i:a8}{j}:VE X W (.Constant (.int i) j pos) (λ_=>ret (.int i)):=⟨_,anB,LU λ_ _=>by simp only[Den]⟩
theorem pH{i:bt}{j}:VE X W (.Constant (.bool i) j pos) (λ_=>ret (.bl i)):=⟨_,anP,LU λ_ _=>by simp only[Den]⟩
theorem afZ{x:bh}{p:az}(j:Gl X x)(hm:X.mg x=aq (.ref p))(q:nsIn X.K bo x=aq (aq (.ref p)))(hd:(x==("__debug__" : bh))=aw:=by decide):VE X W (.Name x pos) (λ_=>ret (.gl x)) :=
 ⟨_,Vd (v:=.ref p) j hm rfl hd,LU λ_ _=>by simp only[Den];exact⟨p,q,rfl⟩⟩
theorem Qm{x:bh}{i:a8}(j:Gl X x)(hm:∃t,X.mg x=aq (.int i t))(hd:(x==("__debug__" : bh))=aw:=by decide):VE X W (.Name x pos) (λ_=>ret (.int i)):=by
 obtain⟨t,hm⟩:=hm;exact⟨_,Vd (v:=.int i) j hm ⟨t,rfl⟩ hd,LU λ_ _=>by simp only[Den]⟩
theorem LH{x:bh}{n:dk}(j:Gl X x)(hm:X.mg x=av)(hv:dz x=aq (.type n))(hn:x≠"__name__":=by decide)(hd:(x==("__debug__" : bh))=aw:=by decide):VE X W (.Name x pos) (λ_=>ret (.ty n)) :=
 ⟨_,anO (v:=.ty n) j hm hv rfl hn hd,LU λ_ _=>by simp only[Den]⟩
theorem aO:VA X W [] (λ_=>ret []):=⟨_,GS,λ_ _ _ _ _ _ _ w _ q=>lX w .nil q⟩
@[simp] def aC(f:Ev->Mo A)(g:Ev->Mo (ar A)):Ev->Mo (ar A):=λY=>mb (f Y) λx=>mb (g Y) λxs=>ret (x::xs)
theorem aF(h1:VE X W e fa)(h2:VA X W es fs)(k:bj (e::es) X.env=(aw,cg e X.env)::bj es X.env:=by rfl):VA X W (e::es) (aC fa fs):=by
 obtain⟨t,i,g⟩:=h1;obtain⟨u,p2,s2⟩:=h2;refine⟨_,DA i p2 k,λG N a H J z Q w r h=>?_⟩;refine g G N a H J z _ w r (bN.mb h λx q v n o j c f m h1=>?_);refine s2 o j q n J z _ f (r.ext c) (bN.mb h1 λp U s y A B b d l h2=>?_);exact lX d (.cons (m.ext b) l) h2
@[simp] def nS(g:Ev->Mo (ar A)):Ev->Mo A:=λY=>mb (g Y) λxs=>mb (pU (xs.length<=bg)) λ_=>El xs
theorem rF{k}(h:VA X W es fs):VE X W (.Tuple es k pos) (nS fs):=by
 obtain⟨t,p,s⟩:=h;refine⟨_,amY p,λG B U H J q Q w r h=>?_⟩;refine s G B U H J q _ w r (bN.mb h λc N e f g z d a j h1=>?_);obtain⟨hl,h2⟩:=bN.pU h1;exact⟨by rw[j.length];exact hl,λp b=>We a b j h2⟩
@[simp] def gS(c:bt)(g:Ev->Mo (ar A)):Ev->Mo A:=λY=>mb (g Y) λxs=>mb (pU (xs.length<=bg)) λ_=>lK c xs
theorem mO(c:bt)(h:VA X W es fs):VE X W (.List es pos) (gS c fs):=by
 obtain⟨t,p,s⟩:=h;refine⟨_,am5 p,λG B U H J q Q w r h=>?_⟩;refine s G B U H J q _ w r (bN.mb h λd N f g i z e a j h1=>?_);obtain⟨hl,h2⟩:=bN.pU h1;exact⟨by rw[j.length];exact hl,λp b=>GX a b j h2⟩
def vR(K:bu)(W:WX)(r:R2)(g:A->A->Mo A):Prop :=
 ∀G O Z H J x y a b Q,Wd K G O Z H->Den K G O x a->Den K G O y b->bN K (Den K) W G O J Q (g a b Z)->r x y H Q
def mX(X:Cx)(W:WX)(f:au->au->Sem au)(g:A->A->Mo A):Prop:=∃r,iH X f r/\vR X.K W r g
@[simp] def aB(g:A->A->Mo A)(f h:Ev->Mo A):Ev->Mo A:=λY=>mb (f Y) λx=>mb (h Y) λy=>g x y
theorem SV{K:bu}{r:R2}{g:A->A->Mo A}{ta tb:TE}(i:vR K W r g)(h1:fC K (Den K) W ta fa)(h2:fC K (Den K) W tb fb):fC K (Den K) W (LN r ta tb) (aB g fa fb):=by
 intro G a b H J U Q w q h;refine h1 G a b H J U _ w q (bN.mb h λx N v n p z d f l h1=>?_);refine h2 p z N n J U _ f (q.ext d) (bN.mb h1 λy B u m o j c e k h2=>?_);exact i o j B m J v u x y Q e (l.ext c) k h2
theorem aY{j:Operator}{g:A->A->Mo A}(U:mX X W (c4 j) g)(ha:VE X W a fa)(hb:VE X W b fb):VE X W (.BinOp a j b pos) (aB g fa fb):=by
 obtain⟨r,N,B⟩:=U;obtain⟨t,z,q⟩:=ha;obtain⟨u,p2,s2⟩:=hb;exact⟨_,am0 N z p2,SV B q s2⟩
@[simp] def gI(C:a8->a8->Prop) [∀i j,cy (C i j)](g:a8->a8->A):A->A->Mo A
 |.int i,.int j=>mb (pU (C i j)) λ_=>ret (g i j)
 |_,_=>stuck
theorem TN{K:bu}{C:a8->a8->Prop} [∀i j,cy (C i j)]{g:a8->a8->V}{g':a8->a8->A}(B:∀G O i j,Den K G O (g i j) (g' i j)):vR K W (rI C g) (gI C g'):=by
 intro G O U H J x y a b Q w z q h;cases a with
 |int i =>
  cases b with
  |int j =>
   simp only[Den]at z q;obtain⟨N,h2⟩:=bN.pU h;exact⟨i,j,z,q,N,lX w (B _ _ _ _) h2⟩
  |_=>exact False.elim h
 |_=>exact False.elim h
@[simp] def ID(g:a8->a8->A):A->A->Mo A
 |.int i,.int j=>ret (g i j)
 |_,_=>stuck
theorem MD{K:bu}{g:a8->a8->V}{g':a8->a8->A}(B:∀G O i j,Den K G O (g i j) (g' i j)):vR K W (yC g) (ID g'):=by
 intro G O N H J x y a b Q w z q h;cases a with
 |int i =>
  cases b with
  |int j =>
   simp only[Den]at z q;exact⟨i,j,z,q,lX w (B _ _ _ _) h⟩
  |_=>exact False.elim h
 |_=>exact False.elim h
instance:∀i j,cy (lT i j):=λi j=>by unfold lT;infer_instance
instance:∀i j,cy (rB i j):=λi j=>by unfold rB;infer_instance
instance:∀i j,cy (KZ i j):=λi j=>by unfold KZ;infer_instance
@[simp] def nN:=ID λi j => .int (i-j)
@[simp] def mE:=gI lT λi j => .int (i*j)
@[simp] def jC:=gI rB λi j => .int (i/j)
@[simp] def iN:=gI (λ_ j=>0<j) λi j => .int (i%j)
@[simp] def OD:=gI KZ λi j => .int (i ^ j.toNat)
theorem sH:mX X W (c4 .Sub) nN:=⟨_,an0,MD λ_ _ _ _=>by simp only[Den]⟩
theorem sI:mX X W (c4 .Mult) mE:=⟨_,an3,TN λ_ _ _ _=>by simp only[Den]⟩
theorem rH:mX X W (c4 .FloorDiv) jC:=⟨_,an9,TN λ_ _ _ _=>by simp only[Den]⟩
theorem nK:mX X W (c4 .Mod) iN:=⟨_,an4,TN λ_ _ _ _=>by simp only[Den]⟩
theorem TU:mX X W (c4 .Pow) OD:=⟨_,an1,TN λ_ _ _ _=>by simp only[Den]⟩
@[simp] noncomputable def MX:A->bt
 |.kL _=>a5
 |_=>aw
theorem Vv{a:A}(h:MX a=aw):∀ns,a≠.kL ns:=λns e=>by subst e;cases h
@[simp] def Iq(c:bt)(a b:A):Mo A:=λZ=>match fV Z a,fV Z b with
  |some xs,aq ys=>if MX a||MX b||decide (bg<xs.length+ys.length)then av else lK c (xs++ys) Z
  |_,_=>av
@[simp] def VX(c:bt):A->A->Mo A
 |.int i,.int j=>ret (.int (i+j))
 |.tup xs,.tup ys=>mb (pU (0<xs.length/\xs.length+ys.length<=bg)) λ_=>El (xs++ys)
 |a,b=>Iq c a b
theorem anZ{K:bu}{c:bt}:vR K W Ua (Iq c):=by
 intro G m B H J x y a b Q w l k h;unfold Iq at h
 match j:fV B a,z:fV B b with
 |none,_=>rw[j]at h;exact False.elim h
 |some N,av=>rw[j,z]at h;exact False.elim h
 |some N,aq e =>
  rw[j,z]at h;simp only at h
  by_cases hb:(MX a||MX b||decide (bg<N.length+e.length))=a5
  ·rw[bb hb]at h;exact False.elim h
  ·rw[bc hb]at h;simp only[Bool.or_eq_true,BN,not_or,Bool.not_eq_true]at hb;obtain⟨p,g,rfl,h2,d⟩:=Us w l j (Vv hb.1.1);obtain⟨q,f,rfl,i,U⟩:=Us w k z (Vv hb.1.2);exact⟨p,q,g,f,rfl,rfl,h2,i,by rw[d.length,U.length];omega,λr hr=>GX w hr (d.append U) h⟩
theorem dQ(c:bt):mX X W (c4 .Add) (VX c):=by
 refine⟨_,aoD.or (aoC.or aoB),?_⟩;intro G d f H J x y a b Q w z j h;unfold VX at h;split at h
 ·simp only[Den]at z j;exact .inl ⟨_,_,z,j,lX w (by simp only[Den]) h⟩
 ·rename_i m l;simp only[Den]at z j;obtain⟨p,U,rfl,h2,B⟩:=z;obtain⟨q,g,rfl,i,N⟩:=j;obtain⟨⟨n,k⟩,h⟩:=bN.pU h;refine .inr (.inr ⟨p,q,U,g,rfl,rfl,kI.of (w.sub _ _ h2),kI.of (w.sub _ _ i),?_,by rw[B.length,N.length];exact k,λe=>?_,λ_ r hr=>We w hr (B.append N) h⟩)
  ·intro e;subst e;have:=B.length;simp at this;omega
  ·subst e;refine lX w ?_ h;simp only[Den];exact⟨p,U,rfl,h2,by simpa using B.append N⟩
 ·exact .inr (.inl (anZ G d f H J x y _ _ Q w z j h))
end
noncomputable def eE:a9->A->bt
 |_,.int _=>a5
 |_,.bl _=>a5
 |_,.cZ=>a5
 |_,.str x=>PyData.canLay0 (.str x)
 |n+1,.tup ds=>ds.all (eE n)
 |n+1,.lst ds=>ds.all (eE n)
 |_,_=>aw
noncomputable def BL(f:A->A->bt):ar A->ar A->bt
 |[],[]=>a5
 |x::xs,y::ys=>f x y&&BL f xs ys
 |_,_=>aw
def lN:a9->A->A->bt
 |_,.int i,.int j=>i==j
 |_,.bl i,.bl j=>i==j
 |_,.bl i,.int j=>(if i then 1 else 0)==j
 |_,.int i,.bl j=>i==(if j then 1 else 0)
 |_,.cZ,.cZ=>a5
 |_,.str x,.str y=>x==y
 |n+1,.tup xs,.tup ys=>BL (lN n) xs ys
 |n+1,.lst xs,.lst ys=>BL (lN n) xs ys
 |_,_,_=>aw
noncomputable def toPy:a9->A->PyData
 |_,.int i => .int i
 |_,.bl i => .bool i
 |_,.str x => .str x
 |n+1,.tup ds => .tuple (ds.map (toPy n))
 |n+1,.lst ds => .list (ds.map (toPy n))
 |_,_ => .none
theorem Ju:∀(ds:ar A) (n:a9),(∀d∈ds,eE n d=a5->PyData.canLay0 (toPy n d)=a5)->ds.all (eE n)=a5->PyData.canLayAll0 (ds.map (toPy n))=a5
 |[],_,_,_=>rfl
 |d::ds,n,ih,h=>by
  simp only[List.all_cons,rC]at h;simp only[cP,PyData.canLayAll0,rC];exact⟨ih d mB h.1,Ju ds n (λe he=>ih e (fS _ he)) h.2⟩
theorem SA:∀(n:a9) (a:A),eE n a=a5->PyData.canLay0 (toPy n a)=a5:=by
 intro n
 induction n with
 |zero=>intro a h;cases a <;> first|rfl|exact h|cases h
 |succ n ih =>
  intro a h;cases a with
  |tup ds=>exact Ju ds n (λd _=>ih d) h
  |lst ds=>exact Ju ds n (λd _=>ih d) h
  |str x=>exact h
  |int i=>rfl
  |bl b=>rfl
  |cZ=>rfl
  |_=>cases h
theorem Jn:∀(ds:ar A) (n:a9),(∀d∈ds,(toPy n d).depth<=n)->PyData.depthAll (ds.map (toPy n))<=n
 |[],_,_=>BU _
 |d::ds,n,ih=>by
  simp only[cP,PyData.depthAll];exact Nat.max_le.mpr ⟨ih d mB,Jn ds n λe he=>ih e (fS _ he)⟩
theorem Ro:∀(n:a9) (a:A),(toPy n a).depth<=n:=by
 intro n
 induction n with
 |zero=>intro a;cases a <;> exact qS _
 |succ n ih =>
  intro a;cases a with
  |tup ds=>exact Nat.succ_le_succ (Jn ds n λd _=>ih d)
  |lst ds=>exact Nat.succ_le_succ (Jn ds n λd _=>ih d)
  |_=>exact BU _
theorem abB:∀(xs ys:ar A) (n:a9),(∀x∈xs,∀y∈ys,PyData.eqv (toPy n x) (toPy n y)=lN n x y)->PyData.eqvAll (xs.map (toPy n)) (ys.map (toPy n))=BL (lN n) xs ys
 |[],[],_,_=>rfl
 |[],_::_,_,_=>rfl
 |_::_,[],_,_=>rfl
 |x::xs,y::ys,n,ih=>by
  simp only[cP,PyData.eqvAll,BL];rw[ih x mB y mB,abB xs ys n λa ha b hb=>ih a (fS _ ha) b (fS _ hb)]
theorem Rm:∀(n:a9) (a b:A),eE n a=a5->eE n b=a5->PyData.eqv (toPy n a) (toPy n b)=lN n a b:=by
 intro n
 induction n with
 |zero=>intro a b ha hb;cases a <;> cases b <;> first|rfl|(simp[eE]at ha;done)|(simp[eE]at hb;done)
 |succ n ih =>
  intro a b ha hb;have lst:∀q j:ar A,q.all (eE n)=a5->j.all (eE n)=a5->PyData.eqvAll (q.map (toPy n)) (j.map (toPy n))=BL (lN n) q j:=λq j h1 h2 =>
   abB q j n λx B y z=>ih x y (JX.mp h1 x B) (JX.mp h2 y z)
  cases a <;> cases b <;> first|rfl|(simp[eE]at ha;done)|(simp[eE]at hb;done)|exact lst _ _ ha hb
section
variable{X:Cx}{aa:ar (az×cz)}{J:L2.St}{H:Hp}{s:ay}{O:ar az}
theorem readsAll(n:a9)(ih:∀(v:V) (u:au) (a:A),eE n a=a5->Den X.K H O v a->RelV v u->∃as,Reads s.heap u (toPy n a) as) :
  ∀(ds:ar A) (xs:ar V) (us:ar au),ds.all (eE n)=a5->bE X.K H O xs ds->Vals xs us->∃as,ReadsAll s.heap us (ds.map (toPy n)) as
 |[],xs,us,_,d,r=>by
  rw[wW]at d;subst d;cases r;exact⟨_,.nil⟩
 |a::ds,xs,us,h,d,r=>by
  obtain⟨x,t,rfl,U,N⟩:=d.pJ;simp only[List.all_cons,rC]at h;cases r with
  |cons q j =>
   obtain⟨as,B⟩:=ih _ _ _ h.1 U q;obtain⟨bs,z⟩:=readsAll n ih ds _ _ h.2 N j;exact⟨_,.cons B z⟩
theorem TC(I:Inv X aa J H s):∀(n:a9) (v:V) (u:au) (a:A),eE n a=a5->Den X.K H O v a->RelV v u->∃as,Reads s.heap u (toPy n a) as:=by
 intro n
 induction n with
 |zero =>
  intro v u a h d r;cases a with
  |int i=>simp only[Den]at d;subst d;obtain⟨t,rfl⟩:=r;exact⟨_,.int i t⟩
  |bl b=>simp only[Den]at d;subst d;cases r;exact⟨_,.bool b⟩
  |str x=>simp only[Den]at d;subst d;obtain⟨t,rfl⟩:=r;exact⟨_,.str x t⟩
  |cZ=>simp only[Den]at d;subst d;cases r;exact⟨_,.none⟩
  |_=>cases h
 |succ n ih =>
  intro v u a h d r;cases a with
  |int i=>simp only[Den]at d;subst d;obtain⟨t,rfl⟩:=r;exact⟨_,.int i t⟩
  |bl b=>simp only[Den]at d;subst d;cases r;exact⟨_,.bool b⟩
  |str x=>simp only[Den]at d;subst d;obtain⟨t,rfl⟩:=r;exact⟨_,.str x t⟩
  |cZ=>simp only[Den]at d;subst d;cases r;exact⟨_,.none⟩
  |tup ds =>
   simp only[Den]at d;obtain⟨p,z,rfl,h2,c⟩:=d;cases r;obtain⟨j,B,pl,e⟩:=I.tuple (kI.of h2);obtain⟨as,q⟩:=readsAll n ih ds z j h c B;obtain⟨o,N,U,m,hd⟩:=(show s.heap.IsTuple p j.toArray from pl);exact⟨_,.tuple N U hd (by simpa using q)⟩
  |lst ds =>
   simp only[Den]at d;obtain⟨p,z,rfl,h2,c⟩:=d;cases r;obtain⟨j,B,pl,e⟩:=I.list (fW.of h2);obtain⟨as,q⟩:=readsAll n ih ds z j h c B;obtain⟨o,N,U,m,hd⟩:=pl.isList;exact⟨_,.list N U hd (by simpa using q)⟩
  |_=>cases h
end
def Dk(K:bu)(neg:bt):R2:=λx y H Q=>∃O a b,eE 8 a=a5/\eE 8 b=a5/\Den K H O x a/\Den K H O y b/\Q (.bl (if neg then !lN 8 a b else lN 8 a b)) H
theorem aoA{X:Cx}(e:X.A.units+64<cLine):iH X (ck .Eq) (Dk X.K aw):=by
 intro aa s J H x y v u Q I z j h;obtain⟨d,a,b,h1,h2,c,U,q⟩:=h;obtain⟨g,N⟩:=TC I 8 x v a h1 c z;obtain⟨bs,B⟩:=TC I 8 y u b h2 U j;have f:=Ro 8 a;refine SeqAt.compareEq_reads N B (SA 8 a h1) (SA 8 b h2) (by omega) ?_;rw[Rm 8 a b h1 h2];exact⟨.bl (lN 8 a b),H,I,rfl,q⟩
theorem an2{X:Cx}(e:X.A.units+64<cLine):iH X (ck .NotEq) (Dk X.K a5):=by
 intro aa s J H x y v u Q I z j h;obtain⟨d,a,b,h1,h2,c,U,q⟩:=h;obtain⟨g,N⟩:=TC I 8 x v a h1 c z;obtain⟨bs,B⟩:=TC I 8 y u b h2 U j;have f:=Ro 8 a;refine SeqAt.compareNe_reads N B (SA 8 a h1) (SA 8 b h2) (by omega) ?_;rw[Rm 8 a b h1 h2];exact⟨.bl (!lN 8 a b),H,I,rfl,q⟩
noncomputable def tS(f:A->ax A):ar A->ax (ar A)
 |[]=>aq []
 |x::xs=>match f x,tS f xs with
  |some y,aq ys=>aq (y::ys)
  |_,_=>av
def res(Z:aG):a9->A->ax A
 |0,a=>if eE 8 a=a5 then aq a else av
 |n+1,a=>if eE 8 a=a5 then aq a else match a with
  |.tup ds=>(tS (res Z n) ds).map .tup
  |.lst ds=>(tS (res Z n) ds).map .lst
  |.aH k=>match Z[k]? with
   |some (.lst ds)=>(tS (res Z n) ds).map .lst
   |_=>av
  |_=>av
section
variable{K:bu}{G H:Hp}{O:ar az}{Z:aG}
theorem Wd.aa7(w:Wd K G O Z H):Ext G O H O:=⟨w.sub,λ_ _ h=>h⟩
theorem UD{f:A->ax A}(ih:∀v a b,Den K G O v a->f a=aq b->Den K H O v b):∀(ds es:ar A) (xs:ar V),bE K G O xs ds->tS f ds=aq es->bE K H O xs es
 |[],es,xs,d,h=>by
  simp only[tS,lD]at h;subst h;rw[wW]at d ⊢;exact d
 |a::ds,es,xs,d,h=>by
  obtain⟨x,t,rfl,N,B⟩:=d.pJ;simp only[tS]at h;split at h
  ·rename_i y j z q;cases h;exact .cons (ih _ _ _ N z) (UD ih ds j t B q)
  ·cases h
theorem Tr(w:Wd K G O Z H):∀(n:a9) (v:V) (a b:A),Den K G O v a->res Z n a=aq b->Den K H O v b:=by
 intro n
 induction n with
 |zero =>
  intro v a b d h;simp only[res]at h;split at h
  ·cases h;exact d.ext w.aa7
  ·cases h
 |succ n ih =>
  intro v a b d h;simp only[res]at h;split at h
  ·cases h;exact d.ext w.aa7
  ·split at h
   ·rename_i ds _;simp only[FD]at h;obtain⟨es,h1,rfl⟩:=h;simp only[Den]at d ⊢;obtain⟨p,j,B,z,q⟩:=d;exact⟨p,j,B,w.sub _ _ z,UD ih ds es j q h1⟩
   ·rename_i ds _;simp only[FD]at h;obtain⟨es,h1,rfl⟩:=h;simp only[Den]at d ⊢;obtain⟨p,j,B,z,q⟩:=d;exact⟨p,j,B,w.sub _ _ z,UD ih ds es j q h1⟩
   ·rename_i k _;split at h
    ·rename_i ds e;simp only[FD]at h;obtain⟨es,h1,rfl⟩:=h;simp only[Den]at d ⊢;obtain⟨p,B,z⟩:=d;obtain⟨g,j,q,N⟩:=w.aH k _ p e z;exact⟨p,j,B,q,UD ih ds es j N h1⟩
    ·cases h
   ·cases h
end
def yX(neg:bt)(a b:A):Mo A:=λZ=>match res Z 6 a,res Z 6 b with
 |some x,aq y=>if(eE 8 x&&eE 8 y)=a5 then aq (.ok (.bl (if neg then !lN 8 x y else lN 8 x y)),Z)else av
 |_,_=>av
def mF:=yX aw
def qN:=yX a5
section
variable{X:Cx}{W:WX}{e a b c:b7}{pos:dj}{fa fb fc:Ev->Mo A}{ta tb:Ev->Mo bt}
theorem Vj{K:bu}{neg:bt}:vR K W (Dk K neg) (yX neg):=by
 intro G q e H J x y a b Q w d c h;unfold yX at h;split at h
 ·rename_i B z U N;split at h
  ·rename_i j;rw[rC]at j;exact⟨q,B,z,j.1,j.2,Tr w 6 x a B d U,Tr w 6 y b z c N,h _ H G q (Ext.refl _ _) w (by simp only[Den])⟩
  ·exact False.elim h
 ·exact False.elim h
theorem tP(j:X.A.units+64<cLine):mX X W (ck .Eq) mF:=⟨_,aoA j,Vj⟩
theorem DE(j:X.A.units+64<cLine):mX X W (ck .NotEq) qN:=⟨_,an2 j,Vj⟩
@[simp] def oF:=ID λi j => .bl (decide (i<j))
@[simp] def rO:=ID λi j => .bl (decide (i<=j))
@[simp] def vK:=ID λi j => .bl (decide (j<i))
@[simp] def OE:=ID λi j => .bl (decide (j<=i))
theorem tO:mX X W (ck .Lt) oF:=⟨_,an5,MD λ_ _ _ _=>by simp only[Den]⟩
theorem vC:mX X W (ck .LtE) rO:=⟨_,an6,MD λ_ _ _ _=>by simp only[Den]⟩
theorem DF:mX X W (ck .Gt) vK:=⟨_,an7,MD λ_ _ _ _=>by simp only[Den]⟩
theorem Vr:mX X W (ck .GtE) OE:=⟨_,an8,MD λ_ _ _ _=>by simp only[Den]⟩
noncomputable def MY:A->ax bt
 |.cZ=>aq a5
 |_=>aq aw
@[simp] def IE:A->Mo bt
 |.bl b=>ret b
 |_=>stuck
@[simp] def cC(f:Ev->Mo A):Ev->Mo bt:=λY=>mb (f Y) IE
theorem SU{K:bu}{t:TE}(h:fC K (Den K) W t fa):fC K CW W (An t) (cC fa):=by
 intro G N a H J z Q w r q;refine h G N a H J z _ w r (bN.mb q λx U v e f B d c j h1=>?_);cases x with
 |bl b=>simp only[Den]at j;exact⟨b,j,lX c rfl h1⟩
 |_=>exact False.elim h1
theorem xQ{j:CmpOp}{g:A->A->Mo A}(U:mX X W (ck j) g)(ha:VE X W a fa)(hb:VE X W b fb)(hm:dm j b=aw):VE X W (.Compare a [j] [b] pos) (aB g fa fb):=by
 obtain⟨r,N,B⟩:=U;obtain⟨t,z,q⟩:=ha;obtain⟨u,p2,s2⟩:=hb;exact⟨_,anJ N z p2 hm,SV B q s2⟩
theorem fX{j:CmpOp}{g:A->A->Mo A}(U:mX X W (ck j) g)(ha:VE X W a fa)(hb:VE X W b fb)(hm:dm j b=aw):VT X W (.Compare a [j] [b] pos) (cC (aB g fa fb)):=by
 obtain⟨r,N,B⟩:=U;obtain⟨t,z,q⟩:=ha;obtain⟨u,p2,s2⟩:=hb;exact⟨_,alY N z p2 hm,SU (SV B q s2)⟩
@[simp] def CN(g g':A->A->Mo A)(q f2 j:Ev->Mo A):Ev->Mo A:=λY=>mb (q Y) λx=>mb (f2 Y) λy=>mb (g x y) λz=>mb (IE z) λk=>if k then mb (j Y) λu=>g' y u else ret (.bl aw)
theorem aiN{K:bu}{r C:R2}{g g':A->A->Mo A}{t s p:TE}(V:vR K W r g)(T:vR K W C g')(h1:fC K (Den K) W t fa)(h2:fC K (Den K) W s fb)(h3:fC K (Den K) W p fc):fC K (Den K) W (Se r C t s p) (CN g g' fa fb fc):=by
 intro G F I H J j Q w q h;refine h1 G F I H J j _ w q (bN.mb h λx e v H1 G1 a n R d1 h1=>?_);refine h2 G1 a e H1 J j _ R (q.ext n) (bN.mb h1 λy d u H2 G2 U l P E h2=>?_);refine V G2 U d H2 J v u x y _ P (d1.ext l) E (bN.mb h2 λz c z' H3 G3 N i o D f=>?_);cases z with
 |bl k =>
  simp only[Den]at D;refine⟨k,D,?_⟩;cases k with
  |true=>exact h3 G3 N c H3 J j _ o (q.ext ((n.trans l).trans i)) (bN.mb f λm b S H4 G4 B L M d4 X=>T G4 B b H4 J u S y m Q M (E.ext (i.trans L)) d4 X)
  |false=>exact lX o (by simp only[Den]) f
 |_=>exact False.elim f
theorem Qi{q j:CmpOp}{g g':A->A->Mo A}(h:mX X W (ck q) g)(f:mX X W (ck j) g')(ha:VE X W a fa)(hb:VE X W b fb)(i:VE X W c fc)
  (hm:lastMarks [q,j] [b,c]=aw:=by with_unfolding_all rfl):VT X W (.Compare a [q,j] [b,c] pos) (cC (CN g g' fa fb fc)):=by
 obtain⟨r,e,d⟩:=h;obtain⟨n,k,l⟩:=f;obtain⟨t,U,B⟩:=ha;obtain⟨u,p2,s2⟩:=hb;obtain⟨m,N,z⟩:=i;exact⟨_,al0 e k U p2 N hm,SU (aiN d l B s2 z)⟩
theorem qA(h:VE X W e fa)(he:∀whole,isTrue e X.env whole=(do let v<-whole;standAt e.pos;d8 [v] (truthy v)):=by intro _;rfl):VT X W e (cC fa):=by
 obtain⟨t,p,s⟩:=h;exact⟨_,alW p he,SU s⟩
@[simp] def zZ(f g:Ev->Mo bt):Ev->Mo bt:=λY=>mb (f Y) λc=>if c then g Y else ret aw
@[simp] def mP(f g:Ev->Mo bt):Ev->Mo bt:=λY=>mb (f Y) λc=>if c then ret a5 else g Y
@[simp] def mQ(f:Ev->Mo bt):Ev->Mo bt:=λY=>mb (f Y) λc=>ret (!c)
variable{af:ar b7}
theorem Qg(h:VT X W a ta):VW X W (.BoolOp .And [a] pos) ta:=let ⟨t,p,s⟩:=h; ⟨t,pw_and1 p,s⟩
theorem uR(h:VT X W a ta):VW X W (.BoolOp .Or [a] pos) ta:=let ⟨t,p,s⟩:=h; ⟨t,pw_or1 p,s⟩
theorem Qh(h1:VT X W a ta)(h2:VW X W (.BoolOp .And (b::af) pos) tb):VW X W (.BoolOp .And (a::b::af) pos) (zZ ta tb):=by
 obtain⟨t,f,e⟩:=h1;obtain⟨u,p2,s2⟩:=h2;refine⟨_,pw_and f p2,λG N U H J z Q w r h=>?_⟩;refine e G N U H J z _ w r (bN.mb h λc q i k l j d B g h1=>?_);cases(show i=c from g);cases c with
 |true=>exact s2 l j q k J z Q B (r.ext d) h1
 |false=>exact lX B rfl h1
theorem tM(h1:VT X W a ta)(h2:VW X W (.BoolOp .Or (b::af) pos) tb):VW X W (.BoolOp .Or (a::b::af) pos) (mP ta tb):=by
 obtain⟨t,f,e⟩:=h1;obtain⟨u,p2,s2⟩:=h2;refine⟨_,pw_or f p2,λG N U H J z Q w r h=>?_⟩;refine e G N U H J z _ w r (bN.mb h λc q i k l j d B g h1=>?_);cases(show i=c from g);cases c with
 |false=>exact s2 l j q k J z Q B (r.ext d) h1
 |true=>exact lX B rfl h1
theorem VW.vt(h:VW X W e ta):VT X W e ta:=let ⟨t,p,s⟩:=h; ⟨t,p.pt,s⟩
theorem sD(h:VT X W a ta):VT X W (.UnaryOp .Not a pos) (mQ ta):=by
 obtain⟨t,p,s⟩:=h;refine⟨_,alX p,λG z N H J j Q w r h=>?_⟩;refine s G z N H J j _ w r (bN.mb h λc B d f g q e U b h1=>?_);cases(show d=c from b);exact lX U rfl h1
@[simp] def Qz(f g:Ev->Mo A):Ev->Mo A:=λY=>mb (f Y) λx=>mb (IE x) λc=>if c then g Y else ret (.bl aw)
@[simp] def CL(f g:Ev->Mo A):Ev->Mo A:=λY=>mb (f Y) λx=>mb (IE x) λc=>if c then ret (.bl a5)else g Y
theorem RT{j}(h:VE X W a fa):VE X W (.BoolOp j [a] pos) fa:=let ⟨t,p,s⟩:=h; ⟨t,am1 p,s⟩
theorem af8(h1:VE X W a fa)(h2:VE X W (.BoolOp .And (b::af) pos) fb):VE X W (.BoolOp .And (a::b::af) pos) (Qz fa fb):=by
 obtain⟨t,g,f⟩:=h1;obtain⟨u,p2,s2⟩:=h2;refine⟨_,anR g p2,λG U d H J z Q w r h=>?_⟩;refine f G U d H J z _ w r (bN.mb h λx q v i k j e B N h1=>?_);cases x with
 |bl c =>
  simp only[Den]at N;refine⟨c,N,?_⟩;cases c with
  |true=>exact s2 k j q i J z Q B (r.ext e) h1
  |false=>exact lX B (by simp only[Den]) h1
 |_=>exact False.elim h1
theorem ZP(h1:VE X W a fa)(h2:VE X W (.BoolOp .Or (b::af) pos) fb):VE X W (.BoolOp .Or (a::b::af) pos) (CL fa fb):=by
 obtain⟨t,g,f⟩:=h1;obtain⟨u,p2,s2⟩:=h2;refine⟨_,amZ g p2,λG U d H J z Q w r h=>?_⟩;refine f G U d H J z _ w r (bN.mb h λx q v i k j e B N h1=>?_);cases x with
 |bl c =>
  simp only[Den]at N;refine⟨c,N,?_⟩;cases c with
  |false=>exact s2 k j q i J z Q B (r.ext e) h1
  |true=>exact lX B (by simp only[Den]) h1
 |_=>exact False.elim h1
@[simp] def ZX(t:Ev->Mo bt)(f g:Ev->Mo A):Ev->Mo A:=λY=>mb (t Y) λc=>if c then f Y else g Y
theorem Ql(l:VT X W c ta)(h1:VE X W a fa)(h2:VE X W b fb):VE X W (.IfExp c a b pos) (ZX ta fa fb):=by
 obtain⟨o,k,s0⟩:=l;obtain⟨t,i,g⟩:=h1;obtain⟨u,p2,s2⟩:=h2;refine⟨_,anC k i p2,λG e f H J z Q w r h=>?_⟩;refine s0 G e f H J z _ w r (bN.mb h λc q n U d j B N m h1=>?_);cases(show n=c from m);cases c with
 |true=>exact g d j q U J z Q N (r.ext B) h1
 |false=>exact s2 d j q U J z Q N (r.ext B) h1
@[simp] def ZU(f:Ev->Mo A):Ev->Mo A:=λY=>mb (f Y) λx=>match x with
 |.int i=>ret (.int (-i))
 |_=>stuck
theorem Qk(h:VE X W a fa):VE X W (.UnaryOp .USub a pos) (ZU fa):=by
 obtain⟨t,p,s⟩:=h;refine⟨_,amX agH p,λG B U H J q Q w r h=>?_⟩;refine s G B U H J q _ w r (bN.mb h λx N v e f z d b j h1=>?_);cases x with
 |int c =>
  simp only[Den]at j;exact⟨c,j,lX b (by simp only[Den]) h1⟩
 |_=>exact False.elim h1
end
inductive Out where
 |nx|bk|ct|ret (a:A)|exc (x:Exc)
abbrev OS:=ax (Out×Ev×aG)
abbrev MS:=Ev->aG->OS
def aBV(K:bu)(W:WX)(G:Hp)(O:ar az)(D:Ends)(J:L2.St)(H:Hp):Out->Prop
 |.nx=>D.nx J H
 |.bk=>D.bk J H
 |.ct=>D.ct J H
 |.ret a=>∀v,Den K G O v a->D.rt v H
 |.exc x=>∀cls dx,aeL K G O H x cls dx->W J cls dx H
def fM(K:bu)(W:WX)(G:Hp)(O:ar az)(D:Ends):OS->Prop
 |some (o,Y',Z')=>∀j H' G' O',Ext G O G' O'->Wd K G' O' Z' H'->iJ K G' O' j Y'->aBV K W G' O' D j H' o
 |none=>cq
@[simp] noncomputable def sM{α:Type}(m:Mo α)(Y:Ev)(k:α->aG->OS):aG->OS:=λZ=>match m Z with
 |some (.ok a,Z1)=>k a Z1
 |some (.exc x,Z1)=>aq (.exc x,Y,Z1)
 |none=>av
section
variable{K:bu}{W:WX}{G:Hp}{O:ar az}{Z:aG}{J:L2.St}{Y:Ev}{D:Ends}
theorem fM.ext{B:Hp}{j:ar az}{r:OS}(h:fM K W G O D r)(e:Ext G O B j):fM K W B j D r:=by
 match r,h with
 |some (o,N,U),h=>exact λq a b z x w d=>h q a b z (e.trans x) w d
theorem fM.sM{α β:Type}{rel:Rl α β}{m:Mo α}{k:α->aG->OS}{N:β->Hp->Prop}(h:fM K W G O D (V2.sM m Y k Z))(r:iJ K G O J Y)
  (U:∀a Z1 v H1 z j,Ext G O z j->Wd K z j Z1 H1->rel z j v a->fM K W z j D (k a Z1)->N v H1):bN K rel W G O J N (m Z):=by
 unfold V2.sM at h
 revert h
 generalize m Z=q;intro h
 match q,h with
 |some (.ok a,Z1),h=>exact λv H1 z j x w d=>U a Z1 v H1 z j x w d (fM.ext h x)
 |some (.exc x,Z1),h=>exact λcls b c f B e w d=>h J c f B e w (r.ext e) cls b d
end
def vQ(K:bu)(W:WX)(t:TS)(f:MS):Prop:=∀G O Z H J Y D,Wd K G O Z H->iJ K G O J Y->fM K W G O D (f Y Z)->t D J H
def VS(X:Cx)(W:WX)(st:cb)(f:MS):Prop:=∃t,PS X st t/\vQ X.K W t f
def kU(X:Cx)(W:WX)(st:ar cb)(f:MS):Prop:=∃t,tF X st t/\vQ X.K W t f
def PX(K:bu)(W:WX)(t:TG)(g:A->MS):Prop:=∀G O Z H J Y v a D,Wd K G O Z H->iJ K G O J Y->Den K G O v a->fM K W G O D (g a Y Z)->t v J H D.nx
def aBS(K:bu)(W:WX)(t:BS)(g:ar A->MS):Prop:=∀G O Z H J Y vs as D,Wd K G O Z H->iJ K G O J Y->bE K G O vs as->fM K W G O D (g as Y Z)->t vs J H D.nx
def VG(X:Cx)(W:WX)(tg:b7)(g:A->MS):Prop:=∃t,PG X tg t/\PX X.K W t g
def XN(X:Cx)(W:WX)(j:ar b7)(g:ar A->MS):Prop:=∃t,QA X j t/\aBS X.K W t g
@[simp] noncomputable def fY:MS:=λY Z=>aq (.nx,Y,Z)
@[simp] noncomputable def aV(f g:MS):MS:=λY Z=>match f Y Z with
 |some (.nx,Y1,Z1)=>g Y1 Z1
 |r=>r
section
variable{X:Cx}{W:WX}{st:cb}{af:ar cb}{f g:MS}{e:b7}{fe:Ev->Mo A}{pos:dj}
theorem wJ{K:bu}{G H:Hp}{O:ar az}{Z:aG}{J:L2.St}{Y:Ev}{D:Ends}(w:Wd K G O Z H)(r:iJ K G O J Y)(h:fM K W G O D (aq (.nx,Y,Z))):D.nx J H:=h J H G O (Ext.refl _ _) w r
theorem gQ:kU X W [] fY:=⟨_,al2,λ_ _ _ _ _ _ _ w r h=>wJ w r h⟩
theorem aiG{K:bu}{t u:TS}(h1:vQ K W t f)(h2:vQ K W u g):vQ K W (Rz t u) (aV f g):=by
 intro G c b H J U D w r h;refine h1 G c b H J U _ w r ?_;unfold aV at h
 revert h
 generalize f U b=q;intro h
 match q,h with
 |some (.nx,j,z),h=>exact λB i k N x d e=>h2 k N z i B j D d e (fM.ext h x)
 |some (.bk,j,z),h=>exact h
 |some (.ct,j,z),h=>exact h
 |some (.ret a,j,z),h=>exact h
 |some (.exc a,j,z),h=>exact h
theorem bA(h1:VS X W st f)(h2:kU X W af g):kU X W (st::af) (aV f g):=by
 obtain⟨t,q,j⟩:=h1;obtain⟨u,p2,s2⟩:=h2;exact⟨_,al3 q p2,aiG j s2⟩
theorem bG(h1:VS X W st f):kU X W [st] f:=let ⟨t,p,s⟩:=h1; ⟨t,al1 p,s⟩
@[simp] def kX(fe:Ev->Mo A):MS:=λY=>sM (fe Y) Y λ_ Z=>aq (.nx,Y,Z)
theorem oN(h:VE X W e fe)(c:ez e av pos.line X.env=pure aw:=by rfl):VS X W (.Expr e pos) (kX fe):=by
 obtain⟨t,p,s⟩:=h;refine⟨_,amB p c,λG z N H J j D w r h=>?_⟩;exact s G z N H J j _ w r (fM.sM h r λa B v f g q U b d h1=>wJ b (r.ext U) h1)
@[simp] def bW(fe:Ev->Mo A):MS:=λY=>sM (fe Y) Y λa Z=>aq (.ret a,Y,Z)
theorem dB(h:VE X W e fe):VS X W (.Return (aq e) pos) (bW fe):=by
 obtain⟨t,p,s⟩:=h;refine⟨_,al6 p,λG z N H J q D w r h=>?_⟩;exact s G z N H J q _ w r (fM.sM h r λa B v d f j U b c h1=>h1 J d f j (Ext.refl _ _) b (r.ext U) v c)
@[simp] def eW(c:Ev->Mo bt)(f g:MS):MS:=λY=>sM (c Y) Y λb Z=>if b then f Y Z else g Y Z
theorem gJ{c:b7}{a b:ar cb}{fc:Ev->Mo bt}(n:VT X W c fc)(h1:kU X W a f)(h2:kU X W b g):VS X W (.If c a b pos) (eW fc f g):=by
 obtain⟨s,m,s0⟩:=n;obtain⟨t,l,k⟩:=h1;obtain⟨u,p2,s2⟩:=h2;refine⟨_,al8 m l p2,λG e i H J z D w r h=>?_⟩;refine s0 G e i H J z _ w r (fM.sM h r λc q p U d j B N o h1=>?_);cases(show p=c from o);cases c with
 |true=>exact k d j q U J z D N (r.ext B) h1
 |false=>exact s2 d j q U J z D N (r.ext B) h1
@[simp] noncomputable def gN(i:a9):A->MS:=λa Y Z=>aq (.nx,Y.set i (aq a),Z)
theorem afV{i:a9}{x:bh}(z:X.N.Nodup)(hi:X.N[i]?=aq x)(j:Loc X.env.scope x)(q:X.fn x=a5\/X.env.scope.names.lookup x=aq .local:=by first|exact .inl rfl|exact .inr rfl|assumption):VG X W (.Name x pos) (gN i) :=
 ⟨_,amW z hi j q,λ_ _ _ _ _ _ _ _ _ w r d h=>wJ w (r.set i d) h⟩
@[simp] noncomputable def jA:ar A->MS:=λas Y Z=>match as with
 |[]=>aq (.nx,Y,Z)
 |_=>av
@[simp] def dH(g:A->MS)(gs:ar A->MS):ar A->MS:=λas=>match as with
 |a::r=>aV (g a) (gs r)
 |[]=>λ_ _=>av
theorem sE:XN X W [] jA:=⟨_,amR,λG z B H J q N j D w r d h=>by
 cases j with
 |nil=>rw[wW]at d;exact⟨d,wJ w r h⟩
 | cons=>exact False.elim h⟩
theorem jQ{es:ar b7}{g:A->MS}{gs:ar A->MS}(h1:VG X W e g)(h2:XN X W es gs)
  (p:(dn (e::es) X.env).map (·.2)=assign e X.env::(dn es X.env).map (·.2):=by rfl):XN X W (e::es) (dH g gs):=by
 obtain⟨t,o,m⟩:=h1;obtain⟨u,p2,s2⟩:=h2;refine⟨_,amS o p2 p,λG k i H J f C b D w r d h=>?_⟩;cases b with
 |nil=>exact False.elim h
 |cons a b =>
  obtain⟨x,U,rfl,v,s⟩:=d.pJ;refine⟨x,U,rfl,m G k i H J f x a {D with nx:=λB c=>u U B c D.nx} w r v ?_⟩;simp only[dH,aV]at h
  revert h
  generalize g a f i=q;intro h
  match q,h with
  |some (.nx,j,z),h=>exact λB c y N x l n=>s2 y N z c B j U b D l n (s.ext x) (fM.ext h x)
  |some (.bk,j,z),h=>exact h
  |some (.ct,j,z),h=>exact h
  |some (.ret a,j,z),h=>exact h
  |some (.exc a,j,z),h=>exact h
@[simp] noncomputable def iM(n:a9)(gs:ar A->MS):A->MS:=λa Y Z=>match a with
 |.tup ds=>if ds.length=n then gs ds Y Z else av
 |_=>av
theorem sF{es:ar b7}{k:a9}{n:a9}{gs:ar A->MS}(b:X.calm=a5)(h:XN X W es gs)
  (hn:(dn es X.env).length=n:=by rfl) (U:(dn es X.env).findIdx? (·.1)=av:=by rfl):VG X W (.Tuple es k pos) (iM n gs):=by
 obtain⟨t,p,s⟩:=h;refine⟨_,amU b p hn U,λG B N H J z v a D w r d h=>?_⟩;unfold iM at h;cases a with
 |tup ds =>
  simp only at h
  by_cases hl:ds.length=n
  ·rw[bb hl]at h;simp only[Den]at d;obtain⟨p,j,rfl,h2,q⟩:=d;exact⟨p,j,rfl,kI.of (w.sub _ _ h2),by rw[q.length];exact hl,s G B N H J z j ds D w r q h⟩
  ·rw[bc hl]at h;exact False.elim h
 |_=>exact False.elim h
@[simp] def setCell(o i v:A)(Z:aG):ax aG:=match o,i with
 |.aH k,.int n=>match Z[k]? with
  |some (.lst ds)=>match sN ds.length n with
   |some j=>aq (Z.set k (.lst (ds.set j v)))
   |none=>av
  |_=>av
 |_,_=>av
@[simp] def yW(fo fi:Ev->Mo A):A->MS:=λa Y=>sM (fo Y) Y λo=>sM (fi Y) Y λi Z=>match setCell o i a Z with
 |some Z'=>aq (.nx,Y,Z')
 |none=>av
theorem RR{o i:b7}{fo fi:Ev->Mo A}(T:VE X W o fo)(hi:VE X W i fi)
  (ha:∀v,assign (.Subscript o i pos) X.env v=(do
   let B<-d8 [v] (cg o X.env)
   let g<-d8 [v,B] (cg i X.env)
   standAt pos
   d8 [v,B,g] (setItem B g v)
   release [v,B,g] []):=by intro _;rfl):VG X W (.Subscript o i pos) (yW fo fi):=by
 obtain⟨t,S,R⟩:=T;obtain⟨u,p2,s2⟩:=hi;refine⟨_,amV S p2 set_list ha,λG L M H J m v a D w r d h=>?_⟩;refine R G L M H J m _ w r (fM.sM h r λx b v1 H1 G1 N z Q d1 h1=>?_);refine s2 G1 N b H1 J m _ Q (r.ext z) (fM.sM h1 (r.ext z) λy U v2 H2 G2 K f s I h2=>?_);unfold setCell at h2;cases x with
 |aH k =>
  cases y with
  |int n =>
   simp only at h2;cases e:U[k]? with
   |none=>rw[e]at h2;exact False.elim h2
   |some c =>
    rw[e]at h2;cases c with
    |lst ds =>
     simp only at h2;cases l:sN ds.length n with
     |none=>rw[l]at h2;exact False.elim h2
     |some j =>
      rw[l]at h2;have q:=d1.ext f;simp only[Den]at q I;obtain⟨p,rfl,C⟩:=q;obtain⟨F,P,V,E⟩:=s.aH k _ p e C;refine⟨p,P,n,j,rfl,I,V,by rw[E.length];exact l,?_⟩;refine wJ (s.put (c:=.lst (ds.set j a)) C F ⟨F,_,eA,?_⟩) (r.ext (z.trans f)) h2;exact bE.set (d.ext (z.trans f)) j E
    |_=>exact False.elim h2
  |_=>exact False.elim h2
 |_=>exact False.elim h2
@[simp] def bP(fe:Ev->Mo A)(g:A->MS):MS:=λY=>sM (fe Y) Y λa Z=>g a Y Z
theorem Td{K:bu}{te:TE}{t:TG}{g:A->MS}(h1:fC K (Den K) W te fe)(h2:PX K W t g):vQ K W (Au te t) (bP fe g):=by
 intro G B N H J z D w r h;exact h1 G B N H J z _ w r (fM.sM h r λa q v d e j U b c h1=>h2 e j q d J z v a D b (r.ext U) c h1)
theorem LG{tg:b7}{g:A->MS}(he:VE X W e fe)(B:VG X W tg g)(z:swapsWithSole [tg] e pos.line X.env=pure aw:=by rfl)(hw:swappedStores [tg] e X.env=pure av:=by rfl)
  (h1:(dn [tg] X.env).map (·.2)=[assign tg X.env]:=by rfl):VS X W (.Assign [tg] e pos) (bP fe g):=by
 obtain⟨t,q,j⟩:=he;obtain⟨u,p2,s2⟩:=B;exact⟨_,amD q p2 z hw h1,Td j s2⟩
theorem afS{i:a9}{x:bh}{pos':dj}(a:X.N.Nodup)(hi:X.N[i]?=aq x)(z:Loc X.env.scope x)(he:VE X W e fe)(B:ez e (aq (.Name x pos')) pos.line X.env=pure aw:=by rfl)(U:X.fn x=a5\/X.env.scope.names.lookup x=aq .local:=by first|exact .inl rfl|exact .inr rfl|assumption) :
  VS X W (.Assign [.Name x pos'] e pos) (bP fe (gN i)):=by
 obtain⟨t,q,j⟩:=he;exact⟨_,al5 a hi z q B U,Td j λ_ _ _ _ _ _ _ _ _ w r d h=>wJ w (r.set i d) h⟩
structure Src where
 ds:ar A
 ok:aG->Prop
structure KD(K:bu)(G:Hp)(O:ar az)(σ:It)(S:Src):Prop where
 go:∀G' O' Z' H',Ext G O G' O'->Wd K G' O' Z' H'->S.ok Z'->∀i,i<S.ds.length->σ.go i H'
 stop:∀G' O' Z' H',Ext G O G' O'->Wd K G' O' Z' H'->S.ok Z'->∀i,S.ds.length<=i->σ.stop i H'
 CG:∀G' O' Z' H',Ext G O G' O'->Wd K G' O' Z' H'->S.ok Z'->∀i x H2 d,S.ds[i]?=aq d->σ.CG i H' x H2->∃G2,Ext G' O' G2 O'/\Wd K G2 O' Z' H2/\Den K G2 O' x d
def Di(K:bu):Rl Src It:=λG O σ S=>KD K G O σ S
def VI(X:Cx)(W:WX)(tg iter:b7)(f:Ev->Mo Src):Prop:=∃t,PI X tg iter t/\fC X.K (Di X.K) W t f
open Classical in
noncomputable def eZ(ok:aG->Prop)(g:A->MS)(b:MS):ar A->MS
 |[],Y,Z=>if ok Z then aq (.nx,Y,Z)else av
 | x::xs,Y,Z=>if ok Z then(match g x Y Z with
  | some (.nx,Y0,Z0)=>(match b Y0 Z0 with
   |some (.nx,Y1,Z1)=>eZ ok g b xs Y1 Z1
   |some (.ct,Y1,Z1)=>eZ ok g b xs Y1 Z1
   |some (.bk,Y1,Z1)=>aq (.nx,Y1,Z1)
   | r=>r)
  |some (.exc e,Y0,Z0)=>aq (.exc e,Y0,Z0)
  | _=>av)else av
@[simp] noncomputable def jR(fi:Ev->Mo Src)(g:A->MS)(b:MS):MS:=λY=>sM (fi Y) Y λS Z=>eZ S.ok g b S.ds Y Z
theorem axL{K:bu}{G:Hp}{O:ar az}{D:Ends}{ok:aG->Prop}{g:A->MS}{b:MS}{xs:ar A}{Y:Ev}{Z:aG}(h:fM K W G O D (eZ ok g b xs Y Z)):ok Z:=by
 cases xs with
 |nil =>
  unfold eZ at h
  by_cases j:ok Z
  ·exact j
  ·rw[bc j]at h;exact False.elim h
 |cons =>
  unfold eZ at h
  by_cases j:ok Z
  ·exact j
  ·rw[bc j]at h;exact False.elim h
theorem aiJ{K:bu}{wi:TI}{tg:TG}{tb:TS}{fi:Ev->Mo Src}{g:A->MS}{b:MS}(hi:fC K (Di K) W wi fi)(hg:PX K W tg g)(hb:vQ K W tb b):vQ K W (Sa wi tg tb) (jR fi g b):=by
 intro G O Z H J Y D w r h;refine hi G O Z H J Y _ w r (fM.sM h r λS Z1 σ H1 G1 E x1 w1 j1 h1=>?_);refine⟨λi m v V=>m=S.ds.length-i/\i<=S.ds.length/\∃t B N e,Ext G1 E t B/\Wd K t B N V/\iJ K t B v e/\fM K W t B D (eZ S.ok g b (S.ds.drop i) e N),
  ⟨_,rfl,BU _,G1,E,Z1,Y,Ext.refl _ _,w1,r.ext x1,by simpa using h1⟩,?_⟩
 rintro i m v V ⟨rfl,hil,t,B,N,e,R,X,r',h'⟩;have aJ:=axL h'
 by_cases bZ:i<S.ds.length
 ·right
  refine⟨j1.go t B N V R X aJ i bZ,λM T=>∃L o Q P,Ext G1 E L o/\Wd K L o Q T/\iJ K L o M P/\fM K W L o D (eZ S.ok g b (S.ds.drop (i+1)) P Q),λM T n=>?_,λx T y=>?_⟩
  ·exact⟨S.ds.length-(i+1),by omega,rfl,bZ,n⟩
  ·obtain⟨L,p,w2,d2⟩:=j1.CG t B N V R X aJ i x T S.ds[i] (dZ bZ) y;rw[vV bZ]at h';unfold eZ at h';rw[bb aJ]at h';refine hg L B N T v e x S.ds[i] {D with nx:=λu H3=>tb _ u H3} w2 (r'.ext p) d2 ?_
   revert h'
   generalize g S.ds[i] e N=q;intro h'
   match q,h' with
   |some (.nx,C,F),h' =>
    intro u H3 G3 O3 I w3 r3;refine hb G3 O3 F H3 u C _ w3 r3 ?_;simp only at h'
    revert h'
    generalize b C F=q2;intro h'
    match q2,h' with
    |some (.nx,U,c),h'=>exact λz s l j d f k=>⟨l,j,c,U,(R.trans (p.trans I)).trans d,f,k,fM.ext h' ((p.trans I).trans d)⟩
    |some (.ct,U,c),h'=>exact λz s l j d f k=>⟨l,j,c,U,(R.trans (p.trans I)).trans d,f,k,fM.ext h' ((p.trans I).trans d)⟩
    |some (.bk,U,c),h'=>exact λz s l j d f k=>h' z s l j ((p.trans I).trans d) f k
    |some (.ret a,U,c),h'=>exact λz s l j d f k=>h' z s l j ((p.trans I).trans d) f k
    |some (.exc a,U,c),h'=>exact λz s l j d f k=>h' z s l j ((p.trans I).trans d) f k
   |some (.exc a,C,F),h'=>exact λz s l j d f k=>h' z s l j (p.trans d) f k
 ·have yR:i=S.ds.length:=by omega
  subst yR
  left
  rw[JW]at h';unfold eZ at h';rw[bb aJ]at h';exact⟨j1.stop t B N V R X aJ _ cX,wJ X r' h'⟩
theorem rE{tg iter:b7}{body:ar cb}{fi:Ev->Mo Src}{g:A->MS}{b:MS}(U:PassesOwn (bw X.prog X.w) X.A X.env X.xe)(c:X.calm=a5)(hi:VI X W tg iter fi)(a:VG X W tg g)(hb:kU X W body b)
  (N:∀x,df iter X.env x=pure x:=by intro _;rfl):VS X W (.For tg iter body [] pos) (jR fi g b):=by
 obtain⟨f,B,q⟩:=hi;obtain⟨e,p2,s2⟩:=a;obtain⟨d,z,j⟩:=hb;exact⟨_,al9 U c B p2 z N,aiJ q s2 j⟩
def mG(c:Ev->Mo bt)(b:MS):a9->MS
 |0,_,_=>av
 | n+1,Y,Z=>sM (c Y) Y (λk Z1=>if k then(match b Y Z1 with
   |some (.nx,Y1,Z2)=>mG c b n Y1 Z2
   |some (.ct,Y1,Z2)=>mG c b n Y1 Z2
   |some (.bk,Y1,Z2)=>aq (.nx,Y1,Z2)
   | r=>r)else aq (.nx,Y,Z1)) Z
theorem aiE{K:bu}{tc:TT}{tb:TS}{c:Ev->Mo bt}{b:MS}(n:Ev->aG->a9)(T:fC K CW W tc c)(hb:vQ K W tb b):vQ K W (Ry tc tb) (λY Z=>mG c b (n Y Z) Y Z):=by
 intro G I Z H J Y D w r h;refine⟨λm f L=>∃t U i N,Ext G I t U/\Wd K t U i L/\iJ K t U f N/\fM K W t U D (mG c b m N i),⟨_,G,I,Z,Y,Ext.refl _ _,w,r,h⟩,?_⟩;rintro m f L ⟨t,U,i,N,P,R,C,h'⟩;cases m with
 |zero=>exact False.elim h'
 |succ m =>
  unfold mG at h';refine T t U i L f N _ R C (fM.sM h' C λk y S X G1 F A M V h1=>?_);cases(show S=k from V);cases k with
  |false=>exact wJ M (C.ext A) h1
  |true =>
   refine⟨λu Q=>∃E g x v,Ext G I E g/\Wd K E g x Q/\iJ K E g u v/\fM K W E g D (mG c b m v x),λu Q q=>⟨m,XX _,q⟩,?_⟩;refine hb G1 F y X f N _ M (C.ext A) ?_;simp only[gT]at h1
   revert h1
   generalize b N y=q;intro h1
   match q,h1 with
   |some (.nx,B,d),h1=>exact λz s p j e l o=>⟨p,j,d,B,(P.trans A).trans e,l,o,fM.ext h1 e⟩
   |some (.ct,B,d),h1=>exact λz s p j e l o=>⟨p,j,d,B,(P.trans A).trans e,l,o,fM.ext h1 e⟩
   |some (.bk,B,d),h1=>exact λz s p j e l o=>h1 z s p j e l o
   |some (.ret a,B,d),h1=>exact λz s p j e l o=>h1 z s p j e l o
   |some (.exc a,B,d),h1=>exact λz s p j e l o=>h1 z s p j e l o
theorem RO{j:b7}{body:ar cb}{c:Ev->Mo bt}{b:MS}(n:Ev->aG->a9)(B:PassesOwn (bw X.prog X.w) X.A X.env X.xe)(N:VT X W j c)(hb:kU X W body b):VS X W (.While j body [] pos) (λY Z=>mG c b (n Y Z) Y Z):=by
 obtain⟨a,z,q⟩:=N;obtain⟨U,p2,s2⟩:=hb;exact⟨_,al4 B z p2,aiE n q s2⟩
@[simp] def srcOf(a:A)(ds:ar A):Src:=⟨ds,λZ=>hZ Z a=aq ds⟩
theorem Wx{Z:aG}{a:A}{ds:ar A}(h:hZ Z a=aq ds)(ha:∀es,a≠.tup es):fV Z a=aq ds:=by
 cases a with
 |tup es=>exact b8 rfl (ha es)
 |_=>exact h
theorem amN{tg l:b7}{tl:TE}(hl:PE X l tl):PI X tg l (λJ H R=>tl J H λx H1=>∃a,x=.ref a/\(((∃xs,fW X.K H1 a xs)/\R (Nk X.K a) H1)\/((∃xs,kI X.K H1 a xs)/\R (Nj X.K a) H1))):=by
 intro aa s J H R I h;refine bI (hl aa s J H _ I h) λv j ⟨x,H1,z,c,d⟩=>?_;obtain⟨a,e,q⟩:=d;subst e;cases c
 rcases q with⟨⟨xs,B⟩,q⟩|⟨⟨xs,B⟩,q⟩
 ·obtain⟨N,U,p,f⟩:=z.list B;refine wpAny_pyIter_list p.isList ?_;refine⟨j.heap.objs.size,[j.heap.objs.size],_,_,H1,rfl,z.kept (t':=j.toks) λb o e=>eI _ e,agR a _,⟨_,gO _ rfl,rfl,rfl⟩,λb hb=>?_,q⟩;have e:b=j.heap.objs.size:=by simpa using hb
  subst e;exact z.wR cX (z.aJ.fresh cX)
 ·obtain⟨N,U,p,f⟩:=z.tuple B;refine wpAny_pyIter_tuple (show j.heap.IsTuple a N.toArray from p) ?_;refine⟨j.heap.objs.size,[j.heap.objs.size],_,_,H1,rfl,z.kept (t':=j.toks) λb o e=>eI _ e,agP a _,⟨_,gO _ rfl,rfl,rfl⟩,λb hb=>?_,q⟩;have e:b=j.heap.objs.size:=by simpa using hb
  subst e;exact z.wR cX (z.aJ.fresh cX)
@[simp] def fH(f:Ev->Mo A):Ev->Mo Src:=λY=>mb (f Y) λa Z=>match hZ Z a with
 |some ds=>aq (.ok (srcOf a ds),Z)
 |none=>av
theorem arO{K:bu}{G:Hp}{O:ar az}{p:az}{a:A}{ds:ar A}(d:Den K G O (.ref p) a)(ha:∀es,a≠.tup es):KD K G O (Nk K p) (srcOf a ds):=by
 have key:∀U j B b,Ext G O U j->Wd K U j B b->hZ B a=aq ds->∃N,fW K b p N/\bE K U j N ds:=λU j B b e w h=>by
  obtain⟨q,N,h1,h2,c⟩:=AU w (d.ext e) (Wx h ha);cases h1;exact⟨N,h2,c⟩
 refine⟨λU j B b e w h i hi=>?_,λU j B b e w h i hi=>?_,λU j B b e w h i x n y k hd=>?_⟩
 ·obtain⟨N,h2,c⟩:=key U j B b e w h;have hl:i<N.length:=by rw[c.length];exact hi
  exact⟨N,N[i],h2,dZ hl⟩
 ·obtain⟨N,h2,c⟩:=key U j B b e w h;exact⟨N,h2,by rw[c.length];exact hi⟩
 ·obtain⟨N,h2,c⟩:=key U j B b e w h;obtain⟨m,l⟩:=hd;subst m;obtain⟨z,f,g⟩:=c.get k;rw[l N h2]at f;cases f;exact⟨U,Ext.refl _ _,w,g⟩
theorem arN{K:bu}{G:Hp}{O:ar az}{p:az}{ds es:ar A}(d:Den K G O (.ref p) (.tup es)):KD K G O (Nj K p) (srcOf (.tup es) ds):=by
 have key:∀U j B a,Ext G O U j->Wd K U j B a->hZ B (.tup es)=aq ds->∃N,kI K a p N/\bE K U j N ds:=λU j B a e w h=>by
  simp only[hZ,lD]at h;subst h;have d':=d.ext e;simp only[Den]at d';obtain⟨q,N,h1,h2,b⟩:=d';cases h1;exact⟨N,kI.of (w.sub _ _ h2),b⟩
 refine⟨λU j B a e w h i hi=>?_,λU j B a e w h i hi=>?_,λU j B a e w h i x m y g hd=>?_⟩
 ·obtain⟨N,h2,b⟩:=key U j B a e w h;have hl:i<N.length:=by rw[b.length];exact hi
  exact⟨N,N[i],h2,dZ hl⟩
 ·obtain⟨N,h2,b⟩:=key U j B a e w h;exact⟨N,h2,by rw[b.length];exact hi⟩
 ·obtain⟨N,h2,b⟩:=key U j B a e w h;obtain⟨l,k⟩:=hd;subst l;obtain⟨z,c,f⟩:=b.get g;rw[k N h2]at c;cases c;exact⟨U,Ext.refl _ _,w,f⟩
theorem nE{tg l:b7}{fe:Ev->Mo A}(h:VE X W l fe):VI X W tg l (fH fe):=by
 obtain⟨t,p,s⟩:=h;refine⟨_,amN p,λG k m H J i R w r h=>?_⟩;refine s G k m H J i _ w r (bN.mb h λa U v f g B x N j h1=>?_);cases e:hZ U a with
 |none=>simp only[e]at h1;exact False.elim h1
 |some ds =>
  simp only[e]at h1;obtain⟨q,u,h2,C,y⟩:=Bc N j e;subst h2;refine⟨q,rfl,?_⟩;cases a with
  |tup es =>
   right
   simp only[Den]at j;obtain⟨n,b,d,c,o⟩:=id j;cases d;exact⟨⟨_,kI.of (N.sub _ _ c)⟩,h1 _ f g B (Ext.refl _ _) N (arN (by simpa only[Den]using j))⟩
  |_ =>
   left
   obtain⟨n,b,d,c,o⟩:=AU N j (Wx e (by intro _ z;cases z));cases d;exact⟨⟨_,c⟩,h1 _ f g B (Ext.refl _ _) N (arO j (by intro _ z;cases z))⟩
@[simp] noncomputable def yB(lo:a8)(n:a9):Src:=⟨(List.range n).map λ(i:a9)=>A.int (lo+(i:a8)),λ_=>True⟩
def AE(i:a8):Prop:=-(2 ^ 62)<=i/\i<2 ^ 62
instance (i:a8):cy (AE i):=by unfold AE;infer_instance
theorem arP{K:bu}{G:Hp}{O:ar az}{lo:a8}{n:a9}:KD K G O (YG lo n) (yB lo n):=by
 refine⟨λ_ _ _ _ _ _ _ i hi=>show i<n by simpa[yB]using hi,λ_ _ _ _ _ _ _ i hi=>show n<=i by simpa[yB]using hi,λa z B c e w h i x b y q hd=>?_⟩;obtain⟨U,N⟩:=hd;subst U N;refine⟨a,Ext.refl _ _,w,?_⟩;simp only[yB,jN]at q;cases e:(List.range n)[i]? with
 |none=>rw[e]at q;cases q
 |some j =>
  rw[e]at q;cases q;have:=(cY.mp e).2;simp at this;subst this;simp only[Den]
@[simp] def zY(f:Ev->Mo (ar A)):Ev->Mo Src:=λY=>mb (f Y) λas=>match as with
 |[.int j]=>mb (pU (AE j)) λ_=>ret (yB 0 j.toNat)
 |_=>stuck
theorem ZO{tg a:b7}{fs:Ev->Mo (ar A)}{p:dj}(g:Gl X "range")(hm:X.mg "range" = av)(ha:VA X W [a] fs)(f:bj [a] X.env=[(aw,cg a X.env)]:=by rfl):VI X W tg (.Call (.Name "range" p) [a] [] pos) (zY fs):=by
 obtain⟨t,p,s⟩:=ha;refine⟨_,amO g hm p f,λG b d H J N R w r h=>?_⟩;refine s G b d H J N _ w r (bN.mb h λm c l n o U k e i h1=>?_);split at h1
 ·rename_i j;obtain⟨v,t,rfl,z,q⟩:=i.pJ;rw[wW]at q;subst q;simp only[Den]at z;subst z;obtain⟨B,h2⟩:=bN.pU h1;exact⟨j,rfl,B.1,B.2,lX e arP h2⟩
 ·exact False.elim h1
end
section
variable{X:Cx}{W:WX}{e a b:b7}{es:ar b7}{pos:dj}{fa fb:Ev->Mo A}{fs:Ev->Mo (ar A)}
@[simp] def aQ(a i:A):Mo A:=λZ=>match hZ Z a,i with
 |some ds,.int n=>match eO ds n with
  |some d=>aq (.ok d,Z)
  |none=>av
 |_,_=>av
theorem aA9{K:bu}{G:Hp}{O:ar az}{xs:ar V}{ds:ar A}{n:a8}{d:A}(h:bE K G O xs ds)(e:eO ds n=aq d):∃x,eO xs n=aq x/\Den K G O x d:=by
 unfold eO at e ⊢;rw[h.length];cases q:sN ds.length n with
 |none=>rw[q]at e;cases e
 |some j=>rw[q]at e;exact h.get e
theorem bH(ha:VE X W a fa)(hb:VE X W b fb)(g:adR b):VE X W (.Subscript a b pos) (aB aQ fa fb):=by
 obtain⟨t,f,c⟩:=ha;obtain⟨u,p2,s2⟩:=hb;refine⟨_,anA arL f p2 g,SV ?_ c s2⟩;intro G z m H J x y a i Q w l q h;unfold aQ at h;split at h
 ·rename_i ds n k;split at h
  ·rename_i d e;simp only[Den]at q;have fin:∀v,Den X.K G z v d->Q v H:=λv hv=>h v H G z (Ext.refl _ _) w hv;obtain⟨p,B,rfl,j,hd⟩:=Bc w l k;obtain⟨v,U,N⟩:=aA9 hd e
   rcases j with j|j
   ·exact .inl ⟨p,B,n,v,rfl,q,j,U,fin v N⟩
   ·exact .inr (.inl ⟨p,B,n,v,rfl,q,j,U,fin v N⟩)
  ·exact False.elim h
 ·exact False.elim h
@[simp] def aDG(f:Ev->Mo A):Ev->Mo (ax a8):=λY=>mb (f Y) λx=>match x with
 |.int i=>ret (aq i)
 |_=>stuck
def abR(ds:ar A)(lo hi:ax a8):ar A:=(ds.drop (HT.LW ds.length 0 lo)).take (HT.LW ds.length ds.length hi-HT.LW ds.length 0 lo)
@[simp] def gSl(c:bt)(a:A)(lo hi:ax a8):Mo A:=λZ=>match a with
 |.tup ds=>if HT.LW ds.length 0 lo=0/\HT.LW ds.length ds.length hi=ds.length then av else aq (.ok (.tup (abR ds lo hi)),Z)
 |a=>match fV Z a with
  |some ds=>lK c (abR ds lo hi) Z
  |none=>av
@[simp] def vSl(c:bt)(f:Ev->Mo A)(l h:Ev->Mo (ax a8)):Ev->Mo A:=λY=>mb (f Y) λa=>mb (l Y) λlo=>mb (h Y) λhi=>gSl c a lo hi
def aeP(K:bu)(W:WX)(r:ar V->Hp->VK->Prop)(g:ar A->Mo A):Prop :=
 ∀G O Z H J xs as Q,Wd K G O Z H->bE K G O xs as->bN K (Den K) W G O J Q (g as Z)->r xs H Q
def CD(X:Cx)(W:WX)(f:au)(g:ar A->Mo A):Prop:=∃r,tK X f r/\aeP X.K W r g
@[simp] def aS(g:ar A->Mo A)(f:Ev->Mo (ar A)):Ev->Mo A:=λY=>mb (f Y) g
theorem aiL{K:bu}{r:ar V->Hp->VK->Prop}{g:ar A->Mo A}{t:TA}(c:aeP K W r g)(h:fC K (bE K) W t fs):fC K (Den K) W (As r t) (aS g fs):=by
 intro G N U H J B Q w q h2;exact h G N U H J B _ w q (bN.mb h2 λe z b f i j k a d h1=>c i j z f J b e Q a d h1)
theorem fP{id:dk}{x:bh}{g:ar A->Mo A}{p:dj}(N:CD X W (.builtin id) g)(B:Gl X x)(hm:X.mg x=av)(hv:dz x=aq (.builtin id))(ha:VA X W (e::es) fs)(hn:x≠"__name__":=by decide)(z:(x==("__debug__" : bh))=aw:=by decide)
  (he:bj (e::es) X.env=(aw,cg e X.env)::bj es X.env:=by rfl) (U:(cw pos (bj es X.env)).any (·.1)=aw:=by rfl):VE X W (.Call (.Name x p) (e::es) [] pos) (aS g fs):=by
 obtain⟨r,b,a⟩:=N;obtain⟨t,q,j⟩:=ha;exact⟨_,Du b B hm hv q hn z he U,aiL a j⟩
theorem IK{K:bu}{G:Hp}{O:ar az}{xs:ar V}{d:A}(h:bE K G O xs [d]):∃x,xs=[x]/\Den K G O x d:=by
 obtain⟨x,r,rfl,h1,h2⟩:=h.pJ;rw[wW]at h2;subst h2;exact⟨x,rfl,h1⟩
theorem WK{K:bu}{G:Hp}{O:ar az}{xs:ar V}{d d':A}(h:bE K G O xs [d,d']):∃x y,xs=[x,y]/\Den K G O x d/\Den K G O y d':=by
 obtain⟨x,r,rfl,h1,h2⟩:=h.pJ;obtain⟨y,rfl,j⟩:=IK h2;exact⟨x,y,rfl,h1,j⟩
@[simp] def jB(as:ar A):Mo A:=λZ=>match as with
 | [a]=>(match hZ Z a with
  |some ds=>aq (.ok (.int ds.length),Z)
  | none=>av)
 |_=>av
theorem pV:CD X W (.builtin "len") jB:=by
 refine⟨_,aAM,?_⟩;intro G j N H J U b Q w d h;unfold jB at h;split at h
 ·rename_i a;split at h
  ·rename_i ds e;obtain⟨x,rfl,B⟩:=IK d;obtain⟨p,q,rfl,h2,z⟩:=Bc w B e;exact⟨p,q,rfl,h2,h _ H G j (Ext.refl _ _) w (by simp only[Den,z.length])⟩
  ·exact False.elim h
 ·exact False.elim h
@[simp] def tZ(as:ar A):Mo A:=match as with
 |[.int i,.int j]=>ret (.int (max i j))
 |_=>stuck
@[simp] def VU(as:ar A):Mo A:=match as with
 |[.int i,.int j]=>ret (.int (min i j))
 |_=>stuck
theorem IQ(B:X.calm=a5):CD X W (.builtin "max") tZ:=by
 refine⟨_,aAL B,?_⟩;intro G N U H J a b Q w d h;unfold tZ at h;split at h
 ·rename_i i j;obtain⟨x,y,rfl,z,q⟩:=WK d;simp only[Den]at z q;subst z q;refine⟨i,j,rfl,?_⟩;have e:(if j>i then j else i)=max i j:=by split <;> omega
  rw[e];exact lX w (by simp only[Den]) h
 ·exact False.elim h
theorem aAR(B:X.calm=a5):CD X W (.builtin "min") VU:=by
 refine⟨_,aAK B,?_⟩;intro G N U H J a b Q w d h;unfold VU at h;split at h
 ·rename_i i j;obtain⟨x,y,rfl,z,q⟩:=WK d;simp only[Den]at z q;subst z q;refine⟨i,j,rfl,?_⟩;have e:(if j<i then j else i)=min i j:=by split <;> omega
  rw[e];exact lX w (by simp only[Den]) h
 ·exact False.elim h
noncomputable def intsOf:ar A->ax (ar a8)
 |[]=>aq []
 |.int i::r=>(intsOf r).map (i :: ·)
 |_=>av
theorem Fp{K:bu}{G:Hp}{O:ar az}:∀{ds:ar A} {xs:ar V} {ns:ar a8},intsOf ds=aq ns->bE K G O xs ds->xs=ns.map V.int
 |[],xs,ns,h,d=>by
  simp only[intsOf,lD]at h;subst h;rw[wW]at d;subst d;rfl
 |a::ds,xs,ns,h,d=>by
  obtain⟨x,t,rfl,j,q⟩:=d.pJ;cases a with
  |int i =>
   simp only[intsOf,FD]at h;obtain⟨ms,h1,rfl⟩:=h;simp only[Den]at j;subst j;rw[Fp h1 q];rfl
  |_=>simp[intsOf]at h
theorem UQ(ns:ar a8):intsOf (ns.map A.int)=aq ns:=by
 induction ns with
 |nil=>rfl
 |cons n ns ih=>simp[intsOf,ih]
@[simp] def pR(as:ar A):Mo A:=λZ=>match as with
 | [a]=>(match (fV Z a).bind intsOf with
  |some ns=>aq (.ok (.int ns.sum),Z)
  | none=>av)
 |_=>av
theorem EU(q:X.calm=a5):CD X W (.builtin "sum") pR:=by
 refine⟨_,aAF q,?_⟩;intro G j b H J f g Q w d h;unfold pR at h;split at h
 ·rename_i a;split at h
  ·rename_i ns e;obtain⟨x,rfl,U⟩:=IK d;rw[Me]at e;obtain⟨ds,N,B⟩:=e;obtain⟨p,c,rfl,h2,z⟩:=AU w U N;rw[Fp B z]at h2;exact⟨p,ns,rfl,h2,h _ H G j (Ext.refl _ _) w (by simp only[Den])⟩
  ·exact False.elim h
 ·exact False.elim h
noncomputable def pK(Z:aG):A->ax dk
 |.int _=>aq "int"
 |.bl _=>aq "bool"
 |.str _=>aq "str"
 |.cZ=>aq "NoneType"
 |.tup _=>aq "tuple"
 |.lst _=>aq "list"
 |.aH k=>match Z[k]? with
  |some (.lst _)=>aq "list"
  |some (.bB _)=>aq "dict"
  |_=>av
 |_=>av
theorem agN{K:bu}{G H:Hp}{O:ar az}{Z:aG}{v:V}{a:A}{t:dk}(w:Wd K G O Z H)(d:Den K G O v a)(h:pK Z a=aq t):rT K H v (.type t):=by
 cases a with
 |int i=>simp only[pK,lD]at h;subst h;simp only[Den]at d;subst d;exact .int i
 |bl i=>simp only[pK,lD]at h;subst h;simp only[Den]at d;subst d;exact .bl i
 |str i=>simp only[pK,lD]at h;subst h;simp only[Den]at d;subst d;exact .str i
 |cZ=>simp only[pK,lD]at h;subst h;simp only[Den]at d;subst d;exact .cZ
 |tup ds=>simp only[pK,lD]at h;subst h;simp only[Den]at d;obtain⟨p,j,rfl,h2,_⟩:=d;exact .tup (w.sub _ _ h2)
 |lst ds=>simp only[pK,lD]at h;subst h;simp only[Den]at d;obtain⟨p,j,rfl,h2,_⟩:=d;exact .lst (w.sub _ _ h2)
 |aH k =>
  simp only[Den]at d;obtain⟨p,rfl,z⟩:=d;simp only[pK]at h;split at h
  ·rename_i ds e;cases h;obtain⟨g,j,q,_⟩:=w.aH k _ p e z;exact .lst q
  ·rename_i ds e;cases h;obtain⟨g,j,q,_⟩:=w.aH k _ p e z;exact .dK q
  ·cases h
 |_=>simp[pK]at h
noncomputable def yI(t n:dk):ax bt:=if(["int", "bool", "str", "NoneType", "tuple", "list"].elem t&&["int", "bool", "tuple", "list", "str"].elem n)=a5 then aq (t==n||(t == "bool" && n == "int"))else av
theorem arX(K:bu){t n:dk}{b:bt}(h:yI t n=aq b):kitOne K (.type t) (.type n)=aq b:=by
 unfold yI at h;split at h
 ·rename_i e;cases h;simp only[List.elem_eq_mem,rC,BN,dU,zJ,yD]at e;obtain⟨rfl|rfl|rfl|rfl|rfl|rfl,rfl|rfl|rfl|rfl|rfl⟩:=e <;> first|kernel_rfl|(unfold kitOne;rw[bb (beq_self_eq_true _)];rfl)
 ·cases h
@[simp] def EE(as:ar A):Mo A:=λZ=>match as with
 | [a,.ty n]=>(match (pK Z a).bind λt=>yI t n with
  |some b=>aq (.ok (.bl b),Z)
  | none=>av)
 |_=>av
theorem OW:CD X W (.builtin "isinstance") EE:=by
 refine⟨_,aAO,?_⟩;intro G q U H J c f Q w d h;unfold EE at h;split at h
 ·rename_i a n;split at h
  ·rename_i b e;rw[Me]at e;obtain⟨t,B,z⟩:=e;obtain⟨x,y,rfl,N,j⟩:=WK d;simp only[Den]at j;subst j;exact⟨x,n,_,b,rfl,agN w N B,arX _ z,h _ H G q (Ext.refl _ _) w (by simp only[Den])⟩
  ·exact False.elim h
 ·exact False.elim h
def Ml(K:bu)(W:WX)(r:V->ar V->Hp->VK->Prop)(g:A->ar A->Mo A):Prop :=
 ∀G O Z H J x xs a as Q,Wd K G O Z H->Den K G O x a->bE K G O xs as->bN K (Den K) W G O J Q (g a as Z)->r x xs H Q
def yJ(Z:aG)(a:A):Prop:=∃ds,fV Z a=aq ds
open Classical in
@[simp] noncomputable def xT(g:A->ar A->Mo A)(fo:Ev->Mo A)(f:Ev->Mo (ar A)):Ev->Mo A:=λY=>mb (fo Y) λo Z=>if yJ Z o then mb (f Y) (λas=>g o as) Z else av
theorem agL{K:bu}{G H:Hp}{O:ar az}{Z:aG}{v:V}{a:A}(w:Wd K G O Z H)(d:Den K G O v a)(h:yJ Z a):Af K "list" v H:=by
 obtain⟨ds,e⟩:=h;obtain⟨p,j,rfl,q,_⟩:=AU w d e;exact .inl ⟨rfl,j,q⟩
theorem CK{name:bh}{ai:dj}{id:dk}{r:V->ar V->Hp->VK->Prop}{g:A->ar A->Mo A}(pa:PlainAttrs "list")(slot:Slot "list" name id)(R:typeOf (.builtin id)=pure (.type "method_descriptor"))(hm:MtR X id r)(hv:Ml X.K W r g)(y:VE X W a fa)(ha:VA X W (e::es) fs)
  (n:cm a name X.env (cg a X.env)=cg a X.env:=by rfl)
  (E:((cw pos (bj (e::es) X.env)).all (λx=>!x.1)&&(backToKw pos (di [] X.env)).all (λx=>x.1.isSome)
   && decide ((e::es).length+([]:ar Keyword).length+(if([]:ar Keyword).isEmpty then 0 else 1)<30))=a5:=by rfl)
  (o:(ai.endLine==pos.line)=a5:=by rfl) (s:bj (e::es) X.env=(aw,cg e X.env)::bj es X.env:=by rfl) (L:(cw pos (bj es X.env)).any (·.1)=aw:=by rfl) :
  VE X W (.Call (.Attribute a name ai) (e::es) [] pos) (xT g fa fs):=by
 obtain⟨t,p,m⟩:=y;obtain⟨u,p2,s2⟩:=ha;refine⟨_,anN pa slot R hm p p2 n E o s L,λG c d H J N Q w r h=>?_⟩;refine m G c d H J N _ w r (bN.mb h λx B v I P q i U b h1=>?_);split at h1
 ·rename_i hl;refine⟨agL U b hl,s2 P q B I J N _ U (r.ext i) (bN.mb h1 λD z l F M j f k C h2=>?_)⟩;exact hv M j z F J v l x D Q k (b.ext f) C h2
 ·exact False.elim h1
noncomputable def rR(Z:aG):A->ax (a9×ar A)
 |.aH k=>match Z[k]? with
  |some (.lst ds)=>aq (k,ds)
  |_=>av
 |_=>av
theorem ab5{K:bu}{G H:Hp}{O:ar az}{Z:aG}{v:V}{a:A}{k:a9}{ds:ar A}(w:Wd K G O Z H)(d:Den K G O v a)(h:rR Z a=aq (k,ds)):∃p xs,v=.ref p/\O[k]?=aq p/\G p=av/\H p=aq (.lst xs)/\bE K G O xs ds:=by
 cases a with
 |aH j =>
  simp only[rR]at h;split at h
  ·rename_i es e;cases h;simp only[Den]at d;obtain⟨p,rfl,q⟩:=d;obtain⟨g,xs,B,z⟩:=w.aH k _ p e q;exact⟨p,xs,rfl,q,g,B,z⟩
  ·cases h
 |_=>simp[rR]at h
@[simp] def BJ(o:A)(as:ar A):Mo A:=λZ=>match rR Z o,as with
 |some (k,ds),[y]=>if ds.length<bg then aq (.ok .cZ,Z.set k (.lst (ds++[y])))else av
 |_,_=>av
theorem GZ:Ml X.K W Ub BJ:=by
 intro G q f H J x i a l Q w d b h;unfold BJ at h;split at h
 ·rename_i k ds y e;split at h
  ·rename_i hl;obtain⟨p,z,rfl,B,g,N,j⟩:=ab5 w d e;obtain⟨u,rfl,U⟩:=IK b;refine⟨p,z,u,rfl,rfl,N,by rw[j.length];exact hl,?_⟩;exact h _ _ G q (Ext.refl _ _) (w.put (c:=.lst (ds++[y])) B g ⟨g,_,eA,j.append (.cons U .nil)⟩) (by simp only[Den])
  ·exact False.elim h
 ·exact False.elim h
end
mutual
def Cl(n:a9):A->Prop
 |.aH k=>k<n
 |.tup ds=>fO n ds
 |.lst ds=>fO n ds
 |_=>True
def fO(n:a9):ar A->Prop
 |[]=>True
 |d::ds=>Cl n d/\fO n ds
end
section
variable{K:bu}{G:Hp}{O:ar az}
mutual
theorem Den.cl:∀{v:V} {d:A},Den K G O v d->Cl O.length d
 |_,.int _,_=>by simp only[Cl]
 |_,.bl _,_=>by simp only[Cl]
 |_,.str _,_=>by simp only[Cl]
 |_,.cZ,_=>by simp only[Cl]
 |_,.ty _,_=>by simp only[Cl]
 |_,.adr _,_=>by simp only[Cl]
 |_,.WD _ _ _ _,_=>by simp only[Cl]
 |_,.gl _,_=>by simp only[Cl]
 |_,.kL _,_=>by simp only[Cl]
 |_,.tup ds,h=>by
  simp only[Den]at h;simp only[Cl];obtain⟨a,xs,_,_,j⟩:=h;exact bE.cl j
 |_,.lst ds,h=>by
  simp only[Den]at h;simp only[Cl];obtain⟨a,xs,_,_,j⟩:=h;exact bE.cl j
 |_,.aH k,h=>by
  simp only[Den]at h;simp only[Cl];obtain⟨a,_,h2⟩:=h;exact(cY.mp h2).1
theorem bE.cl:∀{xs:ar V} {ds:ar A},bE K G O xs ds->fO O.length ds
 |_,[],_=>by simp only[fO]
 |_,d::ds,h=>by
  simp only[bE]at h;simp only[fO];obtain⟨x,r,_,h2,j⟩:=h;exact⟨Den.cl h2,bE.cl j⟩
end
mutual
theorem Den.cut{O':ar az}{n:a9}(e:∀k,k<n->O[k]?=O'[k]?):∀{v:V} {d:A},Den K G O' v d->Cl n d->Den K G O v d
 |_,.int _,h,_=>by simpa only[Den]using h
 |_,.bl _,h,_=>by simpa only[Den]using h
 |_,.str _,h,_=>by simpa only[Den]using h
 |_,.cZ,h,_=>by simpa only[Den]using h
 |_,.ty _,h,_=>by simpa only[Den]using h
 |_,.adr _,h,_=>by simpa only[Den]using h
 |_,.WD _ _ _ _,h,_=>by simpa only[Den]using h
 |_,.gl _,h,_=>by simpa only[Den]using h
 |_,.kL _,h,_=>by simpa only[Den]using h
 |_,.tup ds,h,c=>by
  simp only[Den]at h ⊢;simp only[Cl]at c;obtain⟨a,xs,h1,h2,j⟩:=h;exact⟨a,xs,h1,h2,bE.cut e j c⟩
 |_,.lst ds,h,c=>by
  simp only[Den]at h ⊢;simp only[Cl]at c;obtain⟨a,xs,h1,h2,j⟩:=h;exact⟨a,xs,h1,h2,bE.cut e j c⟩
 |_,.aH k,h,c=>by
  simp only[Den]at h ⊢;simp only[Cl]at c;obtain⟨a,h1,h2⟩:=h;exact⟨a,h1,(e k c).trans h2⟩
theorem bE.cut{O':ar az}{n:a9}(e:∀k,k<n->O[k]?=O'[k]?):∀{xs:ar V} {ds:ar A},bE K G O' xs ds->fO n ds->bE K G O xs ds
 |_,[],h,_=>by simpa only[bE]using h
 |_,d::ds,h,c=>by
  simp only[bE]at h ⊢;simp only[fO]at c;obtain⟨x,r,h1,h2,j⟩:=h;exact⟨x,r,h1,Den.cut e h2 c.1,bE.cut e j c.2⟩
end
def tI(n:a9):Fd->Prop
 |.val a=>Cl n a
 |.lst ds=>fO n ds
 |.bB kvs=>fO n (kvs.map (·.2))
def sC(n:a9):ar (bh×Fd)->Prop
 |[]=>True
 |p::r=>tI n p.2/\sC n r
def KW(n:a9):Cell->Prop
 |.lst ds=>fO n ds
 |.bB kvs=>fO n (kvs.map (·.2))
 |.ins _ fs=>sC n fs
 |_=>True
theorem kK.cl{H:Hp}{v:V}{fd:Fd}(h:kK K G O H v fd):tI O.length fd:=by
 cases fd with
 |val a=>exact Den.cl h
 |lst ds=>obtain⟨_,_,_,_,_,_,q⟩:=h;exact q.cl
 |bB j=>obtain⟨_,_,_,_,_,_,_,q⟩:=h;exact q.cl
theorem jZ.cl{H:Hp}:∀{ws:ar (bh×V)} {fs:ar (bh×Fd)},jZ K G O H ws fs->sC O.length fs
 |[],[],_=>trivial
 |(_,_)::_,(_,_)::_,h=>⟨h.2.1.cl,h.2.2.cl⟩
 |[],_::_,h=>h.elim
 |_::_,[],h=>h.elim
theorem tJ.cl{H:Hp}{a:az}{c:Cell}(h:tJ K G O H a c):KW O.length c:=by
 cases c with
 |lst ds=>obtain⟨_,_,_,q⟩:=h;exact q.cl
 |bB j=>obtain⟨_,_,_,_,q⟩:=h;exact q.cl
 |ins cls fs=>obtain⟨_,_,_,_,_,_,q⟩:=h;exact q.cl
 |tab x pos qual=>trivial
 |dead=>trivial
theorem kK.cut{H:Hp}{O':ar az}{n:a9}{v:V}{fd:Fd}(h:kK K G O' H v fd)(e:∀k,k<n->O[k]?=O'[k]?)(hi:∀b,b∉O'->b∉O)(c:tI n fd):kK K G O H v fd:=by
 cases fd with
 |val a=>exact Den.cut e h c
 |lst ds=>obtain⟨b,xs,h1,h2,z,q,j⟩:=h;exact⟨b,xs,h1,h2,hi b z,q,j.cut e c⟩
 |bB B=>obtain⟨b,ws,h1,h2,z,q,j,N⟩:=h;exact⟨b,ws,h1,h2,hi b z,q,j,N.cut e c⟩
theorem jZ.cut{H:Hp}{O':ar az}{n:a9}(e:∀k,k<n->O[k]?=O'[k]?)(hi:∀b,b∉O'->b∉O):∀{ws:ar (bh×V)} {fs:ar (bh×Fd)},jZ K G O' H ws fs->sC n fs->jZ K G O H ws fs
 |[],[],_,_=>trivial
 |(_,_)::_,(_,_)::_,h,c=>⟨h.1,h.2.1.cut e hi c.1,jZ.cut e hi h.2.2 c.2⟩
 |[],_::_,h,_=>h.elim
 |_::_,[],h,_=>h.elim
theorem tJ.cut{H:Hp}{O':ar az}{n:a9}{a:az}{c:Cell}(h:tJ K G O' H a c)(e:∀k,k<n->O[k]?=O'[k]?)(hi:∀b,b∉O'->b∉O)(j:KW n c):tJ K G O H a c:=by
 cases c with
 |lst ds=>obtain⟨g,xs,h1,h2⟩:=h;exact⟨g,xs,h1,h2.cut e j⟩
 |bB q=>obtain⟨g,ws,h1,h2,z⟩:=h;exact⟨g,ws,h1,h2,z.cut e j⟩
 |ins cls fs=>obtain⟨g,C,B,ws,h0,h1,h2⟩:=h;exact⟨g,C,B,ws,h0,h1,h2.cut e hi j⟩
 |tab x pos qual=>exact h
 |dead=>trivial
theorem Ext.cut{G':Hp}{O':ar az}(e:Ext G O G' O'):∀k,k<O.length->O[k]?=O'[k]?:=λk j=>by
 rw[dZ j,e.pre k _ (dZ j)]
theorem Wd.cut{G' H H':Hp}{O':ar az}{Z Z':aG}(w:Wd K G O Z H)(U:Wd K G' O' Z' H')(e:Ext G O G' O')(o:Z'.take Z.length=Z):Wd K G' O Z H' where
 sub:=U.sub
 inj:=w.inj
 len:=w.len
 live:=λa ha=>by
  obtain⟨k,j,m⟩:=BY ha;exact U.live a (nA (e.pre k a (by rw[<-m];exact dZ j)))
 aH:=λk c a h1 h2=>by
  have j:k<Z.length:=(cY.mp h1).1;have p:Z'[k]?=aq c:=by
   rw[<-o,JU]at h1;rw[bb j]at h1;exact h1
  have q:=U.aH k c a p (e.pre k a h2);have d:=w.aH k c a h1 h2;cases c with
  |lst ds =>
   obtain⟨g,xs,N,B⟩:=q;obtain⟨_,_,_,l⟩:=d;exact⟨g,xs,N,B.cut e.cut l.cl⟩
  |bB r =>
   obtain⟨g,ws,N,B,l⟩:=q;obtain⟨_,_,_,_,f⟩:=d;exact⟨g,ws,N,B,l.cut e.cut f.cl⟩
  |ins cls fs =>
   obtain⟨g,C,u,ws,h0,N,B⟩:=q;obtain⟨_,_,_,_,_,_,f⟩:=d;exact⟨g,C,u,ws,h0,N,B.cut (n:=O.length) e.cut (λb hb z=>hb (by
    obtain⟨k,j,m⟩:=BY z;exact nA (e.pre k b (by rw[<-m];exact dZ j)))) f.cl⟩
  |tab x pos qual=>exact q
  |dead=>trivial
 sep:=λb k i s t h1 h2=>by
  have back:∀{k i},jW H' O Z k i b->jW H' O' Z' k i b:=λ{k i} h=>h.to (λa ha=>⟨e.pre k a ha,λ_ z=>z⟩) λcls fs q=>by
   have j:k<Z.length:=(cY.mp q).1;rw[<-o,JU,bb j]at q;exact q
  exact U.sep b k i s t (back h1) (back h2)
end
open Classical in
noncomputable def trim(Z:aG):ax (Rs A×aG)->ax (Rs A×aG)
 |some (.ok a,Z')=>if Z'.take Z.length=Z/\Cl Z.length a then aq (.ok a,Z)else aq (.ok a,Z')
 |some (.exc x,Z')=>if Z'.take Z.length=Z/\fO Z.length (x.fs.map (·.2))then aq (.exc x,Z)else aq (.exc x,Z')
 |none=>av
theorem agX{K:bu}{W:WX}{G H:Hp}{O:ar az}{Z:aG}{J:L2.St}{Q:VK}{r:ax (Rs A×aG)}(w:Wd K G O Z H)(h:bN K (Den K) W G O J Q (trim Z r)):bN K (Den K) W G O J Q r:=by
 match r,h with
 |some (.ok a,B),h =>
  simp only[trim]at h;split at h
  ·rename_i j;exact λv U b z e N d=>h v U b O ⟨e.same,λ_ _ q=>q⟩ (w.cut N e j.1) (d.cut e.cut (by rw[w.len];exact j.2))
  ·exact h
 |some (.exc x,B),h =>
  simp only[trim]at h;split at h
  ·rename_i j;intro cls c U b z e N d;refine h cls c U b O ⟨e.same,λ_ _ q=>q⟩ (w.cut N e j.1) d
  ·exact h
@[simp] def eX:OS->ax (Rs A×aG)
 |some (.nx,_,Z)=>aq (.ok .cZ,Z)
 |some (.ret a,_,Z)=>aq (.ok a,Z)
 |some (.exc x,_,Z)=>aq (.exc x,Z)
 |_=>av
@[simp] noncomputable def OJ(n:a9)(ds:ar A):Ev:=ds.map aq++List.replicate (n-ds.length) av
@[simp] noncomputable def cV(n:a9)(b:MS):ar A->Mo A:=λds Z=>trim Z (eX (b (OJ n ds) Z))
def tN(K:bu)(n:a9)(F:ar A->Mo A):Sp:=λvs H Q E=>vs.length=n/\∃G O Z ds,Wd K G O Z H/\bE K G O vs ds/\bN K (Den K) (λ_=>E) G O [] Q (F ds Z)
abbrev cQ(P:bp)(w:bz)(K:bu)(mg:bh->ax au)(base:b9)(x:bh)(k:a9)(ps:ar bh)(F:ar A->Mo A):Prop:=RE P w K mg base x k ps (tN K ps.length F)
theorem axT{K:bu}{G:Hp}{O:ar az}{N:ar bh}{vs:ar V}{ds:ar A}(d:bE K G O vs ds):iJ K G O (L2.start N vs) (OJ N.length ds):=by
 unfold L2.start OJ;have hl:=d.length;refine⟨by simp[hl],λi a h=>?_⟩
 by_cases hi:i<ds.length
 ·rw[iS (by simpa using hi)]at h;rw[jN]at h;cases e:ds[i]? with
  |none=>rw[e]at h;cases h
  |some z =>
   rw[e]at h;cases h;obtain⟨v,q,j⟩:=d.get e;refine⟨v,?_,j⟩;rw[iS (by simp;omega),jN,q];rfl
 ·rw[qV (by simpa using hi)]at h;have:=nA h;simp at this
theorem OY{K:bu}{N:ar bh}{t:TS}{b:MS}{H:Hp}{vs:ar V}{Q:VK}{E:XK}{n:a9}(s:vQ K (λ_=>E) t b)(h:tN K n (cV N.length b) vs H Q E):t {nx:=λ_ H'=>Q .cZ H',rt:=Q} (L2.start N vs) H:=by
 obtain⟨hl,G,l,i,ds,w,d,q⟩:=h;refine s G l i H _ (OJ N.length ds) _ w (axT d) ?_;have j:=agX w q
 revert j
 generalize b (OJ N.length ds) i=r;intro j
 match r,j with
 |some (.nx,B,U),j=>exact λc H' g z e f k=>j .cZ H' g z e f (by simp only[Den])
 |some (.ret a,B,U),j=>exact λc H' g z e f k v d'=>j v H' g z e f d'
 |some (.exc x,B,U),j=>exact λc H' g z e f k cls m d'=>j cls m H' g z e f d'
 |some (.bk,B,U),j=>exact False.elim j
 |some (.ct,B,U),j=>exact False.elim j
section
variable{P:bp}{w:bz}{K:bu}{mg:bh->ax au}{base:b9}
theorem aa1{x:bh}{st:cb}{N ps:ar bh}{k:a9}{b:MS}{f:az}{fd:cx}(F:uJ K x x st f fd)(S:cS N ps (aW st))
  (a:∀(f:az) (j:au) (A:bx) (outer:ar Env) (s:ay) (H:Hp) (E:XK),cR k (A.deeper (c6 x (aW st) s.heap.objs.size f j)) ->
   kU (oI P w K mg base N x (aW st) f j A outer s H E) (λ_=>E) (eQ st) b):iI P w K mg base (pE P w) (k+1) f fd ps (tN K ps.length (cV N.length b)):=by
 obtain⟨g,e,kV,doc,d,l,j,ct,i,rfl,U,c⟩:=F.ex;refine VZ U c S (λz H Q E h=>h.1) λA outer s H z Q E hr B=>?_;obtain⟨t,p,q⟩:=a f j A outer s H E hr;exact⟨t,MR p,OY q B⟩
theorem cQ.of{x:bh}{st:cb}{N ps:ar bh}{k:a9}{b:MS}(h:HasFn K mg x st)(S:cS N ps (aW st))
  (bind:∀(kV doc pm:au) (an:ax az) (j ct:au) (us:ar au),us.length=ps.length->dh (et x x (jE st) (eQ st) (aW st) .none kV doc pm an j ct) ⟨us,[]⟩=pure (ps.zip us))
  (q:∀(f:az) (j:au) (A:bx) (outer:ar Env) (s:ay) (H:Hp) (E:XK),cR k (A.deeper (c6 x (aW st) s.heap.objs.size f j)) ->
   kU (oI P w K mg base N x (aW st) f j A outer s H E) (λ_=>E) (eQ st) b):cQ P w K mg base x (k+1) ps (cV N.length b):=by
 obtain⟨f,fd,hm,F⟩:=h.ex;exact⟨f,fd,aa1 F S q,hm,F.kp,F.binds bind⟩
abbrev aeM(P:bp)(w:bz)(K:bu)(mg:bh->ax au)(base:b9)(x:bh)(k:a9)(ps:ar bh)(F:ar A->Mo A):Prop:=Def P w K mg base x k ps (λvs H Q _=>tN K ps.length F vs H Q λ_ _ _=>cq)
theorem Jv{k:a9}{f:az}{fd:cx}{ps:ar bh}{sp:Sp}(F:iI P w K mg base (pE P w) k f fd ps sp):iI P w K mg base CF k f fd ps (λvs H Q _=>sp vs H Q λ_ _ _=>cq) :=
 ⟨λvs H Q E h=>F.len _ _ _ _ h,λA outer s H args z vs Q E hr N hb r B=>vN (F.run A outer s H args z vs Q _ hr N hb r B) λr s' j=>by
  cases r with
  |error U=>obtain⟨x,cls,a,b,_,_,_,_,_,_,q⟩:=j;exact q.elim
  | ok fl=>cases fl <;> exact j⟩
theorem cQ.calm{x:bh}{k:a9}{ps:ar bh}{F:ar A->Mo A}(D:cQ P w K mg base x k ps F):aeM P w K mg base x k ps F:=by
 obtain⟨f,fd,h1,h2,q,j⟩:=D.ex;exact⟨f,fd,Jv h1,h2,q,j⟩
end
section
variable{X:Cx}{W:WX}{x:bh}{p pos:dj}{e:b7}{es:ar b7}{fs:Ev->Mo (ar A)}
@[simp] def cE(n:a9)(F:ar A->Mo A):ar A->Mo A:=λas=>if as.length=n then F as else stuck
theorem Jw{K:bu}{G d:Hp}{O q:ar az}{J:L2.St}{Q:VK}{r:ax (Rs A×aG)}{W:WX}(h:bN K (Den K) W G O J Q r)(c:Ext G O d q):bN K (Den K) (λ_=>λcls dx H'=>W J cls dx H') d q [] Q r:=by
 match r,h with
 |some (.ok a,z),h=>exact λv H' b j B N U=>h v H' b j (c.trans B) N U
 |some (.exc a,z),h=>exact λcls dx H' b j B N U=>h cls dx H' b j (c.trans B) N U
theorem fJ{k:a9}{ps:ar bh}{F:ar A->Mo A}(T:tE X W)(D:cQ X.prog X.w X.K X.mg X.base x k ps F)(hr:cR k X.A)(f:Gl X x)(ha:VA X W (e::es) fs)
  (d:(x==("__debug__" : bh))=aw:=by decide) (he:bj (e::es) X.env=(aw,cg e X.env)::bj es X.env:=by rfl) (g:(cw pos (bj es X.env)).any (·.1)=aw:=by rfl):VE X W (.Call (.Name x p) (e::es) [] pos) (aS (cE ps.length F) fs):=by
 obtain⟨t,c,b⟩:=ha;refine⟨_,anH T D hr f c d he g,λG N U H J B Q w r h=>?_⟩;refine b G N U H J B _ w r (bN.mb h λi q n o l j m a z h1=>?_);unfold cE at h1;split at h1
 ·rename_i hl;exact⟨by rw[z.length];exact hl,l,j,q,i,a,z,Jw h1 (Ext.refl _ _)⟩
 ·exact False.elim h1
@[simp] noncomputable def TX(F:ar A->Mo A):ar A->Mo A:=λas Z=>match F as Z with
 |some (.exc _,_)=>av
 |r=>r
theorem Qp{k:a9}{ps:ar bh}{F:ar A->Mo A}(D:aeM X.prog X.w X.K X.mg X.base x k ps F)(hr:cR k X.A)(m:Gl X x)(ha:VA X W (e::es) fs)
  (l:(x==("__debug__" : bh))=aw:=by decide) (he:bj (e::es) X.env=(aw,cg e X.env)::bj es X.env:=by rfl) (n:(cw pos (bj es X.env)).any (·.1)=aw:=by rfl):VE X W (.Call (.Name x p) (e::es) [] pos) (aS (TX (cE ps.length F)) fs):=by
 obtain⟨t,i,f⟩:=ha;refine⟨_,anI D hr m i l he n,λG U c H J N Q w r h=>?_⟩;refine f G U c H J N _ w r (bN.mb h λz j u v o q s d B h1=>?_);unfold TX cE at h1;rw[tG]
 by_cases hl:z.length=ps.length
 ·rw[bb hl]at h1;refine⟨by rw[B.length];exact hl,o,q,j,z,d,B,?_⟩
  revert h1
  generalize F z j=g;intro h1
  match g,h1 with
  |some (.ok a,b),h1=>exact h1
 ·rw[bc hl]at h1;exact False.elim h1
abbrev cI(i:a8):Ev->Mo A:=λ_=>ret (.int i)
abbrev cB(i:bt):Ev->Mo A:=λ_=>ret (.bl i)
abbrev cT(n:dk):Ev->Mo A:=λ_=>ret (.ty n)
abbrev a0:Ev->Mo (ar A):=λ_=>ret []
end
end V2
namespace V2
open PySem L2
section
variable{α β:Type}{Z Z':aG}{a:A}
@[simp] theorem aD8(x:α)(k:α->Mo β):mb (ret x) k=k x:=rfl
theorem dF{m:Mo α}{k:α->Mo β}{x:α}(h:m Z=aq (.ok x,Z')):mb m k Z=k x Z':=by unfold mb;rw[h]
@[simp] theorem aD9(x:α)(k:α->Mo β):mb (need (aq x)) k=k x:=rfl
theorem ap2{p:Prop} [cy p](k:Unit->Mo β)(h:p):mb (pU p) k=k ():=by funext j;simp[mb,pU,h]
@[simp] theorem aDX(x:α):(ret x:Mo α) Z=aq (.ok x,Z):=rfl
@[simp] theorem agW:trim Z (aq (.ok a,Z))=aq (.ok a,Z):=by simp only[trim];split <;> rfl
theorem xW{j:aG}(h:Cl Z.length a):trim Z (aq (.ok a,Z++j))=aq (.ok a,Z):=by
 simp only[trim];rw[bb ⟨by simp,h⟩]
@[simp] theorem aDW(x:α)(Y:Ev)(k:α->aG->OS):sM (ret x) Y k=k x:=rfl
theorem fQ{m:Mo α}{Y:Ev}{k:α->aG->OS}{x:α}(h:m Z=aq (.ok x,Z')):sM m Y k Z=k x Z':=by unfold sM;rw[h]
@[simp] theorem vB(Y:Ev):eX (aq (.ret a,Y,Z))=aq (.ok a,Z):=rfl
@[simp] theorem AM(Y:Ev):eX (aq (.nx,Y,Z))=aq (.ok .cZ,Z):=rfl
theorem bV{f g:MS}{Y Y1:Ev}(h:f Y Z=aq (.nx,Y1,Z')):aV f g Y Z=g Y1 Z':=by unfold aV;rw[h]
theorem Bd{f g:MS}{Y Y1:Ev}(h:f Y Z=aq (.ret a,Y1,Z')):aV f g Y Z=aq (.ret a,Y1,Z'):=by unfold aV;rw[h]
theorem rS{α:Type}(xs:ar α)(n:a9):eO xs (n:a8)=xs[n]?:=by
 unfold eO sN;rw[bb (by omega)]
 by_cases h:(n:a8)<xs.length
 ·rw[bb h];simp
 ·rw[bc h];simp;omega
theorem JA{α:Type}(xs:ar α)(n:a9):eO xs (OfNat.ofNat n:a8)=xs[n]?:=rS xs n
theorem XJ{α:Type}(xs:ar α):eO xs 0=xs[0]?:=rS xs 0
theorem Lo{α:Type}(xs:ar α):eO xs 1=xs[1]?:=rS xs 1
end
@[simp] theorem aDJ:yI "int" "int" = aq a5:=by simp[yI]
@[simp] theorem aDK:yI "int" "bool" = aq aw:=by simp[yI]
@[simp] theorem aDI:yI "tuple" "tuple" = aq a5:=by simp[yI]
@[simp] theorem aEC(Z:aG)(ds:ar A):fV Z (.lst ds)=aq ds:=rfl
@[simp] theorem aEB(Z:aG)(ns:ar a8):fV Z (.kL ns)=aq (ns.map A.int):=rfl
@[simp] theorem aEA(Z:aG)(ds:ar A):fV Z (.tup ds)=av:=rfl
@[simp] theorem aED(Z:aG)(i:a8):fV Z (.int i)=av:=rfl
@[simp] theorem aDU(Z:aG)(ds:ar A):hZ Z (.lst ds)=aq ds:=rfl
@[simp] theorem aDT(Z:aG)(ns:ar a8):hZ Z (.kL ns)=aq (ns.map A.int):=rfl
@[simp] theorem aDS(Z:aG)(ds:ar A):hZ Z (.tup ds)=aq ds:=rfl
@[simp] theorem aDV(Z:aG)(k:a9):hZ Z (.aH k)=fV Z (.aH k):=rfl
@[simp] theorem aDP(Z:aG)(i:a8):pK Z (.int i)=aq "int":=rfl
@[simp] theorem aDQ(Z:aG)(i:bt):pK Z (.bl i)=aq "bool":=rfl
@[simp] theorem aDM(Z:aG)(i:bh):pK Z (.str i)=aq "str":=rfl
@[simp] theorem aDN(Z:aG):pK Z .cZ=aq "NoneType":=rfl
@[simp] theorem aDL(Z:aG)(ds:ar A):pK Z (.tup ds)=aq "tuple":=rfl
@[simp] theorem aDO(Z:aG)(ds:ar A):pK Z (.lst ds)=aq "list":=rfl
@[simp] theorem aEI:MY .cZ=aq a5:=rfl
@[simp] theorem aEK(i:a8):MY (.int i)=aq aw:=rfl
@[simp] theorem aEH(ds:ar A):MY (.tup ds)=aq aw:=rfl
@[simp] theorem aEJ(ds:ar A):MY (.lst ds)=aq aw:=rfl
@[simp] theorem aEL(b:bt):MY (.bl b)=aq aw:=rfl
theorem yH{Z:aG}{k:a9}{ds:ar A}(h:Z[k]?=aq (.lst ds)):fV Z (.aH k)=aq ds:=by simp[fV,h]
theorem ER{Z:aG}{k:a9}{ds:ar A}(h:Z[k]?=aq (.lst ds)):rR Z (.aH k)=aq (k,ds):=by simp[rR,h]
theorem DN{Z:aG}{a:A}{ds:ar A}(h:fV Z a=aq ds):yJ Z a:=⟨ds,h⟩
@[simp] theorem aw0(Z:aG)(c:Cell):(Z++[c])[Z.length]?=aq c:=by simp
section
variable{ok:aG->Prop}{g:A->MS}{b:MS}{x:A}{xs:ar A}{Y Y0 Y1:Ev}{Z Z0 Z1:aG}{a:A}
theorem EI(h:ok Z):eZ ok g b [] Y Z=aq (.nx,Y,Z):=by simp[eZ,h]
theorem rP(h:ok Z)(j:g x Y Z=aq (.nx,Y0,Z0))(hb:b Y0 Z0=aq (.nx,Y1,Z1)):eZ ok g b (x::xs) Y Z=eZ ok g b xs Y1 Z1:=by simp[eZ,h,j,hb]
theorem axM(h:ok Z)(j:g x Y Z=aq (.nx,Y0,Z0))(hb:b Y0 Z0=aq (.ct,Y1,Z1)):eZ ok g b (x::xs) Y Z=eZ ok g b xs Y1 Z1:=by simp[eZ,h,j,hb]
theorem OI(I:a9->Ev->aG->Prop)(aJ:∀i Y Z,I i Y Z->ok Z):∀(xs:ar A) (j:a9) (Y:Ev) (Z:aG),I j Y Z ->
  (∀i x Y Z,xs[i]?=aq x->I (j+i) Y Z->∃Y0 Z0 Y1 Z1,g x Y Z=aq (.nx,Y0,Z0)/\(b Y0 Z0=aq (.nx,Y1,Z1)\/b Y0 Z0=aq (.ct,Y1,Z1))/\I (j+i+1) Y1 Z1) ->
  ∃Y' Z',eZ ok g b xs Y Z=aq (.nx,Y',Z')/\I (j+xs.length) Y' Z'
 |[],j,Y,Z,q,_=>⟨Y,Z,EI (aJ _ _ _ q),q⟩
 |x::xs,j,Y,Z,q,turn=>by
  obtain⟨Y0,Z0,Y1,Z1,N,z,d⟩:=turn 0 x Y Z rfl q;obtain⟨Y',Z',B,U⟩:=OI I aJ xs (j+1) Y1 Z1 d λi y Y Z a c=>by
   have:=turn (i+1) y Y Z (by simpa using a) (by rw[show j+(i+1)=j+1+i by omega];exact c);rwa[show j+(i+1)+1=j+1+i+1 by omega]at this
  refine⟨Y',Z',?_,by rw[fT,show j+(xs.length+1)=j+1+xs.length by omega];exact U⟩
  rcases z with z|z
  ·rw[rP (aJ _ _ _ q) N z,B]
  ·rw[axM (aJ _ _ _ q) N z,B]
end
section
variable{c:Ev->Mo bt}{b:MS}{n:a9}{Y Y1:Ev}{Z Z1 Z2:aG}{a:A}
theorem BK(j:c Y Z=aq (.ok a5,Z1))(hb:b Y Z1=aq (.nx,Y1,Z2)):mG c b (n+1) Y Z=mG c b n Y1 Z2:=by simp[mG,j,hb]
theorem OH(j:c Y Z=aq (.ok aw,Z1)):mG c b (n+1) Y Z=aq (.nx,Y,Z1):=by simp[mG,j]
end
open PySem PySem.Spec PyProof.Rows L2
def YH(K:bu)(a:az):It :=
 ⟨λi H=>∃xs x,fW K H a xs/\xs[i]?=aq x,λi H x H'=>∃p y,H p=av/\H'=upd H p (.tup [.int (i:a8),y])/\x=.ref p/\∀xs,fW K H a xs->xs[i]?=aq y,λi H=>∃xs,fW K H a xs/\xs.length<=i⟩
section
variable{X:Cx}{aa:ar (az×cz)}{J:L2.St}{H:Hp}{s:ay}{h':b9}
theorem Inv.agO{t':a9}{e it:az}(I:Inv X aa J H s)(k:∀b o,b≠e->b≠it->s.heap.get? b=aq o->h'.get? b=aq o)(fe:qY X aa H e)(d:qY X aa H it):Inv X aa J H {s with heap:=h',toks:=t' }:=by
 obtain⟨a0,a1,a2,w,t,p⟩:=fe;obtain⟨l,B,y,i,h,g⟩:=d;have ne:∀b u,H b=aq u->b≠e:=λb u q z=>by rw[z,a0]at q;cases q
 have N:∀b u,H b=aq u->b≠it:=λb u q z=>by rw[z,l]at q;cases q
 refine I.step (g':=s.gens) (d':=s.drawn) (ch:=[e,it]) (λb hb=>?_) (λb o _ _ j q _=>k b o (λz=>j (by simp[z])) (λz=>j (by simp[z])) q) (λb o _ _ j q _=>⟨o.slots,k b o (λz=>j (by simp[z])) (λz=>j (by simp[z])) q⟩) (λ_ _ _ _ n=>n)
  (λb o j q=>⟨o,k b o (λz=>j (by simp[z])) (λz=>j (by simp[z])) q⟩) (λ_ _ q=>q) (λ_ _ _ q=>q) (λb x q=>⟨#[],by rw[q];simp⟩) (λm hm=>?_) (λb u q=>?_) I.bare
 ·rcases dU.mp hb with z|z
  ·subst z;exact⟨w,a1,t,p⟩
  ·have z:b=it:=by simpa using z
   subst z;exact⟨i,B,h,g⟩
 ·obtain⟨o,es,f,a,r⟩:=hm;exact⟨o,es,f,k _ o (dM a1) (dM B) a,r⟩
 ·refine(I.aJ b u q).oR (λc v j U=>k c v ?_ ?_ U) (λ_ q=>q) λ_ _ q=>q
  ·rcases j with z|z
   ·rw[z];exact ne b u q
   ·exact ne c _ z
  ·rcases j with z|z
   ·rw[z];exact N b u q
   ·exact N c _ z
end
theorem Inv.Ah{X:Cx}{aa:ar (az×cz)}{J:L2.St}{H:Hp}{s:ay}{p:az}{o:HO}(I:Inv X aa J H s)(B:H p=av)(h0:X.s₀.heap.get? p=av)(hL:p≠X.env.locals)(f:∀x c,X.env.cells.lookup x=aq c->c≠p)(e:∀q∈X.pn++aa,q.1≠p)
  (aJ:fU X.prog X.w (upd H p o) s.heap):Inv X aa J (upd H p o) s where
 ok:=I.ok
 os:=I.os
 bare:=I.bare
 base:={
  keep:=I.base.keep
  slot:=I.base.slot
  free:=λb j q n d=>by
   have hb:b≠p:=λz=>by subst z;rw[h0]at q;cases q
   rw[bJ hb];exact I.base.free b j q n d
  there:=I.base.there
  oP:=λb xs q=>by have z:=I.base.oP b xs q;rw[bJ (iV z B)];exact z
  mV:=λb j u q=>by have z:=I.base.mV b j u q;rw[bJ (iV z B)];exact z
  nT:=λb U q=>by obtain⟨more,z⟩:=I.base.nT b U q;exact⟨more,by rw[bJ (iV z B)];exact z⟩}
 loc:=I.loc
 cell:=I.cell
 free:=by rw[bJ (dM hL)];exact I.free
 oG:=λx c q=>by rw[bJ (f x c q)];exact I.oG x c q
 pin:=λq N=>by
  obtain⟨a,b,c⟩:=I.pin q N;exact⟨a,by rw[bJ (e q N)];exact b,c⟩
 aJ:=aJ
 len:=I.len
theorem agS{P:bp}{w:bz}{K:bu}{elts:ar b7}{S:a9}{T:dj}(a e j:az)(gD:e≠j):Turn P w K (.Tuple elts S T) (YH K a) [e,j] e (λi h=>(∃old,IsEnum h e j (i:a8) old)/\h.IsListIter j a i)where
 mem:=by simp
 obj:=λi h st b hb=>by
  obtain⟨⟨old,B⟩,o,q,c,d⟩:=st
  rcases dU.mp hb with z|z
  ·subst z;exact⟨_,B,λv z=>by cases z⟩
  ·have z:b=j:=by simpa using z
   subst z;exact⟨o,q,λv z=>by rw[d]at z;cases z⟩
 keep:=λi h h' st k=>⟨let ⟨old,q⟩:=st.1; ⟨old,k e (by simp) _ q⟩,st.2.at λo q=>k j (by simp) o q⟩
 item:=by
  intro X y hw A G i aa s J H E I f st t;subst y hw A;obtain⟨⟨old,B⟩,g⟩:=st;obtain⟨D,x,U,n⟩:=t;obtain⟨aZ,m,p,hz⟩:=I.list U;obtain⟨u,hu,ru⟩:=m.get n;have M:=f e (by simp);have L:=f j (by simp);have Q:e<s.heap.objs.size:=eG B;have r:j<s.heap.objs.size:=let ⟨_,q,_⟩:=g;eG q;refine wpAny_pyNext_enum_item B g p.isList (x:=u) (by simpa using hu) gD λh1 e1 i1 W z1 k1=>?_;refine⟨_,rfl,wpAny_letOwnedTupleGo_enum (s:={s with heap:=h1,toks:=s.toks+1}) e1 λh2 e2 s2=>?_⟩;have N:H s.heap.objs.size=av:=I.aJ.fresh cX;have k2:∀b o,b≠e->b≠j->s.heap.get? b=aq o->h2.get? b=aq o:=λb o F n2 q=>s2.extBut b o F (k1 b o F n2 q);have V:h2.get? s.heap.objs.size=aq {cls:=.type "tuple",data:=.seq #[.int (i:a8) s.toks,u]}:=s2.extBut _ _ (JF Q) W;have R:Inv X aa J H {s with heap:=h2,toks:=s.toks+1}:=Inv.agO (t':=s.toks+1) I k2 M L;have i2:h2.IsListIter j a (i+1):=i1.extBut s2.extBut (dM gD);have aJ:fU X.prog X.w (upd H s.heap.objs.size (.tup [.int (i:a8),x])) h2:=by
   refine λb o q=>?_
   by_cases l:b=s.heap.objs.size
   ·subst l;rw[eA]at q;cases q;exact⟨by show 2<=bg;decide,[.int (i:a8) s.toks,u],.cons ⟨_,rfl⟩ (.cons ru .nil),⟨_,V,rfl,_,rfl⟩⟩
   ·rw[bJ l]at q;exact(R.aJ b o q).oR (λc v _ z=>z) (λc z=>by rw[bJ (iV z N)];exact z) λc D z=>by rw[bJ (iV z N)];exact z
  have C:qY X aa H s.heap.objs.size:=I.wR cX N;have h0:X.s₀.heap.get? s.heap.objs.size=av:=by
   cases q:X.s₀.heap.get? s.heap.objs.size with
   |none=>rfl
   |some ob=>exact b8 (mY (eG q) I.sz) (Nat.lt_irrefl _)
  have I2:Inv X aa J (upd H s.heap.objs.size (.tup [.int (i:a8),x])) {s with heap:=h2,toks:=s.toks+1}:=Inv.Ah R N h0 C.2.1 C.2.2.2.2.1 C.2.2.2.2.2 aJ;refine⟨.ref s.heap.objs.size,_,I2,rfl,⟨_,x,N,rfl,rfl,λys hy=>by rw[I.Wz hy U];exact n⟩,⟨⟨_,e2⟩,i2⟩,λb hb=>?_⟩
  rcases dU.mp hb with z|z
  ·subst z;rw[bJ (gF Q)];exact M.1
  ·have z:b=j:=by simpa using z
   subst z;rw[bJ (gF r)];exact L.1
 done:=by
  intro X y hw A G i aa s J H E I f st t;subst y hw A;obtain⟨⟨old,B⟩,g⟩:=st;obtain⟨D,U,n⟩:=t;obtain⟨aZ,m,p,hz⟩:=I.list U;obtain⟨f0,f1,f2,f3,f4,f5⟩:=f j (by simp);have hl:=m.length;exact wpAny_pyNext_enum_end (I.ok.hd G) B g p.isList (by simp;omega) λh' l=>⟨rfl,I.turned (t':=s.toks) (λb o hb e=>l b o hb e) f0 f1 f3 f4 f5⟩
 self:=λ_ _ _ _ _ st h=>let ⟨_,q⟩:=st.1;wpAny_pyIter_enum q h
section
variable{X:Cx}{W:WX}{pos:dj}
theorem amP{elts:ar b7}{e:a9}{f p:dj}{l:b7}{tl:TE}(o:Gl X "enumerate")(hm:X.mg "enumerate" = av)(hl:PE X l tl)(c:bj [l] X.env=[(aw,cg l X.env)]:=by rfl) :
  PI X (.Tuple elts e f) (.Call (.Name "enumerate" p) [l] [] pos) (λJ H R=>tl J H λx H1=>∃a,x=.ref a/\(∃xs,fW X.K H1 a xs)/\R (YH X.K a) H1):=by
 intro aa s J H R I h;refine xP (DL I o hm boot_enumerate ?_);refine XW (bI (DA hl GS c pos aa s J H (λN H1=>match N with
  |[x]=>∃a,x=V.ref a/\(∃xs,fW X.K H1 a xs)/\R (YH X.K a) H1
  | _=>cq) I h) λw j ⟨N,H1,B,i,U⟩=>?_) c rfl
 match N,U with
 |[x],U =>
 obtain⟨a,t,⟨xs,m⟩,q⟩:=U;obtain⟨u,rfl,g⟩:=vals1 i;subst t;cases g;obtain⟨C,y,pl,A⟩:=B.list m;refine call_enumerate_list pl.isList λh' d r k n=>?_;refine wpAny_pyIter_enum (s:={j with heap:=h' }) d ?_;have v:Inv X aa J H1 {j with heap:=h' }:=B.kept (t':=j.toks) n;refine⟨_,[j.heap.objs.size+1,j.heap.objs.size],_,_,H1,rfl,v,agS a _ _ (Nat.succ_ne_self _),⟨⟨.none,d⟩,r⟩,λb hb=>?_,q⟩
 rcases dU.mp hb with z|z
 ·subst z;exact B.wR (JG _) (B.aJ.fresh (JG _))
 ·have z:b=j.heap.objs.size:=by simpa using z
  subst z;exact B.wR cX (B.aJ.fresh cX)
noncomputable def pT:a9->ar A->ar A
 |_,[]=>[]
 |n,x::xs => .tup [.int (n:a8),x]::pT (n+1) xs
theorem Je:∀(n:a9) (xs:ar A),(pT n xs).length=xs.length
 |_,[]=>rfl
 |n,x::xs=>by simp only[pT,fT,Je (n+1) xs]
theorem abE:∀(n i:a9) (xs:ar A),(pT n xs)[i]?=xs[i]?.map λx => .tup [.int ((n+i:a9):a8),x]
 |_,_,[]=>by simp[pT]
 |n,0,x::xs=>by simp[pT]
 |n,i+1,x::xs=>by
  simp only[pT,QE];rw[abE (n+1) i xs];have e:n+1+i=n+(i+1):=by omega
  rw[e]
def enumSrc(a:A)(ds:ar A):Src:=⟨pT 0 ds,λZ=>fV Z a=aq ds⟩
@[simp] def ZY(f:Ev->Mo A):Ev->Mo Src:=λY=>mb (f Y) λa Z=>match fV Z a with
 |some ds=>aq (.ok (enumSrc a ds),Z)
 |none=>av
theorem arQ{K:bu}{G:Hp}{O:ar az}{p:az}{a:A}{ds:ar A}(d:Den K G O (.ref p) a):KD K G O (YH K p) (enumSrc a ds):=by
 have key:∀U j B b,Ext G O U j->Wd K U j B b->fV B a=aq ds->∃N,fW K b p N/\bE K U j N ds:=λU j B b e w h=>by
  obtain⟨q,N,h1,h2,c⟩:=AU w (d.ext e) h;cases h1;exact⟨N,h2,c⟩
 refine⟨λU j B b e w h i hi=>?_,λU j B b e w h i hi=>?_,λU j B b e w h i x t y m hd=>?_⟩
 ·obtain⟨N,h2,c⟩:=key U j B b e w h;have hl:i<N.length:=by rw[c.length,<-Je 0 ds];exact hi
  exact⟨N,N[i],h2,dZ hl⟩
 ·obtain⟨N,h2,c⟩:=key U j B b e w h;exact⟨N,h2,by rw[c.length,<-Je 0 ds];exact hi⟩
 ·obtain⟨N,h2,c⟩:=key U j B b e w h;obtain⟨q,z,g,r,o,n⟩:=hd;subst r o;have f:(pT 0 ds)[i]?=aq y:=m;rw[abE]at f;cases ed:ds[i]? with
  |none=>rw[ed]at f;cases f
  |some d' =>
   rw[ed]at f;cases f;obtain⟨s,k,l⟩:=c.get ed;rw[n N h2]at k;cases k;refine⟨upd U q (.tup [.int (i:a8),z]),Ext.new (w.pA g) _,w.new g _,?_⟩;simp only[Den];exact⟨q,_,rfl,eA,.cons (by simp only[Den,zG]) (.cons (l.ext (Ext.new (w.pA g) _)) .nil)⟩
theorem Qj{elts:ar b7}{B:a9}{g p:dj}{l:b7}{fe:Ev->Mo A}(k:Gl X "enumerate")(hm:X.mg "enumerate" = av)(h:VE X W l fe)(i:bj [l] X.env=[(aw,cg l X.env)]:=by rfl) :
  VI X W (.Tuple elts B g) (.Call (.Name "enumerate" p) [l] [] pos) (ZY fe):=by
 obtain⟨t,p,s⟩:=h;refine⟨_,amP k hm p i,λG c d H J b R w r h=>?_⟩;refine s G c d H J b _ w r (bN.mb h λa z v n o j B N U h1=>?_);cases e:fV z a with
 |none=>simp only[e]at h1;exact False.elim h1
 |some ds =>
  simp only[e]at h1;obtain⟨q,f,h2,m,u⟩:=AU N U e;subst h2;exact⟨q,rfl,⟨f,m⟩,h1 _ n o j (Ext.refl _ _) N (arQ U)⟩
theorem RP{st:cb}:VS X W st (λ_ _=>av):=⟨_,al7,λ_ _ _ _ _ _ _ _ _ h=>h.elim⟩
end
noncomputable def vD(n:a9)(js:ar a9)(Y:Ev):Ev:=List.replicate n av++js.map (λj=>(Y[j]?).join)
def PR(X:Cx)(W:WX)(ifs:ar b7)(f:Ev->Mo bt):Prop:=∃t,PZ X ifs t/\fC X.K CW W t f
abbrev mM:Ev->Mo bt:=λ_=>ret a5
theorem uS{X:Cx}{W:WX}:PR X W [] mM:=⟨_,amM,λ_ _ _ _ _ _ _ w _ q=>lX w rfl q⟩
open Classical in
noncomputable def qP(ok:aG->Prop)(g:A->MS)(c:Ev->Mo bt)(e:Ev->Mo A)(n:a9):ar A->Ev->aG->ax (Ev×aG)
 |[],Y,Z=>if ok Z then aq (Y,Z)else av
 | x::xs,Y,Z=>if ok Z then(match g x Y Z with
  | some (.nx,Y1,Z1)=>(match c Y1 Z1 with
   | some (.ok a5,Z2)=>(match e Y1 Z2 with
    | some (.ok y,Z3)=>(match Z3[n]? with
     |some (.lst ys)=>if ys.length<bg then qP ok g c e n xs Y1 (Z3.set n (.lst (ys++[y])))else av
     | _=>av)
    | _=>av)
   |some (.ok aw,Z2)=>qP ok g c e n xs Y1 Z2
   | _=>av)
  | _=>av)else av
open Classical in
noncomputable def Fb(cf:bt)(Z1:aG)(r:ax (Ev×aG)):ax (Rs A×aG):=match r with
 | some (_,Z')=>(match Z'[Z1.length]? with
  |some (.lst ys)=>if cf then aq (.ok (.aH Z1.length),Z')else if Z'.take Z1.length=Z1/\fO Z1.length ys then aq (.ok (.lst ys),Z1)else aq (.ok (.lst ys),Z'.set Z1.length .dead)
  | _=>av)
 |none=>av
noncomputable def mR(j:bt)(n:a9)(js:ar a9)(fi:Ev->Mo Src)(g:A->MS)(c:Ev->Mo bt)(e:Ev->Mo A):Ev->Mo A:=λY=>mb (fi Y) λS Z1=>Fb j Z1 (qP S.ok g c e Z1.length S.ds (vD n js Y) (Z1++[.lst []]))
theorem axK{ok:aG->Prop}{g:A->MS}{c:Ev->Mo bt}{e:Ev->Mo A}{n:a9}{xs:ar A}{Y:Ev}{Z:aG}{r:Ev×aG}(h:qP ok g c e n xs Y Z=aq r):ok Z:=by
 cases xs with
 |nil=>unfold qP at h;by_cases j:ok Z;exact j;rw[bc j]at h;cases h
 |cons=>unfold qP at h;by_cases j:ok Z;exact j;rw[bc j]at h;cases h
theorem aqS{K:bu}{G:Hp}{O:ar az}{J:L2.St}{Y:Ev}(q:ar bh)(js:ar a9)(r:iJ K G O J Y):iJ K G O (AV q js J) (vD q.length js Y):=by
 unfold AV vD;refine⟨by simp,λi d h=>?_⟩
 by_cases hi:i<q.length
 ·rw[iS (by simpa using hi)]at h;rw[List.getElem?_replicate,bb hi]at h;cases h
 ·rw[qV (by simpa using Mi hi),List.length_replicate,jN]at h;cases e:js[i-q.length]? with
  |none=>rw[e]at h;cases h
  |some j =>
   rw[e]at h;have h':(Y[j]?).join=aq d:=kJ h;obtain⟨v,B,z⟩:=r.2 j d (join_some h');refine⟨v,?_,z⟩;rw[qV (by simpa using Mi hi),lQ,jN,e];show aq (J[j]?).join=_;rw[B];rfl
section
variable{K:bu}{W:WX}
theorem aiH{I:ar bh}{js:ar a9}{wi:TI}{tg:TG}{tc:TT}{te:TE}{fi:Ev->Mo Src}{g:A->MS}{c:Ev->Mo bt}{e:Ev->Mo A}{cf:bt}(W0:WX)(hi:fC K (Di K) W wi fi)(hg:PX K W0 tg g)(hc:fC K CW W0 tc c)(he:fC K (Den K) W0 te e) :
  fC K (Den K) W (Aq I js wi tg tc te) (mR cf I.length js fi g c e):=by
 intro G O Z H J Y Q w r h;refine hi G O Z H J Y _ w r (bN.mb h λS a σ H1 u B x1 w1 j1 h1=>?_);intro D hD;unfold Fb at h1;cases er:qP S.ok g c e a.length S.ds (vD I.length js Y) (a++[.lst []])with
 |none=>rw[er]at h1;exact False.elim h1
 |some rr =>
 obtain⟨T,X⟩:=rr;rw[er]at h1;simp only at h1;have hw0:Wd K u (B++[D]) (a++[.lst []]) (upd H1 D (.lst [])):=w1.cell hD ⟨w1.pA hD,[],eA,.nil⟩;have r0:iJ K u (B++[D]) (AV I js J) (vD I.length js Y):=aqS I js (r.ext (x1.trans (Ext.cell D)));have hDk:(B++[D])[a.length]?=aq D:=by rw[<-w1.len];simp
 refine⟨λi m p o=>m=S.ds.length-i/\i<=S.ds.length/\∃f j N d,Ext u (B++[D]) f j/\Wd K f j N o/\iJ K f j p d/\qP S.ok g c e a.length (S.ds.drop i) d N=aq (T,X),
  ⟨_,rfl,BU _,u,_,_,_,Ext.refl _ _,hw0,r0,by simpa using er⟩,?_⟩
 rintro i m p o ⟨rfl,hil,f,j,N,d,e',E,r',h'⟩;have aJ:=axK h';have M:Ext u B f j:=(Ext.cell D).trans e'
 by_cases bZ:i<S.ds.length
 ·right
  refine⟨j1.go f j N o M E aJ i bZ,λR H2=>∃G2 t Z2 V,Ext u (B++[D]) G2 t/\Wd K G2 t Z2 H2/\iJ K G2 t R V/\qP S.ok g c e a.length (S.ds.drop (i+1)) V Z2=aq (T,X),λR H2 n=>?_,λx H2 y=>?_⟩
  ·exact⟨S.ds.length-(i+1),by omega,rfl,bZ,n⟩
  ·obtain⟨G2,e2,w2,d2⟩:=j1.CG f j N o M E aJ i x H2 S.ds[i] (dZ bZ) y;rw[vV bZ]at h';unfold qP at h';rw[bb aJ]at h';refine hg G2 j N H2 p d x S.ds[i] ⟨_,λ_ _=>cq,λ_ _=>cq,λ_ _=>cq⟩ w2 (r'.ext e2) d2 ?_
   revert h'
   generalize g S.ds[i] d N=q;intro h';split at h'
   ·rename_i U Z3;intro P H3 G3 O3 x3 w3 r3;refine hc G3 O3 Z3 H3 P U _ w3 r3 ?_
    revert h'
    generalize c U Z3=F;intro h';split at h'
    ·rename_i k;intro b H4 G4 s C w4 hb;cases(show b=a5 from hb);rw[bb rfl];refine he G4 s k H4 P U _ w4 (r3.ext C) ?_
     revert h'
     generalize e U k=q3;intro h';split at h'
     ·rename_i z Z5;intro v H5 G5 O5 x5 w5 d5;split at h'
      ·rename_i ys ey;split at h'
       ·rename_i hl;have eD:=(((e'.trans e2).trans x3).trans C).trans x5;have L:=eD.pre _ _ hDk;obtain⟨l,xs,q1,F⟩:=w5.aH _ _ D ey L;refine⟨xs,q1,by rw[F.length];exact hl,G5,O5,_,U,eD,w5.put (c:=.lst (ys++[z])) L l ⟨l,_,eA,F.append (.cons d5 .nil)⟩,(r3.ext C).ext x5,h'⟩
       ·cases h'
      ·cases h'
     ·cases h'
    ·rename_i k;intro b H4 G4 s C w4 hb;cases(show b=aw from hb);rw[bc (by simp)];exact⟨G4,s,k,U,((e'.trans e2).trans x3).trans C,w4,r3.ext C,h'⟩
    ·cases h'
   ·cases h'
 ·have yR:i=S.ds.length:=by omega
  subst yR
  left
  refine⟨j1.stop f j N o M E aJ _ cX,?_⟩;rw[JW]at h';unfold qP at h';rw[bb aJ]at h';cases h';split at h1
  ·rename_i ys ey;have L:=e'.pre _ _ hDk;obtain⟨l,xs,q1,F⟩:=E.aH _ _ D ey L;split at h1
   ·exact h1 _ o f j M E (by simp only[Den];exact⟨D,rfl,L⟩)
   ·have wf:=E.freeze L l q1;split at h1
    ·rename_i Zq;have eC:Ext u B (upd f D (.lst xs)) j:=M.trans (Ext.new l _);have wc:=w1.cut wf eC (by rw[List.take_set_of_le cX];exact Zq.1);refine h1 _ o _ B ⟨eC.same,λ_ _ q=>q⟩ wc ?_;simp only[Den];exact⟨D,xs,rfl,eA,(F.ext (Ext.new l _)).cut eC.cut (by rw[w1.len];exact Zq.2)⟩
    ·refine h1 _ o _ j (M.trans (Ext.new l _)) wf ?_;simp only[Den];exact⟨D,xs,rfl,eA,F.ext (Ext.new l _)⟩
  ·exact False.elim h1
end
def Ar{α β:Type}(K:bu)(rel:Rl α β)(W:WX)(f:Ev->Mo α):L2.St->Hp->(β->Hp->Prop)->Prop:=λJ H Q=>∃G O Z Y,Wd K G O Z H/\iJ K G O J Y/\bN K rel W G O J Q (f Y Z)
def Sf(K:bu)(W:WX)(g:A->MS):TG:=λv J H Q=>∃G O Z Y a D,Wd K G O Z H/\iJ K G O J Y/\Den K G O v a/\fM K W G O D (g a Y Z)/\D.nx=Q
theorem Tc{α β:Type}{K:bu}{rel:Rl α β}{W:WX}{f:Ev->Mo α}:fC K rel W (Ar K rel W f) f:=λG q z H J j Q w r h=>⟨G,q,z,j,w,r,h⟩
theorem aiO{K:bu}{W:WX}{g:A->MS}:PX K W (Sf K W g) g:=λG q z H J j v a D w r d h=>⟨G,q,z,j,a,D,w,r,d,h,rfl⟩
theorem VE.OT{X:Cx}{W:WX}{e:b7}{f:Ev->Mo A}(h:VE X W e f):PE X e (Ar X.K (Den X.K) W f):=by
 obtain⟨t,p,s⟩:=h;exact λaa N J H Q I ⟨G,z,B,j,w,r,q⟩=>p aa N J H Q I (s G z B H J j Q w r q)
theorem PR.OT{X:Cx}{W:WX}{ifs:ar b7}{f:Ev->Mo bt}(h:PR X W ifs f):PZ X ifs (Ar X.K CW W f):=by
 obtain⟨t,p,s⟩:=h;exact λaa N J H Q I ⟨G,z,B,j,w,r,q⟩=>p aa N J H Q I (s G z B H J j Q w r q)
theorem VG.OT{X:Cx}{W:WX}{tg:b7}{g:A->MS}(h:VG X W tg g):PG X tg (Sf X.K W g):=by
 obtain⟨t,p,s⟩:=h;intro aa N J H v u Q I U h;obtain⟨G,z,B,j,a,D,w,r,d,q,e⟩:=h;exact p aa N J H v u Q I U (e ▸ s G z B H J j v a D w r d q)
abbrev DG:WX:=λ_ _ _ _=>cq
theorem afX{X:Cx}{W:WX}{elt tg iter:b7}{ifs:ar b7}{scope:cu}{pos:dj}{fi:Ev->Mo Src}{g:A->MS}{c:Ev->Mo bt}{e:Ev->Mo A}(U:bt)(j:ar bh)(js:ar a9)(N:X.calm=a5)(L:JZ X scope j js)(hi:VI X W tg iter fi)
  (hb:∀cl C s H fp,VG (kN X scope j js cl C s H fp) DG tg g/\PR (kN X scope j js cl C s H fp) DG ifs c/\VE (kN X scope j js cl C s H fp) DG elt e)
  (B:∀x,df iter X.env x=pure x:=by intro _;rfl):VE X W (.ListComp elt [⟨tg,iter,ifs,0⟩] scope pos) (mR U j.length js fi g c e):=by
 obtain⟨a,z,q⟩:=hi;exact⟨_,am8 N L z (λcl C s H fp=>⟨(hb cl C s H fp).1.OT,(hb cl C s H fp).2.1.OT,(hb cl C s H fp).2.2.OT⟩) B,aiH _ q aiO Tc Tc⟩
noncomputable def sortI(ns:ar a8):ar a8:=ns.mergeSort λa b=>decide (a<=b)
theorem sortI_perm(ns:ar a8):(sortI ns).Perm ns:=List.mergeSort_perm ns _
theorem Sw(ns:ar a8):(sortI ns).Pairwise (· <= ·):=by
 have h:=List.pairwise_mergeSort (le:=λa b:a8=>decide (a<=b)) (λa b c h1 h2=>by simp at h1 h2 ⊢;omega) (λa b=>by simp;omega) ns;exact h.imp λh=>Dz h
theorem Sv{ns ms:ar a8}(p:ms.Perm ns)(h:ms.Pairwise (· <= ·)):ms=sortI ns :=
 List.Perm.eq_of_pairwise (le:=(· <= ·)) (λa b _ _ h1 h2=>Int.le_antisymm h1 h2) h (Sw ns) (p.trans (sortI_perm ns).symm)
theorem Bb(ns:ar a8):(sortI ns).length=ns.length:=(sortI_perm ns).length_eq
end V2
namespace M
open PySem V2
@[simp] abbrev aK:=V2.dR 0
@[simp] abbrev aR:=V2.dR 1
@[simp] abbrev cN:=V2.dR 2
@[simp] abbrev cA:=V2.dR 3
@[simp] abbrev eL:=V2.dR 4
@[simp] abbrev fD:=V2.dR 5
@[simp] abbrev mN:=V2.dR 6
@[simp] abbrev jP:=V2.dR 7
@[simp] abbrev nD:=V2.dR 8
@[simp] abbrev LD:=V2.dR 9
@[simp] abbrev LF:=V2.dR 10
@[simp] abbrev cK:=V2.cI 0
@[simp] abbrev cU:=V2.cI 1
@[simp] abbrev lH:=V2.cI 2
@[simp] abbrev pG:=V2.cI 3
@[simp] abbrev tL:=V2.cI 4
@[simp] abbrev CJ:=V2.cI 5
@[simp] abbrev wC6:=V2.cI 6
@[simp] abbrev ZJ:=V2.cI 7
@[simp] abbrev Qf:=V2.cI 9
@[simp] abbrev RN:=V2.cI 10
@[simp] abbrev cJ:=V2.VX aw
@[simp] noncomputable abbrev aE{α:Type}(a:α)(Z:V2.aG):ax (V2.Rs α×V2.aG):=aq (.ok a,Z)
@[simp] noncomputable abbrev eB(Y:V2.Ev)(Z:V2.aG):ax (V2.Out×V2.Ev×V2.aG):=aq (.nx,Y,Z)
@[simp] noncomputable abbrev aA(i:a8):ax V2.A:=aq (.int i)
@[simp] noncomputable abbrev aD(i:a9):ax V2.A:=aq (.aH i)
@[simp] noncomputable abbrev cL(i:ar V2.A):ax V2.A:=aq (.lst i)
noncomputable section
def acS:MS :=
 (aV (bP (aB (iN) (aB (mE) (aB cJ aK cU) (aB cJ (cI 48271) (aB (mE) (cI 118) aR))) (cI 2147483629)) (gN 2))
  (bW (aB (iN) (aB cJ (aB cJ (aB (mE) (aB (jC) cN (cI 977)) (cI 16807)) (aB (mE) cN (aB cJ (aB (mE) aR aR) ZJ))) aR) (cI 2147483587))))
def zQ:ar A->Mo A:=cV 3 acS
def IX:MS :=
 (aV (eW (cC (aB mF aR cK))
   (bW (aB (iN) aK ZJ))
   fY)
  (aV (eW (cC (aB mF aR cU))
   (bW (aB (nN) (aB (iN) aK (cI 61)) (cI 30)))
   fY)
  (aV (eW (cC (aB mF aR lH))
   (bW (aB (nN) (aB (iN) (aB (mE) aK (cI 982451653)) (aB cJ (aB (mE) lH (aB (OD) RN (cI 18))) cU)) (aB (OD) RN (cI 18))))
   fY)
  (aV (eW (cC (aB mF aR pG))
   (bW CJ)
   fY)
  (bW (aB aQ (gS aw (aC (aB cJ (aB (mE) aK (aB (OD) RN (cI 50))) ZJ) (aC (aB (nN) cK (aB (mE) aK (aB (OD) RN (cI 50)))) (aC aK (aC (aB (nN) cK aK) a0))))) (aB (iN) aK tL)))))))
def xG:ar A->Mo A:=cV 2 IX
def Kq:MS :=
 (aV (bP cK (gN 2))
  (aV (eW (cC (aB oF aR (aS jB (aC aK a0))))
   (bP (aB (iN) (aB aQ aK aR) (cI 2147483647)) (gN 2))
   fY)
  (bW (aS (cE 2 zQ) (aC cN (aC (aB cJ aR (cI 101)) a0))))))
def FQ:ar A->Mo A:=cV 3 Kq
def WZ:MS :=
 (aV (eW (cC (aB mF aR (aS jB (aC aK a0))))
   (bW (cB aw))
   fY)
  (bW (CL (aB mF cA (aS jB (aC cN a0))) (aB rO (aB aQ (aB aQ aK aR) cK) (aB aQ (aB aQ cN cA) cK)))))
def KO:ar A->Mo A:=cV 4 WZ
def zF:MS :=
 (aV (bP (aB aQ aK pG) (gN 2))
  (aV (bP (ZX (cC (aB vK aR cK)) (aB aQ (aB aQ cN (aB (nN) aR cU)) cU) cK) (gN 3))
  (aV (bP (ZX (cC (aB oF aR (aS jB (aC cN a0)))) (aB (nN) (aB aQ (aB aQ cN aR) lH) cU) (aB aQ aK cK)) (gN 4))
  (bW (nS (aC cA (aC eL a0)))))))
def sA:ar A->Mo A:=cV 5 zF
def acM:MS :=
 (aV (bP (aS (cE 2 sA) (aC aR (aC cN a0))) (gN 3))
  (bW (nS (aC (aB aQ aK cK) (aC (aB cJ (aB aQ aK cU) (aB aQ cA cK)) (aC (aB cJ (aB aQ aK lH) (aB aQ cA cU)) a0))))))
def QT:ar A->Mo A:=cV 4 acM
def IU:MS :=
 (eW (cC (aS (cE 4 KO) (aC (aB aQ aK pG) (aC cA (aC (aB aQ aR pG) (aC eL a0))))))
    (aV (kX (xT BJ cN (aC (aS (cE 3 QT) (aC (aB aQ (aB aQ aK pG) cA) (aC aR (aC eL a0)))) a0)))
    (bP (aB cJ cA cU) (gN 3)))
    (aV (kX (xT BJ cN (aC (aS (cE 3 QT) (aC (aB aQ (aB aQ aR pG) eL) (aC aK (aC cA a0)))) a0)))
    (bP (aB cJ eL cU) (gN 4))))
def EY:Ev->Mo bt :=
 (mP (cC (aB oF cA (aS jB (aC (aB aQ aK pG) a0)))) (cC (aB oF eL (aS jB (aC (aB aQ aR pG) a0)))))
def acN:MS :=
 (aV (bP (gS a5 a0) (gN 2))
  (aV (bP cK (gN 3))
  (aV (bP cK (gN 4))
  (aV (λY Z=>mG EY IU ((λ_ _=>1000000) Y Z) Y Z)
  (bW (xR 2))))))
def YQ:ar A->Mo A:=cV 5 acN
def acO:MS :=
 (aV (bP (aB cJ (aB aQ aK cK) (aB aQ aR cK)) (gN 2))
  (aV (bP (aB cJ (aB aQ aK cU) (aB aQ aR cU)) (gN 3))
  (aV (bP (aS tZ (aC (aB aQ aK lH) (aC (aB aQ aR lH) a0))) (gN 4))
  (bW (nS (aC cN (aC cA (aC eL (aC (aS (cE 2 YQ) (aC aK (aC aR a0))) a0)))))))))
def KN:ar A->Mo A:=cV 5 acO
def Kd:MS :=
 (bW (CL (aB mF (aB aQ aR cK) (aB aQ aK cK)) (aB rO (aB aQ aR lH) (aB cJ (aB cJ (aB aQ aK cU) cN) cU))))
def QS:ar A->Mo A:=cV 3 Kd
def BQ:MS :=
 (eW (mP (cC (aB mF eL cK)) (mP (cC (aB mF eL cA)) (mQ (cC (aS (cE 3 QS) (aC (aB aQ cN (ZU cU)) (aC (aB aQ aK (aB cJ eL cU)) (aC aR a0))))))))
    (kX (xT BJ cN (aC fD a0)))
    fY)
def Kg:MS :=
 (aV (bP (gS a5 a0) (gN 2))
  (aV (bP (aB (nN) (aS jB (aC aK a0)) cU) (gN 3))
  (aV (jR (ZY aK) (iM 2 (dH (gN 4) (dH (gN 5) jA))) BQ)
  (bW (xR 2)))))
def QU:ar A->Mo A:=cV 6 Kg
def acI:MS :=
 (aV (bP (aB aQ aK cK) (gN 2))
  (aV (bP (aB cJ (aB aQ aK cU) (aB (jC) cN aR)) (gN 3))
  (bW (nS (aC cN (aC cA (aC (aB cJ (aB aQ aK lH) cU) (aC (aS (cE 2 QU) (aC (aB aQ aK pG) (aC cA a0))) a0))))))))
def QO:ar A->Mo A:=cV 4 acI
end
end M
namespace V2
open PySem PySem.Spec PyProof.Rows L2
noncomputable def gZ(kvs:ar (Key×A))(k:Key):ax A:=(kvs.find? λj=>decide (j.1=k)).map (·.2)
noncomputable def lY(kvs:ar (Key×A))(k:Key)(a:A):ar (Key×A) :=
 if kvs.any λj=>decide (j.1=k)then kvs.map (λj=>if j.1=k then(j.1,a)else j)else kvs++[(k,a)]
noncomputable def mS:A->ax Key
 |.int i=>aq (.inl i)
 |.str x=>aq (.inr x)
 |_=>av
section
variable{K:bu}{G:Hp}{O:ar az}
theorem MU{v:V}{a:A}{k:Key}(d:Den K G O v a)(h:mS a=aq k):v=kV k:=by
 cases a with
 |int i=>simp only[mS,lD]at h;subst h;simp only[Den]at d;exact d
 |str i=>simp only[mS,lD]at h;subst h;simp only[Den]at d;exact d
 |_=>simp[mS]at h
theorem LJ{k:Key}:∀{j:ar (Key×V)} {kvs:ar (Key×A)},j.map (·.1)=kvs.map (·.1)->bE K G O (j.map (·.2)) (kvs.map (·.2))->(∀a,gZ kvs k=aq a->∃v,lI j k=aq v/\Den K G O v a)/\(gZ kvs k=av->lI j k=av)
 |[],[],_,_=>⟨λa h=>(by cases h),λ_=>rfl⟩
 |[],_::_,h,_=>by simp at h
 |_::_,[],h,_=>by simp at h
 |p::j,q::kvs,h,d=>by
  simp only[cP,qW]at h;obtain⟨x,r,e,m,l⟩:=d.pJ;simp only[cP,qW]at e;obtain⟨i,g⟩:=e;obtain⟨b,U⟩:=LJ (k:=k) h.2 (g ▸ l)
  by_cases B:q.1=k
  ·have N:p.1=k:=h.1.trans B;refine⟨λa ha=>?_,λhn=>?_⟩
   ·simp only[gZ,FH,B,OM,JE,lD]at ha;exact⟨p.2,by simp[lI,N],by rw[<-ha,i];exact m⟩
   ·simp[gZ,B]at hn
  ·have N:¬p.1=k:=λz=>B (h.1.symm.trans z);have c:lI (p::j) k=lI j k:=by simp[lI,N]
   have f:gZ (q::kvs) k=gZ kvs k:=by simp[gZ,B]
   rw[c,f];exact⟨b,U⟩
theorem acX{k:Key}{q:ar (Key×V)}{kvs:ar (Key×A)}(h:q.map (·.1)=kvs.map (·.1)):(q.any λj=>decide (j.1=k))=(kvs.any λj=>decide (j.1=k)):=by
 have B:(q.any λj=>decide (j.1=k))=(q.map (·.1)).any λx=>decide (x=k):=by rw[List.any_map];rfl
 have z:(kvs.any λj=>decide (j.1=k))=(kvs.map (·.1)).any λx=>decide (x=k):=by rw[List.any_map];rfl
 rw[B,z,h]
theorem alQ{k:Key}{v:V}{a:A}{q:ar (Key×V)}{kvs:ar (Key×A)}(h:q.map (·.1)=kvs.map (·.1)):(putK q k v).map (·.1)=(lY kvs k a).map (·.1):=by
 unfold putK lY;rw[acX h];split
 ·rw[zL,zL];have B:q.map ((·.1) ∘ λj:Key×V=>if j.1=k then(j.1,v)else j)=q.map (·.1):=JQ λx _=>by simp only[Function.comp];split <;> rfl
  have z:kvs.map ((·.1) ∘ λj:Key×A=>if j.1=k then(j.1,a)else j)=kvs.map (·.1):=JQ λx _=>by simp only[Function.comp];split <;> rfl
  rw[B,z,h]
 ·rw[xD,xD,h];rfl
theorem Ue{k:Key}{v:V}{a:A}(B:Den K G O v a):∀{z:ar (Key×V)} {kvs:ar (Key×A)},z.map (·.1)=kvs.map (·.1)->bE K G O (z.map (·.2)) (kvs.map (·.2))->bE K G O ((z.map λj=>if j.1=k then(j.1,v)else j).map (·.2)) ((kvs.map λj=>if j.1=k then(j.1,a)else j).map (·.2))
 |[],[],_,_ => .nil
 |[],_::_,h,_=>by simp at h
 |_::_,[],h,_=>by simp at h
 |p::z,q::kvs,h,d=>by
  simp only[cP,qW]at h;obtain⟨x,r,e,c,b⟩:=d.pJ;simp only[cP,qW]at e;obtain⟨U,N⟩:=e;have ih:=Ue (k:=k) B h.2 (N ▸ b);simp only[cP];refine .cons ?_ ih;rw[h.1];split
  ·exact B
  ·rw[U];exact c
theorem alR{k:Key}{v:V}{a:A}{j:ar (Key×V)}{kvs:ar (Key×A)}(h:j.map (·.1)=kvs.map (·.1))(d:bE K G O (j.map (·.2)) (kvs.map (·.2)))(q:Den K G O v a):bE K G O ((putK j k v).map (·.2)) ((lY kvs k a).map (·.2)):=by
 unfold putK lY;rw[acX h];split
 ·exact Ue q h d
 ·rw[xD,xD];exact d.append (.cons q .nil)
noncomputable def mH(Z:aG):A->ax (a9×ar (Key×A))
 |.aH k=>match Z[k]? with
  |some (.bB kvs)=>aq (k,kvs)
  |_=>av
 |_=>av
theorem BP{H:Hp}{Z:aG}{v:V}{a:A}{k:a9}{kvs:ar (Key×A)}(w:Wd K G O Z H)(d:Den K G O v a)(h:mH Z a=aq (k,kvs)):∃p q,v=.ref p/\O[k]?=aq p/\G p=av/\H p=aq (.dK q)/\q.map (·.1)=kvs.map (·.1)/\bE K G O (q.map (·.2)) (kvs.map (·.2)):=by
 cases a with
 |aH j =>
  simp only[mH]at h;split at h
  ·rename_i es e;cases h;simp only[Den]at d;obtain⟨p,rfl,z⟩:=d;obtain⟨g,q,U,N,B⟩:=w.aH k _ p e z;exact⟨p,q,rfl,z,g,U,N,B⟩
  ·cases h
 |_=>simp[mH]at h
theorem ET{Z:aG}{k:a9}{kvs:ar (Key×A)}(h:Z[k]?=aq (.bB kvs)):mH Z (.aH k)=aq (k,kvs):=by simp[mH,h]
end
section
variable{X:Cx}{W:WX}{o i e:b7}{pos:dj}{fo fi fe:Ev->Mo A}
@[simp] noncomputable def wF:Ev->Mo A:=λ_ Z=>aq (.ok (.aH Z.length),Z++[.bB []])
theorem LI:VE X W (.Dict [] [] pos) wF:=by
 refine⟨_,anE,λG q B H J z Q w r h=>?_⟩;intro p j;refine h _ _ G (q++[p]) (Ext.cell p) (w.cell j ⟨w.pA j,[],eA,rfl,.nil⟩) ?_;simp only[Den];exact⟨p,rfl,by rw[<-w.len];simp⟩
@[simp] def Ip(o i:A):Mo A:=λZ=>match mH Z o,mS i with
 |some (_,kvs),aq k=>match gZ kvs k with
  |some a=>aq (.ok a,Z)
  |none=>av
 |_,_=>av
theorem af5(K:X.A.units+1<cLine)(M:VE X W o fo)(hi:VE X W i fi)(L:Mg i):VE X W (.Subscript o i pos) (aB Ip fo fi):=by
 obtain⟨t,F,s⟩:=M;obtain⟨u,p2,s2⟩:=hi;refine⟨_,anG K F p2 L,λG b d H J B Q w r h=>?_⟩;refine s G b d H J B _ w r (bN.mb h λx z v H1 G1 q f l V h1=>?_);refine s2 G1 q z H1 J B _ l (r.ext f) (bN.mb h1 λy c u H2 G2 j e N T h2=>?_);unfold Ip at h2;split at h2
 ·rename_i k0 I k S R;split at h2
  ·rename_i a P;obtain⟨p,ws,rfl,hk,g,E,D,C⟩:=BP N (V.ext e) S;obtain⟨U,n,m⟩:=(LJ D C).1 a P;rw[MU T R];exact⟨p,U,rfl,by rw[<-n];exact qZ.k E,h2 U H2 G2 j (Ext.refl _ _) N m⟩
  ·exact False.elim h2
 ·exact False.elim h2
@[simp] def Io(o i z:A):Mo A:=λZ=>match mH Z o,mS i with
 |some (_,kvs),aq k=>aq (.ok ((gZ kvs k).getD z),Z)
 |_,_=>av
def Fo(Z:aG)(a:A):Prop:=∃k kvs,mH Z a=aq (k,kvs)
open Classical in
@[simp] noncomputable def CM(fo fi fe:Ev->Mo A):Ev->Mo A:=λY=>mb (fo Y) λo Z=>if Fo Z o then mb (fi Y) (λi=>mb (fe Y) λz=>Io o i z) Z else av
theorem Qo{ai:dj}(hu:X.A.units+1<cLine)(ho:VE X W o fo)(hi:VE X W i fi)(he:VE X W e fe)(m:M2 X o "get" ai i e pos):VE X W (.Call (.Attribute o "get" ai) [i,e] [] pos) (CM fo fi fe):=by
 obtain⟨t,p1,s1⟩:=ho;obtain⟨u,p2,s2⟩:=hi;obtain⟨u',p3,V⟩:=he;refine⟨_,anF hu p1 p2 p3 m,λG K M H J N Q w r h=>?_⟩;refine s1 G K M H J N _ w r (bN.mb h λx d v H1 G1 b C D E h1=>?_);split at h1
 ·rename_i hd;obtain⟨k0,aq1,e0⟩:=hd;obtain⟨p,P,rfl,hk,g,q1,q2,q3⟩:=BP D E e0;refine⟨p,rfl,.inl ⟨P,.inl q1⟩,?_⟩;refine s2 G1 b d H1 J N _ D (r.ext C) (bN.mb h1 λy c u H2 G2 U s R d2 h2=>?_);refine V G2 U c H2 J N _ R ((r.ext C).ext s) (bN.mb h2 λz L u3 F I q n f d3 j=>?_);unfold Io at j;split at j
  ·rename_i k1 l k e1 e2;obtain⟨p',nC,AZ,BD,g',r1,r2,r3⟩:=BP f (E.ext (s.trans n)) e1;cases AZ;rw[MU (d2.ext n) e2];refine⟨lI nC k,qZ.k r1,?_⟩;obtain⟨i1,i2⟩:=LJ (k:=k) r2 r3;cases B:gZ l k with
   |none =>
    rw[B]at j;rw[i2 B];exact j _ F I q (Ext.refl _ _) f d3
   |some a =>
    rw[B]at j;obtain⟨v',T,S⟩:=i1 a B;rw[T];exact j _ F I q (Ext.refl _ _) f S
  ·exact False.elim j
 ·exact False.elim h1
@[simp] def SY(o i v:A)(Z:aG):ax aG:=match mH Z o,mS i with
 |some (k,kvs),aq key=>if kvs.length<bg then aq (Z.set k (.bB (lY kvs key v)))else av
 |_,_=>av
@[simp] def yA(fe fo fi:Ev->Mo A):MS:=λY=>sM (fe Y) Y λa=>sM (fo Y) Y λo=>sM (fi Y) Y λi Z=>match SY o i a Z with
 |some Z'=>aq (.nx,Y,Z')
 |none=>av
theorem RQ{pos':dj}(hu:X.A.units+1<cLine)(ho:VE X W o fo)(hi:VE X W i fi)(he:VE X W e fe)(hs:ez e (aq (.Subscript o i pos')) pos.line X.env=pure aw:=by rfl):VS X W (.Assign [.Subscript o i pos'] e pos) (yA fe fo fi):=by
 obtain⟨t,p1,R⟩:=ho;obtain⟨u,p2,s2⟩:=hi;obtain⟨u',V,Q⟩:=he;refine⟨_,amC hu p1 p2 V hs,λG E K H J a D w r h=>?_⟩;refine Q G E K H J a _ w r (fM.sM h r λz l v H1 G1 d j P d1 h1=>?_);refine R G1 d l H1 J a _ P (r.ext j) (fM.sM h1 (r.ext j) λx f vo H2 G2 b N M d2 h2=>?_);refine s2 G2 b f H2 J a _ M ((r.ext j).ext N) (fM.sM h2 ((r.ext j).ext N) λy F vi H3 G3 C m s d3 U=>?_);unfold SY at U;split at U
 ·rename_i I B;split at B
  ·rename_i k q key e1 e2;split at B
   ·rename_i hl;cases B;obtain⟨p,L,rfl,hk,g,T,n,S⟩:=BP s (d2.ext m) e1;rw[MU d3 e2];have NB:L.length=q.length:=by have:=c3 List.length n;simpa using this
    refine⟨p,_,rfl,RG.k T (by rw[NB];exact hl),?_⟩;exact wJ (s.put (c:=.bB (lY q key z)) hk g ⟨g,_,eA,alQ n,alR n S (d1.ext (N.trans m))⟩) (((r.ext j).ext N).ext m) U
   ·cases B
  ·cases B
 ·exact False.elim U
noncomputable def intKeys:ar (Key×A)->ax (ar a8)
 |[]=>aq []
 |(.inl i,_)::r=>(intKeys r).map (i :: ·)
 |_=>av
theorem Xo:∀{kvs:ar (Key×A)} {ns:ar a8},intKeys kvs=aq ns->kvs.map (·.1)=ns.map Sum.inl
 |[],ns,h=>by simp only[intKeys,lD]at h;subst h;rfl
 |(.inl i,_)::r,ns,h=>by
  simp only[intKeys,FD]at h;obtain⟨ms,h1,rfl⟩:=h;simp[Xo h1]
 |(.inr i,_)::r,ns,h=>by simp[intKeys]at h
@[simp] def Ij(c:bt)(as:ar A):Mo A:=λZ=>match as with
 | [a]=>(match mH Z a with
  | some (_,kvs)=>(match intKeys kvs with
   |some ns=>if ns.length<4000 then lK c ((sortI ns).map A.int) Z else av
   | none=>av)
  | none=>av)
 |_=>av
theorem aAQ(b:X.calm=a5)(c:bt):CD X W (.builtin "sorted") (Ij c):=by
 refine⟨_,aAH b,?_⟩;intro G n o H J r u Q w d h;unfold Ij at h;split at h
 ·rename_i a;split at h
  ·rename_i k B e;split at h
   ·rename_i ns f;split at h
    ·rename_i m;obtain⟨x,rfl,i⟩:=IK d;obtain⟨p,j,rfl,t,g,z,q,s⟩:=BP w i e;refine⟨p,j,ns,rfl,z,by rw[q];exact Xo f,m,λms l U N hl=>?_⟩;rw[Sv U N];exact GX w hl (WJ _) h
    ·exact False.elim h
   ·exact False.elim h
  ·exact False.elim h
 ·exact False.elim h
end
section
variable{X:Cx}{W:WX}{x y:bh}{e:b7}{es:ar b7}{np kT pos HL:dj}{fs:Ev->Mo (ar A)}
@[simp] def cG(x:bh):Ev->Mo A:=λ_=>ret (.gl x)
end
end V2
namespace L2
open PySem PySem.Spec PyProof.Rows
theorem cR.AA{k:a9}{A:bx}(r:cR k A):A.units+1<cLine:=by have:=r.units;omega
end L2
namespace M
open PySem V2
noncomputable section
def WT:MS :=
 (yA (aB cJ (CM aR cN cK) cA) aR cN)
def acL:Ev->Mo A :=
 (mR aw 1 [1] (fH (aS (Ij aw) (aC aR a0))) (gN 0) mM (nS (aC aK (aC (aB Ip aR aK) a0))))
def WU:MS :=
 (aV (bP wF (gN 1))
  (aV (jR (fH aK) (iM 2 (dH (gN 2) (dH (gN 3) jA))) WT)
  (bW acL)))
def QQ:ar A->Mo A:=cV 4 WU
end
end M
namespace L2
open PySem PySem.Spec PyProof.Rows
def Mf(j:ar az)(H:Hp):Prop:=∀b,H b=av\/(∃o xs,H b=aq (.eU o (.lst xs)))\/(b∈j/\H b=aq (.jI #[]))
def xK(h:b9)(mg:bh->ax au):Prop:=∃j o,mg "__builtins__" = aq (.ref j)/\j≠builtinsNs/\h.get? j=aq o/\o.cls=.type "module"/\o.dict=aq builtinsNs/\o.data=.plain
theorem aqX{P:bp}{w:bz}{K:bu}{mg mb:bh->ax au}{CX:rA}{k:a9}{fa a:az}{fd:cx}{x:bh}{sp:Sp}{s₁:ay}{vs:ar au}{ns:ar a8}{j:ar az}
  (KX:K.In s₁.heap) (NJ:s₁.heap.Ns bo mg) (hb:s₁.heap.Ns builtinsNs mb) (D:∀x:bh,x≠"__name__"->mb x=dz x) (S:s₁.heap.NoLimit) (hg:s₁.gens=#[])
  (hT:∀P∈j,s₁.heap.get? P=aq (tabObj #[])) (OB:noTabs K=a5) (Hu:∀P∈j,isCodeTable s₁.heap P)
  (ha:s₁.heap.get? a=aq {cls:=.type "list",data:=.seq vs.toArray}) (hi:c7 vs ns) (hl:ns.length<=bg) (hr:cR k callerA)
  (G:xK s₁.heap mg) (F:∀base:b9,K.In base->base.Ns bo mg->xK base mg->iI P w K mg base CX k fa fd [x] sp) (DU:∀(s:ay) (u:au),BindsTo s fd ⟨[u],[]⟩ [(x,u)])
  (mC:∀H:Hp,Mf j H->(∀P∈j,H P=aq (.jI #[]))->fW K H a (ns.map V.int)->sp [.ref a] H (λv _=>v=.bl a5) λ_ _ _=>cq)
  (Hy:∀H e s',CX [] H s₁ (λ_ _ _=>cq) e s'->cq) :
  codeAny (bw P w) callerA (.call (.ref fa) ⟨[.ref a],[]⟩) (λr s'=>r=.ok (.ret (.bool a5))/\OldK s₁.heap s'.heap/\s'.os=s₁.os/\AllBare s'.gens) s₁:=by
 have rv:=RV hi;have T:=hi.length;have E:∀b∈j,K.lookup b=av:=λb M=>by
  cases q:K.lookup b with
  |none=>rfl
  |some o =>
   have e:=KX b o q;rw[hT b M]at e;cases e;exact b8 (show aw=a5 from JX.mp OB (b,_) (PySem.W.mem_of_lookupK q)) Oy
 have f:a∉j:=λz=>by
  have e:=hT a z;rw[ha]at e;cases e
 have core:∀H:Hp,Mf j H->(∀P∈j,H P=aq (.jI #[]))->fW K H a (ns.map V.int)->fU P w H s₁.heap->(∀b,H b≠av->b=a\/b∈j)->(H a≠av->K.lookup a=av) ->
   codeAny (bw P w) callerA (.call (.ref fa) ⟨[.ref a],[]⟩) (λr s'=>r=.ok (.ret (.bool a5))/\OldK s₁.heap s'.heap/\s'.os=s₁.os/\AllBare s'.gens) s₁:=by
  intro H hO NZ hS aJ L hK;have X:∀{b:az} {o:cz},s₁.heap.get? b=aq o->H b=av->(wN s₁.heap H).get? b=aq o:=λe n=>auC e n;have yF:∀{b:az} {o:cz} {es:ba DictEntry} {U:a9},s₁.heap.get? b=aq o->o.data=.dict es U->H b=av:=λ{b o es U} e d=>by
   cases q:H b with
   |none=>rfl
   |some u =>
    rcases L b (by rw[q];simp)with B|B
    ·subst B;rw[ha]at e;cases e;have d':Data.seq vs.toArray _=Data.dict es U:=d;cases d'
    ·rw[hT b B]at e;cases e;have d':Data.fields #[]=Data.dict es U:=d;cases d'
  have y:∀{b:az} {m:bh->ax au},s₁.heap.Ns b m->(wN s₁.heap H).Ns b m:=λ{b m} ⟨o,es,U,e,d,r⟩=>⟨o,es,U,X e (yF e d),d,r⟩
  have g:K.In (wN s₁.heap H):=λb o e=>X (KX b o e) (by
   cases q:H b with
   |none=>rfl
   |some u =>
    rcases L b (by rw[q];simp)with B|B
    ·subst B;rw[hK (by rw[q];simp)]at e;cases e
    ·rw[E b B]at e;cases e)
  have hM:Mod K mg (wN s₁.heap H):=⟨g,y NJ,⟨mb,y hb,D⟩,let ⟨mc,h1,h2⟩:=S; ⟨mc,y h1,h2⟩⟩;have e0:zU P w K mg (wN s₁.heap H) callerA [] s₁ H:=⟨rfl,hM,λb o e=>aoK e,Nat.le_of_eq (auB _ _),trivial,λb hb=>b8 (show b∈([]:ar az)from hb) (by simp),aJ,.of_eq hg⟩;have I:xK (wN s₁.heap H) mg:=by
   obtain⟨t,o,b1,b2,l,R,b5,b6⟩:=G;refine⟨t,o,b1,b2,X l ?_,R,b5,b6⟩;cases q:H t with
   |none=>rfl
   |some u =>
    rcases L t (by rw[q];simp)with B|B
    ·subst B;rw[ha]at l;cases l;exact b8 (show Value.type "list" = Value.type "module" from R) (by decide)
    ·rw[hT t B]at l;cases l;cases R
  refine vN ((F _ g (y NJ) I).run callerA [] s₁ H ⟨[.ref a],[]⟩ [.ref a] [.ref a] _ _ hr e0 (DU s₁ (.ref a)) (.cons rfl .nil) (mC H hO NZ hS)) λr s' h=>?_;cases r with
  |error e=>exact(Hy H e s' h).elim
  |ok fl =>
   cases fl with
   |next=>exact False.elim h
   |brk=>exact False.elim h
   |cont=>exact False.elim h
   |ret u =>
    obtain⟨v,H',os,bare,un,UW,r',q⟩:=h;have q':v=.bl a5:=q;subst q';obtain rfl:u=Value.bool a5:=r';have key:∀b o,s₁.heap.get? b=aq o->s'.heap.get? b=aq o\/(b∈j/\∃more,s'.heap.get? b=aq {o with data:=.fields (#[]++more)}):=λb o e=>by
     cases q:H b with
     |none=>exact .inl (un.keep b o e q (by intro z;exact b8 (show b∈([]:ar az)from z) (by simp)) (by simp))
     |some u =>
      rcases hO b with z|⟨ob,xs,z⟩|⟨c,z⟩
      ·rw[q]at z;cases z
      ·have A:=un.mV b ob _ z;obtain⟨e1,_⟩:=aJ b _ z;obtain⟨Q,_⟩:=UW b _ A;rw[e]at e1;cases e1;exact .inl Q
      ·obtain⟨more,A⟩:=un.nT b _ z;have Q:=UW b _ A;have e3:s'.heap.get? b=aq {cls:=.none,data:=.fields (#[]++more)}:=Q;have i:=hT b c;rw[e]at i;cases i;exact .inr ⟨c,more,e3⟩
    refine⟨rfl,⟨λb o e=>?_,λb o e=>?_⟩,os,bare⟩
    ·rcases key b o e with z|⟨c,more,z⟩
     ·exact .inl z
     ·have i:=hT b c;rw[e]at i;cases i;exact .inr (.inl ⟨Hu b c,rfl,#[],more,rfl,z⟩)
    ·rcases key b o e with z|⟨c,more,z⟩
     ·exact⟨_,z⟩
     ·exact⟨_,z⟩
 have tk:∀b∈j,jF P w (λb=>if b=a then aq (.eU {cls:=.type "list",data:=.seq vs.toArray} (.lst (ns.map V.int)))else if b∈j then aq (.jI #[])else av) s₁.heap b (.jI #[]):=λb M=>hT b M;cases C:K.lookup a with
 |some o =>
  have e:=KX a o C;rw[ha]at e;cases e;refine core (λb=>if b∈j then aq (.jI #[])else av) (λb=>?_) (λP p=>bb p) (.inr ⟨_,vs.toArray,_,C,rfl,rfl,rfl,by rw[lE,T];exact hl,by simpa using rv⟩) (λb u z=>?_) (λb z=>?_) λz=>?_
  ·by_cases hb:b∈j
   ·exact .inr (.inr ⟨hb,bb hb⟩)
   ·exact .inl (bc hb)
  ·by_cases hb:b∈j
   ·have N:=(bb hb).symm.trans z;cases N;exact hT b hb
   ·have N:=(bc hb).symm.trans z;cases N
  ·by_cases hb:b∈j
   ·exact .inr hb
   ·exact b8 (bc hb) z
  ·exact b8 (bc f) z
 |none =>
  refine core (λb=>if b=a then aq (.eU {cls:=.type "list",data:=.seq vs.toArray} (.lst (ns.map V.int)))else if b∈j then aq (.jI #[])else av) (λb=>?_) (λP p=>?_) (.inl (.inr ⟨{cls:=.type "list",data:=.seq vs.toArray},bb rfl⟩)) (λb u z=>?_) (λb z=>?_) λ_=>C
  ·by_cases hb:b=a
   ·exact .inr (.inl ⟨_,_,bb hb⟩)
   ·by_cases gW:b∈j
    ·exact .inr (.inr ⟨gW,(bc hb).trans (bb gW)⟩)
    ·exact .inl ((bc hb).trans (bc gW))
  ·have gD:P≠a:=λz=>f (z ▸ p);exact(bc gD).trans (bb p)
  ·by_cases hb:b=a
   ·have N:=(bb hb).symm.trans z;cases N;subst hb;exact⟨ha,by rw[lQ];exact hl,vs,_,rv,ha⟩
   ·by_cases gW:b∈j
    ·have N:=((bc hb).trans (bb gW)).symm.trans z;cases N;exact hT b gW
    ·have N:=((bc hb).trans (bc gW)).symm.trans z;cases N
  ·by_cases hb:b=a
   ·exact .inl hb
   ·by_cases gW:b∈j
    ·exact .inr gW
    ·exact b8 ((bc hb).trans (bc gW)) z
theorem afP{l:OpenLaw}{n k:a9}{q:bp}{loose:ar bh}{XP:(bh->ax au)->b9->Prop}{YP:bz->b9->Prop}{d:DefRec}{K:Params->bu}{CX:bz->rA}{sp:bz->Sp}{x:bh}{j:ar az}
  (hn:l.most=aq n) (N:n<=bg) (S:d.params.defaults=[]) (hr:cR k callerA)
  (r:∀(w:bz) (h:b9),YP w h->(K w.params).In h/\∀P∈j,h.get? P=aq (tabObj #[]))
  (Q:∀w:bz,noTabs (K w.params)=a5)
  (F:∀(w:bz) (mg:bh->ax au) (fa:az) (h:b9),(K w.params).In h->h.Ns bo mg->mg d.name=aq (.ref fa) ->
   ∃fd:cx,(∀(s:ay) (u:au),BindsTo s fd ⟨[u],[]⟩ [(x,u)])/\(∀P∈j,∃c,codeHdIn (K w.params) c P=a5) /\
    ∀base:b9,(K w.params).In base->base.Ns bo mg->xK base mg->iI l.prog w (K w.params) mg base (CX w) k fa fd [x] (sp w))
  (i:∀(w:bz) (H:Hp) (a:az) (ns:ar a8),ns.length<=n->Mf j H->(∀P∈j,H P=aq (.jI #[]))->fW (K w.params) H a (ns.map V.int)->sp w [.ref a] H (λv _=>v=.bl a5) λ_ _ _=>cq)
  (Hy:∀(w:bz) (H:Hp) (s:ay) (e:au) (s':ay),CX w [] H s (λ_ _ _=>cq) e s'->cq) :
  PySem.W.WalkO q loose XP YP l.row.toRowW d [] (λf vs=>PySem.call f vs):=by
 refine Att.aA7 hn S λw s₀ s₁ mg mb fa o pm cd doc a vs ns G ρ ho hd iL X Gh hints hlen m=>?_;obtain⟨z,hT⟩:=r w _ ρ;obtain⟨fd,hb,Hu,y⟩:=F w mg fa _ z G.T.g X;refine aqX z G.T.g G.T.b G.T.builtins G.T.nolimit m hT (Q w) (λP B=>?_) Gh hints (rX hlen N) hr (let ⟨A,U,M,L,I,E,D,C⟩:=G.T.bmain; ⟨A,U,M,L,I,E,D,C⟩) y hb (λH t R hS=>i w H a ns hlen t R hS) λH e s'=>Hy w H s₁ e s';obtain⟨c,p⟩:=Hu P B;exact((PySem.W.codeHd_of_K z p).tab (hT P B)).isCodeTable
structure xF(h:b9)(H:Hp)(f:az)(qual:bh)(params:de)(body:b7)(scope:cu)(dD:ar (bh×a8)):Prop where
 ex:∃(cl:ar (bh×az)) (pm gE:au) (c':az) (oc:cz) (vs:ba au) (t:Tok),
  H f=aq (.eU (kla_obj "<lambda>" qual params body scope cl pm c' gE) (.own 0))/\H c'=aq (.eU oc (.own 0))/\oc.data=.fields vs/\vs[1]?=aq (.str qual t) /\
  (∀x y c,cl.lookup x=aq c->cl.lookup y=aq c->x=y)/\(∀y∈scope.names,y.2=.free->∃c,cl.lookup y.1=aq c) /\
  (∀x c,cl.lookup x=aq c->(∃v,h.IsCell c v)/\H c=av)/\∀p∈dD,∃c t,cl.lookup p.1=aq c/\h.IsCell c (aq (.int p.2 t))
theorem xF.oR{h h':b9}{H H':Hp}{f:az}{qual:bh}{params:de}{body:b7}{scope:cu}{dD:ar (bh×a8)}{fs:ar az}(L:xF h H f qual params body scope dD)(u:Un fs [] H H' h h'):xF h' H' f qual params body scope dD:=by
 obtain⟨cl,pm,m,r,a,N,t,h1,h2,l,k,i,g,B,d⟩:=L.ex;have cell:∀{x c v},cl.lookup x=aq c->h.IsCell c v->h'.IsCell c v:=λ{x c v} e ⟨o,z,hd⟩=>by
  obtain⟨sl,q⟩:=u.any z (B x c e).2 (by simp);exact⟨_,q,hd⟩
 refine⟨cl,pm,m,r,a,N,t,u.mV _ _ _ h1,u.mV _ _ _ h2,l,k,i,g,λx c e=>?_,λp b=>?_⟩
 ·obtain⟨⟨v,j⟩,n⟩:=B x c e;obtain⟨o,z,_⟩:=id j;exact⟨⟨v,cell e j⟩,u.free _ _ z n (by simp)⟩
 ·obtain⟨c,U,e,j⟩:=d p b;exact⟨c,U,e,cell e j⟩
noncomputable def BO(P:bp)(w:bz)(K:bu)(mg:bh->ax au)(base:b9)(N:ar bh)(qual:bh)(scope:cu)(f:az)(j:au)(cl:ar (bh×az))(A:bx)(outer:ar Env)(s:ay)(H:Hp):Cx where
 prog:=P
 w:=w
 K:=K
 mg:=mg
 base:=base
 A:=A.deeper (envX qual scope s.heap.objs.size f j cl)
 N:=N
 s₀:=s
 H₀:=H
 env:=envX qual scope s.heap.objs.size f j cl
 outer:=outer
 stack:=envX qual scope s.heap.objs.size f j cl::outer
 ex:=[]
 calm:=a5
 fn:=λ_=>aw
 pn:=[]
 xe:=λ_ _=>cq
structure KA(scope:cu)(y:bh)(cs:ar bh):Prop where
 kind:scope.kind=.function
 co:scope.isCoroutine=aw
 gen:scope.isGenerator=aw
 Vy:∀x∈scope.names,x.2≠.cell
 par:scope.names.lookup y=aq .local
 WN:∀x∈cs,scope.names.lookup x=aq .free
section
variable{P:bp}{w:bz}{K:bu}{mg:bh->ax au}{base:b9}{A:bx}{outer:ar Env}{s:ay}{H:Hp}
theorem aqZ{f:az}{qual:bh}{params:de}{body:b7}{scope:cu}{dD:ar (bh×a8)}{y:bh}{u:au}{v:V}{Q:VK}{E:XK}{k:a9}
  (hr:cR (k+1) A) (j:zU P w K mg base A outer s H) (L:xF s.heap H f qual params body scope dD) (S:KA scope y (dD.map (·.1)))
  (DU:∀cl n c' D,dh (kla_fn "<lambda>" qual params body scope cl n (.ref c') D) ⟨[u],[]⟩=pure [(y,u)]) (rv:RelV v u)
  (hb:∀cd cl,∃te,PE (BO P w K mg base (y::dD.map (·.1)) qual scope f cd cl A outer s H) body te/\te (aq v::dD.map λp=>aq (.int p.2)) H Q) :
  codeAny (bw P w) A (.call (.ref f) ⟨[u],[]⟩) (CR CF outer P w H s Q E) s:=by
 obtain⟨cl,n,D,c',M,X,t,h1,h2,h3,h4,h5,h6,R,h8⟩:=L.ex;have of:s.heap.get? f=aq (kla_obj "<lambda>" qual params body scope cl n c' D):=(j.aJ f _ h1).1;have r:s.heap.get? c'=aq M:=(j.aJ c' _ h2).1;have lim:s.heap.NoLimit:=j.mod.nolimit.keeps λb o e=>(j.bs b o e).1;refine PySem.W.kla_callFunE (by have:=hr.dp;omega) of rfl S.co S.gen rfl ⟨c',M,X,t,rfl,r,h3,h4⟩ ?_;rw[DU];refine bL (wpAny_newFunctionEnv S.Vy (λx B=>by rw[mJ.mp B];exact S.par) (λN NJ oW=>?_) S.kind);have d:∀b o,s.heap.get? b=aq o->N.get? b=aq o:=λb o e=>oW.extBut b o (gF (eG e)) (eI _ e);refine⟨lim.keeps d,?_⟩;show codeAny _ _ (.expr body (envX qual scope s.heap.objs.size f (.ref c') cl)) _ _;obtain⟨te,pe,hq⟩:=hb (.ref c') cl;have l:∀b:az,b∉(BO P w K mg base (y::dD.map (·.1)) qual scope f (.ref c') cl A outer s H).ex:=λb z=>b8 (show b∈([]:ar az)from z) (by simp);have I:Inv (BO P w K mg base (y::dD.map (·.1)) qual scope f (.ref c') cl A outer s H) [] (aq v::dD.map λp=>aq (.int p.2)) H {s with heap:=N,toks:=s.toks+1}:=by
  refine⟨⟨j.mod,S.kind,rfl,rfl,qS _,h5,λx B=>?_,λx c z=>(by cases z),λ_=>hr.hd,Around.frames_deeper j.frames,.inr ⟨rfl,rfl⟩,λb z=>b8 z (l b),j.bs,j.sX,λb _ _=>l b,λb z=>b8 z (l b),j.pS,j.vL⟩,
   rfl,j.bare,Un.kept d,⟨_,NJ,λi x a T h e3=>?_⟩,λx c e=>?_,j.aJ.fresh cX,λx c e=>(R x c e).2,λp g=>b8 (show p∈([]:ar (az×cz))from g) (by simp),j.aJ.kept d,?_⟩
  ·have B:scope.names.lookup x=aq .cell\/scope.names.lookup x=aq .free:=B
   rcases B with B|B
   ·exact b8 rfl (S.Vy _ (PySem.mem_of_lookup B))
   ·exact h6 _ (PySem.mem_of_lookup B) rfl
  ·cases i with
   |zero =>
    have U:y=x:=by simpa[BO]using T
    have F:v=a:=by simpa using h
    subst U F;exact⟨u,rv,.inl ⟨S.par,by simp⟩⟩
   |succ i =>
    have U:(dD.map (·.1))[i]?=aq x:=by simpa[BO]using T
    rw[jN]at U;simp only[QE,jN]at h;cases q:dD[i]? with
    |none=>rw[q]at U;cases U
    |some p =>
     rw[q]at U h;have Ji:p.1=x:=kJ U;have F:V.int p.2=a:=kJ (kJ h);subst Ji F;have g:p∈dD:=nA q;obtain⟨c,G,ec,C⟩:=h8 p g;exact⟨.int p.2 G,⟨G,rfl⟩,.inr ⟨.inr (S.WN _ (YF g)),c,ec,C.keeps d⟩⟩
  ·obtain⟨⟨a,C⟩,_⟩:=R x c e;exact⟨a,C.keeps d⟩
  ·simp[BO]
 refine PySem.W.kla_codeExpr (pZ (pe [] _ _ H Q I hq) (λa s' h'=>?_) λe s' h'=>h'.elim);obtain⟨x,H',σ,m,q⟩:=h';exact⟨x,H',σ.os,σ.bare,σ.base,σ.aJ,m,q⟩
end
end L2
namespace V2
open PySem PySem.Spec PyProof.Rows L2
@[simp] noncomputable def rJ(m:Mo A):Mo A:=λZ=>match m Z with
 |some (.exc _,_)=>av
 |r=>r
@[simp] def nZ(fb:Ev->Mo A)(ns:ar a8):A->Mo A:=λa=>rJ (fb (aq a::ns.map λn=>aq (.int n)))
open Classical in
@[simp] noncomputable def ZV(i:a9)(lf:az)(g:A->Mo A)(fa:Ev->Mo A):Ev->Mo A:=λY=>match (Y[i]?).join with
 |some (.adr q)=>if q=lf then mb (fa Y) g else stuck
 |_=>stuck
def aeG(P:bp)(w:bz)(K:bu)(mg:bh->ax au)(base:b9)(qual:bh)(body:b7)(scope:cu)(y:bh)(cs:ar bh)(fb:Ev->Mo A):Prop :=
 ∀(f:az) (j:au) (cl:ar (bh×az)) (A:bx) (outer:ar Env) (s:ay) (H:Hp),cR 0 (A.deeper (envX qual scope s.heap.objs.size f j cl)) ->
  VE (BO P w K mg base (y::cs) qual scope f j cl A outer s H) DG body fb
section
variable{X:Cx}{W:WX}{e:b7}{fa:Ev->Mo A}{p pos:dj}
theorem afY{i:a9}{z:bh}{U:az}{qual:bh}{params:de}{body:b7}{scope:cu}{dD:ar (bh×a8)}{y:bh}{fb:Ev->Mo A}
  (hex:X.ex=[]) (L0:xF X.s₀.heap X.H₀ U qual params body scope dD) (S:KA scope y (dD.map (·.1))) (hr:cR 1 X.A)
  (DU:∀(u:au) cl pm c' gE,dh (kla_fn "<lambda>" qual params body scope cl pm (.ref c') gE) ⟨[u],[]⟩=pure [(y,u)])
  (hV:aeG X.prog X.w X.K X.mg X.base qual body scope y (dD.map (·.1)) fb)
  (hN:X.N[i]?=aq z) (hv:PQ X.env.scope z) (he:VE X W e fa) (hd:(z==("__debug__" : bh))=aw:=by decide) (iL:(z==("__classdict__" : bh))=aw:=by decide)
  (kG:bj [e] X.env=[(aw,cg e X.env)]:=by rfl) :
  VE X W (.Call (.Name z p) [e] [] pos) (ZV i U (nZ fb (dD.map (·.2))) fa):=by
 obtain⟨t,p1,L⟩:=he;refine⟨λJ H Q=>J[i]?=aq (aq (.ref U))/\t J H λv c=>∀(f:az) (m:au) (cl:ar (bh×az)) (A:bx) (outer:ar Env) (s:ay),cR 0 (A.deeper (envX qual scope s.heap.objs.size f m cl)) ->
   ∃C,PE (BO X.prog X.w X.K X.mg X.base (y::dD.map (·.1)) qual scope f m cl A outer s c) body C/\C (aq v::dD.map λp=>aq (.int p.2)) c Q,?_,?_⟩
 ·intro aa s J H Q I ⟨M,ht⟩;refine xP (bI (Ds hN hv hd iL aa s J H (λv c=>v=.ref U/\c=H) I ⟨_,M,rfl,rfl⟩) λfv s0 ⟨v0,H0,I0,r0,e0,e1⟩=>?_);subst e0 e1;cases r0;have fnAt:∀{aa:ar (az×cz)} {J:L2.St} {H:Hp} {s:ay},Inv X aa J H s->xF s.heap H U qual params body scope dD/\PySem.W.FnAt U s.heap:=λ{aa J H s} σ=>by
   have u:=σ.base;rw[hex]at u;have La:=L0.oR u;obtain⟨cl,pm,gE,c',oc,vs,t,h1,_⟩:=La.ex;exact⟨La,⟨_,_,_,_,(σ.aJ _ _ h1).1⟩⟩
  refine PySem.W.callWith_F (fnAt I0).2 ?_ kG rfl;rw[kG];refine KY (bI (p1 aa s0 J H0 _ I0 ht) λu L ⟨v,c,D,r1,q1⟩=>?_);refine RH ⟨(fnAt D).2,?_⟩;refine FY (vN (aqZ (E:=λ_ _ _=>cq) (k:=0) hr D.IG (fnAt D).1 S (DU u) r1 λm cl=>q1 U m cl X.A X.stack L (hr.deeper _)) λr s' B=>?_);cases r with
  |error ev=>exact False.elim B
  |ok fl =>
   cases fl with
   |ret u=>exact D.after B
   |next=>exact False.elim B
   |brk=>exact False.elim B
   |cont=>exact False.elim B
 ·intro G O Z H J T Q w r h;simp only[ZV]at h;cases q:(T[i]?).join with
  |none=>rw[q]at h;exact False.elim h
  |some d =>
   rw[q]at h;cases d with
   |adr q0 =>
    simp only at h
    by_cases B:q0=U
    ·rw[bb B]at h;subst B;obtain⟨v,P,Yb⟩:=r.2 i _ (join_some q);simp only[Den]at Yb;subst Yb;refine⟨P,L G O Z H J T _ w r (bN.mb h λa g v c G1 o x1 w1 d1 h1=>?_)⟩;intro f m cl A outer s R;obtain⟨C,pe,sm⟩:=hV f m cl A outer s c R;refine⟨C,pe,sm G1 o g c _ (aq a::(dD.map (·.2)).map λn=>aq (.int n)) Q w1 ?_ ?_⟩
     ·refine⟨by simp,λj d l=>?_⟩;cases j with
      |zero=>simp at l;subst l;exact⟨v,rfl,d1⟩
      |succ j =>
       simp only[QE,jN]at l ⊢;cases V:dD[j]? with
       |none=>rw[V]at l;cases l
       |some pp =>
        rw[V]at l;have:V2.A.int pp.2=d:=kJ (kJ l);subst this;exact⟨.int pp.2,rfl,by simp only[Den]⟩
     ·have h2:bN X.K (Den X.K) W G1 o J Q (rJ (fb (aq a::(dD.map (·.2)).map λn=>aq (.int n))) g):=h1
      revert h2
      simp only[rJ];generalize fb (aq a::(dD.map (·.2)).map λn=>aq (.int n)) g=r2;intro h2
      match r2,h2 with
      |some (.ok b,F),h2=>exact h2
      |some (.exc x,F),h2=>exact False.elim h2
      |none,h2=>exact h2
    ·rw[bc B]at h;exact False.elim h
   |_=>exact False.elim h
end
end V2
namespace L2
open PySem PySem.Spec PyProof.Rows
def Ow(X:Cx)(scope:cu)(cl:ar (bh×az)):Prop:=(∀x c,cl.lookup x=aq c->X.env.cells.lookup x=aq c)/\∀y∈scope.names,y.2=.free->∃c,cl.lookup y.1=aq c
abbrev DM(qual:bh)(params:de)(body:b7)(scope:cu)(cl:ar (bh×az))(j:au)(c':az)(q:au):HO:=.eU (kla_obj "<lambda>" qual params body scope cl j c' q) (.own 0)
def Ap(X:Cx)(P:az)(qual:bh)(params:de)(body:b7)(scope:cu)(dO:dj):TE:=λ_ H Q=>∃ps,H P=aq (.jI ps)/\TriplesOk ps.toList /\
 ((codeAmong dO ps.toList=av/\∀cl,Ow X scope cl->∀f c' j vs t q z,H f=av->H c'=av->c'≠f->j.data=.fields vs->vs[1]?=aq (.str qual t) ->
   Q (.ref f) (upd (upd (upd H c' (.eU j (.own 0))) P (.jI (ps ++ #[cn dO.line,cn dO.col,.ref c']))) f (DM qual params body scope cl q c' z))) \/
(∃c',codeAmong dO ps.toList=aq (.ref c')/\∀cl,Ow X scope cl->∀f pm gE,H f=av->Q (.ref f) (upd H f (DM qual params body scope cl pm c' gE))))
section
variable{X:Cx}
theorem am9{params:de}{body:b7}{scope:cu}{dO:dj}{c P:az}{qual:bh}(HY:X.env.code=.ref c)(hq:X.env.qual ++ "<lambda>" = qual)(OC:codeHdIn X.K c P=a5)(hB:xK X.base X.mg)
  (NW:defaultsOf params X.env=([],[])) (HV:∀y∈scope.names,y.2=.free->X.env.kindOf y.1=aq .cell\/X.env.kindOf y.1=aq .free):PE X (.Lambda params body scope dO) (Ap X P qual params body scope dO):=by
 intro aa s J H Q I h;obtain⟨g,B,M,h⟩:=h;obtain⟨cl,gM,S,L⟩:=abT (scope:=scope) (env:=X.env) λy hy hf=>I.ok.has y.1 (HV y hy hf);have k:s.heap.get? P=aq (tabObj g):=I.aJ P _ B;have C:PySem.W.CodeHd s.heap c P:=PySem.W.codeHd_of_K I.fZ OC;have R:s.heap.Ns bo X.mg:=I.mod.glob.keeps I.bk;obtain⟨og,es,ep,eg,dg,rg⟩:=id I.mod.glob;have x:bo≠P:=λq=>by
  have:=(I.bs _ _ eg).2;rw[q,B]at this;cases this
 obtain⟨D,ob,b1,b2,r,b4,b5,E⟩:=hB;have A:D≠P:=λq=>by
  have:=(I.bs _ _ r).2;rw[q,B]at this;cases this
 have Ho:D≠bo:=λq=>by
  rw[q,eg]at r;cases r;rw[dg]at E;cases E
 have hb:s.heap.BuiltinsAt X.mg P:=⟨D,ob,b1,b2,Ho,A,I.bk _ _ r,b4,b5,E⟩;refine PySem.W.kla_eval NW ?_;rw[hq]
 rcases h with⟨hn,h⟩|⟨j,hn,h⟩
 ·refine PySem.W.kla_makeFunction (mg:=X.mg) gM I.ok.glob R HY C k M hn x hb λj l h' tk p T bZ F Yh=>?_;obtain⟨V,f,vs,t,e2,NH,hd,hv⟩:=F;cases e2;have U:H j=av:=I.aJ.fresh T;have Hn:j≠P:=λq=>by rw[q,B]at U;cases U
  have ne:∀b o,s.heap.get? b=aq o->b≠j:=λb o e z=>by
   have:=eG e;rw[z]at this;exact b8 (mY this T) (Nat.lt_irrefl _)
  have at':∀b,b≠P->b≠j->upd (upd H j (.eU f (.own 0))) P (.jI (g ++ #[cn dO.line,cn dO.col,.ref j])) b=H b:=λb h1 h2=>by rw[bJ h1,bJ h2]
  have un:Un (jD X.stack) [] H (upd (upd H j (.eU f (.own 0))) P (.jI (g ++ #[cn dO.line,cn dO.col,.ref j]))) s.heap h':=by
   refine⟨λb o e n _ _=>p b o (λz=>by rw[z,B]at n;cases n) e,λb o e n _ _=>⟨o.slots,p b o (λz=>by rw[z,B]at n;cases n) e⟩,λb o e n _=>?_,λb o e _=>?_,λb xs e=>?_,λb o u e=>?_,λb qs e=>?_⟩
   ·rw[at' b (λz=>by rw[z,B]at n;cases n) (ne b o e)];exact n
   ·by_cases N:b=P
    ·subst N;exact⟨_,Yh⟩
    ·exact⟨o,p b o N e⟩
   ·rw[at' b (λz=>by rw[z,B]at e;cases e) (iV e U)];exact e
   ·rw[at' b (λz=>by rw[z,B]at e;cases e) (iV e U)];exact e
   ·by_cases N:b=P
    ·subst N;rw[B]at e;cases e;exact⟨_,eA⟩
    ·exact⟨#[],by rw[at' b N (iV e U),e];simp⟩
  have aJ:fU X.prog X.w (upd (upd H j (.eU f (.own 0))) P (.jI (g ++ #[cn dO.line,cn dO.col,.ref j]))) h':=λb u e=>by
   by_cases N:b=P
   ·subst N;rw[eA]at e;cases e;exact Yh
   ·rw[bJ N]at e
    by_cases gW:b=j
    ·subst gW;rw[eA]at e;cases e;exact⟨NH,f,NH⟩
    ·rw[bJ gW]at e;refine(I.aJ b u e).oR (λd v NY q=>p d v (λz=>?_) q) (λd q=>?_) (λd xs q=>?_)
     ·subst z
      rcases NY with z|z
      ·exact N z.symm
      ·rw[B]at z;cases z
     ·rw[at' d (λz=>by rw[z,B]at q;cases q) (iV q U)];exact q
     ·rw[at' d (λz=>by rw[z,B]at q;cases q) (iV q U)];exact q
  have I1:Inv X aa J (upd (upd H j (.eU f (.own 0))) P (.jI (g ++ #[cn dO.line,cn dO.col,.ref j]))) {s with heap:=h',toks:=tk}:=I.OV (s':={s with heap:=h',toks:=tk}) (ch:=[]) rfl un aJ I.bare λb z=>b8 z (by simp);have m:upd (upd H j (.eU f (.own 0))) P (.jI (g ++ #[cn dO.line,cn dO.col,.ref j])) h'.objs.size=av:=I1.aJ.fresh cX;have Hi:h'.objs.size≠P:=λz=>by rw[z,eA]at m;cases m
  have Zk:h'.objs.size≠j:=JF bZ;have G:H h'.objs.size=av:=by rw[at' _ Hi Zk]at m;exact m
  refine⟨.ref h'.objs.size,_,I1.laid (t':=tk) (a:=h'.objs.size) (o:=DM qual params body scope cl ((X.mg "__name__").getD .none) j l) (λb o e=>eI _ e) cX ⟨gO _ rfl,_,gO _ rfl⟩,rfl,?_⟩;exact h cl ⟨S,L⟩ _ j f vs t _ l G U Zk.symm hd hv
 ·refine PySem.W.kla_makeFunctionHit (mg:=X.mg) gM I.ok.glob R HY C k M hn hb λl h' tk hk i=>?_;have G:H h'.objs.size=av:=I.aJ.fresh i;exact⟨.ref h'.objs.size,_,I.laid (t':=tk) (a:=h'.objs.size) (o:=DM qual params body scope cl ((X.mg "__name__").getD .none) j l) (λb o e=>eI _ (hk b o e)) i ⟨gO _ rfl,_,gO _ rfl⟩,rfl,h cl ⟨S,L⟩ _ _ l G⟩
end
theorem axG{CX:rA}{P:bp}{w:bz}{K:bu}{mg:bh->ax au}{base:b9}{k:a9}{f:az}{name qual:bh}{params:de}{body:ar cb}{scope:cu}{g kV doc d z ct l:au}{h od:ax az}
  {D:ba (ax au)} {N ps:ar bh} (m:K.lookup f=aq ⟨l,od,.func (et name qual params body scope g kV doc d h z ct),D⟩) (C:codeIn K z qual=a5) (S:cS N ps scope)
  {A:bx} {outer:ar Env} {s:ay} {H:Hp} {args:Args} {us:ar au} {vs:ar V} {Q:VK} {E:XK} (hr:cR (k+1) A) (U:zU P w K mg base A outer s H) (hb:BindsTo s (et name qual params body scope g kV doc d h z ct) args (ps.zip us)) (r:Vals vs us) (hl:vs.length=ps.length)
  (p:cR k (A.deeper (c6 qual scope s.heap.objs.size f z))->∃t,tF (uD CX P w K mg base N qual scope f z A outer s H E) body t/\t {nx:=λ_ H'=>Q .cZ H',rt:=Q} (start N vs) H) :
  codeAny (bw P w) A (.call (.ref f) args) (CR CX outer P w H s Q E) s:=by
 have i:K.In s.heap:=U.mod.tT.keeps λb o e=>(U.bs b o e).1;have lim:s.heap.NoLimit:=U.mod.nolimit.keeps λb o e=>(U.bs b o e).1;have M:∀y∈ps.zip us,scope.names.lookup y.1=aq .local\/(scope.names.lookup y.1=aq .cell/\((cellsFrom (s.heap.objs.size+1) scope.names []).lookup y.1).isSome=a5):=λ⟨n,v⟩ F=>by
  rcases S.par n (Mx F).1 with q|q
  ·exact .inl q
  ·exact .inr ⟨q,cellsFrom_some _ _ _ (.inl q)⟩
 refine codeAny_call_function hr.depth (i _ _ m) rfl S.co S.gen rfl (PySem.W.codeRec_of i C) (hb _ _ _ _ ?_);refine wpAny_newFunctionEnv_cells S.kind M λenv he c x=>?_;subst he;refine⟨lim.keeps x.toInCall.keep,codeAny_func ?_⟩;obtain⟨t,G,L⟩:=p (hr.deeper _);have I:Inv (uD CX P w K mg base N qual scope f z A outer s H E) [] (start N vs) H c:=Xn S hr.hd U hl r x;refine pZ (G [] c (start N vs) H _ I L) (λfl s' B=>?_) λe s' B=>B;have fin:∀{j:St} {H':Hp} {v:V} {u:au},Inv (uD CX P w K mg base N qual scope f z A outer s H E) [] j H' s'->RelV v u->Q v H'->CE outer P w H s Q u s' :=
  λ{j H' v u} σ a q=>⟨v,H',σ.os,σ.bare,σ.base,σ.aJ,a,q⟩
 cases fl with
 |ret u =>
  obtain⟨v,j,H',σ,a,q⟩:=B;exact fin σ a q
 |next =>
  obtain⟨j,H',σ,q⟩:=B;exact fin (v:=V.cZ) (u:=Value.none) σ rfl q
 |brk =>
  obtain⟨_,_,_,q⟩:=B;exact False.elim q
 |cont =>
  obtain⟨_,_,_,q⟩:=B;exact False.elim q
end L2
namespace V2
open PySem PySem.Spec PyProof.Rows L2
structure PV(K:bu)(mg:bh->ax au)(base:b9)(x:bh):Prop where
 tT:K.In base
 glob:base.Ns bo mg
 blt:xK base mg
 hd:∃c P,tabIn K x=aq (c,P)/\codeHdIn K c P=a5
section
variable{P:bp}{w:bz}{K:bu}{mg:bh->ax au}{base:b9}
theorem cQ.ofT{x:bh}{st:cb}{N ps:ar bh}{k:a9}{b:MS}(h:HasFn K mg x st)(T:PV K mg base x)(S:cS N ps (aW st))
  (bind:∀(kV doc pm:au) (an:ax az) (d ct:au) (us:ar au),us.length=ps.length->dh (et x x (jE st) (eQ st) (aW st) .none kV doc pm an d ct) ⟨us,[]⟩=pure (ps.zip us))
  (n:∀(c g:az),tabIn K x=aq (c,g)->codeHdIn K c g=a5->∀(f:az) (A:bx) (outer:ar Env) (s:ay) (H:Hp) (E:XK),cR k (A.deeper (c6 x (aW st) s.heap.objs.size f (.ref c))) ->
   kU (oI P w K mg base N x (aW st) f (.ref c) A outer s H E) (λ_=>E) (eQ st) b):cQ P w K mg base x (k+1) ps (cV N.length b):=by
 obtain⟨f,fd,hm,F⟩:=h.ex;obtain⟨c,g,i,hh⟩:=T.hd;have j:∃B z kV doc pm an ct a,fd=et x x (jE st) (eQ st) (aW st) .none kV doc pm an (.ref c) ct/\K.lookup f=aq ⟨B,z,.func (et x x (jE st) (eQ st) (aW st) .none kV doc pm an (.ref c) ct),a⟩/\codeIn K (.ref c) x=a5:=by
  obtain⟨B,z,kV,doc,pm,an,d,ct,a,rfl,U,j⟩:=F.ex;have e:(et x x (jE st) (eQ st) (aW st) .none kV doc pm an d ct).code=.ref c:=PySem.W.law_code T.tT T.glob i hm (T.tT _ _ U) rfl;have o:d=.ref c:=e;subst o;exact⟨B,z,kV,doc,pm,an,ct,a,rfl,U,j⟩
 have FB:=F.binds bind;obtain⟨B,z,kV,doc,pm,an,ct,a,rfl,U,j⟩:=j;refine⟨f,_,VZ U j S (λl H Q E h=>h.1) λA outer s H l Q E hr m=>?_,hm,F.kp,FB⟩;obtain⟨t,p,q⟩:=n c g i hh f A outer s H E hr;exact⟨t,MR p,OY q m⟩
end
noncomputable def zC:ar a9->Ev->ax (ar a8)
 |[],_=>aq []
 |j::js,Y=>match (Y[j]?).join with
  |some (.int n)=>(zC js Y).map (n :: ·)
  |_=>av
open Classical in
noncomputable def xS(k:a9)(x:bh)(dO:dj)(qual:bh)(js:ar a9)(R:ar a8->A->Mo A)(fa:Ev->Mo A):Ev->Mo A:=λY=>mb (fa Y) λa Z=>if Z[k]?=aq (.tab x dO qual)then(match zC js Y with
 |some ns=>rJ (R ns a) Z
 | none=>av)else av
theorem ab8{K:bu}{G:Hp}{O:ar az}{J:L2.St}{Y:Ev}(r:iJ K G O J Y)(N:ar bh):∀{js:ar a9} {cs:ar bh} {ns:ar a8},js.map (λj=>N[j]?)=cs.map aq->zC js Y=aq ns ->
  ∃dD:ar (bh×a8),dD.map (·.1)=cs/\dD.map (·.2)=ns/\∀p∈dD,∃j:a9,N[j]?=aq p.1/\J[j]?=aq (aq (V.int p.2))
 |[],[],ns,_,h=>by
  simp only[zC]at h;cases h;exact⟨[],rfl,rfl,λp U=>by simp at U⟩
 |[],_::_,_,e,_=>by simp at e
 |_::_,[],_,e,_=>by simp at e
 |j::js,c::cs,ns,e,h=>by
  simp only[cP,qW]at e;simp only[zC]at h;cases q:(Y[j]?).join with
  |none=>rw[q]at h;cases h
  |some d =>
   rw[q]at h;cases d with
   |int n =>
    simp only at h;cases B:zC js Y with
    |none=>rw[B]at h;cases h
    |some ms =>
     rw[B]at h;cases h;obtain⟨dD,f,b,a⟩:=ab8 r N e.2 B;obtain⟨v,hv,hd⟩:=r.2 j _ (join_some q);simp only[Den]at hd;subst hd;refine⟨(c,n)::dD,by simp[f],by simp[b],λp U=>?_⟩
     rcases dU.mp U with z|z
     ·subst z;exact⟨j,e.1,hv⟩
     ·exact a p z
   |_=>cases h
section
variable{X:Cx}{W:WX}{e:b7}{fa:Ev->Mo A}{p pos:dj}
theorem ahF{ps:ba au}{dO:dj}{c':az}(q:TriplesOk ps.toList)(hn:codeAmong dO ps.toList=av) :
  TriplesOk (ps ++ #[cn dO.line,cn dO.col,.ref c']).toList/\codeAmong dO (ps ++ #[cn dO.line,cn dO.col,.ref c']).toList=aq (.ref c'):=by
 have e:(ps ++ #[cn dO.line,cn dO.col,Value.ref c']).toList=ps.toList++[cn dO.line,cn dO.col,.ref c']:=by simp
 rw[e];generalize ps.toList=l at q hn;constructor
 ·induction l using TriplesOk.induct with
  |case1=>exact trivial
  |case2 i t j u v af ih =>
   simp only[TriplesOk]at q;simp only[codeAmong]at hn;split at hn
   ·cases hn
   ·exact ih q hn
  |case3 l h1 h2=>simp[TriplesOk]at q
 ·exact codeAmong_snoc l q hn
theorem af1{x z y qual:bh}{st:cb}{N ps cs:ar bh}{k kf:a9}{js:ar a9}{params:de}{body:b7}{scope:cu}{dO:dj}{c P:az}{fb:Ev->Mo A}{bfw:az->(A->Mo A)->MS}{R:ar a8->A->Mo A}
  (hT:tabIn X.K x=aq (c,P)) (OC:codeHdIn X.K c P=a5) (hB:xK X.base X.mg) (HY:X.env.code=.ref c) (T:X.env.qual ++ "<lambda>" = qual) (NW:defaultsOf params X.env=([],[]))
  (S:KA scope y cs) (HV:∀y∈scope.names,y.2=.free->X.env.kindOf y.1=aq .cell\/X.env.kindOf y.1=aq .free) (VM:js.map (λj=>X.N[j]?)=cs.map aq) (DT:∀x∈cs,X.env.scope.names.lookup x=aq .cell)
  (hz:HasFn X.K X.mg z st) (NG:ps.length=2) (SF:cS N ps (aW st))
  (bind:∀(kV doc i:au) (an:ax az) (aX ct:au) (us:ar au),us.length=ps.length->dh (et z z (jE st) (eQ st) (aW st) .none kV doc i an aX ct) ⟨us,[]⟩=pure (ps.zip us))
  (jL:∀(B:az) (dD:ar (bh×a8)),dD.map (·.1)=cs->∀(f:az) (aX:au) (A:bx) (outer:ar Env) (s:ay) (H:Hp) (E:XK),cR kf (A.deeper (c6 z (aW st) s.heap.objs.size f aX))->xF s.heap H B qual params body scope dD ->
   kU (oI X.prog X.w X.K X.mg X.base N z (aW st) f aX A outer s H E) (λ_=>E) (eQ st) (bfw B (nZ fb (dD.map (·.2)))))
  (hR:∀B ns a Z r,rJ (R ns a) Z=aq r->cV N.length (bfw B (nZ fb ns)) [a,.adr B] Z=aq r)
  (hr:cR (kf+1) X.A) (hg:Gl X z) (he:VE X W e fa) (jK:(z==("__debug__" : bh))=aw:=by decide)
  (kG:bj [e,.Lambda params body scope dO] X.env=[(aw,cg e X.env),(aw,cg (.Lambda params body scope dO) X.env)]:=by rfl)
  (HK:bj [.Lambda params body scope dO] X.env=[(aw,cg (.Lambda params body scope dO) X.env)]:=by rfl) :
  VE X W (.Call (.Name z p) [e,.Lambda params body scope dO] [] pos) (xS k x dO qual js R fa):=by
 obtain⟨t1,p1,s1⟩:=he;have PAa:PA X [e,.Lambda params body scope dO] (LP t1 (LP (Ap X P qual params body scope dO) SJ)) :=
  DA p1 (DA (am9 HY T OC hB NW HV) GS (by rw[HK];rfl)) (by rw[kG,HK])
 refine⟨λJ H Q=>LP t1 (LP (Ap X P qual params body scope dO) SJ) J H λvs H2=>∃(L:V) (B:az) (dD:ar (bh×a8)) (cl:ar (bh×az)) (i n:au) (c':az) (g:cz) (us:ba au) (t:Tok),vs=[L,.ref B]/\dD.map (·.1)=cs/\(∀p∈dD,∃j:a9,X.N[j]?=aq p.1/\J[j]?=aq (aq (V.int p.2))) /\
   Ow X scope cl/\H2 B=aq (DM qual params body scope cl i c' n)/\H2 c'=aq (.eU g (.own 0))/\g.data=.fields us/\us[1]?=aq (.str qual t) /\
   tN X.K ps.length (cV N.length (bfw B (nZ fb (dD.map (·.2))))) [L,.ref B] H2 Q (λ_ _ _=>cq),?_,?_⟩
 ·intro aa s J H Q I h;obtain⟨f,fd,hm,F⟩:=hz.ex;refine xP (HF I hg hm ?_ jK);refine callWith_K (h₀:=X.base) I.ok.mod.tT F.kp (bI (PAa pos aa s J H _ I h) λus s1 ⟨vs,H1,C,r,q⟩=>⟨C.fZ,?_⟩) (by rw[kG,HK]) (by rw[HK];rfl);obtain⟨L,B,dD,cl,i,n,c',g,ws,t,rfl,Zt,hσ,gM,hlf,wO,hd,hv,mC⟩:=q;have La:xF s1.heap H1 B qual params body scope dD:=by
   refine⟨cl,i,n,c',g,ws,t,hlf,wO,hd,hv,λx y c h1 h2=>C.ok.inj x y c (gM.1 x c h1) (gM.1 y c h2),gM.2,λx c e=>⟨C.cell x c (gM.1 x c e),C.oG x c (gM.1 x c e)⟩,λpp Yr=>?_⟩;obtain⟨j,Gw,Gv⟩:=hσ pp Yr;have mU:pp.1∈cs:=by rw[<-Zt];exact YF Yr
   obtain⟨m,hn,hl⟩:=C.loc;obtain⟨u,ru,lu⟩:=hl j pp.1 _ Gw Gv (.inr (.inl (DT _ mU)));obtain⟨tk,rfl⟩:=ru
   rcases lu with⟨hk,_⟩|⟨_,c0,kR,ic⟩
   ·rw[show X.env.kindOf pp.1=aq .cell from DT _ mU]at hk;cases hk
   ·obtain⟨c1,nL⟩:=gM.2 _ (PySem.mem_of_lookup (S.WN _ mU)) rfl;have:=gM.1 _ _ nL;rw[kR]at this;cases this;exact⟨c0,tk,nL,ic⟩
  have gX:=F.binds bind s1 us C.fZ (by rw[tG,<-r.length];simp[NG]);rw[tG]at gX;have FB:=gX;obtain⟨oc2,od,kV,doc,Ur,an,aX,ct,iC,rfl,lk,iL⟩:=F.ex;refine FY (vN (axG (CX:=pE X.prog X.w) (E:=λ_ _ _=>cq) (Q:=Q) (k:=kf) lk iL SF hr C.IG FB r (by simp[NG]) λhrb=>?_) λr s' T=>?_)
  ·obtain⟨tt,pp,qq⟩:=jL B dD Zt f aX X.A X.stack s1 H1 (λ_ _ _=>cq) hrb La;exact⟨tt,MR pp,OY qq mC⟩
  ·cases r with
   |error ev=>obtain⟨x,cls,dx,H',_,_,_,_,_,_,q⟩:=T;exact q.elim
   |ok fl =>
    cases fl with
    |ret u=>exact C.after T
    |next=>exact False.elim T
    |brk=>exact False.elim T
    |cont=>exact False.elim T
 ·intro G O Z H J Y Q w r h;unfold xS at h;refine s1 G O Z H J Y _ w r (bN.mb h λa U L H1 G1 l x1 D d1 h1=>?_);split at h1
  ·rename_i hk;cases Hl:zC js Y with
   |none=>rw[Hl]at h1;exact False.elim h1
   |some ns =>
    rw[Hl]at h1;simp only at h1;obtain⟨dD,nL,yU,Zv⟩:=ab8 r X.N VM Hl;obtain⟨aP,haP⟩:=D.addr hk;obtain⟨gP,⟨c0,Yi⟩,qs,Ge,Yp,hq3⟩:=D.aH k _ aP hk haP;rw[hT]at Yi;cases Yi;have fin:∀(B:az) (H2 G2:Hp),Ext G1 l G2 l->Wd X.K G2 l U H2->tN X.K ps.length (cV N.length (bfw B (nZ fb (dD.map (·.2))))) [L,.ref B] H2 Q (λ_ _ _=>cq):=λB H2 G2 e2 w2=>by
     refine⟨by simp[NG],G2,l,U,[a,.adr B],w2,.cons (d1.ext e2) (.cons (by simp only[Den]) .nil),?_⟩
     revert h1
     rw[yU];cases d:rJ (R ns a) U with
     |none=>intro h1;exact False.elim h1
     |some r0 =>
      intro h1;rw[hR B ns a U r0 d]
      match r0,h1,d with
      |(.ok b,Z'),h1,_=>exact λv H' G' O' x3 w3 d3=>h1 v H' G' O' (e2.trans x3) w3 d3
      |(.exc xx,Z'),_,d =>
       exfalso;simp only[rJ]at d
       revert d
       generalize R ns a U=rr;intro d
       match rr,d with
       |some (.exc _,_),d=>cases d
       |some (.ok _,_),d=>cases d
       |none,d=>cases d
    refine⟨qs,Ge,Yp,?_⟩
    rcases hq3 with hn|⟨c',g,us,t,hn,hgc,hd,hv⟩
    ·refine .inl ⟨hn,λcl gM f c' g us t i n M kR gD hd hv=>?_⟩;obtain⟨tg1,tg2⟩:=ahF (c':=c') Yp hn;have Hn:c'≠P:=λz=>by rw[z,Ge]at kR;cases kR
     have Hi:f≠P:=λz=>by rw[z,Ge]at M;cases M
     have wA:=D.new kR (.eU g (.own 0));have gPA:upd G1 c' (.eU g (.own 0)) P=av:=by rw[bJ Hn.symm];exact gP
     have wB:=wA.put (c:=.tab x dO qual) (o:=.jI (qs ++ #[cn dO.line,cn dO.col,.ref c'])) haP gPA ⟨gPA,⟨c,hT⟩,_,eA,tg1,.inr ⟨c',g,us,t,tg2,eA,hd,hv⟩⟩;have asY:U.set k (.tab x dO qual)=U:=by
      have Yy:=(cY.mp hk);obtain⟨vH,kY⟩:=Yy;rw[<-kY];exact List.set_getElem_self _
     rw[asY]at wB;have HW:upd (upd H1 c' (.eU g (.own 0))) P (.jI (qs ++ #[cn dO.line,cn dO.col,.ref c'])) f=av:=by rw[bJ Hi,bJ gD.symm];exact M
     have wC:=wB.new HW (DM qual params body scope cl i c' n);refine⟨L,f,dD,cl,i,n,c',g,us,t,rfl,nL,Zv,gM,eA,?_,hd,hv,fin f _ _ ?_ wC⟩
     ·rw[bJ gD,bJ Hn,eA]
     ·exact(Ext.new (D.pA kR) _).trans (Ext.new (wB.pA HW) _)
    ·refine .inr ⟨c',hn,λcl gM f i n M=>?_⟩;have Zu:=D.sub _ _ hgc;have wC:=D.new M (DM qual params body scope cl i c' n);exact⟨L,f,dD,cl,i,n,c',g,us,t,rfl,nL,Zv,gM,eA,by rw[bJ (iV Zu M)];exact Zu,hd,hv,fin f _ _ (Ext.new (D.pA M) _) wC⟩
  ·exact False.elim h1
end
structure QN(X:Cx)(scope:cu)(y:bh)(cs:ar bh)(js:ar a9):Prop where
 S:KA scope y cs
 free:∀y∈scope.names,y.2=.free->X.env.kindOf y.1=aq .cell\/X.env.kindOf y.1=aq .free
 dD:js.map (λj=>X.N[j]?)=cs.map aq
 cell:∀x∈cs,X.env.scope.names.lookup x=aq .cell
def Nv(sc:cu)(N:ar bh)(scope:cu)(y:bh)(cs:ar bh)(js:ar a9):Prop :=
 ((scope.kind == .function)=a5/\scope.isCoroutine=aw/\scope.isGenerator=aw)/\(∀x∈scope.names,(x.2 == .cell)=aw)/\(scope.names.lookup y==aq .local)=a5/\(∀x∈cs,(scope.names.lookup x==aq .free)=a5) /\
 (∀y∈scope.names,(y.2 == .free)=a5->(sc.names.lookup y.1==aq .cell)=a5)/\js.map (λj=>N[j]?)=cs.map aq/\∀x∈cs,(sc.names.lookup x==aq .cell)=a5
instance (sc:cu) (N:ar bh) (scope:cu) (y:bh) (cs:ar bh) (js:ar a9):cy (Nv sc N scope y cs js):=by unfold Nv;infer_instance
theorem QN.of{X:Cx}{scope:cu}{y:bh}{cs:ar bh}{js:ar a9}(sc:cu)(N:ar bh)(h1:X.env.scope=sc)(h2:X.N=N)(h:Nv sc N scope y cs js):QN X scope y cs js:=by
 obtain⟨⟨a1,a2,d⟩,c,b,a,U,B,z⟩:=h;refine⟨⟨by simpa using a1,a2,d,λx j=>by simpa using c x j,by simpa using b,λx j=>by simpa using a x j⟩,λy q hf => .inl ?_,by rw[h2];exact B,λx j=>by rw[h1];simpa using z x j⟩;have:=U y q (by simp[hf]);show X.env.scope.names.lookup y.1=aq .cell;rw[h1];simpa using this
theorem Qn{X:Cx}{W:WX}{e:b7}{fa:Ev->Mo A}{p pos:dj}{x z y qual:bh}{st:cb}{N ps cs:ar bh}{k kf:a9}{js:ar a9}{params:de}{body:b7}{scope:cu}{dO:dj}{c P:az}{fb:Ev->Mo A}{bfw:az->(A->Mo A)->MS}{R:ar a8->A->Mo A}
  (hT:tabIn X.K x=aq (c,P)) (n:codeHdIn X.K c P=a5) (i:xK X.base X.mg) (u:X.env.code=.ref c) (g:X.env.qual ++ "<lambda>" = qual) (o:defaultsOf params X.env=([],[]))
  (ι:QN X scope y cs js)
  (hz:HasFn X.K X.mg z st) (t:ps.length=2) (m:cS N ps (aW st))
  (bind:∀(kV doc B:au) (l:ax az) (q ct:au) (us:ar au),us.length=ps.length->dh (et z z (jE st) (eQ st) (aW st) .none kV doc B l q ct) ⟨us,[]⟩=pure (ps.zip us))
  (b:KA scope y cs->∀(j:az) (dD:ar (bh×a8)),dD.map (·.1)=cs->∀(f:az) (q:au) (A:bx) (outer:ar Env) (s:ay) (H:Hp) (E:XK),cR kf (A.deeper (c6 z (aW st) s.heap.objs.size f q))->xF s.heap H j qual params body scope dD ->
   kU (oI X.prog X.w X.K X.mg X.base N z (aW st) f q A outer s H E) (λ_=>E) (eQ st) (bfw j (nZ fb (dD.map (·.2)))))
  (hR:∀j ns a Z r,rJ (R ns a) Z=aq r->cV N.length (bfw j (nZ fb ns)) [a,.adr j] Z=aq r)
  (hr:cR (kf+1) X.A) (h:Gl X z) (he:VE X W e fa) (d:(z==("__debug__" : bh))=aw:=by decide)
  (U:bj [e,.Lambda params body scope dO] X.env=[(aw,cg e X.env),(aw,cg (.Lambda params body scope dO) X.env)]:=by rfl)
  (v:bj [.Lambda params body scope dO] X.env=[(aw,cg (.Lambda params body scope dO) X.env)]:=by rfl) :
  VE X W (.Call (.Name z p) [e,.Lambda params body scope dO] [] pos) (xS k x dO qual js R fa) :=
 af1 hT n i u g o ι.S ι.free ι.dD ι.cell hz t m bind (b ι.S) hR hr h he d U v
noncomputable def Hk (vs:ba au) (c P:az):bt:=(match (vs[11]?:ax au) with|some (.ref j) => j==P|_ => aw) &&
   (match vs.getD 18 .none with | .str _ _=>a5|_=>aw)&&(match vs.getD 7 .none with | .int _ _=>a5|_=>aw) &&
   (match vs.getD 9 .none with | .bool _=>a5|_=>aw)&&(match vs.getD 10 .none with | .int _ _=>a5|_=>aw)&&c != P
theorem Rx{K:bu}{x:bh}{f tc j:az}{U kV b N ct:au}{od c z:ax az}{sl q:ba (ax au)}{st:cb}{vs:ba au}(a:nsIn K bo x=aq (aq (.ref f)))
  (l:K.lookup f=aq ⟨U,od,.func (et x x (jE st) (eQ st) (aW st) .none kV b N c (.ref tc) ct),sl⟩) (B:K.lookup tc=aq ⟨.type "code",z,.fields vs,q⟩) (hv:vs[11]?=aq (.ref j)) (hh:Hk vs tc j=a5) :
  tabIn K x=aq (tc,j)/\codeHdIn K tc j=a5:=by
 constructor
 ·unfold tabIn;rw[a];simp only[l,B,hv]
 ·unfold codeHdIn;rw[B];exact hh
@[elab_as_elim] theorem us0{P:ar au->Prop}(us:ar au)(h:us.length=0)(f:P []):P us:=by cases us with|nil=>exact f|cons _ _=>simp at h
@[elab_as_elim] theorem Ac{P:ar au->Prop}(us:ar au)(h:us.length=1)(f:∀a,P [a]):P us:=by
 cases us with
 |nil=>simp at h
 |cons a r=>exact us0 r (by simpa using h) (f a)
@[elab_as_elim] theorem xU{P:ar au->Prop}(us:ar au)(h:us.length=2)(f:∀a b,P [a,b]):P us:=by
 cases us with
 |nil=>simp at h
 |cons a r=>exact Ac (P:=λr=>P (a::r)) r (by simpa using h) (f a)
@[elab_as_elim] theorem Ab{P:ar au->Prop}(us:ar au)(h:us.length=3)(f:∀a b c,P [a,b,c]):P us:=by
 cases us with
 |nil=>simp at h
 |cons a r=>exact xU (P:=λr=>P (a::r)) r (by simpa using h) (f a)
@[elab_as_elim] theorem Aa{P:ar au->Prop}(us:ar au)(h:us.length=4)(f:∀a b c d,P [a,b,c,d]):P us:=by
 cases us with
 |nil=>simp at h
 |cons a r=>exact Ab (P:=λr=>P (a::r)) r (by simpa using h) (f a)
@[elab_as_elim] theorem Ra{P:ar au->Prop}(us:ar au)(h:us.length=5)(f:∀a b c d e,P [a,b,c,d,e]):P us:=by
 cases us with
 |nil=>simp at h
 |cons a r=>exact Aa (P:=λr=>P (a::r)) r (by simpa using h) (f a)
noncomputable abbrev AS(x:bh):bh:=x ++ ".<locals>." ++ "<lambda>"
def SS(K:bu)(j:ar az):Sp:=λvs H Q _=>∃(a:az) (ns:ar a8),vs=[.ref a]/\fW K H a (ns.map V.int)/\ns.length<=63/\(∀P∈j,H P=aq (.jI #[]))/\∀H',Q (.bl a5) H'
theorem ah8{K:bu}{H:Hp}{a:az}{xs:ar V}{j:ar az}(h:fW K H a xs)(hT:∀P∈j,H P=aq (.jI #[])):fW K (λb=>if b∈j then av else H b) a xs:=by
 rcases h with(h|⟨o,h⟩)|h
 ·exact .inl (.inl (by
   have:a∉j:=λz=>by rw[hT a z]at h;cases h
   show(if a∈j then av else H a)=_;rw[bc this];exact h))
 ·exact .inl (.inr ⟨o,by
   have:a∉j:=λz=>by rw[hT a z]at h;cases h
   show(if a∈j then av else H a)=_;rw[bc this];exact h⟩)
 ·exact .inr h
section
variable{P:bp}{w:bz}{K:bu}{mg:bh->ax au}{base:b9}
theorem aqW{fa:az}{fd:cx}{k:a9}{F:ar A->Mo A}{B:ar az}(tl:ar (az×bh×dj×bh))(hnd:(tl.map (·.1)).Nodup)(hsub:∀t∈tl,t.1∈B)(hT:∀t∈tl,∃c,tabIn K t.2.1=aq (c,t.1))
  (h1:iI P w K mg base (pE P w) k fa fd ["_law_script"] (tN K 1 F)) (n:∀ns:ar a8,ns.length<=63->∃Z,F [.kL ns] (tl.map λt => .tab t.2.1 t.2.2.1 t.2.2.2)=aq (.ok (.bl a5),Z)) :
  iI P w K mg base CF k fa fd ["_law_script"] (SS K B):=by
 refine(Jv h1).imp λr H Q E m=>?_;obtain⟨a,ns,rfl,l,hl,g,q⟩:=m;obtain⟨Z,e⟩:=n ns hl;refine⟨rfl,λb=>if b∈B then av else H b,tl.map (·.1),tl.map (λt => .tab t.2.1 t.2.2.1 t.2.2.2),[.kL ns],⟨λb o z=>?_,hnd,by simp,λb hb=>?_,λj c b h1 h2=>?_,λb j i s u hh=>?_⟩,.cons (by simp only[Den];exact⟨a,rfl,ah8 l g⟩) .nil,?_⟩
 ·by_cases hb:b∈B
  ·have U:(if b∈B then av else H b)=aq o:=z;rw[bb hb]at U;cases U
  ·have U:(if b∈B then av else H b)=aq o:=z;rw[bc hb]at U;exact U
 ·obtain⟨t,f,rfl⟩:=kW.mp hb;exact⟨_,g _ (hsub t f)⟩
 ·rw[jN]at h1 h2;cases N:tl[j]? with
  |none=>rw[N]at h1;cases h1
  |some t =>
   rw[N]at h1 h2;cases h1;cases h2;have f:=nA N;refine⟨bb (hsub t f),hT t f,#[],g _ (hsub t f),trivial,.inl rfl⟩
 ·obtain⟨_,_,_,_,_,_,_,_,_,_,z,_⟩:=hh;rw[jN]at z;cases N:tl[j]? with
  |none=>rw[N]at z;cases z
  |some t=>rw[N]at z;cases z
 rw[e];intro v p x h _ _ d;simp only[Den]at d;subst d;exact q p
end
open Classical in
noncomputable def qO(g:A->Mo A)(a:A):Mo A:=λZ=>if h:∃(ds:ar A) (m:a9),hZ Z a=aq ds/\m<=ds.length/\ds.length<=100000/\∀i d,ds[i]?=aq d->g d Z=aq (.ok (.bl (decide (m<=i))),Z)then aq (.ok (.int (h.choose_spec.choose:a9)),Z)else av
theorem aaW{g:A->Mo A}{a:A}{Z:aG}{ds:ar A}{m:a9}(h1:hZ Z a=aq ds)(h2:m<=ds.length)(f:ds.length<=100000)(c:∀i d,ds[i]?=aq d->g d Z=aq (.ok (.bl (decide (m<=i))),Z)):qO g a Z=aq (.ok (.int (m:a8)),Z):=by
 have h:∃(ds:ar A) (m:a9),hZ Z a=aq ds/\m<=ds.length/\ds.length<=100000/\∀i d,ds[i]?=aq d->g d Z=aq (.ok (.bl (decide (m<=i))),Z):=⟨ds,m,h1,h2,f,c⟩;have key:∀(U:ar A) (j:a9),hZ Z a=aq U->j<=U.length->(∀i d,U[i]?=aq d->g d Z=aq (.ok (.bl (decide (j<=i))),Z))->j=m:=by
  intro U j N e B;rw[h1]at N;cases N
  rcases Nat.lt_trichotomy j m with z|z|z
  ·have hl:j<ds.length:=by omega
   have b:=c j _ (dZ hl);have q:=B j _ (dZ hl);rw[b]at q;simp at q;omega
  ·exact z
  ·have hl:m<ds.length:=by omega
   have b:=c m _ (dZ hl);have q:=B m _ (dZ hl);rw[b]at q;simp at q;omega
 unfold qO;rw[dif_pos h];obtain⟨N,e,k,B⟩:=h.choose_spec.choose_spec;rw[key _ _ N e B]
theorem axA{g:A->Mo A}{a:A}{Z:aG}{r:Rs A×aG}(h:qO g a Z=aq r):∃(ds:ar A) (m:a9),hZ Z a=aq ds/\m<=ds.length/\ds.length<=100000/\(∀i d,ds[i]?=aq d->g d Z=aq (.ok (.bl (decide (m<=i))),Z))/\r=(.ok (.int (m:a8)),Z):=by
 unfold qO at h;split at h
 ·rename_i hh;cases h;obtain⟨B,z,q,j⟩:=hh.choose_spec.choose_spec;exact⟨_,_,B,z,q,j,rfl⟩
 ·cases h
end V2
namespace M
open PySem V2
noncomputable section
def PH(j:az)(g:A->Mo A):MS :=
 (aV (bP (aB (jC) (aB cJ cN cA) lH) (gN 4))
   (eW (cC (ZV 1 j g (aB aQ aK eL)))
    (bP eL (gN 3))
    (bP (aB cJ eL cU) (gN 2))))
def EZ(j:az)(g:A->Mo A):Ev->Mo bt :=
 (cC (aB oF cN cA))
def IV(j:az)(g:A->Mo A):MS :=
 (aV (bP cK (gN 2))
  (aV (bP (aS jB (aC aK a0)) (gN 3))
  (aV (λY Z=>mG (EZ j g) (PH j g) ((λ_ _=>1000000) Y Z) Y Z)
  (bW cN))))
def acP:MS :=
 (bW (nS (aC (aS tZ (aC cK (aC (aB (nN) (aB aQ aR cK) (aB aQ aK cU)) a0))) (aC (aB (nN) (aB aQ aR cU) (aB aQ aK cK)) a0))))
def QV:ar A->Mo A:=cV 2 acP
end
end M
namespace V2
open PySem PySem.Spec PyProof.Rows L2
section
variable{K:bu}{G H:Hp}{O:ar az}{Z:aG}{d:az}
theorem Wd.neG(w:Wd K G O Z H)(hd:H d=av){a:az}{o:HO}(h:G a=aq o):a≠d:=λz=>by
 have:=w.sub _ _ h;rw[z,hd]at this;cases this
theorem Wd.axP(w:Wd K G O Z H)(hd:H d=av)(o:HO):Ext G O (upd G d o) O:=⟨λa u h=>by rw[bJ (w.neG hd h)];exact h,λ_ _ h=>h⟩
theorem Wd.up(w:Wd K G O Z H)(hd:H d=av)(o:HO):Wd K (upd G d o) O Z (upd H d o):=w.new hd o
end
section
variable{X:Cx}{W:WX}{a b c d:b7}{ta tb tc td:TE}{fa fb fc fd:Ev->Mo A}{pos:dj}
def Sd(r b e:R2)(ta tb tc td:TE):TE:=λJ H Q=>ta J H λx H1=>tb J H1 λy H2=>r x y H2 λz N=>∃k,z=.bl k /\
 (if k=a5 then tc J N λj d=>b y j d λU B=>∃q,U=.bl q/\(if q=a5 then td J B λa c=>e j a c Q else Q (.bl aw) B)else Q (.bl aw) N)
theorem anK{q j B:CmpOp}{r i w:R2}(ho:iH X (ck q) r)(lL:iH X (ck j) i)(NI:iH X (ck B) w)(ha:PE X a ta)(hb:PE X b tb)(hc:PE X c tc)(hd:PE X d td)
  (hm:lastMarks [q,j,B] [b,c,d]=aw:=by with_unfolding_all rfl):PE X (.Compare a [q,j,B] [b,c,d] pos) (Sd r i w ta tb tc td):=by
 intro aa s J H Q I h;refine Compare_chain (bI (ha aa s J H _ I h) λv K ⟨x,H1,I1,R,W⟩=>chain_link (bI (hb aa K J H1 _ I1 W) λu s2 ⟨y,H2,I2,g,V⟩ =>
  bI (ho aa s2 J H2 x y v u _ I2 R g V) λd G ⟨z,t,o,P,k,e,m⟩=>?_)) hm
 subst e;cases P;refine zW ?_;cases k with
 |false=>exact ite_ff ⟨.bl aw,t,o,rfl,m⟩
 |true =>
  refine ite_tt (chain_link (bI (hc aa G J t _ o m) λU F ⟨N,H4,I4,f,T⟩=>bI (lL aa F J H4 y N u U _ I4 g f T) λd' E zz=>?_));obtain⟨z2,p,n,M,k',e',l⟩:=zz;subst e';cases M;refine zW ?_;cases k' with
  |false=>exact ite_ff ⟨.bl aw,p,n,rfl,l⟩
  |true=>exact ite_tt (chain_last (bI (hd aa E J p _ n l) λC D ⟨A,H6,I6,L,S⟩=>NI aa D J H6 N A U C Q I6 f L S))
@[simp] def ZZ(g g' b:A->A->Mo A)(a f2 U N:Ev->Mo A):Ev->Mo A:=λY=>mb (a Y) λx=>mb (f2 Y) λy=>mb (g x y) λz=>mb (IE z) λk=>if k then mb (U Y) λu=>mb (g' y u) λj=>mb (IE j) λB=>if B then mb (N Y) λq=>b u q else ret (.bl aw)else ret (.bl aw)
theorem aiM{K:bu}{r V AK:R2}{g g' EG:A->A->Mo A}{T S R P:TE}(ho:vR K W r g)(lL:vR K W V g')(NI:vR K W AK EG)(h1:fC K (Den K) W T fa)(h2:fC K (Den K) W S fb)(h3:fC K (Den K) W R fc)(h4:fC K (Den K) W P fd):fC K (Den K) W (Sd r V AK T S R P) (ZZ g g' EG fa fb fc fd):=by
 intro G O Z H J j Q w q h;refine h1 G O Z H J j _ w q (bN.mb h λx o v H1 G1 c t w1 d1 h1=>?_);refine h2 G1 c o H1 J j _ w1 (q.ext t) (bN.mb h1 λy l u H2 G2 b s w2 d2 h2=>?_);refine ho G2 b l H2 J v u x y _ w2 (d1.ext s) d2 (bN.mb h2 λz i z' H3 G3 a p M d3 E=>?_);cases z with
 |bl k =>
  simp only[Den]at d3;refine⟨k,d3,?_⟩;cases k with
  |true =>
   refine h3 G3 a i H3 J j _ M (q.ext ((t.trans s).trans p)) (bN.mb E λm f X H4 G4 U I w4 d4 C=>?_);refine lL G4 U f H4 J u X y m _ w4 (d2.ext (p.trans I)) d4 (bN.mb C λz2 e z2' H5 G5 N F L d5 D=>?_);cases z2 with
   |bl k' =>
    simp only[Den]at d5;refine⟨k',d5,?_⟩;cases k' with
    |true=>exact h4 G5 N e H5 J j _ L (q.ext ((((t.trans s).trans p).trans I).trans F)) (bN.mb D λn d n' H6 G6 B x6 w6 d6 h6=>NI G6 B d H6 J X n' m n Q w6 (d4.ext (F.trans x6)) d6 h6)
    |false=>exact lX L (by simp only[Den]) D
   |_=>exact False.elim D
  |false=>exact lX M (by simp only[Den]) E
 |_=>exact False.elim E
theorem af6{q j N:CmpOp}{g g' U:A->A->Mo A}(s:mX X W (ck q) g)(p:mX X W (ck j) g')(w:mX X W (ck N) U)(ha:VE X W a fa)(hb:VE X W b fb)(v:VE X W c fc)(hd:VE X W d fd)
  (hm:lastMarks [q,j,N] [b,c,d]=aw:=by with_unfolding_all rfl):VE X W (.Compare a [q,j,N] [b,c,d] pos) (ZZ g g' U fa fb fc fd):=by
 obtain⟨r,o,n⟩:=s;obtain⟨D,x,y⟩:=p;obtain⟨E,z,B⟩:=w;obtain⟨t,m,i⟩:=ha;obtain⟨u,p2,s2⟩:=hb;obtain⟨C,l,h⟩:=v;obtain⟨e,k,f⟩:=hd;exact⟨_,anK o x z m p2 l k hm,aiM n y B i s2 h f⟩
def aeQ(_ j:a8):Prop:=0<j/\j<1152921504606846976
instance (i j:a8):cy (aeQ i j):=by unfold aeQ;infer_instance
end
end V2
namespace M
open PySem V2
noncomputable section
def Ke:MS :=
 (aV (bP (aB aQ cA cU) (gN 4))
   (aV (bP (aB cJ aR eL) (gN 1))
   (eW (mP (cC (aB oF eL cU)) (cC (aB vK aR (cI 1000000000))))
    (λ_ _=>av)
    fY)))
def Kf:MS :=
 (aV (bP cK (gN 1))
  (aV (jR (ZY aK) (iM 2 (dH (gN 2) (dH (gN 3) jA))) Ke)
  (bW aR)))
def YR:ar A->Mo A:=cV 5 Kf
def XB:MS :=
 (aV (eW (cC (aB oF eL aR))
    (bP (aB cJ cN fD) (gN 2))
    fY)
   (eW (cC (aB rO eL aR))
    (bP (aB cJ cA fD) (gN 3))
    fY))
def Kp:MS :=
 (aV (bP cK (gN 2))
  (aV (bP cK (gN 3))
  (aV (jR (fH aK) (iM 2 (dH (gN 4) (dH (gN 5) jA))) XB)
  (bW (nS (aC cN (aC cA a0)))))))
def YT:ar A->Mo A:=cV 6 Kp
def acR:MS :=
 (aV (eW (mP (mQ (cC (aS EE (aC aK (aC (cT "tuple") a0))))) (cC (aB qN (aS jB (aC aK a0)) lH)))
   (bW (cB aw))
   fY)
  (aV (eW (mP (mQ (cC (aS EE (aC (aB aQ aK cK) (aC (cT "int") a0))))) (mQ (cC (aS EE (aC (aB aQ aK cU) (aC (cT "int") a0))))))
   (bW (cB aw))
   fY)
  (aV (eW (mP (cC (aS EE (aC (aB aQ aK cK) (aC (cT "bool") a0)))) (cC (aS EE (aC (aB aQ aK cU) (aC (cT "bool") a0)))))
   (bW (cB aw))
   fY)
  (bW (Qz (ZZ rO rO rO cK (aB aQ aK cK) aR (aB aQ aK cU)) (aB rO (aB (nN) (aB aQ aK cU) (aB aQ aK cK)) cN))))))
def uK:ar A->Mo A:=cV 3 acR
def Kc:MS :=
 (aV (yA (nS (aC (aB cJ cN cU) (aC (aB cJ cN eL) a0))) aR cA)
   (bP (aB cJ cN eL) (gN 2)))
def WS:MS :=
 (aV (bP wF (gN 1))
  (aV (bP cK (gN 2))
  (aV (jR (fH (aS (cE 1 QQ) (aC aK a0))) (iM 2 (dH (gN 3) (dH (gN 4) jA))) Kc)
  (bW aR))))
def QP:ar A->Mo A:=cV 5 WS
def IY:MS :=
 (aV (bP (aS (cE 2 zQ) (aC aR (aC (aB cJ (cI 80) eL) a0))) (gN 5))
   (aV (bP (aS (cE 2 xG) (aC fD (aC cN a0))) (gN 6))
   (aV (eW (zZ (cC (aB qN aK (gS aw a0))) (cC (aB oF eL CJ)))
    (bP (aB cJ (aB aQ (aB aQ aK (aB (iN) fD (aS jB (aC aK a0)))) cK) (aB aQ (gS aw (aC cK (aC cK (aC cU (aC (ZU cU) a0))))) (aB (iN) (aB (jC) fD (cI 4096)) tL))) (gN 6))
    fY)
   (kX (xT BJ cA (aC mN a0))))))
def XC:MS :=
 (aV (bP (gS a5 a0) (gN 3))
  (aV (jR (zY (aC wC6 a0)) (gN 4) IY)
  (bW (xR 3))))
def Ny:ar A->Mo A:=cV 7 XC
end
end M
namespace PySem
set_option maxRecDepth 100000
set_option compiler.extract_closed false
set_option genSizeOf false
set_option bootstrap.genMatcherCode false
end PySem
namespace V2
open PySem PySem.Spec PyProof.Rows L2
def uU:Hp->ar az->ar (ar V)->Hp
 |H,a::as,t::j=>uU (upd H a (.tup t)) as j
 |H,[],_=>H
 |H,_::_,[]=>H
theorem agF{H:Hp}{a b:az}{o u:HO}(h:a≠b):upd (upd H a o) b u=upd (upd H b u) a o:=by
 funext c
 by_cases h1:c=a
 ·subst h1;rw[bJ h,eA,eA]
 ·by_cases h2:c=b
  ·subst h2;rw[eA,bJ h1,eA]
  ·rw[bJ h2,bJ h1,bJ h1,bJ h2]
theorem Rb{l:az}{o:HO}:∀(as:ar az) (j:ar (ar V)) (H:Hp),l∉as->uU (upd H l o) as j=upd (uU H as j) l o
 |[],j,H,_=>by cases j <;> rfl
 |a::as,[],H,_=>rfl
 |a::as,t::j,H,h=>by
  have q:l≠a:=λe=>h (by rw[e];exact List.mem_cons_self ..);show uU (upd (upd H l o) a (.tup t)) as j=upd (uU (upd H a (.tup t)) as j) l o;rw[agF q];exact Rb as j _ λe=>h (fS _ e)
theorem Xm{P:bp}{w:bz}{k:Key}{u:au}(h:(kF P w).is k u=a5):RelV (kV k) u:=by
 rcases vE (k:=k) (v:=u) h with⟨i,t,q,j⟩|⟨x,t,q,j⟩
 ·subst q;exact⟨t,j⟩
 ·subst q;exact⟨t,j⟩
section
variable{X:Cx}{W:WX}
theorem Rj{aa:ar (az×cz)}{J:L2.St}{s2 N:ay}{x:Hp}(g:Inv X aa J x s2):∀(as:ar az) (B:ar (ar V)) (H:Hp),Inv X aa J H N->as.length=B.length->as.Nodup->(∀a∈as,s2.heap.objs.size<=a/\H a=av) ->
  (∀(j:a9) (a:az) (t:ar V),as[j]?=aq a->B[j]?=aq t->t.length<=bg/\∃U n,Vals t U/\N.heap.get? a=aq {cls:=.type "tuple",data:=.seq U.toArray n})->Inv X aa J (uU H as B) N
 |[],[],H,I,_,_,_,_=>I
 |[],_::_,H,I,hl,_,_,_=>by simp at hl
 |_::_,[],H,I,hl,_,_,_=>by simp at hl
 |a::as,t::B,H,I,hl,hn,hb,h=>by
  obtain⟨h1,h2⟩:=hb a mB;obtain⟨l,U,n,k,e⟩:=h 0 a t rfl rfl;have aJ:fU X.prog X.w (upd H a (.tup t)) N.heap:=by
   refine λb o q=>?_
   by_cases i:b=a
   ·subst i;rw[eA]at q;cases q;exact⟨l,U,k,⟨_,e,rfl,_,rfl⟩⟩
   ·rw[bJ i]at q;exact(I.aJ b o q).oR (λc v _ z=>z) (λc z=>by rw[bJ (iV z h2)];exact z) λc y z=>by rw[bJ (iV z h2)];exact z
  have f:qY X aa H a:=g.wR h1 h2;have m:X.s₀.heap.get? a=av:=by
   cases q:X.s₀.heap.get? a with
   |none=>rfl
   |some A=>exact b8 (mY (eG q) (rX g.sz h1)) (Nat.lt_irrefl _)
  have s:=Inv.Ah I h2 m f.2.1 f.2.2.2.2.1 f.2.2.2.2.2 aJ;rw[rY]at hn;exact Rj g as B _ s (by simpa using hl) hn.2 (λb d=>⟨(hb b (fS _ d)).1,by rw[bJ (λz=>hn.1 (by rw[<-z];exact d))];exact(hb b (fS _ d)).2⟩) (λj b u r p=>h (j+1) b u r p)
theorem Dv{α β:Type}{F:α->β->Prop}:∀{B:ar α} {z:ar β},Paired F B z->∀{j:a9} {a:α},B[j]?=aq a->∃b,z[j]?=aq b/\F a b
 |_,_,.nil,j,a,h=>by simp at h
 |_,_,.cons r _,0,a,h=>by cases h;exact⟨_,rfl,r⟩
 |_,_,.cons _ N,j+1,a,h=>by obtain⟨b,q,f⟩:=Dv N (j:=j) (by simpa using h);exact⟨b,by simpa using q,f⟩
theorem Qr:∀as:ar az,Vals (as.map V.ref) (as.map Value.ref)
 |[] => .nil
 |a::as => .cons rfl (Qr as)
theorem am7{o:b7}{td:TE}{S ai m d:dj}(hc:X.calm=a5)(NQ:Gl X "list")(HN:X.mg "list" = av)(ho:PE X o td)
  (C:bj [.Call (.Attribute o "items" ai) [] [] d] X.env=[(aw,cg (.Call (.Attribute o "items" ai) [] [] d) X.env)]:=by rfl)
  (P:cm o "items" X.env (cg o X.env)=cg o X.env:=by rfl) (R:(ai.endLine==d.line)=a5:=by rfl) :
  PE X (.Call (.Name "list" S) [.Call (.Attribute o "items" ai) [] [] d] [] m) (λJ H Q=>td J H λx H1=>∃a kvs,x=.ref a/\H1 a=aq (.dK kvs) /\
   ∀(as:ar az) (l:az),as.length=kvs.length->as.Nodup->l∉as->(∀b∈as,H1 b=av)->H1 l=av->Q (.ref l) (upd (uU H1 as (kvs.map λU=>[kV U.1,U.2])) l (.lst (as.map V.ref)))):=by
 intro aa s J H Q I h;refine xP (DL I NQ HN PyProof.Rows.boot_list ?_);refine XW ?_ C rfl;rw[C];show wpAny _ _ (spliced ((aw,cg (.Call (.Attribute o "items" ai) [] [] d) X.env)::[])) _ _ s;refine KY ?_;refine Qc P R (bI (ho aa s J H _ I h) λv B ⟨x,H1,y,M,m⟩=>?_);obtain⟨a,kvs,rfl,E,q⟩:=m;cases M;obtain⟨h1,h2,DP⟩:=MZ y (.inl ⟨kvs,.inl E⟩);obtain⟨z,_,i,rel,u⟩:=IJ y.aJ E;refine⟨"dict", "dict.items",PySem.F.plainAttrs_dict,PySem.F.slot_dict_items,PySem.F.type_dict_items,h1,h2,RI rfl (PySem.evalArgs_none ?_)⟩;refine OU PySem.F.slot_dict_items u.typeIs PySem.F.entry_dict_items (PySem.F.args_dict_items_1 _) (meets_dict_items (kF X.prog X.w) a DP) ⟨⟨i,u⟩,?_⟩;refine RH ?_;have N:Inv X aa J H1 {B with heap:=B.heap.push {cls:=.type "dict_items",data:=.fields #[.ref a]} }:=y.kept (t':=B.toks) λb o e=>eI _ e;obtain⟨ep,L⟩:=u.dictAt;have hvl:kvs.length=i.length:=rel.length;refine PySem.W.kdx_call (knd:=kF X.prog X.w) (kvs:=i) (ep:=ep) (s:={B with heap:=B.heap.push {cls:=.type "dict_items",data:=.fields #[.ref a]} }) (N.ok.hd hc) ⟨_,gO _ rfl,rfl,rfl⟩ (L.push _) (by omega) λh' tk ae c as D hS hl f T=>?_;generalize yN:({B with heap:=B.heap.push {cls:=.type "dict_items",data:=.fields #[.ref a]} }:ay)=s2 at N D hS f;have hnd:as.Nodup:=f.rise.imp λh=>gF h;have A:s2.heap.objs.size∉as:=λz=>b8 (f.above _ z) (Nat.lt_irrefl _);have r:∀b∈as,s2.heap.objs.size<=b:=λb hb=>Mj (f.above b hb);have n:as.length<=bg:=by omega
 have I3:Inv X aa J (upd H1 s2.heap.objs.size (.lst (as.map V.ref))) {s2 with heap:=h',toks:=tk}:=N.laid (t':=tk) (o:=.lst (as.map V.ref)) D cX ⟨by rw[lQ];exact n,as.map Value.ref,c,Qr as,by rw[<-T];exact hS⟩;have K:=Rj N as (kvs.map λU=>[kV U.1,U.2]) _ I3 (by simp;omega) hnd (λb hb=>⟨r b hb,by rw[bJ (λz=>A (by rw[<-z];exact hb))];exact N.aJ.fresh (r b hb)⟩) (λj b t e1 g=>by
  obtain⟨key,k,x,g1,g2,g3⟩:=f.pairs j b e1;rw[jN]at g;cases p:kvs[j]? with
  |none=>rw[p]at g;cases g
  |some U =>
   rw[p]at g;cases g;obtain⟨AW,G,g6,g7⟩:=Dv rel p;rw[g1]at G;cases G;refine⟨by show 2<=bg;decide,[key,x],0,.cons (by rw[g6];exact Xm g2) (.cons g7 .nil),g3⟩)
 rw[Rb as _ H1 A]at K;exact⟨.ref s2.heap.objs.size,_,K,rfl,q as _ (by omega) hnd A (λb hb=>N.aJ.fresh (r b hb)) (N.aJ.fresh cX)⟩
end
noncomputable def kA:Key->A
 |.inl i => .int i
 |.inr s => .str s
theorem abN{K:bu}{G:Hp}{O:ar az}(k:Key):Den K G O (kV k) (kA k):=by cases k <;> simp only[kV,kA,Den]
def mT(j:Key×A):A:=.tup [kA j.1,j.2]
section
variable{K:bu}
theorem Ri{Z:aG}:∀(as:ar az) (q:ar (Key×V)) (kvs:ar (Key×A)) (G H:Hp) (O:ar az),Wd K G O Z H->as.length=q.length->as.Nodup->(∀b∈as,H b=av)->q.map (·.1)=kvs.map (·.1)->bE K G O (q.map (·.2)) (kvs.map (·.2)) ->
  ∃G',Ext G O G' O/\Wd K G' O Z (uU H as (q.map λB=>[kV B.1,B.2]))/\bE K G' O (as.map V.ref) (kvs.map mT)
 |[],[],[],G,H,O,w,_,_,_,_,_=>⟨G,Ext.refl _ _,w,by rw[uI,uI,wW]⟩
 |[],[],_::_,_,_,_,_,_,_,_,h,_=>by simp at h
 |[],_::_,_,_,_,_,_,h,_,_,_,_=>by simp at h
 |_::_,[],_,_,_,_,_,h,_,_,_,_=>by simp at h
 |_::_,_::_,[],_,_,_,_,_,_,_,h,_=>by simp at h
 |a::as,j::q,B::kvs,G,H,O,w,hl,hn,hb,c,d=>by
  rw[cP,cP]at d c;obtain⟨x,r,k,o,n⟩:=d.pJ;obtain⟨rfl,rfl⟩:=List.cons.inj k;obtain⟨l,i⟩:=List.cons.inj c;rw[rY]at hn;have ha:=hb a mB;have U:=w.axP ha (.tup [kV j.1,j.2]);have g:=w.up ha (.tup [kV j.1,j.2]);obtain⟨G',N,f,m⟩:=Ri as q kvs _ _ O g (by simpa using hl) hn.2 (λb e=>by rw[bJ (λz=>hn.1 (by rw[<-z];exact e))];exact hb b (fS _ e)) i (n.ext U);refine⟨G',U.trans N,f,?_⟩;rw[cP,cP];refine .cons ?_ m;simp only[mT,Den];refine⟨a,[kV j.1,j.2],rfl,N.same _ _ eA,.cons (by rw[l];exact abN _) (.cons (o.ext (U.trans N)) (by rw[wW]))⟩
end
noncomputable def putD{α:Type}(f:bh)(v:α):ar (bh×α)->ar (bh×α)
 |[]=>[(f,v)]
 |(g,x)::r=>if g=f then(g,v)::r else(g,x)::putD f v r
@[simp] noncomputable def Fd.cell:Fd->ax Cell
 |.lst ds=>aq (.lst ds)
 |.bB kvs=>aq (.bB kvs)
 |.val _=>av
theorem UE{α:Type}{f:bh}:∀{l:ar (bh×α)} {x:α},l.lookup f=aq x->∃i,l[i]?=aq (f,x)/\∀y,putD f y l=l.set i (f,y)
 |[],_,h=>by simp at h
 |(g,z)::r,x,h=>by
  by_cases e:g=f
  ·subst e;simp[List.lookup]at h;subst h;exact⟨0,rfl,λy=>by simp[putD]⟩
  ·have hb:(f==g)=aw:=zE.mpr (dM e);simp only[List.lookup,hb]at h;obtain⟨i,h1,h2⟩:=UE h;exact⟨i+1,by simpa using h1,λy=>by simp[putD,e,h2 y]⟩
theorem TF{α:Type}{f g:bh}{v:α}:∀{l:ar (bh×α)},(putD f v l).lookup g=if g=f then aq v else l.lookup g
 |[]=>by
  by_cases e:g=f
  ·subst e;simp[putD]
  ·have hb:(g==f)=aw:=zE.mpr e;simp[putD,List.lookup,hb,e]
 |(k,x)::r=>by
  have ih:=TF (f:=f) (g:=g) (v:=v) (l:=r)
  by_cases h:k=f
  ·subst h
   by_cases e:g=k
   ·subst e;simp[putD]
   ·have hb:(g==k)=aw:=zE.mpr e;simp[putD,List.lookup,hb,e]
  ·by_cases e:g=k
   ·subst e;simp[putD,h]
   ·have hb:(g==k)=aw:=zE.mpr e;simp only[putD,bc h,List.lookup,hb];exact ih
theorem LY{α:Type}{f:bh}{v w:α}:∀{l:ar (bh×α)},putD f w (putD f v l)=putD f w l
 |[]=>by simp[putD]
 |(k,x)::r=>by
  by_cases h:k=f
  ·simp[putD,h]
  ·simp[putD,h,LY (l:=r)]
section
variable{K:bu}{G H:Hp}{O:ar az}{Z:aG}
theorem wU:∀{j:ar (bh×V)} {fs:ar (bh×Fd)},jZ K G O H j fs<->j.length=fs.length/\∀(i:a9) (h:bh) (v:V) (g:bh) (fd:Fd),j[i]?=aq (h,v)->fs[i]?=aq (g,fd)->h=g/\kK K G O H v fd
 |[],[]=>⟨λ_=>⟨rfl,λi h v g fd q=>by simp at q⟩,λ_=>trivial⟩
 |[],_::_=>⟨λh=>h.elim,λh=>by simp at h⟩
 |_::_,[]=>⟨λh=>h.elim,λh=>by simp at h⟩
 |(f,v)::j,(g,d)::fs=>by
  constructor
  ·rintro⟨h1,h2,U⟩;obtain⟨N,z⟩:=wU.mp U;refine⟨by simp[N],λi h B g' fd a b=>?_⟩;cases i with
   |zero=>simp at a b;obtain⟨rfl,rfl⟩:=a;obtain⟨rfl,rfl⟩:=b;exact⟨h1,h2⟩
   |succ i=>exact z i h B g' fd (by simpa using a) (by simpa using b)
  ·rintro⟨N,z⟩;obtain⟨h1,h2⟩:=z 0 f v g d rfl rfl;exact⟨h1,h2,wU.mpr ⟨by simpa using N,λi h B g' fd a b=>z (i+1) h B g' fd (by simpa using a) (by simpa using b)⟩⟩
theorem jZ.look{ws:ar (bh×V)}{fs:ar (bh×Fd)}{f:bh}{fd:Fd}(h:jZ K G O H ws fs)(l:fs.lookup f=aq fd):∃v,ws.lookup f=aq v/\kK K G O H v fd:=by
 induction fs generalizing ws with
 |nil=>simp at l
 |cons p fs ih =>
  obtain⟨g,d⟩:=p;cases ws with
  |nil=>exact h.elim
  |cons q ws =>
   obtain⟨g',v⟩:=q;obtain⟨e,h2,j⟩:=h;subst e
   by_cases hb:(f==g')=a5
   ·simp only[List.lookup,hb]at l ⊢;cases l;exact⟨v,rfl,h2⟩
   ·have hb:(f==g')=aw:=by simpa using hb
    simp only[List.lookup,hb]at l ⊢;exact ih j l
theorem jZ.ao1{ws:ar (bh×V)}{fs:ar (bh×Fd)}{f:bh}(h:jZ K G O H ws fs)(l:fs.lookup f=av):ws.lookup f=av:=by
 induction fs generalizing ws with
 |nil =>
  cases ws with
  |nil=>rfl
  |cons q ws=>exact h.elim
 |cons p fs ih =>
  obtain⟨g,d⟩:=p;cases ws with
  |nil=>exact h.elim
  |cons q ws =>
   obtain⟨g',v⟩:=q;obtain⟨e,h2,j⟩:=h;subst e
   by_cases hb:(f==g')=a5
   ·simp only[List.lookup,hb]at l;cases l
   ·have hb:(f==g')=aw:=by simpa using hb
    simp only[List.lookup,hb]at l ⊢;exact ih j l
theorem jZ.put{ws:ar (bh×V)}{fs:ar (bh×Fd)}{f:bh}{fd:Fd}{v:V}(h:jZ K G O H ws fs)(d:kK K G O H v fd):jZ K G O H (jS f v ws) (putD f fd fs):=by
 induction fs generalizing ws with
 |nil =>
  cases ws with
  |nil=>exact⟨rfl,d,trivial⟩
  |cons q ws=>exact h.elim
 |cons p fs ih =>
  obtain⟨g,x⟩:=p;cases ws with
  |nil=>exact h.elim
  |cons q ws =>
   obtain⟨g',B⟩:=q;obtain⟨e,h2,z⟩:=h;subst e
   by_cases j:g'=f
   ·simp only[jS,putD,bb j];exact⟨rfl,d,z⟩
   ·simp only[jS,putD,bc j];exact⟨rfl,h2,ih z⟩
theorem jZ.len{ws:ar (bh×V)}{fs:ar (bh×Fd)}(h:jZ K G O H ws fs):ws.length=fs.length:=(wU.mp h).1
theorem kK.anV{v:V}{fd:Fd}{c:Cell}(h:kK K G O H v fd)(q:fd.cell=aq c):∃b,v=.ref b/\b∉O/\(∃o,H b=aq o)/\tJ K G O H b c:=by
 cases fd with
 |val a=>cases q
 |lst ds=>cases q;obtain⟨b,xs,h1,h2,B,j,z⟩:=h;exact⟨b,h1,B,⟨_,j⟩,h2,xs,j,z⟩
 |bB N=>cases q;obtain⟨b,ws,h1,h2,B,j,z,U⟩:=h;exact⟨b,h1,B,⟨_,j⟩,h2,ws,j,z,U⟩
theorem kK.GU{b:az}{fd:Fd}{c:Cell}(j:fd.cell=aq c)(hb:b∉O)(h:tJ K G O H b c):kK K G O H (.ref b) fd:=by
 cases fd with
 |val a=>cases j
 |lst ds=>cases j;obtain⟨h1,xs,h2,q⟩:=h;exact⟨b,xs,rfl,h1,hb,h2,q⟩
 |bB z=>cases j;obtain⟨h1,ws,h2,q,B⟩:=h;exact⟨b,ws,rfl,h1,hb,h2,q,B⟩
theorem Fd.aAB{fd:Fd}{c:Cell}(j:fd.cell=aq c):fd.own=a5:=by cases fd <;> first|rfl|cases j
theorem Fd.aAC{fd:Fd}{c:Cell}(j:fd.cell=aq c):c.noOwn=a5:=by cases fd <;> cases j <;> rfl
theorem kK.lend{b:az}{v:V}{fd:Fd}(h:kK K G O H v fd)(hb:fd.own=a5->v≠.ref b):kK K G (O++[b]) H v fd:=by
 cases fd with
 |val a=>exact Den.ext (Ext.cell b) h
 |lst ds =>
  obtain⟨B,xs,h1,h2,z,q,j⟩:=h;exact⟨B,xs,h1,h2,by simp;exact⟨z,λe=>hb rfl (by rw[h1,e])⟩,q,j.ext (Ext.cell b)⟩
 |bB N =>
  obtain⟨B,ws,h1,h2,z,q,j,U⟩:=h;exact⟨B,ws,h1,h2,by simp;exact⟨z,λe=>hb rfl (by rw[h1,e])⟩,q,j,U.ext (Ext.cell b)⟩
theorem Wd.unfold{s:a9}{cls f:bh}{fs:ar (bh×Fd)}{fd:Fd}{c:Cell}(w:Wd K G O Z H)(D:Z[s]?=aq (.ins cls fs))(hf:fs.lookup f=aq fd)(F:fd.cell=aq c) :
  ∃b,Wd K G (O++[b]) (Z.set s (.ins cls (putD f (.val (.aH Z.length)) fs))++[c]) H:=by
 obtain⟨a,ha⟩:=w.addr D;obtain⟨g,C,Q,ws,h0,h1,h2⟩:=w.aH s _ a D ha;obtain⟨n,e1,e2⟩:=UE hf;obtain⟨q1,q2⟩:=wU.mp h2;have yS:n<fs.length:=(cY.mp e1).1;obtain⟨⟨P,v0⟩,e3⟩:∃p,ws[n]?=aq p:=⟨ws[n]'(by omega),dZ _⟩;obtain⟨rfl,o0⟩:=q2 n P v0 f fd e3 e1;obtain⟨b,rfl,hb,⟨o,ho⟩,hC⟩:=o0.anV F;have Vh:jW H O Z s n b:=⟨a,cls,fs,C,Q,ws,_,_,fd,ha,D,h1,e1,Fd.aAB F,e3⟩;have rL:s<Z.length:=(cY.mp D).1;have I:∀k,k<Z.length->(O++[b])[k]?=O[k]?:=λk r=>iS (by rw[w.len];exact r);have L:∀k,k<Z.length->(Z.set s (.ins cls (putD P (.val (.aH Z.length)) fs))++[c])[k]?=(Z.set s (.ins cls (putD P (.val (.aH Z.length)) fs)))[k]?:=λk r=>iS (by simpa using r);refine⟨b,w.sub,?_,by simp[w.len],λx hx=>?_,λk c' R l m=>?_,λb' k i k' i' l m=>?_⟩
 ·rw[YE];exact⟨w.inj,by simp,λx hx y hy=>by simp at hy;subst hy;exact λe=>hb (e ▸ hx)⟩
 ·rcases lP.mp hx with h|h
  ·exact w.live x h
  ·simp at h;subst h;exact⟨o,ho⟩
 ·by_cases r:k<Z.length
  ·rw[I k r]at m;rw[L k r]at l
   by_cases A:k=s
   ·subst A;rw[fN rL]at l;cases l;rw[ha]at m;cases m;refine⟨g,C,Q,ws,h0,h1,wU.mpr ⟨by rw[e2];simpa using q1,λj h v g' N B z=>?_⟩⟩;rw[e2]at z
    by_cases E:j=n
    ·subst E;rw[fN yS]at z;cases z;rw[e3]at B;cases B;refine⟨rfl,?_⟩;simp only[kK,Den];exact⟨b,rfl,by rw[<-w.len];simp⟩
    ·rw[fF (dM E)]at z;obtain⟨V,T⟩:=q2 j h v g' N B z;refine⟨V,T.lend λX ev=>E ?_⟩;subst ev;exact(w.sep b _ j _ n ⟨a,cls,fs,C,Q,ws,_,_,N,ha,D,h1,z,X,B⟩ Vh).2
   ·rw[fF (dM A)]at l;have q:=w.aH k c' R l m;cases c' with
    |lst ds=>obtain⟨B,xs,z,d⟩:=q;exact⟨B,xs,z,d.ext (Ext.cell b)⟩
    |bB kvs=>obtain⟨B,t,z,d,U⟩:=q;exact⟨B,t,z,d,U.ext (Ext.cell b)⟩
    |ins W iO =>
     obtain⟨y0,S,M,t,B,z,d⟩:=q;obtain⟨p1,p2⟩:=wU.mp d;refine⟨y0,S,M,t,B,z,wU.mpr ⟨p1,λj h v g' N U u=>?_⟩⟩;obtain⟨V,T⟩:=p2 j h v g' N U u;refine⟨V,T.lend λX ev=>A ?_⟩;subst ev;exact(w.sep b k j s n ⟨R,W,iO,S,M,t,_,_,N,m,l,z,u,X,U⟩ Vh).1
    |tab x pos qual=>exact q
    |dead=>trivial
  ·have mD:k=Z.length:=by
    have:=(cY.mp l).1;simp at this;omega
   subst mD;rw[<-w.len]at m;simp at m;subst m;simp at l;subst l;cases fd with
   |val x=>cases F
   |lst ds=>cases F;obtain⟨B,xs,z,d⟩:=hC;exact⟨B,xs,z,d.ext (Ext.cell b)⟩
   |bB kvs=>cases F;obtain⟨B,t,z,d,U⟩:=hC;exact⟨B,t,z,d,U.ext (Ext.cell b)⟩
 ·have back:∀{k i},jW H (O++[b]) (Z.set s (.ins cls (putD P (.val (.aH Z.length)) fs))++[c]) k i b'->jW H O Z k i b':=λ{k i} h=>by
   have Ig:=h;obtain⟨R,W,iO,S,M,t,g',h',N,B,z,d,U,u,y6⟩:=h
   by_cases r:k<Z.length
   ·rw[I k r]at B;rw[L k r]at z
    by_cases A:k=s
    ·subst A;rw[fN rL]at z;cases z;rw[ha]at B;cases B;rw[h1]at d;cases d;rw[e2]at U
     by_cases E:i=n
     ·subst E;rw[fN yS]at U;cases U;cases u
     ·rw[fF (dM E)]at U;exact⟨a,_,fs,C,Q,ws,g',h',N,ha,D,h1,U,u,y6⟩
    ·rw[fF (dM A)]at z;exact⟨R,W,iO,S,M,t,g',h',N,B,z,d,U,u,y6⟩
   ·have mD:k=Z.length:=by
     have:=(cY.mp z).1;simp at this;omega
    subst mD;exact(Ig.no (by simp) (Fd.aAC F)).elim
  exact w.sep b' k i k' i' (back l) (back m)
theorem sC.get{n:a9}:∀{fs:ar (bh×Fd)} {i:a9} {p:bh×Fd},sC n fs->fs[i]?=aq p->tI n p.2
 |[],_,_,_,h=>by simp at h
 |_::_,0,_,c,h=>by simp at h;subst h;exact c.1
 |_::fs,i+1,_,c,h=>sC.get (fs:=fs) c.2 (by simpa using h)
theorem Wd.fold{s:a9}{cls f:bh}{fs:ar (bh×Fd)}{fd:Fd}{c:Cell}{q:aG}(w:Wd K G O (q++[c]) H)(hs:q[s]?=aq (.ins cls fs))(hf:fs.lookup f=aq (.val (.aH q.length)))(hc:fd.cell=aq c)
  (L:∀k c',k≠s->q[k]?=aq c'->KW q.length c') (hfs:sC q.length (putD f fd fs)):Wd K G (O.take q.length) (q.set s (.ins cls (putD f fd fs))) H:=by
 have T:s<q.length:=(cY.mp hs).1;have hlen:O.length=q.length+1:=by rw[w.len];simp
 have e:∀k,k<q.length->(q++[c])[k]?=q[k]?:=λk L=>iS L;have d:∀k,k<q.length->(O.take q.length)[k]?=O[k]?:=λk L=>by rw[JU,bb L]
 obtain⟨b,hb⟩:∃b,O[q.length]?=aq b:=⟨O[q.length]'(by omega),dZ _⟩;have eι:O=O.take q.length++[b]:=by
  have:=List.take_append_getElem (l:=O) (i:=q.length) (by omega);rw[dZ (show q.length<O.length by omega)]at hb;cases hb;rw[List.take_append_getElem,Mw (by omega)]
 have hbn:b∉O.take q.length:=λz=>by
  have nd:=w.inj;rw[eι,YE]at nd;exact nd.2.2 b z b (by simp) rfl
 have sub:∀x,x∉O->x∉O.take q.length:=λx hx z=>hx (ad8 z);have ha:∃a,O[s]?=aq a:=w.addr (show(q++[c])[s]?=aq (.ins cls fs)by rw[e s T];exact hs);obtain⟨a,ha⟩:=ha;obtain⟨g,C,dx,ws,h0,h1,h2⟩:=w.aH s _ a (by rw[e s T];exact hs) ha;obtain⟨i0,e1,e2⟩:=UE hf;obtain⟨q1,q2⟩:=wU.mp h2;have yS:i0<fs.length:=(cY.mp e1).1;have hcb:=w.aH q.length c b (by simp) hb;refine⟨w.sub,w.inj.sublist (YD ..),by simp[hlen],λx hx=>w.live x (ad8 hx),λk c' R m t=>?_,λp k i k' i' m t=>?_⟩
 ·have y:k<q.length:=by simpa using(cY.mp m).1
  rw[d k y]at t
  by_cases A:k=s
  ·subst A;rw[fN T]at m;cases m;rw[ha]at t;cases t;refine⟨g,C,dx,ws,h0,h1,wU.mpr ⟨by rw[e2];simpa using q1,λj h v g' B U N=>?_⟩⟩;have Q:tI q.length B:=hfs.get N;rw[e2]at N
   by_cases M:j=i0
   ·subst M;rw[fN yS]at N;cases N;obtain⟨W,o⟩:=q2 j h v _ _ U e1;refine⟨W,?_⟩;simp only[kK,Den]at o;obtain⟨b2,rfl,gW⟩:=o;rw[hb]at gW;cases gW;exact kK.GU hc hbn (hcb.cut d sub (by cases fd <;> cases hc <;> exact Q))
   ·rw[fF (dM M)]at N;obtain⟨W,o⟩:=q2 j h v g' B U N;exact⟨W,o.cut d sub Q⟩
  ·rw[fF (dM A)]at m;exact(w.aH k c' R (by rw[e k y];exact m) t).cut d sub (L k c' A m)
 ·
  have back:∀{k i},jW H (O.take q.length) (q.set s (.ins cls (putD f fd fs))) k i p->(jW H O (q++[c]) k i p/\p∉O)\/(k=s/\i=i0/\p=b):=λ{k i} h=>by
   obtain⟨R,X,I,C',sU,nC,g',h',B,U,N,u,n,S,D⟩:=h;have y:k<q.length:=by simpa using(cY.mp N).1
   rw[d k y]at U;have ab:∀{X I nC C' sU B g' h'},(q++[c])[k]?=aq (.ins X I)->H R=aq (.ins C' sU nC)->I[i]?=aq (g',B)->B.own=a5->nC[i]?=aq (h',V.ref p)->p∉O:=λ{_ _ _ _ _ fdx _ _} F E x3 x4 x5=>by
    obtain⟨_,_,_,ws2,_,p1,p2⟩:=w.aH k _ R F U;rw[E]at p1;cases p1;obtain⟨_,r⟩:=(wU.mp p2).2 i _ _ _ _ x5 x3;cases fdx with
    |val x=>cases x4
    |lst ds=>obtain⟨b3,_,t1,_,t2,_⟩:=r;cases t1;exact t2
    |bB kvs=>obtain⟨b3,_,t1,_,t2,_⟩:=r;cases t1;exact t2
   by_cases A:k=s
   ·subst A;rw[fN T]at N;cases N;rw[ha]at U;cases U;rw[h1]at u;cases u;rw[e2]at n
    by_cases M:i=i0
    ·subst M
     right
     rw[fN yS]at n;cases n;obtain⟨W,o⟩:=q2 i _ _ _ _ D e1;simp only[kK,Den]at o;obtain⟨b2,eb,gW⟩:=o;rw[hb]at gW;cases gW;cases eb;exact⟨rfl,rfl,rfl⟩
    ·rw[fF (dM M)]at n;have P:(q++[c])[k]?=aq (.ins cls fs):=by rw[e k y];exact hs
     exact .inl ⟨⟨a,_,fs,C,dx,ws,g',h',B,ha,P,h1,n,S,D⟩,ab P h1 n S D⟩
   ·rw[fF (dM A)]at N;have P:(q++[c])[k]?=aq (.ins X I):=by rw[e k y];exact N
    exact .inl ⟨⟨R,X,I,C',sU,nC,g',h',B,U,P,u,n,S,D⟩,ab P u n S D⟩
  have Zx:b∈O:=nA hb
  rcases back m with⟨F,E⟩|⟨F,E,x3⟩ <;> rcases back t with⟨U,N⟩|⟨U,N,u⟩
  ·exact w.sep p k i k' i' F U
  ·subst u;exact b8 Zx E
  ·subst x3;exact b8 Zx N
  ·exact⟨F.trans U.symm,E.trans N.symm⟩
end
def Unf(s:a9)(f:bh)(Z Z1:aG):Prop:=∃cls fs fd c,Z[s]?=aq (.ins cls fs)/\fs.lookup f=aq fd/\fd.cell=aq c/\Z1=Z.set s (.ins cls (putD f (.val (.aH Z.length)) fs))++[c]
def Folds(s:a9)(f:bh)(n:a9)(Z2 Z':aG):Prop:=∃j c cls fs fd,Z2=j++[c]/\j.length=n/\j[s]?=aq (.ins cls fs)/\fs.lookup f=aq (.val (.aH n))/\fd.cell=aq c /\
 (∀k c',k≠s->j[k]?=aq c'->KW n c')/\sC n (putD f fd fs)/\Z'=j.set s (.ins cls (putD f fd fs))
structure ClS(Z:aG)(Y:Ev):Prop where
 aH:∀(k:a9) (c:Cell),Z[k]?=aq c->KW Z.length c
 env:∀(i:a9) (d:A),Y[i]?=aq (aq d)->Cl Z.length d
section
variable{K:bu}{G H:Hp}{O:ar az}{Z Z1 Z2 Z':aG}{J:L2.St}{Y:Ev}{W:WX}{s:a9}{f:bh}
theorem Wd.uF(w:Wd K G O Z H)(r:iJ K G O J Y):ClS Z Y where
 aH:=λk c h=>by
  obtain⟨a,ha⟩:=w.addr h;have:=(w.aH k c a h ha).cl;rwa[w.len]at this
 env:=λi d h=>by
  obtain⟨v,_,q⟩:=r.2 i d h;have:=q.cl;rwa[w.len]at this
theorem Wd.unf(w:Wd K G O Z H)(h:Unf s f Z Z1):∃b,Wd K G (O++[b]) Z1 H:=by
 obtain⟨cls,fs,fd,c,h1,h2,j,rfl⟩:=h;exact w.unfold h1 h2 j
theorem axO{G':Hp}{O':ar az}{b:az}{n:a9}(hl:O.length=n)(e:Ext G (O++[b]) G' O'):Ext G O G' (O'.take n):=⟨e.same,λk x h=>by
 have j:=(cY.mp h).1;rw[JU,bb (by omega)];exact e.pre k x (by rw[iS j];exact h)⟩
theorem Wd.axF{n:a9}(w:Wd K G O Z2 H)(h:Folds s f n Z2 Z'):Wd K G (O.take n) Z' H:=by
 obtain⟨j,c,cls,fs,fd,rfl,rfl,U,N,B,z,q,rfl⟩:=h;exact w.fold U N B z q
theorem ahE{O':ar az}{n:a9}:∀k,k<n->(O'.take n)[k]?=O'[k]?:=λk j=>by rw[JU,bb j]
theorem abD{j:L2.St}{Y':Ev}{G':Hp}{O':ar az}{n:a9}(r:iJ K G' O' j Y')(q:∀(i:a9) (d:A),Y'[i]?=aq (aq d)->Cl n d):iJ K G' (O'.take n) j Y' :=
 ⟨r.1,λi d h=>let ⟨v,h1,h2⟩:=r.2 i d h; ⟨v,h1,h2.cut ahE (q i d h)⟩⟩
theorem amG{b:az}{D:Ends}{Y':Ev}(w:Wd K G O Z H)(U:Folds s f Z.length Z2 Z')(N:∀(i:a9) (d:A),Y'[i]?=aq (aq d)->Cl Z.length d)(h:fM K W G O D (aq (.nx,Y',Z'))):fM K W G (O++[b]) D (aq (.nx,Y',Z2)):=by
 intro j a c q e z B;exact h j a c (q.take Z.length) (axO w.len e) (z.axF U) (abD B N)
end
section
variable{X:Cx}{W:WX}{e:b7}{tg:b7}{st:cb}{g d:Ev->Mo A}{gb db:Ev->Mo bt}{gs ds:MS}{gt dt:A->MS}
theorem afT(h:VS X W st gs)(hd:∀Y Z r,ClS Z Y->ds Y Z=aq r->∃s f Z1 Z2,Unf s f Z Z1/\gs Y Z1=aq (.nx,r.2.1,Z2)/\Folds s f Z.length Z2 r.2.2/\(∀(i:a9) (d:A),r.2.1[i]?=aq (aq d)->Cl Z.length d)/\r.1=.nx):VS X W st ds:=by
 obtain⟨t,p,a⟩:=h;refine⟨t,p,λG N Z H J Y D w r h=>?_⟩;cases e:ds Y Z with
 |none=>rw[e]at h;exact h.elim
 |some q =>
  obtain⟨s,f,Z1,Z2,h1,h2,B,z,j⟩:=hd Y Z q (w.uF r) e;obtain⟨b,U⟩:=w.unf h1;obtain⟨k,g,c⟩:=q;simp only at h2 B z j;subst j;rw[e]at h;refine a G (N++[b]) Z1 H J Y D U (r.ext (Ext.cell b)) ?_;rw[h2];exact amG w B z h
end
def eN(K:bu)(cs:ar bh)(f:bh):Prop:=∀cls∈cs,∃C,nsIn K bo cls=aq (aq (.ref C))/\nQ K C/\FF K C f
@[simp] def EF(cs:ar bh)(f:bh)(a:A):Mo A:=λZ=>match a with
 |.aH s=>match Z[s]? with
  |some (.ins cls fs)=>if cls∈cs then match fs.lookup f with
   |some (.val b)=>aq (.ok b,Z)
   |_=>av else av
  |_=>av
 |_=>av
@[simp] def eR(cs:ar bh)(f:bh)(fe:Ev->Mo A):Ev->Mo A:=λY=>mb (fe Y) (EF cs f)
@[simp] def sG(cs:ar bh)(f:bh)(fo fv:Ev->Mo A):MS:=λY=>sM (fv Y) Y λb=>sM (fo Y) Y λa Z=>match a with
 |.aH s=>match Z[s]? with
  |some (.ins cls fs)=>if cls∈cs/\fs.length<1000 then aq (.nx,Y,Z.set s (.ins cls (putD f (.val b) fs)))else av
  |_=>av
 |_=>av
section
variable{K:bu}{G H:Hp}{O:ar az}{Z:aG}
theorem Wd.ins(w:Wd K G O Z H){s:a9}{cls:bh}{fs:ar (bh×Fd)}{v:V}(h:Z[s]?=aq (.ins cls fs))(d:Den K G O v (.aH s)):∃a C dx,∃ws:ar (bh×V),v=.ref a/\O[s]?=aq a/\G a=av/\nsIn K bo cls=aq (aq (.ref C))/\H a=aq (.ins C dx ws)/\jZ K G O H ws fs:=by
 simp only[Den]at d;obtain⟨a,rfl,ha⟩:=d;obtain⟨g,C,dx,ws,h1,h2,j⟩:=w.aH s _ a h ha;exact⟨a,C,dx,ws,rfl,ha,g,h1,h2,j⟩
theorem Ul{f:bh}{v:V}{b:A}:∀{j:ar (bh×V)} {fs:ar (bh×Fd)} {i:a9} {g h:bh} {fd:Fd} {x:V},jZ K G O H j fs->(putD f (.val b) fs)[i]?=aq (g,fd)->fd.own=a5->(jS f v j)[i]?=aq (h,x)->fs[i]?=aq (g,fd)/\j[i]?=aq (h,x)
 |[],[],i,g,h,fd,x,_,y,o,_=>by
  cases i with
  |zero=>simp[putD]at y;obtain⟨_,rfl⟩:=y;cases o
  |succ i=>simp[putD]at y
 |[],_::_,_,_,_,_,_,q,_,_,_=>q.elim
 |_::_,[],_,_,_,_,_,q,_,_,_=>q.elim
 |(k,u)::j,(U,d)::fs,i,g,h,fd,x,q,y,o,z=>by
  obtain⟨rfl,N,B⟩:=q
  by_cases e:k=f
  ·simp only[putD,jS,bb e]at y z;cases i with
   |zero=>simp at y;obtain⟨_,rfl⟩:=y;cases o
   |succ i=>exact⟨by simpa using y,by simpa using z⟩
  ·simp only[putD,jS,bc e]at y z;cases i with
   |zero=>exact⟨by simpa using y,by simpa using z⟩
   |succ i =>
    have:=Ul (f:=f) (v:=v) (b:=b) (i:=i) B (by simpa using y) o (by simpa using z);exact⟨by simpa using this.1,by simpa using this.2⟩
theorem Wd.aiU(w:Wd K G O Z H){s:a9}{cls f:bh}{fs:ar (bh×Fd)}{a C dx:az}{ws:ar (bh×V)}{v:V}{b:A}(h:Z[s]?=aq (.ins cls fs))(ha:O[s]?=aq a)(E:G a=av)(h0:nsIn K bo cls=aq (aq (.ref C)))
  (h1:H a=aq (.ins C dx ws)) (h2:jZ K G O H ws fs) (d:Den K G O v b):Wd K G O (Z.set s (.ins cls (putD f (.val b) fs))) (upd H a (.ins C dx (jS f v ws))):=by
 have t:s<Z.length:=(cY.mp h).1;have D:∀b o,b∉O->G b=av->H b=aq o->b∉O/\G b=av/\upd H a (.ins C dx (jS f v ws)) b=aq o:=λb o x y z=>by
  have nb:b≠a:=λe=>by subst e;exact x (GY ha)
  exact⟨x,y,by rw[bJ nb];exact z⟩
 have T:jZ K G O (upd H a (.ins C dx (jS f v ws))) ws fs:=h2.map λ_ _ q=>q.mono (Ext.refl _ _) D;refine⟨λb u q=>?_,w.inj,by simp[w.len],λb hb=>?_,λj S b U N=>?_,λn j i P R U N=>?_⟩
 ·have e:b≠a:=λe=>by subst e;rw[E]at q;cases q
  rw[bJ e];exact w.sub _ _ q
 ·by_cases e:b=a
  ·subst e;exact⟨_,eA⟩
  ·rw[bJ e];exact w.live b hb
 ·by_cases B:j=s
  ·subst B;rw[fN t]at U;cases U;rw[ha]at N;cases N;exact⟨E,C,dx,_,h0,eA,T.put d⟩
  ·rw[fF (dM B)]at U;have gD:b≠a:=λe=>by subst e;exact B (GV w.inj N ha)
   exact(w.aH j S b U N).mono (Ext.refl _ _) rfl (bJ gD) D
 ·have back:∀{j i},jW (upd H a (.ins C dx (jS f v ws))) O (Z.set s (.ins cls (putD f (.val b) fs))) j i n->jW H O Z j i n:=λ{j i} q=>by
   obtain⟨F,L,Q,W,I,M,g',h',c,l,k,g,r,m,p⟩:=q
   by_cases B:j=s
   ·subst B;rw[fN t]at k;cases k;rw[ha]at l;cases l;rw[eA]at g;cases g;have pi:=Ul h2 r m p;exact⟨a,cls,fs,C,dx,ws,g',h',c,ha,h,h1,pi.1,m,pi.2⟩
   ·rw[fF (dM B)]at k;have gD:F≠a:=λe=>by subst e;exact B (GV w.inj l ha)
    rw[bJ gD]at g;exact⟨F,L,Q,W,I,M,g',h',c,l,k,g,r,m,p⟩
  exact w.sep n j i P R (back U) (back N)
end
section
variable{X:Cx}{W:WX}{e o value:b7}{f:bh}{cs:ar bh}{pos pos':dj}{fe fo fv:Ev->Mo A}
theorem nR(h:VE X W e fe)(x:eN X.K cs f)(hb:cm e f X.env (cg e X.env)=cg e X.env:=by rfl):VE X W (.Attribute e f pos) (eR cs f fe):=by
 obtain⟨t,p,s⟩:=h;refine⟨_,MA p hb,λG g i H J d Q w r h=>?_⟩;refine s G g i H J d _ w r (bN.mb h λa q v M P j R N L h1=>?_);unfold EF at h1;cases a with
 |aH k =>
  simp only at h1;cases B:q[k]? with
  |none=>rw[B]at h1;exact h1.elim
  |some c =>
   rw[B]at h1;cases c with
   |ins cls fs =>
    simp only at h1
    by_cases gM:cls∈cs
    ·rw[bb gM]at h1;cases z:fs.lookup f with
     |none=>rw[z]at h1;exact h1.elim
     |some E =>
      rw[z]at h1;cases E with
      |val b =>
       obtain⟨a,C,F,m,rfl,ha,S,D,y,A⟩:=N.ins B L;obtain⟨T,U,o,n⟩:=x cls gM;rw[D]at U;cases U;obtain⟨u,l,I⟩:=A.look z;exact⟨a,C,F,m,u,rfl,y,o,n,l,h1 u M P j (Ext.refl _ _) N I⟩
      |_=>exact h1.elim
    ·rw[bc gM]at h1;exact h1.elim
   |_=>exact h1.elim
 |_=>exact h1.elim
theorem wD(R:VE X W o fo)(hv:VE X W value fv)(T:eN X.K cs f)(Q:ez value (aq (.Attribute o f pos')) pos.line X.env=pure aw:=by rfl):VS X W (.Assign [.Attribute o f pos'] value pos) (sG cs f fo fv):=by
 obtain⟨t,p,s⟩:=R;obtain⟨u,q,z⟩:=hv;refine⟨_,amA p q Q,λG E F H J e D w r h=>?_⟩;refine z G E F H J e _ w r (fM.sM h r λb U y H1 G1 B d L d1 h1=>?_);refine s G1 B U H1 J e _ L (r.ext d) (fM.sM h1 (r.ext d) λa N v H2 G2 A g i d2 h2=>?_);cases a with
 |aH k =>
  simp only at h2;cases j:N[k]? with
  |none=>rw[j]at h2;exact h2.elim
  |some c =>
   rw[j]at h2;cases c with
   |ins cls fs =>
    simp only at h2
    by_cases gM:cls∈cs/\fs.length<1000
    ·rw[bb gM]at h2;obtain⟨a,C,V,I,rfl,ha,S,x,m,n⟩:=i.ins j d2;obtain⟨C',l,P,M⟩:=T cls gM.1;rw[x]at l;cases l;refine⟨a,C,V,I,rfl,m,P,M,by rw[n.len];exact gM.2,?_⟩;exact wJ (i.aiU j ha S x m n (d1.ext g)) ((r.ext d).ext g) h2
    ·rw[bc gM]at h2;exact h2.elim
   |_=>exact h2.elim
 |_=>exact h2.elim
end
end V2
namespace L2
open PySem PySem.Spec PyProof.Rows
section
variable{X:Cx}{W:WX}{k:a9}{f C:az}{fd:cx}{ps:ar bh}{sp:Sp}{dvs:ar V}{ds:ar au}{x m:bh}{p pos ai:dj}{e o:b7}{es:ar b7}{ta:TE}{t:TA}
theorem Dc{aa:ar (az×cz)}{J:St}{H:Hp}{s:ay}{Q:VK}{us:ar au}{vs:ar V}(T:tE X W)(F:iI X.prog X.w X.K X.mg X.base (pE X.prog X.w) k f fd ps sp)(hr:cR k X.A)(hb:Binds X.K fd ps ds)(hd:Vals dvs ds)
  (I:Inv X aa J H s) (r:Vals vs us) (h:sp (vs++dvs) H Q λcls dx H'=>W J cls dx H'):wpAny (bw X.prog X.w) X.A (call (.ref f) us) (EP X aa J Q) X.xe s:=by
 have q:Vals (vs++dvs) (us++ds):=r.append hd;have hl:(us++ds).length=ps.length:=by rw[<-q.length];exact F.len _ _ _ _ h
 refine FY (vN (F.run X.A X.stack s H ⟨us,[]⟩ (us++ds) (vs++dvs) Q _ hr I.IG (hb s us I.fZ hl) q h) λr s' j=>?_);cases r with
 |error U =>
  obtain⟨a,cls,dx,H',rfl,os,bare,un,aJ,ex,B⟩:=j;have N:=(I.OV os un aJ bare (λb z=>b8 z (by simp))).Va;exact T.to _ _ ⟨J,H',a,cls,dx,rfl,N,(ex.first I T.ex).any,B⟩
 |ok fl =>
  cases fl with
  |ret u=>exact I.after j
  |next=>exact False.elim j
  |brk=>exact False.elim j
  |cont=>exact False.elim j
def Ao(X:Cx)(W:WX)(m:bh)(ta:TE)(t:TA):TE:=λJ H Q=>ta J H λx H1=>∃a C dx fs k f fd ps ds dvs sp,x=.ref a/\H1 a=aq (.ins C dx fs)/\fs.lookup m=av/\nQ X.K C/\Meth X.K C m f /\
 iI X.prog X.w X.K X.mg X.base (pE X.prog X.w) k f fd ps sp/\cR k X.A/\Binds X.K fd ps ds/\Vals dvs ds/\t J H1 λvs H2=>sp (.ref a::vs++dvs) H2 Q λcls dx H'=>W J cls dx H'
theorem am3{pl:Sem bt}(T:tE X W)(he:PE X o ta)(ha:PA X (e::es) t)
  (d:bj (e::es) X.env=(aw,cg e X.env)::bj es X.env:=by rfl) (i:(cw pos (bj es X.env)).any (·.1)=aw:=by rfl)
  (g:cg (.Call (.Attribute o m ai) (e::es) [] pos) X.env=(do
   let j<-cg o X.env
   standAt ai.atName
   let (f,first)<-d8 [j] (getMethod j m pl)
   callWith pos f first (cw pos (bj (e::es) X.env)) (backToKw pos (di [] X.env))):=by rfl) :
  PE X (.Call (.Attribute o m ai) (e::es) [] pos) (Ao X W m ta t):=by
 intro aa s J H Q I h;refine methodCall_KW (pl:=pl) (bI (he aa s J H _ I h) λu N h1=>?_) g;obtain⟨x,v,B,U,a,C,D,fs,k,f,A,y,ds,p,w,rfl,n,l,c,hm,F,hr,hb,hd,q⟩:=h1;obtain rfl:u=Value.ref a:=U;refine aaO B n c hm l ?_;refine callWith_K (first:=[.ref a]) (h₀:=X.base) I.ok.mod.tT hm.kp (bI (ha pos aa N J v _ B q) λus s2 ⟨vs,E,z,r,b⟩=>⟨z.fZ,?_⟩) d i;exact Dc (us:=.ref a::us) (vs:=.ref a::vs) T F hr hb hd z (.cons rfl r) b
theorem am2{pl:Sem bt}(T:tE X W)(he:PE X o ta)
  (N:cg (.Call (.Attribute o m ai) [] [] pos) X.env=(do
   let z<-cg o X.env
   standAt ai.atName
   let (f,first)<-d8 [z] (getMethod z m pl)
   callWith pos f first (cw pos (bj [] X.env)) (backToKw pos (di [] X.env))):=by rfl) :
  PE X (.Call (.Attribute o m ai) [] [] pos) (Ao X W m ta SJ):=by
 intro aa s J H Q I h;refine methodCall_KW (pl:=pl) (bI (he aa s J H _ I h) λu e h1=>?_) N;obtain⟨x,p,j,B,a,C,n,fs,k,f,i,g,ds,b,d,rfl,U,l,c,hm,F,hr,hb,hd,q⟩:=h1;obtain rfl:u=Value.ref a:=B;refine aaO j U c hm l ?_;exact PySem.W.callWith_K0 (first:=[.ref a]) j.fZ hm.kp (Dc (us:=[.ref a]) (vs:=[.ref a]) T F hr hb hd j (.cons rfl .nil) q)
structure Oz(K:bu)(R:az)(m:bh)(f:az):Prop where
 reads:PySem.W.readsIn K R (.type "type")=a5
 find:PySem.W.findCls K (.ref R) (.type "type") m=aq (.val (.ref f))
 ga:specialIn K (.ref R) "__getattribute__" = aq (aq (.builtin "type.__getattribute__"))
 kp:ek K (.ref f)=a5
theorem anQ{pl:Sem bt}{R:az}{rk:bh}{np:dj}(T:tE X W)(B:Oz X.K R m f)(j:X.mg rk=aq (.ref R))(d:Gl X rk)(F:iI X.prog X.w X.K X.mg X.base (pE X.prog X.w) k f fd ps sp)(hr:cR k X.A)(hb:Binds X.K fd ps [])(ha:PA X (e::es) t)
  (b:(rk==("__debug__" : bh))=aw:=by decide) (a:bj (e::es) X.env=(aw,cg e X.env)::bj es X.env:=by rfl) (g:(cw pos (bj es X.env)).any (·.1)=aw:=by rfl)
  (c:cg (.Call (.Attribute (.Name rk np) m ai) (e::es) [] pos) X.env=(do
   let q<-cg (.Name rk np) X.env
   standAt ai.atName
   let (f,first)<-d8 [q] (getMethod q m pl)
   callWith pos f first (cw pos (bj (e::es) X.env)) (backToKw pos (di [] X.env))):=by rfl) :
  PE X (.Call (.Attribute (.Name rk np) m ai) (e::es) [] pos) (Sh sp W t):=by
 intro aa s J H Q I h;refine methodCall_KW (pl:=pl) (HF I d j ?_ b) c;refine PySem.W.method_cls I.fZ B.ga (PySem.W.cls_value I.fZ B.reads B.find (aaB (v:=.ref f) rfl) ?_);have l:=I.tok (s.toks+1);refine callWith_K (first:=[]) (h₀:=X.base) I.ok.mod.tT B.kp (bI (ha pos aa _ J H _ l h) λus s2 ⟨vs,n,z,r,U⟩=>⟨z.fZ,?_⟩) a g;have N:sp (vs++[]) n Q λcls i o=>W J cls i o:=by rw[tG];exact U
 exact Dc (us:=us) (vs:=vs) (dvs:=[]) T F hr hb .nil z r N
end
end L2
namespace V2
open PySem PySem.Spec PyProof.Rows L2
@[simp] def bO(n:a9)(das:ar A)(F:ar A->Mo A):ar A->Mo A:=λas=>if as.length+das.length=n then F (as++das)else stuck
structure cH(P:bp)(w:bz)(K:bu)(mg:bh->ax au)(base:b9)(cls m:bh)(k:a9)(n:a9)(das:ar A)(F:ar A->Mo A):Prop where
 ex:∃C f fd ps ds dvs,nsIn K bo cls=aq (aq (.ref C))/\nQ K C/\Meth K C m f/\ps.length=n/\iI P w K mg base (pE P w) k f fd ps (tN K ps.length F)/\Binds K fd ps ds/\Vals dvs ds/\∀G O,bE K G O dvs das
@[simp] def VV(m:bh)(tab:ar (bh×(ar A->Mo A)))(fs:Mo (ar A))(a:A):Mo A:=λZ=>match a with
 |.aH s=>match Z[s]? with
  |some (.ins cls j)=>match tab.lookup cls,j.lookup m with
   |some F,av=>mb fs (λas=>F (.aH s::as)) Z
   |_,_=>av
  |_=>av
 |_=>av
@[simp] def bQ(m:bh)(tab:ar (bh×(ar A->Mo A)))(fo:Ev->Mo A)(fs:Ev->Mo (ar A)):Ev->Mo A:=λY=>mb (fo Y) (VV m tab (fs Y))
def bU(X:Cx)(m:bh)(tab:ar (bh×(ar A->Mo A))):Prop:=∀cls F,tab.lookup cls=aq F->∃k n das j,F=bO n das j/\cR k X.A/\cH X.prog X.w X.K X.mg X.base cls m k n das j
section
variable{X:Cx}{W:WX}{m:bh}{tab:ar (bh×(ar A->Mo A))}{o e:b7}{es:ar b7}{fo:Ev->Mo A}{fs:Ev->Mo (ar A)}{pos ai:dj}
theorem bU.nil:bU X m []:=λcls F h=>by simp at h
theorem bU.cons{cls:bh}{k n:a9}{das:ar A}{F:ar A->Mo A}(h:cH X.prog X.w X.K X.mg X.base cls m k n das F)(hr:cR k X.A)(t:bU X m tab):bU X m ((cls,bO n das F)::tab):=λc j q=>by
 by_cases e:c=cls
 ·subst e;simp[List.lookup]at q;exact⟨k,n,das,F,q.symm,hr,h⟩
 ·have hb:(c==cls)=aw:=zE.mpr e;simp only[List.lookup,hb]at q;exact t c j q
theorem Tb{ta:TE}{t:TA}(NC:bU X m tab)(R:fC X.K (Den X.K) W ta fo)(s2:fC X.K (bE X.K) W t fs):fC X.K (Den X.K) W (Ao X W m ta t) (bQ m tab fo fs):=by
 intro G A D H J l Q w r h;refine R G A D H J l _ w r (bN.mb h λa q v H1 G1 N I o i h1=>?_);unfold VV at h1;cases a with
 |aH s =>
  simp only at h1;cases g:q[s]? with
  |none=>rw[g]at h1;exact h1.elim
  |some c =>
   rw[g]at h1;cases c with
   |ins cls Ir =>
    simp only at h1;cases e:tab.lookup cls with
    |none=>rw[e]at h1;exact h1.elim
    |some F =>
     rw[e]at h1;cases d:Ir.lookup m with
     |some _=>rw[d]at h1;exact h1.elim
     |none =>
      rw[d]at h1;obtain⟨k,n,B,F0,rfl,hr,MV⟩:=NC cls F e;obtain⟨C,f,fd,S,ds,z,hC,gM,UY,hn,FO,hb,hv,b⟩:=MV.ex;obtain⟨a,C',dx,L,rfl,ha,hg,p,T,V⟩:=o.ins g i;rw[hC]at p;cases p;refine⟨a,C,dx,L,k,f,fd,S,ds,z,_,rfl,T,V.ao1 d,gM,UY,FO,hr,hb,hv,?_⟩;refine s2 G1 N q H1 J l _ o (r.ext I) (bN.mb h1 λx U P H2 y j E M d2 h2=>?_);unfold bO at h2;split at h2
      ·rename_i hl;have u:bE X.K y j (.ref a::P++z) (.aH s::x++B):=(bE.cons (by simp only[Den]at i ⊢;obtain⟨a2,e5,e6⟩:=i;exact⟨a2,e5,E.pre _ _ e6⟩) d2).append (b _ _);refine⟨?_,y,j,U,.aH s::x++B,M,u,Jw h2 (Ext.refl _ _)⟩;have:=u.length;rw[this,hn];simp only[iR,fT]at hl ⊢;omega
      ·exact h2.elim
   |_=>exact h1.elim
 |_=>exact h1.elim
theorem oO{pl:Sem bt}(T:tE X W)(b:bU X m tab)(U:VE X W o fo)(ha:VA X W (e::es) fs)
  (B:bj (e::es) X.env=(aw,cg e X.env)::bj es X.env:=by rfl) (a:(cw pos (bj es X.env)).any (·.1)=aw:=by rfl)
  (N:cg (.Call (.Attribute o m ai) (e::es) [] pos) X.env=(do
   let j<-cg o X.env
   standAt ai.atName
   let (f,first)<-d8 [j] (getMethod j m pl)
   callWith pos f first (cw pos (bj (e::es) X.env)) (backToKw pos (di [] X.env))):=by rfl) :
  VE X W (.Call (.Attribute o m ai) (e::es) [] pos) (bQ m tab fo fs):=by
 obtain⟨c,z,q⟩:=U;obtain⟨t,p2,s2⟩:=ha;exact⟨_,am3 T z p2 B a N,Tb b q s2⟩
theorem nF{pl:Sem bt}(T:tE X W)(a:bU X m tab)(U:VE X W o fo)
  (N:cg (.Call (.Attribute o m ai) [] [] pos) X.env=(do
   let j<-cg o X.env
   standAt ai.atName
   let (f,first)<-d8 [j] (getMethod j m pl)
   callWith pos f first (cw pos (bj [] X.env)) (backToKw pos (di [] X.env))):=by rfl) :
  VE X W (.Call (.Attribute o m ai) [] [] pos) (bQ m tab fo a0):=by
 obtain⟨d,B,z⟩:=U;refine⟨_,am2 T B N,Tb a z ?_⟩;intro G q c H J b Q w r h;exact h [] H G q (Ext.refl _ _) w .nil
structure JH(P:bp)(w:bz)(K:bu)(mg:bh->ax au)(base:b9)(cls:bh)(k:a9)(n:a9)(F:ar A->Mo A):Prop where
 ex:∃C f fd ps,nsIn K bo cls=aq (aq (.ref C))/\mg cls=aq (.ref C)/\Mk K C f/\ps.length=n/\iI P w K mg base (pE P w) k f fd ps (tN K ps.length F)/\Binds K fd ps []
@[simp] noncomputable def wQ(cls:bh)(n:a9)(F:ar A->Mo A)(as:ar A):Mo A:=λZ=>if as.length+1=n then match F (.aH Z.length::as) (Z++[.ins cls []])with
 |some (.ok .cZ,Z2)=>aq (.ok (.aH Z.length),Z2)
 |_=>av else av
theorem RU{cls:bh}{k n:a9}{F:ar A->Mo A}{p:dj}(M:JH X.prog X.w X.K X.mg X.base cls k n F)(hr:cR (k+1) X.A)(S:Gl X cls)(ha:VA X W (e::es) fs)
  (R:(cls==("__debug__" : bh))=aw:=by decide) (he:bj (e::es) X.env=(aw,cg e X.env)::bj es X.env:=by rfl) (V:(cw pos (bj es X.env)).any (·.1)=aw:=by rfl) :
  VE X W (.Call (.Name cls p) (e::es) [] pos) (aS (wQ cls n F) fs):=by
 obtain⟨C,f,fd,ps,T,hm,mk,hn,FO,hb⟩:=M.ex;obtain⟨t,P,L⟩:=ha;refine⟨_,am4 mk (Jv FO) hr S hm hb .nil Ve P R he V,λG o u H J m Q w r h=>?_⟩;refine L G o u H J m _ w r (bN.mb h λc j I d g z x1 N d1 h1=>?_);unfold wQ at h1
 by_cases hl:c.length+1=n
 ·rw[bb hl]at h1;intro x B l Zo gD;have D:=N.grow (H':=upd d B (.own x)) (pC.new Zo);have DO:upd d B (.own x) x=av:=by rw[bJ (dM gD)];exact l
  have y:Wd X.K g (z++[x]) (j++[.ins cls []]) (upd (upd d B (.own x)) x (.ins C B [])):=D.cell DO ⟨N.pA l,C,B,[],T,eA,trivial⟩;have i:bE X.K g (z++[x]) (.ref x::(I++[])) (.aH j.length::c):=.cons (by simp only[Den];exact⟨x,rfl,by rw[<-N.len];simp⟩) (by rw[tG];exact d1.ext (Ext.cell x));refine⟨by rw[i.length,hn];simpa using hl,g,z++[x],_,_,y,i,?_⟩
  revert h1
  generalize F (.aH j.length::c) (j++[.ins cls []])=q;intro h1
  match q,h1 with
  |some (.ok .cZ,s),h1 =>
   intro v H' G' U b E d';simp only[Den]at d';subst d';refine⟨rfl,h1 (.ref x) H' G' U ⟨b.same,λk a q=>b.pre k a (by rw[iS (cY.mp q).1];exact q)⟩ E ?_⟩;simp only[Den];exact⟨x,rfl,b.pre _ _ (by rw[<-N.len];simp)⟩
 ·rw[bc hl]at h1;exact h1.elim
structure FN(P:bp)(w:bz)(K:bu)(mg:bh->ax au)(base:b9)(rk m:bh)(k:a9)(n:a9)(F:ar A->Mo A):Prop where
 ex:∃R f fd ps,mg rk=aq (.ref R)/\Oz K R m f/\ps.length=n/\iI P w K mg base (pE P w) k f fd ps (tN K ps.length F)/\Binds K fd ps []
theorem af7{pl:Sem bt}{rk:bh}{k n:a9}{F:ar A->Mo A}{np:dj}(T:tE X W)(B:FN X.prog X.w X.K X.mg X.base rk m k n F)(p:Gl X rk)(hr:cR k X.A)(ha:VA X W (e::es) fs)
  (l:(rk==("__debug__" : bh))=aw:=by decide) (i:bj (e::es) X.env=(aw,cg e X.env)::bj es X.env:=by rfl) (s:(cw pos (bj es X.env)).any (·.1)=aw:=by rfl)
  (o:cg (.Call (.Attribute (.Name rk np) m ai) (e::es) [] pos) X.env=(do
   let z<-cg (.Name rk np) X.env
   standAt ai.atName
   let (f,first)<-d8 [z] (getMethod z m pl)
   callWith pos f first (cw pos (bj (e::es) X.env)) (backToKw pos (di [] X.env))):=by rfl) :
  VE X W (.Call (.Attribute (.Name rk np) m ai) (e::es) [] pos) (aS (cE n F) fs):=by
 obtain⟨R,f,I,E,hm,y,hn,x,hb⟩:=B.ex;obtain⟨t,g,d⟩:=ha;refine⟨_,anQ T y hm p x hr hb g l i s o,λG a b H J U Q w r h=>?_⟩;refine d G a b H J U _ w r (bN.mb h λu q D L v j C c N h1=>?_);unfold cE at h1;split at h1
 ·rename_i hl;exact⟨by rw[N.length,hn];exact hl,v,j,q,u,c,N,Jw h1 (Ext.refl _ _)⟩
 ·exact False.elim h1
end
def vA(cs:ar bh)(i:a9)(f:bh)(Y:Ev)(Z:aG):ax (a9×bh×ar (bh×Fd)×Fd):=match (Y[i]?).join with
 |some (.aH s)=>match Z[s]? with
  |some (.ins cls fs)=>if cls∈cs then(fs.lookup f).map λfd=>(s,cls,fs,fd)else av
  |_=>av
 |_=>av
abbrev gL(Z:aG)(s:a9)(cls f:bh)(fs:ar (bh×Fd))(c:Cell):aG:=Z.set s (.ins cls (putD f (.val (.aH Z.length)) fs))++[c]
section
variable{cs:ar bh}{i:a9}{f:bh}{Y:Ev}{Z:aG}{s:a9}{cls:bh}{fs:ar (bh×Fd)}{fd fd':Fd}{c c':Cell}
theorem Vg(h:vA cs i f Y Z=aq (s,cls,fs,fd)):Y[i]?=aq (aq (.aH s))/\Z[s]?=aq (.ins cls fs)/\cls∈cs/\fs.lookup f=aq fd:=by
 unfold vA at h;cases B:(Y[i]?).join with
 |none=>rw[B]at h;cases h
 |some d =>
  rw[B]at h;cases d with
  |aH k =>
   simp only at h;cases z:Z[k]? with
   |none=>rw[z]at h;cases h
   |some c =>
    rw[z]at h;cases c with
    |ins N U =>
     simp only at h
     by_cases j:N∈cs
     ·rw[bb j]at h;cases q:U.lookup f with
      |none=>rw[q]at h;cases h
      |some x =>
       rw[q]at h;cases h;exact⟨join_some B,z,j,q⟩
     ·rw[bc j]at h;cases h
    |_=>cases h
  |_=>cases h
theorem Jq{n:a9}{f:bh}{fd:Fd}:∀{fs:ar (bh×Fd)},sC n fs->tI n fd->sC n (putD f fd fs)
 |[],_,h=>⟨h,trivial⟩
 |(g,x)::r,c,h=>by
  by_cases e:g=f
  ·simp only[putD,bb e];exact⟨h,c.2⟩
  ·simp only[putD,bc e];exact⟨c.1,Jq c.2 h⟩
theorem UJ(h:vA cs i f Y Z=aq (s,cls,fs,fd)):(gL Z s cls f fs c)[Z.length]?=aq c:=by
 rw[qV (by simp)];simp
theorem UI(h:vA cs i f Y Z=aq (s,cls,fs,fd)):eR cs f (dR i) Y (gL Z s cls f fs c)=aq (.ok (.aH Z.length),gL Z s cls f fs c):=by
 obtain⟨h1,h2,z,B⟩:=Vg h;have j:s<Z.length:=(cY.mp h2).1;have e:(gL Z s cls f fs c)[s]?=aq (.ins cls (putD f (.val (.aH Z.length)) fs)):=by
  rw[iS (by simpa using j),fN j]
 have l:(putD f (Fd.val (.aH Z.length)) fs).lookup f=aq (.val (.aH Z.length)):=by rw[TF,bb rfl]
 have q:(Y[i]?).join=aq (.aH s):=by rw[h1];rfl
 simp only[eR,dR,need,mb,q,JE,EF,e,bb z,l]
theorem Ex(j:Cell):(gL Z s cls f fs c).set Z.length j=gL Z s cls f fs j:=by
 unfold gL;rw[List.set_append_right _ _ (by simp)];simp
end
noncomputable def HE(Z:aG):A->ax (ar A)
 |.lst ds=>aq ds
 |.aH k=>match Z[k]? with
  |some (.lst ds)=>aq ds
  |_=>av
 |_=>av
theorem aqH{K:bu}{G H:Hp}{O:ar az}{Z:aG}{v:V}{a:A}{ds:ar A}(w:Wd K G O Z H)(d:Den K G O v a)(h:HE Z a=aq ds):∃p xs,v=.ref p/\H p=aq (.lst xs)/\bE K G O xs ds:=by
 cases a with
 |lst es =>
  simp only[HE,lD]at h;subst h;simp only[Den]at d;obtain⟨p,xs,rfl,h2,q⟩:=d;exact⟨p,xs,rfl,w.sub _ _ h2,q⟩
 |aH j =>
  simp only[HE]at h;split at h
  ·rename_i es e;cases h;simp only[Den]at d;obtain⟨p,rfl,z⟩:=d;obtain⟨g,xs,q,B⟩:=w.aH j _ p e z;exact⟨p,xs,rfl,q,B⟩
  ·cases h
 |_=>simp[HE]at h
@[simp] def Il(o:A)(as:ar A):Mo A:=λZ=>match rR Z o,as with
 |some (k,ds),[y]=>match HE Z y with
  |some es=>if ds.length+es.length<=bg then aq (.ok .cZ,Z.set k (.lst (ds++es)))else av
  |none=>av
 |_,_=>av
theorem ap8{X:Cx}{W:WX}:Ml X.K W Tz Il:=by
 intro G z n H J x o a r Q w m l h;unfold Il at h;split at h
 ·rename_i k ds y e;split at h
  ·rename_i es f;split at h
   ·rename_i hl;obtain⟨p,B,rfl,U,g,d,q⟩:=ab5 w m e;obtain⟨u,rfl,i⟩:=IK l;obtain⟨p2,N,rfl,b,j⟩:=aqH w i f;refine⟨p,p2,B,N,rfl,rfl,d,b,by rw[q.length,j.length];exact hl,?_⟩;exact h _ _ G z (Ext.refl _ _) (w.put (c:=.lst (ds++es)) U g ⟨g,_,eA,q.append j⟩) (by simp only[Den])
   ·exact False.elim h
  ·exact False.elim h
 ·exact False.elim h
def FK(i:a9)(f:bh)(g:MS)(Y:Ev)(Z:aG)(r:Out×Ev×aG):Prop :=
 ∃s cls fs fd c q fd' c',Y[i]?=aq (aq (.aH s))/\Z[s]?=aq (.ins cls fs)/\fs.lookup f=aq fd/\fd.cell=aq c/\g Y (gL Z s cls f fs c)=aq (.nx,r.2.1,q++[c'])/\q.length=Z.length /\
  q[s]?=aq (.ins cls (putD f (.val (.aH Z.length)) fs))/\fd'.cell=aq c'/\(∀(k:a9) (x:Cell),k≠s->q[k]?=aq x->Z[k]?=aq x\/KW Z.length x)/\(fd'=fd\/tI Z.length fd') /\
  (∀(j:a9) (d:A),r.2.1[j]?=aq (aq d)->Y[j]?=aq (aq d)\/Cl Z.length d)/\r.1=.nx/\r.2.2=q.set s (.ins cls (putD f fd' fs))
open Classical in
noncomputable def uX(i:a9)(f:bh)(g:MS):MS:=λY Z=>if h:∃r,FK i f g Y Z r then aq (Classical.choose h)else av
theorem aAD{a b:Fd}{c:Cell}(h1:a.cell=aq c)(h2:b.cell=aq c):a=b:=by
 cases a with
 |val x=>cases h1
 |lst ds=>cases b with
  |lst es=>cases h1;cases h2;rfl
  |val _=>cases h2
  |bB _=>cases h1;cases h2
 |bB j=>cases b with
  |bB es=>cases h1;cases h2;rfl
  |val _=>cases h2
  |lst _=>cases h1;cases h2
theorem FK.uniq{i:a9}{f:bh}{g:MS}{Y:Ev}{Z:aG}{r j:Out×Ev×aG}(h:FK i f g Y Z r)(h':FK i f g Y Z j):r=j:=by
 obtain⟨s,cls,fs,fd,c,k,m,R,a1,a2,A,y,x,a6,a7,w,X,D,C,E,F⟩:=h;obtain⟨s',K,P,n,S,e,l,Q,d,b,a,U,N,W,V,t,T,v,u,z,q⟩:=h';rw[a1]at d;cases d;rw[a2]at b;cases b;rw[A]at a;cases a;rw[y]at U;cases U;rw[x]at N;obtain⟨I,H,G⟩:=r;obtain⟨M,p2,L⟩:=j;simp only[lD,PY,true_and]at *;obtain⟨p,o⟩:=N;obtain⟨rfl,B⟩:=List.append_inj' o rfl;simp only[qW,and_true]at B;subst B;have:=aAD w t;subst this;subst E z;exact⟨rfl,p,by rw[F,q]⟩
theorem akD{i:a9}{f:bh}{g:MS}{Y:Ev}{Z:aG}{r:Out×Ev×aG}(h:FK i f g Y Z r):uX i f g Y Z=aq r:=by
 have ex:∃r,FK i f g Y Z r:=⟨r,h⟩;unfold uX;rw[dif_pos ex];exact c3 aq (FK.uniq (YY ex) h)
section
variable{X:Cx}{W:WX}{st:cb}{f:bh}{cs:ar bh}{i:a9}{pos dO ai mW aD3:dj}{gs:MS}{x:bh}
theorem ZL(h:VS X W st gs):VS X W st (uX i f gs):=by
 refine afT h λG n r cl hd=>?_;unfold uX at hd;split at hd
 ·rename_i ex;cases hd;generalize hr:Classical.choose ex=r;have e:=YY ex;rw[hr]at e;obtain⟨s,cls,fs,g,c,q,N,l,I,U,m,D,C,A,y,w,v,b,a,E,F⟩:=e;obtain⟨H,u,_⟩:=UE m;have B:tI n.length g:=(cl.aH s _ U:sC _ fs).get u;refine⟨s,f,_,q++[l],⟨cls,fs,g,c,U,m,D,rfl⟩,C,⟨q,l,cls,_,N,rfl,A,y,by rw[TF,bb rfl],w,λk x p o=>?_,?_,by rw[LY];exact F⟩,λj d t=>?_,E⟩
  ·rcases v k x p o with z|z
   ·exact cl.aH k x z
   ·exact z
  ·rw[LY];exact Jq (cl.aH s _ U:sC _ fs) (by rcases b with z|z;exact z ▸ B;exact z)
  ·rcases a j d t with z|z
   ·exact cl.env j d z
   ·exact z
 ·cases hd
end
def DD(cs:ar bh)(i:a9)(Y:Ev)(Z:aG):ax (a9×bh×ar (bh×Fd)):=match (Y[i]?).join with
 |some (.aH s)=>match Z[s]? with
  |some (.ins cls fs)=>if cls∈cs then aq (s,cls,fs)else av
  |_=>av
 |_=>av
theorem aoV{cs:ar bh}{i:a9}{Y:Ev}{Z:aG}{s:a9}{cls:bh}{fs:ar (bh×Fd)}(h:DD cs i Y Z=aq (s,cls,fs)):Y[i]?=aq (aq (.aH s))/\Z[s]?=aq (.ins cls fs)/\cls∈cs:=by
 unfold DD at h;cases z:(Y[i]?).join with
 |none=>rw[z]at h;cases h
 |some d =>
  rw[z]at h;cases d with
  |aH k =>
   simp only at h;cases q:Z[k]? with
   |none=>rw[q]at h;cases h
   |some c =>
    rw[q]at h;cases c with
    |ins B N =>
     simp only at h
     by_cases j:B∈cs
     ·rw[bb j]at h;cases h;exact⟨join_some z,q,j⟩
     ·rw[bc j]at h;cases h
    |_=>cases h
  |_=>cases h
@[simp] noncomputable def Fd.GU:Cell->ax Fd
 |.lst ds=>aq (.lst ds)
 |.bB kvs=>aq (.bB kvs)
 |_=>av
theorem Fd.aoL{c:Cell}{fd:Fd}(h:Fd.GU c=aq fd):fd.cell=aq c:=by
 cases c <;> cases h <;> rfl
open Classical in
@[simp] noncomputable def xZ(cs:ar bh)(i:a9)(f:bh)(fv:Ev->Mo A):MS:=λY Z=>match DD cs i Y Z with
 |some (s,cls,fs)=>match fv Y Z with
  |some (.ok (.aH n),Z1)=>match Z1[Z.length]? with
   |some c=>match Fd.GU c with
    |some fd=>if n=Z.length/\Z1=Z++[c]/\fs.length<1000/\tI Z.length fd then aq (.nx,Y,Z.set s (.ins cls (putD f fd fs)))else av
    |none=>av
   |none=>av
  |_=>av
 |none=>av
section
variable{X:Cx}{W:WX}{st:cb}{f:bh}{cs:ar bh}{i:a9}{fv:Ev->Mo A}
theorem ZM(h:VS X W st (sG cs f (dR i) fv)):VS X W st (xZ cs i f fv):=by
 obtain⟨t,p,v⟩:=h;refine⟨t,p,λG m z H J B D w r h=>?_⟩;have cl:=w.uF r;unfold xZ at h;split at h
 ·rename_i s cls fs eo;split at h
  ·rename_i n o K;split at h
   ·rename_i c R;split at h
    ·rename_i fd I;split at h
     ·rename_i E;obtain⟨rfl,rfl,hl,gM⟩:=E;obtain⟨h1,h2,F⟩:=aoV eo;have a:s<z.length:=(cY.mp h2).1;have Q:=Fd.aoL I;refine v G m z H J B D w r ?_;have A:(B[i]?).join=aq (.aH s):=by rw[h1];rfl
      have P:(z++[c])[s]?=aq (.ins cls fs):=by rw[iS a];exact h2
      have e:sG cs f (dR i) fv B z=aq (.nx,B,z.set s (.ins cls (putD f (.val (.aH z.length)) fs))++[c]):=by
       simp only[sG,sM,K,dR,need,A,JE,P,bb (And.intro F hl)];rw[List.set_append_left _ _ a]
      rw[e];intro N L M U ex u y;have g:=u.fold (s:=s) (f:=f) (fd:=fd) (cls:=cls) (fs:=putD f (.val (.aH z.length)) fs) (fN a) (by rw[TF,bb rfl];simp) Q (λk x b l=>by
       rw[fF (dM b)]at l;have:=cl.aH k x l;simpa using this) (by
       rw[LY];have:=Jq (f:=f) (cl.aH s _ h2:sC _ fs) gM;simpa using this)
      rw[LY,qT,JT]at g;refine h N L M (U.take z.length) ⟨ex.same,λk x q=>?_⟩ g (abD y λj d C=>cl.env j d C);have b:=(cY.mp q).1;rw[JU,bb (by rw[<-w.len];exact b)];exact ex.pre k x q
     ·exact h.elim
    ·exact h.elim
   ·exact h.elim
  ·exact h.elim
 ·exact h.elim
end
theorem OP{K:bu}{f:bh}:eN K [] f:=λcls h=>by simp at h
theorem OQ{K:bu}{f cls:bh}{cs:ar bh}{C:az}(h1:nsIn K bo cls=aq (aq (.ref C)))(h2:nQ K C)(j:dq K (.ref C) f=aq av)(t:eN K cs f):eN K (cls::cs) f:=λc h=>by
 rcases dU.mp h with e|e
 ·subst e;exact⟨C,h1,h2,j⟩
 ·exact t c e
section
variable{P:bp}{w:bz}{K:bu}{mg:bh->ax au}{base:b9}
theorem Iv{x qual:bh}{st:cb}{N ps:ar bh}{k:a9}{b:MS}{f:az}{fd:cx}(F:uJ K x qual st f fd)(S:cS N ps (aW st))
  (a:∀(f:az) (j:au) (A:bx) (outer:ar Env) (s:ay) (H:Hp) (E:XK),cR k (A.deeper (c6 qual (aW st) s.heap.objs.size f j)) ->
   kU (oI P w K mg base N qual (aW st) f j A outer s H E) (λ_=>E) (eQ st) b):iI P w K mg base (pE P w) (k+1) f fd ps (tN K ps.length (cV N.length b)):=by
 obtain⟨g,e,kV,doc,d,l,j,ct,i,rfl,U,c⟩:=F.ex;refine VZ U c S (λz H Q E h=>h.1) λA outer s H z Q E hr B=>?_;obtain⟨t,p,q⟩:=a f j A outer s H E hr;exact⟨t,MR p,OY q B⟩
structure mL(K:bu)(mg:bh->ax au)(cls m qual:bh)(st:cb):Prop where
 ex:∃C f fd,nsIn K bo cls=aq (aq (.ref C))/\mg cls=aq (.ref C)/\nQ K C/\Meth K C m f/\uJ K m qual st f fd
theorem cH.of{cls m qual:bh}{st:cb}{N ps:ar bh}{k:a9}{b:MS}(h:mL K mg cls m qual st)(S:cS N ps (aW st))
  (bind:∀(kV doc pm:au) (an:ax az) (j ct:au) (us:ar au),us.length=ps.length->dh (et m qual (jE st) (eQ st) (aW st) .none kV doc pm an j ct) ⟨us,[]⟩=pure (ps.zip us))
  (q:∀(f:az) (j:au) (A:bx) (outer:ar Env) (s:ay) (H:Hp) (E:XK),cR k (A.deeper (c6 qual (aW st) s.heap.objs.size f j)) ->
   kU (oI P w K mg base N qual (aW st) f j A outer s H E) (λ_=>E) (eQ st) b):cH P w K mg base cls m (k+1) ps.length [] (cV N.length b):=by
 obtain⟨C,f,fd,h1,_,h2,z,F⟩:=h.ex;exact⟨C,f,fd,ps,[],[],h1,h2,z,rfl,Iv F S q,F.binds bind,.nil,λ_ _ => .nil⟩
structure Nr(K:bu)(mg:bh->ax au)(cls qual:bh)(st:cb):Prop where
 ex:∃C f fd,nsIn K bo cls=aq (aq (.ref C))/\mg cls=aq (.ref C)/\Mk K C f/\uJ K "__init__" qual st f fd
theorem JH.of{cls qual:bh}{st:cb}{N ps:ar bh}{k:a9}{b:MS}(h:Nr K mg cls qual st)(S:cS N ps (aW st))
  (bind:∀(kV doc pm:au) (an:ax az) (j ct:au) (us:ar au),us.length=ps.length->dh (et "__init__" qual (jE st) (eQ st) (aW st) .none kV doc pm an j ct) ⟨us,[]⟩=pure (ps.zip us))
  (q:∀(f:az) (j:au) (A:bx) (outer:ar Env) (s:ay) (H:Hp) (E:XK),cR k (A.deeper (c6 qual (aW st) s.heap.objs.size f j)) ->
   kU (oI P w K mg base N qual (aW st) f j A outer s H E) (λ_=>E) (eQ st) b):JH P w K mg base cls (k+1) ps.length (cV N.length b):=by
 obtain⟨C,f,fd,h1,h2,z,F⟩:=h.ex;exact⟨C,f,fd,ps,h1,h2,z,rfl,Iv F S q,F.binds bind⟩
structure YO(K:bu)(mg:bh->ax au)(rk m qual:bh)(st:cb):Prop where
 ex:∃R f fd,mg rk=aq (.ref R)/\Oz K R m f/\uJ K m qual st f fd
theorem FN.of{rk m qual:bh}{st:cb}{N ps:ar bh}{k:a9}{b:MS}(h:YO K mg rk m qual st)(S:cS N ps (aW st))
  (bind:∀(kV doc pm:au) (an:ax az) (j ct:au) (us:ar au),us.length=ps.length->dh (et m qual (jE st) (eQ st) (aW st) .none kV doc pm an j ct) ⟨us,[]⟩=pure (ps.zip us))
  (q:∀(f:az) (j:au) (A:bx) (outer:ar Env) (s:ay) (H:Hp) (E:XK),cR k (A.deeper (c6 qual (aW st) s.heap.objs.size f j)) ->
   kU (oI P w K mg base N qual (aW st) f j A outer s H E) (λ_=>E) (eQ st) b):FN P w K mg base rk m (k+1) ps.length (cV N.length b):=by
 obtain⟨R,f,fd,h1,h2,F⟩:=h.ex;exact⟨R,f,fd,ps,h1,h2,rfl,Iv F S q,F.binds bind⟩
end
theorem Inv.Rh{X:Cx}{aa:ar (az×cz)}{J:L2.St}{H:Hp}{s:ay}{h':b9}{t':a9}{ch:ar az}(I:Inv X aa J H s)(k:∀b o,b∉ch->s.heap.get? b=aq o->h'.get? b=aq o)(hf:∀b∈ch,qY X aa H b):Inv X aa J H {s with heap:=h',toks:=t' }:=by
 have ne:∀b u,H b=aq u->b∉ch:=λb u q z=>by rw[(hf b z).1]at q;cases q
 refine I.step (g':=s.gens) (d':=s.drawn) (ch:=ch) (λb hb=>?_) (λb o _ _ j q _=>k b o j q) (λb o _ _ j q _=>⟨o.slots,k b o j q⟩) (λ_ _ _ _ n=>n)
  (λb o j q=>⟨o,k b o j q⟩) (λ_ _ q=>q) (λ_ _ _ q=>q) (λb f q=>⟨#[],by rw[q];simp⟩) (λm hm=>?_) (λb u q=>?_) I.bare
 ·obtain⟨a0,a1,a2,e,d,a⟩:=hf b hb;exact⟨e,a1,d,a⟩
 ·obtain⟨o,es,U,N,r⟩:=hm;exact⟨o,es,U,k _ o (λz=>(hf _ z).2.1 rfl) N,r⟩
 ·refine(I.aJ b u q).oR (λc v j B=>k c v ?_ B) (λ_ q=>q) λ_ _ q=>q
  rcases j with z|z
  ·rw[z];exact ne b u q
  ·exact ne c _ z
section
variable{X:Cx}{aa:ar (az×cz)}{J:L2.St}{H:Hp}{s:ay}
theorem Inv.OG(I:Inv X aa J H s):∃m,s.heap.Ns X.env.locals m/\Fr X.base X.env.locals s.heap m :=
 let ⟨m,hn,_⟩:=I.loc
 ⟨m,hn,hn,I.bk,rX I.ok.sX I.ok.above⟩
end
end V2
namespace L2
open PySem PySem.Spec PyProof.Rows
theorem axW:entryFor table "dict_itemiterator.__iter__" = aq Builtin.«dict_keyiterator.__iter__» :=
 entryFor_alias (id' := "dict_keyiterator.__iter__") (by kernel_rfl) (by rfl) (by decide +kernel) (by kernel_rfl)
theorem arS{prog:bp}{w:bz}{A:bx}{E:au->ay->Prop}{s:ay}{j d:az}{i n ep:a9}{ok z:au}{Q:au->ay->Prop}(h:IsItemIter s.heap j d i n ep ok z)(q:Q (.ref j) s):wpAny (bw prog w) A (pyIter (.ref j)) Q E s:=by
 have ty:s.TypeIs (.ref j) "dict_itemiterator":=⟨_,h,rfl⟩;exact wpAny_pyIter_slot ty F.slot_dict_itemiterator_iter (vZ F.slot_dict_itemiterator_iter ty axW (bL ⟨_,rfl,_,_,ty,F.slot_dict_itemiterator_next.lookup,q⟩) (F.args_dict_itemiterator_iter_1 _))
end L2
namespace V2
open PySem PySem.Spec PyProof.Rows L2
def Nl(a:az)(o:cz)(kvs:ar (Key×V)):It :=
 ⟨λi H=>H a=aq (.eU o (.dK kvs))/\i<kvs.length,λi H x H'=>∃p j,kvs[i]?=aq j/\H p=av/\H'=upd H p (.tup [kV j.1,j.2])/\x=.ref p,λi H=>H a=aq (.eU o (.dK kvs))/\kvs.length<=i⟩
theorem aaX{X:Cx}{aa:ar (az×cz)}{J:L2.St}{H:Hp}{s:ay}{a:az}{o:cz}{kvs:ar (Key×V)}{es:ba DictEntry}{ep:a9}(I:Inv X aa J H s)(h:H a=aq (.eU o (.dK kvs)))(hd:o.data=.dict es ep) :
  ∃vs,KV kvs vs/\Heap.DictAt (kF X.prog X.w) s.heap a vs ep:=by
 obtain⟨h1,z,y,vs,rel,U,dY,b,q,N,j,B⟩:=I.aJ a _ h;rw[h1]at q;cases q;rw[hd]at j;cases j;exact⟨vs,rel,o,es,h1,N,hd,B⟩
theorem agT{P:bp}{w:bz}{K:bu}{elts:ar b7}{G:a9}{L:dj}(a B:az)(o:cz)(kvs:ar (Key×V))(es:ba DictEntry)(ep:a9)(hd:o.data=.dict es ep) :
  Turn P w K (.Tuple elts G L) (Nl a o kvs) [B] B (λi h=>∃ok N,IsItemIter h B a i kvs.length ep ok N)where
 mem:=by simp
 obj:=λi h st c j=>by
  obtain⟨ok,N,st⟩:=st;have e:c=B:=by simpa using j
  subst e;exact⟨_,st,λv z=>by cases z⟩
 keep:=λi h h' st k=>by
  obtain⟨ok,N,st⟩:=st;exact⟨ok,N,k B (by simp) _ st⟩
 item:=by
  intro X t hw u j i aa s J H E I g st r;subst t hw u;obtain⟨ok,N,st⟩:=st;obtain⟨x,hi⟩:=r;obtain⟨n,rel,dat⟩:=aaX I x hd;have hl:kvs.length=n.length:=rel.length;have m:kvs[i]?=aq kvs[i]:=dZ hi;generalize kvs[i]=U at m;obtain⟨l,g1,W,T⟩:=Dv rel m;have f:B<s.heap.objs.size:=eG st;rw[hl]at st;refine wpAny_pyNext_items_item (k:=l.1) (v:=l.2) st dat g1 λkey h1 p a1 a2 a3 a4=>?_;refine⟨_,rfl,wpAny_letOwnedTupleGo_items (s:={s with heap:=h1}) a1 λh2 C sb=>?_⟩;have d:H s.heap.objs.size=av:=I.aJ.fresh cX;have R:∀c o,c∉[B]->s.heap.get? c=aq o->h2.get? c=aq o:=λc o j q=>by
   have j:c≠B:=by simpa using j
   exact sb.extBut c o j (a4 c o j q)
  have M:h2.get? s.heap.objs.size=aq {cls:=.type "tuple",data:=.seq #[key,l.2]}:=sb.extBut _ _ (JF f) a2;have D:Inv X aa J H {s with heap:=h2}:=Inv.Rh (t':=s.toks) I R g;have Q:RelV (kV U.1) key:=by rw[W];exact Xm p
  have aJ:fU X.prog X.w (upd H s.heap.objs.size (.tup [kV U.1,U.2])) h2:=by
   refine λb o q=>?_
   by_cases A:b=s.heap.objs.size
   ·subst A;rw[eA]at q;cases q;exact⟨by show 2<=bg;decide,[key,l.2],.cons Q (.cons T .nil),⟨_,M,rfl,_,rfl⟩⟩
   ·rw[bJ A]at q;exact(D.aJ b o q).oR (λc v _ z=>z) (λc z=>by rw[bJ (iV z d)];exact z) λc xs z=>by rw[bJ (iV z d)];exact z
  have y:qY X aa H s.heap.objs.size:=I.wR cX d;have S:X.s₀.heap.get? s.heap.objs.size=av:=by
   cases q:X.s₀.heap.get? s.heap.objs.size with
   |none=>rfl
   |some ob=>exact b8 (mY (eG q) I.sz) (Nat.lt_irrefl _)
  have I2:Inv X aa J (upd H s.heap.objs.size (.tup [kV U.1,U.2])) {s with heap:=h2}:=Inv.Ah D d S y.2.1 y.2.2.2.2.1 y.2.2.2.2.2 aJ;rw[<-hl]at C;refine⟨.ref s.heap.objs.size,_,I2,rfl,⟨_,U,m,d,rfl,rfl⟩,⟨_,_,C⟩,λc j=>?_⟩;have F:=(g c j).1;have e:c=B:=by simpa using j
  subst e;rw[bJ (gF f)];exact F
 done:=by
  intro X t hw u j i aa s J H E I g st r;subst t hw u;obtain⟨ok,N,st⟩:=st;obtain⟨x,hi⟩:=r;obtain⟨n,rel,dat⟩:=aaX I x hd;have hl:kvs.length=n.length:=rel.length;rw[hl]at st;refine wpAny_pyNext_items_end (I.ok.hd j) st dat (by simp;omega) λh' p=>⟨rfl,Inv.Rh (t':=s.toks) I (λc o j q=>p c o (by simpa using j) q) g⟩
 self:=λ_ _ _ _ _ st h=>by
  obtain⟨ok,N,st⟩:=st;exact arS st h
theorem Inv.axB{X:Cx}{aa:ar (az×cz)}{J:L2.St}{H:Hp}{s:ay}{a:az}{kvs:ar (Key×V)}{o:cz}(I:Inv X aa J H s)(h:H a=aq (.dK kvs))(e:s.heap.get? a=aq o):Inv X aa J (upd H a (.eU o (.dK kvs))) s where
 ok:=I.ok
 os:=I.os
 bare:=I.bare
 base:={
  keep:=I.base.keep
  slot:=I.base.slot
  free:=λb j q n U=>by
   have z:=I.base.free b j q n U;rw[bJ (dM (iV h z))];exact z
  there:=I.base.there
  oP:=λb xs q=>by have z:=I.base.oP b xs q;rw[bJ (MJ z h (by intro w;cases w))];exact z
  mV:=λb j u q=>by have z:=I.base.mV b j u q;rw[bJ (MJ z h (by intro w;cases w))];exact z
  nT:=λb N q=>by obtain⟨more,z⟩:=I.base.nT b N q;exact⟨more,by rw[bJ (MJ z h (by intro w;cases w))];exact z⟩}
 loc:=I.loc
 cell:=I.cell
 free:=by rw[bJ (dM (iV h I.free))];exact I.free
 oG:=λx c q=>by rw[bJ (dM (iV h (I.oG x c q)))];exact I.oG x c q
 pin:=λq d=>by
  obtain⟨x,y,c⟩:=I.pin q d;exact⟨x,by rw[bJ (dM (iV h y))];exact y,c⟩
 aJ:=λb u q=>by
  have st:∀c v,H c=aq v->v≠.dK kvs->upd H a (.eU o (.dK kvs)) c=aq v:=λc v z hv=>by rw[bJ (MJ z h hv)];exact z
  by_cases B:b=a
  ·subst B;rw[eA]at q;cases q;exact⟨e,(I.aJ b _ h).oR (λc v _ z=>z) (λc z=>st c _ z (by intro w;cases w)) λc xs z=>st c _ z (by intro w;cases w)⟩
  ·rw[bJ B]at q;exact(I.aJ b u q).oR (λc v _ z=>z) (λc z=>st c _ z (by intro w;cases w)) λc xs z=>st c _ z (by intro w;cases w)
 len:=I.len
section
variable{X:Cx}{W:WX}{pos:dj}
theorem amQ{o:b7}{td:TE}{elts:ar b7}{r:a9}{t ai l:dj}(E:PE X o td)(y:cm o "items" X.env (cg o X.env)=cg o X.env:=by rfl)(A:(ai.endLine==l.line)=a5:=by rfl) :
  PI X (.Tuple elts r t) (.Call (.Attribute o "items" ai) [] [] l) (λJ H R=>td J H λx H1=>∃a kvs,x=.ref a/\H1 a=aq (.dK kvs)/\∀B,R (Nl a B kvs) (upd H1 a (.eU B (.dK kvs)))):=by
 intro aa s J H R I h;refine Qc y A (bI (E aa s J H _ I h) λv j ⟨x,H1,i,u,C⟩=>?_);obtain⟨a,kvs,rfl,U,q⟩:=C;cases u;obtain⟨h1,h2,P⟩:=MZ i (.inl ⟨kvs,.inl U⟩);obtain⟨z,_,N,rel,f⟩:=IJ i.aJ U;refine⟨"dict", "dict.items",PySem.F.plainAttrs_dict,PySem.F.slot_dict_items,PySem.F.type_dict_items,h1,h2,RI rfl (PySem.evalArgs_none ?_)⟩;refine OU PySem.F.slot_dict_items f.typeIs PySem.F.entry_dict_items (PySem.F.args_dict_items_1 _) (meets_dict_items (kF X.prog X.w) a P) ⟨⟨N,f⟩,?_⟩;obtain⟨B,es,d,n,L,m,K⟩:=f;have hl:kvs.length=N.length:=rel.length;have p:Inv X aa J H1 {j with heap:=j.heap.push {cls:=.type "dict_items",data:=.fields #[.ref a]} }:=i.kept (t':=j.toks) λb o e=>eI _ e;have dat:Heap.DictAt (kF X.prog X.w) (j.heap.push {cls:=.type "dict_items",data:=.fields #[.ref a]}) a N d:=⟨B,es,eI _ n,L,m,K⟩;refine wpAny_pyIter_items (s:={j with heap:=j.heap.push {cls:=.type "dict_items",data:=.fields #[.ref a]} }) ⟨_,gO _ rfl,rfl,rfl⟩ dat ?_;generalize k:({j with heap:=j.heap.push {cls:=.type "dict_items",data:=.fields #[.ref a]} }:ay)=s2 at p dat;have ga:s2.heap.get? a=aq B:=by rw[<-k];exact eI _ n
 have g:=V2.Inv.axB p U ga;have M:Inv X aa J (upd H1 a (.eU B (.dK kvs))) {s2 with heap:=s2.heap.push {cls:=.type "dict_itemiterator",data:=.fields #[.none,.bool aw,.ref a,.int 0 0,.int N.length 0,.int d 0,.none,.none]} }:=g.kept (t':=s2.toks) λb o e=>eI _ e;have D:s2.heap=j.heap.push {cls:=.type "dict_items",data:=.fields #[.ref a]}:=by rw[<-k]
 refine⟨s2.heap.objs.size,[s2.heap.objs.size],_,_,_,rfl,M,agT a _ B kvs es d m,⟨.none,.none,by rw[hl];exact gO _ rfl⟩,λc G=>?_,q B⟩;have e:c=s2.heap.objs.size:=by simpa using G
 subst e;exact g.wR cX (g.aJ.fresh cX)
def MW(kvs:ar (Key×A)):Src:=⟨kvs.map mT,λ_=>True⟩
@[simp] def Qy(f:Ev->Mo A):Ev->Mo Src:=λY=>mb (f Y) λa Z=>match mH Z a with
 |some (k,kvs)=>aq (.ok (MW kvs),Z.set k .dead)
 |none=>av
theorem arR{K:bu}{G:Hp}{O:ar az}{p:az}{o:cz}{N:ar (Key×V)}{kvs:ar (Key×A)}(n:G p=aq (.eU o (.dK N)))(m:N.map (·.1)=kvs.map (·.1))(d:bE K G O (N.map (·.2)) (kvs.map (·.2))):KD K G O (Nl p o N) (MW kvs):=by
 have hl:N.length=kvs.length:=by have:=c3 List.length m;simpa using this
 have k:(MW kvs).ds.length=kvs.length:=by simp[MW]
 refine⟨λf j B s e w h i hi=>⟨w.sub _ _ (e.same _ _ n),by rw[hl,<-k];exact hi⟩,λf j B s e w h i hi=>⟨w.sub _ _ (e.same _ _ n),by rw[hl,<-k];exact hi⟩,λf j B s e w h i x C y v hd=>?_⟩;obtain⟨q,a,r,c,rfl,rfl⟩:=hd;have U:(kvs.map mT)[i]?=aq y:=v;rw[jN]at U;cases b:kvs[i]? with
 |none=>rw[b]at U;cases U
 |some t =>
  rw[b]at U;cases U;have k1:a.1=t.1:=by
   have:=c3 (λl=>l[i]?) m;simp only[jN,r,b,JE,lD]at this;exact this
  obtain⟨z,g,u⟩:=d.get (i:=i) (d:=t.2) (by rw[jN,b];rfl);rw[jN,r]at g;cases g;refine⟨upd f q (.tup [kV a.1,a.2]),Ext.new (w.pA c) _,w.new c _,?_⟩;simp only[mT,Den];exact⟨q,[kV a.1,a.2],rfl,eA,.cons (by rw[k1];exact abN _) (.cons ((u.ext e).ext (Ext.new (w.pA c) _)) .nil)⟩
theorem afU{o:b7}{f:Ev->Mo A}{elts:ar b7}{B:a9}{C ai q:dj}(L:VE X W o f)(D:cm o "items" X.env (cg o X.env)=cg o X.env:=by rfl)(E:(ai.endLine==q.line)=a5:=by rfl) :
  VI X W (.Tuple elts B C) (.Call (.Attribute o "items" ai) [] [] q) (Qy f):=by
 obtain⟨t,p,s⟩:=L;refine⟨_,amQ p D E,λG n x H J m R w r h=>?_⟩;refine s G n x H J m _ w r (bN.mb h λa u v P l j B U M h1=>?_);split at h1
 ·rename_i k K e;obtain⟨p,z,rfl,d,g,I,q,F⟩:=BP U M e;refine⟨p,z,rfl,I,λb=>?_⟩;have y:=U.put (k:=k) (c:=.dead) (o:=.eU b (.dK z)) d g trivial;have N:=y.freeze d g eA;rw[qT]at N;have i:Ext l j (upd l p (.eU b (.dK z))) j:=Ext.new g _;exact h1 _ _ _ _ i N (arR eA q (F.ext i))
 ·exact False.elim h1
end
section
variable{P:bp}{w:bz}{K:bu}{mg:bh->ax au}{base:b9}
structure aeJ(K:bu)(x qual:bh)(st:cb)(f T:az)(fd:cx):Prop where
 ex:∃(oc:au) (od:ax az) (kV doc pm:au) (an:ax az) (aX ct:au) (iC:ba (ax au)),
  fd=et x qual (jE st) (eQ st) (aW st) (.ref T) kV doc pm an aX ct/\K.lookup f=aq ⟨oc,od,.func fd,iC⟩/\codeIn K aX qual=a5
structure YN(K:bu)(mg:bh->ax au)(cls m qual:bh)(st:cb)(dv:ba au):Prop where
 ex:∃C f fd T o n,nsIn K bo cls=aq (aq (.ref C))/\mg cls=aq (.ref C)/\nQ K C/\Meth K C m f/\aeJ K m qual st f T fd/\K.lookup T=aq o/\o.data=.seq dv n
theorem cH.ofD{cls m qual:bh}{st:cb}{N ps:ar bh}{k:a9}{b:MS}{z:ba au}{ds:ar au}{dvs:ar V}{das:ar A}(h:YN K mg cls m qual st z)(hv:Vals dvs ds)(hd:∀G O,bE K G O dvs das)(S:cS N ps (aW st))
  (bind:∀(T:az) (kV doc pm:au) (an:ax az) (j ct:au) (us:ar au),us.length+ds.length=ps.length->∃k,dh (et m qual (jE st) (eQ st) (aW st) (.ref T) kV doc pm an j ct) ⟨us,[]⟩=seqItems? (.ref T) >>= k/\k (aq z)=pure (ps.zip (us++ds)))
  (c:∀(f:az) (j:au) (A:bx) (outer:ar Env) (s:ay) (H:Hp) (E:XK),cR k (A.deeper (c6 qual (aW st) s.heap.objs.size f j)) ->
   kU (oI P w K mg base N qual (aW st) f j A outer s H E) (λ_=>E) (eQ st) b):cH P w K mg base cls m (k+1) ps.length das (cV N.length b):=by
 obtain⟨C,f,fd,T,o,n,h1,_,h2,i,F,hT,e⟩:=h.ex;obtain⟨v,u,kV,doc,pm,an,j,ct,y,rfl,a,d⟩:=F.ex;refine⟨C,f,_,ps,ds,dvs,h1,h2,i,rfl,VZ a d S (λB H Q E h=>h.1) λA outer s H B Q E hr U=>?_,λs us g hl=>?_,hv,hd⟩
 ·obtain⟨t,p,q⟩:=c f j A outer s H E hr;exact⟨t,MR p,OY q U⟩
 ·obtain⟨x,r,l⟩:=bind T kV doc pm an j ct us (by rw[<-iR];exact hl);exact BindsTo.of_defaults rfl (g _ _ hT) e r l
end
end V2
namespace M
open PySem V2
noncomputable section
def WV:MS :=
 (aV (kX (xT BJ aR (aC (nS (aC cN (aC (aB aQ cA cK) (aC (aB aQ cA cK) a0)))) a0)))
   (eW (cC (aB qN (aB aQ cA cK) (aB aQ cA cU)))
    (kX (xT BJ aR (aC (nS (aC cN (aC (aB aQ cA cU) (aC (aB aQ cA cU) a0)))) a0)))
    fY))
def WW:MS :=
 (aV (bP (gS a5 a0) (gN 1))
  (aV (jR (Qy (aS (cE 1 QP) (aC aK a0))) (iM 2 (dH (gN 2) (dH (gN 3) jA))) WV)
  (bW (nS (aC (aS (cE 1 YR) (aC aK a0)) (aC cK (aC cK (aC (xR 1) a0))))))))
def QR:ar A->Mo A:=cV 4 WW
end
end M
namespace V2
open PySem L2
@[simp] theorem aaU(neg:bt)(i j:a8)(Z:aG):yX neg (.int i) (.int j) Z=aq (.ok (.bl (if neg then !(i==j)else i==j)),Z):=by
 simp[yX,res,eE,lN]
@[simp] theorem aFM(i j:a8)(Z:aG):mF (.int i) (.int j) Z=aq (.ok (.bl (i==j)),Z):=aaU aw i j Z
@[simp] theorem aFL(i j:a8)(Z:aG):qN (.int i) (.int j) Z=aq (.ok (.bl (!(i==j))),Z):=aaU a5 i j Z
theorem IM{i j:a8}(q : -18446744073709551616<i)(h1:i<18446744073709551616):lT i j:=.inl ⟨q,h1⟩
theorem az5{i j:a8}(q : -18446744073709551616<j)(h1:j<18446744073709551616):lT i j:=.inr ⟨q,h1⟩
@[simp] theorem aFX{α:Type}(x:α)(l:ar α):eO (x::l) 0=aq x:=XJ _
@[simp] theorem aFW{α:Type}(x y:α)(l:ar α):eO (x::y::l) 1=aq y:=Lo _
@[simp] theorem aFV{α:Type}(x y z:α)(l:ar α):eO (x::y::z::l) 2=aq z:=JA _ 2
@[simp] theorem aFU{α:Type}(x y z u:α)(l:ar α):eO (x::y::z::u::l) 3=aq u:=JA _ 3
end V2
namespace M
open PySem L2 V2
noncomputable def AR(c k:a8):a8 :=
 ((c+1)*(48271+118*k)%2147483629/977*16807+(c+1)*(48271+118*k)%2147483629*(k*k+7)+k)%2147483587
theorem UB(c k:a8):0<=AR c k:=YK _ (by decide)
theorem UA(c k:a8):AR c k<2147483587:=QI _ (by decide)
theorem QC(c k:a8)(Z:aG)(b:0<=c)(U:c<8589934592)(a:0<=k)(d:k<1048576):zQ [.int c,.int k] Z=aE (.int (AR c k)) Z:=by
 have f:=YK ((c+1)*(48271+118*k)) (show(2147483629:a8)≠0 by decide);have e:=QI ((c+1)*(48271+118*k)) (show(0:a8)<2147483629 by decide);have h1:lT (c+1) (48271+118*k):=IM (by omega) (by omega);have h2:lT k k:=IM (by omega) (by omega);have N:∀j,lT ((c+1)*(48271+118*k)%2147483629) j:=λj=>IM (by omega) (by omega);have B:∀j,lT j 16807:=λj=>az5 (by decide) (by decide);have z:∀j,lT 118 j:=λj=>IM (by decide) (by decide);have q:∀j,rB j 977:=λj=>⟨by decide,by decide⟩
 simp[zQ,acS,h1,h2,N,B,z,q,AR]
def ES(ns:ar a8)(k:a8):a8:=AR (if k<ns.length then ns[k.toNat]?.getD 0%2147483647 else 0) (k+101)
theorem ab7(ns:ar a8)(k:a8):0<=ES ns k:=UB _ _
theorem ab6(ns:ar a8)(k:a8):ES ns k<2147483587:=UA _ _
theorem ad5(ns:ar a8)(k:a8)(Z:aG)(j:0<=k)(z:k<1000000):FQ [.kL ns,.int k] Z=aE (.int (ES ns k)) Z:=by
 by_cases h:k<(ns.length:a8)
 ·obtain⟨n,rfl⟩:=QH j;have hn:n<ns.length:=by omega
  have e:eO (ns.map A.int) (n:a8)=(aA (ns[n])):=by rw[rS];simp[hn]
  have q:=YK ns[n] (show(2147483647:a8)≠0 by decide);have B:=QI ns[n] (show(0:a8)<2147483647 by decide);have m:=λZ=>QC (ns[n]%2147483647) (n+101) Z q (by omega) (by omega) (by omega);simp[FQ,Kq,h,e,m,ES,hn]
 ·have m:=λZ=>QC 0 (k+101) Z (by decide) (by decide) (by omega) (by omega);simp[FQ,Kq,h,m,ES]
noncomputable def AN(c kind:a8):a8 :=
 if kind=0 then c%7 else if kind=1 then c%61-30 else if kind=2 then c*982451653%(2*10 ^ 18+1)-10 ^ 18 else if kind=3 then 5
 else if c%4=0 then c*10 ^ 50+7 else if c%4=1 then 0-c*10 ^ 50 else if c%4=2 then c else 0-c
theorem adZ(c kind:a8)(Z:aG)(d:0<=c)(b:c<8589934592):xG [.int c,.int kind] Z=aE (.int (AN c kind)) Z:=by
 have h1:∀j,lT c j:=λj=>IM (by omega) (by omega);have h2:∀j,lT 2 j:=λj=>IM (by decide) (by decide);have a:KZ 10 18:=⟨by decide,by decide,by decide⟩;have U:KZ 10 50:=⟨by decide,by decide,by decide⟩;have N:(4:a9)<=bg:=by decide
 by_cases B:kind=0
 ·simp[xG,IX,B,AN]
 by_cases k1:kind=1
 ·simp[xG,IX,k1,AN]
 by_cases z:kind=2
 ·simp[xG,IX,z,AN,h1,h2,a]
 by_cases q:kind=3
 ·simp[xG,IX,q,AN]
 have hm:c%4=0\/c%4=1\/c%4=2\/c%4=3:=by omega
 rcases hm with e|e|e|e <;> simp[xG,IX,B,k1,z,q,e,AN,h1,U,N]
end M
namespace V2
open PySem L2
theorem Jd{f:A->A->bt}:∀(xs:ar A),(∀x∈xs,f x x=a5)->BL f xs xs=a5
 |[],_=>rfl
 |x::xs,h=>by simp only[BL,h x mB,Bool.true_and];exact Jd xs λy j=>h y (fS _ j)
theorem abC:∀(n:a9) (a:A),eE n a=a5->lN n a a=a5:=by
 intro n
 induction n with
 |zero=>intro a h;cases a <;> first|(simp[lN];done)|(simp[eE]at h)
 |succ n ih =>
  intro a h;cases a with
  |tup ds=>simp only[eE,JX]at h;simp only[lN];exact Jd ds λx j=>ih x (h x j)
  |lst ds=>simp only[eE,JX]at h;simp only[lN];exact Jd ds λx j=>ih x (h x j)
  |int i=>simp[lN]
  |bl i=>simp[lN]
  |str i=>simp[lN]
  |cZ=>simp[lN]
  |_=>simp[eE]at h
theorem CV{Z:aG}{n:a9}{a:A}(h:eE 8 a=a5):res Z n a=aq a:=by
 cases n <;> simp[res,h]
theorem aw7{a b c:A}{Z:aG}(ha:res Z 6 a=aq c)(hb:res Z 6 b=aq c)(j:eE 8 c=a5):mF a b Z=aq (.ok (.bl a5),Z):=by
 simp[mF,yX,ha,hb,j,abC 8 c j]
theorem akU{Z:aG}{n:a9}{ds:ar A}(h:eE 8 (.lst ds)=aw):res Z (n+1) (.lst ds)=(tS (res Z n) ds).map .lst:=by
 rw[res,bc (by rw[h];simp)]
theorem akV{Z:aG}{n k:a9}{ds:ar A}(h:Z[k]?=aq (.lst ds)):res Z (n+1) (.aH k)=(tS (res Z n) ds).map .lst:=by
 rw[res,bc (by simp[eE])];simp[h]
theorem Wl{Z:aG}{n:a9}:∀(ds:ar A),ds.all (eE 8)=a5->tS (res Z n) ds=aq ds
 |[],_=>rfl
 |d::ds,h=>by
  simp only[List.all_cons,rC]at h;simp[tS,CV h.1,Wl ds h.2]
abbrev E:=a8×a8×a8
noncomputable def cM(e:E):A:=.tup [.int e.1,.int e.2.1,.int e.2.2]
def encL(es:ar E):ar A:=es.map cM
@[simp] theorem aDY(n:a9)(i:a8):eE n (.int i)=a5:=by cases n <;> rfl
def eK(s l d:a8)(es:ar E):A:=.tup [.int s,.int l,.int d,.lst (encL es)]
@[simp] theorem aEE(es:ar E):(encL es).length=es.length:=by simp[encL]
end V2
namespace M
open PySem L2 V2
noncomputable def iW(es:ar E)(i:a9):a8:=if i=0 then 0 else(es[i-1]?.getD (0,0,0)).2.1
noncomputable def iX(s:a8)(es:ar E)(i:a9):a8:=match es[i]? with
 |some e=>e.2.2-1
 |none=>s
theorem sT(es:ar E)(i:a9):(encL es)[i]?=es[i]?.map cM:=by simp[encL]
theorem JB{α:Type}(xs:ar α)(i:a9):eO xs (i:a8)=xs[i]?:=rS xs i
theorem acW{α:Type}(xs:ar α)(i:a9)(h:0<i):eO xs ((i:a8)-1)=xs[i-1]?:=by
 rw[show((i:a8)-1)=((i-1:a9):a8)by omega];exact rS xs _
theorem aCI(s l d:a8)(es:ar E)(i:a9)(Z:aG)(h:i<=es.length):sA [eK s l d es,.int i] Z=aE (.tup [.int (iW es i),.int (iX s es i)]) Z:=by
 have h2:(2:a9)<=bg:=by decide
 by_cases j:i=0
 ·subst j;cases es with
  |nil=>simp[sA,zF,eK,encL,iW,iX,h2]
  |cons e es=>simp[sA,zF,eK,encL,cM,iW,iX,h2]
 ·have B:eO (encL es) ((i:a8)-1)=aq (cM (es[i-1]?.getD (0,0,0))):=by
   rw[acW _ _ (by omega),sT,dZ (by omega)];rfl
  have z:0<i:=by omega
  by_cases hl:i<es.length
  ·have N:eO (encL es) (i:a8)=aq (cM es[i]):=by rw[JB,sT,dZ hl];rfl
   have q:(i:a8)<es.length:=by omega
   simp[sA,zF,eK,B,N,z,hl,q,h2,cM,iW,iX,j]
  ·have q:¬(i:a8)<es.length:=by omega
   simp[sA,zF,eK,B,z,hl,q,h2,cM,iW,iX,j]
theorem ad1(e:E)(s l d:a8)(es:ar E)(i:a9)(Z:aG)(h:i<=es.length):QT [cM e,eK s l d es,.int i] Z=aE (cM (e.1,e.2.1+iW es i,e.2.2+iX s es i)) Z:=by
 have j:(3:a9)<=bg:=by decide
 have q:=λZ=>aCI s l d es i Z h;simp[QT,acM,q,cM,j]
def uB(es fs:ar E):bt:=match es,fs with
 |[],_=>aw
 |_::_,[]=>a5
 |e::_,f::_=>decide (e.1<=f.1)
theorem aCF(es fs:ar E)(i j:a9)(Z:aG)(hi:i<=es.length)(b:j<=fs.length):KO [.lst (encL es),.int i,.lst (encL fs),.int j] Z=aE (.bl (uB (es.drop i) (fs.drop j))) Z:=by
 by_cases h1:i=es.length
 ·subst h1;simp[KO,WZ,uB]
 ·have hl:i<es.length:=by omega
  have a:eO (encL es) (i:a8)=aq (cM es[i]):=by rw[JB,sT,dZ hl];rfl
  have z:¬(i:a8)=(es.length:a8):=by omega
  by_cases h2:j=fs.length
  ·subst h2;have q:uB (es.drop i) []=a5:=by rw[vV hl];rfl
   simp[KO,WZ,q,z]
  ·have B:j<fs.length:=by omega
   have U:eO (encL fs) (j:a8)=aq (cM fs[j]):=by rw[JB,sT,dZ B];rfl
   have N:¬(j:a8)=(fs.length:a8):=by omega
   have q:uB (es.drop i) (fs.drop j)=decide (es[i].1<=fs[j].1):=by rw[vV hl,vV B];rfl
   simp[KO,WZ,q,z,N,a,U,cM]
def fR(s t:a8):a9->a8->a8->ar E->ar E->ar E
 |0,_,_,_,_=>[]
 |n+1,e7,dA,es,fs=>match es,fs with
  |[],[]=>[]
  |e::dY,[]=>(e.1,e.2.1+dA,e.2.2+t)::fR s t n e.2.1 dA dY []
  |[],f::iO=>(f.1,f.2.1+e7,f.2.2+s)::fR s t n e7 f.2.1 [] iO
  |e::dY,f::iO=>if e.1<=f.1 then(e.1,e.2.1+dA,e.2.2+(f.2.2-1))::fR s t n e.2.1 dA dY (f::iO)else(f.1,f.2.1+e7,f.2.2+(e.2.2-1))::fR s t n e7 f.2.1 (e::dY) iO
def tQ(s t:a8)(es fs:ar E):ar E:=fR s t (es.length+fs.length) 0 0 es fs
theorem DJ(es:ar E)(i:a9)(h:i<es.length):iW es (i+1)=es[i].2.1:=by simp[iW,h]
theorem VC(s:a8)(es:ar E)(i:a9)(h:i<es.length):iX s es i=es[i].2.2-1:=by simp[iX,h]
theorem VD(s:a8)(es:ar E):iX s es es.length=s:=by simp[iX]
theorem apW(B c g s2 b d:a8)(es fs:ar E)(i j:a9)(ae:ar E)(Z:aG)(hi:i<=es.length)(m:j<=fs.length)(ha:ae.length<1000000) :
  IU [aq (eK B c g es),aq (eK s2 b d fs),aD Z.length,aA i,aA j] (Z++[.lst (encL ae)]) =
   if uB (es.drop i) (fs.drop j)then(match es[i]? with
    |some e=>aq (.nx,[aq (eK B c g es),aq (eK s2 b d fs),aD Z.length,aA (i+1:a9),aA j],Z++[.lst (encL (ae++[(e.1,e.2.1+iW fs j,e.2.2+iX s2 fs j)]))])
    | none=>av)
   else(match fs[j]? with
    |some f=>aq (.nx,[aq (eK B c g es),aq (eK s2 b d fs),aD Z.length,aA i,aA (j+1:a9)],Z++[.lst (encL (ae++[(f.1,f.2.1+iW es i,f.2.2+iX B es i)]))])
    | none=>av):=by
 have z:=λZ=>aCF es fs i j Z hi m;have hl:yJ (Z++[.lst (encL ae)]) (.aH Z.length):=DN (yH (ds:=encL ae) (by simp));have k:rR (Z++[.lst (encL ae)]) (.aH Z.length)=aq (Z.length,encL ae):=ER (by simp);have l:ae.length<bg:=by rw[oS];omega
 have n:∀x:E,encL ae++[cM x]=encL (ae++[x]):=λx=>by simp[encL]
 cases U:uB (es.drop i) (fs.drop j)with
 |true =>
  have q:i<es.length:=by
   by_cases h:i<es.length
   ·exact h
   ·rw[List.drop_eq_nil_of_le (by omega)]at U;cases U
  have a:eO (encL es) (i:a8)=aq (cM es[i]):=by rw[JB,sT,dZ q];rfl
  have N:=λZ=>ad1 es[i] s2 b d fs j Z m;rw[U]at z;simp only[eK]at N ⊢;simp[IU,z,N,a,hl,k,l,n,q]
 |false =>
  have q:j<fs.length\/fs.length<=j:=by omega
  rcases q with q|q
  ·have a:eO (encL fs) (j:a8)=aq (cM fs[j]):=by rw[JB,sT,dZ q];rfl
   have N:=λZ=>ad1 fs[j] B c g es i Z hi;rw[U]at z;simp only[eK]at N ⊢;simp[IU,z,N,a,hl,k,l,n,q]
  ·have a:eO (encL fs) (j:a8)=av:=by rw[JB,sT,JV q];rfl
   rw[U]at z;simp only[eK]at ⊢;simp[IU,z,a,hl,k,q]
theorem Wh(q B U s2 z N:a8)(es fs:ar E)(i j:a9)(k:ax A)(Z:aG) :
  EY [aq (eK q B U es),aq (eK s2 z N fs),k,aA i,aA j] Z=aE (decide (i<es.length\/j<fs.length)) Z:=by
 by_cases h1:i<es.length
 ·simp[EY,eK,h1]
 ·by_cases h2:j<fs.length
  ·simp[EY,eK,h1,h2]
  ·simp[EY,eK,h1,h2]
theorem apX(b d h s2 c g:a8)(es fs:ar E)(Z:aG):∀(m n i j:a9) (ae:ar E),i<=es.length->j<=fs.length->m=(es.length-i)+(fs.length-j)->m<n->ae.length+m<=1000000 ->
  mG EY IU n [aq (eK b d h es),aq (eK s2 c g fs),aD Z.length,aA i,aA j] (Z++[.lst (encL ae)]) =
   aq (.nx,[aq (eK b d h es),aq (eK s2 c g fs),aD Z.length,aA es.length,aA fs.length],Z++[.lst (encL (ae++fR b s2 m (iW es i) (iW fs j) (es.drop i) (fs.drop j)))]):=by
 intro m
 induction m with
 |zero =>
  intro n i j ae hi e hm hn ha;obtain⟨n,rfl⟩:∃k,n=k+1:=⟨n-1,by omega⟩;have h1:i=es.length:=by omega
  have h2:j=fs.length:=by omega
  subst h1 h2;rw[OH (Z1:=Z++[.lst (encL ae)]) (by rw[Wh];simp)];simp[fR]
 |succ m ih =>
  intro n i j ae hi e hm hn ha;obtain⟨n,rfl⟩:∃k,n=k+1:=⟨n-1,by omega⟩;have f:EY [aq (eK b d h es),aq (eK s2 c g fs),aD Z.length,aA i,aA j] (Z++[.lst (encL ae)])=aE a5 (Z++[.lst (encL ae)]):=by
   rw[Wh,vM (by omega)]
  have q:=apW b d h s2 c g es fs i j ae Z hi e (by omega)
  by_cases a:i<es.length
  ·have o:es[i]?=aq es[i]:=dZ a;have U:=vV a
   by_cases z:j<fs.length
   ·have l:fs[j]?=aq fs[j]:=dZ z;have N:=vV z
    by_cases hle:es[i].1<=fs[j].1
    ·have B:uB (es.drop i) (fs.drop j)=a5:=by rw[U,N];simp[uB,hle]
     rw[B,o]at q;rw[BK f q,ih n (i+1) j _ (by omega) e (by omega) (by omega) (by simp;omega),U,N,fR,bb hle,DJ _ _ a,VC _ _ _ z,<-N];simp
    ·have B:uB (es.drop i) (fs.drop j)=aw:=by rw[U,N];simp[uB];omega
     rw[B,l]at q;rw[BK f q,ih n i (j+1) _ hi (by omega) (by omega) (by omega) (by simp;omega),U,N,fR,bc hle,DJ _ _ z,VC _ _ _ a,<-U];simp
   ·have p:j=fs.length:=by omega
    subst p;have B:uB (es.drop i) (fs.drop fs.length)=a5:=by rw[U,JW];rfl
    rw[B,o]at q;rw[BK f q,ih n (i+1) fs.length _ (by omega) e (by omega) (by omega) (by simp;omega),U,JW,fR,DJ _ _ a,VD];simp
  ·have tX:i=es.length:=by omega
   subst tX;have z:j<fs.length:=by omega
   have l:fs[j]?=aq fs[j]:=dZ z;have N:=vV z;have B:uB (es.drop es.length) (fs.drop j)=aw:=by rw[JW];rfl
   rw[B,l]at q;rw[BK f q,ih n es.length (j+1) _ hi (by omega) (by omega) (by omega) (by simp;omega),N,JW,fR,DJ _ _ z,VD];simp
theorem aCU(n:a9)(e:E):Cl n (cM e):=by simp[cM,Cl,fO]
theorem YZ(n:a9):∀(es:ar E),fO n (encL es)
 |[]=>by simp[encL,fO]
 |e::es=>by simp only[encL,cP,fO];exact⟨aCU n e,YZ n es⟩
theorem aF1(n:a9)(s l d:a8)(es:ar E):Cl n (eK s l d es):=by simp[eK,Cl,fO,YZ]
theorem aB7(j B U s2 z N:a8)(es fs:ar E)(Z:aG)(h:es.length+fs.length<=100000):YQ [eK j B U es,eK s2 z N fs] Z=aE (.lst (encL (tQ j s2 es fs))) Z:=by
 have q:=apX j B U s2 z N es fs Z (es.length+fs.length) 1000000 0 0 [] AQ AQ (by omega) (by omega) (by simp;omega);have a:encL []=[]:=rfl;have l0:∀es,iW es 0=0:=λ_=>rfl;simp only[a,l0,List.drop_zero,zK,Int.ofNat_zero,Int.natCast_zero]at q;have b:(0:a9)<=bg:=BU _;simp[YQ,acN,q,tQ];rw[xW (by simp[Cl,YZ])]
theorem aB8(j B U s2 z N:a8)(es fs:ar E)(Z:aG)(h:es.length+fs.length<=100000):KN [eK j B U es,eK s2 z N fs] Z=aE (eK (j+s2) (B+z) (max U N) (tQ j s2 es fs)) Z:=by
 have q:=λZ=>aB7 j B U s2 z N es fs Z h;have a:(4:a9)<=bg:=by decide
 simp only[eK]at q ⊢;simp[KN,acO,q,a]
def Ch(l s:a8):a8->a8->ax a8->ar E->Prop
 |lo,j,_,[]=>lo=s/\j=s
 |lo,j,q,e::r=>(∀p,q=aq p->p<=e.1)/\(q=aq e.1\/e.2.2<=lo+l+1)/\lo<e.2.1/\j<e.2.2/\e.2.1<=e.2.2/\e.2.2-e.2.1<=l/\Ch l s e.2.1 e.2.2 (aq e.1) r
def aa3(es:ar E):Prop:=∀e r,es=e::r->e.2.1=1/\e.2.2=1
structure GF(s l d:a8)(es:ar E):Prop where
 s0:0<=s
 l0:0<=l
 d0:0<=d
 fst:aa3 es
 ch:Ch l s 0 0 av es
theorem Ch.bound{l s:a8}:∀{es:ar E} {lo j:a8} {pr:ax a8},Ch l s lo j pr es->lo<=s/\j<=s
 |[],_,_,_,h=>⟨Nq h.1,Nq h.2⟩
 |e::r,_,_,_,h=>by
  obtain⟨_,_,B,z,_,_,q⟩:=h;have:=Ch.bound q;omega
noncomputable def iY(s:a8):ar E->a8
 |[]=>s
 |e::_=>e.2.2-1
theorem Ch.Wt{l s lo j:a8}{pr:ax a8}{es:ar E}(h:Ch l s lo j pr es):lo<=iY s es/\j<=iY s es:=by
 cases es with
 |nil=>exact⟨Nq h.1,Nq h.2⟩
 |cons e r =>
  obtain⟨_,_,B,z,q,_,_⟩:=h;show lo<=e.2.2-1/\j<=e.2.2-1;omega
theorem BF(s:a8):iY s []=s:=rfl
theorem DR(s:a8)(e:E)(r:ar E):iY s (e::r)=e.2.2-1:=rfl
def Last(j p2 P:ax a8)(B N U tX z:a8):Prop :=
 (P=j/\z=B+tX/\(j=av->p2=av)/\∀p q,j=aq p->p2=aq q->q<p) \/
 (P=p2/\z=U+N/\p2≠av/\∀p q,j=aq p->p2=aq q->p<=q)
theorem az9{z j s t:a8}{e7 dA g i d:a8}{b p2 P:ax a8}{e:E}{es fs:ar E}(h1:Ch z s e7 g b (e::es))(h2:Ch j t dA i p2 fs)(vH:0<=z)(u:0<=j)
  (G:∀p f r,b=aq p->fs=f::r->p<=f.1) (c:∀q,p2=aq q->q<e.1) (L:Last b p2 P g i (iY s (e::es)) (iY t fs) d) (k:∀f r,fs=f::r->e.1<=f.1)
  (af:Ch (z+j) (s+t) (e.2.1+dA) (e.2.2+iY t fs) (aq e.1) R):Ch (z+j) (s+t) (e7+dA) d P ((e.1,e.2.1+dA,e.2.2+iY t fs)::R):=by
 obtain⟨o,N,F,D,C,A,y⟩:=h1;obtain⟨x,w⟩:=h2.Wt;have v:iY t fs<=dA+j:=by
  cases fs with
  |nil=>rw[BF];have:=h2.1;omega
  |cons f r =>
   obtain⟨_,a,_⟩:=h2;rw[DR]
   rcases a with a|a
   ·have:=c _ a;have:=k f r rfl;omega
   ·omega
 rw[DR]at L;refine⟨λp U=>?_,?_,by show e7+dA<e.2.1+dA;omega,?_,by show e.2.1+dA<=e.2.2+iY t fs;omega,by show e.2.2+iY t fs-(e.2.1+dA)<=z+j;omega,af⟩
 ·rcases L with⟨B,_⟩|⟨B,_⟩
  ·rw[B]at U;exact o p U
  ·rw[B]at U;have:=c p U;show p<=e.1;omega
 ·rcases N with N|N
  ·left
   rcases L with⟨B,_⟩|⟨B,_,m,l⟩
   ·rw[B];exact N
   ·exfalso;cases h:p2 with
    |none=>exact m h
    |some q =>
     have:=l _ q N h;have:=c q h;omega
  ·right
   show e.2.2+iY t fs<=e7+dA+(z+j)+1;omega
 ·show d<e.2.2+iY t fs
  rcases L with⟨_,n,_⟩|⟨_,n,_⟩ <;> omega
theorem ab1{j B s t:a8}{e7 dA g i d:a8}{U p2 P:ax a8}{f:E}{es fs:ar E}(h1:Ch j s e7 g U es)(h2:Ch B t dA i p2 (f::fs))(vH:0<=j)(u:0<=B)
  (c:∀p,U=aq p->p<=f.1) (G:∀q e r,p2=aq q->es=e::r->q<e.1) (L:Last U p2 P g i (iY s es) (iY t (f::fs)) d) (k:∀e r,es=e::r->f.1<e.1)
  (af:Ch (j+B) (s+t) (f.2.1+e7) (f.2.2+iY s es) (aq f.1) R):Ch (j+B) (s+t) (e7+dA) d P ((f.1,f.2.1+e7,f.2.2+iY s es)::R):=by
 obtain⟨o,z,F,D,C,A,y⟩:=h2;obtain⟨x,w⟩:=h1.Wt;have v:iY s es<=e7+j:=by
  cases es with
  |nil=>rw[BF];have:=h1.1;omega
  |cons e r =>
   obtain⟨_,b,_⟩:=h1;rw[DR]
   rcases b with b|b
   ·have:=c _ b;have:=k e r rfl;omega
   ·omega
 rw[DR]at L;refine⟨λp a=>?_,?_,by show e7+dA<f.2.1+e7;omega,?_,by show f.2.1+e7<=f.2.2+iY s es;omega,by show f.2.2+iY s es-(f.2.1+e7)<=j+B;omega,af⟩
 ·rcases L with⟨N,_⟩|⟨N,_⟩
  ·rw[N]at a;exact c p a
  ·rw[N]at a;exact o p a
 ·rcases z with z|z
  ·left
   rcases L with⟨N,_,m,l⟩|⟨N,_⟩
   ·exfalso;cases h:U with
    |none=>rw[m h]at z;cases z
    |some p =>
     have:=l p _ h z;have:=c p h;omega
   ·rw[N];exact z
  ·right
   show f.2.2+iY s es<=e7+dA+(j+B)+1;omega
 ·show d<f.2.2+iY s es
  rcases L with⟨_,n,_⟩|⟨_,n,_⟩ <;> omega
theorem aAA{h g s t:a8}(vH:0<=h)(m:0<=g):∀(n:a9) (es fs:ar E) (e7 dA U a d:a8) (N p2 P:ax a8),n=es.length+fs.length->Ch h s e7 U N es->Ch g t dA a p2 fs ->
  (∀p f r,N=aq p->fs=f::r->p<=f.1)->(∀q e r,p2=aq q->es=e::r->q<e.1)->Last N p2 P U a (iY s es) (iY t fs) d ->
  Ch (h+g) (s+t) (e7+dA) d P (fR s t n e7 dA es fs):=by
 intro n
 induction n with
 |zero =>
  intro es fs e7 dA U a d N p2 P hn h1 h2 B c L;have y:es=[]:=xE (by omega);have o:fs=[]:=xE (by omega);subst y o;obtain⟨a1,X⟩:=h1;obtain⟨W,V⟩:=h2;simp only[BF]at L;refine⟨by omega,?_⟩
  rcases L with⟨_,o,_⟩|⟨_,o,_⟩ <;> omega
 |succ n ih =>
  intro es fs e7 dA U a d N p2 P hn h1 h2 B c L;cases es with
  |nil =>
   cases fs with
   |nil=>simp at hn
   |cons f fs =>
    simp only[fT,BX]at hn;have u:=h2;obtain⟨H,G,F,D,C,A,b⟩:=h2;have q:=ih [] fs e7 f.2.1 U f.2.2 (s+f.2.2) N (aq f.1) (aq f.1) (by simp;omega) h1 b
     (λp i r j he=>by
      subst he;have:=B p f _ j rfl;have:=b.1 _ rfl;omega) (λq e r _ he=>by cases he)
     (.inr ⟨rfl,rfl,by simp,λp q j z=>by cases z;exact B p f _ j rfl⟩)
    have:=ab1 (es:=[]) h1 u vH m (λp j=>B p f _ j rfl) (λq e r _ he=>by cases he) L (λe r he=>by cases he) (R:=fR s t n e7 f.2.1 [] fs) (by
     rw[BF,QJ f.2.1,QJ f.2.2];exact q)
    simp only[fR];rw[BF]at this;exact this
  |cons e es =>
   have l:=h1;obtain⟨T,S,Q,M,K,I,w⟩:=h1;have x:(∀f r,fs=f::r->e.1<=f.1)->Ch (h+g) (s+t) (e7+dA) d P ((e.1,e.2.1+dA,e.2.2+iY t fs)::fR s t n e.2.1 dA es fs):=λv=>by
    have q:=ih es fs e.2.1 dA e.2.2 a (e.2.2+iY t fs) (aq e.1) p2 (aq e.1) (by simp at hn ⊢;omega) w h2
     (λp i r j he=>by cases j;exact v i r he) (λq k r z he=>by
      subst he;have:=c q e _ z rfl;have:=w.1 _ rfl;omega)
     (.inl ⟨rfl,rfl,by simp,λp q j z=>by cases j;exact c q e _ z rfl⟩)
    exact az9 l h2 vH m B (λq z=>c q e _ z rfl) L v q
   cases fs with
   |nil =>
    have:=x (λf r he=>by cases he);simp only[fR];rw[BF]at this;exact this
   |cons f fs =>
    simp only[fR]
    by_cases hle:e.1<=f.1
    ·rw[bb hle];have:=x (λi r he=>by cases he;exact hle);rw[DR]at this;exact this
    ·rw[bc hle];have u:=h2;obtain⟨H,G,F,D,C,A,b⟩:=h2;have q:=ih (e::es) fs e7 f.2.1 U f.2.2 (iY s (e::es)+f.2.2) N (aq f.1) (aq f.1) (by simp at hn ⊢;omega) l b
      (λp i r j he=>by
       subst he;have:=B p f _ j rfl;have:=b.1 _ rfl;omega) (λq k r z he=>by cases z;cases he;omega)
      (.inr ⟨rfl,rfl,by simp,λp q j z=>by cases z;exact B p f _ j rfl⟩)
     have:=ab1 (es:=e::es) l u vH m (λp j=>B p f _ j rfl) (λq k r z he=>c q k r z he) L (λk r he=>by cases he;omega) (R:=fR s t n e7 f.2.1 (e::es) fs) (by
      rw[QJ f.2.1,QJ f.2.2];exact q)
     rw[DR]at this;exact this
theorem Zf{l s:a8}{es:ar E}(h:aa3 es)(c:Ch l s 0 0 av es):iY s es=0:=by
 cases es with
 |nil=>exact c.1.symm
 |cons e r=>rw[DR,(h e r rfl).2];rfl
theorem awW{j B c s2 z U:a8}{es fs:ar E}(h1:GF j B c es)(h2:GF s2 z U fs):GF (j+s2) (B+z) (max c U) (tQ j s2 es fs):=by
 have g:=Zf h1.fst h1.ch;have N:=Zf h2.fst h2.ch;have q:=aAA h1.l0 h2.l0 (es.length+fs.length) es fs 0 0 0 0 0 av av av rfl h1.ch h2.ch (λ_ _ _ h=>by cases h) (λ_ _ _ h=>by cases h) (.inl ⟨rfl,by rw[N];rfl,λ_=>rfl,λ_ _ h=>by cases h⟩);refine⟨by have:=h1.s0;have:=h2.s0;omega,by have:=h1.l0;have:=h2.l0;omega,by have:=h1.d0;omega,?_,q⟩;intro e r he;unfold tQ at he;cases es with
 |nil =>
  cases fs with
  |nil=>simp[fR]at he
  |cons f fs =>
   rw[BF]at g;simp only[BX,fT,zG,fR,qW]at he;obtain⟨a,b⟩:=h2.fst f fs rfl;rw[<-he.1];exact⟨by show f.2.1+0=1;omega,by show f.2.2+j=1;omega⟩
 |cons x es =>
  obtain⟨a,b⟩:=h1.fst x es rfl;cases fs with
  |nil =>
   rw[BF]at N;simp only[BX,fT,Nat.add_zero,fR,qW]at he;rw[<-he.1];exact⟨by show x.2.1+0=1;omega,by show x.2.2+s2=1;omega⟩
  |cons f fs =>
   obtain⟨k,i⟩:=h2.fst f fs rfl;have d:(x::es).length+(f::fs).length=(es.length+(f::fs).length)+1:=by simp only[fT];omega
   rw[d]at he;simp only[fR]at he;split at he
   ·simp only[qW]at he;rw[<-he.1];exact⟨by show x.2.1+0=1;omega,by show x.2.2+(f.2.2-1)=1;omega⟩
   ·simp only[qW]at he;rw[<-he.1];exact⟨by show f.2.1+0=1;omega,by show f.2.2+(x.2.2-1)=1;omega⟩
noncomputable def qF(l:a8)(k y:E):bt:=decide (y.1=k.1)||decide (y.2.2<=k.2.1+l+1)
def pL(l:a8):E->ar E->ar E
 |_,[]=>[]
 |k,x::r=>match r with
  |[]=>[x]
  |y::_=>if qF l k y=a5 then pL l k r else x::pL l x r
def nG(l:a8):ar E->ar E
 |[]=>[]
 |e::r=>e::pL l e r
theorem GJ(l:a8)(k x y:E)(r:ar E):pL l k (x::y::r)=if qF l k y=a5 then pL l k (y::r)else x::pL l x (y::r):=rfl
theorem DH(l:a8)(k y:E):qF l k y=a5<->(y.1=k.1\/y.2.2<=k.2.1+l+1):=by simp[qF]
theorem Jr{l0 l s:a8}(i:l0<=l):∀(xs:ar E) (k:E) (j N B:a8),Ch l0 s N B (aq j) xs->k.1<=j->k.2.1<=N->k.2.2<=B->(xs=[]->k.2.1=N/\k.2.2=B)->(∀x r,xs=x::r->qF l k x=a5)->Ch l s k.2.1 k.2.2 (aq k.1) (pL l k xs)
 |[],k,j,N,B,h,_,_,_,he,_=>by
  obtain⟨a,b⟩:=he rfl;exact⟨a.trans h.1,b.trans h.2⟩
 |[x],k,j,N,B,h,h1,h2,t,_,hn=>by
  obtain⟨g,A,w,v,f,u,U⟩:=h;have n:=(DH l k x).mp (hn x [] rfl);have:=g j rfl;refine⟨λp d=>(by cases d;omega),?_,by omega,by omega,f,by omega,U⟩
  rcases n with n|n
  ·left;rw[n]
  ·right;exact n
 |x::y::r,k,j,N,B,h,h1,h2,t,_,hn=>by
  obtain⟨g,A,w,v,f,u,U⟩:=h;have C:=g j rfl;rw[GJ]
  by_cases c:qF l k y=a5
  ·rw[bb c];exact Jr i (y::r) k x.1 x.2.1 x.2.2 U (by omega) (by omega) (by omega) (λe=>by cases e) (λm o e=>by cases e;exact c)
  ·rw[bc c];have n:=(DH l k x).mp (hn x _ rfl);have q:=Jr i (y::r) x x.1 x.2.1 x.2.2 U yK yK yK (λe=>by cases e) (λm o e=>by
    cases e;rw[DH]
    rcases U.2.1 with z|z
    ·left;exact(kJ z).symm
    ·right;omega)
   refine⟨λp d=>(by cases d;omega),?_,by omega,by omega,f,by omega,q⟩
   rcases n with n|n
   ·left;rw[n]
   ·right;exact n
theorem awU{s l d B:a8}{es:ar E}(h:GF s l d es)(hl:l<=B):GF s B (d+1) (nG B es):=by
 refine⟨h.s0,by have:=h.l0;omega,by have:=h.d0;omega,?_,?_⟩
 ·intro e r he;cases es with
  |nil=>cases he
  |cons x q =>
   simp only[nG,qW]at he;rw[<-he.1];exact h.fst x q rfl
 ·cases es with
  |nil=>exact h.ch
  |cons x q =>
   obtain⟨c,j,b,a,U,f,N⟩:=h.ch;refine⟨c,?_,b,a,U,by omega,Jr hl q x x.1 x.2.1 x.2.2 N yK yK yK (λ_=>⟨rfl,rfl⟩) (λy r e=>?_)⟩
   ·rcases j with j|j
    ·cases j
    ·right;omega
   ·subst e;rw[DH]
    rcases N.2.1 with z|z
    ·left;exact(kJ z).symm
    ·right;omega
theorem SE(l:a8):∀(xs:ar E) (k c:E),c∈pL l k xs->c∈xs
 |[],_,_,h=>by cases h
 |[x],_,_,h=>h
 |x::y::r,k,c,h=>by
  rw[GJ]at h;split at h
  ·exact fS _ (SE l (y::r) k c h)
  ·rcases dU.mp h with z|z
   ·rw[z];exact List.mem_cons_self ..
   ·exact fS _ (SE l (y::r) x c z)
theorem OR{l s:a8}:∀(xs:ar E) (lo j:a8) (q:ax a8),Ch l s lo j q xs->∀c∈xs,j<c.2.2/\lo<c.2.1/\c.2.2-c.2.1<=l/\c.2.1<=s/\c.2.2<=s
 |[],_,_,_,_,c,h=>by cases h
 |x::r,lo,j,q,h,c,N=>by
  obtain⟨n,m,f,e,k,d,B⟩:=h
  rcases dU.mp N with z|z
  ·subst z;have:=B.bound;exact⟨e,f,d,this.1,this.2⟩
  ·obtain⟨i,g,b,a,U⟩:=OR r _ _ _ B c z;exact⟨by omega,by omega,b,a,U⟩
def Ni(st:a8):E->ar E->Prop
 |_,[]=>True
 |k,b::r=>(∀c j,r=c::j->k.2.1+st+2<=c.2.1)/\Ni st b r
theorem Fl{l0 st s:a8}:∀(xs:ar E) (k:E) (lo N:a8) (B:ax a8),Ch l0 s lo N B xs->Ni st k (pL (l0+st) k xs)
 |[],_,_,_,_,_=>trivial
 |[x],_,_,_,_,_=>⟨λc a e=>(by cases e),trivial⟩
 |x::y::r,k,lo,N,B,h=>by
  obtain⟨o,n,m,l,i,g,j⟩:=h;rw[GJ]
  by_cases q:qF (l0+st) k y=a5
  ·rw[bb q];exact Fl (y::r) k _ _ _ j
  ·rw[bc q];refine⟨λc a e=>?_,Fl (y::r) x _ _ _ j⟩;have U:c∈y::r:=SE _ (y::r) x c (by rw[e];exact List.mem_cons_self ..);have hm:=OR _ _ _ _ j c U;have f:y.2.2<=c.2.2:=by
    rcases dU.mp U with z|z
    ·rw[z];exact mK _
    ·obtain⟨_,_,_,_,_,_,b⟩:=j;have:=(OR _ _ _ _ b c z).1;omega
   have hn:¬(y.1=k.1\/y.2.2<=k.2.1+(l0+st)+1):=λz=>q ((DH _ _ _).mpr z);have d:¬y.2.2<=k.2.1+(l0+st)+1:=λz=>hn (.inr z);omega
theorem Xi{st s:a8}:∀(m:a9) (k:E) (ab:ar E),Ni st k ab->(∀c∈k::ab,c.2.1<=s)->2*m<=ab.length->k.2.1+m*(st+2)<=s
 |0,k,ab,_,h,_=>by have:=h k mB;simpa using this
 |m+1,k,ab,j,h,hl=>by
  match ab,j,hl with
  |[],_,hl=>simp at hl
  |[b],_,hl=>simp at hl;omega
  |b::c::r,j,hl =>
   obtain⟨N,B⟩:=j;have e:=N c r rfl;have q:=Xi m c r B.2 (λz U=>h z (fS _ (fS _ U))) (by simp at hl;omega);have:((m+1:a9):a8)*(st+2)=(m:a8)*(st+2)+(st+2):=by rw[Int.natCast_add,Int.add_mul];simp
   rw[this];omega
theorem ag9{s l d:a8}{es:ar E}(h:GF s l d es)(keep:a9)(e:1<=keep):(nG (l+s/keep) es).length<=2*keep:=by
 cases es with
 |nil=>simp[nG]
 |cons x j =>
  obtain⟨p,o,n,m,k,i,B⟩:=h.ch;have b:=(h.fst x j rfl).1
  by_cases N:(nG (l+s/keep) (x::j)).length<=2*keep
  ·exact N
  ·exfalso;have hlen:2*keep<=(pL (l+s/keep) x j).length:=by simp only[nG,fT]at N;omega
   have q:=Xi keep x _ (Fl j x _ _ _ B) (λc U=>by
    rcases dU.mp U with z|z
    ·rw[z];exact B.bound.1
    ·exact(OR _ _ _ _ B c (SE _ _ _ _ z)).2.2.2.1) hlen
   have g:=Int.mul_ediv_add_emod s keep;have f:=QI s (show(0:a8)<keep by omega);have a:(keep:a8)*(s/keep+2)=keep*(s/keep)+2*keep:=by rw[YJ];omega
   rw[a]at q;omega
theorem aB6(l:a8)(k y:E)(Z:aG):QS [cM k,cM y,.int l] Z=aE (.bl (qF l k y)) Z:=by
 by_cases h:y.1=k.1
 ·simp[QS,Kd,cM,h,qF]
 ·simp[QS,Kd,cM,h,qF]
theorem Jf(es:ar E)(e:E):encL es++[cM e]=encL (es++[e]):=by simp[encL]
theorem Jg(e:E)(es:ar E):encL (e::es)=cM e::encL es:=rfl
theorem UP(ok:aG->Prop)(aJ:∀Z,ok Z)(es:ar E)(l:a8)(Z:aG)(hz:es.length<=100000):∀(xs:ar E) (pre ae:ar E) (k:E) (a e:ax A),es=pre++xs->1<=pre.length->ae.length<=pre.length->∃B j,
  eZ ok (iM 2 (dH (gN 4) (dH (gN 5) jA))) BQ (pT pre.length (encL xs)) [cL (encL es),aA l,aD Z.length,aA ((es.length:a8)-1),a,e] (Z++[.lst (encL (ae++[k]))]) =
   aq (.nx,[cL (encL es),aA l,aD Z.length,aA ((es.length:a8)-1),B,j],Z++[.lst (encL (ae++[k]++pL l k xs))])
 | [],pre,ae,k,a,e,_,_,_=>⟨a,e,by
   show eZ _ _ _ [] _ _=_;rw[EI (aJ _)];simp[pL]⟩
 |x::r,pre,ae,k,a,e,he,m,n=>by
  have hL:∀ds,fV (Z++[.lst ds]) (.aH Z.length)=aq ds:=λds=>yH (by simp);have d:∀ds,yJ (Z++[.lst ds]) (.aH Z.length):=λds=>DN (hL ds);have f:∀ds,rR (Z++[.lst ds]) (.aH Z.length)=aq (Z.length,ds):=λds=>ER (by simp);have hlen:es.length=pre.length+(r.length+1):=by rw[he];simp
  have h:ae.length+1<bg:=by rw[oS];omega
  have b:((pre.length:a8)==0)=aw:=by simp;intro z;simp[z]at m
  have g:eO (encL (ae++[k])) (-1)=aq (cM k):=by rw[<-Jf];exact L2.aA8 _ _
  have keep:∀(i:ax A),BQ [cL (encL es),aA l,aD Z.length,aA ((es.length:a8)-1),aA (pre.length:a8),aq (cM x)] (Z++[.lst (encL (ae++[k]))]) =
    aq (.nx,[cL (encL es),aA l,aD Z.length,aA ((es.length:a8)-1),aA (pre.length:a8),aq (cM x)],Z++[.lst (encL (ae++[k]++(match r with
     |[]=>[x]
     | y::_=>if qF l k y=a5 then []else [x])))]):=by
   intro _;cases r with
   |nil =>
    have N:((pre.length:a8)==(es.length:a8)-1)=a5:=by simp at hlen ⊢;omega
    simp[BQ,-beq_iff_eq,-eh,b,N,d,f,h];rw[Jf];simp
   |cons y r =>
    have N:((pre.length:a8)==(es.length:a8)-1)=aw:=by simp at hlen ⊢;omega
    have c:eO (encL es) ((pre.length:a8)+1)=aq (cM y):=by
     rw[show((pre.length:a8)+1)=((pre.length+1:a9):a8)by omega,rS,sT,he];simp
    have q:=λZ=>aB6 l k y Z;cases hb:qF l k y with
    |true =>
     rw[hb]at q;simp[BQ,-beq_iff_eq,-eh,b,N,hL,g,c,q,hb]
    |false =>
     rw[hb]at q;simp[BQ,-beq_iff_eq,-eh,b,N,hL,g,c,q,d,f,h,hb];rw[Jf];simp
  have U:(pre++[x]).length=pre.length+1:=by simp
  rw[Jg,pT];cases r with
  |nil =>
   obtain⟨B,j,ih⟩:=UP ok aJ es l Z hz [] (pre++[x]) (ae++[k]) x (aA (pre.length:a8)) (aq (cM x)) (by rw[he];simp) (by simp) (by simp;omega);rw[U]at ih;refine⟨B,j,?_⟩;rw[rP (aJ _) (by simp) (keep av),ih];simp[pL]
  |cons y r =>
   cases hb:qF l k y with
   |true =>
    obtain⟨B,j,ih⟩:=UP ok aJ es l Z hz (y::r) (pre++[x]) ae k (aA (pre.length:a8)) (aq (cM x)) (by rw[he];simp) (by simp) (by simp;omega);rw[U]at ih;refine⟨B,j,?_⟩;rw[rP (aJ _) (by simp) (keep av)];simp only[hb,gT,tG];rw[ih,GJ,bb hb]
   |false =>
    obtain⟨B,j,ih⟩:=UP ok aJ es l Z hz (y::r) (pre++[x]) (ae++[k]) x (aA (pre.length:a8)) (aq (cM x)) (by rw[he];simp) (by simp) (by simp;omega);rw[U]at ih;refine⟨B,j,?_⟩;rw[rP (aJ _) (by simp) (keep av)];simp only[hb,kB,gU];rw[ih,GJ,bc (by rw[hb];simp)];simp
theorem aCB(es:ar E)(l:a8)(Z:aG)(hz:es.length<=100000):QU [.lst (encL es),.int l] Z=aE (.lst (encL (nG l es))) Z:=by
 have z:∀ds,yJ (Z++[.lst ds]) (.aH Z.length):=λds=>DN (yH (ds:=ds) (by simp));have B:∀ds,rR (Z++[.lst ds]) (.aH Z.length)=aq (Z.length,ds):=λds=>ER (by simp);have N:(0:a9)<bg:=by decide
 cases es with
 |nil =>
  simp[QU,Kg,enumSrc,encL,pT,eZ,nG];exact xW (by simp[Cl,fO])
 |cons x j =>
  obtain⟨a,U,q⟩:=UP (λ_=>True) (λ_=>trivial) (x::j) l Z hz j [x] [] x (aA 0) (aq (cM x)) rfl (by simp) (by simp);have f:eZ (λ_=>True) (iM 2 (dH (gN 4) (dH (gN 5) jA))) BQ (pT 0 (encL (x::j))) [cL (encL (x::j)),aA l,aD Z.length,aA (((x::j).length:a8)-1),av,av] (Z++[.lst []]) =
   aq (.nx,[cL (encL (x::j)),aA l,aD Z.length,aA (((x::j).length:a8)-1),a,U],Z++[.lst (encL (nG l (x::j)))]):=by
   rw[Jg,pT,rP trivial (Y0:=[cL (encL (x::j)),aA l,aD Z.length,aA (((x::j).length:a8)-1),aA 0,aq (cM x)]) (Z0:=Z++[.lst []]) (by simp[Jg])
    (Y1:=[cL (encL (x::j)),aA l,aD Z.length,aA (((x::j).length:a8)-1),aA 0,aq (cM x)]) (Z1:=Z++[.lst (encL ([]++[x]))]) (by simp[BQ,z,B,N,encL])]
   exact q
  have hn:(((x::j).length:a8)-1)=(j.length:a8):=by simp
  rw[hn]at f;simp[QU,Kg,enumSrc,f];exact xW (by simp[Cl,YZ])
theorem aBX(s l d:a8)(es:ar E)(keep:a8)(Z:aG)(B:1<=keep)(N:keep<1000000)(hz:es.length<=100000):QO [eK s l d es,.int keep] Z=aE (eK s (l+s/keep) (d+1) (nG (l+s/keep) es)) Z:=by
 have q:=λl Z=>aCB es l Z hz;have z:(4:a9)<=bg:=by decide
 have hd:∀j,rB j keep:=λj=>⟨by omega,by omega⟩
 simp[QO,acI,eK,q,z,hd]
theorem awV{s l d:a8}{es:ar E}(h:GF s l d es):(s=0<->es=[]):=by
 cases es with
 |nil=>exact⟨λ_=>rfl,λ_=>h.ch.1.symm⟩
 |cons e r =>
  obtain⟨_,_,q,_,_,_,j⟩:=h.ch;have:=j.bound;exact⟨λz=>by omega,λz=>by cases z⟩
theorem ab3{l s:a8}:∀(es:ar E) (lo N:a8) (B:ax a8) (i:a9) (e:E),Ch l s lo N B es->es[i]?=aq e->e.2.1<=e.2.2/\e.2.2-e.2.1<=l/\(i+1=es.length->e.2.1=s/\e.2.2=s)/\∀f,es[i+1]?=aq f->e.1<=f.1/\e.2.1<f.2.1/\e.2.2<f.2.2/\qF l e f=a5
 |[],_,_,_,_,_,_,h=>by simp at h
 |x::r,lo,N,B,0,e,h,he=>by
  obtain⟨v,u,t,p,a,U,q⟩:=h;simp at he;subst he;refine⟨a,U,λhl=>?_,λf j=>?_⟩
  ·have:r=[]:=xE (by simp only[fT]at hl;omega);subst this;exact q
  ·cases r with
   |nil=>simp at j
   |cons y r =>
    simp at j;subst j;obtain⟨o,n,m,k,_⟩:=q;refine⟨o _ rfl,m,k,?_⟩;rw[DH]
    rcases n with z|z
    ·left;exact(kJ z).symm
    ·right;exact z
 |x::r,lo,N,B,i+1,e,h,he=>by
  obtain⟨v,u,t,p,a,U,q⟩:=h;simp at he;obtain⟨g,d,c,b⟩:=ab3 r _ _ _ i e q he;exact⟨g,d,λhl=>c (by simp only[fT]at hl;omega),λf j=>b f (by simpa using j)⟩
structure Po where
 s:a8
 l:a8
 d:a8
 es:ar E
def bX(p:Po):A:=eK p.s p.l p.d p.es
theorem apR(s t:a8):∀(n:a9) (e7 dA:a8) (es fs:ar E),n=es.length+fs.length->(fR s t n e7 dA es fs).length=n:=by
 intro n
 induction n with
 |zero=>intro e7 dA es fs _;rfl
 |succ n ih =>
  intro e7 dA es fs h;cases es with
  |nil =>
   cases fs with
   |nil=>simp at h
   |cons f fs=>simp only[fR,fT];rw[ih _ _ _ _ (by simp at h ⊢;omega)]
  |cons e es =>
   cases fs with
   |nil=>simp only[fR,fT];rw[ih _ _ _ _ (by simp at h ⊢;omega)]
   |cons f fs =>
    simp only[fR];split
    ·simp only[fT];rw[ih _ _ _ _ (by simp at h ⊢;omega)]
    ·simp only[fT];rw[ih _ _ _ _ (by simp at h ⊢;omega)]
def sJ(p q:Po):Po:=⟨p.s+q.s,p.l+q.l,max p.d q.d,tQ p.s q.s p.es q.es⟩
def Rp(keep:a8)(p:Po):Po:=⟨p.s,p.l+p.s/keep,p.d+1,nG (p.l+p.s/keep) p.es⟩
end M
namespace V2
open PySem L2
theorem Iz{ok:aG->Prop}{g:A->MS}{c:Ev->Mo bt}{e:Ev->Mo A}(F:A->ax A)(P:Ev->Prop)(Z0:aG)(aJ:∀ys,ok (Z0++[.lst ys])):∀(xs:ar A) (Y:Ev) (ae:ar A),P Y->ae.length+xs.length<=1000000 ->
  (∀x∈xs,∀Y,P Y->∀ys,∃Y1,P Y1/\g x Y (Z0++[.lst ys])=aq (.nx,Y1,Z0++[.lst ys])/\((∃y,F x=aq y/\c Y1 (Z0++[.lst ys])=aq (.ok a5,Z0++[.lst ys])/\e Y1 (Z0++[.lst ys])=aq (.ok y,Z0++[.lst ys]))\/(F x=av/\c Y1 (Z0++[.lst ys])=aq (.ok aw,Z0++[.lst ys])))) ->
  ∃Y',qP ok g c e Z0.length xs Y (Z0++[.lst ae])=aq (Y',Z0++[.lst (ae++xs.filterMap F)])
 |[],Y,ae,_,_,_=>⟨Y,by simp[qP,aJ]⟩
 |x::xs,Y,ae,b,hl,turn=>by
  simp only[fT]at hl;obtain⟨Y1,j,U,q⟩:=turn x mB Y b ae;have a:ae.length<bg:=by rw[oS];omega
  rcases q with⟨y,B,N,d⟩|⟨B,N⟩
  ·obtain⟨Y',ih⟩:=Iz F P Z0 aJ xs Y1 (ae++[y]) j (by simp;omega) λx z=>turn x (fS _ z);exact⟨Y',by simp[qP,aJ,U,N,d,a,ih,B]⟩
  ·obtain⟨Y',ih⟩:=Iz F P Z0 aJ xs Y1 ae j (by omega) λx z=>turn x (fS _ z);exact⟨Y',by simp[qP,aJ,U,N,ih,B]⟩
theorem ZW{n:a9}{js:ar a9}{fi:Ev->Mo Src}{g:A->MS}{c:Ev->Mo bt}{e:Ev->Mo A}{Y:Ev}{Z Z0:aG}{S:Src}(F:A->ax A)(P:Ev->Prop)(j:fi Y Z=aq (.ok S,Z0))(aJ:∀ys,S.ok (Z0++[.lst ys]))(N:P (vD n js Y))(hl:S.ds.length<=1000000)
  (turn:∀x∈S.ds,∀Y,P Y->∀ys,∃Y1,P Y1/\g x Y (Z0++[.lst ys])=aq (.nx,Y1,Z0++[.lst ys])/\((∃y,F x=aq y/\c Y1 (Z0++[.lst ys])=aq (.ok a5,Z0++[.lst ys])/\e Y1 (Z0++[.lst ys])=aq (.ok y,Z0++[.lst ys]))\/(F x=av/\c Y1 (Z0++[.lst ys])=aq (.ok aw,Z0++[.lst ys]))))
  (B:fO Z0.length (S.ds.filterMap F)):mR aw n js fi g c e Y Z=aq (.ok (.lst (S.ds.filterMap F)),Z0):=by
 obtain⟨z,q⟩:=Iz F P Z0 aJ S.ds (vD n js Y) [] N (by simpa using hl) turn;simp[mR,mb,j,q,Fb,B]
theorem aw6{a b c:A}{Z:aG}(ha:res Z 6 a=aq c)(hb:res Z 6 b=aq c)(j:eE 8 c=a5):qN a b Z=aq (.ok (.bl aw),Z):=by
 simp[qN,yX,ha,hb,j,abC 8 c j]
theorem aw5{a:A}{Z:aG}(h:eE 8 a=a5):qN a a Z=aq (.ok (.bl aw),Z):=aw6 (CV h) (CV h) h
theorem De{f:Ev->Mo (ar A)}{Y:Ev}{Z Z':aG}{j:a8}(h:f Y Z=aq (.ok [.int j],Z'))(q:AE j):zY f Y Z=aq (.ok (yB 0 j.toNat),Z'):=by
 unfold zY;rw[dF h];show mb (pU (AE j)) _ Z'=_;rw[ap2 _ q];rfl
theorem uA{fi:Ev->Mo Src}{g:A->MS}{b:MS}{Y:Ev}{Z Z':aG}{S:Src}(h:fi Y Z=aq (.ok S,Z')):jR fi g b Y Z=eZ S.ok g b S.ds Y Z':=by
 unfold jR;rw[fQ h]
theorem wY{n:a9}:∀{as:ar A},(∀a∈as,Cl n a)->fO n as
 |[],_=>by simp only[fO]
 |a::as,h=>by simp only[fO];exact⟨h a mB,wY λb hb=>h b (fS _ hb)⟩
end V2
namespace M
open PySem L2 V2
abbrev Rn:=a8×a8
noncomputable def jV(r:Rn):A:=.tup [.int r.1,.int r.2]
def aN(rs:ar Rn):ar A:=rs.map jV
theorem clT(n:a9)(r:Rn):Cl n (jV r):=by simp[jV,Cl,fO]
theorem abU(n:a9)(rs:ar Rn):fO n (aN rs):=wY λa h=>by
 obtain⟨r,_,rfl⟩:=kW.mp h;exact clT n r
theorem alV(rs:ar Rn):eE 8 (.lst (aN rs))=a5:=by
 simp[eE,aN,jV]
noncomputable def dE(rs:ar Rn)(n:a8):a8:=(rs.map λr=>if r.1<n then r.2 else 0).sum
noncomputable def dI(rs:ar Rn)(n:a8):a8:=(rs.map λr=>if r.1<=n then r.2 else 0).sum
noncomputable def iT(rs:ar Rn)(n:a8):a8:=(rs.map λr=>if r.1=n then r.2 else 0).sum
noncomputable def whole(rs:ar Rn):a8:=(rs.map (·.2)).sum
noncomputable def iE(j:ar a8)(f:a8->a8):ar (Key×A):=j.map λk=>(.inl k,.int (f k))
theorem Qs(j:ar a8)(f:a8->a8)(n:a8):gZ (iE j f) (.inl n)=if n∈j then(aA (f n))else av:=by
 induction j with
 |nil=>rfl
 |cons k j ih =>
  simp only[gZ,iE,cP,FH]at ih ⊢
  by_cases e:k=n
  ·subst e;simp
  ·have:(Sum.inl k:Key)≠Sum.inl n:=λz=>e (Sum.inl.inj z);simp only[this,IL];rw[ih];have q:¬n=k:=λz=>e z.symm;simp[q]
theorem aBF(j:ar a8)(f:a8->a8)(n:a8):((iE j f).any λq=>decide (q.1=(Sum.inl n:Key)))=decide (n∈j):=by
 induction j with
 |nil=>rfl
 |cons k j ih =>
  simp only[iE,cP,Nd]at ih ⊢;rw[ih]
  by_cases e:k=n
  ·subst e;simp
  ·have h1:(Sum.inl k:Key)≠Sum.inl n:=λz=>e (Sum.inl.inj z);have B:¬n=k:=λz=>e z.symm;simp[h1,B]
noncomputable def qR(j:ar a8)(n:a8):ar a8:=if n∈j then j else j++[n]
theorem alS(j:ar a8)(f g:a8->a8)(n:a8)(B:∀k∈j,k≠n->g k=f k):lY (iE j f) (.inl n) (.int (g n))=iE (qR j n) g:=by
 unfold lY qR;rw[aBF]
 by_cases h:n∈j
 ·simp only[h,OM,gT];simp only[iE,zL];refine JQ λk q=>?_
  by_cases e:k=n
  ·subst e;simp
  ·have h1:(Sum.inl k:Key)≠Sum.inl n:=λz=>e (Sum.inl.inj z);simp[h1,B k q e]
 ·simp only[h,IL,gU];simp only[iE,xD,cP,uI];rw[JQ (g:=λk=>((Sum.inl k:Key),A.int (g k))) λk q=>by rw[B k q (λz=>h (z ▸ q))]];simp
def pQ(j:ar a8)(rs:ar Rn):ar a8:=rs.foldl (λj r=>qR j r.1) j
theorem aBN{j:ar a8}{n:a8}(h:j.Nodup):(qR j n).Nodup:=by
 unfold qR;split
 ·exact h
 ·rename_i hn;rw[YE];refine⟨h,by simp,λa ha b hb e=>?_⟩;simp only[mJ]at hb;exact hn (hb ▸ e ▸ ha)
theorem Wk{j:ar a8}{n k:a8}:k∈qR j n<->k∈j\/k=n:=by
 unfold qR;split
 ·rename_i h;exact⟨.inl,λz=>z.elim id λe=>e ▸ h⟩
 ·simp
theorem Xc(j:ar a8)(n:a8):(qR j n).length<=j.length+1:=by unfold qR;split <;> simp
theorem Xg:∀(rs:ar Rn) {j:ar a8},j.Nodup->(pQ j rs).Nodup
 |[],_,h=>h
 |r::rs,_,h=>Xg rs (aBN h)
theorem Wj:∀(rs:ar Rn) {j:ar a8} {k:a8},k∈pQ j rs<->k∈j\/∃r∈rs,r.1=k
 |[],j,k=>by simp[pQ]
 |r::rs,j,k=>by
  show k∈pQ (qR j r.1) rs<->_;rw[Wj rs,Wk];simp only[dU,exists_eq_or_imp];constructor
  ·rintro((h|h)|h)
   ·exact .inl h
   ·exact .inr (.inl h.symm)
   ·exact .inr (.inr h)
  ·rintro(h|h|h)
   ·exact .inl (.inl h)
   ·exact .inl (.inr h.symm)
   ·exact .inr h
theorem Ez:∀(rs:ar Rn) (j:ar a8),(pQ j rs).length<=j.length+rs.length
 |[],j=>by simp[pQ]
 |r::rs,j=>by
  have h1:=Ez rs (qR j r.1);have h2:=Xc j r.1;show(pQ (qR j r.1) rs).length<=_;simp only[fT];omega
theorem uZ(r:Rn)(rs:ar Rn)(x:a8):dE (r::rs) x=(if r.1<x then r.2 else 0)+dE rs x/\dI (r::rs) x=(if r.1<=x then r.2 else 0)+dI rs x:=⟨rfl,rfl⟩
theorem Ae(R S:ar Rn)(x:a8):dE (R++S) x=dE R x+dE S x:=by simp[dE]
theorem Ad(R S:ar Rn)(x:a8):dI (R++S) x=dI R x+dI S x:=by simp[dI]
theorem uQ(R S:ar Rn):whole (R++S)=whole R+whole S:=by simp[whole]
def Tn(R:ar Rn):Prop:=∀r∈R,0<=r.2
theorem Tn.tail{r:Rn}{R:ar Rn}(h:Tn (r::R)):Tn R:=λq j=>h q (fS _ j)
theorem Tn.head{r:Rn}{R:ar Rn}(h:Tn (r::R)):0<=r.2:=h r mB
theorem Tn.app{R S:ar Rn}(h:Tn R)(k:Tn S):Tn (R++S):=λq j=>(lP.mp j).elim (h q) (k q)
theorem CP:∀{R:ar Rn},Tn R->∀x,0<=dE R x
 |[],_,_=>by simp[dE]
 |r::R,h,x=>by
  rw[(uZ r R x).1];have:=CP h.tail x;have:=h.head;split <;> omega
theorem GG:∀{R:ar Rn},Tn R->∀{x y:a8},x<=y->dE R x<=dE R y
 |[],_,_,_,_=>by simp[dE]
 |r::R,h,x,y,l=>by
  rw[(uZ r R x).1,(uZ r R y).1];have:=GG h.tail l;have:=h.head;split <;> split <;> omega
theorem GD:∀{R:ar Rn},Tn R->∀{x y:a8},x<=y->dI R x<=dI R y
 |[],_,_,_,_=>by simp[dI]
 |r::R,h,x,y,l=>by
  rw[(uZ r R x).2,(uZ r R y).2];have:=GD h.tail l;have:=h.head;split <;> split <;> omega
theorem CO:∀{R:ar Rn},Tn R->∀{x y:a8},x<y->dI R x<=dE R y
 |[],_,_,_,_=>by simp[dI,dE]
 |r::R,h,x,y,l=>by
  rw[(uZ r R x).2,(uZ r R y).1];have:=CO h.tail l;have:=h.head;split <;> split <;> omega
theorem wG:∀{R:ar Rn},Tn R->∀(x:a8),dE R x<=dI R x
 |[],_,_=>by simp[dI,dE]
 |r::R,h,x=>by
  rw[(uZ r R x).2,(uZ r R x).1];have:=wG h.tail x;have:=h.head;split <;> split <;> omega
theorem LL:∀{R:ar Rn},Tn R->∀(x:a8),dI R x<=whole R
 |[],_,_=>by simp[dI,whole]
 |r::R,h,x=>by
  rw[(uZ r R x).2];have e:whole (r::R)=r.2+whole R:=by simp[whole]
  have:=LL h.tail x;have:=h.head;rw[e];split <;> omega
def Pl(R:ar Rn):a8->ar E->Prop
 |_,[]=>True
 |z,e::r=>∃p,z<p/\dE R e.1<p/\p<=dI R e.1/\e.2.1<=p/\p<=e.2.2/\Pl R p r
theorem Pl.low{R:ar Rn}{z j:a8}:∀{es:ar E},Pl R z es->j<=z->Pl R j es
 |[],_,_=>trivial
 |_::_,⟨p,h,q⟩,l=>⟨p,by omega,q⟩
theorem Pl.sub{R:ar Rn}:∀{es fs:ar E} {z:a8},es.Sublist fs->Pl R z fs->Pl R z es
 |_,_,_,.slnil,_=>trivial
 |_,_,_,.cons a s,⟨p,h,q⟩=>Pl.sub s (q.2.2.2.2.low (by omega))
 |_,_,_,.cons_cons a s,⟨p,h,b,U,N,B,j⟩=>⟨p,h,b,U,N,B,Pl.sub s j⟩
theorem Ak(l:a8):∀(xs:ar E) (k:E),(pL l k xs).Sublist xs
 |[],k=>by simp[pL]
 |[x],k=>by simp[pL]
 |x::y::r,k=>by
  rw[GJ];split
  ·exact .cons _ (Ak l (y::r) k)
  ·exact .cons_cons _ (Ak l (y::r) x)
theorem ag8(l:a8)(es:ar E):(nG l es).Sublist es:=by
 cases es with
 |nil=>simp[nG]
 |cons x j=>exact .cons_cons _ (Ak l j x)
theorem Pl.nG{R:ar Rn}{es:ar E}(l:a8)(h:Pl R 0 es):Pl R 0 (M.nG l es):=h.sub (ag8 l es)
def vS(es:ar E):Prop:=es.Pairwise λa b=>a.1<=b.1
theorem vS.tail{e:E}{es:ar E}(h:vS (e::es)):vS es:=(BW.mp h).2
theorem vS.next{e f:E}{es:ar E}(h:vS (e::f::es)):e.1<=f.1:=(BW.mp h).1 f mB
theorem amJ{R S:ar Rn}(hR:Tn R)(hS:Tn S){s t:a8}(G:s=whole R)(F:t=whole S):∀(n:a9) (es fs:ar E) (e7 dA z j Ω:a8),n=es.length+fs.length->vS es->vS fs->Pl R z es->Pl S j fs->e7<=z->dA<=j ->
  (∀f r,fs=f::r->z<=dI R f.1)->(∀e r,es=e::r->j<=dE S e.1) ->
  (∀e r,es=e::r->∀p,z<p->dE R e.1<p->Ω<p+dE S e.1)->(∀f r,fs=f::r->∀q,j<q->dE S f.1<q->Ω<q+dI R f.1) ->
  Pl (R++S) Ω (fR s t n e7 dA es fs):=by
 intro n
 induction n with
 |zero=>intro es fs e7 dA z j Ω _ _ _ _ _ _ _ _ _ _ _;exact trivial
 |succ n ih =>
  intro es fs e7 dA z j Ω hn c b h1 h2 K L2 M L I H;have C:∀e dY,es=e::dY->(∀f r,fs=f::r->e.1<=f.1)->∀hi,(∀x,x<=e.1->dE S x<=hi)->Pl (R++S) Ω ((e.1,e.2.1+dA,e.2.2+hi)::fR s t n e.2.1 dA dY fs):=by
   rintro e dY rfl i hi v;obtain⟨p,a,U,u,N,o,B⟩:=h1;have V:=L e _ rfl;have m:=I e _ rfl p a U;have T:=v e.1 yK;refine⟨p+dE S e.1,m,?_,?_,?_,?_,?_⟩
   ·rw[Ae];show dE R e.1+dE S e.1<_;omega
   ·rw[Ad];show _<=dI R e.1+dI S e.1;have:=wG hS e.1;omega
   ·show e.2.1+dA<=_;omega
   ·show _<=e.2.2+hi;omega
   ·refine ih dY fs e.2.1 dA p j (p+dE S e.1) (by simp at hn;omega) c.tail b B h2 N L2 ?_ ?_ ?_ ?_
    ·intro f r he;have:=GD hR (i f r he);omega
    ·rintro y r rfl;have:=GG hS c.next;omega
    ·rintro y r rfl Q l k;have:=GG hS c.next;omega
    ·intro f r he q l k;have:=GD hR (i f r he);have:=GG hS (i f r he);omega
  have A:∀f d,fs=f::d->(∀e r,es=e::r->f.1<e.1)->∀hi,(dI R f.1<=hi)->Pl (R++S) Ω ((f.1,f.2.1+e7,f.2.2+hi)::fR s t n e7 f.2.1 es d):=by
   rintro f d rfl he hi v;obtain⟨q,a,U,u,N,o,B⟩:=h2;have W:=M f _ rfl;have m:=H f _ rfl q a U;refine⟨q+dI R f.1,m,?_,?_,?_,?_,?_⟩
   ·rw[Ae];show dE R f.1+dE S f.1<_;have:=wG hR f.1;omega
   ·rw[Ad];show _<=dI R f.1+dI S f.1;omega
   ·show f.2.1+e7<=_;omega
   ·show _<=f.2.2+hi;omega
   ·refine ih es d e7 f.2.1 z q (q+dI R f.1) (by simp at hn;omega) c b.tail h1 B K N ?_ ?_ ?_ ?_
    ·rintro w r rfl;have:=GD hR b.next;omega
    ·intro e r g;have:=CO hS (he e r g);omega
    ·intro e r g p l k;have:=CO hS (he e r g);have:=CO hR (he e r g);omega
    ·rintro w r rfl P l k;have:=GD hR b.next;omega
  cases es with
  |nil =>
   cases fs with
   |nil=>simp at hn
   |cons f fs =>
    simp only[fR];exact A f fs rfl (λe r h=>by cases h) s (by rw[G];exact LL hR _)
  |cons e es =>
   cases fs with
   |nil =>
    simp only[fR];exact C e es rfl (λf r h=>by cases h) t (λx _=>by rw[F];exact zN (wG hS x) (LL hS x))
   |cons f fs =>
    simp only[fR]
    by_cases hle:e.1<=f.1
    ·rw[bb hle];refine C e es rfl (λw r h=>by cases h;exact hle) (f.2.2-1) λx D=>?_;obtain⟨q,a,U,u,N,o,B⟩:=h2;have:=GG hS (zN D hle);omega
    ·rw[bc hle];refine A f fs rfl (λy r h=>by cases h;omega) (e.2.2-1) ?_;obtain⟨p,a,U,u,N,o,B⟩:=h1;have:=CO hR (show f.1<e.1 by omega);omega
theorem Pl.tQ{R S:ar Rn}(hR:Tn R)(hS:Tn S){es fs:ar E}(z:vS es)(j:vS fs)(h1:Pl R 0 es)(h2:Pl S 0 fs):Pl (R++S) 0 (tQ (whole R) (whole S) es fs):=by
 refine amJ hR hS rfl rfl _ es fs 0 0 0 0 0 rfl z j h1 h2 yK yK ?_ ?_ ?_ ?_
 ·intro f r _;exact zN (CP hR f.1) (wG hR f.1)
 ·intro e r _;exact CP hS e.1
 ·intro e r _ p a b;have:=CP hS e.1;omega
 ·intro f r _ q a b;have:=CP hR f.1;have:=wG hR f.1;omega
theorem ab2{l s:a8}:∀{es:ar E} {lo j:a8} {q:ax a8},Ch l s lo j q es->vS es/\∀p,q=aq p->∀e∈es,p<=e.1
 |[],_,_,_,_=>⟨.nil,λ_ _ _ h=>by cases h⟩
 |e::r,lo,j,q,h=>by
  obtain⟨h1,_,_,_,_,_,N⟩:=h;obtain⟨a,b⟩:=ab2 N;refine⟨BW.mpr ⟨λf B=>b e.1 rfl f B,a⟩,λp j f B=>?_⟩
  rcases dU.mp B with z|z
  ·rw[z];exact h1 p j
  ·exact zN (h1 p j) (b e.1 rfl f z)
theorem GF.Vz{s l d:a8}{es:ar E}(h:GF s l d es):vS es:=(ab2 h.ch).1
structure Gd(R:ar Rn)(p:Po):Prop where
 tn:Tn R
 gf:GF p.s p.l p.d p.es
 sz:p.s=whole R
 pl:Pl R 0 p.es
theorem Gd.merge{R S:ar Rn}{p q:Po}(h:Gd R p)(k:Gd S q):Gd (R++S) (sJ p q):=by
 refine⟨h.tn.app k.tn,awW h.gf k.gf,by show p.s+q.s=_;rw[uQ,h.sz,k.sz],?_⟩;show Pl (R++S) 0 (M.tQ p.s q.s p.es q.es);rw[h.sz,k.sz];exact Pl.tQ h.tn k.tn h.gf.Vz k.gf.Vz h.pl k.pl
theorem Gd.nG{R:ar Rn}{p:Po}(h:Gd R p)(keep:a8)(j:1<=keep):Gd R (Rp keep p):=by
 have hd:0<=p.s/keep:=Int.ediv_nonneg h.gf.s0 (by omega);exact⟨h.tn,awU h.gf (show p.l<=p.l+p.s/keep by omega),h.sz,Pl.nG _ h.pl⟩
theorem anU(ok:aG->Prop)(aJ:∀Z,ok Z)(L:A)(Z:aG):∀(rs:ar Rn) (j:ar a8) (f:a8->a8) (x y:ax A),j.length+rs.length<=100000->(∀n,n∉j->f n=0) ->
  ∃N B,eZ ok (iM 2 (dH (gN 2) (dH (gN 3) jA))) WT (aN rs) [aq L,aD Z.length,x,y] (Z++[.bB (iE j f)])
   = eB [aq L,aD Z.length,N,B] (Z++[.bB (iE (pQ j rs) λk=>f k+iT rs k)]):=by
 intro rs
 induction rs with
 |nil =>
  intro j f x y _ _;refine⟨x,y,?_⟩;have e:(λk=>f k+iT [] k)=f:=by funext k;simp[iT]
  simp only[aN,uI,EI (aJ _),pQ,List.foldl_nil,e]
 |cons r rs ih =>
  intro j f x y hl U;simp only[fT]at hl;have i:=Xc j r.1
  let g:a8->a8:=λk=>if k=r.1 then f r.1+r.2 else f k
  obtain⟨N,B,q⟩:=ih (qR j r.1) g (aA r.1) (aA r.2) (by omega) (λn hn=>by
   rw[Wk]at hn;have h1:n∉j:=λz=>hn (.inl z);have h2:¬n=r.1:=λz=>hn (.inr z);simp only[g,h2,gU,U n h1])
  refine⟨N,B,?_⟩;have a:mH (Z++[.bB (iE j f)]) (.aH Z.length)=aq (Z.length,iE j f):=ET (by simp);have hd:Fo (Z++[.bB (iE j f)]) (.aH Z.length):=⟨_,_,a⟩;have hv:(gZ (iE j f) (.inl r.1)).getD (.int 0)=.int (f r.1):=by
   rw[Qs]
   by_cases h:r.1∈j
   ·simp[h]
   ·simp[h,U _ h]
  have c:lY (iE j f) (.inl r.1) (.int (f r.1+r.2))=iE (qR j r.1) g:=by
   have:=alS j f g r.1 λk _ d=>by simp[g,d]
   simpa[g]using this
  have b:(iE j f).length<bg:=by rw[oS];simp[iE];omega
  have st:WT [aq L,aD Z.length,aA r.1,aA r.2] (Z++[.bB (iE j f)])=eB [aq L,aD Z.length,aA r.1,aA r.2] (Z++[.bB (iE (qR j r.1) g)]):=by
   simp[WT,hd,a,mS,hv,b,c]
  show eZ ok _ _ (jV r::aN rs) _ _=_;rw[rP (aJ _) (Y0:=[aq L,aD Z.length,aA r.1,aA r.2]) (Z0:=Z++[.bB (iE j f)]) (by simp[jV]) st,q];have e:(λk=>g k+iT rs k)=λk=>f k+iT (r::rs) k:=by
   funext k;simp only[g,iT,cP,mZ]
   by_cases h:k=r.1
   ·subst h;simp;omega
   ·have h':¬r.1=k:=λz=>h z.symm;simp[h,h']
  rw[e];rfl
def dP(rs:ar Rn):ar Rn:=(sortI (pQ [] rs)).map λk=>(k,iT rs k)
theorem ar0(j:ar a8)(f:a8->a8):intKeys (iE j f)=aq j:=by
 induction j with
 |nil=>rfl
 |cons k j ih =>
  simp only[iE,cP,intKeys]at ih ⊢;rw[ih];rfl
theorem aB2(rs:ar Rn)(hl:rs.length<=3900)(Z:aG):QQ [.lst (aN rs)] Z=aE (.lst (aN (dP rs))) Z:=by
 obtain⟨B,z,q⟩:=anU (λZ'=>hZ Z' (.lst (aN rs))=aq (aN rs)) (λ_=>rfl) (.lst (aN rs)) Z rs [] (λ_=>0) av av (by simp;omega) (λ_ _=>rfl);simp only[YI]at q;have c:=Ez rs [];simp only[BX,zG]at c;generalize h:pQ [] rs=j at q c;have d:∀b,mH (Z ++ .bB (iE j λk=>iT rs k)::b) (.aH Z.length)=aq (Z.length,iE j λk=>iT rs k):=λb=>ET (by simp);have m:=d [];have sl:=Bb j;have l:j.length<4000:=by omega
 have o:j.length<=bg:=by rw[oS];omega
 have comp:acL [cL (aN rs),aD Z.length,B,z] (Z++[.bB (iE j λk=>iT rs k)])=aE (.lst (aN (dP rs))) (Z++[.bB (iE j λk=>iT rs k)]):=by
  have f:((sortI j).map A.int).filterMap (λa=>match a with | .int k=>aq (jV (k,iT rs k))|_=>av)=aN (dP rs):=by
   simp only[List.filterMap_map,aN,dP,h,zL];rw[<-List.filterMap_eq_map];rfl
  rw[<-f];refine ZW (S:=srcOf (.lst ((sortI j).map A.int)) ((sortI j).map A.int)) _ (λU=>∃v,U=[v,aD Z.length]) (by simp[m,ar0,l,sl]) (λ_=>rfl) ⟨av,rfl⟩ (by simp[sl];omega) ?_ (by
   show fO _ (List.filterMap _ ((sortI j).map A.int));rw[f];exact abU _ _)
  rintro x n U ⟨v,rfl⟩ g;obtain⟨k,p,rfl⟩:=kW.mp n;have N:k∈j:=(sortI_perm j).mem_iff.mp p;have h2:(2:a9)<=bg:=by decide
  have hv:gZ (iE j λk=>iT rs k) (.inl k)=(aA (iT rs k)):=by rw[Qs,bb N]
  refine⟨[aA k,aD Z.length],⟨_,rfl⟩,by simp,.inl ⟨_,rfl,rfl,?_⟩⟩;have i:=d [.lst g];simp[i,mS,hv,h2,jV]
 show trim Z (eX (WU [cL (aN rs),av,av,av] Z))=_;have e:WU [cL (aN rs),av,av,av] Z=aq (.ret (.lst (aN (dP rs))),[cL (aN rs),aD Z.length,B,z],Z++[.bB (iE j λk=>iT rs k)]):=by
  unfold WU;rw[bV (Y1:=[cL (aN rs),aD Z.length,av,av]) (Z':=Z++[.bB []]) (by simp)];rw[bV (Y1:=[cL (aN rs),aD Z.length,B,z]) (Z':=Z++[.bB (iE j λk=>iT rs k)]) (by rw[uA (S:=srcOf (.lst (aN rs)) (aN rs)) (Z':=Z++[.bB []]) (by simp)];exact q)];simp[comp]
 rw[e];simp only[eX];exact xW (by simp only[Cl];exact abU _ _)
theorem aB3(rs:ar Rn)(hl:rs.length<=63)(Z:aG):QQ [.lst (aN rs)] Z=aE (.lst (aN (dP rs))) Z:=aB2 rs (by omega) Z
noncomputable def na:ar Rn->a8->a8->ax a8
 |[],_,_=>av
 |r::rs,ae,p=>if p<=ae+r.2 then aq r.1 else na rs (ae+r.2) p
noncomputable def dS(ps:ar Rn):a8:=(ps.map (·.2)).sum
theorem Xp(m t:a8):∀{j:ar a8},j.Nodup->(j.map λk=>if m=k then t else 0).sum=if m∈j then t else 0
 |[],_=>by simp
 |k::j,h=>by
  obtain⟨h1,h2⟩:=rY.mp h;simp only[cP,mZ,Xp m t h2]
  by_cases e:m=k
  ·subst e;simp[h1]
  ·simp[e]
theorem Sl(f g:a8->a8):∀j:ar a8,(j.map λk=>f k+g k).sum=(j.map f).sum+(j.map g).sum
 |[]=>by simp
 |k::j=>by simp only[cP,mZ,Sl f g j];omega
theorem ag1(r:Rn)(rs:ar Rn)(k:a8):iT (r::rs) k=(if r.1=k then r.2 else 0)+iT rs k:=by simp[iT]
theorem Pf:∀j:ar a8,(j.map λ_=>(0:a8)).sum=0
 |[]=>rfl
 |_::j=>by simp only[cP,mZ,Pf j];rfl
theorem Ai(P:a8->Prop) [DecidablePred P]{ps:ar a8}(hn:ps.Nodup):∀(rs:ar Rn),(∀r∈rs,(r.1∈ps<->P r.1))->(ps.map (iT rs)).sum=(rs.map λr=>if P r.1 then r.2 else 0).sum
 |[],_=>by
  have:iT []=λ_=>(0:a8):=by funext k;simp[iT]
  rw[this,Pf];rfl
 |r::rs,h=>by
  have e:(ps.map (iT (r::rs)))=ps.map λk=>(if r.1=k then r.2 else 0)+iT rs k:=JQ λk _=>ag1 r rs k;rw[e,Sl,Xp _ _ hn,Ai P hn rs λq j=>h q (fS _ j)];have:=h r mB;simp only[cP,mZ]
  by_cases hm:r.1∈ps
  ·rw[bb hm,bb (this.mp hm)]
  ·rw[bc hm,bc λz=>hm (this.mpr z)]
theorem Fh(rs:ar Rn):(sortI (pQ [] rs)).Pairwise (· < ·):=by
 have h1:=Sw (pQ [] rs);have h2:(sortI (pQ [] rs)).Nodup:=(sortI_perm _).nodup_iff.mpr (Xg rs List.nodup_nil);exact(List.Pairwise.and h1 h2).imp λ⟨a,b⟩=>by omega
theorem mem_keys(rs:ar Rn)(k:a8):k∈sortI (pQ [] rs)<->∃r∈rs,r.1=k:=by
 rw[(sortI_perm _).mem_iff,Wj];simp
theorem Sm(rs:ar Rn)(j:ar a8):dS (j.map λk=>(k,iT rs k))=(j.map (iT rs)).sum:=by
 simp[dS,zL];rfl
theorem afL(rs:ar Rn):dS (dP rs)=whole rs:=by
 unfold dP;rw[Sm,Ai (λ_=>True) ((Fh rs).imp λz=>Int.ne_of_lt z) rs λr hr=>⟨λ_=>trivial,λ_=>(mem_keys rs _).mpr ⟨r,hr,rfl⟩⟩];simp[whole]
theorem agE(rs:ar Rn)(j:a8):dI rs j=dE rs j+iT rs j:=by
 induction rs with
 |nil=>rfl
 |cons r rs ih =>
  simp only[dI,dE,iT,cP,mZ]at ih ⊢;rw[ih]
  by_cases a:r.1<j
  ·have b:r.1<=j:=by omega
   have c:¬r.1=j:=by omega
   simp only[a,b,c,gT,gU];omega
  ·by_cases c:r.1=j
   ·have b:r.1<=j:=by omega
    simp only[a,b,c,gT,gU];simp;omega
   ·have b:¬r.1<=j:=by omega
    simp only[a,b,c,gU];omega
noncomputable def iA:a8->ar Rn->ar (Key×A)
 |_,[]=>[]
 |ae,r::rs=>(.inl r.1,.tup [.int (ae+1),.int (ae+r.2)])::iA (ae+r.2) rs
theorem Av(a b:ar Rn):dS (a++b)=dS a+dS b:=by simp[dS]
theorem Ux:∀(as bs:ar Rn) (ae:a8),iA ae (as++bs)=iA ae as++iA (ae+dS as) bs
 |[],bs,ae=>by simp[iA,dS]
 |a::as,bs,ae=>by
  have e:dS (a::as)=a.2+dS as:=by simp[dS]
  simp only[List.cons_append,iA];rw[Ux as bs,e,Int.add_assoc]
theorem Dp:∀(as:ar Rn) (ae:a8),(iA ae as).map (·.1)=as.map λr=>(Sum.inl r.1:Key)
 |[],_=>rfl
 |a::as,ae=>by simp only[iA,cP];rw[Dp as]
theorem amK(as:ar Rn)(ae:a8):(iA ae as).length=as.length:=by
 have:=c3 List.length (Dp as ae);simpa using this
theorem alP{kvs:ar (Key×A)}{k:Key}{a:A}(h:k∉kvs.map (·.1)):lY kvs k a=kvs++[(k,a)]:=by
 unfold lY;rw[bc];intro j;rw[List.any_eq_true]at j;obtain⟨x,q,e⟩:=j;exact h (kW.mpr ⟨x,q,by simpa using e⟩)
theorem Ut(ok:aG->Prop)(aJ:∀Z,ok Z)(L:A)(Z:aG):∀(af pre:ar Rn) (x y:ax A),((pre++af).map (·.1)).Pairwise (· < ·)->pre.length+af.length<=1000 ->
  ∃z j,eZ ok (iM 2 (dH (gN 3) (dH (gN 4) jA))) Kc (aN af) [aq L,aD Z.length,aA (dS pre),x,y] (Z++[.bB (iA 0 pre)])
   = eB [aq L,aD Z.length,aA (dS (pre++af)),z,j] (Z++[.bB (iA 0 (pre++af))])
 |[],pre,x,y,_,_=>⟨x,y,by simp[aN,eZ,aJ]⟩
 |r::af,pre,x,y,B,hl=>by
  have b:pre++r::af=(pre++[r])++af:=by simp
  have U:(Sum.inl r.1:Key)∉(iA 0 pre).map (·.1):=by
   rw[Dp];intro N;obtain⟨q,d,e⟩:=kW.mp N;rw[xD,uH]at B;have:=B.2.2 q.1 (YF d) r.1 (by simp);have f:q.1=r.1:=by injection e
   omega
  have a:lY (iA 0 pre) (.inl r.1) (.tup [.int (dS pre+1),.int (dS pre+r.2)])=iA 0 (pre++[r]):=by
   rw[alP U,Ux];simp[iA]
  obtain⟨z,j,q⟩:=Ut ok aJ L Z af (pre++[r]) (aA r.1) (aA r.2) (by rw[<-b];exact B) (by simp at hl ⊢;omega);refine⟨z,j,?_⟩;rw[b,<-q];have N:mH (Z++[.bB (iA 0 pre)]) (.aH Z.length)=aq (Z.length,iA 0 pre):=ET (by simp);have c:(iA 0 pre).length<bg:=by rw[amK,oS];simp only[fT]at hl;omega
  have h2:(2:a9)<=bg:=by decide
  have es:dS (pre++[r])=dS pre+r.2:=by rw[Av];simp[dS]
  have e:aN (r::af)=jV r::aN af:=rfl;rw[e,es];exact rP (aJ _) (Y0:=[aq L,aD Z.length,aA (dS pre),aA r.1,aA r.2]) (Z0:=Z++[.bB (iA 0 pre)]) (by simp[jV]) (by simp[Kc,N,mS,c,a,h2])
theorem Uy(rs:ar Rn):((dP rs).map (·.1)).Pairwise (· < ·):=by
 have e:(dP rs).map (·.1)=sortI (pQ [] rs):=by unfold dP;rw[List.map_map];exact List.map_id _
 rw[e];exact Fh rs
theorem CZ(rs:ar Rn):(dP rs).length<=rs.length:=by
 have j:=Ez rs [];unfold dP;rw[lQ,Bb];simpa using j
theorem aB1(rs:ar Rn)(hl:rs.length<=63)(Z:aG):QP [.lst (aN rs)] Z=aE (.aH Z.length) (Z++[.bB (iA 0 (dP rs))]):=by
 have N:=λZ=>aB3 rs hl Z;have U:=CZ rs;obtain⟨z,j,q⟩:=Ut (λZ'=>hZ Z' (.lst (aN (dP rs)))=aq (aN (dP rs))) (λ_=>rfl) (.lst (aN rs)) Z (dP rs) [] av av (by simpa using Uy rs) (by simp;omega);simp only[zK]at q;have s0:dS []=0:=rfl;rw[s0]at q;have B:iA 0 []=[]:=rfl;rw[B]at q;show trim Z (eX (WS [cL (aN rs),av,av,av,av] Z))=_;have e:WS [cL (aN rs),av,av,av,av] Z=aq (.ret (.aH Z.length),[cL (aN rs),aD Z.length,aA (dS (dP rs)),z,j],Z++[.bB (iA 0 (dP rs))]):=by
  unfold WS;rw[bV (Y1:=[cL (aN rs),aD Z.length,av,av,av]) (Z':=Z++[.bB []]) (by simp)];rw[bV (Y1:=[cL (aN rs),aD Z.length,aA 0,av,av]) (Z':=Z++[.bB []]) (by simp)];rw[bV (Y1:=[cL (aN rs),aD Z.length,aA (dS (dP rs)),z,j]) (Z':=Z++[.bB (iA 0 (dP rs))]) (by
   rw[uA (S:=srcOf (.lst (aN (dP rs))) (aN (dP rs))) (Z':=Z++[.bB []]) (by simp[cE,N])];exact q)]
  simp
 rw[e];simp[trim,Cl]
theorem Wr(ok:aG->Prop)(aJ:∀Z,ok Z)(L:A)(Z:aG):∀(rs:ar Rn) (ae:a8) (i:a9) (x y u:ax A),(∀r∈rs,1<=r.2)->ae+whole rs<=1000000000 ->
  ∃B z N,eZ ok (iM 2 (dH (gN 2) (dH (gN 3) jA))) Ke (pT i (aN rs)) [aq L,aA ae,x,y,u] Z=eB [aq L,aA (ae+whole rs),B,z,N] Z
 |[],ae,i,x,y,u,_,_=>⟨x,y,u,by simp[aN,pT,eZ,aJ,whole]⟩
 |r::rs,ae,i,x,y,u,h,hl=>by
  have e:whole (r::rs)=r.2+whole rs:=by simp[whole]
  rw[e]at hl ⊢;have hr:=h r mB;have d:0<=whole rs:=by
   have:∀rs:ar Rn,(∀r∈rs,1<=r.2)->0<=whole rs:=by
    intro rs
    induction rs with
    |nil=>intro _;simp[whole]
    |cons a U ih =>
     intro h;have e:whole (a::U)=a.2+whole U:=by simp[whole]
     have:=h a mB;have:=ih λq j=>h q (fS _ j);omega
   exact this rs λq j=>h q (fS _ j)
  obtain⟨B,z,N,q⟩:=Wr ok aJ L Z rs (ae+r.2) (i+1) (aA i) (aq (jV r)) (aA r.2) (λq j=>h q (fS _ j)) (by omega);refine⟨B,z,N,?_⟩;rw[<-Int.add_assoc,<-q];have c:¬r.2<1:=by omega
  have b:¬1000000000<ae+r.2:=by omega
  exact rP (aJ Z) (Y0:=[aq L,aA ae,aA i,aq (jV r),u]) (Z0:=Z) (by simp[jV]) (by simp[Ke,jV,c,b])
theorem aCA(rs:ar Rn)(h:∀r∈rs,1<=r.2)(hl:whole rs<=1000000000)(Z:aG):YR [.lst (aN rs)] Z=aE (.int (whole rs)) Z:=by
 obtain⟨z,j,B,q⟩:=Wr (λZ'=>fV Z' (.lst (aN rs))=aq (aN rs)) (λ_=>rfl) (.lst (aN rs)) Z rs 0 0 av av av h (by omega);rw[YI]at q;show trim Z (eX (Kf [cL (aN rs),av,av,av,av] Z))=_;unfold Kf;rw[bV (Y1:=[cL (aN rs),aA 0,av,av,av]) (Z':=Z) (by simp)];rw[bV (Y1:=[cL (aN rs),aA (whole rs),z,j,B]) (Z':=Z) (by
  rw[uA (S:=enumSrc (.lst (aN rs)) (aN rs)) (Z':=Z) (by simp)];exact q)]
 simp
theorem Uz{R as bs:ar Rn}{r:Rn}(e:dP R=as++r::bs):dS as=dE R r.1/\dS as+r.2=dI R r.1/\r.1∈R.map (·.1):=by
 have a:=Fh R;have b:=e;unfold dP at b;obtain⟨N,n,q,m,l⟩:=List.map_eq_append_iff.mp b;obtain⟨j,B,rfl,i,_⟩:=List.map_eq_cons_iff.mp l;subst i;rw[q]at a;have c:∀k,k∈N++j::B<->∃r∈R,r.1=k:=λk=>by rw[<-q];exact mem_keys R k
 obtain⟨g,p2,f⟩:=uH.mp a;obtain⟨d,o⟩:=BW.mp p2;have nd:N.Nodup:=g.imp λz=>Int.ne_of_lt z;have U:dS as=dE R j:=by
  rw[<-m,Sm];refine Ai (λk=>k<j) nd R λr hr=>⟨λz=>f _ z _ mB,λz=>?_⟩
  rcases lP.mp ((c r.1).mpr ⟨r,hr,rfl⟩)with y|y
  ·exact y
  ·rcases dU.mp y with y|y
   ·omega
   ·have:=d _ y;omega
 have h:=agE R j;refine⟨U,by rw[U];exact h.symm,?_⟩;obtain⟨r,hr,e⟩:=(c j).mp (nP _ mB);exact kW.mpr ⟨r,hr,e⟩
theorem ag0{R:ar Rn}(h:∀r∈R,1<=r.2){r:Rn}(hr:r∈dP R):1<=r.2:=by
 obtain⟨i,bs,e⟩:=List.append_of_mem hr;obtain⟨h1,h2,U⟩:=Uz e;have hT:Tn R:=λq B=>by have:=h q B;omega
 obtain⟨q,B,g⟩:=kW.mp U;have:dE R r.1<dI R r.1:=by
  have:∀(S:ar Rn),(∀q∈S,1<=q.2)->q∈S->dE S r.1<dI S r.1:=by
   intro S
   induction S with
   |nil=>intro _ z;cases z
   |cons x S ih =>
    intro hS hm;have N:Tn S:=λy j=>by have:=hS y (by simp[j]);omega
    obtain⟨d,c⟩:=uZ x S r.1;rw[d,c];have f:=hS x (by simp)
    rcases dU.mp hm with z|z
    ·subst z;have:=wG N r.1;have b:¬q.1<r.1:=by omega
     have a:q.1<=r.1:=by omega
     rw[bc b,bb a];omega
    ·have:=ih (λy j=>hS y (by simp[j])) z;split <;> split <;> omega
  exact this R h B
 omega
noncomputable def iD:a8->ar Rn->ar E
 |_,[]=>[]
 |ae,r::rs=>(r.1,ae+1,ae+1)::((if ae+1=ae+r.2 then []else [(r.1,ae+r.2,ae+r.2)])++iD (ae+r.2) rs)
theorem SM(r:Rn)(rs:ar Rn):dS (r::rs)=r.2+dS rs:=by simp[dS]
theorem Sn:∀{ps:ar Rn},(∀r∈ps,1<=r.2)->0<=dS ps
 |[],_=>by simp[dS]
 |r::j,h=>by
  have:=Sn (ps:=j) λq z=>h q (by simp[z]);have:=h r (by simp);rw[SM];omega
theorem Vq:∀(ps:ar Rn) (ae:a8) (N:ax a8),(∀r∈ps,1<=r.2)->(ps.map (·.1)).Pairwise (· < ·)->(∀p,N=aq p->∀r∈ps,p<=r.1)->Ch 0 (ae+dS ps) ae ae N (iD ae ps)
 |[],ae,N,_,_,_=>by simp[iD,Ch,dS]
 |r::z,ae,N,h1,h2,U=>by
  have hr:=h1 r (by simp);rw[cP,BW]at h2;have ih:=Vq z (ae+r.2) (aq r.1) (λq j=>h1 q (by simp[j])) h2.2 (λp B q j=>by
   cases B;have:=h2.1 q.1 (kW.mpr ⟨q,j,rfl⟩);omega)
  have es:ae+dS (r::z)=ae+r.2+dS z:=by rw[SM];omega
  rw[es];unfold iD;refine⟨λp B=>U p B r (by simp),.inr (by show ae+1<=ae+0+1;omega),by show ae<ae+1;omega,by show ae<ae+1;omega,mK _,by show ae+1-(ae+1)<=0;omega,?_⟩;show Ch 0 (ae+r.2+dS z) (ae+1) (ae+1) (aq r.1) ((if ae+1=ae+r.2 then []else [(r.1,ae+r.2,ae+r.2)])++iD (ae+r.2) z)
  by_cases j:ae+1=ae+r.2
  ·rw[bb j,zK,j];exact ih
  ·rw[bc j];exact⟨λp B=>by cases B;exact mK _,.inl rfl,by show ae+1<ae+r.2;omega,by show ae+1<ae+r.2;omega,mK _,by show ae+r.2-(ae+r.2)<=0;omega,ih⟩
theorem Vp{R:ar Rn}(h:∀r∈dP R,1<=r.2):∀(ps as:ar Rn) (z:a8),dP R=as++ps->z<=dS as->Pl R z (iD (dS as) ps)
 |[],as,z,_,_=>trivial
 |r::q,as,z,e,B=>by
  obtain⟨h1,h2,N⟩:=Uz e;have hr:=h r (by rw[e];simp);have ih:=Vp h q (as++[r]) (dS as+r.2) (by rw[e];simp) (by rw[Av,SM];simp[dS]);have es:dS (as++[r])=dS as+r.2:=by rw[Av,SM];simp[dS]
  rw[es]at ih;unfold iD;refine⟨dS as+1,by omega,by show dE R r.1<dS as+1;omega,by show dS as+1<=dI R r.1;omega,mK _,mK _,?_⟩
  by_cases j:dS as+1=dS as+r.2
  ·rw[bb j,zK];exact ih.low (by omega)
  ·rw[bc j];exact⟨dS as+r.2,by omega,by show dE R r.1<dS as+r.2;omega,by show dS as+r.2<=dI R r.1;omega,mK _,mK _,ih⟩
def kM(R:ar Rn):Po:=⟨whole R,0,0,iD 0 (dP R)⟩
theorem ED{R:ar Rn}(h:∀r∈R,1<=r.2):Gd R (kM R):=by
 have q:∀r∈dP R,1<=r.2:=λr hr=>ag0 h hr;have hw:=afL R;refine⟨λr hr=>by have:=h r hr;omega,⟨?_,mK _,mK _,?_,?_⟩,rfl,?_⟩
 ·show 0<=whole R;rw[<-hw];exact Sn q
 ·intro e r he;have j:iD 0 (dP R)=e::r:=he;cases z:dP R with
  |nil=>rw[z]at j;cases j
  |cons a b =>
   rw[z]at j;unfold iD at j;cases j;exact⟨rfl,rfl⟩
 ·have:=Vq (dP R) 0 av q (Uy R) (λp q=>by cases q);rw[YI,hw]at this;exact this
 ·exact Vp q (dP R) [] 0 rfl yK
theorem aoI(x0:ax A)(f:a9)(k a b:a8)(done:ar A)(hd:done.length<=1000)(Z:aG)(z:Z[f]?=aq (.lst done)) :
  WV [x0,aD f,aA k,aq (.tup [.int a,.int b])] Z=eB [x0,aD f,aA k,aq (.tup [.int a,.int b])] (Z.set f (.lst (done++cM (k,a,a)::(if a=b then []else [cM (k,b,b)])))):=by
 have fl:f<Z.length:=(cY.mp z).1;have cl:rR Z (.aH f)=aq (f,done):=ER z;have e:yJ Z (.aH f):=DN (yH z);have B:(3:a9)<=bg:=by decide
 have g:done.length<bg:=by rw[oS];omega
 unfold WV;have U:(Z.set f (.lst (done++[cM (k,a,a)])))[f]?=aq (.lst (done++[cM (k,a,a)])):=fN fl;rw[bV (Y1:=[x0,aD f,aA k,aq (.tup [.int a,.int b])]) (Z':=Z.set f (.lst (done++[cM (k,a,a)]))) (by simp[cl,e,g,B,cM,XJ])];have j:rR (Z.set f (.lst (done++[cM (k,a,a)]))) (.aH f)=aq (f,done++[cM (k,a,a)]):=ER U;have N:yJ (Z.set f (.lst (done++[cM (k,a,a)]))) (.aH f):=DN (yH U);have h:done.length+1<bg:=by rw[oS];omega
 generalize c:Z.set f (.lst (done++[cM (k,a,a)]))=d at j N
 by_cases q:a=b
 ·subst q;simp[XJ,Lo,<-c]
 ·have gD:¬(a==b)=a5:=by simpa using q
  simp[XJ,Lo,q,j,N,h,B,cM];rw[<-c,qT]
theorem Vo(ok:aG->Prop)(aJ:∀Z,ok Z)(x0:ax A)(Z:aG)(D:Cell):∀(ps:ar Rn) (ae:a8) (done:ar A) (B z:ax A),done.length+2*ps.length<=1000 ->
  ∃a U,eZ ok (iM 2 (dH (gN 2) (dH (gN 3) jA))) WV ((iA ae ps).map mT) [x0,aD Z.length,B,z] (Z++[.lst done,D])=eB [x0,aD Z.length,a,U] (Z++[.lst (done++encL (iD ae ps)),D])
 |[],ae,done,B,z,_=>⟨B,z,by simp[iA,eZ,aJ,iD,encL]⟩
 |r::j,ae,done,B,z,hl=>by
  have e:done.length+2*(j.length+1)<=1000:=hl;have t:=aoI x0 Z.length r.1 (ae+1) (ae+r.2) done (by omega) (Z++[.lst done,D]) (by simp);have hd2:(done++cM (r.1,ae+1,ae+1)::(if ae+1=ae+r.2 then []else [cM (r.1,ae+r.2,ae+r.2)])).length<=done.length+2:=by
   split <;> simp
  obtain⟨a,U,q⟩:=Vo ok aJ x0 Z D j (ae+r.2) (done++cM (r.1,ae+1,ae+1)::(if ae+1=ae+r.2 then []else [cM (r.1,ae+r.2,ae+r.2)])) (aA r.1) (aq (.tup [.int (ae+1),.int (ae+r.2)])) (by omega);refine⟨a,U,?_⟩;have es:(Z++[Cell.lst done,D]).set Z.length (.lst (done++cM (r.1,ae+1,ae+1)::(if ae+1=ae+r.2 then []else [cM (r.1,ae+r.2,ae+r.2)])))=Z++[.lst (done++cM (r.1,ae+1,ae+1)::(if ae+1=ae+r.2 then []else [cM (r.1,ae+r.2,ae+r.2)])),D]:=by simp
  rw[es]at t;have b:done++encL (iD ae (r::j))=(done++cM (r.1,ae+1,ae+1)::(if ae+1=ae+r.2 then []else [cM (r.1,ae+r.2,ae+r.2)]))++encL (iD (ae+r.2) j):=by
   have c:iD ae (r::j)=(r.1,ae+1,ae+1)::((if ae+1=ae+r.2 then []else [(r.1,ae+r.2,ae+r.2)])++iD (ae+r.2) j):=rfl;rw[c];generalize iD (ae+r.2) j=d
   by_cases N:ae+1=ae+r.2
   ·rw[bb N,bb N];simp[encL]
   ·rw[bc N,bc N];simp[encL]
  rw[b,<-q];simp only[iA,cP];refine rP (aJ _) (Y0:=[x0,aD Z.length,aA r.1,aq (.tup [.int (ae+1),.int (ae+r.2)])]) (Z0:=Z++[.lst done,D]) ?_ t;simp[mT,kA]
theorem aB5(R:ar Rn)(h:∀r∈R,1<=r.2)(hl:R.length<=63)(hw:whole R<=1000000000)(Z:aG):QR [.lst (aN R)] Z=aE (eK (whole R) 0 0 (iD 0 (dP R))) Z:=by
 have pl:=aB1 R hl (Z++[.lst []]);have pn:=CZ R;obtain⟨N,B,q⟩:=Vo (λ_=>True) (λ_=>trivial) (aq (.lst (aN R))) Z .dead (dP R) 0 [] av av (by simp;omega);have b:(4:a9)<=bg:=by decide
 show trim Z (eX (WW [cL (aN R),av,av,av] Z))=_;have e:WW [cL (aN R),av,av,av] Z=aq (.ret (eK (whole R) 0 0 (iD 0 (dP R))),[cL (aN R),aD Z.length,N,B],Z++[.dead,.dead]):=by
  have z:=aCA R h hw (Z++[.lst (encL (iD 0 (dP R))),.dead]);unfold WW;rw[bV (Y1:=[cL (aN R),aD Z.length,av,av]) (Z':=Z++[.lst []]) (by simp[lK])];rw[bV (Y1:=[cL (aN R),aD Z.length,N,B]) (Z':=Z++[.lst (encL (iD 0 (dP R))),.dead]) (by
   rw[uA (S:=MW (iA 0 (dP R))) (Z':=Z++[.lst [],.dead]) (by
    generalize aN R=U at pl;have c:mH (Z++[Cell.lst [],Cell.bB (iA 0 (dP R))]) (.aH (Z.length+1))=aq (Z.length+1,iA 0 (dP R)):=by simp[mH]
    have j:QP [.lst U] (Z++[Cell.lst []])=aE (.aH (Z.length+1)) (Z++[Cell.lst [],.bB (iA 0 (dP R))]):=by
     rw[pl];simp
    simp[cE,j,c])]
   rw[zK]at q;exact q)]
  unfold eK;generalize encL (iD 0 (dP R))=U at z;generalize aN R=d at z;simp[cE,z,b]
 rw[e];simp only[vB];exact xW (by
  simp only[eK,Cl,fO,and_true,true_and];exact wY λa ha=>by
   obtain⟨e,_,rfl⟩:=kW.mp ha;simp[cM,Cl,fO])
end M
namespace V2
open PySem PySem.Spec PyProof.Rows L2
theorem _root_.L2.RE.alias{P:bp}{w:bz}{K:bu}{mg:bh->ax au}{base:b9}{x y:bh}{k:a9}{ps:ar bh}{sp:Sp}(D:RE P w K mg base x k ps sp)(e:mg y=mg x):RE P w K mg base y k ps sp:=by
 obtain⟨f,fd,F,hm,j,hb⟩:=D.ex;exact⟨f,fd,F,e.trans hm,j,hb⟩
@[elab_as_elim] theorem us6{P:ar au->Prop}(us:ar au)(h:us.length=6)(f:∀a b c d e g,P [a,b,c,d,e,g]):P us:=by
 cases us with
 |nil=>simp at h
 |cons a r=>exact Ra (P:=λr=>P (a::r)) r (by simpa using h) (f a)
end V2
namespace L2
open PySem
theorem cR.m{j k:a9}{A:bx}(r:cR k A)(h:j<=k:=by first|decide|omega):cR j A:=r.mono h
end L2
namespace V2
open PySem L2 PyProof.Rows
variable{P:bp}{w:bz}{K:bu}{mg:bh->ax au}{base:b9}
theorem az1{h:b9}{x:bh}{v:a8}{t:Tok}(X:K.In h)(G:h.Ns bo mg)(a:nsIn K bo x=aq (aq (.int v t))):∃t,mg x=aq (.int v t):=⟨_,mg_of X G a⟩
structure mI(K:bu)(X:az)(m q:bh)(st:cb):Prop where
 ex:∃f fd,Meth K X m f/\uJ K m q st f fd
theorem nW{X f:az}{m q:bh}{st:cb}{B:au}{od U:ax az}{N:ba (ax au)}{kV doc z j ct:au}(a:dq K (.ref X) m=aq (aq (.ref f)))
  (l:K.lookup f=aq ⟨B,od,.func (et m q (jE st) (eQ st) (aW st) .none kV doc z U j ct),N⟩) (c:codeIn K j q=a5) (k:ek K (.ref f)=a5) (i:isFn K (.ref f)=a5):mI K X m q st:=⟨f,_,⟨a,i,k⟩,OF l c k⟩
theorem mI.has{h:b9}{cls m q:bh}{st:cb}{C:az}(M:mI K C m q st)(X:K.In h)(G:h.Ns bo mg)(n:nsIn K bo cls=aq (aq (.ref C)))(L:nQ K C):mL K mg cls m q st :=
 let ⟨f,fd,a,b⟩:=M.ex; ⟨C,f,fd,n,mg_of X G n,L,a,b⟩
structure YL(K:bu)(X:az)(q:bh)(st:cb):Prop where
 ex:∃f fd,Mk K X f/\uJ K "__init__" q st f fd
theorem ar2{X f:az}{q:bh}{st:cb}{B:au}{od b:ax az}{U:ba (ax au)}{kV doc z j ct:au}(a:dq K (.ref X) "__init__" = aq (aq (.ref f)))
  (l:K.lookup f=aq ⟨B,od,.func (et "__init__" q (jE st) (eQ st) (aW st) .none kV doc z b j ct),U⟩) (c:codeIn K j q=a5) (k:ek K (.ref f)=a5) (i:isFn K (.ref f)=a5)
  (mk:makesIn K X=a5) (N:ek K (.ref X)=a5):YL K X q st:=⟨f,_,⟨mk,a,i,N⟩,OF l c k⟩
theorem YL.has{h:b9}{cls q:bh}{st:cb}{C:az}(M:YL K C q st)(X:K.In h)(G:h.Ns bo mg)(n:nsIn K bo cls=aq (aq (.ref C))):Nr K mg cls q st :=
 let ⟨f,fd,a,b⟩:=M.ex; ⟨C,f,fd,n,mg_of X G n,a,b⟩
structure YA(K:bu)(X:az)(m q:bh)(st:cb)(dv:ba au):Prop where
 ex:∃f fd T o n,Meth K X m f/\aeJ K m q st f T fd/\K.lookup T=aq o/\o.data=.seq dv n
theorem apO{X f T:az}{m q:bh}{st:cb}{U tc:au}{od d td:ax az}{b B:ba (ax au)}{kV doc N z ct:au}{n:a9}{j:ba au}(a:dq K (.ref X) m=aq (aq (.ref f)))
  (l:K.lookup f=aq ⟨U,od,.func (et m q (jE st) (eQ st) (aW st) (.ref T) kV doc N d z ct),b⟩) (c:codeIn K z q=a5) (k:ek K (.ref f)=a5) (i:isFn K (.ref f)=a5)
  (t:K.lookup T=aq ⟨tc,td,.seq j n,B⟩):YA K X m q st j:=⟨f,_,T,_,n,⟨a,i,k⟩,⟨⟨_,_,_,_,_,_,_,_,_,rfl,l,c⟩⟩,t,rfl⟩
theorem YA.has{h:b9}{cls m q:bh}{st:cb}{C:az}{j:ba au}(M:YA K C m q st j)(X:K.In h)(G:h.Ns bo mg)(n:nsIn K bo cls=aq (aq (.ref C)))(L:nQ K C):YN K mg cls m q st j :=
 let ⟨f,fd,T,o,k,a,b,c,d⟩:=M.ex; ⟨C,f,fd,T,o,k,n,mg_of X G n,L,a,b,c,d⟩
theorem dX{N P:ar bh}{sc:cu}(a:sc.kind=.function:=by rfl)(b:sc.isCoroutine=aw:=by rfl)(c:sc.isGenerator=aw:=by rfl)(d:N.Nodup:=by decide +kernel)(e:N.take P.length=P:=by rfl)(f:∀x∈P,sc.names.lookup x=aq .local\/sc.names.lookup x=aq .cell:=by decide +kernel)(g:∀y∈sc.names,y.2≠.free:=by decide +kernel):cS N P sc:=⟨a,b,c,d,e,f,g⟩
end V2
namespace M
open PySem V2
noncomputable section
def acK:Ev->Mo A :=
 (mR aw 1 [] (fH aK) (gN 0) mM (aB aQ aK cU))
def acJ:Ev->Mo A :=
 (mR aw 1 [] (fH aK) (gN 0) mM (aB aQ aK cK))
def WR:MS :=
 (bW (nS (aC (aS pR (aC acJ a0)) (aC (aS pR (aC acK a0)) a0))))
def KL:ar A->Mo A:=cV 1 WR
end
end M
namespace PySem
open PyProof.Rows
def xA(xs:ba a9):Prop:=∀i j a b:a9,i<j->xs[i]?=aq a->xs[j]?=aq b->a<b
theorem Jz(xs:ba a9)(j:a9)(hr:xA xs):∀(fuel lo hi:a9),lo<=hi->hi<=xs.size->hi-lo<=fuel->(∀i a,i<lo->xs[i]?=aq a->a<j)->(∀i a,hi<=i->xs[i]?=aq a->j<=a) ->
  lo<=SetTable.below.go xs j fuel lo hi/\SetTable.below.go xs j fuel lo hi<=xs.size/\(∀i a,i<SetTable.below.go xs j fuel lo hi->xs[i]?=aq a->a<j)/\(∀i a,SetTable.below.go xs j fuel lo hi<=i->xs[i]?=aq a->j<=a)
 |0,lo,hi,h1,h2,g,N,B=>by
  have:lo=hi:=by omega
  subst this;exact⟨qS _,h2,N,B⟩
 |fuel+1,lo,hi,h1,h2,g,N,B=>by
  unfold SetTable.below.go
  by_cases e:lo<hi
  ·rw[bb e];have hm:(lo+hi)/2<xs.size:=by omega
   have q:xs[(lo+hi)/2]?=aq xs[(lo+hi)/2]:=pB xs _ hm;have hd:xs.getD ((lo+hi)/2) j=xs[(lo+hi)/2]:=by simp[Array.getD,hm]
   show lo<=(if xs.getD ((lo+hi)/2) j<j then SetTable.below.go xs j fuel ((lo+hi)/2+1) hi else SetTable.below.go xs j fuel lo ((lo+hi)/2))/\(if xs.getD ((lo+hi)/2) j<j then SetTable.below.go xs j fuel ((lo+hi)/2+1) hi else SetTable.below.go xs j fuel lo ((lo+hi)/2))<=xs.size/\(∀i a,i<(if xs.getD ((lo+hi)/2) j<j then SetTable.below.go xs j fuel ((lo+hi)/2+1) hi else SetTable.below.go xs j fuel lo ((lo+hi)/2))->xs[i]?=aq a->a<j)/\(∀i a,(if xs.getD ((lo+hi)/2) j<j then SetTable.below.go xs j fuel ((lo+hi)/2+1) hi else SetTable.below.go xs j fuel lo ((lo+hi)/2))<=i->xs[i]?=aq a->j<=a);rw[hd]
   by_cases U:xs[(lo+hi)/2]<j
   ·rw[bb U];obtain⟨a,b,c,d⟩:=Jz xs j hr fuel ((lo+hi)/2+1) hi (by omega) h2 (by omega) (λi a f ha=>by
     rcases Mh i ((lo+hi)/2)with z|z
     ·have:=hr i ((lo+hi)/2) a _ z ha q;omega
     ·have:i=(lo+hi)/2:=by omega
      subst this;rw[q]at ha;cases ha;exact U) B
    exact⟨by omega,b,c,d⟩
   ·rw[bc U];obtain⟨a,b,c,d⟩:=Jz xs j hr fuel lo ((lo+hi)/2) (by omega) (by omega) (by omega) N (λi a f ha=>by
     rcases Mh ((lo+hi)/2) i with z|z
     ·have:=hr ((lo+hi)/2) i _ a z q ha;omega
     ·have:i=(lo+hi)/2:=by omega
      subst this;rw[q]at ha;cases ha;omega)
    exact⟨a,b,c,d⟩
  ·rw[bc e];have:lo=hi:=by omega
   subst this;exact⟨qS _,h2,N,B⟩
theorem Jy{xs:ba a9}(hr:xA xs)(j:a9):SetTable.below xs j<=xs.size/\(∀i a,i<SetTable.below xs j->xs[i]?=aq a->a<j)/\(∀i a,SetTable.below xs j<=i->xs[i]?=aq a->j<=a):=by
 obtain⟨_,b,c,d⟩:=Jz xs j hr xs.size 0 xs.size AQ cX (by omega) (λi a h=>b8 h (Nat.not_lt_zero _)) (λi a h ha=>by
  have:=(RJ.mp ha).1;omega)
 exact⟨b,c,d⟩
theorem aAZ{xs:ba a9}(hr:xA xs){i a:a9}(h:xs[i]?=aq a):SetTable.below xs (a+1)=i+1:=by
 obtain⟨b,c,d⟩:=Jy hr (a+1);have hi:=(RJ.mp h).1
 rcases Nat.lt_trichotomy (SetTable.below xs (a+1)) (i+1)with z|z|z
 ·have:=d i a (by omega) h;omega
 ·exact z
 ·have hl:i+1<xs.size:=by omega
  have j:xs[i+1]?=aq xs[i+1]:=pB xs _ hl;have h1:=c (i+1) _ z j;have h2:=hr i (i+1) a _ (by omega) h j;omega
theorem aAX{xs:ba a9}(hr:xA xs):SetTable.below xs 0=0:=by
 obtain⟨b,c,d⟩:=Jy hr 0
 rcases Nat.eq_zero_or_pos (SetTable.below xs 0)with z|z
 ·exact z
 ·have hl:0<xs.size:=by omega
  have j:xs[0]?=aq xs[0]:=pB xs _ hl;have:=c 0 _ z j;omega
theorem ar1{α:Type}(xs:ba α)(p:a9)(x:α)(B:p<=xs.size)(i:a9):(SetTable.insertAt xs p x)[i]?=if i<p then xs[i]? else if i=p then aq x else xs[i-1]?:=by
 unfold SetTable.insertAt;have j:(xs.extract 0 p).size=p:=by simp;omega
 have z:((xs.extract 0 p).push x).size=p+1:=by rw[Array.size_push,j]
 rw[Array.getElem?_append,z]
 by_cases h1:i<p
 ·rw[bb (by omega),bb h1,Array.getElem?_push,j,bc (by omega),Array.getElem?_extract];simp;intro h;omega
 ·rw[bc h1]
  by_cases h2:i=p
  ·rw[bb (by omega),bb h2,Array.getElem?_push,j,bb h2]
  ·rw[bc (by omega),bc h2,Array.getElem?_extract]
   by_cases q:i-(p+1)<xs.size-p
   ·rw[bb (by simpa using q),show(p+(i-(p+1)))=i-1 by omega]
   ·rw[bc (by simpa using q),eq_comm,aeT];omega
theorem akQ{xs:ba a9}(hr:xA xs)(j:a9)(hn:xs[SetTable.below xs j]?≠aq j):xA (SetTable.insertAt xs (SetTable.below xs j) j):=by
 obtain⟨b,c,d⟩:=Jy hr j;have d':∀i a,SetTable.below xs j<=i->xs[i]?=aq a->j<a:=λi a h1 h2=>by
  have N:=d i a h1 h2
  rcases Mh j a with z|z
  ·exact z
  ·exfalso;have:a=j:=by omega
   subst this
   rcases Mh (SetTable.below xs a) i with y|y
   ·have hl:SetTable.below xs a<xs.size:=by have:=(RJ.mp h2).1;omega
    have e:xs[SetTable.below xs a]?=aq xs[SetTable.below xs a]:=pB xs _ hl;have g:=d _ _ cX e;have f:=hr _ i _ a y e h2;omega
   ·have:i=SetTable.below xs a:=by omega
    subst this;exact hn h2
 intro i k x y U B q;rw[ar1 _ _ _ b]at B q
 by_cases h1:i<SetTable.below xs j
 ·rw[bb h1]at B
  by_cases h2:k<SetTable.below xs j
  ·rw[bb h2]at q;exact hr i k x y U B q
  ·rw[bc h2]at q
   by_cases N:k=SetTable.below xs j
   ·rw[bb N]at q;cases q;exact c i x h1 B
   ·rw[bc N]at q;exact hr i (k-1) x y (by omega) B q
 ·rw[bc h1]at B;rw[bc (by omega),bc (by omega)]at q
  by_cases N:i=SetTable.below xs j
  ·rw[bb N]at B;cases B;exact d' (k-1) y (by omega) q
  ·rw[bc N]at B;exact hr (i-1) (k-1) x y (by omega) B q
theorem akP(n:a9):xA (Array.range n):=by
 intro i j a b N ha hb;have h1:=(RJ.mp ha);have h2:=(RJ.mp hb);obtain⟨p,q⟩:=h1;obtain⟨B,z⟩:=h2;simp at q z;omega
theorem akR{l:ar a9}(h:l.Pairwise (· < ·)):xA l.toArray:=by
 intro i j a b N ha hb;simp only[List.getElem?_toArray]at ha hb;obtain⟨p,q⟩:=cY.mp ha;obtain⟨B,z⟩:=cY.mp hb;have:=List.pairwise_iff_getElem.mp h i j p B N;rw[q,z]at this;exact this
theorem Dm(t:cp)(ha:a9->a8)(h:a8):∀(fuel:a9) (p:SetTable.Probe) (j:a9) (q:ax a9),SetTable.probe.go t ha h fuel p=aq (.empty j q)->t.slot j=.empty/\∀d,q=aq d->p.dummy=aq d\/t.slot d=.dummy
 |0,p,j,q,e=>by cases e
 |fuel+1,p,j,q,e=>by
  unfold SetTable.probe.go at e;cases B:t.slot p.j with
  |empty =>
   rw[B]at e;dsimp only at e;cases e;exact⟨B,λd hd => .inl hd⟩
  |dummy =>
   rw[B]at e;dsimp only at e;obtain⟨a,b⟩:=Dm t ha h fuel _ j q e;refine⟨a,λd hd=>?_⟩
   rcases b d hd with z|z
   ·have N:(t.advance {p with dummy:=aq p.j}).dummy=aq p.j:=by
     unfold SetTable.advance;split <;> rfl
    rw[N]at z;cases z;exact .inr B
   ·exact .inr z
  |live i =>
   rw[B]at e;dsimp only at e
   by_cases hh:(ha i==h)=a5
   ·rw[bb hh]at e;cases e
   ·rw[bc hh]at e;obtain⟨a,b⟩:=Dm t ha h fuel _ j q e;refine⟨a,λd hd=>?_⟩
    rcases b d hd with z|z
    ·have N:(t.advance p).dummy=p.dummy:=by
      unfold SetTable.advance;split <;> rfl
     rw[N]at z;exact .inl z
    ·exact .inr z
theorem Sy{t:cp}{j:a9}(h:t.slot j=.empty\/t.slot j=.dummy):t.place[SetTable.below t.place j]?≠aq j:=by
 intro z;unfold SetTable.slot at h;simp only[z,beq_self_eq_true,gT]at h
 rcases h with h|h <;> cases h
theorem axC{t:cp}{h:a8}{j:a9}{b:bt}(e:t.freeSlot h=aq (j,b)):t.place[SetTable.below t.place j]?≠aq j:=by
 unfold SetTable.freeSlot at e;split at e
 ·next B q N =>
  cases e;obtain⟨a,c⟩:=Dm t _ h _ _ B q N;cases q with
  |none=>exact Sy (.inl a)
  |some d =>
   rcases c d rfl with z|z
   ·cases z
   ·exact Sy (.inr z)
 ·cases e
structure pW(led:bt)(t:cp):Prop where
 rise:xA t.place
 led:t.led=led
theorem ag5(led:bt):pW led (.fresh 0 0 led):=⟨λi j a b _ h=>by simp[SetTable.fresh]at h,rfl⟩
theorem RZ{led:bt}{t:cp}(h:pW led t)(n:a9):pW led (t.standIn n):=⟨akP n,h.led⟩
theorem ag4{led:bt}{t:cp}(h:pW led t)(es:ba (a8×au))(q:a8)(x:au):pW led (layNew t es q x).2.1:=by
 unfold layNew;split
 ·next slot z e =>
  show pW led ((t.put slot).1.orStandIn _);have j:pW led (t.put slot).1:=⟨akQ h.rise slot (axC e),h.led⟩;unfold SetTable.orStandIn;split
  ·exact j
  ·exact RZ j _
 ·exact RZ h _
theorem ag2{led:bt}{t:cp}(h:pW led t)(es:ba (a8×au))(w:a9):pW led (relayAll t es w).2.1:=by
 unfold relayAll;split
 ·next j order e =>
  show pW led (if(coversAll order es.size&&j.fits (order.filterMap (es[·]?)).size)=a5 then(order.filterMap (es[·]?),j,aw)else(es,t.standIn es.size,a5)).2.1;split
  ·show pW led j;unfold SetTable.relaid SetTable.laid at e;cases B:SetTable.layClean (SetTable.sizeAbove w-1) (es.map (·.1))with
   |none=>rw[B]at e;cases e
   |some c =>
    rw[B]at e;simp at e;obtain⟨N,d⟩:=e;subst N;refine⟨akR ?_,h.led⟩;rw[List.map_filterMap];refine List.Pairwise.filterMap _ (R:=(· < ·)) (λa b U x z y q=>?_) List.pairwise_lt_range;simp at z q;obtain⟨_,_,rfl⟩:=z;obtain⟨_,_,rfl⟩:=q;exact U
  ·exact RZ h _
 ·exact RZ h _
theorem ag3{led:bt}{t:cp}(h:pW led t)(b:bt):pW led {t with plain:=b}:=⟨h.rise,h.led⟩
noncomputable def oU(w:bz):bt:=!w.params.followText "set-order"
def kZ(prog:bp)(w:bz)(h:b9)(a:az)(es:ba (a8×au)):Prop :=
 ∃o ep t,h.get? a=aq o/\o.ExactSet/\o.data=.set es ep t/\ElemsOf (c5 prog w) es.toList/\es.size<ea/\t.fits es.size=a5/\pW (oU w) t
section
variable{prog:bp}{w:bz}{A:bx}{E:au->ay->Prop}{s:ay}
theorem kZ.at{h h':b9}{a:az}{es:ba (a8×au)}(x:kZ prog w h a es)(e:∀o,h.get? a=aq o->h'.get? a=aq o):kZ prog w h' a es :=
 let ⟨o,q,t,j,r⟩:=x; ⟨o,q,t,e _ j,r⟩
theorem kZ.typeIs{a:az}{es:ba (a8×au)}(x:kZ prog w s.heap a es):s.TypeIs (.ref a) "set":=let ⟨o,_,_,q,j,_⟩:=x; ⟨o,q,j.1⟩
theorem kZ.lt{h:b9}{a:az}{es:ba (a8×au)}(x:kZ prog w h a es):a<h.objs.size:=let ⟨_,_,_,j,_⟩:=x;eG j
theorem ac2{g:bt->Sem Unit}(r:∀(b:bt) (s₁:ay) (m:Unit->ay->Prop),m () s₁->wpAny (bw prog w) A (g b) m E s₁)
  {a:az} {o:cz} {es:ba (a8×au)} {ep:a9} {t:cp} (U:s.heap.get? a=aq o) (hex:o.ExactSet) (hd:o.data=.set es ep t)
  {j:ba (a8×au)} {q:cp} (n:ElemsOf (c5 prog w) j.toList) (rN:j.size<ea) (x:q.fits j.size=a5) (hT:pW (oU w) q) {y:bt} {R:ax bt->ay->Prop}
  (h:∀h' dY,Heap.SameBut a s.heap h'->kZ prog w h' a dY->dY.toList.Perm j.toList->R (aq a5) {s with heap:=h' }) :
  wpAny (bw prog w) A (do
    storeSet a j q
    if(!y&&q.tooFull)=a5 then do
      g (relayAll q j (SetTable.grown j.size)).2.2
      storeSet a (relayAll q j (SetTable.grown j.size)).1 (relayAll q j (SetTable.grown j.size)).2.1
      pure (aq a5)
     else pure (aq a5)) R E s:=by
 have store:∀{h:b9} {o:cz} {es:ba (a8×au)} {ep:a9} {t:cp} (dY:ba (a8×au)) (z:cp),h.get? a=aq o->o.data=.set es ep t->(h.update a (Obj.putSet dY z)).get? a=aq {o with data:=.set dY (ep+1) z}:=λ{h o es ep t} dY z U hd=>by
  have:=QM (Obj.putSet dY z) U (by rw[putSet_of dY z hd];rfl);rw[putSet_of dY z hd]at this;exact this
 refine aM (wpAny_storeSet_of U hd ?_ (Iw rN));have c:=store j q U hd;have l:=Heap.SameBut.update s.heap a (Obj.putSet j q);split
 ·have B:=relayAll_perm q j (SetTable.grown j.size);have f:=relayAll_fits q j (SetTable.grown j.size);have i:=ag2 hT j (SetTable.grown j.size);generalize u:relayAll q j (SetTable.grown j.size)=Rl at B f i ⊢;obtain⟨N,k,v⟩:=Rl;dsimp only at B f i ⊢;have e:ElemsOf (c5 prog w) N.toList:=n.perm B;have d:N.size=j.size:=by rw[<-gG,B.length_eq,gG]
  have gW:N.size<ea:=by rw[d];exact rN
  refine aM (r _ _ _ ?_);refine aM (wpAny_storeSet_of c rfl ?_ (Iw gW));have p:=store N k c rfl;exact bL (h _ N (l.trans (Heap.SameBut.update _ a _)) ⟨_,_,k,p,hex,rfl,e,gW,f,i⟩ B)
 ·exact bL (h _ j l ⟨_,_,q,c,hex,rfl,n,rN,x,hT⟩ (FJ _))
theorem aBO{a:az}{es:ba (a8×au)}{k:a8}{x:au}{Q:bt->ay->Prop}(r:(c5 prog w).is k x=a5)(p:x.scannable=a5)(hS:kZ prog w s.heap a es)(H:es.size+1<ea)
  (h:∀b h' dY,Heap.SameBut a s.heap h'->kZ prog w h' a dY->(((∃e∈es.toList,(c5 prog w).is k e.2=a5)/\dY=es)\/((∀e∈es.toList,(c5 prog w).is k e.2≠a5)/\dY.toList.Perm (es.toList++[((c5 prog w).hash k,x)])))->Q b {s with heap:=h' }) :
  wpAny (bw prog w) A (setAddHashed a x ((c5 prog w).hash k)) Q E s:=by
 obtain⟨o,F,t,U,hex,hd,g,hb,n,hT⟩:=hS;unfold setAddHashed setAddHashedIn;refine xO (aM (CH U hd n ?_));dsimp only;rw[byScan_of p hb g];simp only[↓reduceIte];unfold setAddByScan;refine aM ?_;refine aM (vX ?_);refine aM (wpAny_setScan_of r U hd n g ?_);cases hr:List.findIdx? (λe=>(c5 prog w).is k e.2) es.toList with
 |some j =>
  dsimp only;obtain⟨D,l,_⟩:=List.findIdx?_eq_some_iff_getElem.mp hr;refine bL (bL ?_);have e:s={s with heap:=s.heap}:=by cases s;rfl
  rw[e];exact h _ s.heap es (Heap.SameBut.refl a s.heap) ⟨o,F,t,U,hex,hd,g,hb,n,hT⟩ (.inl ⟨⟨es.toList[j],QD D,l⟩,rfl⟩)
 |none =>
  dsimp only;have C:∀e∈es.toList,(c5 prog w).is k e.2≠a5:=λe he z=>by
   have:=List.findIdx?_eq_none_iff.mp hr e he;rw[z]at this;exact Bool.noConfusion this
  have m:∀(b:bt) {s₁:ay} {c:Unit->ay->Prop},c () s₁->wpAny (bw prog w) A (match b with|true=>rule "set.scan.the-table-gave-way" | false=>pure ()) c E s₁ :=
   λb s₁ c q=>by cases b <;> first|exact bL q|exact vX q
  have B:=layNew_perm t es ((c5 prog w).hash k) x;have f:=layNew_fits t es ((c5 prog w).hash k) x;have d:=ag4 hT es ((c5 prog w).hash k) x;generalize hL:layNew t es ((c5 prog w).hash k) x=L at B f d ⊢;obtain⟨i,I,K,G⟩:=L;dsimp only at B f d ⊢;rw[FU]at B;have y:ElemsOf (c5 prog w) i.toList:=(g.push r p).perm B;have u:i.size<ea:=by rw[<-gG,B.length_eq,iR,gG];simpa using H
  refine aM (m _ ?_);have v:∀b h' dY,Heap.SameBut a s.heap h'->kZ prog w h' a dY->dY.toList.Perm i.toList->Q b {s with heap:=h' }:=λb h' dY N nM z=>h b h' dY N nM (.inr ⟨C,z.trans B⟩);split
  ·refine aM ?_;rw[hashByValue_scannable 8 p];refine bL ?_;refine ac2 ?_ U hex hd y u ?_ ?_ ?_
   ·intro b s₁ c q;cases b <;> first|exact bL q|exact vX q
   ·split
    ·exact f
    ·exact SetTable.fits_plain_off f
   ·split
    ·exact d
    ·exact ag3 d _
   ·intro h' dY N nM z;dsimp only;exact wpAny_pure (v _ h' dY N nM z)
  ·refine aM (bL ?_);simp only[↓reduceIte];refine ac2 ?_ U hex hd y u f d ?_
   ·intro b s₁ c q;cases b <;> first|exact bL q|exact vX q
   ·intro h' dY N nM z;dsimp only;exact wpAny_pure (v _ h' dY N nM z)
end
def Nums(es:ba (a8×au))(ms:ar a8):Prop:=c7 (es.toList.map (·.2)) ms
theorem aoY{es dY:ba (a8×au)}{ms:ar a8}(h:Nums es ms){l:ar (a8×au)}(hl:dY.toList.Perm l){nX:ar a8}(h2:c7 (l.map (·.2)) nX):∃j,Nums dY j/\j.Perm nX:=by
 have hall:∀v∈dY.toList.map (·.2),∃n t,v=.int n t:=λv hv=>by
  have:=(hl.map (·.2)).mem_iff.mp hv;exact IntsAre.all h2 v this
 refine⟨_,intsAre_map _ hall,?_⟩;have:=(hl.map (·.2)).map numOf;rw[IntsAre.nums h2]at this;exact this
theorem ints_snoc:∀{vs:ar au} {ns:ar a8},c7 vs ns->∀(n:a8) (t:Tok),c7 (vs++[.int n t]) (ns++[n])
 |_,_,.nil,n,t => .cons n t .nil
 |_,_,.cons m u h,n,t => .cons m u (ints_snoc h n t)
open PyProof.Rows PySem.Spec
set_option maxRecDepth 100000
set_option compiler.extract_closed false
set_option genSizeOf false
set_option bootstrap.genMatcherCode false
theorem Wi{prog:bp}{w:bz}:∀{l:ar (a8×au)} {ms:ar a8},c7 (l.map (·.2)) ms->∀k:a8,(∃e∈l,(c5 prog w).is k e.2=a5)<->k∈ms
 |[],_,h,k=>by
  cases h;constructor
  ·rintro⟨e,he,_⟩;cases he
  ·intro z;cases z
 |(q,v)::l,_,h,k=>by
  cases h with
  |cons n t h =>
   have ih:=Wi (prog:=prog) (w:=w) h k;constructor
   ·rintro⟨e,he,j⟩
    rcases dU.mp he with z|z
    ·subst z;have:=(c5 prog w).inj _ _ _ j (intKind_is prog w n t);rw[this];exact List.mem_cons_self ..
    ·exact fS _ (ih.mp ⟨e,z,j⟩)
   ·intro z
    rcases dU.mp z with z|z
    ·subst z;exact⟨_,List.mem_cons_self ..,intKind_is prog w k t⟩
    ·obtain⟨e,he,j⟩:=ih.mpr z;exact⟨e,fS _ he,j⟩
section
variable{prog:bp}{w:bz}{A:bx}{R:Result->ay->Prop}{I:az}{fp wr:ar az}{G:ba GenState->ba GenState->Prop}{n:a9}{P:a9->au->Prop}{St:a9->ay->Prop}
theorem az4(W:WalksS prog w A.in1 I fp wr G n P St)(S:az)(DZ:S∉fp)
  (val:a9->a8) (Fw:∀i v,P i v->∃t,v=.int (val i) t) (hb:n+1<ea) :
  ∀(k i:a9) (s:ay) (es:ba (a8×au)) (ms:ar a8),n-i=k->i<=n->St i s ->
   kZ prog w s.heap S es->Nums es ms->ms.Perm (firstMet val i) ->
   (∀s' dY nX,Moved (S::wr) G s s'->kZ prog w s'.heap S dY->Nums dY nX->nX.Perm (firstMet val n)->R (.ok (.ret .none)) s') ->
   codeAny (bw prog w) A (.builtin "set.update.loop" ⟨[.ref S,.ref I],[]⟩) R s:=by
 have N:S∉wr:=λh=>DZ (W.sub _ h);have hsub:∀b∈wr,b∈S::wr:=λb hb=>fS _ hb;intro k
 induction k with
 |zero =>
  intro i s es ms hk hi c hS q j hR;have U:i=n:=by omega
  subst U;refine OO aBT ?_;rw[ZE adQ _];show wpAny _ A.in1 (ei (.ref I) >>= _) _ _ s;refine aM (W.done s _ _ c λs' hm=>?_);show wpAny _ A.in1 (ret Value.none) _ _ s';exact bL (hR s' es ms (hm.mono hsub) (hS.at λo e=>hm.heap S _ N e) q j)
 |succ k ih =>
  intro i s es ms hk hi c hS q j hR;have V:i<n:=by omega
  refine OO aBT ?_;rw[ZE adQ _];show wpAny _ A.in1 (ei (.ref I) >>= _) _ _ s;refine aM (W.item i s _ _ V c λv s' m D hm=>?_);obtain⟨t,rfl⟩:=Fw i v m;have nM:kZ prog w s'.heap S es:=hS.at λo e=>hm.heap S _ N e;show wpAny _ A.in1 (d8 [Value.int (val i) t] (setAdd S (.int (val i) t)) >>= _) _ _ s';refine aM (xO ?_);unfold setAdd;refine xO ?_;refine aM ((c5 prog w).pyHash (k:=val i) (intKind_is _ _ _ _) ?_);have hsz:es.size=(firstMet val i).length:=by
   have h1:=IntsAre.length q;rw[lQ,gG]at h1;rw[h1];exact j.length_eq
  have Ga:es.size+1<ea:=by have:=firstMet_length_le val i;omega
  refine aBO (s:={s' with toks:=s'.toks+1}) (intKind_is _ _ _ _) rfl nM Ga λb h' dY L l Gg=>?_;have X:∀B,Nums dY B->B.Perm (firstMet val (i+1))->_:=λB H K =>
   bL (M:=bw prog w) (A:=A.in1) (s:={s' with heap:=h',toks:=s'.toks+1}) (a:=PySem.Fin.again (.builtin "set.update.loop" ⟨[.ref S,.ref I],[]⟩)) (Q:=λfin s'=>match fin with | .done f=>R (.ok f) s' | .again T=>T.quiet=a5/\codeAny (bw prog w) A T R s') (E:=λe s'=>R (.error e) s')
    ⟨TL adQ _,ih (i+1) _ dY B (by omega) V (W.frame _ s' _ _ D (JG _) λb hb o e=>by
     rw[L.2 b (λh:b=S=>DZ (by rw[<-h];exact hb))];exact e) l H K λCU p F C x r u=>by
     refine hR CU p F (Moved.trans W.gtrans ((hm.mono hsub).then_heap (JG _) λb o hb e=>?_) C) x r u;rw[L.2 b (λh:b=S=>hb (by rw[h];exact List.mem_cons_self))];exact e⟩
  have UY:=Wi (prog:=prog) (w:=w) q (val i)
  rcases Gg with⟨U,rfl⟩|⟨yP,hp⟩
  ·refine X ms q ?_;have BA:val i∈firstMet val i:=j.mem_iff.mp (UY.mp U);rw[firstMet_succ];unfold step_dedup;rw[bb (by rw[List.any_eq_true];exact⟨_,BA,by simp⟩)];exact j
  ·have g:val i∉firstMet val i:=λz=>by
    obtain⟨e,he,d⟩:=UY.mpr (j.mem_iff.mpr z);exact yP e he d
   have h2:c7 ((es.toList++[((c5 prog w).hash (val i),Value.int (val i) t)]).map (·.2)) (ms++[val i]):=by
    rw[xD];exact ints_snoc q (val i) t
   obtain⟨B,H,K⟩:=aoY q hp h2;refine X B H ?_;rw[firstMet_succ];unfold step_dedup;rw[bc (by rw[List.any_eq_true];rintro⟨y,hy,e⟩;simp at e;subst e;exact g hy)];exact K.trans (j.append_right _)
end
section
variable{prog:bp}{w:bz}{A:bx}{E:au->ay->Prop}{s:ay}
theorem aiQ(a:au){Q₁:au->ay->Prop}
  (h:Q₁ (.ref s.heap.objs.size) {s with heap:=s.heap.push {cls:=.type "set",dict:=av,data:=.set #[] 0 (.fresh 0 0 (oU w))} }) :
  codeAny (bw prog w) A (.call (.builtin "set.__new__") ⟨[.type "set",a],[]⟩) (wants Q₁ E) s:=by
 refine codeAny_of_tree ?_;show wpAny _ A.in1 (do checkBuiltinCall "set.__new__" ⟨[.type "set",a],[]⟩;again (.builtin "set.__new__" ⟨[.type "set",a],[]⟩)) _ _ s;refine aM (wpAny_of_eq (F.newCall_set_1 a) (bL ⟨TL F.plain_set_new _,OO F.entry_set_new ?_⟩));rw[ZE F.plain_set_new _];unfold Builtin.«set.__new__» Builtin.Frozenset.newClass;have hsub:=sub_set_self;obtain⟨j,g,d,tk,os⟩:=s;dsimp only
 wp_walk
 refine CI (bL ?_);dsimp only;simp only[newObj];refine aM (wpAny_alloc (bL ?_));exact bL h
set_option maxHeartbeats 3200000 in
theorem aAI{l:az}{items:ba au}{ns:ar a8}{Q:au->ay->Prop}
  (hh:A.handled=av) (hl:s.heap.IsList l items) (hi:PyProof.Rows.IntsAre items.toList ns) (hb:items.size+1<ea)
  (h:∀(h':b9) (tk:a9) es ms,kZ prog w h' s.heap.objs.size es->Nums es ms->ms.Perm (firstMet (λi=>ns.getD i 0) items.size) ->
   (∀b o,b<s.heap.objs.size->s.heap.get? b=aq o->h'.get? b=aq o)->Q (.ref s.heap.objs.size) {s with heap:=h',toks:=tk}) :
  wpAny (bw prog w) A (call (.type "set") [.ref l]) Q E s:=by
 obtain⟨c,tl,aEZ⟩:=F.called_set.mro;have aE3:=F.called_set.made;have hsub:=F.called_set.sub;refine FY (codeAny_of_tree ?_);show wpAny _ _ (callAny (.type "set") _) _ _ _;refine bL ⟨Code.quiet_builtin _ (by decide +kernel),OO F.entry_type_call ?_⟩;rw[Around.under_plain (weight_type_call_type "set" [.ref l] []) rfl];have h1:=F.called_set.notType;have h2:=F.called_set.canCreate;have hct:=F.typeCall_set_1 (.ref l)
 repeat (any_goals (first|assumption|wp_step))
 refine vN (aiQ (.ref l) (E:=E) (Q₁:=λobj s₁=>obj=.ref s.heap.objs.size/\s₁={s with heap:=s.heap.push {cls:=.type "set",dict:=av,data:=.set #[] 0 (.fresh 0 0 (oU w))} }) ⟨rfl,rfl⟩) λr s₁ hr=>?_;cases r with
 |error e=>exact hr
 |ok fl =>
  cases fl with
  |ret obj =>
   obtain⟨rfl,rfl⟩:=hr;have hS:(s.heap.push {cls:=.type "set",dict:=av,data:=.set #[] 0 (.fresh 0 0 (oU w))}).get? s.heap.objs.size=aq {cls:=.type "set",dict:=av,data:=.set #[] 0 (.fresh 0 0 (oU w))}:=gO _ rfl;have hT:Shared.TypeIs {s with heap:=s.heap.push {cls:=.type "set",dict:=av,data:=.set #[] 0 (.fresh 0 0 (oU w))} } (.ref s.heap.objs.size) "set":=⟨_,hS,rfl⟩;have hli:=F.called_set.init.lookup;have VN:=F.called_set.init.bind (.ref s.heap.objs.size)
   repeat (any_goals (first|assumption|wp_step))
   refine vN (codeAny_call_builtin (R:=wants (λr s₂=>r=.none/\∃h' tk es ms,s₂={s with heap:=h',toks:=tk} /\
     kZ prog w h' s.heap.objs.size es/\Nums es ms/\ms.Perm (firstMet (λi=>ns.getD i 0) items.size) /\
     (∀b o,b<s.heap.objs.size->s.heap.get? b=aq o->h'.get? b=aq o)) E) F.called_set.init.plain F.entry_set_init (check_set_init_1 hT ?_)) λr₂ s₂ Fz=>?_
   ·obtain⟨ol,UU,gM,nl,Zp⟩:=hl;obtain⟨aD0,aoO,aDZ,anW⟩:=ol;simp only at gM Zp;subst gM;subst Zp;have atA:(s.heap.push {cls:=.type "set",dict:=av,data:=.set #[] 0 (.fresh 0 0 (oU w))}).get? l=aq {cls:=.type "list",dict:=aoO,data:=.seq items nl,slots:=anW}:=eI _ UU;have aER:=F.sub_list_set;have aES:=F.sub_list_frozenset;have gD:(Value.type "list" == Value.type "dict")=aw:=by decide
    have vH:(s.heap.push {cls:=.type "set",dict:=av,data:=.set #[] 0 (.fresh 0 0 (oU w))}).IsList l items:=⟨_,atA,rfl,nl,rfl⟩;unfold Builtin.«set.__init__» noKeywords Builtin.Frozenset.updateFrom;generalize hPI:pyIter=PI
    wp_walk
    subst hPI;refine wpAny_pyIter_list vH ?_;refine aM (wpAny_runValue ?_);have NM:l<s.heap.objs.size:=eG UU;have hh3:A.in1.in1.in1.handled=av:=by simp[hh]
    have atJ:l≠(s.heap.push {cls:=.type "set",dict:=av,data:=.set #[] 0 (.fresh 0 0 (oU w))}).objs.size:=by
     rw[KI];exact gF (XY NM)
    have DZ:s.heap.objs.size∉[(s.heap.push {cls:=.type "set",dict:=av,data:=.set #[] 0 (.fresh 0 0 (oU w))}).objs.size,l]:=by
     rw[KI];simp only[dU,mJ,zJ,yD,not_or];exact⟨gF (XX _),JF NM⟩
    have Fw:∀(i:a9) (v:au),items[i]?=aq v->∃t,v=.int ((λi=>ns.getD i 0) i) t:=λi v hv =>
     PyProof.Rows.IntsAre.int_at hi i v (by rw[nB];exact hv)
    refine az4 ((Walks.list hh3 _ l atJ items).toS) s.heap.objs.size
     DZ (λi=>ns.getD i 0) Fw hb (items.size-0) 0 _ #[] [] (by omega) AQ
     ⟨⟨_,gO _ rfl,rfl,rfl⟩,(vH.push _)⟩ ?hS0 .nil (FJ _) ?hR
    case hS0 =>
     have NR:((s.heap.push {cls:=.type "set",dict:=av,data:=.set #[] 0 (.fresh 0 0 (oU w))}).push {cls:=.type "list_iterator",data:=.fields #[.ref l,.int 0 0]}).get? s.heap.objs.size
       = aq {cls:=.type "set",dict:=av,data:=.set #[] 0 (.fresh 0 0 (oU w))}:=eI _ hS
     exact⟨_,0,_,NR,⟨rfl,rfl,rfl⟩,rfl,λe he=>by simp at he,by decide,rfl,ag5 _⟩
    case hR =>
     intro s' dY nX hm nM Hw BI;obtain⟨h',g',d',SD,Dx⟩:=s';have eg:g'=s.gens:=hm.gens;have ed:d'=s.drawn:=hm.drawn;have eo:Dx=s.os:=hm.os;subst eg;subst ed;subst eo;show wpAny _ _ _ _ _ _;refine bL ?_;show wpAny _ _ (ret Value.none) _ _ _;refine bL ⟨rfl,h',SD,dY,nX,rfl,nM,Hw,BI,λb o hb e=>?_⟩;have rN:b≠s.heap.objs.size:=gF hb;have gW:b≠(s.heap.push {cls:=.type "set",dict:=av,data:=.set #[] 0 (.fresh 0 0 (oU w))}).objs.size:=by
      rw[KI];exact gF (XY hb)
     exact hm.heap b o (by simp only[dU,mJ,zJ,yD,not_or];exact⟨rN,gW⟩) (eI _ (eI _ e))
   ·cases r₂ with
    |error e=>exact Fz
    |ok fl₂ =>
     cases fl₂ with
     |ret r =>
      obtain⟨rfl,h',tk,es,ms,rfl,nM,Hw,BI,BD⟩:=Fz
      repeat (any_goals (first|assumption|wp_step))
      exact h _ _ es ms nM Hw BI BD
     |_=>exact Fz.elim
  |_=>exact hr.elim
end
set_option maxRecDepth 100000
set_option compiler.extract_closed false
set_option genSizeOf false
set_option bootstrap.genMatcherCode false
theorem pP:Slot "set_iterator" "__next__" "set_iterator.__next__" :=
 .of (owner := "set_iterator") (n := "__next__") (by rw[typeLookup_type,builtinLookup_eq_fast];kernel_rfl) (by decide +kernel) (by decide +kernel) (by decide +kernel)
  (by first|exact .inl (by decide +kernel)|exact .inr (by decide +kernel)) (by rw[isSubtype_type];kernel_rfl)
theorem Sx:Slot "set_iterator" "__iter__" "set_iterator.__iter__" :=
 .of (owner := "set_iterator") (n := "__iter__") (by rw[typeLookup_type,builtinLookup_eq_fast];kernel_rfl) (by decide +kernel) (by decide +kernel) (by decide +kernel)
  (by first|exact .inl (by decide +kernel)|exact .inr (by decide +kernel)) (by rw[isSubtype_type];kernel_rfl)
theorem IH:entryFor table "set_iterator.__next__" = aq Builtin.«set_iterator.__next__»:=entryFor_of_tree (by kernel_rfl)
theorem axU:entryFor table "set_iterator.__iter__" = aq Builtin.«dict_keyiterator.__iter__»:=entryFor_alias (id' := "dict_keyiterator.__iter__") (by kernel_rfl) rfl (by decide +kernel) (by kernel_rfl)
theorem axV:entryFor table "set.__iter__" = aq Builtin.«frozenset.__iter__»:=entryFor_alias (id' := "frozenset.__iter__") (by kernel_rfl) rfl (by decide +kernel) (by kernel_rfl)
theorem Vf:Manifest.owners.lookup (String.ofList ['r','o','t','a','r','e','t','i','_','t','e','s'].reverse)=aq Manifest.sig_set_iterator:=by kernel_rfl
theorem JC(a:au):argsOk "set_iterator.__next__" ⟨[a],[]⟩:=by
 unfold argsOk;rw[signature?_of (id := "set_iterator.__next__") (n:=['_','_','t','x','e','n','_','_']) (o:=['r','o','t','a','r','e','t','i','_','t','e','s']) (by kernel_rfl) Vf];kernel_rfl
theorem aBD(a:au):argsOk "set_iterator.__iter__" ⟨[a],[]⟩:=by
 unfold argsOk;rw[signature?_of (id := "set_iterator.__iter__") (n:=['_','_','r','e','t','i','_','_']) (o:=['r','o','t','a','r','e','t','i','_','t','e','s']) (by kernel_rfl) Vf];kernel_rfl
def lS(h:b9)(I a:az)(first:au)(i n ep:a9):Prop:=h.get? I=aq {cls:=.type "set_iterator",data:=.fields #[first,.int i 0,.ref a,.int n 0,.int ep 0]}
def rV(w:bz)(h:b9)(a:az)(es:ba (a8×au))(ep:a9)(t:cp):Prop:=∃o,h.get? a=aq o/\o.data=.set es ep t/\t.fits es.size=a5/\pW (oU w) t
theorem lS.typeIs{s:ay}{I a:az}{f:au}{i n ep:a9}(x:lS s.heap I a f i n ep):s.TypeIs (.ref I) "set_iterator":=⟨_,x,rfl⟩
theorem lS.at{h h':b9}{I a:az}{f:au}{i n ep:a9}(x:lS h I a f i n ep)(e:∀o,h.get? I=aq o->h'.get? I=aq o):lS h' I a f i n ep:=e _ x
theorem rV.at{w:bz}{h h':b9}{a:az}{es:ba (a8×au)}{ep:a9}{t:cp}(x:rV w h a es ep t)(e:∀o,h.get? a=aq o->h'.get? a=aq o):rV w h' a es ep t:=let ⟨o,j,r⟩:=x; ⟨o,e _ j,r⟩
noncomputable def AF(t:cp)(i:a9):a9:=if i=0 then 0 else t.place.getD (i-1) 0+1
theorem Sz{t:cp}(h:xA t.place){i:a9}(hi:i<=t.place.size):SetTable.below t.place (AF t i)=i:=by
 unfold AF
 by_cases j:i=0
 ·rw[bb j,aAX h,j]
 ·rw[bc j];have hl:i-1<t.place.size:=by omega
  have q:t.place[i-1]?=aq (t.place.getD (i-1) 0):=by simp[Array.getD,hl]
  rw[aAZ h q];omega
section
variable{prog:bp}{w:bz}{A:bx}{E:au->ay->Prop}{s:ay}
theorem ao8{I a:az}{es:ba (a8×au)}{ep i:a9}{t:cp}{x:a8×au}{Q:ax au->ay->Prop}(hit:lS s.heap I a (.int (AF t i) 0) i es.size ep)(b:rV w s.heap a es ep t)
  (hb:w.params.followText "set-order" = aw) (hd:(!t.plain&&decide (es.size>1))=aw) (N:es[i]?=aq x)
  (c:∀h',lS h' I a (.int (AF t (i+1)) 0) (i+1) es.size ep->Heap.SameBut I s.heap h'->Q (aq x.2) {s with heap:=h' }):wpAny (bw prog w) A (ei (.ref I)) Q E s:=by
 obtain⟨os,B,z,j,hT⟩:=id b;have g:=j;simp only[SetTable.fits,rC,EW,BN]at g;have l:i<es.size:=(RJ.mp N).1;have q:i<t.place.size:=by omega
 have d:t.place[i]?=aq (t.place.getD i 0):=by simp[Array.getD,q]
 have h:(!t.led && !es.isEmpty)=aw:=by rw[hT.led];simp[oU,hb]
 unfold ei;refine aM (FZ (LC (name:=Str.ofString "__next__") hit.typeIs pP
  (vZ pP hit.typeIs IH ?_ (JC _))))
 unfold Builtin.«set_iterator.__next__»;refine aM (bL ?_);refine aM (LB hit rfl ?_);dsimp only;refine aM (FW B z j ?_);rw[bc (by simp)];refine aM ?_;unfold setNext;refine aM (CH B z j ?_);dsimp only;unfold setsByText;refine aM (aM (CI (bL ?_)));refine vY (oH (show ¬(w.params.followText "set-order" = a5)by rw[hb];simp)) ?_;refine vY (oH (show ¬((!t.plain&&decide (es.size>1))=a5)by rw[hd];simp)) ?_;refine aM ?_;show wpAny (bw prog w) A.in1 (if(!t.led && !es.isEmpty)=a5 then unsupported "set:maker-not-led" else pure ()) _ _ _;refine vY (by simp[h]) (bL ?_);rw[KH,Sz hT.rise (by omega),N,d];refine bL ?_;dsimp only;refine aM (zX hit (by simp) λh1 f U=>?_);refine aM (zX f (by simp) λh2 e k=>?_);refine bL ⟨_,rfl,bL (c h2 ?_ (U.trans k))⟩;unfold lS;rw[e];have:AF t (i+1)=t.place.getD i 0+1:=by unfold AF;simp
 rw[this];simp[cn]
theorem ao9{I a:az}{es:ba (a8×au)}{ep:a9}{t:cp}{Q:ax au->ay->Prop}(hh:A.handled=av)(hit:lS s.heap I a (.int (AF t es.size) 0) es.size es.size ep)(N:rV w s.heap a es ep t)
  (hb:w.params.followText "set-order" = aw) (hd:(!t.plain&&decide (es.size>1))=aw)
  (U:∀h',Heap.ExtBut I s.heap h'->Q av {s with heap:=h' }):wpAny (bw prog w) A (ei (.ref I)) Q E s:=by
 obtain⟨os,z,q,j,hT⟩:=id N;have c:=j;simp only[SetTable.fits,rC,EW,BN]at c;have d:(!t.led && !es.isEmpty)=aw:=by rw[hT.led];simp[oU,hb]
 unfold ei;refine aM (FZ (LC (name:=Str.ofString "__next__") hit.typeIs pP
  (vZ pP hit.typeIs IH ?_ (JC _))))
 unfold Builtin.«set_iterator.__next__»;refine aM (bL ?_);refine aM (LB hit rfl ?_);dsimp only;refine aM (FW z q j ?_);rw[bc (by simp)];refine aM ?_;unfold setNext;refine aM (CH z q j ?_);dsimp only;unfold setsByText;refine aM (aM (CI (bL ?_)));refine vY (oH (show ¬(w.params.followText "set-order" = a5)by rw[hb];simp)) ?_;refine vY (oH (show ¬((!t.plain&&decide (es.size>1))=a5)by rw[hd];simp)) ?_;refine aM ?_;show wpAny (bw prog w) A.in1 (if(!t.led && !es.isEmpty)=a5 then unsupported "set:maker-not-led" else pure ()) _ _ _;refine vY (by simp[d]) (bL ?_);rw[KH,Sz hT.rise (by omega),Array.getElem?_eq_none cX];refine bL ?_;dsimp only;refine aM (zX hit (by simp) λh1 e B=>?_);show wpAny _ _ (newExc (.type "StopIteration") [] >>= _) _ _ _;refine aM ?_;simp only[newExc,newTuple];refine aM (uO ?_ (by size_fits));refine aM (m:=d9 _ _) (wpAny_of_eq (a:=Value.none) (by first|rfl|(simp only[d9];rfl)) ?_);refine uO ?_ (by size_fits);simp only[raiseNew];refine aM (wpAny_handled ?_);rw[show A.in1.handled=av from hh];refine aM (bL (wpAny_throw ?_));refine aM (ZH (T := "StopIteration") (b:=a5) ⟨_,gO _ rfl,rfl⟩ isSubtype_stop ?_);exact bL (U _ ((B.extBut.push _).push _))
end
set_option maxRecDepth 100000
set_option compiler.extract_closed false
set_option genSizeOf false
set_option bootstrap.genMatcherCode false
theorem Jc{α:Type}:∀(l:ar α) (i:a9) (h:i<l.length),(l[i]::l.eraseIdx i).Perm l
 |[],i,h=>b8 h (Nat.not_lt_zero _)
 |x::l,0,h=>FJ _
 |x::l,i+1,h=>by
  have ih:=Jc l i (by simpa using h);simp only[List.getElem_cons_succ,List.eraseIdx_cons_succ];exact(List.Perm.swap _ _ _).trans (ih.cons x)
theorem Vc{α:Type}(f:a9->a9):∀(fuel k:a9) (left:ar α) (ab:ba α),left.length=fuel->(pickOrder.go f fuel k left ab).toList.Perm (ab.toList++left)
 |0,k,left,ab,h=>by
  have:left=[]:=List.length_eq_zero_iff.mp h;subst this;unfold pickOrder.go;simp
 |fuel+1,k,left,ab,h=>by
  have hi:f k%left.length<left.length:=Nat.mod_lt _ (by omega);unfold pickOrder.go;rw[dZ hi];have ih:=Vc f fuel (k+1) (left.eraseIdx (f k%left.length)) (ab.push left[f k%left.length]) (by rw[List.length_eraseIdx_of_lt hi];omega);refine ih.trans ?_;rw[FU,jX];exact(Jc _ _ hi).append_left _
theorem Dr{α:Type}(f:a9->a9)(xs:ba α):(pickOrder f xs).toList.Perm xs.toList:=by
 have h:=Vc f xs.size 0 xs.toList #[] (by simp);simp only[zK]at h;exact h
section
variable{prog:bp}{w:bz}{A:bx}{E:au->ay->Prop}{s:ay}
theorem Qe{a:az}{es:ba (a8×au)}{ep:a9}{t:cp}{Q:ba (a8×au)->ay->Prop}(z:rV w s.heap a es ep t)(hb:w.params.followText "set-order" = a5)
  (h:Q (pickOrder (w.params.setOrder a ep) es) s):wpAny (bw prog w) A (setWalk a) Q E s:=by
 obtain⟨os,q,j,B,hT⟩:=id z;unfold setWalk;refine aM (CH q j B ?_);dsimp only;unfold setsByText;refine aM (aM (CI (bL ?_)));refine ZG (vM (show w.params.followText "set-order" = a5 from hb)) ?_;exact aM (CI (bL h))
theorem apA{I a:az}{es:ba (a8×au)}{ep i:a9}{t:cp}{x:a8×au}{Q:ax au->ay->Prop}(hit:lS s.heap I a (.int 0 0) i es.size ep)(z:rV w s.heap a es ep t)
  (hb:w.params.followText "set-order" = a5) (U:(pickOrder (w.params.setOrder a ep) es)[i]?=aq x)
  (b:∀h',lS h' I a (.int 0 0) (i+1) es.size ep->Heap.SameBut I s.heap h'->Q (aq x.2) {s with heap:=h' }):wpAny (bw prog w) A (ei (.ref I)) Q E s:=by
 obtain⟨os,q,j,B,hT⟩:=id z;unfold ei;refine aM (FZ (LC (name:=Str.ofString "__next__") hit.typeIs pP
  (vZ pP hit.typeIs IH ?_ (JC _))))
 unfold Builtin.«set_iterator.__next__»;refine aM (bL ?_);refine aM (LB hit rfl ?_);dsimp only;refine aM (FW q j B ?_);rw[bc (by simp)];refine aM ?_;unfold setNext;refine aM (CH q j B ?_);dsimp only;unfold setsByText;refine aM (aM (CI (bL ?_)));refine ZG (vM (show w.params.followText "set-order" = a5 from hb)) ?_;refine vY (by simp) ?_;refine aM (Qe z hb ?_);rw[KH,U];refine bL ?_;simp only[JE];refine aM (zX hit (by simp) λh1 d N=>?_);refine aM (zX d (by simp) λh2 c e=>?_);refine bL ⟨_,rfl,bL (b h2 ?_ (N.trans e))⟩;unfold lS;rw[c];simp[cn]
theorem apB{I a:az}{es:ba (a8×au)}{ep:a9}{t:cp}{Q:ax au->ay->Prop}(hh:A.handled=av)(hit:lS s.heap I a (.int 0 0) es.size es.size ep)(z:rV w s.heap a es ep t)
  (hb:w.params.followText "set-order" = a5)
  (c:∀h',Heap.ExtBut I s.heap h'->Q av {s with heap:=h' }):wpAny (bw prog w) A (ei (.ref I)) Q E s:=by
 obtain⟨os,q,j,B,hT⟩:=id z;have U:(pickOrder (w.params.setOrder a ep) es)[es.size]?=av:=by
  rw[aeT];have:=(Dr (w.params.setOrder a ep) es).length_eq;simp only[gG]at this;omega
 unfold ei;refine aM (FZ (LC (name:=Str.ofString "__next__") hit.typeIs pP
  (vZ pP hit.typeIs IH ?_ (JC _))))
 unfold Builtin.«set_iterator.__next__»;refine aM (bL ?_);refine aM (LB hit rfl ?_);dsimp only;refine aM (FW q j B ?_);rw[bc (by simp)];refine aM ?_;unfold setNext;refine aM (CH q j B ?_);dsimp only;unfold setsByText;refine aM (aM (CI (bL ?_)));refine ZG (vM (show w.params.followText "set-order" = a5 from hb)) ?_;refine vY (by simp) ?_;refine aM (Qe z hb ?_);rw[KH,U];refine bL ?_;simp only[Option.map_none];refine aM (zX hit (by simp) λh1 d N=>?_);show wpAny _ _ (newExc (.type "StopIteration") [] >>= _) _ _ _;refine aM ?_;simp only[newExc,newTuple];refine aM (uO ?_ (by size_fits));refine aM (m:=d9 _ _) (wpAny_of_eq (a:=Value.none) (by first|rfl|(simp only[d9];rfl)) ?_);refine uO ?_ (by size_fits);simp only[raiseNew];refine aM (wpAny_handled ?_);rw[show A.in1.handled=av from hh];refine aM (bL (wpAny_throw ?_));refine aM (ZH (T := "StopIteration") (b:=a5) ⟨_,gO _ rfl,rfl⟩ isSubtype_stop ?_);exact bL (c _ ((N.extBut.push _).push _))
theorem afK{src:Source}{n:a9}{Q:a9->ay->Prop}(hn:n≠0)(h:∀i,i<n->Q i {s with drawn:=s.drawn.bump src}):wpAny (bw prog w) A (choose src n) Q E s:=λj p _=>by
 unfold choose;rw[Sem.wp_choose];exact⟨hn,h _ (Nat.mod_lt _ (by omega))⟩
theorem Qb{α:Type}:∀(n:a9) (xs:ar α) (s:ay) {Q:ar α->ay->Prop},xs.length=n->(∀ys d,ys.Perm xs->Q ys {s with drawn:=d})->wpAny (bw prog w) A (drawOrder n xs) Q E s
 |0,xs,s,Q,hl,h=>by
  have:xs=[]:=List.length_eq_zero_iff.mp hl;subst this;unfold drawOrder;have e:s={s with drawn:=s.drawn}:=by cases s;rfl
  rw[e];exact bL (h [] s.drawn (FJ _))
 |n+1,[],s,Q,hl,h=>by simp at hl
 |n+1,x::xs,s,Q,hl,h=>by
  unfold drawOrder;refine aM (afK (by simp) λi hi=>?_);rw[dZ hi];dsimp only;refine aM (Qb n ((x::xs).eraseIdx i) _ (by rw[List.length_eraseIdx_of_lt hi];omega) λys d j=>?_);refine bL (h ((x::xs)[i]::ys) d ?_);exact(j.cons _).trans (Jc _ _ hi)
end
set_option maxRecDepth 100000
set_option compiler.extract_closed false
set_option genSizeOf false
set_option bootstrap.genMatcherCode false
def KG(h:b9)(T:az)(ps:ar a9):Prop:=h.get? T=aq {cls:=.type "tuple",data:=.seq (ps.map λi:a9=>cn (i:a8)).toArray}
section
variable{prog:bp}{w:bz}{A:bx}{E:au->ay->Prop}{s:ay}
theorem ao6{I a T:az}{es:ba (a8×au)}{ep i j:a9}{t:cp}{ps:ar a9}{x:a8×au}{Q:ax au->ay->Prop}(hit:lS s.heap I a (.ref T) i es.size ep)(b:rV w s.heap a es ep t)(hT:KG s.heap T ps)
  (d:ps[i]?=aq j) (U:es[j]?=aq x)
  (e:∀h',lS h' I a (.ref T) (i+1) es.size ep->Heap.SameBut I s.heap h'->Q (aq x.2) {s with heap:=h' }):wpAny (bw prog w) A (ei (.ref I)) Q E s:=by
 obtain⟨os,z,q,B,_⟩:=id b;unfold ei;refine aM (FZ (LC (name:=Str.ofString "__next__") hit.typeIs pP
  (vZ pP hit.typeIs IH ?_ (JC _))))
 unfold Builtin.«set_iterator.__next__»;refine aM (bL ?_);refine aM (LB hit rfl ?_);dsimp only;refine aM (FW z q B ?_);rw[bc (by simp)];refine aM (wpAny_seqItems hT rfl ?_);have c:(ps.map λi:a9=>cn (i:a8)).toArray[i]?=aq (cn (j:a8)):=by simp[d]
 dsimp only;rw[KH,c];show wpAny _ _ (setNextDrawn a (j:a8).toNat (ep:a8).toNat >>= _) _ _ _;refine aM ?_;unfold setNextDrawn;refine aM (CH z q B ?_);dsimp only;refine vY (by simp) ?_;rw[KH,U];refine bL ?_;refine aM (zX hit (by simp) λh1 f N=>?_);refine bL ⟨_,rfl,bL (e h1 ?_ N)⟩;unfold lS;rw[f];simp[cn]
theorem ao7{I a T:az}{es:ba (a8×au)}{ep:a9}{t:cp}{ps:ar a9}{Q:ax au->ay->Prop}(hh:A.handled=av)(hit:lS s.heap I a (.ref T) es.size es.size ep)(N:rV w s.heap a es ep t)(hT:KG s.heap T ps)
  (c:ps.length=es.size)
  (e:∀h',Heap.ExtBut I s.heap h'->Q av {s with heap:=h' }):wpAny (bw prog w) A (ei (.ref I)) Q E s:=by
 obtain⟨os,B,z,d,_⟩:=id N;unfold ei;refine aM (FZ (LC (name:=Str.ofString "__next__") hit.typeIs pP
  (vZ pP hit.typeIs IH ?_ (JC _))))
 unfold Builtin.«set_iterator.__next__»;refine aM (bL ?_);refine aM (LB hit rfl ?_);dsimp only;refine aM (FW B z d ?_);rw[bc (by simp)];refine aM (wpAny_seqItems hT rfl ?_);have U:(ps.map λi:a9=>cn (i:a8)).toArray[es.size]?=av:=by simp[<-c]
 dsimp only;rw[KH,U];refine aM (zX hit (by simp) λg f j=>?_);refine aM (zX f (by simp) λh1 h q=>?_);show wpAny _ _ (newExc (.type "StopIteration") [] >>= _) _ _ _;refine aM ?_;simp only[newExc,newTuple];refine aM (uO ?_ (by size_fits));refine aM (m:=d9 _ _) (wpAny_of_eq (a:=Value.none) (by first|rfl|(simp only[d9];rfl)) ?_);refine uO ?_ (by size_fits);simp only[raiseNew];refine aM (wpAny_handled ?_);rw[show A.in1.handled=av from hh];refine aM (bL (wpAny_throw ?_));refine aM (ZH (T := "StopIteration") (b:=a5) ⟨_,gO _ rfl,rfl⟩ isSubtype_stop ?_);exact bL (e _ (((j.trans q).extBut.push _).push _))
theorem Dl{I a:az}{f:au}{i n ep:a9}{Q:au->ay->Prop}(hit:lS s.heap I a f i n ep)(h:Q (.ref I) s):wpAny (bw prog w) A (pyIter (.ref I)) Q E s:=by
 refine wpAny_pyIter_slot hit.typeIs Sx (vZ Sx hit.typeIs axU ?_ (aBD _));show wpAny _ _ (ret (.ref I)) _ _ s;exact bL ⟨_,rfl, "set_iterator",_,hit.typeIs,pP.lookup,h⟩
theorem KG.at{h h':b9}{T:az}{ps:ar a9}(x:KG h T ps)(e:∀o,h.get? T=aq o->h'.get? T=aq o):KG h' T ps:=e _ x
theorem afO(hh:A.handled=av)(I a:az)(gD:a≠I)(es:ba (a8×au))(ep:a9)(t:cp)(hb:w.params.followText "set-order" = a5) :
  Walks prog w A I [I,a] [I] es.size (λi v=>((pickOrder (w.params.setOrder a ep) es).toList.map (·.2))[i]?=aq v) (λi h=>lS h I a (.int 0 0) i es.size ep/\rV w h a es ep t)where
 sub:=λb hb=>by simp at hb;simp[hb]
 frame:=λ_ _ _ st q=>⟨st.1.at λo e=>q I (by simp) o e,st.2.at λo e=>q a (by simp) o e⟩
 item:=λi s Q E hi st j=>by
  have hl:i<(pickOrder (w.params.setOrder a ep) es).size:=by
   have:=(Dr (w.params.setOrder a ep) es).length_eq;simp only[gG]at this;omega
  have N:=Pa hl;refine apA st.1 st.2 hb N λh' U z=>?_;exact j _ h' s.toks (by simp[hl]) ⟨U,st.2.at λo e=>z.extBut a o gD e⟩ λb o hb e=>z.extBut b o (λh=>hb (by simp[h])) e
 done:=λs Q E st j=>apB hh st.1 st.2 hb λh' B=>j h' s.toks λb o hb e=>B b o (λh=>hb (by simp[h])) e
 self:=λ_ _ _ _ st j=>Dl st.1 j
theorem afN(hh:A.handled=av)(I a:az)(gD:a≠I)(es:ba (a8×au))(ep:a9)(t:cp)(hb:w.params.followText "set-order" = aw)(hd:(!t.plain&&decide (es.size>1))=aw) :
  Walks prog w A I [I,a] [I] es.size (λi v=>(es.toList.map (·.2))[i]?=aq v) (λi h=>lS h I a (.int (AF t i) 0) i es.size ep/\rV w h a es ep t)where
 sub:=λb hb=>by simp at hb;simp[hb]
 frame:=λ_ _ _ st q=>⟨st.1.at λo e=>q I (by simp) o e,st.2.at λo e=>q a (by simp) o e⟩
 item:=λi s Q E hi st j=>by
  have N:=Pa hi;refine ao8 st.1 st.2 hb hd N λh' U z=>?_;exact j _ h' s.toks (by simp[hi]) ⟨U,st.2.at λo e=>z.extBut a o gD e⟩ λb o hb e=>z.extBut b o (λh=>hb (by simp[h])) e
 done:=λs Q E st j=>ao9 hh st.1 st.2 hb hd λh' B=>j h' s.toks λb o hb e=>B b o (λh=>hb (by simp[h])) e
 self:=λ_ _ _ _ st j=>Dl st.1 j
theorem afM(hh:A.handled=av)(I a T:az)(gD:a≠I)(N:T≠I)(es:ba (a8×au))(ep:a9)(t:cp)(ps:ar a9)(z:ps.Perm (List.range es.size)) :
  Walks prog w A I [I,a,T] [I] es.size (λi v=>(ps.map λj=>(es.getD j (0,.none)).2)[i]?=aq v) (λi h=>lS h I a (.ref T) i es.size ep/\rV w h a es ep t/\KG h T ps)where
 sub:=λb hb=>by simp at hb;simp[hb]
 frame:=λ_ _ _ st B=>⟨st.1.at λo e=>B I (by simp) o e,st.2.1.at λo e=>B a (by simp) o e,st.2.2.at λo e=>B T (by simp) o e⟩
 item:=λi s Q E hi st q=>by
  have hl:i<ps.length:=by rw[z.length_eq];simpa using hi
  have hm:ps[i]<es.size:=by
   have:=z.mem_iff.mp (QD hl);simpa using this
  refine ao6 (j:=ps[i]) (x:=es[ps[i]]) st.1 st.2.1 st.2.2 (dZ hl) (Pa hm) λh' d U=>?_;exact q _ h' s.toks (by simp[hl,Array.getD,hm]) ⟨d,st.2.1.at λo e=>U.extBut a o gD e,st.2.2.at λo e=>U.extBut T o N e⟩ λb o hb e=>U.extBut b o (λh=>hb (by simp[h])) e
 done:=λs Q E st q=>ao7 hh st.1 st.2.1 st.2.2 (by rw[z.length_eq];simp) λh' c=>q h' s.toks λb o hb e=>c b o (λh=>hb (by simp[h])) e
 self:=λ_ _ _ _ st q=>Dl st.1 q
end
set_option maxRecDepth 100000
set_option compiler.extract_closed false
set_option genSizeOf false
set_option bootstrap.genMatcherCode false
theorem kZ.aiV{prog:bp}{w:bz}{h:b9}{a:az}{es:ba (a8×au)}(x:kZ prog w h a es):∃ep t,rV w h a es ep t:=let ⟨o,ep,t,j,_,hd,_,_,hf,hT⟩:=x; ⟨ep,t,o,j,hd,hf,hT⟩
section
variable{prog:bp}{w:bz}{A:bx}{E:au->ay->Prop}{s:ay}
theorem alN{a:az}{es:ba (a8×au)}{Q:au->ay->Prop}(hh:A.handled=av)(hS:kZ prog w s.heap a es)
  (n:∀(I:az) (h':b9) (d:Drawn) (ord:ar au) (fp:ar az) (St:a9->b9->Prop),ord.Perm (es.toList.map (·.2))->(∀b o,s.heap.get? b=aq o->h'.get? b=aq o)->(∀b∈fp,b=a\/s.heap.objs.size<=b)->s.heap.objs.size<=I ->
   Walks prog w A I fp [I] es.size (λi v=>ord[i]?=aq v) St->St 0 h'->Q (.ref I) {s with heap:=h',drawn:=d}):wpAny (bw prog w) A (pyIter (.ref a)) Q E s:=by
 obtain⟨B,t,h⟩:=hS.aiV;obtain⟨os,c,U,f,hT⟩:=id h;have g:=hS.typeIs;have p:a<s.heap.objs.size:=hS.lt;have k:es.size<ea:=let ⟨_,_,_,_,_,_,_,hb,_,_⟩:=hS;hb;refine wpAny_pyIter_slot g F.slot_set_iter (vZ F.slot_set_iter g axV ?_ (F.args_set_iter_1 _));unfold Builtin.«frozenset.__iter__»;refine aM (bL ?_);refine aM ?_;unfold Builtin.Frozenset.sizeOf;refine aM (FW c U f (bL ?_));refine aM ?_;unfold setDrawn;refine aM (CH c U f ?_);dsimp only;unfold setsByText;refine aM (aM (CI (bL (bL ?_))));cases hb:w.params.followText "set-order" with
 |true =>
  refine vY (oH (show ¬((!w.params.followText "set-order" && (!t.plain&&decide (es.size>1)))=a5)by rw[hb];simp)) (aM (bL ?_));refine aM (wpAny_setEpoch_of c U f ?_);refine aM (uO (bL ⟨_,rfl, "set_iterator",_,⟨_,gO _ rfl,rfl⟩,pP.lookup,?_⟩));have e:s={s with drawn:=s.drawn}:=by cases s;rfl
  have:=n s.heap.objs.size (s.heap.push {cls:=.type "set_iterator",data:=.fields #[.int 0 0,.int 0 0,.ref a,.int es.size 0,.int B 0]}) s.drawn _ _ _ ((Dr (w.params.setOrder a B) es).map (·.2)) (λb o e=>eI _ e) (λb hb=>by
   simp only[dU,zJ,yD]at hb
   rcases hb with z|z
   ·exact .inr (by rw[z];exact qS _)
   ·exact .inl z) cX (afO hh _ a (gF p) es B t hb) ⟨gO _ rfl,h.at λo e=>eI _ e⟩
  simpa[cn]using this
 |false =>
  cases hd:(!t.plain&&decide (es.size>1))with
  |false =>
   refine vY (oH (show ¬((!w.params.followText "set-order" && (!t.plain&&decide (es.size>1)))=a5)by rw[hd];simp)) (aM (bL ?_));refine aM (wpAny_setEpoch_of c U f ?_);refine aM (uO (bL ⟨_,rfl, "set_iterator",_,⟨_,gO _ rfl,rfl⟩,pP.lookup,?_⟩));have:=n s.heap.objs.size (s.heap.push {cls:=.type "set_iterator",data:=.fields #[.int 0 0,.int 0 0,.ref a,.int es.size 0,.int B 0]}) s.drawn _ _ _ (FJ _) (λb o e=>eI _ e) (λb hb=>by
    simp only[dU,zJ,yD]at hb
    rcases hb with z|z
    ·exact .inr (by rw[z];exact qS _)
    ·exact .inl z) cX (afN hh _ a (gF p) es B t hb hd) ⟨gO _ rfl,h.at λo e=>eI _ e⟩
   simpa[cn]using this
  |true =>
   refine ZG (vM (show(!w.params.followText "set-order" && (!t.plain&&decide (es.size>1)))=a5 by rw[hb,hd];simp)) ?_;refine aM (Qb es.size (List.range es.size) s (by simp) λN d m=>?_);have x:N.length=es.size:=by rw[m.length_eq];simp
   refine aM (wpAny_newTuple ?_ (by rw[lQ,x];exact Iw k));have k1:∀b o,s.heap.get? b=aq o->(s.heap.push {cls:=.type "tuple",data:=.seq (N.map λi:a9=>cn (i:a8)).toArray}).get? b=aq o:=λb o e=>eI _ e;refine aM (wpAny_setEpoch_of (k1 a _ c) U f ?_);refine aM (uO (bL ⟨_,rfl, "set_iterator",_,⟨_,gO _ rfl,rfl⟩,pP.lookup,?_⟩));have u:(s.heap.push {cls:=.type "tuple",data:=.seq (N.map λi:a9=>cn (i:a8)).toArray}).objs.size=s.heap.objs.size+1:=KI _ _;have l:(N.map λj=>(es.getD j (0,.none)).2).Perm (es.toList.map (·.2)):=by
    have h1:=m.map λj=>(es.getD j (0,.none)).2;have h2:(List.range es.size).map (λj=>(es.getD j (0,Value.none)).2)=es.toList.map (·.2):=by
     apply FI;intro j;rw[jN,jN]
     by_cases r:j<es.size
     ·simp[r,Array.getD]
     ·simp[r]
    rw[h2]at h1;exact h1
   have:=n (s.heap.objs.size+1) ((s.heap.push {cls:=.type "tuple",data:=.seq (N.map λi:a9=>cn (i:a8)).toArray}).push {cls:=.type "set_iterator",data:=.fields #[.ref s.heap.objs.size,.int 0 0,.ref a,.int es.size 0,.int B 0]}) d _ _ _ l (λb o e=>eI _ (k1 b o e)) (λb hb=>by
    simp only[dU,zJ,yD]at hb
    rcases hb with z|z|z
    ·exact .inr (by rw[z];exact JG _)
    ·exact .inl z
    ·exact .inr (by rw[z];exact qS _)) (JG _) (afM hh _ a s.heap.objs.size (gF (XY p)) (gF (XX _)) es B t N m) ⟨by
     unfold lS;have q:=gO (s.heap.push {cls:=.type "tuple",data:=.seq (N.map λi:a9=>cn (i:a8)).toArray}) (o:={cls:=.type "set_iterator",data:=.fields #[.ref s.heap.objs.size,.int 0 0,.ref a,.int es.size 0,.int B 0]}) rfl;rw[u]at q;exact q,h.at λo e=>eI _ (k1 a o e),eI _ (gO _ rfl)⟩
   rw[<-u]at this;simpa[cn]using this
end
set_option maxRecDepth 100000
set_option compiler.extract_closed false
set_option genSizeOf false
set_option bootstrap.genMatcherCode false
section
variable{prog:bp}{w:bz}{A:bx}{E:au->ay->Prop}{s:ay}
theorem at8{r:az}{Q:bt->ay->Prop}(hT:s.TypeIs (.ref r) "set")(h:Q aw s):wpAny (bw prog w) A (Builtin.List.listLengthHint (.ref r)) Q E s:=by
 unfold Builtin.List.listLengthHint;refine aM (wpAny_specialOf hT F.slot_set_len.lookup ?_);generalize z:("set.__len__" : dk)=j
 wp_delta
 rw[show splitId j=aq ("set", "__len__")from by subst z;decide +kernel];subst z;refine aM (ZH (T := "set") (b:=a5) hT (by rw[isSubtype_type];kernel_rfl) ?_);refine wpAny_ite_split (λq=>b8 q (by decide)) (λ_=>?_);refine wpAny_ite_split (λ_=>?_) (λq=>b8 (by decide +kernel) q);refine aM (wpAny_typeOf hT ?_);exact bL h
theorem arT{ord:ar au}{ae:ba au}(h:ItemsOf (λi v=>ord[i]?=aq v) ae ord.length):ae.toList=ord:=by
 apply FI;intro i;rw[nB];cases e:ae[i]? with
 |some v=>exact(h.2 i v e).symm
 |none =>
  rw[eq_comm,List.getElem?_eq_none_iff];rw[aeT,h.1]at e;exact e
theorem axN{R:Result->ay->Prop}{r:az}{es:ba (a8×au)}(hh:A.handled=av)(hS0:kZ prog w s.heap r es)(S:az)(U:S≠r)(res:au)(B:a9)(hS:s.heap.get? S=aq {cls:=.type "list",data:=.seq #[] B})
  (hR:∀h' tk d c c',(∀b o,b≠S->s.heap.get? b=aq o->h'.get? b=aq o)->h'.get? S=aq {cls:=.type "list",dict:=av,data:=.seq c c',slots:=#[]}->c.toList.Perm (es.toList.map (·.2))->R (.ok (.ret res)) {s with heap:=h',toks:=tk,drawn:=d}) :
  wpAny (bw prog w) A.in1 (Builtin.List.listExtendWith (.ref S) (.ref r) res)
   (λfin s'=>match fin with | .done f=>R (.ok f) s' | .again c'=>c'.quiet=a5/\codeAny (bw prog w) A c' R s') (λe s'=>R (.error e) s') s:=by
 have i:es.size<ea:=let ⟨_,_,_,_,_,_,_,hb,_,_⟩:=hS0;hb;have NM:S<s.heap.objs.size:=eG hS;unfold Builtin.List.listExtendWith;refine aM (wpAny_typeOf (T := "set") hS0.typeIs ?_);have h1:Builtin.List.listSameRef (.ref S) (.ref r)=aw:=by simp[Builtin.List.listSameRef,U]
 have v:(Value.type "set" == Value.type "list")=aw:=by decide
 have u:(Value.type "set" == Value.type "tuple")=aw:=by decide
 simp only[h1,v,u,Bool.or_false,kB,gU];refine aM (alN (A:=A.in1) hh hS0 λI D d ord E St m g k n W st=>?_);have UU:ord.length=es.size:=by rw[m.length_eq];simp
 have DZ:S∉E:=λhm=>by
  rcases k S hm with z|z
  ·exact U z
  ·exact b8 NM (Nat.not_lt.mpr z)
 have C:S≠I:=λz=>b8 NM (by rw[z];exact Nat.not_lt.mpr n);have key:∀(h:b9) (q tk:a9),St 0 h->(∀b o,b≠S->s.heap.get? b=aq o->h.get? b=aq o) ->
   h.get? S=aq {cls:=.type "list",data:=.seq #[] q}->codeAny (bw prog w) A (.builtin "list.extend.loop" ⟨[.ref S,.ref I,res],[]⟩) R {s with heap:=h,toks:=tk,drawn:=d}:=by
  intro h q tk x y a;refine codeAny_extend_loopS W.toS (Iw i) S DZ res es.size 0 _ #[] q rfl AQ x a (ItemsOf.nil _) λs' c c' hm nM t=>?_;rw[Moved.eq_with hm];refine hR s'.heap s'.toks d c c' (λb o hb e=>hm.heap b o (λl=>?_) (y b o hb e)) nM (by rw[arT (ord:=ord) (by rw[UU];exact t)];exact m)
  rcases dU.mp l with G|l
  ·exact hb G
  ·exact b8 (eG e) (by rw[mJ.mp l];exact Nat.not_lt.mpr n)
 have a:=g S _ hS;refine aM (xO (at8 (kZ.typeIs (s:={s with heap:=D,drawn:=d}) (hS0.at λo e=>g r o e)) ?_));refine wpAny_ite_split (λ_=>?_) (λ_=>bL ⟨TL PySem.F.plain_extend_loop _,key _ B _ st (λb o _ e=>g b o e) a⟩);refine aM (vX ?_);refine aM ?_;show wpAny _ _ (updateSeq S (·.push .none) >>= λ_=>updateSeq S (·.pop)) _ _ _;refine aM (wpAny_updateSeq a rfl ?_);have j:=QM (Obj.mapSeq (·.push Value.none)) a rfl;refine wpAny_updateSeq (hz:=by seq_fits) j rfl ?_;have N:=QM (Obj.mapSeq (·.pop)) j rfl;refine bL ⟨TL PySem.F.plain_extend_loop _,key _ _ _ ?_ (λb o hb e=>?_) N⟩
 ·refine W.frame 0 _ _ st λb hb o e=>?_;have p:b≠S:=λh=>DZ (h ▸ hb);exact(tH _ _ (dM p)).trans ((tH _ _ (dM p)).trans e)
 ·exact(tH _ _ (dM hb)).trans ((tH _ _ (dM hb)).trans (g b o e))
theorem az3{R:ar au->ay->Prop}{r:az}{es:ba (a8×au)}(hh:A.handled=av)(hS0:kZ prog w s.heap r es)
  (h:∀(h':b9) (tk:a9) (d:Drawn) (ae:ba au),(∀b o,s.heap.get? b=aq o->h'.get? b=aq o)->ae.toList.Perm (es.toList.map (·.2))->R ae.toList {s with heap:=h',toks:=tk,drawn:=d}) :
  wpAny (bw prog w) A (collect (.ref r)) R E s:=by
 have c:=hS0.lt;unfold collect;refine aM (wpAny_runValue (OO entry_proto_collect' ?_));rw[ZE PySem.F.plain_proto_collect _];show wpAny _ A.in1 (newList [] >>= λl=>again (.builtin "list.__iadd__" ⟨[l,.ref r],[]⟩)) _ _ s;refine aM (uO ?_);refine bL ⟨TL PySem.F.plain_list_iadd _,OO entry_list_iadd' ?_⟩;rw[ZE PySem.F.plain_list_iadd _];have g:(s.heap.push {cls:=.type "list",data:=.seq ([]:ar au).toArray}).get? s.heap.objs.size=aq {cls:=.type "list",data:=.seq #[]}:=gO _ rfl;show wpAny _ A.in1 (Builtin.List.listExtendWith (.ref s.heap.objs.size) (.ref r) (.ref s.heap.objs.size)) _ _ _;have key:=axN (A:=A) (s:={s with heap:=s.heap.push {cls:=.type "list",data:=.seq ([]:ar au).toArray} }) (es:=es)
  (R:=λ(q:Result) (s':ay)=>∃(h':b9) (tk:a9) (d:Drawn) (j:ba au) (N:a9),q=.ok (.ret (.ref s.heap.objs.size))/\s'={s with heap:=h',toks:=tk,drawn:=d} /\
   (∀b o,s.heap.get? b=aq o->h'.get? b=aq o)/\h'.get? s.heap.objs.size=aq {cls:=.type "list",dict:=av,data:=.seq j N,slots:=#[]}/\j.toList.Perm (es.toList.map (·.2)))
  hh (hS0.at λo e=>eI _ e) s.heap.objs.size (JF c) (.ref s.heap.objs.size) 0 g
  (λh' tk d j N B nM z=>⟨h',tk,d,j,N,rfl,rfl,λb o e=>B b o (gF (eG e)) (eI _ e),nM,z⟩)
 refine pZ key (λfin s' x=>?_) λe s' x=>?_
 ·cases fin with
  |done f =>
   obtain⟨h',tk,d,j,N,e,rfl,B,nM,z⟩:=x;cases e;show wpAny _ A (load s.heap.objs.size >>= _) _ _ _;refine aM (wpAny_load nM ?_);exact bL (h h' tk d j B z)
  |again U =>
   refine⟨x.1,vN x.2 λq s₂ y=>?_⟩;obtain⟨h',tk,d,j,N,rfl,rfl,B,nM,z⟩:=y;show wpAny _ A (load s.heap.objs.size >>= _) _ _ _;refine aM (wpAny_load nM ?_);exact bL (h h' tk d j B z)
 ·obtain⟨_,_,_,_,_,a,_⟩:=x;cases a
end
end PySem
namespace L2
open PySem PySem.Spec PyProof.Rows
section
variable{X:Cx}
def JD(P:bp)(w:bz)(a:az)(ms:ar a8)(h:b9):Prop:=∃es nX,kZ P w h a es/\Nums es nX/\nX.Perm ms
noncomputable def wX(ns:ar a8):ar a8:=ns.foldl step_dedup []
theorem akX(ns:ar a8):(List.range ns.length).map (λi=>ns.getD i 0)=ns:=by
 apply FI;intro i;rw[jN]
 by_cases h:i<ns.length
 ·rw[List.getElem?_range h];simp[List.getD,h]
 ·rw[JV (by simp;omega),JV (by omega)];rfl
theorem aiT{P:bp}{w:bz}{a:az}{ms:ar a8}{H:Hp}{h:b9}(x:JD P w a ms h):jF P w H h a (.ext (JD P w a ms)):=by
 refine⟨x,?_,λh1 h2 y k=>?_⟩
 ·obtain⟨es,nX,j,_⟩:=x;obtain⟨o,_,_,z,_⟩:=j;exact⟨o,z⟩
 ·obtain⟨es,nX,j,q⟩:=y;exact⟨es,nX,j.at k,q⟩
theorem aAJ(d:X.calm=a5):tK X (.type "set") (λxs H Q=>∃(a:az) (ns:ar a8),xs=[.ref a]/\fW X.K H a (ns.map V.int)/\ns.length<4000 /\
  ∀l,H l=av->Q (.ref l) (upd H l (.ext (JD X.prog X.w l (wX ns))))):=by
 intro aa s J H xs i Q I r h;obtain⟨a,ns,rfl,U,m,q⟩:=h;obtain⟨u,rfl,N⟩:=vals1 r;cases N;obtain⟨B,z,pl,k⟩:=I.list U;have g:c7 B ns:=intsAre_of z;have hl:B.length=ns.length:=by rw[<-z.length,lQ]
 refine aAI (I.ok.hd d) pl.isList g (by rw[lE,hl];show ns.length+1<4096;omega) λh' tk es ms hT f j c=>?_;rw[lE,hl]at j;unfold firstMet at j;rw[akX]at j;exact⟨.ref s.heap.objs.size,_,I.laid (t':=tk) (o:=.ext (JD X.prog X.w s.heap.objs.size (wX ns))) (λb o e=>c b o (eG e) e) cX (aiT ⟨es,ms,hT,f,j⟩),rfl,q _ (I.aJ.fresh cX)⟩
theorem Inv.drawn{aa:ar (az×cz)}{J:St}{H:Hp}{s:ay}(I:Inv X aa J H s)(d:Drawn):Inv X aa J H {s with drawn:=d} :=
 ⟨I.ok,I.os,I.bare,I.base,I.loc,I.cell,I.free,I.oG,I.pin,I.aJ,I.len⟩
theorem arZ:∀{l q:ar au},q.Perm l->∀{ms:ar a8},c7 l ms->∃nX,c7 q nX/\nX.Perm ms:=by
 intro l q h
 induction h with
 |nil=>intro ms h;exact⟨ms,h,FJ _⟩
 |cons x _ ih =>
  intro ms h;cases h with
  |cons n t r=>obtain⟨nX,a,b⟩:=ih r;exact⟨n::nX,.cons n t a,b.cons n⟩
 |swap x y l =>
  intro ms h;cases h with
  |cons n t r =>
   cases r with
   |cons j B r=>exact⟨j::n::_,.cons j B (.cons n t r),.swap n j _⟩
 |trans _ _ z f =>
  intro ms h;obtain⟨g,e,c⟩:=f h;obtain⟨N,d,U⟩:=z e;exact⟨N,d,U.trans c⟩
theorem aAG(F:X.calm=a5):tK X (.builtin "sorted") (λxs H Q=>∃(d:az) (j:ar a8),xs=[.ref d]/\H d=aq (.ext (JD X.prog X.w d j))/\j.length<4000 /\
  ∀(ms:ar a8) (l:az),ms.Perm j->ms.Pairwise (· <= ·)->H l=av->Q (.ref l) (upd H l (.lst (ms.map V.int)))):=by
 intro aa s J H xs S Q I r h;obtain⟨d,j,rfl,hd,W,q⟩:=h;obtain⟨u,rfl,x⟩:=vals1 r;cases x;obtain⟨⟨es,C,hT,K,G⟩,_,_⟩:=I.aJ _ _ hd;have D:(4000:a9)<=bg:=by decide
 refine Calls.call_function_entry kind_sorted plain_sorted entry_sorted (args_sorted1 _) ?_;unfold Builtin.«sorted»;refine aM (m:=checkCount "sorted" 1 1 _) (bL ?_);refine aM (az3 (A:=X.A.in1) (I.ok.hd F) hT λh' tk i ae P y=>?_);obtain⟨U,f,BI⟩:=arZ y K;have c:U.Perm j:=BI.trans G;have hl:ae.toList.length=j.length:=by
  have:∀{N:ar au} {ns:ar a8},c7 N ns->N.length=ns.length:=by
   intro N ns h
   induction h with
   |nil=>rfl
   |cons n t _ ih=>simp[ih]
  rw[this f,c.length_eq]
 refine aM (wpAny_newList ?_ (by rw[hl];omega));have B:(h'.push (c9 "list" ae.toList.toArray 0)).get? h'.objs.size=aq (c9 "list" ae.toList.toArray 0):=gO _ rfl;refine aM (xO (vZ slot_list_sort ⟨_,B,rfl⟩ entry_list_sort (Wy B f (by omega) λab z M k L=>⟨_,rfl,?_⟩) (args_list_sort _)));refine bL ⟨_,rfl,?_⟩;have o:Inv X aa J H {s with heap:=h',toks:=tk,drawn:=i}:=(I.kept (t':=tk) P).drawn i;have E:H h'.objs.size=av:=o.aJ.fresh cX;obtain⟨g,p⟩:∃g,((h'.push (c9 "list" ae.toList.toArray 0)).update h'.objs.size (Obj.mapSeq λ_=>#[])).get? h'.objs.size=aq (c9 "list" #[] g):=⟨_,VR B (λ_=>#[])⟩;have v:=eI (c9 "list" #[] 0) (eI (c9 "tuple" ae.toList.toArray 0) p);obtain⟨a,R⟩:∃a,(eu (h'.push (c9 "list" ae.toList.toArray 0)) h'.objs.size ae.toList ab).get? h'.objs.size=aq (c9 "list" ab a):=⟨_,VR v (λ_=>ab)⟩;have kp:∀b u,h'.get? b=aq u->(eu (h'.push (c9 "list" ae.toList.toArray 0)) h'.objs.size ae.toList ab).get? b=aq u:=λb u e=>by
  have hb:b≠h'.objs.size:=gF (eG e);unfold eu;exact(tH _ _ (dM hb)).trans (eI _ (eI _ ((tH _ _ (dM hb)).trans (eI _ e))))
 have hv:Vals (z.map V.int) ab.toList:=RV M;have T:z.length=j.length:=(k.trans c).length_eq;refine⟨.ref h'.objs.size,upd H h'.objs.size (.lst (z.map V.int)),o.laid (t':=tk) kp cX ?_,rfl,q z _ (k.trans c) L E⟩;exact⟨by rw[lQ];omega,ab.toList,a,hv,R⟩
end
end L2
namespace PySem
open PyProof.Rows PySem.Spec
set_option maxRecDepth 100000
set_option compiler.extract_closed false
set_option genSizeOf false
set_option bootstrap.genMatcherCode false
end PySem
namespace V2
open PySem PySem.Spec PyProof.Rows L2
section
variable{X:Cx}{W:WX}{e o:b7}
@[simp] def RW(c:bt)(f:Ev->Mo A):Ev->Mo A:=λY=>mb (f Y) λa Z=>match (fV Z a).bind intsOf with
 |some ns=>if ns.length<4000/\(wX ns).length<4000 then lK c ((sortI (wX ns)).map A.int) Z else av
 |none=>av
theorem afW{f:Ev->Mo A}{D p2 C q:dj}(c:bt)(b:X.calm=a5)(N:Gl X "sorted")(B:X.mg "sorted" = av)(M:Gl X "set")(z:X.mg "set" = av)(he:VE X W e f)
  (U:bj [.Call (.Name "set" p2) [e] [] q] X.env=(aw,cg (.Call (.Name "set" p2) [e] [] q) X.env)::bj [] X.env:=by rfl)
  (g:bj [e] X.env=(aw,cg e X.env)::bj [] X.env:=by rfl) :
  VE X W (.Call (.Name "sorted" D) [.Call (.Name "set" p2) [e] [] q] [] C) (RW c f):=by
 obtain⟨t,p,s⟩:=he;refine⟨_,Du (aAG b) N B boot_sorted (DA (anL (aAJ b) M z PyProof.Rows.boot_set (DA p GS g) (by decide) (by decide) g rfl) GS U) (by decide) (by decide) U rfl,λG n u H J k Q w r h=>?_⟩;show t J H _;refine s G n u H J k _ w r (bN.mb h λa o v T V m R j L h1=>?_);split at h1
 ·rename_i ns d;split at h1
  ·rename_i hl;rw[Me]at d;obtain⟨ds,K,I⟩:=d;obtain⟨p,P,rfl,h2,F⟩:=AU j L K;rw[Fp I F]at h2;refine⟨p,ns,rfl,h2,hl.1,λl i=>?_⟩;refine⟨l,wX ns,rfl,eA,hl.2,λms S E x y=>?_⟩;rw[Sv E x];exact GX (j.new i (.ext (JD X.prog X.w l (wX ns)))) y (WJ _) (h1.ext (Ext.new (j.pA i) _))
  ·exact False.elim h1
 ·exact False.elim h1
theorem Qq:∀{kvs:ar (Key×V)} {vs:ar (Key×au)},KV kvs vs->Vals (kvs.map (·.2)) (vs.map (·.2))
 |_,_,.nil => .nil
 |_,_,.cons r t => .cons r.2 (Qq t)
theorem am6{td:TE}{E ai f B:dj}(L:X.calm=a5)(R:Gl X "list")(T:X.mg "list" = av)(K:PE X o td)
  (p:bj [.Call (.Attribute o "values" ai) [] [] B] X.env=[(aw,cg (.Call (.Attribute o "values" ai) [] [] B) X.env)]:=by rfl)
  (C:cm o "values" X.env (cg o X.env)=cg o X.env:=by rfl) (D:(ai.endLine==B.line)=a5:=by rfl) :
  PE X (.Call (.Name "list" E) [.Call (.Attribute o "values" ai) [] [] B] [] f) (λJ H Q=>td J H λx H1=>∃a kvs,x=.ref a/\H1 a=aq (.dK kvs) /\
   ∀(l:az),H1 l=av->Q (.ref l) (upd H1 l (.lst (kvs.map (·.2))))):=by
 intro aa s J H Q I h;refine xP (DL I R T PyProof.Rows.boot_list ?_);refine XW ?_ p rfl;rw[p];show wpAny _ _ (spliced ((aw,cg (.Call (.Attribute o "values" ai) [] [] B) X.env)::[])) _ _ s;refine KY ?_;refine Qc C D (bI (K aa s J H _ I h) λv j ⟨x,H1,m,A,f⟩=>?_);obtain⟨a,kvs,rfl,u,q⟩:=f;cases A;obtain⟨h1,h2,V⟩:=MZ m (.inl ⟨kvs,.inl u⟩);obtain⟨z,_,N,rel,g⟩:=IJ m.aJ u;refine⟨"dict", "dict.values",PySem.F.plainAttrs_dict,PySem.F.slot_dict_values,PySem.F.type_dict_values,h1,h2,RI rfl (PySem.evalArgs_none ?_)⟩;refine OU PySem.F.slot_dict_values g.typeIs PySem.F.entry_dict_values (PySem.F.args_dict_values_1 _) (meets_dict_values (kF X.prog X.w) a V) ⟨⟨N,g⟩,?_⟩;refine RH ?_;have U:Inv X aa J H1 {j with heap:=j.heap.push {cls:=.type "dict_values",data:=.fields #[.ref a]} }:=m.kept (t':=j.toks) λb o e=>eI _ e;obtain⟨ep,y⟩:=g.dictAt;have G:kvs.length=N.length:=rel.length;refine PySem.W.kdl_call (s:={j with heap:=j.heap.push {cls:=.type "dict_values",data:=.fields #[.ref a]} }) (PySem.W.kdl_values (knd:=kF X.prog X.w) (r:=j.heap.objs.size) (d:=a) (kvs:=N) (ep:=ep)) (U.ok.hd L) ⟨⟨_,gO _ rfl,rfl,rfl⟩,y.push _⟩ (by omega) λh' tk ae c t hS n=>?_;generalize yN:({j with heap:=j.heap.push {cls:=.type "dict_values",data:=.fields #[.ref a]} }:ay)=s2 at U t hS;have M:ae.toList=N.map (·.2):=by
  apply FI;intro i
  by_cases hi:i<ae.toList.length
  ·obtain⟨k,P⟩:=n.2 i _ (by rw[<-nB];exact dZ hi);rw[dZ hi,jN,P];rfl
  ·have:=n.1;rw[gG]at hi;rw[JV (by rw[gG];omega),JV (by rw[lQ];omega)]
 have hv:Vals (kvs.map (·.2)) ae.toList:=by rw[M];exact Qq rel
 have S:=U.laid (t':=tk) (o:=.lst (kvs.map (·.2))) t cX ⟨by rw[lQ];omega,ae.toList,c,hv,by simpa using hS⟩;exact⟨.ref s2.heap.objs.size,_,S,rfl,q _ (U.aJ.fresh cX)⟩
theorem Rc{l:az}:∀(as:ar az) (j:ar (ar V)) (H:Hp),l∉as->uU H as j l=H l
 |[],j,H,_=>by cases j <;> rfl
 |_::_,[],H,_=>rfl
 |b::as,t::j,H,h=>by
  show uU (upd H b (.tup t)) as j l=H l;rw[Rc as j _ λz=>h (fS _ z),bJ λz=>h (by rw[z];exact List.mem_cons_self ..)]
end
@[simp] def jH(cs:ar bh)(i:a9)(f:bh)(k:ar (Key×A)->Mo A):Ev->Mo A:=λY Z=>match vA cs i f Y Z with
 |some (_,_,_,.bB kvs)=>k kvs Z
 |_=>av
section
variable{X:Cx}{W:WX}{e:b7}{i:a9}{f:bh}{cs:ar bh}{mW:dj}
theorem RS{te:TE}{k:ar (Key×A)->Mo A}{R:V->Hp->VK->Prop}(s:fC X.K (Den X.K) W te (dR i))(g:eN X.K cs f)
  (e:∀G O Z H J b vs kvs Q,Wd X.K G O Z H->H b=aq (.dK vs)->vs.map (·.1)=kvs.map (·.1)->bE X.K G O (vs.map (·.2)) (kvs.map (·.2))->bN X.K (Den X.K) W G O J Q (k kvs Z)->R (.ref b) H Q) :
  fC X.K (Den X.K) W (λJ H Q=>LO X.K te f J H λx H1=>R x H1 Q) (jH cs i f k):=by
 intro G O Z H J q Q w r h;unfold jH at h;split at h
 ·rename_i s0 cls fs kvs eo;obtain⟨h1,h2,p,o⟩:=Vg eo;show te J H _;refine s G O Z H J q _ w r ?_;show bN X.K (Den X.K) W G O J _ (need (q[i]?).join Z);rw[h1];intro v H1 L j N z I;obtain⟨a,C,F,U,rfl,ha,M,t,m,n⟩:=z.ins h2 I;obtain⟨T,B,d,c⟩:=g cls p;rw[t]at B;cases B;obtain⟨u,l,b,vs,rfl,S,P,E,D,y⟩:=n.look o;exact⟨a,C,F,U,.ref b,rfl,m,d,c,l,e L j Z H1 J b vs kvs Q z E D y (h.ext N)⟩
 ·exact h.elim
theorem af3{N B:dj}(he:VE X W e (dR i))(c:eN X.K cs f)(U:Gl X "len")(hm:X.mg "len" = av)
  (hb:cm e f X.env (cg e X.env)=cg e X.env:=by rfl)
  (q:bj [.Attribute e f mW] X.env=(aw,cg (.Attribute e f mW) X.env)::bj [] X.env:=by rfl) :
  VE X W (.Call (.Name "len" N) [.Attribute e f mW] [] B) (jH cs i f λkvs=>ret (.int kvs.length)):=by
 obtain⟨t,p,s⟩:=he;refine⟨_,Du aAN U hm PySem.boot_len (DA (MA p hb) GS q) (by decide) (by decide) q rfl,?_⟩;refine RS (R:=λx H Q=>∃a kvs,[x]=[V.ref a]/\H a=aq (.dK kvs)/\Q (.int kvs.length) H) s c λG z d H J b j kvs Q w hb k1 g h=>?_;have hl:j.length=kvs.length:=by have:=c3 List.length k1;simpa using this
 exact⟨b,j,rfl,hb,h _ H G z (Ext.refl _ _) w (by simp only[Den];rw[hl])⟩
theorem ZQ(c:bt){n ai m q:dj}(D:X.calm=a5)(he:VE X W e (dR i))(v:eN X.K cs f)(u:Gl X "list")(hm:X.mg "list" = av)
  (hb:cm e f X.env (cg e X.env)=cg e X.env:=by rfl)
  (r:bj [.Call (.Attribute (.Attribute e f mW) "items" ai) [] [] q] X.env=[(aw,cg (.Call (.Attribute (.Attribute e f mW) "items" ai) [] [] q) X.env)]:=by rfl)
  (g:cm (.Attribute e f mW) "items" X.env (cg (.Attribute e f mW) X.env)=cg (.Attribute e f mW) X.env:=by rfl) (k:(ai.endLine==q.line)=a5:=by rfl) :
  VE X W (.Call (.Name "list" n) [.Call (.Attribute (.Attribute e f mW) "items" ai) [] [] q] [] m) (jH cs i f λkvs=>lK c (kvs.map mT)):=by
 obtain⟨t,p,s⟩:=he;refine⟨_,am7 D u hm (MA p hb) r g k,?_⟩;refine RS (R:=λx z Q=>∃a kvs,x=.ref a/\z a=aq (.dK kvs) /\
   ∀(j:ar az) (l:az),j.length=kvs.length->j.Nodup->l∉j->(∀b∈j,z b=av)->z l=av->Q (.ref l) (upd (uU z j (kvs.map λN=>[kV N.1,N.2])) l (.lst (j.map V.ref)))) s v λG U F H J b B kvs Q w hb k1 o h=>?_
 refine⟨b,B,rfl,hb,λj l hl hn E hb C=>?_⟩;obtain⟨I,y,d,A⟩:=Ri j B kvs G H U w hl hn hb k1 o;exact GX d (by rw[Rc j _ _ E];exact C) A (h.ext y)
end
theorem aA2{K:bu}{mg:bh->ax au}{h:b9}{rk m q:bh}{st:cb}{R f:az}{B:au}{od U:ax az}{N:ba (ax au)}{kV doc z j ct:au}(X:K.In h)(G:h.Ns bo mg)(n:nsIn K bo rk=aq (aq (.ref R)))
  (r:PySem.W.readsIn K R (.type "type")=a5) (fi:PySem.W.findCls K (.ref R) (.type "type") m=aq (.val (.ref f))) (ga:specialIn K (.ref R) "__getattribute__" = aq (aq (.builtin "type.__getattribute__")))
  (l:K.lookup f=aq ⟨B,od,.func (et m q (jE st) (eQ st) (aW st) .none kV doc z U j ct),N⟩) (c:codeIn K j q=a5) (k:ek K (.ref f)=a5):YO K mg rk m q st :=
 ⟨R,f,_,mg_of X G n,⟨r,fi,ga,k⟩,OF l c k⟩
end V2
namespace L2
open PySem PySem.Spec PyProof.Rows
structure aeH(K:bu)(C:az):Prop where
 cls:nQ K C
 ha:dq K (.ref C) "__class__" = aq (aq (.builtin "object.__class__"))
 hn:specialIn K (.builtin "object.__class__") "__get__" = aq (aq (.builtin "getset_descriptor.__get__"))
 tk:takesIn K (.builtin "object.__class__")=aq a5
 mro:mroIn K C (.type "object")=aq a5
section
variable{X:Cx}
theorem aAP:tK X (.builtin "isinstance") (λxs H Q=>∃(a C D dx:az) (fs:ar (bh×V)) (b:bt),xs=[.ref a,.ref D]/\H a=aq (.ins C dx fs)/\aeH X.K C/\kitOne X.K (.ref C) (.ref D)=aq b/\Q (.bl b) H):=by
 intro aa s J H xs f Q I r h;obtain⟨a,C,D,dx,fs,b,rfl,c,iso,e,q⟩:=h;obtain⟨u,v,rfl,B,j⟩:=vals2 r;obtain rfl:u=.ref a:=B;obtain rfl:v=.ref D:=j;obtain⟨d,z,ne,N,k,n,g,i⟩:=I.aJ a _ c;obtain⟨od,hd⟩:∃od,s.heap.get? dx=aq od:=by
  obtain⟨o,_,_,U,_⟩:=n;exact⟨o,U⟩
 have Ω:=PySem.W.kitx_own (x:=a) (D:=C) (ox:=instObj C dx) (od:=od) (iso.cls.get _) iso.cls.hd iso.ha iso.hn iso.tk iso.mro;exact kia_one Ω I.fZ ⟨N,rfl,rfl,hd⟩ e (by intro z;cases z) λtk=>⟨.bl b,H,I.tok tk,rfl,q⟩
end
end L2
namespace V2
open PySem PySem.Spec PyProof.Rows L2
def Nm(K:bu)(cs:ar bh):Prop:=∀c∈cs,∀d∈cs,∃C D,nsIn K bo c=aq (aq (.ref C))/\nsIn K bo d=aq (aq (.ref D))/\aeH K C/\kitOne K (.ref C) (.ref D)=aq (decide (c=d))
theorem aq5{K:bu}{C:az}:kitOne K (.ref C) (.ref C)=aq a5:=by
 unfold kitOne;rw[bb (by simp)]
theorem arV{K:bu}{c:bh}{C:az}(n:nsIn K bo c=aq (aq (.ref C)))(L:nQ K C)
  (ha:dq K (.ref C) "__class__" = aq (aq (.builtin "object.__class__"))) (hn:specialIn K (.builtin "object.__class__") "__get__" = aq (aq (.builtin "getset_descriptor.__get__")))
  (tk:takesIn K (.builtin "object.__class__")=aq a5) (mro:mroIn K C (.type "object")=aq a5):Nm K [c]:=λa j b q=>by
 simp only[mJ]at j q;subst j;subst q;exact⟨C,C,n,n,⟨L,ha,hn,tk,mro⟩,by rw[aq5];simp⟩
structure Nt(K:bu)(mg:bh->ax au)(x:bh):Prop where
 ex:∃C,mg x=aq (.ref C)/\nsIn K bo x=aq (aq (.ref C))
section
variable{X:Cx}{W:WX}{x:bh}{pos:dj}
theorem af0(h:Nt X.K X.mg x)(j:Gl X x)(hd:(x==("__debug__" : bh))=aw:=by decide):VE X W (.Name x pos) (cG x):=by
 obtain⟨C,h1,h2⟩:=h.ex;exact afZ j h1 h2 hd
@[simp] noncomputable def Ik(cs:ar bh)(as:ar A):Mo A:=λZ=>match as with
 | [.aH s,.gl d]=>(match Z[s]? with
  |some (.ins c _)=>if c∈cs/\d∈cs then aq (.ok (.bl (decide (c=d))),Z)else av
  | _=>av)
 |_=>av
theorem aAS{cs:ar bh}(T:Nm X.K cs):CD X W (.builtin "isinstance") (Ik cs):=by
 refine⟨_,aAP,?_⟩;intro G N m H J n r Q w d h;unfold Ik at h;split at h
 ·rename_i s k;split at h
  ·rename_i c fs eo;split at h
   ·rename_i z;obtain⟨x,y,rfl,l,B⟩:=WK d;obtain⟨a,C,i,U,rfl,ha,o,g,b,p⟩:=w.ins eo l;simp only[Den]at B;obtain⟨D,f,rfl⟩:=B;obtain⟨u,t,q,j,iso,e⟩:=T c z.1 k z.2;rw[g]at q;cases q;rw[f]at j;cases j;exact⟨a,C,D,i,U,_,rfl,b,iso,e,h _ H G N (Ext.refl _ _) w (by simp only[Den])⟩
   ·exact False.elim h
  ·exact False.elim h
 ·exact False.elim h
end
noncomputable def uC(kvs:ar (Key×A))(k:Key):ar (Key×A):=kvs.filter λj=>decide (j.1≠k)
section
variable{K:bu}{G:Hp}{O:ar az}
theorem abK{k:Key}:∀{j:ar (Key×V)} {kvs:ar (Key×A)},j.map (·.1)=kvs.map (·.1)->bE K G O (j.map (·.2)) (kvs.map (·.2))->(sV j k).map (·.1)=(uC kvs k).map (·.1)/\bE K G O ((sV j k).map (·.2)) ((uC kvs k).map (·.2))
 |[],[],_,_=>⟨rfl,.nil⟩
 |[],_::_,h,_=>by simp at h
 |_::_,[],h,_=>by simp at h
 |p::j,q::kvs,h,d=>by
  simp only[cP,qW]at h;obtain⟨x,r,e,l,i⟩:=d.pJ;simp only[cP,qW]at e;obtain⟨g,f⟩:=e;obtain⟨c,b⟩:=abK (k:=k) h.2 (f ▸ i)
  by_cases B:q.1=k
  ·have N:p.1=k:=h.1.trans B;have a:sV (p::j) k=sV j k:=by simp[sV,N]
   have U:uC (q::kvs) k=uC kvs k:=by simp[uC,B]
   rw[a,U];exact⟨c,b⟩
  ·have N:¬p.1=k:=λz=>B (h.1.symm.trans z);have a:sV (p::j) k=p::sV j k:=by simp[sV,N]
   have U:uC (q::kvs) k=q::uC kvs k:=by simp[uC,B]
   rw[a,U];simp only[cP];exact⟨by rw[h.1,c],.cons (by rw[g];exact l) b⟩
end
section
variable{X:Cx}{W:WX}{o e:b7}{i:a9}{f:bh}{cs:ar bh}{fo fi:Ev->Mo A}{pos ai mW:dj}
@[simp] def Im(o k:A):Mo A:=λZ=>match mH Z o,mS k with
 | some (c,kvs),aq key=>(match gZ kvs key with
  |some a=>aq (.ok a,Z.set c (.bB (uC kvs key)))
  | none=>av)
 |_,_=>av
open Classical in
@[simp] noncomputable def GC(fo fi:Ev->Mo A):Ev->Mo A:=λY=>mb (fo Y) λo Z=>if Fo Z o then mb (fi Y) (λk=>Im o k) Z else av
theorem af4(T:VE X W o fo)(hi:VE X W e fi)(m:M1 X o "pop" ai e pos):VE X W (.Call (.Attribute o "pop" ai) [e] [] pos) (GC fo fi):=by
 obtain⟨t,P,K⟩:=T;obtain⟨u,p2,s2⟩:=hi;refine⟨_,anD P p2 m,λG n A H J N Q w r h=>?_⟩;refine K G n A H J N _ w r (bN.mb h λx z v H1 G1 q D b l h1=>?_);split at h1
 ·rename_i hd;obtain⟨k0,aq1,e0⟩:=hd;obtain⟨p,E,rfl,hk,g,M,q2,q3⟩:=BP b l e0;refine⟨p,rfl,.inl ⟨E,.inl M⟩,?_⟩;refine s2 G1 q z H1 J N _ b (r.ext D) (bN.mb h1 λy s u H2 G2 j C U d2 h2=>?_);unfold Im at h2;split at h2
  ·rename_i c B key e1 e2;split at h2
   ·rename_i a V;obtain⟨p',R,AZ,BD,g',L,i,f⟩:=BP U (l.ext C) e1;cases AZ;obtain⟨d,I,F⟩:=(LJ i f).1 a V;obtain⟨k1,S⟩:=abK (k:=key) i f;rw[MU d2 e2];exact⟨R,key,d,L,rfl,I,h2 d _ G2 j (Ext.refl _ _) (U.put (c:=.bB (uC B key)) BD g' ⟨g',_,eA,k1,S⟩) F⟩
   ·exact False.elim h2
  ·exact False.elim h2
 ·exact False.elim h1
@[simp] def GA(neg:bt)(cs:ar bh)(i:a9)(f:bh)(fi:Ev->Mo A):Ev->Mo A:=λY=>mb (fi Y) λk=>jH cs i f (λkvs Z=>match mS k with
 |some key=>aq (.ok (.bl (if neg then !(gZ kvs key).isSome else(gZ kvs key).isSome)),Z)
 | none=>av) Y
theorem aiK{te ty:TE}{neg:bt}(E:eN X.K cs f)(h1:fC X.K (Den X.K) W ty fi)(h2:fC X.K (Den X.K) W te (dR i)):fC X.K (Den X.K) W (if neg then ahV ty (LO X.K te f)else Sb ty (LO X.K te f)) (GA neg cs i f fi):=by
 have key:∀G z B H J U (Q:VK),Wd X.K G z B H->iJ X.K G z J U->bN X.K (Den X.K) W G z J Q (GA neg cs i f fi U B)->ty J H λy g=>LO X.K te f J g λx c=>∃a o,x=.ref a/\qZ c a y o/\Q (.bl (if neg then !o.isSome else o.isSome)) c:=by
  intro G z B H J U Q w r h;refine h1 G z B H J U _ w r (bN.mb h λy e v g L d s t I q=>?_);refine RS (R:=λx c Q=>∃a o,x=.ref a/\qZ c a v o/\Q (.bl (if neg then !o.isSome else o.isSome)) c) h2 E (k:=λj B=>match mS y with
   |some key=>if kV key=v then aq (.ok (.bl (if neg then !(gZ j key).isSome else(gZ j key).isSome)),B)else av
   | none=>av) (λG z B H J b l j Q w hb k1 A h=>?_) L d e g J U Q t (r.ext s) ?_
  ·cases N:mS y with
   |none=>rw[N]at h;exact h.elim
   |some key =>
    rw[N]at h;simp only at h;split at h
    ·rename_i n;refine⟨b,lI l key,rfl,by rw[<-n];exact qZ.k hb,?_⟩;have F:(lI l key).isSome=(gZ j key).isSome:=by
      obtain⟨D,C⟩:=LJ (k:=key) k1 A;cases m:gZ j key with
      |none=>simp[C m]
      |some a=>obtain⟨M,u,_⟩:=D a m;simp[u]
     rw[F];exact h _ H G z (Ext.refl _ _) w (by simp only[Den])
    ·exact h.elim
  ·unfold jH at q ⊢;split
   ·rename_i s0 cls fs j eo;rw[eo]at q;simp only at q;cases N:mS y with
    |none=>rw[N]at q;exact q.elim
    |some key =>
     rw[N]at q;simp only at q ⊢;rw[bb (MU I N).symm];exact q
   ·rename_i p;split at q
    ·rename_i eo;exact(p _ _ _ _ eo).elim
    ·exact q
 cases neg with
 |true=>exact key
 |false=>exact key
theorem afR(z:X.A.units+1<cLine)(hi:VE X W e fi)(B:VE X W o (dR i))(N:eN X.K cs f)(hb:cm o f X.env (cg o X.env)=cg o X.env:=by rfl)(h1:dm .In (.Attribute o f mW)=aw:=by rfl):VT X W (.Compare e [.In] [.Attribute o f mW] pos) (cC (GA aw cs i f fi)):=by
 obtain⟨t,q,j⟩:=hi;obtain⟨u,p2,s2⟩:=B;exact⟨_,alZ (anS z q (MA p2 hb)) h1,SU (aiK (neg:=aw) N j s2)⟩
end
section
variable{X:Cx}{W:WX}{e:b7}{i:a9}{f:bh}{cs:ar bh}{mW:dj}
theorem af2(c:bt){d ai U j:dj}(o:X.calm=a5)(he:VE X W e (dR i))(n:eN X.K cs f)(m:Gl X "list")(hm:X.mg "list" = av)
  (hb:cm e f X.env (cg e X.env)=cg e X.env:=by rfl)
  (k:bj [.Call (.Attribute (.Attribute e f mW) "values" ai) [] [] j] X.env=[(aw,cg (.Call (.Attribute (.Attribute e f mW) "values" ai) [] [] j) X.env)]:=by rfl)
  (B:cm (.Attribute e f mW) "values" X.env (cg (.Attribute e f mW) X.env)=cg (.Attribute e f mW) X.env:=by rfl) (N:(ai.endLine==j.line)=a5:=by rfl) :
  VE X W (.Call (.Name "list" d) [.Call (.Attribute (.Attribute e f mW) "values" ai) [] [] j] [] U) (jH cs i f λkvs=>lK c (kvs.map (·.2))):=by
 obtain⟨t,p,s⟩:=he;refine⟨_,am6 o m hm (MA p hb) k B N,?_⟩;refine RS (R:=λx q Q=>∃a kvs,x=.ref a/\q a=aq (.dK kvs)/\∀(l:az),q l=av->Q (.ref l) (upd q l (.lst (kvs.map (·.2))))) s n λG r u H J b z kvs Q w hb k1 g h=>?_;exact⟨b,z,rfl,hb,λl hl=>GX w hl g h⟩
end
section
variable{P:bp}{w:bz}{K:bu}{mg:bh->ax au}{base:b9}
theorem cQ.o{x:bh}{st:cb}{N ps:ar bh}{k:a9}{b:MS}(h:HasFn K mg x st)(S:cS N ps (aW st))
  (q:∀{f:az} {j:au} {A:bx} {outer:ar Env} {s:ay} {H:Hp} {E:XK},cR k (A.deeper (c6 x (aW st) s.heap.objs.size f j)) ->
   kU (oI P w K mg base N x (aW st) f j A outer s H E) (λ_=>E) (eQ st) b)
  (bind:∀(kV doc pm:au) (an:ax az) (j ct:au) (us:ar au),us.length=ps.length->dh (et x x (jE st) (eQ st) (aW st) .none kV doc pm an j ct) ⟨us,[]⟩=pure (ps.zip us):=by exact λ_ _ _ _ _ _ us hl=>(by first|exact Ac us hl λ_=>rfl|exact xU us hl λ_ _=>rfl|exact Ab us hl λ_ _ _=>rfl|exact Aa us hl λ_ _ _ _=>rfl|exact Ra us hl λ_ _ _ _ _=>rfl)) :
  cQ P w K mg base x (k+1) ps (cV N.length b):=cQ.of h S bind λ_ _ _ _ _ _ _=>q
theorem cH.o{cls m qual:bh}{st:cb}{N ps:ar bh}{k:a9}{b:MS}(h:mL K mg cls m qual st)(S:cS N ps (aW st))
  (q:∀{f:az} {j:au} {A:bx} {outer:ar Env} {s:ay} {H:Hp} {E:XK},cR k (A.deeper (c6 qual (aW st) s.heap.objs.size f j)) ->
   kU (oI P w K mg base N qual (aW st) f j A outer s H E) (λ_=>E) (eQ st) b)
  (bind:∀(kV doc pm:au) (an:ax az) (j ct:au) (us:ar au),us.length=ps.length->dh (et m qual (jE st) (eQ st) (aW st) .none kV doc pm an j ct) ⟨us,[]⟩=pure (ps.zip us):=by exact λ_ _ _ _ _ _ us hl=>(by first|exact Ac us hl λ_=>rfl|exact xU us hl λ_ _=>rfl|exact Ab us hl λ_ _ _=>rfl|exact Aa us hl λ_ _ _ _=>rfl)) :
  cH P w K mg base cls m (k+1) ps.length [] (cV N.length b):=cH.of h S bind λ_ _ _ _ _ _ _=>q
end
section
variable{X:Cx}{W:WX}
theorem fG(i:a9){x:bh}{pos:dj}(z:decide X.N.Nodup=a5:=by kernel_rfl)(hi:X.N[i]?=aq x:=by rfl)(j:Loc X.env.scope x:=by first|exact .inl rfl|exact .inr rfl)(q:X.fn x=a5\/X.env.scope.names.lookup x=aq .local:=by first|exact .inl rfl|exact .inr rfl|assumption):VG X W (.Name x pos) (gN i):=afV (Dz z) hi j q
theorem cW(i:a9){x:bh}{e:b7}{fe:Ev->Mo A}{pos pos':dj}(he:VE X W e fe)(B:decide X.N.Nodup=a5:=by kernel_rfl)(hi:X.N[i]?=aq x:=by rfl)(j:Loc X.env.scope x:=by first|exact .inl rfl|exact .inr rfl)(q:ez e (aq (.Name x pos')) pos.line X.env=pure aw:=by rfl)(z:X.fn x=a5\/X.env.scope.names.lookup x=aq .local:=by first|exact .inl rfl|exact .inr rfl|assumption) :
  VS X W (.Assign [.Name x pos'] e pos) (bP fe (gN i)):=afS (Dz B) hi j he q z
theorem uT{elt tg iter:b7}{ifs:ar b7}{scope:cu}{pos:dj}{fi:Ev->Mo Src}{g:A->MS}{c:Ev->Mo bt}{e:Ev->Mo A}(q:bt)(j:ar bh)(js:ar a9)(hi:VI X W tg iter fi)
  (hb:∀{cl C s H fp},VG (kN X scope j js cl C s H fp) DG tg g/\PR (kN X scope j js cl C s H fp) DG ifs c/\VE (kN X scope j js cl C s H fp) DG elt e)
  (B:X.calm=a5:=by rfl) (ok:Fc scope X.env.scope X.N js=a5:=by kernel_rfl)
  (z:∀x,df iter X.env x=pure x:=by intro _;rfl):VE X W (.ListComp elt [⟨tg,iter,ifs,0⟩] scope pos) (mR q j.length js fi g c e):=afX q j js B (.of _ _ rfl rfl ok) hi (λ_ _ _ _ _=>hb) z
end
end V2
namespace M
open PySem V2
noncomputable section
def XF:MS :=
 (aV (sG ["Gaps"] "keep" aK aR)
  (aV (sG ["Gaps"] "many" aK cK)
  (sG ["Gaps"] "taken" aK cK)))
def RC:ar A->Mo A:=cV 2 XF
def Kw:MS :=
 (eW (cC (aB vK (aB cJ (eR ["Gaps"] "many" aK) aR) (cI 1000000000)))
   (λ_ _=>av)
   fY)
def QY:ar A->Mo A:=cV 2 Kw
def Kx:MS :=
 (bW (eR ["Gaps"] "many" aK))
def zR:ar A->Mo A:=cV 1 Kx
def Ku:MS :=
 (bW (eR ["Gaps"] "taken" aK))
def BZ:ar A->Mo A:=cV 1 Ku
def Le:MS :=
 (bW (aS (Ik ["Gaps"]) (aC aR (aC (cG "Gaps") a0))))
def RD:ar A->Mo A:=cV 2 Le
def Kn:MS :=
 (aV (bP (aB cJ aR cU) (gN 1))
   (bP (aB (jC) aK lH) (gN 0)))
def XA:Ev->Mo bt :=
 (cC (aB vK aK cK))
def Ko:MS :=
 (aV (bP cK (gN 1))
  (aV (λY Z=>mG XA Kn ((λ_ _=>1000000) Y Z) Y Z)
  (bW aR)))
def YS:ar A->Mo A:=cV 2 Ko
def IT:Ev->Mo A :=
 (aB vK (aB aQ aK cK) aR)
def Kb:MS :=
 (bW (aS (cE 2 sA) (aC aK (aC (xS 0 "upto" ⟨93,53,93,84⟩ (AS "upto") [1] (λns a=>qO (nZ IT ns) a) (aB aQ aK pG)) a0))))
def KJ:ar A->Mo A:=cV 2 Kb
def IW:Ev->Mo A :=
 (aB OE (aB aQ aK cK) aR)
def Kh:MS :=
 (bW (aS (cE 2 sA) (aC aK (aC (xS 1 "below" ⟨96,53,96,85⟩ (AS "below") [1] (λns a=>qO (nZ IW ns) a) (aB aQ aK pG)) a0))))
def KP:ar A->Mo A:=cV 2 Kh
def XI:MS :=
 (aV (kX (aS (cE 2 RC) (aC aK (aC aR a0))))
  (aV (xZ ["Gaps"] 0 "newest" wF)
  (xZ ["Gaps"] 0 "laid" wF)))
def xJ:ar A->Mo A:=cV 2 XI
def Li:MS :=
 (bW (aS (cE 1 QR) (aC (jH ["Gaps"] 0 "newest" λkvs=>lK aw (kvs.map mT)) a0)))
def CB:ar A->Mo A:=cV 1 Li
def XG:MS :=
 (aV (uX 0 "laid" (bP (aS (cE 2 QO) (aC (aS (cE 2 KN) (aC (GC (eR ["Gaps"] "laid" aK) cN) (aC aR a0))) (aC (eR ["Gaps"] "keep" aK) a0))) (gN 1)))
   (bP (aB cJ cN cU) (gN 2)))
def XH:Ev->Mo bt :=
 (cC (GA aw ["Gaps"] 0 "laid" cN))
def Lj:MS :=
 (aV (λY Z=>mG XH XG ((λ_ _=>1000000) Y Z) Y Z)
  (uX 0 "laid" (yA aR (eR ["Gaps"] "laid" aK) cN)))
def CC:ar A->Mo A:=cV 3 Lj
def Lf:MS :=
 (bW (aB cJ (gS aw (aC (bQ "newest_pouch" [("Gaps",bO 1 [] CB)] aK a0) a0)) (jH ["Gaps"] 0 "laid" λkvs=>lK aw (kvs.map (·.2)))))
def uL:ar A->Mo A:=cV 1 Lf
def PM:MS :=
 (aV (uX 0 "newest" (yA (aB cJ (CM (eR ["Gaps"] "newest" aK) aR cK) cN) (eR ["Gaps"] "newest" aK) aR))
  (eW (cC (aB vK (jH ["Gaps"] 0 "newest" λkvs=>ret (.int kvs.length)) (eR ["Gaps"] "keep" aK)))
   (aV (kX (bQ "lay" [("Gaps",bO 3 [] CC)] aK (aC (bQ "newest_pouch" [("Gaps",bO 1 [] CB)] aK a0) (aC cK a0))))
   (xZ ["Gaps"] 0 "newest" wF))
   fY))
def FT:ar A->Mo A:=cV 3 PM
def acV:Ev->Mo A :=
 (mR aw 1 [] (fH (aB aQ cN pG)) (gN 0) mM (aB aQ aK cK))
def PN:MS :=
 (kX (xT Il aR (aC acV a0)))
def Lk:MS :=
 (aV (bP (gS a5 a0) (gN 1))
  (aV (jR (fH (bQ "parts" [("Gaps",bO 1 [] uL)] aK a0)) (gN 2) PN)
  (bW (xR 1))))
def xH:ar A->Mo A:=cV 3 Lk
def Lg:Ev->Mo A :=
 (mR aw 1 [] (fH (bQ "parts" [("Gaps",bO 1 [] uL)] aK a0)) (gN 0) mM (aB aQ aK cU))
def Lh:MS :=
 (bW (aS pR (aC Lg a0)))
def zT:ar A->Mo A:=cV 1 Lh
def Lb:Ev->Mo A :=
 (mR aw 1 [1] (fH (bQ "parts" [("Gaps",bO 1 [] uL)] aK a0)) (gN 0) mM (aS (TX (cE 2 KJ)) (aC aK (aC aR a0))))
def Lc:MS :=
 (bW (aS (cE 1 KL) (aC Lb a0)))
def vW:ar A->Mo A:=cV 2 Lc
def Ll:Ev->Mo A :=
 (mR aw 1 [1] (fH (bQ "parts" [("Gaps",bO 1 [] uL)] aK a0)) (gN 0) mM (aS (TX (cE 2 KP)) (aC aK (aC aR a0))))
def Lm:MS :=
 (bW (aS (cE 1 KL) (aC Ll a0)))
def xI:ar A->Mo A:=cV 2 Lm
def XD:MS :=
 (aV (eW (cC (aB oF cN cU))
   (λ_ _=>av)
   fY)
  (aV (kX (bQ "look_room" [("Gaps",bO 2 [] QY)] aK (aC cN a0)))
  (aV (kX (bQ "take" [("Gaps",bO 3 [] FT)] aK (aC aR (aC cN a0))))
  (aV (sG ["Gaps"] "many" aK (aB cJ (eR ["Gaps"] "many" aK) cN))
  (sG ["Gaps"] "taken" aK (aB cJ (eR ["Gaps"] "taken" aK) cU))))))
def FR:ar A->Mo A:=cV 3 XD
def Kz:MS :=
 (bW (aS jB (aC (bQ "kept" [("Gaps",bO 1 [] xH)] aK a0) a0)))
def zS:ar A->Mo A:=cV 1 Kz
def Kv:MS :=
 (bW (RW a5 (bQ "kept" [("Gaps",bO 1 [] xH)] aK a0)))
def CA:ar A->Mo A:=cV 1 Kv
def Kt:MS :=
 (aV (eW (cC (aB oF cN aR))
   (bW (nS (aC cK (aC cK a0))))
   fY)
  (bW (aS (cE 2 QV) (aC (bQ "below" [("Gaps",bO 2 [] xI)] aK (aC aR a0)) (aC (bQ "upto" [("Gaps",bO 2 [] vW)] aK (aC cN a0)) a0)))))
def QX:ar A->Mo A:=cV 3 Kt
def PL:MS :=
 (kX (bQ "lay" [("Gaps",bO 3 [] CC)] aK (aC fD (aC eL a0))))
def PK:MS :=
 (kX (bQ "take" [("Gaps",bO 3 [] FT)] aK (aC mN (aC jP a0))))
def Ld:MS :=
 (aV (bP (jH ["Gaps"] 1 "laid" λkvs=>lK aw (kvs.map mT)) (gN 2))
  (aV (bP (jH ["Gaps"] 1 "newest" λkvs=>lK aw (kvs.map mT)) (gN 3))
  (aV (jR (fH cN) (iM 2 (dH (gN 4) (dH (gN 5) jA))) PL)
  (jR (fH cA) (iM 2 (dH (gN 6) (dH (gN 7) jA))) PK))))
def YU:ar A->Mo A:=cV 8 Ld
def Ky:MS :=
 (aV (eW (mP (mQ (cC (bQ "same_kind" [("Gaps",bO 2 [] RD)] aK (aC aR a0)))) (cC (aB qN (eR ["Gaps"] "keep" aR) (eR ["Gaps"] "keep" aK))))
   (λ_ _=>av)
   fY)
  (aV (kX (bQ "look_room" [("Gaps",bO 2 [] QY)] aK (aC (eR ["Gaps"] "many" aR) a0)))
  (aV (kX (bQ "take_in" [("Gaps",bO 2 [] YU)] aK (aC aR a0)))
  (aV (sG ["Gaps"] "many" aK (aB cJ (eR ["Gaps"] "many" aK) (eR ["Gaps"] "many" aR)))
  (sG ["Gaps"] "taken" aK (aB cJ (eR ["Gaps"] "taken" aK) (eR ["Gaps"] "taken" aR)))))))
def QZ:ar A->Mo A:=cV 2 Ky
def Ks:MS :=
 (bW (bQ "between" [("Gaps",bO 3 [] QX)] aK (aC aR (aC aR a0))))
def KQ:ar A->Mo A:=cV 2 Ks
def Kl:MS :=
 (bW (gS aw (aC (bQ "length" [("Gaps",bO 1 [] zR)] aK a0) (aC (bQ "puts" [("Gaps",bO 1 [] BZ)] aK a0) (aC (bQ "held" [("Gaps",bO 1 [] zS)] aK a0) (aC (bQ "off" [("Gaps",bO 1 [] zT)] aK a0) (aC (bQ "numbers" [("Gaps",bO 1 [] CA)] aK a0) (aC (bQ "upto" [("Gaps",bO 2 [] vW)] aK (aC aR a0)) a0))))))))
def FP:ar A->Mo A:=cV 2 Kl
def acU:Ev->Mo A :=
 (mR aw 2 [] (fH (aB aQ aR cA)) (iM 2 (dH (gN 0) (dH (gN 1) jA))) mM aR)
def acT:Ev->Mo A :=
 (mR aw 2 [] (fH (aB aQ aR eL)) (iM 2 (dH (gN 0) (dH (gN 1) jA))) mM aR)
def Km:MS :=
 (aV (bP (aS (cE 2 FP) (aC (aB aQ aK eL) (aC fD a0))) (gN 6))
  (aV (bP (aB cJ (aS pR (aC acU a0)) (aS pR (aC acT a0))) (gN 7))
  (aV (eW (mP (cC (aB OE jP (cI 1000000000))) (cC (aB vK (aB cJ (aS jB (aC (aB aQ aR cA) a0)) (aS jB (aC (aB aQ aR eL) a0))) (cI 400))))
   (bW (cB a5))
   fY)
  (aV (kX (bQ "join" [("Gaps",bO 2 [] QZ)] (aB aQ aK cA) (aC (aB aQ aK eL) a0)))
  (aV (bP (aB cJ (aB aQ aR cA) (aB aQ aR eL)) (yW aR cA))
  (aV (bP (aB cJ (aB aQ cN cA) (aB aQ cN eL)) (yW cN cA))
  (aV (eW (mP (cC (aB qN (bQ "length" [("Gaps",bO 1 [] zR)] (aB aQ aK cA) a0) jP)) (cC (aB qN (bQ "puts" [("Gaps",bO 1 [] BZ)] (aB aQ aK cA) a0) (aB aQ cN cA))))
   (bW (cB aw))
   fY)
  (bW (CL (aB mF cA eL) (aB mF (aS (cE 2 FP) (aC (aB aQ aK eL) (aC fD a0))) mN))))))))))
def QW:ar A->Mo A:=cV 8 Km
def acQ:Ev->Mo A :=
 (mR aw 2 [] (fH aR) (iM 2 (dH (gN 0) (dH (gN 1) jA))) mM aR)
def PJ:MS :=
 (aV (bP (aS (cE 2 YT) (aC aR (aC nD a0))) (iM 2 (dH (gN 9) (dH (gN 10) jA))))
   (aV (eW (mP (mQ (cC (aS (cE 3 uK) (aC (bQ "upto" [("Gaps",bO 2 [] vW)] aK (aC nD a0)) (aC LF (aC jP a0)))))) (mQ (cC (aS (cE 3 uK) (aC (bQ "below" [("Gaps",bO 2 [] xI)] aK (aC nD a0)) (aC LD (aC jP a0)))))))
    (bW (cB aw))
    fY)
   (eW (mQ (cC (aS (cE 3 uK) (aC (bQ "counted" [("Gaps",bO 2 [] KQ)] aK (aC nD a0)) (aC (aB (nN) LF LD) (aC (aB (mE) lH jP) a0))))))
    (bW (cB aw))
    fY)))
def Kk:MS :=
 (aV (bP (aS pR (aC acQ a0)) (gN 5))
  (aV (bP (aS (cE 1 YS) (aC (aB (jC) cN (aB cJ cA cU)) a0)) (gN 6))
  (aV (bP (bQ "off" [("Gaps",bO 1 [] zT)] aK a0) (gN 7))
  (aV (eW (mP (mQ (cC (CN rO rO (aS jB (aC (bQ "numbers" [("Gaps",bO 1 [] CA)] aK a0) a0)) (bQ "held" [("Gaps",bO 1 [] zS)] aK a0) (aB (mE) (aB cJ (aB (mE) lH cA) lH) (aB cJ mN lH))))) (cC (aB qN (bQ "length" [("Gaps",bO 1 [] zR)] aK a0) fD)))
   (bW (cB aw))
   fY)
  (aV (eW (mQ (cC (CN rO rO cK jP (aB (jC) (aB (mE) (aS tZ (aC cK (aC (aB (nN) mN cU) a0))) fD) cA))))
   (bW (cB aw))
   fY)
  (aV (jR (fH eL) (gN 8) PJ)
  (bW (cB a5))))))))
def Nx:ar A->Mo A:=cV 11 Kk
def Ki:Ev->Mo A :=
 (mR aw 2 [] (fH (aB aQ aR fD)) (iM 2 (dH (gN 0) (dH (gN 1) jA))) mM aR)
def Kj:MS :=
 (aV (bP (aB (iN) cA tL) (gN 5))
  (aV (bP (aS (cE 2 xG) (aC (aS (cE 2 zQ) (aC cA (aC cU a0))) (aC eL a0))) (gN 6))
  (aV (eW (cC (aB mF (aB (iN) (aB (jC) cA tL) CJ) cK))
   (bW (aS (cE 6 QW) (aC aK (aC aR (aC cN (aC fD (aC (aB (iN) (aB (jC) cA (cI 20)) tL) (aC mN a0))))))))
   fY)
  (aV (bP (aB aQ (gS aw (aC cU (aC cU (aC (aB cJ cU (aB (iN) (aB (jC) cA (cI 80)) Qf)) (aC (aB cJ cU (aB (iN) (aB (jC) cA (cI 80)) (cI 1000))) a0))))) (aB (iN) (aB (jC) cA (cI 20)) tL)) (gN 7))
  (aV (eW (zZ (cC (aB oF (aB cJ (aS pR (aC Ki a0)) jP) (cI 1000000000))) (cC (aB oF (aS jB (aC (aB aQ aR fD) a0)) (cI 400))))
   (aV (kX (bQ "put" [("Gaps",bO 3 [] FR)] (aB aQ aK fD) (aC mN (aC jP a0))))
   (aV (bP (aB cJ (aB aQ aR fD) (gS aw (aC (nS (aC mN (aC jP a0))) a0))) (yW aR fD))
   (bP (aB cJ (aB aQ cN fD) cU) (yW cN fD))))
   fY)
  (bW (cB a5)))))))
def Nw:ar A->Mo A:=cV 8 Kj
def PF:MS :=
 (aV (bP (aS (cE 2 zQ) (aC (aS (cE 2 FQ) (aC aK (aC (aB cJ cU (aB (iN) nD (aS tZ (aC cU (aC jP a0))))) a0))) (aC nD a0))) (gN 9))
   (eW (mQ (cC (aS (cE 5 Nw) (aC eL (aC fD (aC mN (aC LD (aC cN a0))))))))
    (bW (cB aw))
    fY))
def PD:MS :=
 (eW (mQ (cC (aS (cE 6 QW) (aC eL (aC fD (aC mN (aC cK (aC LF (aC CJ a0)))))))))
    (bW (cB aw))
    fY)
def OZ:MS :=
 (eW (mQ (cC (aS (cE 5 Nx) (aC (aB aQ eL nD) (aC (aB aQ fD nD) (aC (aB aQ mN nD) (aC cA (aC (aS (cE 3 Ny) (aC (aB aQ fD nD) (aC aR (aC cN a0)))) a0))))))))
    (bW (cB aw))
    fY)
def WY:MS :=
 (aV (bP (aS (cE 2 FQ) (aC aK (aC cK a0))) (gN 1))
  (aV (bP (aB (iN) aR CJ) (gN 2))
  (aV (bP (aB cJ cU (aB (iN) (aB (jC) aR CJ) tL)) (gN 3))
  (aV (bP (gS aw (aC (aS (wQ "Gaps" 2 xJ) (aC cA a0)) (aC (aS (wQ "Gaps" 2 xJ) (aC cA a0)) (aC (aS (wQ "Gaps" 2 xJ) (aC cA a0)) (aC (aS (wQ "Gaps" 2 xJ) (aC cA a0)) a0))))) (gN 4))
  (aV (bP (gS a5 (aC (gS aw a0) (aC (gS aw a0) (aC (gS aw a0) (aC (gS aw a0) a0))))) (gN 5))
  (aV (bP (gS a5 (aC cK (aC cK (aC cK (aC cK a0))))) (gN 6))
  (aV (bP (aS tZ (aC cK (aC (aB (nN) (aS jB (aC aK a0)) cU) a0))) (gN 7))
  (aV (jR (zY (aC (aS VU (aC (cI 70) (aC (aS tZ (aC jP (aC (aB (iN) (aB (jC) aR (cI 20)) (cI 71)) a0))) a0))) a0)) (gN 8) PF)
  (aV (jR (fH (gS aw (aC cU (aC lH (aC pG a0))))) (gN 10) PD)
  (aV (jR (zY (aC tL a0)) (gN 8) OZ)
  (bW (cB a5))))))))))))
def aeK:ar A->Mo A:=cV 11 WY
end
abbrev Rg:=a9×a9×ar Rn×Po
structure rW(keep:a9)(x:Rg):Prop where
 gd:Gd x.2.2.1 x.2.2.2
 off:(keep:a8)*x.2.2.2.l<=x.1*x.2.2.2.s
 cnt:2 ^ x.1*(keep+1)<=x.2.1
 len:x.2.2.2.es.length<=2*keep+2
 nn:0<=x.2.2.2.s
def up1(keep:a9)(y x:Rg):Rg:=(x.1+1,y.2.1+x.2.1,y.2.2.1++x.2.2.1,Rp keep (sJ y.2.2.2 x.2.2.2))
theorem rW.up{keep:a9}{x y:Rg}(z:1<=keep)(h:rW keep x)(g:rW keep y)(e:y.1=x.1):rW keep (up1 keep y x):=by
 have q:0<=y.2.2.2.s+x.2.2.2.s:=Int.add_nonneg g.nn h.nn;have j:=g.gd.merge h.gd;refine⟨j.nG keep (by omega),?_,?_,?_,q⟩
 ·show(keep:a8)*(y.2.2.2.l+x.2.2.2.l+(y.2.2.2.s+x.2.2.2.s)/keep)<=((x.1+1:a9):a8)*(y.2.2.2.s+x.2.2.2.s);have h1:=h.off;have h2:=g.off;rw[e]at h2;have N:=Int.mul_ediv_self_le (x:=y.2.2.2.s+x.2.2.2.s) (k:=keep) (by omega);have B:((x.1+1:a9):a8)*(y.2.2.2.s+x.2.2.2.s)=x.1*y.2.2.2.s+x.1*x.2.2.2.s+(y.2.2.2.s+x.2.2.2.s):=by
   rw[Int.natCast_add,Int.add_mul,YJ];simp
  rw[B,YJ,YJ];omega
 ·show 2 ^ (x.1+1)*(keep+1)<=y.2.1+x.2.1;have h1:=h.cnt;have h2:=g.cnt;rw[e]at h2;rw[Nat.pow_succ,Nat.mul_assoc,Nat.mul_comm 2,<-Nat.mul_assoc];omega
 ·show(nG (y.2.2.2.l+x.2.2.2.l+(y.2.2.2.s+x.2.2.2.s)/keep) _).length<=_;have:=ag9 j.gf keep z;exact rX this (by omega)
def kO(keep:a9):a9->ar Rg->Rg->ar Rg
 |0,L,x=>L++[x]
 |f+1,L,x=>match L.find? λy=>y.1==x.1 with
  |none=>L++[x]
  |some y=>kO keep f (L.filter λz=>z.1 != x.1) (up1 keep y x)
noncomputable def lW(f:ar Rn->a8)(L:ar Rg):a8:=(L.map λx=>f x.2.2.1).sum
noncomputable def nI(L:ar Rg):a9:=(L.map λx=>x.2.1).sum
noncomputable def gK(L:ar Rg):a8:=(L.map λx=>x.2.2.2.l).sum
noncomputable def UK(L:ar Rg):a9:=(L.map λx=>x.2.2.2.es.length).sum
structure rZ(keep:a9)(L:ar Rg):Prop where
 nd:(L.map (·.1)).Nodup
 ok:∀x∈L,rW keep x
theorem Vi(f:Rg->a8):∀{L:ar Rg} {y:Rg} {l:a9},(L.map (·.1)).Nodup->y∈L->y.1=l->((L.filter λz=>z.1 != l).map f).sum+f y=(L.map f).sum
 |z::L,y,l,nd,B,e=>by
  rw[cP,rY]at nd
  by_cases j:z.1=l
  ·have hL:L.filter (λz=>z.1 != l)=L:=List.filter_eq_self.mpr λw hw=>by
    have:w.1≠l:=λq=>nd.1 (by rw[j,<-q];exact YF hw);simpa using this
   have:y=z:=by
    rcases dU.mp B with q|q
    ·exact q
    ·exact b8 (by rw[j,<-e];exact YF q) nd.1
   subst this;rw[List.filter_cons_of_neg (by simpa using j),hL,cP,mZ];omega
  ·have N:y∈L:=by
    rcases dU.mp B with q|q
    ·subst q;exact b8 e j
    ·exact q
   rw[List.filter_cons_of_pos (by simpa using j),cP,mZ,cP,mZ];have:=Vi f nd.2 N e;omega
theorem UM{keep:a9}(F:Rg->a8)(B:∀x y:Rg,F (up1 keep y x)=F y+F x):∀(f:a9) {L:ar Rg} {x:Rg},(L.map (·.1)).Nodup->((kO keep f L x).map F).sum=(L.map F).sum+F x
 |0,L,x,_=>by simp[kO]
 |f+1,L,x,nd=>by
  unfold kO;split
  ·simp
  ·rename_i y q;have hm:=ad9 q;have he:y.1=x.1:=by simpa using List.find?_some q
   have j:((L.filter λz=>z.1 != x.1).map (·.1)).Nodup:=nd.sublist (aeF.map _);rw[UM F B f j,B];have:=Vi F nd hm he;omega
theorem Fe{keep:a9}(B:1<=keep):∀(f:a9) {L:ar Rg} {x:Rg},L.length<=f->rZ keep L->rW keep x->rZ keep (kO keep f L x)
 |0,L,x,hl,h,g=>by
  have:L=[]:=xE (by omega);subst this;exact⟨by simp[kO],λy j=>by simp[kO]at j;subst j;exact g⟩
 |f+1,L,x,hl,h,g=>by
  unfold kO;split
  ·rename_i hn;refine⟨?_,λy j=>?_⟩
   ·rw[xD,YE];refine⟨h.nd,by simp,λa ha b hb=>?_⟩;obtain⟨y,j,rfl⟩:=kW.mp ha;have U:b=x.1:=by simpa using hb
    subst U;have:=List.find?_eq_none.mp hn y j;simpa using this
   ·rcases lP.mp j with q|q
    ·exact h.ok y q
    ·have:y=x:=by simpa using q
     subst this;exact g
  ·rename_i y j;have hm:=ad9 j;have he:y.1=x.1:=by simpa using List.find?_some j
   refine Fe B f ?_ ⟨h.nd.sublist (aeF.map _),λz N=>h.ok z (My.mp N).1⟩ (g.up B (h.ok y hm) he);have:(L.filter λz=>z.1 != x.1).length<L.length:=by
    refine Nat.lt_of_le_of_ne (aeA _ _) λq=>?_;have:=aCL.mp q y hm;simp[he]at this
   omega
theorem aa5:∀{m:a9} {l:ar a9},l.Nodup->(∀x∈l,x<m)->l.length<=m
 |0,l,_,h=>by
  cases l with
  |nil=>simp
  |cons x r=>have:=h x mB;omega
 |m+1,l,nd,h=>by
  have:=aa5 (m:=m) (nd.erase m) λx j=>by
   have h1:=h x (List.mem_of_mem_erase j);have h2:x≠m:=λq=>by subst q;exact nd.not_mem_erase j
   omega
  rw[List.length_erase]at this;split at this <;> omega
theorem rZ.Dy{keep m:a9}{L:ar Rg}(h:rZ keep L)(hm:∀x∈L,x.1<=m):(keep:a8)*gK L<=m*(L.map λx=>x.2.2.2.s).sum/\0<=(L.map λx=>x.2.2.2.s).sum:=by
 obtain⟨nd,ok⟩:=h;unfold gK
 induction L with
 |nil=>simp
 |cons x r ih =>
  obtain⟨h1,h2⟩:=ih (λy j=>hm y (fS _ j)) (rY.mp nd).2 (λy j=>ok y (fS _ j));have q:=ok x mB;have N:=q.off;have B:(x.1:a8)*x.2.2.2.s<=m*x.2.2.2.s:=Int.mul_le_mul_of_nonneg_right (by have:=hm x mB;omega) q.nn;have z:=q.nn;simp only[cP,mZ,YJ];omega
theorem rZ.aqL{keep m:a9}{L:ar Rg}(h:rZ keep L)(hm:∀x∈L,x.1<m):UK L<=m*(2*keep+2):=by
 have hl:L.length<=m:=by
  have:=aa5 h.nd (m:=m) (λx q=>by obtain⟨y,j,e⟩:=kW.mp q;subst e;exact hm y j);simpa using this
 have:UK L<=L.length*(2*keep+2):=by
  obtain⟨nd,ok⟩:=h;clear hl hm;unfold UK
  induction L with
  |nil=>simp
  |cons x r ih =>
   have h1:=ih (rY.mp nd).2 (λy j=>ok y (fS _ j));have h2:=(ok x mB).len;simp only[cP,mZ,fT];rw[Nat.add_mul,Nat.one_mul];omega
 exact rX this (Nat.mul_le_mul_right _ hl)
theorem ap9{lv n keep b:a9}(h:2 ^ lv*(keep+1)<=n)(hb:n/(keep+1)<2 ^ b):lv<b:=by
 have h1:2 ^ lv<=n/(keep+1):=(Nat.le_div_iff_mul_le (by omega)).mpr h;exact(Nat.pow_lt_pow_iff_right (a:=2) (by decide)).mp (Nat.lt_of_le_of_lt h1 hb)
open PySem L2 V2
noncomputable def vO:ar Rn->a8->a8
 |[],_=>0
 |r::rs,n=>if r.1=n then r.2 else vO rs n
noncomputable def bS:ar Rn->a8->a8->ar Rn
 |[],n,t=>[(n,t)]
 |r::rs,n,t=>if r.1=n then(r.1,r.2+t)::rs else r::bS rs n t
theorem Xf:∀(rs:ar Rn) (n t m:a8),m∈(bS rs n t).map (·.1)->m∈rs.map (·.1)\/m=n
 |[],n,t,m,h=>by simp only[bS,cP,uI,mJ]at h;exact .inr h
 |r::rs,n,t,m,h=>by
  simp only[bS]at h;split at h
  ·exact .inl (by simpa using h)
  ·simp only[cP,dU]at h ⊢
   rcases h with h|h
   ·exact .inl (.inl h)
   ·rcases Xf rs n t m h with q|q
    ·exact .inl (.inr q)
    ·exact .inr q
theorem Vx:∀(rs:ar Rn) (n t:a8),(rs.map (·.1)).Nodup->((bS rs n t).map (·.1)).Nodup
 |[],n,t,_=>by simp[bS]
 |r::rs,n,t,nd=>by
  simp only[bS];split
  ·simpa using nd
  ·rename_i e;rw[cP,rY]at nd ⊢;refine⟨λh=>?_,Vx rs n t nd.2⟩
   rcases Xf rs n t r.1 h with q|q
   ·exact nd.1 q
   ·exact e q
theorem Uq:∀(rs:ar Rn) (n t:a8),1<=t->(∀r∈rs,1<=r.2)->∀r∈bS rs n t,1<=r.2
 |[],n,t,j,_,r,hr=>by simp only[bS,mJ]at hr;subst hr;exact j
 |s::rs,n,t,j,h,r,hr=>by
  simp only[bS]at hr;split at hr
  ·rcases dU.mp hr with e|e
   ·subst e;have:=h s (by simp);show 1<=s.2+t;omega
   ·exact h r (by simp[e])
  ·rcases dU.mp hr with e|e
   ·subst e;exact h _ (by simp)
   ·exact Uq rs n t j (λr hr=>h r (by simp[hr])) r e
noncomputable def fB(rs:ar Rn):ar (Key×A):=rs.map λr=>(.inl r.1,.int r.2)
theorem Qw{q:Key×A}{kvs:ar (Key×A)}{k:Key}(h:q.1=k):gZ (q::kvs) k=aq q.2:=by simp[gZ,h]
theorem Qv{q:Key×A}{kvs:ar (Key×A)}{k:Key}(h:q.1≠k):gZ (q::kvs) k=gZ kvs k:=by simp[gZ,h]
theorem Qu:∀(rs:ar Rn) (n:a8),(gZ (fB rs) (.inl n)).getD (.int 0)=.int (vO rs n)
 |[],n=>rfl
 |r::rs,n=>by
  have ih:=Qu rs n;show(gZ ((.inl r.1,.int r.2)::fB rs) (.inl n)).getD (.int 0)=.int (vO (r::rs) n)
  by_cases h:r.1=n
  ·rw[Qw (by rw[h])];simp[vO,h]
  ·rw[Qv (by intro z;exact h (by simpa using z)),ih];simp[vO,h]
theorem alU{q:Key×A}{kvs:ar (Key×A)}{k:Key}{a:A}(h:q.1≠k):lY (q::kvs) k a=q::lY kvs k a:=by
 unfold lY;have e:((q::kvs).any λj=>decide (j.1=k))=kvs.any λj=>decide (j.1=k):=by simp[h]
 rw[e];split
 ·simp[h]
 ·simp
theorem Um:∀(rs:ar Rn) (n t:a8),(rs.map (·.1)).Nodup->lY (fB rs) (.inl n) (.int (vO rs n+t))=fB (bS rs n t)
 |[],n,t,_=>by simp[fB,lY,bS,vO]
 |r::rs,n,t,nd=>by
  rw[cP,rY]at nd;have ih:=Um rs n t nd.2;show lY ((.inl r.1,.int r.2)::fB rs) (.inl n) _=_
  by_cases h:r.1=n
  ·subst h;have em:∀(l:ar Rn),r.1∉l.map (·.1)->(fB l).map (λj=>if j.1=(.inl r.1:Key)then(j.1,A.int (r.2+t))else j)=fB l:=by
    intro l
    induction l with
    |nil=>intro _;rfl
    |cons s l N =>
     intro hn;simp only[cP,dU,not_or]at hn;have B:¬s.1=r.1:=λz=>hn.1 z.symm;have:=N hn.2;simp only[fB,cP]at this ⊢;rw[this];simp[B]
   have q:=em rs nd.1;simp only[lY,vO,bb,bS];simp[fB]at q ⊢;exact q
  ·rw[alU (by intro z;exact h (by simpa using z))];simp only[vO,bS,bc h,ih];rfl
theorem Xl(rs:ar Rn):(fB rs).map mT=aN rs:=by simp[fB,mT,kA,aN,jV]
theorem af9(rs:ar Rn):(fB rs).map (·.2)=(rs.map (·.2)).map A.int:=by simp[fB]
theorem oQ{Z Z':aG}{a:A}(h:Z'.length=Z.length):trim Z (aq (.ok a,Z'))=aE a Z':=by
 simp only[trim];split
 ·rename_i j;rw[<-h,List.take_length]at j;rw[j.1]
 ·rfl
theorem agY{Z:aG}{c:Cell}:trim Z (aq (.ok (.aH Z.length),Z++[c]))=aE (.aH Z.length) (Z++[c]):=by
 simp[trim,Cl]
def fA(L:ar Rg):ar (Key×A):=L.map λx=>(.inl (x.1:a8),bX x.2.2.2)
abbrev dW(keep:a9)(many tk:a8)(rs:ar Rn)(L:ar Rg):ar (bh×Fd):=[("keep",.val (.int keep)),("many",.val (.int many)),("taken",.val (.int tk)),("newest",.bB (fB rs)),("laid",.bB (fA L))]
abbrev aT(keep:a9)(many tk:a8)(rs:ar Rn)(L:ar Rg):Cell:=.ins "Gaps" (dW keep many tk rs L)
section
variable{Z Z':aG}{p keep:a9}{many tk:a8}{rs:ar Rn}{L:ar Rg}
theorem rK{m:bh}{F:ar A->Mo A}{n i:a9}{das as:ar A}{fs:Ev->Mo (ar A)}{Y:Ev}{a:A}(h:Z[p]?=aq (aT keep many tk rs L))(hl:(dW keep many tk rs L).lookup m=av)(z:(Y[i]?).join=(aD p))(ha:fs Y Z=aE as Z)(hn:as.length+1+das.length=n)
  (q:F (.aH p::(as++das)) Z=aE a Z'):bQ m [("Gaps",bO n das F)] (dR i) fs Y Z=aE a Z':=by
 unfold bQ;rw[dF (x:=A.aH p) (Z':=Z) (by simp[z])];have j:List.lookup ("Gaps" : bh) [(("Gaps" : bh),bO n das F)]=aq (bO n das F):=by simp[List.lookup]
 simp only[VV,h,j,hl];rw[dF ha];simp only[bO];rw[bb (by simp only[fT];omega)];exact q
theorem MB(h:Z[p]?=aq (aT keep many tk rs L)){Y:Ev}(j:(Y[0]?).join=(aD p)):vA ["Gaps"] 0 "newest" Y Z=aq (p,("Gaps" : bh),dW keep many tk rs L,Fd.bB (fB rs)):=by
 unfold vA;rw[j];simp only[h];rfl
theorem TM(h:Z[p]?=aq (aT keep many tk rs L)){Y:Ev}(j:(Y[0]?).join=(aD p)):vA ["Gaps"] 0 "laid" Y Z=aq (p,("Gaps" : bh),dW keep many tk rs L,Fd.bB (fA L)):=by
 unfold vA;rw[j];simp only[h];rfl
theorem Mn(h:Z[p]?=aq (aT keep many tk rs L)):zR [.aH p] Z=aE (.int many) Z:=by
 have l:(dW keep many tk rs L).lookup ("many" : bh)=aq (.val (.int many)):=rfl;show trim Z (eX (Kx [aD p] Z))=_;simp[Kx,h,l]
theorem adY(h:Z[p]?=aq (aT keep many tk rs L)):BZ [.aH p] Z=aE (.int tk) Z:=by
 have l:(dW keep many tk rs L).lookup ("taken" : bh)=aq (.val (.int tk)):=rfl;show trim Z (eX (Ku [aD p] Z))=_;simp[Ku,h,l]
theorem ad0(h:Z[p]?=aq (aT keep many tk rs L))(z:∀r∈rs,1<=r.2)(hl:rs.length<=63)(hw:whole rs<=1000000000):CB [.aH p] Z=aE (bX (kM rs)) Z:=by
 show trim Z (eX (Li [aD p] Z))=_;have e:jH ["Gaps"] 0 "newest" (λj=>lK aw (j.map mT)) [aD p] Z=aE (.lst (aN rs)) Z:=by
  unfold jH;rw[MB h rfl];simp only[Xl];rfl
 unfold Li;have q:=aB5 rs z hl hw Z;have B:aS (cE 1 QR) (aC (jH ["Gaps"] 0 "newest" λj=>lK aw (j.map mT)) a0) [aD p] Z=aE (bX (kM rs)) Z:=by
  unfold aS aC;rw[dF (by rw[dF e];rfl)];simp only[cE];exact q
 unfold bW;rw[fQ B];exact oQ rfl
end
section
variable{Z Z' Z'':aG}{Y:Ev}
theorem orF{f g:Ev->Mo bt}(h:f Y Z=aE aw Z'):mP f g Y Z=g Y Z':=by
 unfold mP;rw[dF h];rfl
theorem yE{f:Ev->Mo bt}{b:bt}(h:f Y Z=aE b Z'):mQ f Y Z=aE (!b) Z':=by
 unfold mQ;rw[dF h];rfl
theorem lJ{f:Ev->Mo A}{b:bt}(h:f Y Z=aE (.bl b) Z'):cC f Y Z=aE b Z':=by
 unfold cC;rw[dF h];rfl
theorem Vl{g:A->A->Mo A}{q f2:Ev->Mo A}{a b:A}{j:aG}{c:A}(h1:q Y Z=aE a Z')(h2:f2 Y Z'=aE b Z'')(z:g a b Z''=aE c j):aB g q f2 Y Z=aE c j:=by
 unfold aB;rw[dF h1,dF h2,z]
theorem dG{g:A->A->Mo A}{j f2:Ev->Mo A}{a b c:A}(h1:j Y Z=aE a Z)(h2:f2 Y Z=aE b Z)(q:g a b Z=aE c Z):aB g j f2 Y Z=aE c Z:=Vl h1 h2 q
theorem sO{t:Ev->Mo bt}{s:MS}(h:t Y Z=aE aw Z'):eW t s fY Y Z=eB Y Z':=by
 unfold eW;rw[fQ h];rfl
theorem lO{f:Ev->Mo A}{i:a9}{a:A}(h:f Y Z=aE a Z'):bP f (gN i) Y Z=eB (Y.set i (aq a)) Z':=by
 unfold bP;rw[fQ h];rfl
theorem aU{i:a9}{a:A}(h:(Y[i]?).join=aq a):dR i Y Z=aE a Z:=by simp[h]
theorem bD{f:Ev->Mo A}{fs:Ev->Mo (ar A)}{a:A}{as:ar A}(h:f Y Z=aE a Z)(j:fs Y Z=aE as Z):aC f fs Y Z=aE (a::as) Z:=by
 unfold aC;rw[dF h,dF j];rfl
theorem cD:a0 Y Z=aE [] Z:=rfl
theorem oJ{F:ar A->Mo A}{fs:Ev->Mo (ar A)}{n:a9}{as:ar A}{a:A}(h:fs Y Z=aE as Z)(hn:as.length=n)(j:F as Z=aE a Z'):aS (cE n F) fs Y Z=aE a Z':=by
 unfold aS;rw[dF h];unfold cE;rw[bb hn];exact j
theorem uF{g:ar A->Mo A}{fs:Ev->Mo (ar A)}{Y:Ev}{Z Z':aG}{as:ar A}{a:A}(h:fs Y Z=aE as Z)(j:g as Z=aE a Z'):aS g fs Y Z=aE a Z':=by
 unfold aS;rw[dF h];exact j
theorem sW{f:Ev->Mo A}{fs:Ev->Mo (ar A)}{a:A}{as:ar A}(h:f Y Z=aE a Z')(j:fs Y Z'=aE as Z''):aC f fs Y Z=aE (a::as) Z'':=by
 unfold aC;rw[dF h,dF j];rfl
theorem zB{g:ar A->Mo A}{fs:Ev->Mo (ar A)}{as:ar A}{a:A}(h:fs Y Z=aE as Z')(j:g as Z'=aE a Z''):aS g fs Y Z=aE a Z'':=by
 unfold aS;rw[dF h];exact j
end
theorem SW{Z:aG}{p:a9}{c:Cell}(h:Z[p]?=aq c):Z.set p c=Z:=by
 apply FI;intro j
 by_cases q:p=j
 ·subst q;rw[fN (cY.mp h).1,h]
 ·rw[fF q]
theorem Ey{i:a9}{f:bh}{g:MS}{Y Y':Ev}{Z:aG}{s:a9}{cls:bh}{fs:ar (bh×Fd)}{fd fd':Fd}{c c':Cell}(h1:Y[i]?=aq (aD s))(h2:Z[s]?=aq (.ins cls fs))(h:fs.lookup f=aq fd)(e:fd.cell=aq c)
  (b:g Y (gL Z s cls f fs c)=eB Y' (gL Z s cls f fs c')) (a:fd'.cell=aq c') (U:fd'=fd\/tI Z.length fd') (N:∀(j:a9) (d:A),Y'[j]?=aq (aq d)->Y[j]?=aq (aq d)\/Cl Z.length d):uX i f g Y Z=eB Y' (Z.set s (.ins cls (putD f fd' fs))):=by
 have z:s<Z.length:=(cY.mp h2).1;refine akD (r:=(.nx,Y',Z.set s (.ins cls (putD f fd' fs)))) ⟨s,cls,fs,fd,c,Z.set s (.ins cls (putD f (.val (.aH Z.length)) fs)),fd',c',h1,h2,h,e,b,by simp,fN z,a,λk x B q => .inl (by rw[fF (dM B)]at q;exact q),U,N,rfl,by rw[qT]⟩
theorem ZT(lv:a9):∀L:ar Rg,gZ (fA L) (.inl (lv:a8))=(L.find? λy=>y.1==lv).map λy=>bX y.2.2.2
 |[]=>rfl
 |x::L=>by
  have ih:=ZT lv L;show gZ ((.inl (x.1:a8),bX x.2.2.2)::fA L) (.inl (lv:a8))=_
  by_cases h:x.1=lv
  ·rw[Qw (by rw[h]),List.find?_cons_of_pos (by simpa using h)];rfl
  ·rw[Qv (by intro z;have j:(x.1:a8)=lv:=(by simpa using z);omega),ih,List.find?_cons_of_neg (by simpa using h)]
theorem ax7(lv:a9)(L:ar Rg):uC (fA L) (.inl (lv:a8))=fA (L.filter λz=>z.1 != lv):=by
 unfold uC fA;rw[List.filter_map];congr 1;apply List.filter_congr;intro x _
 by_cases h:x.1=lv
 ·simp[h]
 ·have:¬(x.1:a8)=lv:=by omega
  simp[h,this]
theorem alT{lv:a9}{L:ar Rg}(h:(L.find? λy=>y.1==lv)=av)(n:a9)(R:ar Rn)(q:Po):lY (fA L) (.inl (lv:a8)) (bX q)=fA (L++[(lv,n,R,q)]):=by
 have hn:((fA L).any λj=>decide (j.1=(.inl (lv:a8):Key)))=aw:=by
  rw[List.any_eq_false];intro j B;obtain⟨x,N,rfl⟩:=kW.mp B;have:=List.find?_eq_none.mp h x N;simp only[EW]at this;simp only[BN];intro z;have U:(x.1:a8)=lv:=by simpa using z
  omega
 unfold lY;rw[hn];simp[fA]
section
variable{Z:aG}{p keep:a9}{many tk:a8}{rs:ar Rn}{L:ar Rg}
theorem aqV(h:Z[p]?=aq (aT keep many tk rs L))(lv:a9)(j:ax A):XH [aD p,j,aA lv] Z=aE ((L.find? λy=>y.1==lv).isSome) Z:=by
 have e:GA aw ["Gaps"] 0 "laid" cN [aD p,j,aA lv] Z=aE (.bl (L.find? λy=>y.1==lv).isSome) Z:=by
  unfold GA;rw[dF (x:=A.int lv) (Z':=Z) (by simp)];unfold jH;rw[TM h rfl];simp only[mS,ZT,adU];rfl
 unfold XH;exact lJ e
end
theorem abX(n:a9)(rs:ar Rn):tI n (.bB (fB rs)):=by
 show fO n ((fB rs).map (·.2));rw[af9];exact wY λa ha=>by obtain⟨x,_,rfl⟩:=kW.mp ha;simp only[Cl]
theorem abV(n:a9)(q:Po):Cl n (bX q):=by
 have j:fO n (encL q.es):=wY λa ha=>by
  obtain⟨e,_,rfl⟩:=kW.mp ha;simp[cM,Cl,fO]
 simp[bX,eK,Cl,fO,j]
theorem abW(n:a9)(L:ar Rg):tI n (.bB (fA L)):=by
 show fO n ((fA L).map (·.2));exact wY λa ha=>by
  obtain⟨q,j,rfl⟩:=kW.mp ha;obtain⟨x,_,rfl⟩:=kW.mp j;exact abV n _
section
variable{Z:aG}{p keep:a9}{many tk:a8}{rs:ar Rn}{L:ar Rg}
theorem Uk(j:ar Rg):putD "laid" (.bB (fA j)) (dW keep many tk rs L)=dW keep many tk rs j:=rfl
theorem Ui(j:ar Rn):putD "newest" (.bB (fB j)) (dW keep many tk rs L)=dW keep many tk j L:=rfl
theorem Ww:(dW keep many tk rs L).lookup ("laid" : bh)=aq (.bB (fA L)):=rfl
theorem aqG:(dW keep many tk rs L).lookup ("newest" : bh)=aq (.bB (fB rs)):=rfl
theorem aqU(h:Z[p]?=aq (aT keep many tk rs L))(l:1<=keep)(m:keep<1000000){x y:Rg}(e:(L.find? λz=>z.1==x.1)=aq y)(hz:y.2.2.2.es.length+x.2.2.2.es.length<=100000)(hm:(tQ y.2.2.2.s x.2.2.2.s y.2.2.2.es x.2.2.2.es).length<=100000) :
  XG [aD p,aq (bX x.2.2.2),aA x.1] Z=eB [aD p,aq (bX (up1 keep y x).2.2.2),aA ((up1 keep y x).1)] (Z.set p (aT keep many tk rs (L.filter λz=>z.1 != x.1))):=by
 have o:=TM h (Y:=[aD p,aq (bX x.2.2.2),aA x.1]) rfl;unfold XG;have k:uX 0 "laid" (bP (aS (cE 2 QO) (aC (aS (cE 2 KN) (aC (GC (eR ["Gaps"] "laid" aK) cN) (aC aR a0))) (aC (eR ["Gaps"] "keep" aK) a0))) (gN 1)) [aD p,aq (bX x.2.2.2),aA x.1] Z=eB [aD p,aq (bX (up1 keep y x).2.2.2),aA x.1] (Z.set p (aT keep many tk rs (L.filter λz=>z.1 != x.1))):=by
  rw[Ey (Y':=[aD p,aq (bX (up1 keep y x).2.2.2),aA x.1]) rfl h Ww rfl (fd':=.bB (fA (L.filter λz=>z.1 != x.1))) (c':=.bB (fA (L.filter λz=>z.1 != x.1))) ?_ rfl (.inr (abW _ _)) ?_,Uk]
  ·have q:=UI (c:=.bB (fA L)) o;have U:mH (gL Z p "Gaps" "laid" (dW keep many tk rs L) (.bB (fA L))) (.aH Z.length)=aq (Z.length,fA L):=ET (UJ o);have g:GC (eR ["Gaps"] "laid" aK) cN [aD p,aq (bX x.2.2.2),aA x.1] (gL Z p "Gaps" "laid" (dW keep many tk rs L) (.bB (fA L)))=aE (bX y.2.2.2) (gL Z p "Gaps" "laid" (dW keep many tk rs L) (.bB (fA (L.filter λz=>z.1 != x.1)))):=by
    unfold GC;rw[dF q,bb ⟨_,_,U⟩];rw[dF (x:=A.int x.1) (Z':=gL Z p "Gaps" "laid" (dW keep many tk rs L) (.bB (fA L))) (by simp)];simp only[Im,U,mS,ZT,e,JE,ax7];rw[Ex]
   have N:p<Z.length:=(cY.mp h).1;have i:eR ["Gaps"] "keep" aK [aD p,aq (bX x.2.2.2),aA x.1] (gL Z p "Gaps" "laid" (dW keep many tk rs L) (.bB (fA (L.filter λz=>z.1 != x.1))))=aE (.int keep) (gL Z p "Gaps" "laid" (dW keep many tk rs L) (.bB (fA (L.filter λz=>z.1 != x.1)))):=by
    have f:(gL Z p "Gaps" "laid" (dW keep many tk rs L) (.bB (fA (L.filter λz=>z.1 != x.1))))[p]?=aq (.ins "Gaps" (putD "laid" (.val (.aH Z.length)) (dW keep many tk rs L))):=by
     rw[iS (by simpa using N),fN N]
    have hl:(putD "laid" (.val (.aH Z.length)) (dW keep many tk rs L)).lookup ("keep" : bh)=aq (.val (.int keep)):=rfl;unfold eR;rw[dF (x:=A.aH p) (Z':=gL Z p "Gaps" "laid" (dW keep many tk rs L) (.bB (fA (L.filter λz=>z.1 != x.1)))) (by simp)];simp only[EF,f,hl];simp
   have em:aS (cE 2 KN) (aC (GC (eR ["Gaps"] "laid" aK) cN) (aC aR a0)) [aD p,aq (bX x.2.2.2),aA x.1] (gL Z p "Gaps" "laid" (dW keep many tk rs L) (.bB (fA L)))=aE (bX (sJ y.2.2.2 x.2.2.2)) (gL Z p "Gaps" "laid" (dW keep many tk rs L) (.bB (fA (L.filter λz=>z.1 != x.1)))):=by
    exact zB (sW g (bD (aU rfl) cD)) (aB8 _ _ _ _ _ _ _ _ _ hz)
   exact lO (a:=bX (up1 keep y x).2.2.2) (zB (sW em (bD i cD)) (aBX _ _ _ _ _ _ (by omega) (by omega) hm))
  ·intro j d B
   match j with
   |0=>exact .inl B
   |1 =>
    have:d=bX (up1 keep y x).2.2.2:=by simpa using B.symm
    subst this;exact .inr (abV _ _)
   |2=>exact .inl B
   |j+3=>simp at B
 rw[bV k];refine(lO (dG (aU (a:=A.int x.1) rfl) (b:=A.int 1) (by simp) (c:=A.int ((x.1+1:a9):a8)) (by simp))).trans ?_;rfl
end
section
variable{p keep:a9}{many tk:a8}{rs:ar Rn}
theorem LV{Z:aG}{c c':Cell}(h:Z[p]?=aq c):(Z.set p c')[p]?=aq c':=fN (cY.mp h).1
theorem Xd(a:1<=keep)(d:keep<=1000):∀(f n:a9) (L:ar Rg) (x:Rg) (Z:aG),Z[p]?=aq (aT keep many tk rs L)->L.length<=f->f<n->rZ keep L->rW keep x ->
  ∃N B,kO keep f L x=N++[B]/\(N.find? λy=>y.1==B.1)=av/\N.length<=L.length /\
   mG XH XG n [aD p,aq (bX x.2.2.2),aA x.1] Z=eB [aD p,aq (bX B.2.2.2),aA B.1] (Z.set p (aT keep many tk rs N))
 |f,0,L,x,Z,_,_,hn,_,_=>by omega
 |f,n+1,L,x,Z,h,hl,hn,fL,g=>by
  have U:=aqV h x.1 (aq (bX x.2.2.2));cases j:L.find? λy=>y.1==x.1 with
  |none =>
   rw[j]at U;refine⟨L,x,?_,j,qS _,?_⟩
   ·cases f with
    |zero=>rfl
    |succ f=>unfold kO;rw[j]
   ·rw[OH U,SW h]
  |some y =>
   rw[j]at U;have hm:=ad9 j;have he:y.1=x.1:=by simpa using List.find?_some j
   have b:=fL.ok y hm;have m:=b.len;have l:=g.len;have r:(L.filter λz=>z.1 != x.1).length<L.length:=by
    refine Nat.lt_of_le_of_ne (aeA _ _) λq=>?_;have:=aCL.mp q y hm;simp[he]at this
   cases f with
   |zero=>omega
   |succ f =>
    have t:=aqU h a (by omega) j (x:=x) (by omega) (by unfold tQ;have:=apR (s:=y.2.2.2.s) (t:=x.2.2.2.s) (y.2.2.2.es.length+x.2.2.2.es.length) 0 0 y.2.2.2.es x.2.2.2.es;omega);obtain⟨N,B,k,i,o,e⟩:=Xd a d f n (L.filter λz=>z.1 != x.1) (up1 keep y x) _ (LV h) (by omega) (by omega) ⟨fL.nd.sublist (aeF.map _),λz c=>fL.ok z (My.mp c).1⟩ (g.up a b he);refine⟨N,B,?_,i,by omega,?_⟩
    ·unfold kO;rw[j];exact k
    ·rw[BK U t,e,qT]
theorem ad3(U:1<=keep)(b:keep<=1000){L:ar Rg}{x:Rg}{Z:aG}(h:Z[p]?=aq (aT keep many tk rs L))(hl:L.length<=1000)(fL:rZ keep L)(g:rW keep x) :
  CC [.aH p,bX x.2.2.2,.int x.1] Z=aE (.cZ) (Z.set p (aT keep many tk rs (kO keep L.length L x))):=by
 obtain⟨z,B,k,i,n,f⟩:=Xd (p:=p) (many:=many) (tk:=tk) (rs:=rs) U b L.length 1000000 L x Z h cX (by omega) fL g;have m:p<Z.length:=(cY.mp h).1;show trim Z (eX (Lj [aD p,aq (bX x.2.2.2),aA x.1] Z))=_;unfold Lj;rw[bV f];have h2:=LV (c':=aT keep many tk rs z) h;have o:=TM h2 (Y:=[aD p,aq (bX B.2.2.2),aA B.1]) rfl;have e:uX 0 "laid" (yA aR (eR ["Gaps"] "laid" aK) cN) [aD p,aq (bX B.2.2.2),aA B.1] (Z.set p (aT keep many tk rs z))=eB [aD p,aq (bX B.2.2.2),aA B.1] (Z.set p (aT keep many tk rs (kO keep L.length L x))):=by
  rw[Ey (Y':=[aD p,aq (bX B.2.2.2),aA B.1]) rfl h2 Ww rfl (fd':=.bB (fA (kO keep L.length L x))) (c':=.bB (fA (kO keep L.length L x))) ?_ rfl (.inr (abW _ _)) (λj d a => .inl a),Uk,qT];have q:=UI (c:=.bB (fA z)) o;have l:mH (gL (Z.set p (aT keep many tk rs z)) p "Gaps" "laid" (dW keep many tk rs z) (.bB (fA z))) (.aH (Z.set p (aT keep many tk rs z)).length)=aq ((Z.set p (aT keep many tk rs z)).length,fA z):=ET (UJ o);have N:(fA z).length<bg:=by rw[oS];simp[fA];omega
  unfold yA;rw[fQ (x:=bX B.2.2.2) (Z':=gL (Z.set p (aT keep many tk rs z)) p "Gaps" "laid" (dW keep many tk rs z) (.bB (fA z))) (by simp),fQ q];rw[fQ (x:=A.int B.1) (Z':=gL (Z.set p (aT keep many tk rs z)) p "Gaps" "laid" (dW keep many tk rs z) (.bB (fA z))) (by simp)];simp only[SY,l,mS,bb N,alT i B.2.1 B.2.2.1 B.2.2.2];rw[Ex,k]
 rw[e];simp only[AM];exact oQ (by simp)
end
theorem ME:∀(ps:ar Rn) (ae:a8),(iD ae ps).length<=2*ps.length
 |[],ae=>by simp[iD]
 |r::ps,ae=>by
  have ih:=ME ps (ae+r.2);unfold iD;split <;> simp only[fT,iR,BX] <;> omega
section
variable{Z:aG}{p keep:a9}{many tk:a8}{rs:ar Rn}{L:ar Rg}
theorem awY{Y:Ev}(h:Z[p]?=aq (aT keep many tk rs L))(z:(Y[0]?).join=(aD p)){n:a8}(h1:(Y[1]?).join=(aA n)):CM (eR ["Gaps"] "newest" aK) aR cK Y (gL Z p "Gaps" "newest" (dW keep many tk rs L) (.bB (fB rs)))=aE (.int (vO rs n)) (gL Z p "Gaps" "newest" (dW keep many tk rs L) (.bB (fB rs))):=by
 have o:=MB h z;have q:=UI (c:=.bB (fB rs)) o;have j:mH (gL Z p "Gaps" "newest" (dW keep many tk rs L) (.bB (fB rs))) (.aH Z.length)=aq (Z.length,fB rs):=ET (UJ o);unfold CM;rw[dF q];rw[bb ⟨_,_,j⟩];rw[dF (x:=.int n) (Z':=gL Z p "Gaps" "newest" (dW keep many tk rs L) (.bB (fB rs))) (by simp[h1])];rw[dF (x:=.int 0) (Z':=gL Z p "Gaps" "newest" (dW keep many tk rs L) (.bB (fB rs))) (by simp)];simp only[Io,j,mS,Qu]
theorem Uh(h:Z[p]?=aq (aT keep many tk rs L))(nd:(rs.map (·.1)).Nodup)(hl:rs.length<1000)(n t:a8) :
  uX 0 "newest" (yA (aB cJ (CM (eR ["Gaps"] "newest" aK) aR cK) cN) (eR ["Gaps"] "newest" aK) aR) [aD p,aA n,aA t] Z=eB [aD p,aA n,aA t] (Z.set p (aT keep many tk (bS rs n t) L)):=by
 have z:rs.length<bg:=by rw[oS];omega
 have o:=MB h (Y:=[aD p,aA n,aA t]) rfl;rw[Ey (Y':=[aD p,aA n,aA t]) rfl h aqG rfl (fd':=.bB (fB (bS rs n t))) (c':=.bB (fB (bS rs n t))) (by
  have q:=UI (c:=.bB (fB rs)) o;have U:mH (gL Z p "Gaps" "newest" (dW keep many tk rs L) (.bB (fB rs))) (.aH Z.length)=aq (Z.length,fB rs):=ET (UJ o);have N:(aB cJ (CM (eR ["Gaps"] "newest" aK) aR cK) cN) [aD p,aA n,aA t] (gL Z p "Gaps" "newest" (dW keep many tk rs L) (.bB (fB rs)))=aE (.int (vO rs n+t)) (gL Z p "Gaps" "newest" (dW keep many tk rs L) (.bB (fB rs))) :=
   dG (awY h rfl rfl) (aU (a:=.int t) rfl) (by simp)
  unfold yA;rw[fQ N,fQ q];rw[fQ (x:=.int n) (Z':=gL Z p "Gaps" "newest" (dW keep many tk rs L) (.bB (fB rs))) (by simp)];have b:(fB rs).length<bg:=by simpa[fB]using z
  simp only[SY,U,mS,bb b,Um rs n t nd];rw[Ex]) rfl (.inr (abX _ _)) (λj d B => .inl B),Ui]
theorem aB0(h:Z[p]?=aq (aT keep many tk rs L))(nd:(rs.map (·.1)).Nodup)(hl:rs.length<1000)(n t:a8)(B:(bS rs n t).length<=keep) :
  FT [.aH p,.int n,.int t] Z=aE (.cZ) (Z.set p (aT keep many tk (bS rs n t) L)):=by
 show trim Z (eX (PM [aD p,aA n,aA t] Z))=_;unfold PM;rw[bV (Uh h nd hl n t)];have h2:=LV (c':=aT keep many tk (bS rs n t) L) h;have q:(dW keep many tk (bS rs n t) L).lookup ("keep" : bh)=aq (.val (.int keep)):=rfl;have e:jH ["Gaps"] 0 "newest" (λj=>ret (.int j.length)) [aD p,aA n,aA t] (Z.set p (aT keep many tk (bS rs n t) L))=aE (.int (bS rs n t).length) (Z.set p (aT keep many tk (bS rs n t) L)):=by
  unfold jH;rw[MB h2 rfl];simp[fB]
 have z:eR ["Gaps"] "keep" aK [aD p,aA n,aA t] (Z.set p (aT keep many tk (bS rs n t) L))=aE (.int keep) (Z.set p (aT keep many tk (bS rs n t) L)):=by
  unfold eR;rw[dF (aU (a:=A.aH p) rfl)];simp only[EF,h2,q];simp
 rw[sO (lJ (b:=aw) (dG e z (by simp;omega)))];simp only[AM];exact oQ (by simp)
theorem Tp{c:a9}(q:∀r∈rs,1<=r.2)(hl:rs.length<=keep+1)(z:keep+1<=c):rW keep (0,c,rs,kM rs):=by
 have g:=ED q;have j:0<=(kM rs).s:=g.gf.s0;refine⟨g,?_,?_,?_,j⟩
 ·show(keep:a8)*0<=((0:a9):a8)*_;simp
 ·show 2 ^ 0*(keep+1)<=c;simpa using z
 ·show(iD 0 (dP rs)).length<=2*keep+2;have h1:=ME (dP rs) 0;have h2:=CZ rs;omega
theorem aBZ(d:1<=keep)(o:keep<=62)(h:Z[p]?=aq (aT keep many tk rs L))(nd:(rs.map (·.1)).Nodup)(hl:rs.length<1000)(n t:a8)(m:(bS rs n t).length=keep+1)(z:∀r∈bS rs n t,1<=r.2)(hw:whole (bS rs n t)<=1000000000)
  (fL:rZ keep L) (hL:L.length<=1000) {c:a9} (f:keep+1<=c) :
  FT [.aH p,.int n,.int t] Z=aE (.cZ) (Z.set p (aT keep many tk [] (kO keep L.length L (0,c,bS rs n t,kM (bS rs n t))))):=by
 show trim Z (eX (PM [aD p,aA n,aA t] Z))=_;unfold PM;rw[bV (Uh h nd hl n t)];have h2:=LV (c':=aT keep many tk (bS rs n t) L) h;have b:(dW keep many tk (bS rs n t) L).lookup ("keep" : bh)=aq (.val (.int keep)):=rfl;have e:jH ["Gaps"] 0 "newest" (λj=>ret (.int j.length)) [aD p,aA n,aA t] (Z.set p (aT keep many tk (bS rs n t) L))=aE (.int (bS rs n t).length) (Z.set p (aT keep many tk (bS rs n t) L)):=by
  unfold jH;rw[MB h2 rfl];simp[fB]
 have i:eR ["Gaps"] "keep" aK [aD p,aA n,aA t] (Z.set p (aT keep many tk (bS rs n t) L))=aE (.int keep) (Z.set p (aT keep many tk (bS rs n t) L)):=by
  unfold eR;rw[dF (aU (a:=A.aH p) rfl)];simp only[EF,h2,b];simp
 have q:=ad3 d (by omega) h2 hL fL (Tp z (by omega) f);rw[qT]at q;have N:=ad0 h2 z (by omega) hw;have em:(bQ "lay" [("Gaps",bO 3 [] CC)] aK (aC (bQ "newest_pouch" [("Gaps",bO 1 [] CB)] aK a0) (aC cK a0))) [aD p,aA n,aA t] (Z.set p (aT keep many tk (bS rs n t) L))=aE (.cZ) (Z.set p (aT keep many tk (bS rs n t) (kO keep L.length L (0,c,bS rs n t,kM (bS rs n t))))) :=
  rK h2 rfl rfl (as:=[bX (kM (bS rs n t)),.int 0]) (das:=[]) (bD (rK h2 rfl rfl (as:=[]) (das:=[]) cD rfl (by simpa using N)) (bD (by simp) cD)) rfl (by simpa using q)
 have B:=LV (c':=aT keep many tk (bS rs n t) (kO keep L.length L (0,c,bS rs n t,kM (bS rs n t)))) h;have k:(xZ ["Gaps"] 0 "newest" wF) [aD p,aA n,aA t] (Z.set p (aT keep many tk (bS rs n t) (kO keep L.length L (0,c,bS rs n t,kM (bS rs n t)))))=eB [aD p,aA n,aA t] (Z.set p (aT keep many tk [] (kO keep L.length L (0,c,bS rs n t,kM (bS rs n t))))):=by
  generalize kO keep L.length L (0,c,bS rs n t,kM (bS rs n t))=L2 at B;have U:DD ["Gaps"] 0 [aD p,aA n,aA t] (Z.set p (aT keep many tk (bS rs n t) L2))=aq (p,("Gaps" : bh),dW keep many tk (bS rs n t) L2):=by
   unfold DD;simp[B]
  have l:wF [aD p,aA n,aA t] (Z.set p (aT keep many tk (bS rs n t) L2))=aE (.aH (Z.set p (aT keep many tk (bS rs n t) L2)).length) (Z.set p (aT keep many tk (bS rs n t) L2)++[.bB []]):=by simp
  unfold xZ;rw[U];simp only[l,aw0,Fd.GU];rw[bb ⟨rfl,rfl,by simp,abX _ []⟩];show aq (Out.nx,_,(Z.set p _).set p (.ins "Gaps" (putD "newest" (.bB (fB [])) (dW keep many tk (bS rs n t) L2))))=_;rw[Ui,qT]
 have g:cC (aB vK (jH ["Gaps"] 0 "newest" λj=>ret (.int j.length)) (eR ["Gaps"] "keep" aK)) [aD p,aA n,aA t] (Z.set p (aT keep many tk (bS rs n t) L))=aE a5 (Z.set p (aT keep many tk (bS rs n t) L)):=lJ (dG e i (by simp;omega));unfold eW;rw[fQ g];simp only[gT];rw[bV (Y1:=[aD p,aA n,aA t]) (by unfold kX;rw[fQ em]),k];simp only[AM];exact oQ (by simp)
end
open Classical in
theorem LK{α:Type}{n:a9}{js:ar a9}{fi:Ev->Mo Src}{g:A->MS}{e:Ev->Mo A}{Y:Ev}{Z Z0:aG}{S:Src}(xs:ar α)(enc ab:α->A)(P:Ev->Prop)(inj:∀x y,enc x=enc y->ab x=ab y)
  (h0:fi Y Z=aE S Z0) (aJ:∀ys,S.ok (Z0++[.lst ys])) (hP:P (vD n js Y)) (hS:S.ds=xs.map enc) (hl:xs.length<=1000000)
  (step:∀x∈xs,∀Y,P Y->∀ys,∃Y1,P Y1/\g (enc x) Y (Z0++[.lst ys])=eB Y1 (Z0++[.lst ys])/\e Y1 (Z0++[.lst ys])=aE (ab x) (Z0++[.lst ys]))
  (hc:∀x∈xs,Cl Z0.length (ab x)):mR aw n js fi g mM e Y Z=aE (.lst (xs.map ab)) Z0:=by
 let F:A->ax A:=λa=>if h:∃x,x∈xs/\enc x=a then aq (ab (Classical.choose h))else av
 have hF:∀x∈xs,F (enc x)=aq (ab x):=λx hx=>by
  have h:∃y,y∈xs/\enc y=enc x:=⟨x,hx,rfl⟩;show(if h:∃y,y∈xs/\enc y=enc x then aq (ab (Classical.choose h))else av)=_;rw[dif_pos h,inj _ _ (YY h).2]
 have ef:∀l:ar α,(∀x∈l,x∈xs)->(l.map enc).filterMap F=l.map ab:=by
  intro l
  induction l with
  |nil=>intro _;rfl
  |cons x r ih =>
   intro h;simp only[cP,Nc,hF x (h x (by simp)),ih λy hy=>h y (by simp[hy])]
 have q:=ZW (n:=n) (js:=js) (fi:=fi) (g:=g) (c:=mM) (e:=e) (Y:=Y) (Z:=Z) (Z0:=Z0) (S:=S) F P h0 aJ hP (by rw[hS];simpa using hl) (λx hx Y hp ys=>by
  rw[hS]at hx;obtain⟨y,hy,rfl⟩:=kW.mp hx;obtain⟨Y1,h1,h2,h3⟩:=step y hy Y hp ys;exact⟨Y1,h1,h2,.inl ⟨ab y,hF y hy,by simp[mM],h3⟩⟩) (by
  rw[hS,ef xs λ_ h=>h];exact wY λa ha=>by obtain⟨x,hx,rfl⟩:=kW.mp ha;exact hc x hx)
 rw[hS,ef xs λ_ h=>h]at q;exact q
theorem aaR(L:ar a8)(Z:aG):pR [.lst (L.map A.int)] Z=aE (.int L.sum) Z:=by
 simp[UQ]
def bR(rs:ar Rn)(L:ar Rg):ar Po:=kM rs::L.map λx=>x.2.2.2
section
variable{Z:aG}{p keep:a9}{many tk:a8}{rs:ar Rn}{L:ar Rg}
theorem YB(h:Z[p]?=aq (aT keep many tk rs L))(z:∀r∈rs,1<=r.2)(hl:rs.length<=63)(hw:whole rs<=1000000000)(hL:L.length<=1000):uL [.aH p] Z=aE (.lst ((bR rs L).map bX)) Z:=by
 have q:=ad0 h z hl hw;show trim Z (eX (Lf [aD p] Z))=_;have a:bQ "newest_pouch" [("Gaps",bO 1 [] CB)] aK a0 [aD p] Z=aE (bX (kM rs)) Z:=rK h rfl rfl (as:=[]) (das:=[]) cD rfl (by simpa using q);have U:gS aw (aC (bQ "newest_pouch" [("Gaps",bO 1 [] CB)] aK a0) a0) [aD p] Z=aE (.lst [bX (kM rs)]) Z:=by
  unfold gS;rw[dF (bD a cD)];have h1:(1:a9)<=bg:=by decide
  simp[h1]
 have N:jH ["Gaps"] 0 "laid" (λj=>lK aw (j.map (·.2))) [aD p] Z=aE (.lst (L.map λx=>bX x.2.2.2)) Z:=by
  unfold jH;rw[TM h rfl];simp[fA,zP]
 have B:=dG (g:=VX aw) (c:=.lst ((bR rs L).map bX)) U N (by
  have:1+L.length<=bg:=by rw[oS];omega
  simp[bR,zP];omega)
 unfold Lf bW;rw[fQ B];exact oQ rfl
theorem aB4(h:Z[p]?=aq (aT keep many tk rs L))(N:∀r∈rs,1<=r.2)(hl:rs.length<=63)(hw:whole rs<=1000000000)(hL:L.length<=1000):zT [.aH p] Z=aE (.int (gK L)) Z:=by
 have B:=YB h N hl hw hL;show trim Z (eX (Lh [aD p] Z))=_;have d:bQ "parts" [("Gaps",bO 1 [] uL)] aK a0 [aD p] Z=aE (.lst ((bR rs L).map bX)) Z:=rK h rfl rfl (as:=[]) (das:=[]) cD rfl (by simpa using B);have c:Lg [aD p] Z=aE (.lst ((bR rs L).map λq=>A.int q.l)) Z:=by
  refine LK (S:=srcOf (.lst ((bR rs L).map bX)) ((bR rs L).map bX)) (bR rs L) bX (λq=>A.int q.l) (λj=>∃u,j=[u]) (λa b e=>by simp[bX,eK]at e;simp[e.2.1]) ?_ (λz=>rfl) ⟨av,rfl⟩ rfl (by simp[bR];omega) (λq _ j ⟨u,e⟩ z=>by subst e;exact⟨[aq (bX q)],⟨_,rfl⟩,by simp,by simp[bX,eK]⟩) (λq _=>by simp only[Cl]);unfold fH;rw[dF d];simp
 have U:aS pR (aC Lg a0) [aD p] Z=aE (.int (gK L)) Z:=zB (bD c cD) (by
  have e:(bR rs L).map (λq=>A.int q.l)=((bR rs L).map (·.l)).map A.int:=by simp[zP]
  rw[e];have s:=aaR ((bR rs L).map (·.l)) Z;rw[s];simp[bR,kM,gK,zP])
 unfold Lh bW;rw[fQ U];exact oQ rfl
end
theorem aw9(N:az)(g:A->Mo A)(a:A)(Z:aG)(ds:ar A)(m:a9)(h1:hZ Z a=aq ds)(w:∀i d,ds[i]?=aq d->g d Z=aE (.bl (decide (m<=i))) Z):∀(k fuel st z:a9) (x:ax A),z-st<=k->k<fuel->st<=m->m<=z->z<=ds.length ->
  ∃U,mG (EZ N g) (PH N g) fuel [aq a,aq (.adr N),aA st,aA z,x] Z=eB [aq a,aq (.adr N),aA m,aA m,U] Z:=by
 intro k
 induction k with
 |zero =>
  intro fuel st z x u v h2 p o;obtain⟨fuel,rfl⟩:∃n,fuel=n+1:=⟨fuel-1,by omega⟩;have e:st=m:=by omega
  have c:z=m:=by omega
  subst e c;exact⟨x,by rw[OH (Z1:=Z) (by simp[EZ])]⟩
 |succ k ih =>
  intro fuel st z x u v h2 p o;obtain⟨fuel,rfl⟩:∃n,fuel=n+1:=⟨fuel-1,by omega⟩
  by_cases y:st<z
  ·have r:(st:a8)<(z:a8):=by omega
   have hd2:∀j,rB j 2:=λj=>⟨by decide,by decide⟩
   obtain⟨B,t⟩:∃B:a9,B=(st+z)/2:=⟨_,rfl⟩;have f:((st:a8)+(z:a8))/2=(B:a8):=by omega
   have s:B<ds.length:=by omega
   have h:eO ds (B:a8)=aq ds[B]:=by rw[rS,dZ s]
   have b:=w B _ (dZ s);have l:(bP (aB (jC) (aB cJ cN cA) lH) (gN 4)) [aq a,aq (.adr N),aA st,aA z,x] Z=eB [aq a,aq (.adr N),aA st,aA z,aA B] Z:=by
    simp[hd2,f]
   by_cases hm:m<=B
   ·obtain⟨U,q⟩:=ih fuel st B (aA B) (by omega) (by omega) h2 hm (by omega);refine⟨U,?_⟩;rw[<-q];refine BK (Z1:=Z) (by simp[EZ,r]) ?_;rw[vM hm]at b;unfold PH;rw[bV l];simp[h1,h,b]
   ·obtain⟨U,q⟩:=ih fuel (B+1) z (aA B) (by omega) (by omega) (by omega) p o;refine⟨U,?_⟩;rw[<-q];refine BK (Z1:=Z) (by simp[EZ,r]) ?_;rw[oH hm]at b;unfold PH;rw[bV l];simp[h1,h,b]
  ·have e:st=m:=by omega
   have c:z=m:=by omega
   subst e c;exact⟨x,by rw[OH (Z1:=Z) (by simp[EZ])]⟩
theorem aaV(j:az)(g:A->Mo A)(a:A)(Z:aG)(r:Rs A×aG)(h:rJ (qO g a) Z=aq r):cV 5 (IV j g) [a,.adr j] Z=aq r:=by
 have h':qO g a Z=aq r:=by
  simp only[rJ]at h
  revert h
  cases e:qO g a Z with
  |none=>intro h;cases h
  |some N =>
   obtain⟨x,Z'⟩:=N;cases x with
   |ok b=>intro h;exact h
   |exc b=>intro h;cases h
 obtain⟨ds,m,h1,h2,c,U,rfl⟩:=axA h';obtain⟨B,q⟩:=aw9 j g a Z ds m h1 U ds.length 1000000 0 ds.length av (by omega) (by omega) (by omega) h2 cX;simp only[Int.natCast_zero]at q;show trim Z (eX (IV j g [aq a,aq (.adr j),av,av,av] Z))=_;unfold IV;rw[bV (Y1:=[aq a,aq (.adr j),aA 0,av,av]) (Z':=Z) (by simp)];rw[bV (Y1:=[aq a,aq (.adr j),aA 0,aA ds.length,av]) (Z':=Z) (by simp[h1])];rw[bV (Y1:=[aq a,aq (.adr j),aA m,aA m,B]) (Z':=Z) (f:=λz Z=>mG (EZ j g) (PH j g) ((λ_ _=>1000000) z Z) z Z) q];simp
abbrev Nf(xs:ar E):Prop:=xs.Pairwise λa b=>a.1<=b.1
theorem Js{l s:a8}:∀{es:ar E} {lo q:a8} {B:ax a8},Ch l s lo q B es->Nf es/\(∀e∈es,lo<e.2.1)/\(∀p,B=aq p->∀e∈es,p<=e.1)/\es.Pairwise (λa b=>a.2.1<b.2.1)
 |[],_,_,_,_=>⟨.nil,by simp,by simp,.nil⟩
 |e::r,lo,q,B,h=>by
  obtain⟨h1,_,U,_,_,_,N⟩:=h;obtain⟨a,b,c,d⟩:=Js N;refine⟨BW.mpr ⟨λx j=>c e.1 rfl x j,a⟩,λx j=>?_,λp q x j=>?_,BW.mpr ⟨b,d⟩⟩
  ·rcases dU.mp j with z|z
   ·subst z;exact U
   ·have:=b x z;omega
  ·rcases dU.mp j with z|z
   ·subst z;exact h1 p q
   ·have:=h1 p q;have:=c e.1 rfl x z;omega
theorem ad6(s l d:a8)(ent:A)(es:ar E)(i:a9)(Z:aG)(j:hZ Z ent=aq (encL es))(h:i<=es.length):sA [.tup [.int s,.int l,.int d,ent],.int i] Z=aE (.tup [.int (iW es i),.int (iX s es i)]) Z:=by
 have h2:(2:a9)<=bg:=by decide
 by_cases z:i=0
 ·subst z
  by_cases h1:es=[]
  ·subst h1;simp[sA,zF,j,encL,iW,iX,h2]
  ·have hl:0<es.length:=List.length_pos_iff.mpr h1;have B:eO (encL es) 0=aq (cM es[0]):=by rw[show(0:a8)=((0:a9):a8)by rfl,rS,sT,dZ hl];rfl
   simp[sA,zF,j,B,hl,iW,iX,cM,h2]
 ·have N:i-1<es.length:=by omega
  have q:0<i:=by omega
  have U:eO (encL es) ((i:a8)-1)=aq (cM es[i-1]):=by rw[acW _ _ q,sT,dZ N];rfl
  by_cases hl:i<es.length
  ·have B:eO (encL es) (i:a8)=aq (cM es[i]):=by rw[rS,sT,dZ hl];rfl
   simp[sA,zF,j,U,B,hl,q,iW,iX,cM,z,h2,N]
  ·have:i=es.length:=by omega
   subst this;simp[sA,zF,j,U,q,iW,iX,cM,z,h2,N]
theorem Wc{p:E->bt}:∀{es:ar E},es.Pairwise (λa b=>p a=a5->p b=a5)->∃m,m<=es.length/\∀(i:a9) (e:E),es[i]?=aq e->p e=decide (m<=i)
 |[],_=>⟨0,qS _,λi e h=>by simp at h⟩
 |x::z,h=>by
  obtain⟨h1,h2⟩:=BW.mp h;cases j:p x with
  |true =>
   refine⟨0,BU _,λi e he=>?_⟩;cases i with
   |zero=>simp at he;subst he;simp[j]
   |succ i=>simp at he;simp[h1 e (nA he) j]
  |false =>
   obtain⟨m,hm,q⟩:=Wc h2;refine⟨m+1,by simp;omega,λi e he=>?_⟩;cases i with
   |zero=>simp at he;subst he;simp[j]
   |succ i =>
    simp at he;rw[q i e he];simp
noncomputable def ah(x:a8)(j:bt)(e:E):bt:=decide (e.1<x)||(j&&decide (e.1=x))
theorem azY{s l d:a8}{es:ar E}(h:GF s l d es)(x:a8)(j:bt):∃m,m<=es.length/\∀(i:a9) (e:E),es[i]?=aq e->(!ah x j e)=decide (m<=i) :=
 Wc (p:=λe=>!ah x j e) ((Js h.ch).1.imp λ{a b} z ha=>by
  have q:a.1<=b.1:=z;cases j <;> simp[ah]at ha ⊢ <;> omega)
def At(R:ar Rn)(e:E)(p:a8):Prop:=dE R e.1<p/\p<=dI R e.1/\e.2.1<=p/\p<=e.2.2
theorem Uv{R:ar Rn}:∀{es:ar E} {z:a8},Pl R z es->∃ps:ar a8,ps.length=es.length/\(∀p∈ps,z<p)/\ps.Pairwise (· < ·)/\∀(i:a9) (e:E),es[i]?=aq e->∃p,ps[i]?=aq p/\At R e p
 |[],_,_=>⟨[],rfl,(λ_ h=>by cases h),List.Pairwise.nil,(λi e h=>by simp at h)⟩
 |e::r,z,⟨p,h,c,b,a,U,N⟩=>by
  obtain⟨ps,n,B,m,l⟩:=Uv N;refine⟨p::ps,by simp[n],λq j=>?_,BW.mpr ⟨λq j=>B q j,m⟩,λi f he=>?_⟩
  ·rcases dU.mp j with x|x
   ·rw[x];exact h
   ·have:=B q x;omega
  ·cases i with
   |zero=>simp at he;subst he;exact⟨p,rfl,c,b,a,U⟩
   |succ i=>obtain⟨d,k,g⟩:=l i f (by simpa using he);exact⟨d,by simpa using k,g⟩
theorem Uw{R:ar Rn}{es:ar E}{z:a8}(h:Pl R z es){i:a9}{e:E}(he:es[i]?=aq e):∃p,z<p/\At R e p:=by
 obtain⟨U,_,N,_,B⟩:=Uv h;obtain⟨p,q,j⟩:=B i e he;exact⟨p,N p (nA q),j⟩
def uE(R:ar Rn)(x:a8)(j:bt):a8:=if j then dI R x else dE R x
theorem bnd{R:ar Rn}{p:Po}(h:Gd R p)(x:a8)(j:bt)(m:a9)(hm:m<=p.es.length)(B:∀(i:a9) (e:E),p.es[i]?=aq e->(!ah x j e)=decide (m<=i)) :
  iW p.es m<=uE R x j/\uE R x j<=iX p.s p.es m/\0<=iW p.es m:=by
 have hl:∀(i:a9) (e:E),p.es[i]?=aq e->i<m->dI R e.1<=uE R x j:=λi e he hi=>by
  have:=B i e he;have h2:decide (m<=i)=aw:=by simp;omega
  rw[h2]at this;unfold uE;cases j with
  |true =>
   have:e.1<=x:=by simp[ah]at this;omega
   simp only[gT];exact GD h.tn this
  |false =>
   have:e.1<x:=by simp[ah]at this;omega
   simp only[kB,gU];exact CO h.tn this
 have hh:∀(i:a9) (e:E),p.es[i]?=aq e->m<=i->uE R x j<=dE R e.1:=λi e he hi=>by
  have:=B i e he;have h2:decide (m<=i)=a5:=by simp;omega
  rw[h2]at this;unfold uE;cases j with
  |true =>
   have:x<e.1:=by simp[ah]at this;omega
   simp only[gT];exact CO h.tn this
  |false =>
   have:x<=e.1:=by simp[ah]at this;omega
   simp only[kB,gU];exact GG h.tn this
 have N:0<=uE R x j:=by
  unfold uE;split
  ·exact zN (CP h.tn x) (wG h.tn x)
  ·exact CP h.tn x
 refine⟨?_,?_,?_⟩
 ·cases m with
  |zero=>simpa[iW]using N
  |succ m =>
   rw[DJ _ _ (by omega)];obtain⟨q,_,c,b,a,U⟩:=Uw h.pl (dZ (show m<p.es.length by omega));have:=hl m _ (dZ (by omega)) (by omega);omega
 ·by_cases z:m<p.es.length
  ·rw[VC _ _ _ z];obtain⟨q,_,c,b,a,U⟩:=Uw h.pl (dZ z);have:=hh m _ (dZ z) cX;omega
  ·have e:m=p.es.length:=by omega
   rw[e,VD,h.sz];unfold uE;split
   ·exact LL h.tn x
   ·exact zN (wG h.tn x) (LL h.tn x)
 ·cases m with
  |zero=>simp[iW]
  |succ m =>
   rw[DJ _ _ (by omega)];have:=(OR _ _ _ _ h.gf.ch _ (QD (show m<p.es.length by omega))).2.1;omega
theorem azX{s l d:a8}{es:ar E}(h:GF s l d es)(x:a8)(N:bt)(m:a9)(hm:m<=es.length)(c:∀(i:a9) (e:E),es[i]?=aq e->(!ah x N e)=decide (m<=i)) :
  iX s es m-iW es m<=l/\0<=iW es m/\0<=iX s es m:=by
 have hl:=h.l0;have n:=h.s0;cases m with
 |zero =>
  have h1:iW es 0=0:=rfl;rw[h1];cases es with
  |nil =>
   have:=(awV h).mpr rfl;have h2:iX s [] 0=s:=rfl;rw[h2];omega
  |cons e r =>
   have f:=(h.fst e r rfl).2;have h2:iX s (e::r) 0=e.2.2-1:=rfl;rw[h2];omega
 |succ k =>
  have q:k<es.length:=by omega
  rw[DJ es k q];obtain⟨C,A,p,o⟩:=ab3 es 0 0 av k es[k] h.ch (dZ q);have t:0<es[k].2.1:=((Js h.ch).2.1 es[k] (QD q))
  by_cases B:k+1<es.length
  ·rw[VC s es (k+1) B];obtain⟨y,f2,w,g⟩:=o es[k+1] (dZ B);rw[DH]at g;have a:=c k es[k] (dZ q);have U:=c (k+1) es[k+1] (dZ B);have b:ah x N es[k]=a5:=by
    have:¬k+1<=k:=by omega
    rw[oH this]at a;simpa using a
   have j:ah x N es[k+1]=aw:=by
    rw[vM cX]at U;simpa using U
   have gD:es[k+1].1≠es[k].1:=λz=>by
    unfold ah at b j;rw[z]at j;rw[b]at j;cases j
   rcases g with z|z
   ·exact b8 z gD
   ·omega
  ·have e:k+1=es.length:=by omega
   rw[e,VD];obtain⟨v,u⟩:=p e;omega
abbrev pM:Cell:=.tab "upto" ⟨93,53,93,84⟩ (AS "upto")
abbrev pN:Cell:=.tab "below" ⟨96,53,96,85⟩ (AS "below")
theorem agD{s l d:a8}{es:ar E}(hz:es.length<=1000)(x:a8)(m:a9)(hm:m<=es.length)(B:∀(i:a9) (e:E),es[i]?=aq e->(!ah x a5 e)=decide (m<=i))(ent:A)(Z:aG)(hT:Z[0]?=aq pM)(j:hZ Z ent=aq (encL es)) :
  KJ [.tup [.int s,.int l,.int d,ent],.int x] Z=aE (.tup [.int (iW es m),.int (iX s es m)]) Z:=by
 have N:qO (nZ IT [x]) ent Z=aE (.int (m:a8)) Z:=by
  refine aaW j (by simpa using hm) (by simp;omega) λi a ha=>?_;rw[sT]at ha;cases e:es[i]? with
  |none=>rw[e]at ha;cases ha
  |some z =>
   rw[e]at ha;cases ha;have:=B i z e;rw[<-this];simp only[nZ,rJ,IT,ah]
   by_cases h1:z.1<x
   ·have h2:¬x<z.1:=by omega
    simp[cM,h1,h2]
   ·by_cases q:z.1=x
    ·have h2:¬x<z.1:=by omega
     simp[cM,h1,h2,q]
    ·have h2:x<z.1:=by omega
     simp[cM,h1,h2,q]
 have b:=ad6 s l d ent es m Z j hm;have U:xS 0 "upto" ⟨93,53,93,84⟩ (AS "upto") [1] (λns a=>qO (nZ IT ns) a) (aB aQ aK pG) [aq (.tup [.int s,.int l,.int d,ent]),aA x] Z=aE (.int (m:a8)) Z:=by
  simp only[xS];rw[dF (x:=ent) (Z':=Z) (by simp)];rw[bb hT];simp only[zC,rJ];show(match (qO (nZ IT [x]) ent Z)with
   |some (.exc _,_)=>av
   | r=>r)=_
  rw[N]
 show trim Z (eX (Kb [aq (.tup [.int s,.int l,.int d,ent]),aA x] Z))=_;unfold Kb;simp[U,b]
theorem aAY{s l d:a8}{es:ar E}(hz:es.length<=1000)(x:a8)(m:a9)(hm:m<=es.length)(q:∀(i:a9) (e:E),es[i]?=aq e->(!ah x aw e)=decide (m<=i))(ent:A)(Z:aG)(hT:Z[1]?=aq pN)(j:hZ Z ent=aq (encL es)) :
  KP [.tup [.int s,.int l,.int d,ent],.int x] Z=aE (.tup [.int (iW es m),.int (iX s es m)]) Z:=by
 have B:qO (nZ IW [x]) ent Z=aE (.int (m:a8)) Z:=by
  refine aaW j (by simpa using hm) (by simp;omega) λi a ha=>?_;rw[sT]at ha;cases e:es[i]? with
  |none=>rw[e]at ha;cases ha
  |some z =>
   rw[e]at ha;cases ha;have:=q i z e;rw[<-this];simp only[nZ,rJ,IW,ah]
   by_cases h1:z.1<x
   ·have h2:¬x<=z.1:=by omega
    simp[cM,h1,h2]
   ·have h2:x<=z.1:=by omega
    simp[cM,h1,h2]
 have b:=ad6 s l d ent es m Z j hm;have N:xS 1 "below" ⟨96,53,96,85⟩ (AS "below") [1] (λns a=>qO (nZ IW ns) a) (aB aQ aK pG) [aq (.tup [.int s,.int l,.int d,ent]),aA x] Z=aE (.int (m:a8)) Z:=by
  simp only[xS];rw[dF (x:=ent) (Z':=Z) (by simp)];rw[bb hT];simp only[zC,rJ];show(match (qO (nZ IW [x]) ent Z)with
   |some (.exc _,_)=>av
   | r=>r)=_
  rw[B]
 show trim Z (eX (Kh [aq (.tup [.int s,.int l,.int d,ent]),aA x] Z))=_;unfold Kh;simp[N,b]
open Classical in
noncomputable def MP(x:a8)(bY:bt)(p:Po):a9:=if h:∃m,m<=p.es.length/\∀(i:a9) (e:E),p.es[i]?=aq e->(!ah x bY e)=decide (m<=i)then Classical.choose h else 0
noncomputable def jT(x:a8)(j:bt)(p:Po):a8:=iW p.es (MP x j p)
noncomputable def kH(x:a8)(j:bt)(p:Po):a8:=iX p.s p.es (MP x j p)
theorem HA{R:ar Rn}{p:Po}(h:Gd R p)(x:a8)(j:bt):MP x j p<=p.es.length/\∀(i:a9) (e:E),p.es[i]?=aq e->(!ah x j e)=decide (MP x j p<=i):=by
 have q:=azY h.gf x j;unfold MP;rw[dif_pos q];exact YY q
theorem A41{R:ar Rn}{p:Po}(h:Gd R p)(x:a8)(j:bt):0<=jT x j p/\jT x j p<=uE R x j/\uE R x j<=kH x j p/\kH x j p-jT x j p<=p.l:=by
 obtain⟨hm,q⟩:=HA h x j;obtain⟨U,N,B⟩:=bnd h x j _ hm q;obtain⟨z,_,_⟩:=azX h.gf x j _ hm q;exact⟨B,U,N,z⟩
theorem aBW{R:ar Rn}{p:Po}(h:Gd R p)(hz:p.es.length<=1000)(x:a8)(Z:aG)(hT:Z[0]?=aq pM)(ent:A)(j:hZ Z ent=aq (encL p.es)):KJ [.tup [.int p.s,.int p.l,.int p.d,ent],.int x] Z=aE (.tup [.int (jT x a5 p),.int (kH x a5 p)]) Z :=
 agD hz x _ (HA h x a5).1 (HA h x a5).2 ent Z hT j
theorem aCJ{R:ar Rn}{p:Po}(h:Gd R p)(hz:p.es.length<=1000)(x:a8)(Z:aG)(hT:Z[1]?=aq pN)(ent:A)(j:hZ Z ent=aq (encL p.es)):KP [.tup [.int p.s,.int p.l,.int p.d,ent],.int x] Z=aE (.tup [.int (jT x aw p),.int (kH x aw p)]) Z :=
 aAY hz x _ (HA h x aw).1 (HA h x aw).2 ent Z hT j
noncomputable def L2S(l:ar a9):bh:=⟨l.toArray⟩
@[simp] theorem aFZ(l:ar a9):(L2S l).cps.toList=l:=rfl
noncomputable def σ(c:a9):ar (ar a9)->ar a9
 |[]=>[]
 |x::r=>x++r.flatMap λy=>c::y
open Classical in
theorem Qx{α:Type}{n:a9}{js:ar a9}{fi:Ev->Mo Src}{g:A->MS}{e:Ev->Mo A}{Y:Ev}{Z Z0:aG}{S:Src}(xs:ar α)(enc ab:α->A)(P:Ev->Prop)(inj:∀x y,enc x=enc y->ab x=ab y)
  (h0:fi Y Z=aE S Z0) (aJ:∀ys,S.ok (Z0++[.lst ys])) (hP:P (vD n js Y)) (hS:S.ds=xs.map enc) (hl:xs.length<=1000000)
  (step:∀x∈xs,∀Y,P Y->∀ys,∃Y1,P Y1/\g (enc x) Y (Z0++[.lst ys])=eB Y1 (Z0++[.lst ys])/\e Y1 (Z0++[.lst ys])=aE (ab x) (Z0++[.lst ys]))
  (hc:∀x∈xs,Cl Z0.length (ab x)):mR aw n js fi g mM e Y Z=aE (.lst (xs.map ab)) Z0:=by
 let F:A->ax A:=λa=>if h:∃x,x∈xs/\enc x=a then aq (ab (Classical.choose h))else av
 have hF:∀x∈xs,F (enc x)=aq (ab x):=λx hx=>by
  have h:∃y,y∈xs/\enc y=enc x:=⟨x,hx,rfl⟩;show(if h:∃y,y∈xs/\enc y=enc x then aq (ab (Classical.choose h))else av)=_;rw[dif_pos h,inj _ _ (YY h).2]
 have ef:∀l:ar α,(∀x∈l,x∈xs)->(l.map enc).filterMap F=l.map ab:=by
  intro l
  induction l with
  |nil=>intro _;rfl
  |cons x r ih =>
   intro h;simp only[cP,Nc,hF x (h x (by simp)),ih λy hy=>h y (by simp[hy])]
 have q:=ZW (n:=n) (js:=js) (fi:=fi) (g:=g) (c:=mM) (e:=e) (Y:=Y) (Z:=Z) (Z0:=Z0) (S:=S) F P h0 aJ hP (by rw[hS];simpa using hl) (λx hx Y hp ys=>by
  rw[hS]at hx;obtain⟨y,hy,rfl⟩:=kW.mp hx;obtain⟨Y1,h1,h2,h3⟩:=step y hy Y hp ys;exact⟨Y1,h1,h2,.inl ⟨ab y,hF y hy,by simp[mM],h3⟩⟩) (by
  rw[hS,ef xs λ_ h=>h];exact wY λa ha=>by obtain⟨x,hx,rfl⟩:=kW.mp ha;exact hc x hx)
 rw[hS,ef xs λ_ h=>h]at q;exact q
open PySem PyProof L2 V2
abbrev Sg:=ar a8
def Vn(s l:a8)(n i:a9)(p e:E):Prop:=(i=0->e.2.1=1/\e.2.2=1)/\(i+1=n->e.2.1=s/\e.2.2=s)/\(e.2.1<=e.2.2/\e.2.2-e.2.1<=l)/\(i≠0->(p.1<=e.1/\p.2.1<e.2.1/\p.2.2<e.2.2)/\qF l p e=a5)
instance (s l:a8) (n i:a9) (p e:E):cy (Vn s l n i p e):=by unfold Vn;infer_instance
theorem Mm(a b j q:a8)(B:0<=a)(h1:a<=j)(h2:j<=b)(z:b-a<=q)(Z:aG):uK [.tup [.int a,.int b],.int j,.int q] Z=aE (.bl a5) Z:=by
 simp[uK,acR,B,h1,h2,z]
theorem abS(n:a8)(L:A)(ok:aG->Prop)(Z:aG)(aJ:ok Z):∀(rs:ar Rn) (u m:a8) (x y:ax A),∃z j,eZ ok (iM 2 (dH (gN 4) (dH (gN 5) jA))) XB (aN rs) [aq L,aA n,aA u,aA m,x,y] Z
  = eB [aq L,aA n,aA (u+dE rs n),aA (m+dI rs n),z,j] Z
 |[],u,m,x,y=>⟨x,y,by simp[aN,eZ,aJ,dI,dE]⟩
 |r::rs,u,m,x,y=>by
  obtain⟨z,j,q⟩:=abS n L ok Z aJ rs (u+if r.1<n then r.2 else 0) (m+if r.1<=n then r.2 else 0) (aA r.1) (aA r.2);refine⟨z,j,?_⟩;have st:XB [aq L,aA n,aA u,aA m,aA r.1,aA r.2] Z=eB [aq L,aA n,aA (u+if r.1<n then r.2 else 0),aA (m+if r.1<=n then r.2 else 0),aA r.1,aA r.2] Z:=by
   by_cases h1:r.1<n <;> by_cases h2:r.1<=n <;> simp[XB,h1,h2]
  show eZ ok _ _ (jV r::aN rs) _ Z=_;rw[rP aJ (Y0:=[aq L,aA n,aA u,aA m,aA r.1,aA r.2]) (Z0:=Z) (by simp[jV]) st,q];simp only[dI,dE,cP,mZ,Int.add_assoc]
theorem aCH(rs:ar Rn)(n:a8)(Z:aG):YT [.lst (aN rs),.int n] Z=aE (.tup [.int (dE rs n),.int (dI rs n)]) Z:=by
 obtain⟨z,j,q⟩:=abS n (.lst (aN rs)) (λZ'=>hZ Z' (.lst (aN rs))=aq (aN rs)) Z rfl rs 0 0 av av;have h2:(2:a9)<=bg:=by decide
 simp only[YI]at q;show trim Z (eX (Kp [cL (aN rs),aA n,av,av,av,av] Z))=_;unfold Kp;rw[bV (Y1:=[cL (aN rs),aA n,aA 0,av,av,av]) (Z':=Z) (by simp)];rw[bV (Y1:=[cL (aN rs),aA n,aA 0,aA 0,av,av]) (Z':=Z) (by simp)];rw[bV (Y1:=[cL (aN rs),aA n,aA (dE rs n),aA (dI rs n),z,j]) (Z':=Z) (by
  rw[uA (S:=srcOf (.lst (aN rs)) (aN rs)) (Z':=Z) (by simp)];exact q)]
 simp[h2]
theorem apT(m:a8):m%4=0\/m%4=1\/m%4=2\/m%4=3:=by omega
theorem aBB(R:ar Rn)(c kind:a8)(u:0<=c)(p:c<8589934592)(k:a9)(E:k<6)(is:ar a8)(hi:is.length<=6)(l i:ax A)(Z:aG):∃(v:a8) (C:ax A),
  IY [cL (aN R),aA c,aA kind,aD Z.length,aA k,l,i] (Z++[.lst (is.map A.int)])
   = eB [cL (aN R),aA c,aA kind,aD Z.length,aA k,C,aA v] (Z++[.lst ((is++[v]).map A.int)]):=by
 have m:=λZ=>QC c (80+(k:a8)) Z u p (by omega) (by omega);have b:=UB c (80+(k:a8));have s:=UA c (80+(k:a8));generalize AR c (80+(k:a8))=st at m b s;have nb:=λZ=>adZ st kind Z b (by omega);generalize AN st kind=N at nb;have t:fV (Z++[.lst (is.map A.int)]) (.aH Z.length)=aq (is.map A.int):=yH (by simp);have j:=DN t;have B:rR (Z++[.lst (is.map A.int)]) (.aH Z.length)=aq (Z.length,is.map A.int):=ER (by simp);have q:is.length<bg:=by rw[oS];omega
 have z:∀v:a8,(is++[v]).map A.int=is.map A.int++[A.int v]:=λv=>by simp
 have d:=alV R;have a:eE 8 (.lst [])=a5:=rfl;have he:lN 8 (.lst (aN R)) (.lst [])=R.isEmpty:=by cases R <;> rfl
 have ne:∀Z,qN (.lst (aN R)) (.lst []) Z=aE (.bl (!R.isEmpty)) Z:=λZ=>by
  simp[qN,yX,CV d,CV a,d,a,he]
 have x:(4:a9)<=bg:=by decide
 have y:rB st 4096:=⟨by decide,by decide⟩;cases f:R.isEmpty with
 |true =>
  rw[f]at ne;refine⟨N,aA st,?_⟩;rw[z];simp[IY,cE,m,nb,ne,j,B,q]
 |false =>
  rw[f]at ne
  by_cases g:(k:a8)<5
  ·have D:0<R.length:=by cases R <;> simp_all
   have h:(0:a8)<(R.length:a8):=by omega
   obtain⟨n,hn⟩:=QH (YK st (show(R.length:a8)≠0 by omega));have o:n<R.length:=by
    have:=QI st h;omega
   have U:eO (aN R) (n:a8)=aq (jV R[n]):=by rw[rS];simp[aN,o]
   have hlen:(aN R).length=R.length:=by simp[aN]
   generalize R[n]=r at U;obtain⟨w,hw⟩:∃w:a8,eO [A.int 0,.int 0,.int 1,.int (-1)] (st/4096%4)=(aA w):=by
    rcases apT (st/4096)with e|e|e|e <;> rw[e]
    ·exact⟨_,JA _ 0⟩
    ·exact⟨_,JA _ 1⟩
    ·exact⟨_,JA _ 2⟩
    ·exact⟨_,JA _ 3⟩
   refine⟨r.1+w,aA st,?_⟩;rw[z];simp[IY,cE,m,nb,ne,g,hlen,h,D,hn,U,jV,y,x,hw,j,B,q]
  ·refine⟨N,aA st,?_⟩;rw[z];simp[IY,cE,m,nb,ne,g,j,B,q]
theorem aCK(R:ar Rn)(c kind:a8)(k:0<=c)(h:c<8589934592)(Z:aG):∃is:ar a8,is.length=6/\Ny [.lst (aN R),.int c,.int kind] Z=aE (.lst (is.map A.int)) Z:=by
 obtain⟨Y1,f,l,N,B,z,is,rfl,rfl,hl⟩:=OI (ok:=λ_=>True) (g:=gN 4) (b:=IY)
  (λi U Z'=>∃(N B z:ax A) (is:ar a8),U=[cL (aN R),aA c,aA kind,aD Z.length,N,B,z]/\Z'=Z++[.lst (is.map A.int)]/\is.length=i) (λ_ _ _ _=>trivial)
  ((List.range 6).map λ(i:a9)=>A.int (0+(i:a8))) 0 [cL (aN R),aA c,aA kind,aD Z.length,av,av,av] (Z++[.lst []]) ⟨av,av,av,[],rfl,rfl,rfl⟩
  (by
   rintro i x U Z' d ⟨N,B,z,is,rfl,rfl,hl⟩;have hi:i<6:=by simpa using(cY.mp d).1
   obtain rfl:A.int (0+(i:a8))=x:=by
    have:=(cY.mp d).2;simpa using this
   rw[zG]at hl ⊢;obtain⟨v,m,q⟩:=aBB R c kind k h i hi is (by omega) B z Z;rw[YI];exact⟨_,_,_,_,rfl,.inl q,_,_,_,is++[v],rfl,rfl,by simp[hl]⟩)
 simp only[zG,lQ,List.length_range]at hl;refine⟨is,hl,?_⟩;show trim Z (eX (XC [cL (aN R),aA c,aA kind,av,av,av,av] Z))=_;have e:XC [cL (aN R),aA c,aA kind,av,av,av,av] Z=aq (.ret (.lst (is.map A.int)),[cL (aN R),aA c,aA kind,aD Z.length,N,B,z],Z++[.dead]):=by
  unfold XC;rw[bV (Y1:=[cL (aN R),aA c,aA kind,aD Z.length,av,av,av]) (Z':=Z++[.lst []]) (by simp[lK])];rw[bV (Y1:=[cL (aN R),aA c,aA kind,aD Z.length,N,B,z]) (Z':=Z++[.lst (is.map A.int)]) (by
   rw[uA (S:=yB 0 6) (Z':=Z++[.lst []]) (De (j:=6) (by simp) (by unfold AE;omega))];exact l)]
  simp
 rw[e];simp only[vB];exact xW (by simp only[Cl];exact wY λa ha=>by obtain⟨i,_,rfl⟩:=kW.mp ha;simp only[Cl])
theorem abI:∀{a b:ar E},encL a=encL b->a=b
 |[],[],_=>rfl
 |[],_::_,h=>by simp[encL]at h
 |_::_,[],h=>by simp[encL]at h
 |⟨x,y,z⟩::a,⟨B,q,j⟩::b,h=>by
  simp only[encL,cP,qW]at h;have e:=abI (a:=a) (b:=b) h.2;have h1:=h.1;simp[cM]at h1;obtain⟨rfl,rfl,rfl⟩:=h1;rw[e]
theorem abH{p q:Po}(h:bX p=bX q):p=q:=by
 cases p with
 |mk s l d es =>
  cases q with
  |mk s' j d' dY =>
   simp[bX,eK]at h;obtain⟨rfl,rfl,rfl,h⟩:=h;rw[abI h]
noncomputable def iB(x y:a8):A:=.tup [.int x,.int y]
theorem adX(ps:ar (a8×a8))(hz:ps.length<=100000)(Z:aG):KL [.lst (ps.map λp:a8×a8=>iB p.1 p.2)] Z=aE (.tup [.int (ps.map (·.1)).sum,.int (ps.map (·.2)).sum]) Z:=by
 have inj:∀x y:a8×a8,iB x.1 x.2=iB y.1 y.2->x=y:=λx y e=>by
  cases x;cases y;simp[iB]at e;simp[e]
 have z:acK [cL (ps.map λp:a8×a8=>iB p.1 p.2)] Z=aE (.lst (ps.map λp=>A.int p.2)) Z :=
  Qx (n:=1) (js:=[]) (fi:=fH aK) (g:=gN 0) (Y:=[cL (ps.map λp:a8×a8=>iB p.1 p.2)]) (Z:=Z) (Z0:=Z) (S:=srcOf (.lst (ps.map λp:a8×a8=>iB p.1 p.2)) (ps.map λp:a8×a8=>iB p.1 p.2)) ps (λp:a8×a8=>iB p.1 p.2) (λp:a8×a8=>A.int p.2) (λY=>∃y,Y=[y]) (λx y e=>by rw[inj x y e])
   (by simp) (λj=>by simp[srcOf]) ⟨av,by simp[vD]⟩ rfl (by omega) (λp a Y B j=>by
    obtain⟨y,rfl⟩:=B;exact⟨[aq (iB p.1 p.2)],⟨_,rfl⟩,by simp,by simp[iB]⟩) (λx _=>by simp only[Cl])
 have q:acJ [cL (ps.map λp:a8×a8=>iB p.1 p.2)] Z=aE (.lst (ps.map λp=>A.int p.1)) Z :=
  Qx (n:=1) (js:=[]) (fi:=fH aK) (g:=gN 0) (Y:=[cL (ps.map λp:a8×a8=>iB p.1 p.2)]) (Z:=Z) (Z0:=Z) (S:=srcOf (.lst (ps.map λp:a8×a8=>iB p.1 p.2)) (ps.map λp:a8×a8=>iB p.1 p.2)) ps (λp:a8×a8=>iB p.1 p.2) (λp:a8×a8=>A.int p.1) (λY=>∃y,Y=[y]) (λx y e=>by rw[inj x y e])
   (by simp) (λj=>by simp[srcOf]) ⟨av,by simp[vD]⟩ rfl (by omega) (λp a Y B j=>by
    obtain⟨y,rfl⟩:=B;exact⟨[aq (iB p.1 p.2)],⟨_,rfl⟩,by simp,by simp[iB]⟩) (λx _=>by simp only[Cl])
 have U:intsOf (ps.map λp=>A.int p.1)=aq (ps.map (·.1)):=by
  have:=UQ (ps.map (·.1));rw[zL]at this;exact this
 have N:intsOf (ps.map λp=>A.int p.2)=aq (ps.map (·.2)):=by
  have:=UQ (ps.map (·.2));rw[zL]at this;exact this
 have s2:(2:a9)<=bg:=by decide
 show trim Z (eX (WR [cL (ps.map λp:a8×a8=>iB p.1 p.2)] Z))=_;have e:WR [cL (ps.map λp:a8×a8=>iB p.1 p.2)] Z=aq (.ret (.tup [.int (ps.map (·.1)).sum,.int (ps.map (·.2)).sum]),[cL (ps.map λp:a8×a8=>iB p.1 p.2)],Z):=by
  unfold WR;generalize (ps.map λp=>A.int p.1)=d at q U;generalize (ps.map λp=>A.int p.2)=c at z N;generalize (ps.map λp:a8×a8=>iB p.1 p.2)=b at z q;simp[z,q,U,N,s2]
 rw[e];simp only[vB];exact agW
noncomputable def rG(f:a8->bt->Po->a8)(x:a8)(j:bt)(ps:ar Po):a8:=(ps.map (f x j)).sum
section
variable{Z:aG}{p keep:a9}{many tk:a8}{rs:ar Rn}{L:ar Rg}
theorem aCD(h:Z[p]?=aq (aT keep many tk rs L))(d:∀r∈rs,1<=r.2)(hl:rs.length<=63)(hw:whole rs<=1000000000)(hL:L.length<=1000)(m:∀q∈bR rs L,(∃R,Gd R q)/\q.es.length<=1000)(hT:Z[0]?=aq pM)(x:a8) :
  vW [.aH p,.int x] Z=aE (.tup [.int (rG jT x a5 (bR rs L)),.int (rG kH x a5 (bR rs L))]) Z:=by
 have U:=YB h d hl hw hL;have hlen:(bR rs L).length<=1001:=by simp[bR];omega
 show trim Z (eX (Lc [aD p,aA x] Z))=_;have k:bQ "parts" [("Gaps",bO 1 [] uL)] aK a0 [aD p,aA x] Z=aE (.lst ((bR rs L).map bX)) Z:=rK h rfl rfl (as:=[]) (das:=[]) cD rfl (by simpa using U);have l:0<Z.length:=(cY.mp hT).1;have i:Lb [aD p,aA x] Z=aE (.lst ((bR rs L).map λq=>iB (jT x a5 q) (kH x a5 q))) Z:=by
  refine LK (S:=srcOf (.lst ((bR rs L).map bX)) ((bR rs L).map bX)) (bR rs L) bX (λq=>iB (jT x a5 q) (kH x a5 q)) (λz=>∃u,z=[u,aA x]) (λa b e=>by rw[abH e]) ?_ (λj=>rfl) ⟨av,rfl⟩ rfl (by omega) (λq c z ⟨u,e⟩ j=>by
   subst e;obtain⟨⟨R,f⟩,n⟩:=m q c;have u:=aBW f (by omega) x (Z++[.lst j]) (by rw[iS l];exact hT) (.lst (encL q.es)) rfl;have B:KJ [bX q,.int x] (Z++[.lst j])=aE (.tup [.int (jT x a5 q),.int (kH x a5 q)]) (Z++[.lst j]):=u;generalize bX q=P at B;exact⟨[aq P,aA x],⟨_,rfl⟩,by simp,by simp[cE,B,iB]⟩) (λq _=>by simp[iB,Cl,fO])
  unfold fH;rw[dF k];simp
 have N:=adX ((bR rs L).map λq=>(jT x a5 q,kH x a5 q)) (by simp;omega) Z;simp only[zL]at N;have g:aS (cE 1 KL) (aC Lb a0) [aD p,aA x] Z=aE (.tup [.int (rG jT x a5 (bR rs L)),.int (rG kH x a5 (bR rs L))]) Z:=zB (bD i cD) (by
  simp only[cE];exact N)
 unfold Lc bW;rw[fQ g];exact oQ rfl
theorem aCE(h:Z[p]?=aq (aT keep many tk rs L))(d:∀r∈rs,1<=r.2)(hl:rs.length<=63)(hw:whole rs<=1000000000)(hL:L.length<=1000)(m:∀q∈bR rs L,(∃R,Gd R q)/\q.es.length<=1000)(hT:Z[1]?=aq pN)(x:a8) :
  xI [.aH p,.int x] Z=aE (.tup [.int (rG jT x aw (bR rs L)),.int (rG kH x aw (bR rs L))]) Z:=by
 have U:=YB h d hl hw hL;have hlen:(bR rs L).length<=1001:=by simp[bR];omega
 show trim Z (eX (Lm [aD p,aA x] Z))=_;have k:bQ "parts" [("Gaps",bO 1 [] uL)] aK a0 [aD p,aA x] Z=aE (.lst ((bR rs L).map bX)) Z:=rK h rfl rfl (as:=[]) (das:=[]) cD rfl (by simpa using U);have l:1<Z.length:=(cY.mp hT).1;have i:Ll [aD p,aA x] Z=aE (.lst ((bR rs L).map λq=>iB (jT x aw q) (kH x aw q))) Z:=by
  refine LK (S:=srcOf (.lst ((bR rs L).map bX)) ((bR rs L).map bX)) (bR rs L) bX (λq=>iB (jT x aw q) (kH x aw q)) (λz=>∃u,z=[u,aA x]) (λa b e=>by rw[abH e]) ?_ (λj=>rfl) ⟨av,rfl⟩ rfl (by omega) (λq c z ⟨u,e⟩ j=>by
   subst e;obtain⟨⟨R,f⟩,n⟩:=m q c;have u:=aCJ f (by omega) x (Z++[.lst j]) (by rw[iS l];exact hT) (.lst (encL q.es)) rfl;have B:KP [bX q,.int x] (Z++[.lst j])=aE (.tup [.int (jT x aw q),.int (kH x aw q)]) (Z++[.lst j]):=u;generalize bX q=P at B;exact⟨[aq P,aA x],⟨_,rfl⟩,by simp,by simp[cE,B,iB]⟩) (λq _=>by simp[iB,Cl,fO])
  unfold fH;rw[dF k];simp
 have N:=adX ((bR rs L).map λq=>(jT x aw q,kH x aw q)) (by simp;omega) Z;simp only[zL]at N;have g:aS (cE 1 KL) (aC Ll a0) [aD p,aA x] Z=aE (.tup [.int (rG jT x aw (bR rs L)),.int (rG kH x aw (bR rs L))]) Z:=zB (bD i cD) (by
  simp only[cE];exact N)
 unfold Lm bW;rw[fQ g];exact oQ rfl
end
noncomputable def fK(ps:ar Po):ar a8:=(ps.map λq=>q.es.map (·.1)).flatten
theorem arD{j:aG}{n0:a9}{ae:ar a8}(h:j[n0]?=aq (.lst (ae.map A.int)))(q:Po)(hL:ae.length+q.es.length<=100000)(x:ax A) :
  PN [x,aD n0,aq (bX q)] j=eB [x,aD n0,aq (bX q)] (j.set n0 (.lst ((ae++q.es.map (·.1)).map A.int))):=by
 have g:acV [x,aD n0,aq (bX q)] j=aE (.lst (q.es.map λe=>A.int e.1)) j:=by
  refine LK (S:=srcOf (.lst (encL q.es)) (encL q.es)) q.es cM (λe=>A.int e.1) (λz=>∃u,z=[u]) (λa b e=>by simp[cM]at e;rw[e.1]) ?_ (λB=>rfl) ⟨av,rfl⟩ rfl (by omega) (λe _ z ⟨u,U⟩ B=>by subst U;exact⟨[aq (cM e)],⟨_,rfl⟩,by simp,by simp[cM]⟩) (λe _=>by simp only[Cl]);unfold fH;rw[dF (dG (aU (a:=bX q) rfl) (b:=A.int 3) (by simp) (c:=.lst (encL q.es)) (by simp[bX,eK]))];simp
 have d:rR j (.aH n0)=aq (n0,ae.map A.int):=ER h;have hi:yJ j (.aH n0):=DN (yH h);have N:ae.length+q.es.length<=bg:=by rw[oS];omega
 have f:ae.map A.int++q.es.map (λe=>A.int e.1)=(ae++q.es.map (·.1)).map A.int:=by simp[zP]
 unfold PN kX;rw[fQ (x:=A.cZ) (Z':=j.set n0 (.lst ((ae++q.es.map (·.1)).map A.int))) (by
  unfold xT;rw[dF (x:=A.aH n0) (Z':=j) (by simp)];rw[bb hi,dF (bD g cD)];rw[<-f];simp[d,N,HE])]
theorem Xh{n0:a9}(x:ax A)(ok:aG->Prop):∀(ps:ar Po) (ae:ar a8) (y:ax A) (j:aG),j[n0]?=aq (.lst (ae.map A.int))->ae.length+(fK ps).length<=100000->(∀Z',ok Z') ->
  ∃z,eZ ok (gN 2) PN (ps.map bX) [x,aD n0,y] j=eB [x,aD n0,z] (j.set n0 (.lst ((ae++fK ps).map A.int)))
 | [],ae,y,j,h,_,aJ=>⟨y,by
   rw[uI,EI (aJ _)];simp[fK,SW h]⟩
 |q::ps,ae,y,j,h,B,aJ=>by
  have hn:n0<j.length:=(cY.mp h).1;have hl:(fK (q::ps)).length=q.es.length+(fK ps).length:=by simp[fK]
  have t:=arD h q (by omega) x;obtain⟨z,e⟩:=Xh x ok ps (ae++q.es.map (·.1)) (aq (bX q)) (j.set n0 (.lst ((ae++q.es.map (·.1)).map A.int))) (fN hn) (by simp;omega) aJ;refine⟨z,?_⟩;rw[cP,rP (aJ _) (Y0:=[x,aD n0,aq (bX q)]) (Z0:=j) (by simp) t,e,qT];simp[fK]
section
variable{Z:aG}{p keep:a9}{many tk:a8}{rs:ar Rn}{L:ar Rg}
theorem ad4(h:Z[p]?=aq (aT keep many tk rs L))(z:∀r∈rs,1<=r.2)(hl:rs.length<=63)(hw:whole rs<=1000000000)(hL:L.length<=1000)(hz:(fK (bR rs L)).length<=100000):xH [.aH p] Z=aE (.lst ((fK (bR rs L)).map A.int)) Z:=by
 have B:p<Z.length:=(cY.mp h).1;have h1:(Z++[Cell.lst []])[p]?=aq (aT keep many tk rs L):=by rw[iS B];exact h
 have q:=YB h1 z hl hw hL;show trim Z (eX (Lk [aD p,av,av] Z))=_;unfold Lk;rw[bV (Y1:=[aD p,aD Z.length,av]) (Z':=Z++[.lst []]) (by simp)];have b:bQ "parts" [("Gaps",bO 1 [] uL)] aK a0 [aD p,aD Z.length,av] (Z++[.lst []])=aE (.lst ((bR rs L).map bX)) (Z++[.lst []]):=rK h1 rfl rfl (as:=[]) (das:=[]) cD rfl (by simpa using q);obtain⟨j,e⟩:=Xh (n0:=Z.length) (aD p) (srcOf (.lst ((bR rs L).map bX)) ((bR rs L).map bX)).ok (bR rs L) [] av (Z++[.lst []]) (by simp) (by simpa using hz) (λ_=>rfl);have U:jR (fH (bQ "parts" [("Gaps",bO 1 [] uL)] aK a0)) (gN 2) PN [aD p,aD Z.length,av] (Z++[.lst []])=eB [aD p,aD Z.length,j] ((Z++[Cell.lst []]).set Z.length (.lst ((fK (bR rs L)).map A.int))):=by
  unfold jR;rw[fQ (x:=srcOf (.lst ((bR rs L).map bX)) ((bR rs L).map bX)) (Z':=Z++[.lst []]) (by unfold fH;rw[dF b];simp)];exact e
 rw[bV U];have es:(Z++[Cell.lst []]).set Z.length (.lst ((fK (bR rs L)).map A.int))=Z++[.lst ((fK (bR rs L)).map A.int)]:=by simp
 rw[es];have N:bW (xR 1) [aD p,aD Z.length,j] (Z++[.lst ((fK (bR rs L)).map A.int)])=aq (.ret (.lst ((fK (bR rs L)).map A.int)),[aD p,aD Z.length,j],Z++[.dead]):=by simp
 rw[N];simp only[vB];exact xW (by simp only[Cl];exact wY λa ha=>by obtain⟨x,_,rfl⟩:=kW.mp ha;simp only[Cl])
theorem aCC(h:Z[p]?=aq (aT keep many tk rs L))(q:∀r∈rs,1<=r.2)(hl:rs.length<=63)(hw:whole rs<=1000000000)(hL:L.length<=1000)(hz:(fK (bR rs L)).length<=100000):zS [.aH p] Z=aE (.int (fK (bR rs L)).length) Z:=by
 have j:=ad4 h q hl hw hL hz;show trim Z (eX (Kz [aD p] Z))=_;have B:bQ "kept" [("Gaps",bO 1 [] xH)] aK a0 [aD p] Z=aE (.lst ((fK (bR rs L)).map A.int)) Z:=rK h rfl rfl (as:=[]) (das:=[]) cD rfl (by simpa using j);have z:aS jB (aC (bQ "kept" [("Gaps",bO 1 [] xH)] aK a0) a0) [aD p] Z=aE (.int (fK (bR rs L)).length) Z:=zB (bD B cD) (by simp);unfold Kz bW;rw[fQ z];exact oQ rfl
theorem Vs(ps:ar Po):(fK ps).length=(ps.map λq=>q.es.length).sum:=by
 induction ps with
 |nil=>rfl
 |cons q ps ih =>
  have:fK (q::ps)=q.es.map (·.1)++fK ps:=by simp[fK]
  rw[this,iR,ih];simp
theorem auP{b:a9}(j:1<=keep)(hr:rs.length<=keep)(fL:rZ keep L)(hb:∀x∈L,x.1<b):(fK (bR rs L)).length<=(2*keep+2)*(b+2):=by
 have h1:=fL.aqL hb;have h2:=ME (dP rs) 0;have q:=CZ rs;have e:(fK (bR rs L)).length=(iD 0 (dP rs)).length+UK L:=by
  rw[Vs,bR,cP,mZ,zL];rfl
 rw[e,Nat.mul_comm (2*keep+2),Nat.add_mul];omega
end
def vP(P:Po)(ps:ar Po):Po:=ps.foldl sJ P
noncomputable abbrev P0:Po:=⟨0,0,0,[]⟩
noncomputable def nY(a:E->bt):a8->ar E->a8
 |z,[]=>z
 |z,e::es=>if a e then nY a e.2.1 es else z
noncomputable def oE(a:E->bt)(s:a8):ar E->a8
 |[]=>s
 |e::es=>if a e then oE a s es else e.2.2-1
def Mon(a:E->bt):Prop:=(∀e f:E,e.1=f.1->a e=a f)/\∀e f:E,e.1<=f.1->a f=a5->a e=a5
theorem apS(x:a8)(j:bt):Mon (ah x j):=⟨λe f h=>by simp[ah,h],λe f h q=>by cases j <;> simp[ah]at q ⊢ <;> omega⟩
theorem PO{a:E->bt}(ha:Mon a)(s t:a8):∀(n:a9) (es fs:ar E) (e7 dA:a8),es.length+fs.length<=n ->
  nY a (e7+dA) (fR s t n e7 dA es fs)=nY a e7 es+nY a dA fs/\oE a (s+t) (fR s t n e7 dA es fs)=oE a s es+oE a t fs
 |0,es,fs,e7,dA,h=>by
  have h1:es=[]:=xE (by omega);have h2:fs=[]:=xE (by omega);subst h1;subst h2;exact⟨rfl,rfl⟩
 |n+1,[],[],e7,dA,_=>⟨rfl,rfl⟩
 |n+1,e::es,[],e7,dA,h=>by
  obtain⟨B,j⟩:=PO ha s t n es [] e.2.1 dA (by simp at h ⊢;omega);simp only[fR,nY,oE]at B j ⊢;rw[ha.1 (e.1,e.2.1+dA,e.2.2+t) e rfl]
  by_cases q:a e=a5
  ·simp only[q,gT,B,j,and_self]
  ·simp only[bc q];constructor <;> first|trivial|omega
 |n+1,[],f::fs,e7,dA,h=>by
  obtain⟨B,j⟩:=PO ha s t n [] fs e7 f.2.1 (by simp at h ⊢;omega);simp only[fR,nY,oE]at B j ⊢;rw[ha.1 (f.1,f.2.1+e7,f.2.2+s) f rfl,QJ f.2.1 e7]
  by_cases q:a f=a5
  ·simp only[q,gT,B,j,and_self]
  ·simp only[bc q];constructor <;> first|trivial|omega
 |n+1,e::es,f::fs,e7,dA,h=>by
  simp only[fR]
  by_cases hle:e.1<=f.1
  ·obtain⟨B,j⟩:=PO ha s t n es (f::fs) e.2.1 dA (by simp at h ⊢;omega);rw[bb hle];simp only[nY,oE]at B j ⊢;rw[ha.1 (e.1,e.2.1+dA,e.2.2+(f.2.2-1)) e rfl]
   by_cases q:a e=a5
   ·simp only[q,gT,B,j,and_self]
   ·have N:¬a f=a5:=λz=>q (ha.2 e f hle z);simp only[bc q,bc N];constructor <;> first|trivial|omega
  ·obtain⟨B,j⟩:=PO ha s t n (e::es) fs e7 f.2.1 (by simp at h ⊢;omega);rw[bc hle];simp only[nY,oE]at B j ⊢;rw[ha.1 (f.1,f.2.1+e7,f.2.2+(e.2.2-1)) f rfl,QJ f.2.1 e7]
   by_cases q:a f=a5
   ·simp only[q,gT,B,j,and_self]
   ·have N:¬a e=a5:=λz=>q (ha.2 f e (by omega) z);simp only[bc q,bc N];constructor <;> first|trivial|omega
theorem ac6{a:E->bt}(s:a8):∀(es:ar E) (m:a9) (z:a8),m<=es.length->(∀(i:a9) (e:E),es[i]?=aq e->(!a e)=decide (m<=i)) ->
  nY a z es=(if m=0 then z else(es[m-1]?.getD (0,0,0)).2.1)/\oE a s es=iX s es m
 |[],m,z,hm,_=>by
  have:m=0:=by simpa using hm
  subst this;exact⟨rfl,rfl⟩
 |e::es,0,z,hm,h=>by
  have j:=h 0 e rfl;have q:a e=aw:=by simpa using j
  simp[nY,oE,q,iX]
 |e::es,m+1,z,hm,h=>by
  have j:=h 0 e rfl;have q:a e=a5:=by simpa using j
  obtain⟨N,B⟩:=ac6 s es m e.2.1 (by simpa using hm) (λi f U=>by have:=h (i+1) f (by simpa using U);simpa using this);simp only[nY,oE,q,gT,N,B];refine⟨?_,by simp[iX]⟩;cases m with
  |zero=>simp
  |succ k=>simp
theorem Ws{R:ar Rn}{p:Po}(h:Gd R p)(x:a8)(j:bt):jT x j p=nY (ah x j) 0 p.es/\kH x j p=oE (ah x j) p.s p.es:=by
 obtain⟨hm,q⟩:=HA h x j;obtain⟨h1,h2⟩:=ac6 p.s p.es _ 0 hm q;rw[h1,h2];exact⟨rfl,rfl⟩
noncomputable def allR(R:ar Rn)(rs:ar (ar Rn)):ar Rn:=rs.foldl (· ++ ·) R
theorem ac1:∀(xs:ar (ar Rn×Po)) (R:ar Rn) (P:Po),Gd R P->(∀x∈xs,Gd x.1 x.2)->Gd (allR R (xs.map (·.1))) (vP P (xs.map (·.2)))
 |[],R,P,h,_=>h
 |x::xs,R,P,h,g=>ac1 xs (R++x.1) (sJ P x.2) (h.merge (g x (by simp))) λy j=>g y (by simp[j])
theorem acY(x:a8)(j:bt):∀(xs:ar (ar Rn×Po)) (R:ar Rn) (P:Po),Gd R P->(∀x∈xs,Gd x.1 x.2) ->
  nY (ah x j) 0 (vP P (xs.map (·.2))).es=nY (ah x j) 0 P.es+rG jT x j (xs.map (·.2))/\oE (ah x j) (vP P (xs.map (·.2))).s (vP P (xs.map (·.2))).es=oE (ah x j) P.s P.es+rG kH x j (xs.map (·.2))
 |[],R,P,h,_=>by simp[vP,rG]
 |y::xs,R,P,h,g=>by
  have q:=g y (by simp);obtain⟨b,a⟩:=acY x j xs (R++y.1) (sJ P y.2) (h.merge q) λy c=>g y (by simp[c]);obtain⟨B,z⟩:=PO (apS x j) P.s y.2.s (P.es.length+y.2.es.length) P.es y.2.es 0 0 cX;obtain⟨U,N⟩:=Ws q x j;have e:nY (ah x j) 0 (sJ P y.2).es=nY (ah x j) 0 P.es+nY (ah x j) 0 y.2.es:=B;have d:oE (ah x j) (sJ P y.2).s (sJ P y.2).es=oE (ah x j) P.s P.es+oE (ah x j) y.2.s y.2.es:=z;have f:vP P ((y::xs).map (·.2))=vP (sJ P y.2) (xs.map (·.2)):=rfl;rw[f,b,a,e,d,<-U,<-N];simp only[rG,cP,mZ];constructor <;> first|trivial|omega
theorem acZ:∀(ps:ar Po) (P:Po),(vP P ps).l=P.l+(ps.map (·.l)).sum
 |[],P=>by simp[vP]
 |q::ps,P=>by
  have:=acZ ps (sJ P q);have e:(sJ P q).l=P.l+q.l:=rfl;show(vP (sJ P q) ps).l=_;rw[this,e];simp;omega
structure qX(F:ar Rn->a8):Prop where
 app:∀a b,F (a++b)=F a+F b
 one:∀n s t,F [(n,s+t)]=F [(n,s)]+F [(n,t)]
theorem qX.nil{F:ar Rn->a8}(h:qX F):F []=0:=by have:=h.app [] [];simp at this;omega
theorem qX.cons{F:ar Rn->a8}(h:qX F)(r:Rn)(R:ar Rn):F (r::R)=F [r]+F R:=h.app [r] R
theorem DK:qX whole:=⟨uQ,λn s t=>by simp[whole]⟩
theorem aqJ(x:a8):qX (dE · x):=⟨λa b=>Ae a b x,λn s t=>by simp only[dE,cP,uI,mZ,List.sum_nil];split <;> omega⟩
theorem aqI(x:a8):qX (dI · x):=⟨λa b=>Ad a b x,λn s t=>by simp only[dI,cP,uI,mZ,List.sum_nil];split <;> omega⟩
theorem qX.add{F:ar Rn->a8}(h:qX F)(n t:a8):∀rs:ar Rn,F (bS rs n t)=F rs+F [(n,t)]
 |[]=>by simp[bS,h.nil]
 |r::rs=>by
  have ih:=h.add n t rs;unfold bS;split
  ·rename_i e;rw[h.cons (r.1,r.2+t),h.cons r,h.one,e];have:F [(n,r.2)]=F [r]:=by rw[<-e]
   omega
  ·rw[h.cons r,ih,h.cons r rs];omega
theorem qX.all{F:ar Rn->a8}(h:qX F):∀(xs:ar (ar Rn)) (R:ar Rn),F (allR R xs)=F R+(xs.map F).sum
 |[],R=>by simp[allR]
 |x::xs,R=>by
  have:=h.all xs (R++x);show F (allR (R++x) xs)=_;rw[this,h.app];simp;omega
theorem ac3(n t:a8):∀rs:ar Rn,(bS rs n t).length<=rs.length+1
 |[]=>by simp[bS]
 |r::rs=>by
  have:=ac3 n t rs;unfold bS;split
  ·simp
  ·simp;omega
theorem Uu{R S:ar Rn}(h1:∀x,dE R x=dE S x)(h2:∀x,dI R x=dI S x):∀(es:ar E) (z:a8),Pl R z es->Pl S z es
 |[],_,_=>trivial
 |e::es,z,⟨p,a,U,N,B,q,j⟩=>⟨p,a,by rw[<-h1];exact U,by rw[<-h2];exact N,B,q,Uu h1 h2 es p j⟩
structure eY(keep:a9)(rs:ar Rn)(L:ar Rg)(row:ar Rn)(P:a9):Prop where
 k1:1<=keep
 kb:keep<=5\/(100<=keep/\L=[]/\P<=60)
 nd:(rs.map (·.1)).Nodup
 pos:∀r∈rs,1<=r.2
 rl:rs.length<=keep
 fL:rZ keep L
 sums:∀F,qX F->F rs+lW F L=F row
 qC:∃c,rs.length<=c/\(rs=[]->c=0)/\c+nI L=P
 tn:Tn row
 GQ:P<=400
 w:whole row<=1000000000
theorem aoG{keep:a9}(q:1<=keep)(j:keep<=5\/100<=keep):eY keep [] [] [] 0:=⟨q,j.imp id λh=>⟨h,rfl,by decide⟩,by simp,by simp,by simp,⟨by simp,by simp⟩,λF z=>by simp[lW,z.nil],⟨0,by simp,λ_=>rfl,rfl⟩,λr hr=>by simp at hr,by simp,by decide⟩
section
variable{keep P:a9}{rs row:ar Rn}{L:ar Rg}
theorem alO(fL:rZ keep L)(x:Rg)(j:x∈L):x.2.1<=nI L:=by
 have h:∀l:ar Rg,x∈l->x.2.1<=nI l:=by
  intro l
  induction l with
  |nil=>intro h;cases h
  |cons y l ih =>
   intro h;simp only[nI,cP,mZ]at *
   rcases dU.mp h with q|q
   ·subst q;omega
   ·have:=ih q;omega
 exact h L j
theorem aqK(fL:rZ keep L):L.length<=nI L:=by
 have h:∀l:ar Rg,(∀x∈l,1<=x.2.1)->l.length<=nI l:=by
  intro l
  induction l with
  |nil=>intro _;simp[nI]
  |cons x l ih =>
   intro h;have:=ih λy j=>h y (by simp[j]);have:=h x (by simp);simp only[nI,cP,mZ,fT]at *;omega
 refine h L λx q=>?_;have:=(fL.ok x q).cnt;have:0<2 ^ x.1:=Nat.two_pow_pos _;have:1<=2 ^ x.1*(keep+1):=Nat.mul_pos this (by omega);omega
theorem eY.hl(o:eY keep rs L row P):rs.length<=60:=by
 obtain⟨c,h1,_,h2⟩:=o.qC;have:=o.rl
 rcases o.kb with h|⟨_,_,h⟩ <;> omega
theorem eY.hL(o:eY keep rs L row P):L.length<=400:=by
 obtain⟨c,h1,_,h2⟩:=o.qC;have:=o.GQ;have:=aqK o.fL;omega
theorem Aw(fL:rZ keep L):0<=lW whole L:=by
 have h:∀l:ar Rg,(∀x∈l,rW keep x)->0<=lW whole l:=by
  intro l
  induction l with
  |nil=>intro _;simp[lW]
  |cons x l ih =>
   intro h;have:=ih λy j=>h y (by simp[j]);have g:=h x (by simp);have h1:=g.nn;rw[g.gd.sz]at h1;simp only[lW,cP,mZ]at *;omega
 exact h L fL.ok
theorem eY.hw(o:eY keep rs L row P):whole rs<=1000000000:=by
 have:=o.sums whole DK;have:=Aw o.fL;have:=o.w;omega
theorem eY.lv(o:eY keep rs L row P){b:a9}(hb:P/(keep+1)<2 ^ b):∀x∈L,x.1<b:=λx j=>by
 obtain⟨c,h1,_,h2⟩:=o.qC;have z:=alO o.fL x j;have q:=(o.fL.ok x j).cnt;exact ap9 (n:=P) (by omega) hb
theorem eY.held(o:eY keep rs L row P){b:a9}(hb:P/(keep+1)<2 ^ b):(fK (bR rs L)).length<=(2*keep+2)*(b+2):=auP o.k1 o.rl o.fL (o.lv hb)
theorem eY.nums(o:eY keep rs L row P):(fK (bR rs L)).length<=976:=by
 rcases o.kb with h|h
 ·have q:=o.held (b:=9) (by
   have h1:P/(keep+1)<=P:=Nat.div_le_self _ _;have:=o.GQ;omega)
  have:(2*keep+2)*(9+2)<=12*11:=Nat.mul_le_mul_right 11 (by omega);omega
 ·obtain⟨_,h,_⟩:=h;subst h;rw[Vs];have h2:=ME (dP rs) 0;have j:=CZ rs;have:=o.hl;show(List.map (λq=>q.es.length) [kM rs]).sum<=_;show(iD 0 (dP rs)).length+0<=_;omega
theorem eY.parts(o:eY keep rs L row P):∀q∈bR rs L,(∃R,Gd R q)/\q.es.length<=1000:=λq B=>by
 have h1:q.es.length<=126:=by
  rcases dU.mp B with z|z
  ·subst z;have h2:=ME (dP rs) 0;have N:=CZ rs;have:=o.hl;show(iD 0 (dP rs)).length<=_;omega
  ·obtain⟨y,j,rfl⟩:=kW.mp z
   rcases o.kb with k|k
   ·have:=(o.fL.ok y j).len;show y.2.2.2.es.length<=_;omega
   ·obtain⟨_,k,_⟩:=k;subst k;cases j
 refine⟨?_,by omega⟩
 rcases dU.mp B with z|z
 ·subst z;exact⟨rs,ED o.pos⟩
 ·obtain⟨y,j,rfl⟩:=kW.mp z;exact⟨_,(o.fL.ok y j).gd⟩
abbrev All(rs:ar Rn)(L:ar Rg):Po:=vP P0 (bR rs L)
def xM(rs:ar Rn)(L:ar Rg):ar (ar Rn×Po):=(rs,kM rs)::L.map λx=>(x.2.2.1,x.2.2.2)
theorem Pe:(xM rs L).map (·.2)=bR rs L:=by simp[xM,bR,zP]
theorem Pd(o:eY keep rs L row P):∀x∈xM rs L,Gd x.1 x.2:=λx q=>by
 rcases dU.mp q with z|z
 ·subst z;exact ED o.pos
 ·obtain⟨y,j,rfl⟩:=kW.mp z;exact(o.fL.ok y j).gd
theorem gd0:Gd [] P0:=by
 have h:=ED (R:=[]) (by simp);have e:dP []=[]:=xE (Nat.le_zero.mp (CZ []));have j:kM []=P0:=by simp[kM,e,iD,whole]
 rwa[j]at h
theorem eY.gd(o:eY keep rs L row P):Gd row (All rs L):=by
 have g:=ac1 (xM rs L) [] P0 gd0 (Pd o);rw[Pe]at g;have e:∀F,qX F->F (allR [] ((xM rs L).map (·.1)))=F row:=λF j=>by
  rw[j.all,j.nil,<-o.sums F j];simp[xM,lW,zP]
 have h1:∀x,dE (allR [] ((xM rs L).map (·.1))) x=dE row x:=λx=>e _ (aqJ x);have h2:∀x,dI (allR [] ((xM rs L).map (·.1))) x=dI row x:=λx=>e _ (aqI x);exact⟨o.tn,g.gf,by rw[g.sz];exact e _ DK,Uu h1 h2 _ _ g.pl⟩
theorem eY.lo(o:eY keep rs L row P)(x:a8)(j:bt):rG jT x j (bR rs L)=jT x j (All rs L)/\rG kH x j (bR rs L)=kH x j (All rs L):=by
 obtain⟨h1,h2⟩:=acY x j (xM rs L) [] P0 gd0 (Pd o);rw[Pe]at h1 h2;obtain⟨z,q⟩:=Ws o.gd x j;rw[z,q,h1,h2];simp[nY,oE]
theorem eY.off(o:eY keep rs L row P):(All rs L).l=gK L:=by
 rw[acZ];simp[bR,kM,gK,zP]
theorem eY.size(o:eY keep rs L row P):(All rs L).s=whole row:=o.gd.sz
theorem eY.Dy(o:eY keep rs L row P){b:a9}(hb:P/(keep+1)<2 ^ b):(keep:a8)*gK L<=((b-1:a9):a8)*whole row:=by
 obtain⟨h1,h2⟩:=o.fL.Dy (m:=b-1) (λx j=>by have:=o.lv hb x j;omega);have e:(L.map λx=>x.2.2.2.s).sum=lW whole L:=by
  unfold lW;congr 1;exact JQ λx j=>(o.fL.ok x j).gd.sz
 rw[e]at h1;have z:=o.sums whole DK;have q:0<=whole rs:=(ED o.pos).gf.s0;refine zN h1 (Int.mul_le_mul_of_nonneg_left (by omega) (by omega))
theorem eY.aoH(o:eY keep rs L row P):0<=gK L:=by rw[<-o.off];exact o.gd.gf.l0
end
structure kC(Z:aG)(p keep:a9)(rs row:ar Rn)(L:ar Rg):Prop where
 h:Z[p]?=aq (aT keep (whole row) row.length rs L)
 o:eY keep rs L row row.length
 u:Z[0]?=aq pM
 b:Z[1]?=aq pN
theorem IZ{Z:aG}{i:a9}{c:Cell}(h:Z[i]?=aq c)(j:aG):(Z++j)[i]?=aq c:=by
 rw[iS (cY.mp h).1];exact h
section
variable{Z:aG}{p keep:a9}{rs row:ar Rn}{L:ar Rg}
theorem kC.app(a:kC Z p keep rs row L)(j:aG):kC (Z++j) p keep rs row L:=⟨IZ a.h j,a.o,IZ a.u j,IZ a.b j⟩
theorem kC.lt(a:kC Z p keep rs row L):p<Z.length:=(cY.mp a.h).1
noncomputable abbrev pI(x:a8)(j:bt)(P:Po):A:=.tup [.int (jT x j P),.int (kH x j P)]
noncomputable def EV(x y:a8)(P:Po):a8:=if y<x then 0 else max 0 (jT y a5 P-kH x aw P)
noncomputable def IS(x y:a8)(P:Po):a8:=if y<x then 0 else kH y a5 P-jT x aw P
noncomputable abbrev zD(x y:a8)(P:Po):A:=.tup [.int (EV x y P),.int (IS x y P)]
theorem aAT{x y:a8}(h:y<x)(P:Po):zD x y P=.tup [.int 0,.int 0]:=by simp only[zD,EV,IS,bb h]
theorem aAU{x y:a8}(h:¬y<x)(P:Po):zD x y P=.tup [.int (max 0 (jT y a5 P-kH x aw P)),.int (kH y a5 P-jT x aw P)]:=by simp only[zD,EV,IS,bc h]
theorem aBE(a b c d:a8)(Z:aG):QV [.tup [.int a,.int b],.tup [.int c,.int d]] Z=aE (.tup [.int (max 0 (c-b)),.int (d-a)]) Z:=by
 have h2:(2:a9)<=bg:=by decide
 simp[QV,acP,h2]
theorem Pb(a:kC Z p keep rs row L)(x:a8):vW [.aH p,.int x] Z=aE (pI x a5 (All rs L)) Z:=by
 have q:=aCD a.h a.o.pos (by have:=a.o.hl;omega) a.o.hw (by have:=a.o.hL;omega) a.o.parts a.u x;obtain⟨z,j⟩:=a.o.lo x a5;rw[q,z,j]
theorem aeZ(a:kC Z p keep rs row L)(x:a8):xI [.aH p,.int x] Z=aE (pI x aw (All rs L)) Z:=by
 have q:=aCE a.h a.o.pos (by have:=a.o.hl;omega) a.o.hw (by have:=a.o.hL;omega) a.o.parts a.b x;obtain⟨z,j⟩:=a.o.lo x aw;rw[q,z,j]
theorem aeU(a:kC Z p keep rs row L):zT [.aH p] Z=aE (.int (gK L)) Z:=aB4 a.h a.o.pos (by have:=a.o.hl;omega) a.o.hw (by have:=a.o.hL;omega)
theorem aeY(a:kC Z p keep rs row L):zS [.aH p] Z=aE (.int (fK (bR rs L)).length) Z:=aCC a.h a.o.pos (by have:=a.o.hl;omega) a.o.hw (by have:=a.o.hL;omega) (by have:=a.o.nums;omega)
theorem kC.call(a:kC Z p keep rs row L){m:bh}{F:ar A->Mo A}{n i:a9}{as das:ar A}{fs:Ev->Mo (ar A)}{Y:Ev}{v:A}{Z':aG}(hl:(dW keep (whole row) row.length rs L).lookup m=av)(h0:(Y[i]?).join=(aD p))(ha:fs Y Z=aE as Z)(hn:as.length+1+das.length=n)
  (j:F (.aH p::(as++das)) Z=aE v Z'):bQ m [("Gaps",bO n das F)] (dR i) fs Y Z=aE v Z':=rK a.h hl h0 ha hn j
theorem aC1(a:kC Z p keep rs row L)(x y:a8):QX [.aH p,.int x,.int y] Z=aE (zD x y (All rs L)) Z:=by
 have h2:(2:a9)<=bg:=by decide
 show trim Z (eX (Kt [aD p,aA x,aA y] Z))=_;unfold Kt
 by_cases j:y<x
 ·have e:(eW (cC (aB oF cN aR)) (bW (nS (aC cK (aC cK a0)))) fY) [aD p,aA x,aA y] Z=aq (.ret (.tup [.int 0,.int 0]),[aD p,aA x,aA y],Z):=by
   simp[j,h2]
  rw[Bd e];rw[aAT j];exact oQ rfl
 ·rw[bV (Y1:=[aD p,aA x,aA y]) (Z':=Z) (by simp[j])];have B:bQ "below" [("Gaps",bO 2 [] xI)] aK (aC aR a0) [aD p,aA x,aA y] Z=aE (pI x aw (All rs L)) Z:=a.call rfl rfl (as:=[.int x]) (das:=[]) (bD (aU rfl) cD) rfl (by simpa using aeZ a x);have z:bQ "upto" [("Gaps",bO 2 [] vW)] aK (aC cN a0) [aD p,aA x,aA y] Z=aE (pI y a5 (All rs L)) Z:=a.call rfl rfl (as:=[.int y]) (das:=[]) (bD (aU rfl) cD) rfl (by simpa using Pb a y);have q:=oJ (n:=2) (F:=QV) (bD B (bD z cD)) rfl (aBE _ _ _ _ Z);unfold bW;rw[fQ q];rw[aAU j];exact oQ rfl
theorem aC0(a:kC Z p keep rs row L)(x:a8):KQ [.aH p,.int x] Z=aE (zD x x (All rs L)) Z:=by
 show trim Z (eX (Ks [aD p,aA x] Z))=_;have j:bQ "between" [("Gaps",bO 3 [] QX)] aK (aC aR (aC aR a0)) [aD p,aA x] Z=aE (zD x x (All rs L)) Z:=a.call rfl rfl (as:=[.int x,.int x]) (das:=[]) (bD (aU rfl) (bD (aU rfl) cD)) rfl (by simpa using aC1 a x x);unfold Ks bW;rw[fQ j];exact oQ rfl
end
open PyProof.Rows (step_dedup)
theorem aqM(ns:ar a8):∀ae:ar a8,(ns.foldl step_dedup ae).length<=ae.length+ns.length:=by
 induction ns with
 |nil=>intro ae;simp
 |cons n ns ih =>
  intro ae;rw[List.foldl_cons];refine rX (ih _) ?_;unfold step_dedup;split <;> simp <;> omega
theorem abO(a:ar a8):(wX a).length<=a.length:=by
 have:=aqM a [];simpa[wX]using this
noncomputable def iP(rs:ar Rn)(L:ar Rg):ar a8:=sortI (wX (fK (bR rs L)))
theorem agA{c:bt}{f:Ev->Mo A}{Y:Ev}{Z Z':aG}{a:A}{ns:ar a8}(h:f Y Z=aE a Z')(hi:fV Z' a=aq (ns.map A.int))(hl:ns.length<4000):RW c f Y Z=lK c ((sortI (wX ns)).map A.int) Z':=by
 have hd:=abO ns;unfold RW;rw[dF h];have j:(fV Z' a).bind intsOf=aq ns:=by rw[hi];exact UQ _
 simp only[j];rw[bb ⟨hl,by omega⟩]
theorem aBM(n t:a8):∀rs:ar Rn,bS rs n t≠[]
 |[]=>by simp[bS]
 |r::rs=>by unfold bS;split <;> simp
theorem Ud{keep:a9}{L:ar Rg}(x:Rg)(nd:(L.map (·.1)).Nodup):nI (kO keep L.length L x)=nI L+x.2.1:=by
 have e:=UM (keep:=keep) (λx=>(x.2.1:a8)) (λx y=>by simp[up1]) L.length (x:=x) nd;have cs:∀l:ar Rg,(l.map λx=>(x.2.1:a8)).sum=(nI l:a8):=by
  intro l
  induction l with
  |nil=>rfl
  |cons x l ih=>simp only[nI,cP,mZ]at ih ⊢;rw[ih];simp
 rw[cs,cs]at e;omega
section
variable{Z Z':aG}{p keep:a9}{rs row:ar Rn}{L:ar Rg}
theorem aCY(a:kC Z p keep rs row L):xH [.aH p] Z=aE (.lst ((fK (bR rs L)).map A.int)) Z:=ad4 a.h a.o.pos (by have:=a.o.hl;omega) a.o.hw (by have:=a.o.hL;omega) (by have:=a.o.nums;omega)
theorem aeV(a:kC Z p keep rs row L):CA [.aH p] Z=aE (.aH Z.length) (Z++[.lst ((iP rs L).map A.int)]):=by
 have q:bQ "kept" [("Gaps",bO 1 [] xH)] aK a0 [aD p] Z=aE (.lst ((fK (bR rs L)).map A.int)) Z:=a.call rfl rfl (as:=[]) (das:=[]) cD rfl (by simpa using aCY a);have j:=agA (c:=a5) q rfl (by have:=a.o.nums;omega);show trim Z (eX (Kv [aD p] Z))=_;unfold Kv bW;rw[fQ (x:=A.aH Z.length) (Z':=Z++[.lst ((iP rs L).map A.int)]) (by rw[j];rfl)];exact agY
theorem yZ{f:Ev->Mo A}{Y:Ev}{a:A}(h:f Y Z=aE a Z'):kX f Y Z=eB Y Z':=by
 unfold kX;rw[fQ h]
theorem CY{s:a9}{Y:Ev}{fs:ar (bh×Fd)}{f:bh}{fv:Ev->Mo A}{b:A}(j:(Y[0]?).join=(aD s))(h:Z[s]?=aq (.ins "Gaps" fs))(hl:fs.length<1000)(hv:fv Y Z=aE b Z):sG ["Gaps"] f aK fv Y Z=eB Y (Z.set s (.ins "Gaps" (putD f (.val b) fs))):=by
 unfold sG;rw[fQ hv];rw[fQ (x:=A.aH s) (Z':=Z) (by simp[j])];simp only[h];rw[bb ⟨by simp,hl⟩]
theorem Vm{P:a9}(o:eY keep rs L row P)(n t:a8)(m:1<=t)(w:a9)(H:1<=w)(hr:P+w<=400)(u:keep<=5\/P+w<=60)(hw:whole row+t<=1000000000)(many tk:a8)(h:Z[p]?=aq (aT keep many tk rs L)) :
  ∃f B,eY keep f B (row++[(n,t)]) (P+w)/\FT [.aH p,.int n,.int t] Z=aE (.cZ) (Z.set p (aT keep many tk f B)):=by
 obtain⟨c,C,D,A⟩:=o.qC;have v:=ac3 n t rs;have a:=Uq rs n t m o.pos;have s:=o.rl;have hl:=o.hl;have k:whole (row++[(n,t)])<=1000000000:=by rw[uQ];simp[whole]at hw ⊢;omega
 have i:Tn (row++[(n,t)]):=o.tn.app λr hr=>by
  have:r=(n,t):=by simpa using hr
  subst this;show 0<=t;omega
 have g:∀B:ar Rg,(100<=keep->B=[])->(keep<=5\/(100<=keep/\B=[]/\P+w<=60)):=λB U=>by
  rcases o.kb with q|⟨q,_,_⟩
  ·exact .inl q
  ·exact .inr ⟨q,U q,by omega⟩
 by_cases b:(bS rs n t).length<=keep
 ·refine⟨bS rs n t,L,⟨o.k1,g L (λq=>by rcases o.kb with z|⟨_,z,_⟩;omega;exact z),Vx rs n t o.nd,a,b,o.fL,λF j=>?_,⟨c+w,by omega,λz=>b8 z (aBM n t rs),by omega⟩,i,hr,k⟩,aB0 h o.nd (by omega) n t b⟩;rw[j.add,j.app,<-o.sums F j];omega
 ·have E:keep<=60:=by omega
  have d:keep+1<=c+w:=by omega
  have N:whole (bS rs n t)<=1000000000:=by
   have h1:=DK.add n t rs;have h2:=o.sums whole DK;have G:=Aw o.fL;have:whole [(n,t)]=t:=by simp[whole]
   omega
  have l:rW keep (0,c+w,bS rs n t,kM (bS rs n t)):=Tp a (by omega) d;have q:=aBZ o.k1 (by omega) h o.nd (by omega) n t (by omega) a N o.fL (by have:=o.hL;omega) d;refine⟨[],_,⟨o.k1,g _ (λq=>by omega),by simp,by simp,by simp,Fe o.k1 _ cX o.fL l,λF j=>?_,⟨0,by simp,λ_=>rfl,?_⟩,i,hr,k⟩,q⟩
  ·have e:=UM (keep:=keep) (λx=>F x.2.2.1) (λx y=>j.app _ _) L.length (x:=(0,c+w,bS rs n t,kM (bS rs n t))) o.fL.nd;show F []+((kO keep L.length L _).map λx=>F x.2.2.1).sum=_;rw[e,j.nil,j.app,<-o.sums F j];show 0+(lW F L+F (bS rs n t))=_;rw[j.add];omega
  ·have e:=Ud (keep:=keep) (L:=L) (0,c+w,bS rs n t,kM (bS rs n t)) o.fL.nd;simp only at e;omega
theorem aoE{P:a9}(o:eY keep rs L row P){x:Rg}(g:rW keep x)(U:keep<=5)(hr:P+x.2.1<=400)(hw:whole row+whole x.2.2.1<=1000000000)(many tk:a8)(h:Z[p]?=aq (aT keep many tk rs L)) :
  ∃z,eY keep rs z (row++x.2.2.1) (P+x.2.1)/\CC [.aH p,bX x.2.2.2,.int x.1] Z=aE (.cZ) (Z.set p (aT keep many tk rs z)):=by
 obtain⟨c,B,N,a⟩:=o.qC;have q:=ad3 o.k1 (by omega) h (by have:=o.hL;omega) o.fL g;refine⟨_,⟨o.k1,.inl U,o.nd,o.pos,o.rl,Fe o.k1 _ cX o.fL g,λF j=>?_,⟨c,B,N,?_⟩,o.tn.app g.gd.tn,hr,by rw[uQ];exact hw⟩,q⟩
 ·have e:=UM (keep:=keep) (λx=>F x.2.2.1) (λx y=>j.app _ _) L.length (x:=x) o.fL.nd;show F rs+((kO keep L.length L _).map λx=>F x.2.2.1).sum=_;rw[e,j.app,<-o.sums F j];show F rs+(lW F L+F x.2.2.1)=_;omega
 ·have e:=Ud (keep:=keep) (L:=L) x o.fL.nd;omega
theorem ad2{many tk:a8}(h:Z[p]?=aq (aT keep many tk rs L))(t:a8)(hm:many+t<=1000000000):QY [.aH p,.int t] Z=aE (.cZ) Z:=by
 have l:(dW keep many tk rs L).lookup ("many" : bh)=aq (.val (.int many)):=rfl;have j:¬1000000000<many+t:=by omega
 show trim Z (eX (Kw [aD p,aA t] Z))=_;simp[Kw,h,l,j]
theorem Uj{keep:a9}{many j tk:a8}{rs:ar Rn}{L:ar Rg}:putD "many" (.val (.int j)) (dW keep many tk rs L)=dW keep j tk rs L:=rfl
theorem Ug{keep:a9}{many tk SD:a8}{rs:ar Rn}{L:ar Rg}:putD "taken" (.val (.int SD)) (dW keep many tk rs L)=dW keep many SD rs L:=rfl
theorem aCX(a:kC Z p keep rs row L)(n t:a8)(f:1<=t)(hr:row.length<400)(g:keep<=5\/row.length<60)(hw:whole row+t<=1000000000)(i:2<=p) :
  ∃j z,kC (Z.set p (aT keep (whole (row++[(n,t)])) (row++[(n,t)]).length j z)) p keep j (row++[(n,t)]) z/\FR [.aH p,.int n,.int t] Z=aE (.cZ) (Z.set p (aT keep (whole (row++[(n,t)])) (row++[(n,t)]).length j z)):=by
 obtain⟨j,z,d,q⟩:=Vm a.o n t f 1 (qS 1) (by omega) (by omega) hw _ _ a.h;have N:=a.lt;have k:whole (row++[(n,t)])=whole row+t:=by rw[uQ];simp[whole]
 have l:(((row++[(n,t)]).length:a9):a8)=(row.length:a8)+1:=by simp
 refine⟨j,z,⟨fN N,by simpa using d,by rw[fF (by omega)];exact a.u,by rw[fF (by omega)];exact a.b⟩,?_⟩;rw[k,l];have c:=ad2 a.h t hw;have h2:(Z.set p (aT keep (whole row) row.length j z))[p]?=aq (aT keep (whole row) row.length j z):=fN N;have U:(Z.set p (aT keep (whole row+t) row.length j z))[p]?=aq (aT keep (whole row+t) row.length j z):=fN N;have B:¬t<1:=by omega
 show trim Z (eX (XD [aD p,aA n,aA t] Z))=_;unfold XD;rw[bV (Y1:=[aD p,aA n,aA t]) (Z':=Z) (by simp[B])];rw[bV (yZ (a.call (by rfl) (by rfl) (as:=[.int t]) (das:=[]) (by simp) (by rfl) (by simpa using c)))];rw[bV (yZ (a.call (by rfl) (by rfl) (as:=[.int n,.int t]) (das:=[]) (by simp) (by rfl) (by simpa using q)))];have e:(dW keep (whole row) row.length j z).lookup ("many" : bh)=aq (.val (.int (whole row))):=rfl;rw[bV (CY (b:=.int (whole row+t)) rfl h2 (by simp) (by simp[h2,e]))];rw[Uj,qT];have lt:(dW keep (whole row+t) row.length j z).lookup ("taken" : bh)=aq (.val (.int row.length)):=rfl;rw[CY (b:=.int (row.length+1)) rfl U (by simp) (by simp[U,lt])];rw[Ug,qT];simp only[AM];exact oQ (by simp)
end
theorem VQ(Z:aG)(c:Cell):(Z++[c])[Z.length]?=aq c:=by simp
theorem SX(Z:aG)(c d:Cell):(Z++[c]).set Z.length d=Z++[d]:=by simp
theorem aa0{Z:aG}{keep:a9}{f:bh}{fs:ar (bh×Fd)}(hl:fs.length<1000):(xZ ["Gaps"] 0 f wF) [aD Z.length,aA keep] (Z++[.ins "Gaps" fs])=eB [aD Z.length,aA keep] (Z++[.ins "Gaps" (putD f (.bB []) fs)]):=by
 have j:DD ["Gaps"] 0 [aD Z.length,aA keep] (Z++[.ins "Gaps" fs])=aq (Z.length,("Gaps" : bh),fs):=by
  unfold DD;simp
 have q:wF [aD Z.length,aA keep] (Z++[.ins "Gaps" fs])=aE (.aH (Z++[Cell.ins "Gaps" fs]).length) ((Z++[.ins "Gaps" fs])++[.bB []]):=by simp
 unfold xZ;rw[j];simp only[q,VQ,Fd.GU];rw[bb ⟨rfl,rfl,hl,by simp[tI,fO]⟩,SX]
theorem aB9(Z:aG)(keep:a9):wQ "Gaps" 2 xJ [.int keep] Z=aE (.aH Z.length) (Z++[aT keep 0 0 [] []]):=by
 have base:RC [.aH Z.length,.int keep] (Z++[.ins "Gaps" []])=aE (.cZ) (Z++[.ins "Gaps" [("keep",.val (.int keep)),("many",.val (.int 0)),("taken",.val (.int 0))]]):=by
  show trim _ (eX (XF [aD Z.length,aA keep] (Z++[.ins "Gaps" []])))=_;unfold XF;rw[bV (CY (b:=.int keep) (by rfl) (VQ _ _) (by simp) (by simp)),SX];rw[bV (CY (b:=.int 0) (by rfl) (VQ _ _) (by exact(show(1:a9)<1000 by decide)) (by simp)),SX];rw[CY (b:=.int 0) (by rfl) (VQ _ _) (by exact(show(2:a9)<1000 by decide)) (by simp),SX];simp only[AM];rw[oQ (by simp)];rfl
 have e:xJ [.aH Z.length,.int keep] (Z++[.ins "Gaps" []])=aE (.cZ) (Z++[aT keep 0 0 [] []]):=by
  show trim _ (eX (XI [aD Z.length,aA keep] (Z++[.ins "Gaps" []])))=_;unfold XI;rw[bV (yZ (a:=.cZ) (Z':=Z++[.ins "Gaps" [("keep",.val (.int keep)),("many",.val (.int 0)),("taken",.val (.int 0))]]) (by simp[cE,base]))];rw[bV (aa0 (by simp))];rw[aa0 (by exact(show(4:a9)<1000 by decide))];simp only[AM];rw[oQ (by simp)];rfl
 unfold wQ;rw[bb (by rfl)];rw[e]
abbrev rQ(x:Rg):A:=.tup [.int x.1,bX x.2.2.2]
noncomputable def uY(L:ar Rg):ar Rn:=(L.map λx=>x.2.2.1).flatten
theorem qX.rows{F:ar Rn->a8}(h:qX F):∀L:ar Rg,F (uY L)=lW F L
 |[]=>by simp[uY,lW,h.nil]
 |x::L=>by
  have:=h.rows L;have e:uY (x::L)=x.2.2.1++uY L:=by simp[uY]
  rw[e,h.app,this];simp[lW]
theorem Sk{keep:a9}:∀l:ar Rg,(∀x∈l,rW keep x)->0<=lW whole l
 |[],_=>by simp[lW]
 |x::l,h=>by
  have:=Sk l λy j=>h y (by simp[j]);have g:=h x (by simp);have h1:=g.nn;rw[g.gd.sz]at h1;simp only[lW,cP,mZ]at *;omega
section
variable{p p2 keep:a9}{many tk:a8}
theorem yY{Z:aG}{rs:ar Rn}{L:ar Rg}(h:Z[p]?=aq (aT keep many tk rs L)){f:bh}{v:A}{i:a9}{Y:Ev}(j:(Y[i]?).join=(aD p))(hl:(dW keep many tk rs L).lookup f=aq (.val v)):eR ["Gaps"] f (dR i) Y Z=aE v Z:=by
 unfold eR;rw[dF (aU j)];simp only[EF,h,hl];simp
theorem Xe(k:keep<=5)(U N B z j:ax A)(ok:aG->Prop)(aJ:∀Z',ok Z'):∀(xs:ar Rg) (Z:aG) (rs row:ar Rn) (L:ar Rg) (P:a9) (b a:ax A),eY keep rs L row P->(∀x∈xs,rW keep x)->P+nI xs<=400->whole row+lW whole xs<=1000000000->Z[p]?=aq (aT keep many tk rs L) ->
  ∃c g i,eY keep rs c (row++uY xs) (P+nI xs)/\eZ ok (iM 2 (dH (gN 4) (dH (gN 5) jA))) PL (xs.map rQ) [aD p,U,N,B,b,a,z,j] Z=eB [aD p,U,N,B,g,i,z,j] (Z.set p (aT keep many tk rs c))
 |[],Z,rs,row,L,P,b,a,o,_,_,_,h=>⟨L,b,a,by simpa[uY,nI]using o,by rw[uI,EI (aJ _),SW h]⟩
 |x::xs,Z,rs,row,L,P,b,a,o,e,w,v,h=>by
  have u:nI (x::xs)=x.2.1+nI xs:=by simp[nI]
  have C:lW whole (x::xs)=whole x.2.2.1+lW whole xs:=by simp[lW]
  have s:uY (x::xs)=x.2.2.1++uY xs:=by simp[uY]
  have hn:=Sk xs λy d=>e y (by simp[d]);have r:p<Z.length:=(cY.mp h).1;obtain⟨f,m,l⟩:=aoE o (e x (by simp)) k (by omega) (by omega) many tk h;obtain⟨c,g,i,n,q⟩:=Xe k U N B z j ok aJ xs (Z.set p (aT keep many tk rs f)) rs (row++x.2.2.1) f (P+x.2.1) (aA x.1) (aq (bX x.2.2.2)) m (λy d=>e y (by simp[d])) (by omega) (by rw[uQ];omega) (fN r);refine⟨c,g,i,by rw[s,u,<-jX,<-XZ];exact n,?_⟩;have t:PL [aD p,U,N,B,aA x.1,aq (bX x.2.2.2),z,j] Z=eB [aD p,U,N,B,aA x.1,aq (bX x.2.2.2),z,j] (Z.set p (aT keep many tk rs f)):=by
   unfold PL;exact yZ (rK h rfl rfl (as:=[bX x.2.2.2,.int x.1]) (das:=[]) (bD (aU rfl) (bD (aU rfl) cD)) rfl (by simpa using l))
  rw[cP,rP (aJ _) (Y0:=[aD p,U,N,B,aA x.1,aq (bX x.2.2.2),z,j]) (Z0:=Z) (by simp) t,q,qT]
theorem Rw(s:keep<=5)(a U N B j:ax A)(ok:aG->Prop)(aJ:∀Z',ok Z'):∀(xs:ar Rn) (W:a9) (Z:aG) (rs row:ar Rn) (L:ar Rg) (P:a9) (d c:ax A),eY keep rs L row P->(∀r∈xs,1<=r.2)->xs.length<=W->(xs=[]->W=0)->P+W<=400->whole row+whole xs<=1000000000->Z[p]?=aq (aT keep many tk rs L) ->
  ∃e f l m,eY keep e f (row++xs) (P+W)/\eZ ok (iM 2 (dH (gN 6) (dH (gN 7) jA))) PK (aN xs) [aD p,a,U,N,B,j,d,c] Z=eB [aD p,a,U,N,B,j,l,m] (Z.set p (aT keep many tk e f))
 |[],W,Z,rs,row,L,P,d,c,o,_,_,u,_,_,h=>⟨rs,L,d,c,by rw[u rfl];simpa using o,by show eZ ok _ _ [] _ Z=_;rw[EI (aJ _),SW h]⟩
 |r::xs,W,Z,rs,row,L,P,d,c,o,g,hl,u,T,S,h=>by
  have F:p<Z.length:=(cY.mp h).1;have V:whole (r::xs)=r.2+whole xs:=by simp[whole]
  have i:whole [(r.1,r.2)]=r.2:=by simp[whole]
  have hn:0<=whole xs:=(ED (R:=xs) λq E=>g q (by simp[E])).gf.s0;obtain⟨w,b,H,M,K,I⟩:∃w b,1<=w/\w+b=W/\xs.length<=b/\(xs=[]->b=0):=by
   simp only[fT]at hl;cases xs with
   |nil=>exact⟨W,0,by omega,by omega,by simp,λ_=>rfl⟩
   |cons y Q=>exact⟨1,W-1,by omega,by omega,by omega,λz=>by cases z⟩
  obtain⟨n,k,x,v⟩:=Vm o r.1 r.2 (g r (by simp)) w H (by omega) (.inl s) (by omega) many tk h;obtain⟨e,f,l,m,C,q⟩:=Rw s a U N B j ok aJ xs b (Z.set p (aT keep many tk n k)) n (row++[(r.1,r.2)]) k (P+w) (aA r.1) (aA r.2) x (λy D=>g y (by simp[D])) K I (by omega) (by rw[uQ,i];omega) (fN F);refine⟨e,f,l,m,?_,?_⟩
  ·have G:row++r::xs=(row++[(r.1,r.2)])++xs:=by simp
   rw[G,<-M,<-XZ];exact C
  ·have t:PK [aD p,a,U,N,B,j,aA r.1,aA r.2] Z=eB [aD p,a,U,N,B,j,aA r.1,aA r.2] (Z.set p (aT keep many tk n k)):=by
    unfold PK;exact yZ (rK h rfl rfl (as:=[.int r.1,.int r.2]) (das:=[]) (bD (aU rfl) (bD (aU rfl) cD)) rfl (by simpa using v))
   show eZ ok _ _ (jV r::aN xs) _ Z=_;rw[rP (aJ _) (Y0:=[aD p,a,U,N,B,j,aA r.1,aA r.2]) (Z0:=Z) (by simp[jV]) t,q,qT]
theorem aBY{Z:aG}{rs row nH jJ:ar Rn}{L L2:ar Rg}{P m:a9}{l k:a8}(n:keep<=5)(o:eY keep rs L row P)(j:eY keep nH L2 jJ m)(C:P+m<=400)(A:whole row+whole jJ<=1000000000)(h:Z[p]?=aq (aT keep many tk rs L))(h2:Z[p2]?=aq (aT keep l k nH L2)) :
  ∃U e,eY keep U e (row++jJ) (P+m)/\YU [.aH p,.aH p2] Z=aE (.cZ) (Z.set p (aT keep many tk U e)):=by
 have y:p<Z.length:=(cY.mp h).1;obtain⟨c,w,x,I⟩:=j.qC;have M:=j.sums whole DK;have hn:0<=whole nH:=(ED j.pos).gf.s0;have K:=Aw j.fL;obtain⟨N,g,f,v,s⟩:=Xe (p:=p) (many:=many) (tk:=tk) n (aD p2) (aq (.lst (L2.map rQ))) (aq (.lst (aN nH))) av av (srcOf (.lst (L2.map rQ)) (L2.map rQ)).ok (λ_=>rfl) L2 Z rs row L P av av o j.fL.ok (by omega) (by omega) h;obtain⟨U,e,u,t,q,r⟩:=Rw (p:=p) (many:=many) (tk:=tk) n (aD p2) (aq (.lst (L2.map rQ))) (aq (.lst (aN nH))) g f (srcOf (.lst (aN nH)) (aN nH)).ok (λ_=>rfl) nH c (Z.set p (aT keep many tk rs N)) rs (row++uY L2) N (P+nI L2) av av v j.pos w x (by omega) (by rw[uQ,DK.rows];omega) (fN y);refine⟨U,e,⟨q.k1,q.kb.imp id λ⟨a,b,c⟩=>⟨a,b,by omega⟩,q.nd,q.pos,q.rl,q.fL,λF B=>?_,?_,o.tn.app j.tn,C,by rw[uQ];exact A⟩,?_⟩
 ·rw[q.sums F B,B.app,B.app,B.app,B.rows,<-j.sums F B];omega
 ·obtain⟨d,H,d0,Q⟩:=q.qC;exact⟨d,H,d0,by omega⟩
 ·show trim Z (eX (Ld [aD p,aD p2,av,av,av,av,av,av] Z))=_;have G:jH ["Gaps"] 1 "laid" (λz=>lK aw (z.map mT)) [aD p,aD p2,av,av,av,av,av,av] Z=aE (.lst (L2.map rQ)) Z:=by
   unfold jH vA;simp only[QE,aeD,Option.join_some,h2];show lK aw ((fA L2).map mT) Z=_;simp[fA,mT,kA,zP]
  have E:jH ["Gaps"] 1 "newest" (λz=>lK aw (z.map mT)) [aD p,aD p2,cL (L2.map rQ),av,av,av,av,av] Z=aE (.lst (aN nH)) Z:=by
   unfold jH vA;simp only[QE,aeD,Option.join_some,h2];show lK aw ((fB nH).map mT) Z=_;rw[Xl];rfl
  unfold Ld;rw[bV (lO (i:=2) G)];simp only[List.set];rw[bV (lO (i:=3) E)];simp only[List.set];have D:jR (fH cN) (iM 2 (dH (gN 4) (dH (gN 5) jA))) PL [aD p,aD p2,cL (L2.map rQ),cL (aN nH),av,av,av,av] Z=eB [aD p,aD p2,cL (L2.map rQ),cL (aN nH),g,f,av,av] (Z.set p (aT keep many tk rs N)):=by
   rw[uA (S:=srcOf (.lst (L2.map rQ)) (L2.map rQ)) (Z':=Z) (by unfold fH;rw[dF (aU (a:=.lst (L2.map rQ)) rfl)];simp)];exact s
  have f2:jR (fH cA) (iM 2 (dH (gN 6) (dH (gN 7) jA))) PK [aD p,aD p2,cL (L2.map rQ),cL (aN nH),g,f,av,av] (Z.set p (aT keep many tk rs N))=eB [aD p,aD p2,cL (L2.map rQ),cL (aN nH),g,f,u,t] ((Z.set p (aT keep many tk rs N)).set p (aT keep many tk U e)):=by
   rw[uA (S:=srcOf (.lst (aN nH)) (aN nH)) (Z':=Z.set p (aT keep many tk rs N)) (by unfold fH;rw[dF (aU (a:=.lst (aN nH)) rfl)];simp)];exact r
  rw[bV D,f2,qT];simp only[AM];exact oQ (by simp)
end
theorem aa4(Z:aG):∀(fuel n f:a9),n<fuel->∃b:a9,n<2 ^ b/\mG XA Kn fuel [aA n,aA f] Z=eB [aA 0,aA ((f+b:a9):a8)] Z
 |0,n,f,h=>by omega
 |fuel+1,0,f,_=>⟨0,by simp,by rw[OH (Z1:=Z) (by simp[XA])];simp⟩
 |fuel+1,n+1,f,h=>by
  obtain⟨b,hb,q⟩:=aa4 Z fuel ((n+1)/2) (f+1) (by omega);refine⟨b+1,by rw[Nat.pow_succ];omega,?_⟩;have B:rB ((n:a8)+1) 2:=⟨by decide,by decide⟩;have N:(0:a8)<((n+1:a9):a8):=by omega
  have z:(((n+1:a9):a8)/2)=(((n+1)/2:a9):a8):=by omega
  have j:(f:a8)+1=((f+1:a9):a8):=by omega
  rw[BK (Z1:=Z) (Z2:=Z) (Y1:=[aA (((n+1)/2:a9):a8),aA ((f+1:a9):a8)]) (by simp only[XA];exact lJ (dG (a:=.int ((n+1:a9):a8)) (aU rfl) (b:=.int 0) (by simp) (by simp))) (by
   unfold Kn;rw[bV (lO (i:=1) (dG (aU rfl) (b:=.int 1) (by simp) (c:=.int ((f+1:a9):a8)) (by rw[<-j];simp)))];rw[lO (i:=0) (dG (a:=.int ((n+1:a9):a8)) (aU rfl) (b:=.int 2) (by simp) (c:=.int (((n+1)/2:a9):a8)) (by rw[<-z];simp[B]))];rfl),q]
  rw[show f+1+b=f+(b+1)by omega]
theorem aCG(n:a9)(hn:n<1000000)(Z:aG):∃b:a9,n<2 ^ b/\YS [.int n] Z=aE (.int b) Z:=by
 obtain⟨b,hb,q⟩:=aa4 Z 1000000 n 0 hn;refine⟨b,hb,?_⟩;show trim Z (eX (Ko [aA n,av] Z))=_;unfold Ko;rw[bV (Y1:=[aA n,aA 0]) (Z':=Z) (by simp)];simp only[zG,Int.natCast_zero]at q;rw[bV (Y1:=[aA 0,aA b]) (Z':=Z) q];simp
theorem WM{i j:a8}(q:0<=j)(h1:j<=1000000000):lT i j/\lT j i:=by
 have a : -(2 ^ 64)<j:=by omega
 have b:j<2 ^ 64:=by omega
 exact⟨.inr ⟨a,b⟩,.inl ⟨a,b⟩⟩
theorem Jt{i j:a8}(q:0<j)(h1:j<=1001):rB i j:=⟨q,by omega⟩
theorem TZ{i j:a8}(h:lT i j)(Z:aG):mE (.int i) (.int j) Z=aE (.int (i*j)) Z:=by
 simp only[mE,gI];simp[h]
theorem Jl{i j:a8}(h:rB i j)(Z:aG):jC (.int i) (.int j) Z=aE (.int (i/j)) Z:=by
 simp only[jC,gI];simp[h]
theorem MC{Z Z' Z'':aG}{Y:Ev}{f g:Ev->Mo bt}(h:f Y Z=aE aw Z')(h2:g Y Z'=aE aw Z''):mP f g Y Z=aE aw Z'':=by rw[orF h,h2]
theorem ab0{Z Z1 Z2 j:aG}{Y:Ev}{g g':A->A->Mo A}{z f2 q:Ev->Mo A}{x y u:A}(h1:z Y Z=aE x Z1)(h2:f2 Y Z1=aE y Z2)(U:g x y Z2=aE (.bl a5) Z2)(N:q Y Z2=aE u j)(B:g' y u j=aE (.bl a5) j):CN g g' z f2 q Y Z=aE (.bl a5) j:=by
 unfold CN;rw[dF h1,dF h2,dF U];simp[N,B]
section
variable{Z:aG}{p p2 keep:a9}{rs row nH jJ:ar Rn}{L L2:ar Rg}
theorem aCZ(a:kC Z p keep rs row L)(d:kC Z p2 keep nH jJ L2)(u:keep<=5)(v:row.length+jJ.length<=400)(c:whole row+whole jJ<=1000000000) :
  ∃j q,eY keep j q (row++jJ) (row++jJ).length/\QZ [.aH p,.aH p2] Z=aE (.cZ) (Z.set p (aT keep (whole (row++jJ)) (row++jJ).length j q)):=by
 have U:=a.lt;have h:=a.h;have z:=d.h;obtain⟨j,q,n,m⟩:=aBY u a.o d.o v c h z;have C:whole (row++jJ)=whole row+whole jJ:=uQ ..;have D:(((row++jJ).length:a9):a8)=(row.length:a8)+jJ.length:=by simp
 refine⟨j,q,by simpa using n,?_⟩;rw[C,D];have s:=ad2 h (whole jJ) c;have l:RD [.aH p,.aH p2] Z=aE (.bl a5) Z:=by
  show trim Z (eX (Le [aD p,aD p2] Z))=_;simp[Le,z]
 have k1:=yY (f := "keep") (Y:=[aD p,aD p2]) (i:=1) z rfl rfl;have t:=yY (f := "keep") (Y:=[aD p,aD p2]) (i:=0) h rfl rfl;have r:=yY (f := "many") (Y:=[aD p,aD p2]) (i:=1) z rfl rfl;have k:(mP (mQ (cC (bQ "same_kind" [("Gaps",bO 2 [] RD)] aK (aC aR a0)))) (cC (aB qN (eR ["Gaps"] "keep" aR) (eR ["Gaps"] "keep" aK)))) [aD p,aD p2] Z=aE aw Z :=
  MC (Z':=Z) (yE (b:=a5) (lJ (rK h rfl rfl (as:=[.aH p2]) (das:=[]) (by simp) rfl (by simpa using l)))) (lJ (dG k1 t (aw5 (by simp[eE]))))
 have N:(Z.set p (aT keep (whole row) row.length j q))[p]?=aq (aT keep (whole row) row.length j q):=fN U;have B:(Z.set p (aT keep (whole row+whole jJ) row.length j q))[p]?=aq (aT keep (whole row+whole jJ) row.length j q):=fN U;have y:=yY (f := "many") (Y:=[aD p,aD p2]) (i:=0) N rfl rfl;have g:p2=p->whole jJ=whole row/\(jJ.length:a8)=row.length:=λe=>by
  subst e;rw[h]at z;simp only[lD,Cell.ins.injEq,qW,PY,Fd.val.injEq,A.int.injEq,true_and,and_true]at z;exact⟨z.1.symm,z.2.1.symm⟩
 have f2:eR ["Gaps"] "many" aR [aD p,aD p2] (Z.set p (aT keep (whole row) row.length j q))=aE (.int (whole jJ)) (Z.set p (aT keep (whole row) row.length j q)):=by
  by_cases e:p2=p
  ·have:=yY (f := "many") (Y:=[aD p,aD p2]) (i:=1) N (by rw[e];rfl) rfl;rw[this,(g e).1]
  ·exact yY (f := "many") (i:=1) (by rw[fF (dM e)];exact z) rfl rfl
 have x:=yY (f := "taken") (Y:=[aD p,aD p2]) (i:=0) B rfl rfl;have w:eR ["Gaps"] "taken" aR [aD p,aD p2] (Z.set p (aT keep (whole row+whole jJ) row.length j q))=aE (.int jJ.length) (Z.set p (aT keep (whole row+whole jJ) row.length j q)):=by
  by_cases e:p2=p
  ·have:=yY (f := "taken") (Y:=[aD p,aD p2]) (i:=1) B (by rw[e];rfl) rfl;rw[this,(g e).2]
  ·exact yY (f := "taken") (i:=1) (by rw[fF (dM e)];exact z) rfl rfl
 show trim Z (eX (Ky [aD p,aD p2] Z))=_;unfold Ky;rw[bV (sO k)];rw[bV (yZ (rK h (by rfl) (by rfl) (as:=[.int (whole jJ)]) (das:=[]) (bD r cD) (by rfl) (by simpa using s)))];rw[bV (yZ (rK h (by rfl) (by rfl) (as:=[.aH p2]) (das:=[]) (by simp) (by rfl) (by simpa using m)))];rw[bV (CY (b:=.int (whole row+whole jJ)) (by rfl) N (by simp) (dG y f2 (by simp))),Uj,qT];rw[CY (b:=.int ((row.length:a8)+jJ.length)) (by rfl) B (by simp) (dG x w (by simp)),Ug,qT];simp only[AM];exact oQ (by simp)
end
abbrev Gp:=ar Rn×ar Rg×ar Rn
structure gY(Z:aG)(keep:a9)(G:ar Gp):Prop where
 n4:G.length=4
 pt:∀(i:a9) (g:Gp),G[i]?=aq g->kC Z (2+i) keep g.1 g.2.2 g.2.1
 rows:Z[6]?=aq (.lst (G.map λg => .lst (aN g.2.2)))
 qC:Z[7]?=aq (.lst (G.map λg => .int (g.2.2.length:a8)))
section
variable{Z Z':aG}{keep:a9}{G:ar Gp}
theorem gY.app(h:gY Z keep G)(j:aG):gY (Z++j) keep G:=⟨h.n4,λi g e=>(h.pt i g e).app j,IZ h.rows j,IZ h.qC j⟩
theorem gY.lt(h:gY Z keep G):8<=Z.length:=(cY.mp h.qC).1
theorem gY.u(h:gY Z keep G):Z[0]?=aq pM:=by
 have j:=h.n4;exact(h.pt 0 (G[0]'(by omega)) (by simp[j])).u
theorem gY.b(h:gY Z keep G):Z[1]?=aq pN:=by
 have j:=h.n4;exact(h.pt 0 (G[0]'(by omega)) (by simp[j])).b
theorem gY.set(h:gY Z keep G){i:a9}(hi:i<4){g:Gp}(o:eY keep g.1 g.2.1 g.2.2 g.2.2.length) :
  gY (((Z.set (2+i) (aT keep (whole g.2.2) g.2.2.length g.1 g.2.1)).set 6 (.lst ((G.set i g).map λg => .lst (aN g.2.2)))).set 7 (.lst ((G.set i g).map λg => .int (g.2.2.length:a8)))) keep (G.set i g):=by
 have hl:=h.lt;have N:=h.n4;refine⟨by simpa using N,λj q z=>?_,?_,?_⟩
 ·have c:j<4:=by
   have:=(cY.mp z).1;simp at this;omega
  have B:∀k,k≠6->k≠7->k≠2+i->(((Z.set (2+i) (aT keep (whole g.2.2) g.2.2.length g.1 g.2.1)).set 6 (.lst ((G.set i g).map λg => .lst (aN g.2.2)))).set 7 (.lst ((G.set i g).map λg => .int (g.2.2.length:a8))))[k]?=Z[k]?:=λk h1 h2 U=>by
   rw[fF (dM h2),fF (dM h1),fF (dM U)]
  by_cases e:j=i
  ·subst e;rw[fN (by omega)]at z;cases z;refine⟨?_,o,by rw[B 0 (by omega) (by omega) (by omega)];exact h.u,by rw[B 1 (by omega) (by omega) (by omega)];exact h.b⟩;rw[fF (by omega),fF (by omega),fN (by omega)]
  ·rw[fF (dM e)]at z;have a:=h.pt j q z;exact⟨by rw[B (2+j) (by omega) (by omega) (by omega)];exact a.h,a.o,by rw[B 0 (by omega) (by omega) (by omega)];exact a.u,by rw[B 1 (by omega) (by omega) (by omega)];exact a.b⟩
 ·rw[fF (by omega),fN (by simp;omega)]
 ·rw[fN (by simp;omega)]
theorem gY.of(h:gY Z' keep G)(e:∀k,k<8->Z[k]?=Z'[k]?):gY Z keep G:=by
 have q:=h.n4;refine⟨q,λi g j=>?_,by rw[e 6 (by decide)];exact h.rows,by rw[e 7 (by decide)];exact h.qC⟩;have hi:i<4:=by
  have:=(cY.mp j).1;omega
 have a:=h.pt i g j;exact⟨by rw[e (2+i) (by omega)];exact a.h,a.o,by rw[e 0 (by decide)];exact a.u,by rw[e 1 (by decide)];exact a.b⟩
theorem gY.trim(h:gY Z' keep G)(hl:8<=Z.length):∃Z'',V2.trim Z (aq (.ok (.bl a5),Z'))=aE (.bl a5) Z''/\gY Z'' keep G:=by
 simp only[V2.trim];split
 ·rename_i j;refine⟨Z,rfl,h.of λk q=>?_⟩;rw[<-j.1,aeB (by omega)]
 ·exact⟨Z',rfl,h⟩
noncomputable abbrev HC(w l hd off:a8)(n:a9)(U:A):A:=.lst [.int w,.int l,.int hd,.int off,.aH n,U]
theorem Ts{w l hd off:a8}{n:a9}{U:A}{N:ar a8}(g:Z[n]?=aq (.lst (N.map A.int)))(z:eE 8 U=a5):res Z 6 (HC w l hd off n U)=aq (.lst [.int w,.int l,.int hd,.int off,.lst (N.map A.int),U]):=by
 have j:eE 8 (HC w l hd off n U)=aw:=by simp[HC,eE]
 have q:res Z 5 (.aH n)=aq (.lst (N.map A.int)):=by rw[akV g,Wl _ (by simp)];rfl
 rw[akU j];have hi:∀i:a8,res Z 5 (.int i)=(aA i):=λi=>CV (by simp[eE]);simp[tS,hi,q,CV (n:=5) (Z:=Z) z]
variable{p:a9}{rs row:ar Rn}{L:ar Rg}
theorem aeW(a:kC Z p keep rs row L)(x:a8):FP [.aH p,.int x] Z=aE (HC (whole row) row.length (fK (bR rs L)).length (gK L) Z.length (pI x a5 (All rs L))) (Z++[.lst ((iP rs L).map A.int)]):=by
 have j:=a.app [.lst ((iP rs L).map A.int)];have q:=aeV a;show trim Z (eX (Kl [aD p,aA x] Z))=_;unfold Kl bW;have z:(6:a9)<=bg:=by decide
 have e:bQ "length" [("Gaps",bO 1 [] zR)] aK a0 [aD p,aA x] Z=aE (.int (whole row)) Z:=a.call rfl rfl (as:=[]) (das:=[]) cD rfl (by simpa using Mn a.h);have d:bQ "puts" [("Gaps",bO 1 [] BZ)] aK a0 [aD p,aA x] Z=aE (.int row.length) Z:=a.call rfl rfl (as:=[]) (das:=[]) cD rfl (by simpa using adY a.h);have c:bQ "held" [("Gaps",bO 1 [] zS)] aK a0 [aD p,aA x] Z=aE (.int (fK (bR rs L)).length) Z:=a.call rfl rfl (as:=[]) (das:=[]) cD rfl (by simpa using aeY a);have b:bQ "off" [("Gaps",bO 1 [] zT)] aK a0 [aD p,aA x] Z=aE (.int (gK L)) Z:=a.call rfl rfl (as:=[]) (das:=[]) cD rfl (by simpa using aeU a);have U:bQ "numbers" [("Gaps",bO 1 [] CA)] aK a0 [aD p,aA x] Z=aE (.aH Z.length) (Z++[.lst ((iP rs L).map A.int)]):=a.call rfl rfl (as:=[]) (das:=[]) cD rfl (by simpa using q);have N:bQ "upto" [("Gaps",bO 2 [] vW)] aK (aC aR a0) [aD p,aA x] (Z++[.lst ((iP rs L).map A.int)])=aE (pI x a5 (All rs L)) (Z++[.lst ((iP rs L).map A.int)]):=j.call rfl rfl (as:=[.int x]) (das:=[]) (bD (aU rfl) cD) rfl (by simpa using Pb j x);have B:=sW e (sW d (sW c (sW b (sW U (sW N (cD (Z:=Z++[.lst ((iP rs L).map A.int)])))))));rw[fQ (x:=HC (whole row) row.length (fK (bR rs L)).length (gK L) Z.length (pI x a5 (All rs L))) (Z':=Z++[.lst ((iP rs L).map A.int)]) (by
  unfold gS;rw[dF B];simp[z])]
 simp only[vB];simp[trim,Cl,fO]
end
section
variable{Z Z':aG}{keep:a9}{G:ar Gp}{Y:Ev}
theorem tU{f fi:Ev->Mo A}{k j:a9}{ds:ar A}{a:A}(z:f Y Z=aE (.aH k) Z)(B:Z[k]?=aq (.lst ds))(hi:fi Y Z=aE (.int (j:a8)) Z)(q:ds[j]?=aq a):aB aQ f fi Y Z=aE a Z:=by
 refine dG z hi ?_;have e:eO ds (j:a8)=aq a:=by rw[rS];exact q
 simp[yH B,e]
theorem AX{f fi:Ev->Mo A}{j:a9}{ds:ar A}{a:A}(z:f Y Z=aE (.lst ds) Z)(hi:fi Y Z=aE (.int (j:a8)) Z)(q:ds[j]?=aq a):aB aQ f fi Y Z=aE a Z:=by
 refine dG z hi ?_;have e:eO ds (j:a8)=aq a:=by rw[rS];exact q
 simp[e]
theorem SN{fe fi:Ev->Mo A}{i k j:a9}{ds:ar A}{a:A}(h:(Y[i]?).join=(aD k))(z:Z[k]?=aq (.lst ds))(hi:fi Y Z=aE (.int (j:a8)) Z)(q:j<ds.length)(he:fe Y Z=aE a Z):bP fe (yW (dR i) fi) Y Z=eB Y (Z.set k (.lst (ds.set j a))):=by
 have e:sN ds.length (j:a8)=aq j:=by unfold sN;simp[q]
 unfold bP;rw[fQ he];unfold yW;rw[fQ (aU h),fQ hi];simp only[setCell,z,e]
theorem kC.WO{p:a9}{rs row:ar Rn}{L:ar Rg}(a:kC Z p keep rs row L){m:bh}{F:ar A->Mo A}{n:a9}{as das:ar A}{fo:Ev->Mo A}{fs:Ev->Mo (ar A)}{v:A}(hl:(dW keep (whole row) row.length rs L).lookup m=av)(h0:fo Y Z=aE (.aH p) Z)(ha:fs Y Z=aE as Z)(hn:as.length+1+das.length=n)
  (q:F (.aH p::(as++das)) Z=aE v Z'):bQ m [("Gaps",bO n das F)] fo fs Y Z=aE v Z':=by
 unfold bQ;rw[dF h0];have j:List.lookup ("Gaps" : bh) [(("Gaps" : bh),bO n das F)]=aq (bO n das F):=by simp[List.lookup]
 simp only[VV,a.h,j,hl];rw[dF ha];simp only[bO];rw[bb (by simp only[fT];omega)];exact q
noncomputable abbrev eM:A:=.lst [.aH 2,.aH 3,.aH 4,.aH 5]
theorem AL{i:a9}(hi:i<4):[A.aH 2,.aH 3,.aH 4,.aH 5][i]?=(aD (2+i)):=by
 match i,hi with
 |0,_=>rfl
 |1,_=>rfl
 |2,_=>rfl
 |3,_=>rfl
theorem UL{fi:Ev->Mo A}{row:ar Rn}(h:fi Y Z=aE (.lst (aN row)) Z)(hl:row.length<=1000):aS pR (aC (mR aw 2 [] (fH fi) (iM 2 (dH (gN 0) (dH (gN 1) jA))) mM aR) a0) Y Z=aE (.int (whole row)) Z:=by
 have z:mR aw 2 [] (fH fi) (iM 2 (dH (gN 0) (dH (gN 1) jA))) mM aR Y Z=aE (.lst (row.map λq=>A.int q.2)) Z:=by
  refine LK (S:=srcOf (.lst (aN row)) (aN row)) row jV (λq=>A.int q.2) (λY=>∃u v,Y=[u,v]) (λa b e=>by simp[jV]at e;simp[e.2]) ?_ (λj=>rfl) ⟨av,av,rfl⟩ rfl (by omega) (λq _ Y ⟨u,v,e⟩ j=>by subst e;exact⟨[aA q.1,aA q.2],⟨_,_,rfl⟩,by simp[jV],by simp⟩) (λq _=>by simp only[Cl]);unfold fH;rw[dF h];simp
 refine zB (bD z cD) ?_;have e:row.map (λq=>A.int q.2)=(row.map (·.2)).map A.int:=by simp[zP]
 rw[e,aaR];rfl
theorem aeX(h:gY Z keep G)(hk:keep<=5){i j:a9}(hi:i<4)(E:j<4)(x:a8):∃Z' G',QW [eM,.aH 6,.aH 7,.int i,.int j,.int x] Z=aE (.bl a5) Z'/\gY Z' keep G':=by
 have h4:=h.n4;obtain⟨g,w⟩:∃g,G[i]?=aq g:=⟨G[i]'(by omega),dZ (by omega)⟩;obtain⟨q,p⟩:∃q,G[j]?=aq q:=⟨G[j]'(by omega),dZ (by omega)⟩;have ag:=h.pt i g w;have X:=h.pt j q p;have bZ:=h.lt;have NQ:=ag.o.GQ;have hql:=X.o.GQ;have Q:=aeW X x;show ∃Z' G',trim Z (eX (Km [aq eM,aD 6,aD 7,aA i,aA j,aA x,av,av] Z))=_/\_;unfold Km;generalize H:HC (whole q.2.2) q.2.2.length (fK (bR q.1 q.2.1)).length (gK q.2.1) Z.length (pI x a5 (All q.1 q.2.1))=k at Q;have e1:aS (cE 2 FP) (aC (aB aQ aK eL) (aC fD a0)) [aq eM,aD 6,aD 7,aA i,aA j,aA x,av,av] Z=aE k (Z++[.lst ((iP q.1 q.2.1).map A.int)]) :=
  oJ (bD (AX (aU (a:=eM) rfl) (aU (a:=.int j) rfl) (AL E)) (bD (aU (a:=.int x) rfl) cD)) rfl Q
 rw[bV (lO (i:=6) e1)];simp only[List.set];have h1:=h.app [.lst ((iP q.1 q.2.1).map A.int)];have S:(Z++[Cell.lst ((iP q.1 q.2.1).map A.int)])[Z.length]?=aq (.lst ((iP q.1 q.2.1).map A.int)):=by simp
 have vH:Z.length<(Z++[Cell.lst ((iP q.1 q.2.1).map A.int)]).length:=by simp
 generalize Fs:Z++[Cell.lst ((iP q.1 q.2.1).map A.int)]=B at h1 S vH;have L:(G.map λg=>A.lst (aN g.2.2))[i]?=aq (.lst (aN g.2.2)):=by simp[w]
 have K:(G.map λg=>A.lst (aN g.2.2))[j]?=aq (.lst (aN q.2.2)):=by simp[p]
 have P:∀(m:ax A),aB aQ aR cA [aq eM,aD 6,aD 7,aA i,aA j,aA x,aq k,m] B=aE (.lst (aN g.2.2)) B:=λm=>tU (aU (a:=.aH 6) rfl) h1.rows (aU (a:=.int i) rfl) L;have M:∀(m:ax A),aB aQ aR eL [aq eM,aD 6,aD 7,aA i,aA j,aA x,aq k,m] B=aE (.lst (aN q.2.2)) B:=λm=>tU (aU (a:=.aH 6) rfl) h1.rows (aU (a:=.int j) rfl) K;have t:aB cJ (aS pR (aC acU a0)) (aS pR (aC acT a0)) [aq eM,aD 6,aD 7,aA i,aA j,aA x,aq k,av] B=aE (.int (whole g.2.2+whole q.2.2)) B:=dG (UL (P av) (by omega)) (UL (M av) (by omega)) (by simp);rw[bV (lO (i:=7) t)];simp only[List.set];have l1:=uF (Z':=B) (g:=jB) (a:=.int g.2.2.length) (bD (P (aA (whole g.2.2+whole q.2.2))) cD) (by simp[aN]);have l2:=uF (Z':=B) (g:=jB) (a:=.int q.2.2.length) (bD (M (aA (whole g.2.2+whole q.2.2))) cD) (by simp[aN]);have s:cC (aB OE jP (cI 1000000000)) [aq eM,aD 6,aD 7,aA i,aA j,aA x,aq k,aA (whole g.2.2+whole q.2.2)] B=aE (decide (1000000000<=whole g.2.2+whole q.2.2)) B:=lJ (dG (aU rfl) (b:=.int 1000000000) (by simp) (by simp));have r:cC (aB vK (aB cJ (aS jB (aC (aB aQ aR cA) a0)) (aS jB (aC (aB aQ aR eL) a0))) (cI 400)) [aq eM,aD 6,aD 7,aA i,aA j,aA x,aq k,aA (whole g.2.2+whole q.2.2)] B=aE (decide ((400:a8)<(g.2.2.length:a8)+q.2.2.length)) B:=lJ (dG (dG l1 l2 (c:=.int ((g.2.2.length:a8)+q.2.2.length)) (by simp)) (b:=.int 400) (by simp) (by simp))
 by_cases hb:1000000000<=whole g.2.2+whole q.2.2\/(400:a8)<(g.2.2.length:a8)+q.2.2.length
 ·have t:(mP (cC (aB OE jP (cI 1000000000))) (cC (aB vK (aB cJ (aS jB (aC (aB aQ aR cA) a0)) (aS jB (aC (aB aQ aR eL) a0))) (cI 400)))) [aq eM,aD 6,aD 7,aA i,aA j,aA x,aq k,aA (whole g.2.2+whole q.2.2)] B=aE a5 B:=by
   unfold mP;rw[dF s]
   by_cases rN:1000000000<=whole g.2.2+whole q.2.2
   ·simp[rN]
   ·have gW:(400:a8)<(g.2.2.length:a8)+q.2.2.length:=hb.resolve_left rN;simp only[rN,IL,kB,gU];rw[r];simp[gW]
  rw[Bd (a:=.bl a5) (Y1:=[aq eM,aD 6,aD 7,aA i,aA j,aA x,aq k,aA (whole g.2.2+whole q.2.2)]) (Z':=B) (by
   unfold eW;rw[fQ t];simp)]
  simp only[vB];rw[<-Fs,xW (by simp only[Cl])];exact⟨Z,G,rfl,h⟩
 ·have rN:¬1000000000<=whole g.2.2+whole q.2.2:=λz=>hb (.inl z);have gW:¬(400:a8)<(g.2.2.length:a8)+q.2.2.length:=λz=>hb (.inr z);rw[bV (sO (MC (Z':=B) (Z'':=B) (by rw[s];simp[rN]) (by rw[r];simp[gW])))];have a1:=h1.pt i g w;have a2:=h1.pt j q p;obtain⟨d,e,o',qj⟩:=aCZ a1 a2 hk (by omega) (by omega);have ej:bQ "join" [("Gaps",bO 2 [] QZ)] (aB aQ aK cA) (aC (aB aQ aK eL) a0) [aq eM,aD 6,aD 7,aA i,aA j,aA x,aq k,aA (whole g.2.2+whole q.2.2)] B=aE (.cZ) (B.set (2+i) (aT keep (whole (g.2.2++q.2.2)) (g.2.2++q.2.2).length d e)) :=
   a1.WO rfl (AX (aU (a:=eM) rfl) (aU (a:=.int i) rfl) (AL hi)) (as:=[.aH (2+j)]) (das:=[]) (bD (AX (aU (a:=eM) rfl) (aU (a:=.int j) rfl) (AL E)) cD) rfl (by simpa using qj)
  rw[bV (yZ ej)];have l:=h1.set hi (g:=(d,e,g.2.2++q.2.2)) o';have aE5:=h1.lt;have v:(B.set (2+i) (aT keep (whole (g.2.2++q.2.2)) (g.2.2++q.2.2).length d e))[6]?=aq (.lst (G.map λg => .lst (aN g.2.2))):=by rw[fF (by omega)];exact h1.rows
  have T:(B.set (2+i) (aT keep (whole (g.2.2++q.2.2)) (g.2.2++q.2.2).length d e))[7]?=aq (.lst (G.map λg => .int (g.2.2.length:a8))):=by rw[fF (by omega)];exact h1.qC
  generalize NA:B.set (2+i) (aT keep (whole (g.2.2++q.2.2)) (g.2.2++q.2.2).length d e)=U at l v T;have n2:U[Z.length]?=aq (.lst ((iP q.1 q.2.1).map A.int)):=by rw[<-NA,fF (by omega)];exact S
  have Yw:U.length=B.length:=by rw[<-NA];simp
  have er:aB cJ (aB aQ aR cA) (aB aQ aR eL) [aq eM,aD 6,aD 7,aA i,aA j,aA x,aq k,aA (whole g.2.2+whole q.2.2)] U=aE (.lst (aN (g.2.2++q.2.2))) U :=
   dG (tU (aU (a:=.aH 6) rfl) v (aU (a:=.int i) rfl) L) (tU (aU (a:=.aH 6) rfl) v (aU (a:=.int j) rfl) K) (by
    have:g.2.2.length+q.2.2.length<=bg:=by rw[oS];omega
    simp[aN,this])
  rw[bV (SN (i:=1) (j:=i) rfl v (aU (a:=.int i) rfl) (by simp;omega) er)];have Jb:(G.map λg=>A.lst (aN g.2.2)).set i (.lst (aN (g.2.2++q.2.2)))=(G.set i (d,e,g.2.2++q.2.2)).map λg => .lst (aN g.2.2):=by rw[Mz]
  rw[Jb];have I:(U.set 6 (.lst ((G.set i (d,e,g.2.2++q.2.2)).map λg => .lst (aN g.2.2))))[7]?=aq (.lst (G.map λg => .int (g.2.2.length:a8))):=by rw[fF (by omega)];exact T
  have pg:(G.map λg=>A.int (g.2.2.length:a8))[i]?=(aA g.2.2.length):=by simp[w]
  have pq:(G.map λg=>A.int (g.2.2.length:a8))[j]?=(aA q.2.2.length):=by simp[p]
  have ep:aB cJ (aB aQ cN cA) (aB aQ cN eL) [aq eM,aD 6,aD 7,aA i,aA j,aA x,aq k,aA (whole g.2.2+whole q.2.2)] (U.set 6 (.lst ((G.set i (d,e,g.2.2++q.2.2)).map λg => .lst (aN g.2.2))))=aE (.int (((g.2.2++q.2.2).length:a9):a8)) (U.set 6 (.lst ((G.set i (d,e,g.2.2++q.2.2)).map λg => .lst (aN g.2.2)))) :=
   dG (tU (aU (a:=.aH 7) rfl) I (aU (a:=.int i) rfl) pg) (tU (aU (a:=.aH 7) rfl) I (aU (a:=.int j) rfl) pq) (by simp)
  rw[bV (SN (i:=2) (j:=i) rfl I (aU (a:=.int i) rfl) (by simp;omega) ep)];have Ja:(G.map λg=>A.int (g.2.2.length:a8)).set i (.int (((g.2.2++q.2.2).length:a9):a8))=(G.set i (d,e,g.2.2++q.2.2)).map λg => .int (g.2.2.length:a8):=by rw[Mz]
  rw[Ja];have n4:((U.set 6 (.lst ((G.set i (d,e,g.2.2++q.2.2)).map λg => .lst (aN g.2.2)))).set 7 (.lst ((G.set i (d,e,g.2.2++q.2.2)).map λg => .int (g.2.2.length:a8))))[Z.length]?=aq (.lst ((iP q.1 q.2.1).map A.int)):=by
   rw[fF (by omega),fF (by omega)];exact n2
  generalize (U.set 6 (.lst ((G.set i (d,e,g.2.2++q.2.2)).map λg => .lst (aN g.2.2)))).set 7 (.lst ((G.set i (d,e,g.2.2++q.2.2)).map λg => .int (g.2.2.length:a8)))=N at l n4;have V:(G.set i (d,e,g.2.2++q.2.2))[i]?=aq (d,e,g.2.2++q.2.2):=fN (by omega);have u:=l.pt i _ V;simp only at u;have ew:whole (g.2.2++q.2.2)=whole g.2.2+whole q.2.2:=uQ ..;have D:((G.set i (d,e,g.2.2++q.2.2)).map λg=>A.int (g.2.2.length:a8))[i]?=(aA (((g.2.2++q.2.2).length:a9):a8)):=by rw[jN,V];rfl
  have c1:bQ "length" [("Gaps",bO 1 [] zR)] (aB aQ aK cA) a0 [aq eM,aD 6,aD 7,aA i,aA j,aA x,aq k,aA (whole g.2.2+whole q.2.2)] N=aE (.int (whole g.2.2+whole q.2.2)) N:=u.WO rfl (AX (aU (a:=eM) rfl) (aU (a:=.int i) rfl) (AL hi)) (as:=[]) (das:=[]) cD rfl (by rw[<-ew];simpa using Mn u.h);have c2:bQ "puts" [("Gaps",bO 1 [] BZ)] (aB aQ aK cA) a0 [aq eM,aD 6,aD 7,aA i,aA j,aA x,aq k,aA (whole g.2.2+whole q.2.2)] N=aE (.int (((g.2.2++q.2.2).length:a9):a8)) N:=u.WO rfl (AX (aU (a:=eM) rfl) (aU (a:=.int i) rfl) (AL hi)) (as:=[]) (das:=[]) cD rfl (by simpa using adY u.h);rw[bV (sO (MC (Z':=N) (lJ (dG c1 (aU (a:=.int (whole g.2.2+whole q.2.2)) (by rfl)) (by simp))) (lJ (dG c2 (tU (aU (a:=.aH 7) (by rfl)) l.qC (aU (a:=.int i) (by rfl)) D) (by simp)))))];obtain⟨y,ef⟩:∃y,(CL (aB mF cA eL) (aB mF (aS (cE 2 FP) (aC (aB aQ aK eL) (aC fD a0))) mN)) [aq eM,aD 6,aD 7,aA i,aA j,aA x,aq k,aA (whole g.2.2+whole q.2.2)] N=aE (.bl a5) (N++y):=by
   have eq1:aB mF cA eL [aq eM,aD 6,aD 7,aA i,aA j,aA x,aq k,aA (whole g.2.2+whole q.2.2)] N=aE (.bl ((i:a8)==(j:a8))) N:=dG (aU (a:=.int i) rfl) (aU (a:=.int j) rfl) (by simp)
   by_cases W:i=j
   ·refine⟨[],?_⟩;unfold CL;rw[dF eq1];simp[W]
   ·have gj:(G.set i (d,e,g.2.2++q.2.2))[j]?=aq q:=by rw[fF W];exact p
    have b2:=l.pt j _ gj;have C:=aeW b2 x;have n5:(N++[Cell.lst ((iP q.1 q.2.1).map A.int)])[N.length]?=aq (.lst ((iP q.1 q.2.1).map A.int)):=by simp
    have R:eE 8 (pI x a5 (All q.1 q.2.1))=a5:=by simp[pI,eE]
    have pl:eE 8 (.lst [.int (whole q.2.2),.int q.2.2.length,.int (fK (bR q.1 q.2.1)).length,.int (gK q.2.1),.lst ((iP q.1 q.2.1).map A.int),pI x a5 (All q.1 q.2.1)])=a5:=by simp[pI,eE]
    refine⟨[.lst ((iP q.1 q.2.1).map A.int)],?_⟩;have e2:=Vl (g:=mF) (oJ (n:=2) (F:=FP) (bD (AX (Y:=[aq eM,aD 6,aD 7,aA i,aA j,aA x,aq k,aA (whole g.2.2+whole q.2.2)]) (f:=dR 0) (fi:=dR 4) (aU (a:=eM) rfl) (aU (a:=.int j) rfl) (AL E)) (bD (f:=dR 5) (aU (a:=.int x) rfl) cD)) rfl C) (f2:=dR 6) (aU (a:=k) rfl) (aw7 (Ts n5 R) (by rw[<-H];exact Ts (IZ n4 _) R) pl);unfold CL;rw[dF eq1];have gD:((i:a8)==(j:a8))=aw:=by simp;omega
    simp only[gD];simpa using e2
  unfold bW;rw[fQ ef];simp only[vB];obtain⟨Z'',t,hh⟩:=(l.app y).trim bZ;exact⟨Z'',_,t,hh⟩
end
theorem aBC{f:Ev->Mo A}{i j:a9}{a b:A}{Y:Ev}{Z Z':aG}(h:f Y Z=aE (.tup [a,b]) Z'):bP f (iM 2 (dH (gN i) (dH (gN j) jA))) Y Z=eB ((Y.set i (aq a)).set j (aq b)) Z':=by
 unfold bP;rw[fQ h];simp
section
variable{Z:aG}{p keep:a9}{rs row:ar Rn}{L:ar Rg}
theorem akT(a:kC Z p keep rs row L)(e d U N B:ax A)(x:a8)(E t:ax A) :
  PJ [aD p,cL (aN row),e,d,U,N,B,aA (gK L),aA x,E,t] Z
   = eB [aD p,cL (aN row),e,d,U,N,B,aA (gK L),aA x,aA (dE row x),aA (dI row x)] Z:=by
 have G:=a.o.off;have y:=aCH row x Z;obtain⟨u,l,k,h⟩:=A41 a.o.gd x a5;obtain⟨H,s,r,m⟩:=A41 a.o.gd x aw;rw[G]at h m;simp only[uE,gT,kB,gU]at l k s r;have hb:0<=EV x x (All rs L)/\EV x x (All rs L)<=dI row x-dE row x/\dI row x-dE row x<=IS x x (All rs L)/\IS x x (All rs L)-EV x x (All rs L)<=2*gK L:=by
  have hle:=wG a.o.gd.tn x;unfold EV IS;rw[bc (by omega),bc (by omega)];omega
 obtain⟨P,M,K,I⟩:=hb;have D:uK [pI x a5 (All rs L),.int (dI row x),.int (gK L)] Z=aE (.bl a5) Z:=Mm _ _ _ _ u l k h Z;have p2:uK [pI x aw (All rs L),.int (dE row x),.int (gK L)] Z=aE (.bl a5) Z:=Mm _ _ _ _ H s r m Z;have C:uK [zD x x (All rs L),.int (dI row x-dE row x),.int (2*gK L)] Z=aE (.bl a5) Z:=Mm _ _ _ _ P M K I Z;have hm:lT 2 (gK L):=(WM (by decide) (by decide)).2;unfold PJ;rw[bV (aBC (i:=9) (j:=10) (oJ (n:=2) (F:=YT) (bD (aU (a:=.lst (aN row)) rfl) (bD (aU (a:=.int x) rfl) cD)) rfl y))];simp only[List.set];generalize q:[aq (A.aH p),cL (aN row),e,d,U,N,B,aA (gK L),aA x,aA (dE row x),aA (dI row x)]=z;have up:bQ "upto" [("Gaps",bO 2 [] vW)] aK (aC nD a0) z Z=aE (pI x a5 (All rs L)) Z:=a.call rfl (by subst q;rfl) (as:=[.int x]) (das:=[]) (bD (aU (by subst q;rfl)) cD) rfl (by simpa using Pb a x);have bl:bQ "below" [("Gaps",bO 2 [] xI)] aK (aC nD a0) z Z=aE (pI x aw (All rs L)) Z:=a.call rfl (by subst q;rfl) (as:=[.int x]) (das:=[]) (bD (aU (by subst q;rfl)) cD) rfl (by simpa using aeZ a x);have co:bQ "counted" [("Gaps",bO 2 [] KQ)] aK (aC nD a0) z Z=aE (zD x x (All rs L)) Z:=a.call rfl (by subst q;rfl) (as:=[.int x]) (das:=[]) (bD (aU (by subst q;rfl)) cD) rfl (by simpa using aC0 a x);have f:dR 7 z Z=aE (.int (gK L)) Z:=aU (by subst q;rfl);have g:dR 9 z Z=aE (.int (dE row x)) Z:=aU (by subst q;rfl);have v10:dR 10 z Z=aE (.int (dI row x)) Z:=aU (by subst q;rfl);have w:(mP (mQ (cC (aS (cE 3 uK) (aC (bQ "upto" [("Gaps",bO 2 [] vW)] aK (aC nD a0)) (aC LF (aC jP a0)))))) (mQ (cC (aS (cE 3 uK) (aC (bQ "below" [("Gaps",bO 2 [] xI)] aK (aC nD a0)) (aC LD (aC jP a0))))))) z Z=aE aw Z :=
  MC (Z':=Z) (yE (b:=a5) (lJ (oJ (bD up (bD v10 (bD f cD))) rfl D))) (yE (b:=a5) (lJ (oJ (bD bl (bD g (bD f cD))) rfl p2)))
 have v:(mQ (cC (aS (cE 3 uK) (aC (bQ "counted" [("Gaps",bO 2 [] KQ)] aK (aC nD a0)) (aC (aB (nN) LF LD) (aC (aB (mE) lH jP) a0)))))) z Z=aE aw Z :=
  yE (b:=a5) (lJ (oJ (bD co (bD (dG v10 g (c:=.int (dI row x-dE row x)) (by simp)) (bD (dG (a:=.int 2) (b:=.int (gK L)) (by simp) f (TZ hm _)) cD))) rfl C))
 rw[bV (sO w),sO v]
theorem Tq(a:kC Z p keep rs row L)(b U N B z:ax A)(ok:aG->Prop)(aJ:ok Z):∀(xs:ar a8) (c q j:ax A),∃f g d,
  eZ ok (gN 8) PJ (xs.map A.int) [aD p,cL (aN row),b,U,N,B,z,aA (gK L),c,q,j] Z=eB [aD p,cL (aN row),b,U,N,B,z,aA (gK L),f,g,d] Z
 |[],c,q,j=>⟨c,q,j,by rw[uI,EI aJ]⟩
 |x::xs,c,q,j=>by
  have t:=akT a b U N B z x q j;obtain⟨f,g,d,e⟩:=Tq a b U N B z ok aJ xs (aA x) (aA (dE row x)) (aA (dI row x));refine⟨f,g,d,?_⟩;rw[cP,rP aJ (Y0:=[aD p,cL (aN row),b,U,N,B,z,aA (gK L),aA x,q,j]) (Z0:=Z) (by simp) t,e]
theorem aCW(a:kC Z p keep rs row L)(hk:keep<=1000)(is:ar a8):Nx [.aH p,.lst (aN row),.int row.length,.int keep,.lst (is.map A.int)] Z=aE (.bl a5) Z:=by
 have I:=a.o.GQ;have fI:=a.o.k1;have Fv:=a.o.w;obtain⟨b,hb,y⟩:=aCG (row.length/(keep+1)) (by have:=Nat.div_le_self row.length (keep+1);omega) Z;have e:=a.o.held hb;have f:=a.o.Dy hb;have g:=a.o.aoH;show trim Z (eX (Kk [aD p,cL (aN row),aA row.length,aA keep,cL (is.map A.int),av,av,av,av,av,av] Z))=_;unfold Kk;rw[bV (lO (i:=5) (a:=.int (whole row)) (Z':=Z) (by unfold acQ;exact UL (aU (a:=.lst (aN row)) rfl) (by omega)))];simp only[List.set];have d1:rB (row.length:a8) ((keep:a8)+1):=Jt (by omega) (by omega);have ed:(row.length:a8)/((keep:a8)+1)=((row.length/(keep+1):a9):a8):=by simp
 have W:aB (jC) cN (aB cJ cA cU) [aD p,cL (aN row),aA row.length,aA keep,cL (is.map A.int),aA (whole row),av,av,av,av,av] Z=aE (.int ((row.length/(keep+1):a9):a8)) Z :=
  dG (aU (a:=.int row.length) rfl) (dG (aU (a:=.int keep) rfl) (b:=.int 1) (by simp) (c:=.int ((keep:a8)+1)) (by simp)) (by rw[<-ed];exact Jl d1 _)
 rw[bV (lO (i:=6) (oJ (n:=1) (F:=YS) (bD W cD) rfl y))];simp only[List.set];have P:bQ "off" [("Gaps",bO 1 [] zT)] aK a0 [aD p,cL (aN row),aA row.length,aA keep,cL (is.map A.int),aA (whole row),aA b,av,av,av,av] Z=aE (.int (gK L)) Z:=a.call rfl rfl (as:=[]) (das:=[]) cD rfl (by simpa using aeU a);rw[bV (lO (i:=7) P)];simp only[List.set];generalize j:[aq (A.aH p),cL (aN row),aA row.length,aA keep,cL (is.map A.int),aA (whole row),aA b,aA (gK L),av,av,av]=q;have v:=aeV a;have s:bQ "numbers" [("Gaps",bO 1 [] CA)] aK a0 q Z=aE (.aH Z.length) (Z++[.lst ((iP rs L).map A.int)]):=a.call rfl (by subst j;rfl) (as:=[]) (das:=[]) cD rfl (by simpa using v);have z:=a.app [.lst ((iP rs L).map A.int)];have r:(Z++[Cell.lst ((iP rs L).map A.int)])[Z.length]?=aq (.lst ((iP rs L).map A.int)):=by simp
 generalize Fs:Z++[Cell.lst ((iP rs L).map A.int)]=Z1 at s z r;have E:=yH r;have H:(iP rs L).length<=(fK (bR rs L)).length:=by
  unfold iP;rw[Bb];exact abO _
 have V:aS jB (aC (bQ "numbers" [("Gaps",bO 1 [] CA)] aK a0) a0) q Z=aE (.int (iP rs L).length) Z1:=zB (sW s cD) (by simp[E]);have T:bQ "held" [("Gaps",bO 1 [] zS)] aK a0 q Z1=aE (.int (fK (bR rs L)).length) Z1:=z.call rfl (by subst j;rfl) (as:=[]) (das:=[]) cD rfl (by simpa using aeY z);have UZ:lT 2 (keep:a8):=(WM (by decide) (by decide)).2;have HQ:lT (2*(keep:a8)+2) ((b:a8)+2):=(WM (by omega) (by omega)).2;have m:dR 3 q Z1=aE (.int keep) Z1:=aU (by subst j;rfl);have l:dR 5 q Z1=aE (.int (whole row)) Z1:=aU (by subst j;rfl);have k:dR 6 q Z1=aE (.int b) Z1:=aU (by subst j;rfl);have u:dR 7 q Z1=aE (.int (gK L)) Z1:=aU (by subst j;rfl);have R:aB (mE) (aB cJ (aB (mE) lH cA) lH) (aB cJ mN lH) q Z1=aE (.int ((2*(keep:a8)+2)*((b:a8)+2))) Z1 :=
  dG (a:=.int (2*(keep:a8)+2)) (b:=.int ((b:a8)+2)) (dG (a:=.int (2*(keep:a8))) (b:=.int 2) (dG (a:=.int 2) (b:=.int (keep:a8)) (by simp) m (TZ UZ _)) (by simp) (by simp)) (dG (a:=.int (b:a8)) (b:=.int 2) k (by simp) (by simp)) (TZ HQ _)
 have hh:((fK (bR rs L)).length:a8)<=(2*(keep:a8)+2)*((b:a8)+2):=by
  have:=Int.ofNat_le.mpr e;simpa using this
 have Q:bQ "length" [("Gaps",bO 1 [] zR)] aK a0 q Z1=aE (.int (whole row)) Z1:=z.call rfl (by subst j;rfl) (as:=[]) (das:=[]) cD rfl (by simpa using Mn z.h);rw[bV (sO (MC (Z':=Z1) (Z'':=Z1) (yE (b:=a5) (lJ (ab0 V T (by simp;omega) R (by simp;exact hh)))) (lJ (dG Q l (by simp)))))];have N:max 0 ((b:a8)-1)=((b-1:a9):a8):=by omega
 have B:lT (max 0 ((b:a8)-1)) (whole row):=(WM (by have:=a.o.gd.gf.s0;rw[a.o.size]at this;exact this) Fv).1;have X:rB (max 0 ((b:a8)-1)*whole row) (keep:a8):=Jt (by omega) (by omega);have d:(aB (jC) (aB (mE) (aS tZ (aC cK (aC (aB (nN) mN cU) a0))) fD) cA) q Z1=aE (.int (max 0 ((b:a8)-1)*whole row/keep)) Z1 :=
  dG (dG (zB (Z':=Z1) (bD (a:=.int 0) (by simp) (bD (dG k (b:=.int 1) (by simp) (c:=.int (b-1)) (by simp)) cD)) (a:=.int (max 0 ((b:a8)-1))) (by simp)) l (TZ B _)) m (Jl X _)
 have G:gK L<=max 0 ((b:a8)-1)*whole row/keep:=by
  rw[N];refine(Int.le_ediv_iff_mul_le (by omega)).mpr ?_;rw[Int.mul_comm];exact f
 have U:CN rO rO cK jP (aB (jC) (aB (mE) (aS tZ (aC cK (aC (aB (nN) mN cU) a0))) fD) cA) q Z1=aE (.bl a5) Z1:=ab0 (Z1:=Z1) (x:=.int 0) (by simp) u (by simp;exact g) d (by simp;exact G);rw[bV (sO (yE (b:=a5) (lJ U)))];obtain⟨D,C,t,K⟩:=Tq z (aA row.length) (aA keep) (aq (.lst (is.map A.int))) (aA (whole row)) (aA b) (srcOf (.lst (is.map A.int)) (is.map A.int)).ok rfl is av av av;have M:jR (fH eL) (gN 8) PJ q Z1=eB [aD p,cL (aN row),aA row.length,aA keep,cL (is.map A.int),aA (whole row),aA b,aA (gK L),D,C,t] Z1:=by
  subst j;rw[uA (S:=srcOf (.lst (is.map A.int)) (is.map A.int)) (Z':=Z1) (by unfold fH;rw[dF (aU (a:=.lst (is.map A.int)) rfl)];simp)];exact K
 rw[bV M];unfold bW;rw[fQ (x:=.bl a5) (Z':=Z1) (by simp)];simp only[vB];rw[<-Fs];exact xW (by simp only[Cl])
end
theorem aBJ{f g:Ev->Mo bt}{Y:Ev}{Z Z':aG}(h:f Y Z=aE aw Z'):zZ f g Y Z=aE aw Z':=by
 unfold zZ;rw[dF h];rfl
theorem aBI{f g:Ev->Mo bt}{Y:Ev}{Z Z':aG}(h:f Y Z=aE a5 Z'):zZ f g Y Z=g Y Z':=by
 unfold zZ;rw[dF h];rfl
theorem Xr{t:Ev->Mo bt}{f g:MS}{Y:Ev}{Z Z':aG}{b:bt}(h:t Y Z=aE b Z'):eW t f g Y Z=if b then f Y Z' else g Y Z':=by
 unfold eW;rw[fQ h]
section
variable{Y:Ev}{Z:aG}
theorem OL{f:Ev->Mo A}{c:a8}(d m:a8)(hd:0<d)(j:d<=1001)(hm:0<m)(h:f Y Z=aE (.int c) Z):aB (iN) (aB (jC) f (cI d)) (cI m) Y Z=aE (.int (c/d%m)) Z :=
 dG (dG h (b:=.int d) (by simp) (Jl (Jt hd j) _)) (b:=.int m) (by simp) (by simp[hm])
theorem aBA{a b c d:A}(v:a8)(j:0<=v)(h1:v<4):eO [a,b,c,d] v=aq a\/eO [a,b,c,d] v=aq b\/eO [a,b,c,d] v=aq c\/eO [a,b,c,d] v=aq d:=by
 obtain⟨n,rfl⟩:=QH j;rw[rS];have hn:n<4:=by omega
 match n,hn with
 |0,_=>exact .inl rfl
 |1,_=>exact .inr (.inl rfl)
 |2,_=>exact .inr (.inr (.inl rfl))
 |3,_=>exact .inr (.inr (.inr rfl))
variable{keep:a9}{G:ar Gp}
theorem aCV(h:gY Z keep G)(V:keep<=5)(c kd:a8)(kR:0<=c)(nL:c<2147483587):∃Z' G',Nw [eM,.aH 6,.aH 7,.int c,.int kd] Z=aE (.bl a5) Z'/\gY Z' keep G':=by
 have h4:=h.n4;have X:=h.lt;obtain⟨i,hi⟩:=QH (show 0<=c%4 by omega);have K:i<4:=by omega
 obtain⟨j,hj⟩:=QH (show 0<=c/20%4 by omega);have u:j<4:=by omega
 have R:=λZ=>QC c 1 Z kR (by omega) (by omega) (by omega);have S:=UB c 1;have m1:=UA c 1;generalize AR c 1=p at R S m1;have Q:=λZ=>adZ p kd Z S (by omega);generalize AN p kd=n at Q;show ∃Z' G',trim Z (eX (Kj [aq eM,aD 6,aD 7,aA c,aA kd,av,av,av] Z))=_/\_;unfold Kj;rw[bV (lO (i:=5) (a:=.int i) (Z':=Z) (dG (aU (a:=.int c) rfl) (b:=.int 4) (by simp) (by simp[hi])))];simp only[List.set];rw[bV (lO (i:=6) (a:=.int n) (Z':=Z) (oJ (n:=2) (F:=xG) (as:=[.int p,.int kd]) (bD (oJ (n:=2) (F:=zQ) (as:=[.int c,.int 1]) (bD (aU rfl) (bD (by simp) cD)) rfl (R _)) (bD (aU rfl) cD)) rfl (Q _)))];simp only[List.set];have f:∀(o7:ax A),dR 3 [aq eM,aD 6,aD 7,aA c,aA kd,aA i,aA n,o7] Z=aE (.int c) Z:=λ_=>aU rfl;have L:cC (aB mF (aB (iN) (aB (jC) cA tL) CJ) cK) [aq eM,aD 6,aD 7,aA c,aA kd,aA i,aA n,av] Z=aE (c/4%5==0) Z:=lJ (dG (OL 4 5 (by decide) (by decide) (by decide) (f av)) (b:=.int 0) (by simp) (by simp))
 by_cases W:c/4%5=0
 ·obtain⟨Z',G',q,hh⟩:=aeX h V K u n;have m:=OL 20 4 (by decide) (by decide) (by decide) (f av);rw[hj]at m;have ec:aS (cE 6 QW) (aC aK (aC aR (aC cN (aC fD (aC (aB (iN) (aB (jC) cA (cI 20)) tL) (aC mN a0)))))) [aq eM,aD 6,aD 7,aA c,aA kd,aA i,aA n,av] Z=aE (.bl a5) Z' :=
   oJ (bD (aU (a:=eM) rfl) (bD (aU (a:=.aH 6) rfl) (bD (aU (a:=.aH 7) rfl) (bD (aU (a:=.int i) rfl) (bD m (bD (aU (a:=.int n) rfl) cD)))))) rfl q
  rw[Bd (a:=.bl a5) (Y1:=[aq eM,aD 6,aD 7,aA c,aA kd,aA i,aA n,av]) (Z':=Z') (by
   rw[Xr L,bb (by simp[W])];unfold bW;rw[fQ ec])]
  simp only[vB];obtain⟨B,k,I⟩:=hh.trim X;exact⟨B,G',k,I⟩
 ·rw[bV (sO (Z':=Z) (by rw[L];simp[W]))];have D:=OL 80 9 (by decide) (by decide) (by decide) (f av);have E:=OL 80 1000 (by decide) (by decide) (by decide) (f av);have m:=OL 20 4 (by decide) (by decide) (by decide) (f av);obtain⟨t,s,ht2,sS⟩:∃t:a8,1<=t/\t<=1000/\eO [A.int 1,.int 1,.int (1+c/80%9),.int (1+c/80%1000)] (c/20%4)=(aA t):=by
   rcases aBA (a:=.int 1) (b:=.int 1) (c:=.int (1+c/80%9)) (d:=.int (1+c/80%1000)) (c/20%4) (by omega) (by omega)with q|q|q|q
   ·exact⟨1,by decide,by decide,q⟩
   ·exact⟨1,by decide,by decide,q⟩
   ·exact⟨_,by omega,by omega,q⟩
   ·exact⟨_,by omega,by omega,q⟩
  have Ic:(4:a9)<=bg:=by decide
  have k:aB aQ (gS aw (aC cU (aC cU (aC (aB cJ cU (aB (iN) (aB (jC) cA (cI 80)) Qf)) (aC (aB cJ cU (aB (iN) (aB (jC) cA (cI 80)) (cI 1000))) a0))))) (aB (iN) (aB (jC) cA (cI 20)) tL) [aq eM,aD 6,aD 7,aA c,aA kd,aA i,aA n,av] Z=aE (.int t) Z:=by
   refine dG (a:=.lst [A.int 1,.int 1,.int (1+c/80%9),.int (1+c/80%1000)]) ?_ m (by simp[sS]);unfold gS;rw[dF (bD (a:=.int 1) (by simp) (bD (a:=.int 1) (by simp) (bD (dG (a:=.int 1) (by simp) D (c:=.int (1+c/80%9)) (by simp)) (bD (dG (a:=.int 1) (by simp) E (c:=.int (1+c/80%1000)) (by simp)) cD))))];simp[Ic]
  rw[bV (lO (i:=7) k)];simp only[List.set];obtain⟨g,v⟩:∃g,G[i]?=aq g:=⟨G[i]'(by omega),dZ (by omega)⟩;have H:=h.pt i g v;have NQ:=H.o.GQ;have M:(G.map λg=>A.lst (aN g.2.2))[i]?=aq (.lst (aN g.2.2)):=by simp[v]
  have P:aB aQ aR fD [aq eM,aD 6,aD 7,aA c,aA kd,aA i,aA n,aA t] Z=aE (.lst (aN g.2.2)) Z:=tU (aU (a:=.aH 6) rfl) h.rows (aU (a:=.int i) rfl) M;have es:cC (aB oF (aB cJ (aS pR (aC Ki a0)) jP) (cI 1000000000)) [aq eM,aD 6,aD 7,aA c,aA kd,aA i,aA n,aA t] Z=aE (decide (whole g.2.2+t<1000000000)) Z :=
   lJ (dG (dG (UL P (by omega)) (aU (a:=.int t) rfl) (c:=.int (whole g.2.2+t)) (by simp)) (b:=.int 1000000000) (by simp) (by simp))
  have el:cC (aB oF (aS jB (aC (aB aQ aR fD) a0)) (cI 400)) [aq eM,aD 6,aD 7,aA c,aA kd,aA i,aA n,aA t] Z=aE (decide ((g.2.2.length:a8)<400)) Z :=
   lJ (dG (uF (Z':=Z) (a:=.int g.2.2.length) (bD P cD) (by simp[aN])) (b:=.int 400) (by simp) (by simp))
  suffices l:∃Z' G',(eW (zZ (cC (aB oF (aB cJ (aS pR (aC Ki a0)) jP) (cI 1000000000))) (cC (aB oF (aS jB (aC (aB aQ aR fD) a0)) (cI 400))))
   (aV (kX (bQ "put" [("Gaps",bO 3 [] FR)] (aB aQ aK fD) (aC mN (aC jP a0))))
   (aV (bP (aB cJ (aB aQ aR fD) (gS aw (aC (nS (aC mN (aC jP a0))) a0))) (yW aR fD))
   (bP (aB cJ (aB aQ cN fD) cU) (yW cN fD))))
   fY) [aq eM,aD 6,aD 7,aA c,aA kd,aA i,aA n,aA t] Z=eB [aq eM,aD 6,aD 7,aA c,aA kd,aA i,aA n,aA t] Z'/\gY Z' keep G' by
   obtain⟨Z',G',e,hh⟩:=l;rw[bV e];unfold bW;rw[fQ (x:=.bl a5) (Z':=Z') (by simp)];simp only[vB];obtain⟨B,k,I⟩:=hh.trim X;exact⟨B,G',k,I⟩
  by_cases rN:whole g.2.2+t<1000000000
  ·rw[Xr ((aBI (Z':=Z) (by rw[es];simp[rN])).trans el)]
   by_cases gW:(g.2.2.length:a8)<400
   ·rw[bb (by simp[gW])];obtain⟨N,U,a',qp⟩:=aCX H n t s (by omega) (.inl V) (by omega) (by omega);have o':=a'.o;have ep:bQ "put" [("Gaps",bO 3 [] FR)] (aB aQ aK fD) (aC mN (aC jP a0)) [aq eM,aD 6,aD 7,aA c,aA kd,aA i,aA n,aA t] Z=aE (.cZ) (Z.set (2+i) (aT keep (whole (g.2.2++[(n,t)])) (g.2.2++[(n,t)]).length N U)) :=
     H.WO rfl (AX (aU (a:=eM) rfl) (aU (a:=.int i) rfl) (AL K)) (as:=[.int n,.int t]) (das:=[]) (bD (aU rfl) (bD (aU rfl) cD)) rfl (by simpa using qp)
    rw[bV (yZ ep)];have l:=h.set K (g:=(N,U,g.2.2++[(n,t)])) o';have r:(Z.set (2+i) (aT keep (whole (g.2.2++[(n,t)])) (g.2.2++[(n,t)]).length N U))[6]?=aq (.lst (G.map λg => .lst (aN g.2.2))):=by rw[fF (by omega)];exact h.rows
    have T:(Z.set (2+i) (aT keep (whole (g.2.2++[(n,t)])) (g.2.2++[(n,t)]).length N U))[7]?=aq (.lst (G.map λg => .int (g.2.2.length:a8))):=by rw[fF (by omega)];exact h.qC
    generalize Z.set (2+i) (aT keep (whole (g.2.2++[(n,t)])) (g.2.2++[(n,t)]).length N U)=z at l r T;have w:(2:a9)<=bg:=by decide
    have y:(1:a9)<=bg:=by decide
    have er:aB cJ (aB aQ aR fD) (gS aw (aC (nS (aC mN (aC jP a0))) a0)) [aq eM,aD 6,aD 7,aA c,aA kd,aA i,aA n,aA t] z=aE (.lst (aN (g.2.2++[(n,t)]))) z :=
     dG (tU (aU (a:=.aH 6) rfl) r (aU (a:=.int i) rfl) M) (b:=.lst [jV (n,t)]) (by simp[y,w,jV]) (by
      have:g.2.2.length+1<=bg:=by rw[oS];omega
      simp[aN,this])
    rw[bV (SN (i:=1) (j:=i) rfl r (aU (a:=.int i) rfl) (by simp;omega) er)];have Jb:(G.map λg=>A.lst (aN g.2.2)).set i (.lst (aN (g.2.2++[(n,t)])))=(G.set i (N,U,g.2.2++[(n,t)])).map λg => .lst (aN g.2.2):=by rw[Mz]
    rw[Jb];have HI:(z.set 6 (.lst ((G.set i (N,U,g.2.2++[(n,t)])).map λg => .lst (aN g.2.2))))[7]?=aq (.lst (G.map λg => .int (g.2.2.length:a8))):=by rw[fF (by omega)];exact T
    have pg:(G.map λg=>A.int (g.2.2.length:a8))[i]?=(aA g.2.2.length):=by simp[v]
    have C:aB cJ (aB aQ cN fD) cU [aq eM,aD 6,aD 7,aA c,aA kd,aA i,aA n,aA t] (z.set 6 (.lst ((G.set i (N,U,g.2.2++[(n,t)])).map λg => .lst (aN g.2.2))))=aE (.int (((g.2.2++[(n,t)]).length:a9):a8)) (z.set 6 (.lst ((G.set i (N,U,g.2.2++[(n,t)])).map λg => .lst (aN g.2.2)))) :=
     dG (tU (aU (a:=.aH 7) rfl) HI (aU (a:=.int i) rfl) pg) (b:=.int 1) (by simp) (by simp)
    rw[SN (i:=2) (j:=i) rfl HI (aU (a:=.int i) rfl) (by simp;omega) C];have Ja:(G.map λg=>A.int (g.2.2.length:a8)).set i (.int (((g.2.2++[(n,t)]).length:a9):a8))=(G.set i (N,U,g.2.2++[(n,t)])).map λg => .int (g.2.2.length:a8):=by rw[Mz]
    rw[Ja];exact⟨_,_,rfl,l⟩
   ·rw[bc (by simp[gW])];exact⟨Z,G,rfl,h⟩
  ·rw[sO (aBJ (Z':=Z) (by rw[es];simp[rN]))];exact⟨Z,G,rfl,h⟩
end
abbrev jG(ns:ar a8)(z0 kd:a8)(keep:a9)(cs:a8)(q j z:ax A):Ev:=[aq (.kL ns),aA z0,aA kd,aA keep,aq eM,aD 6,aD 7,aA cs,q,j,z]
section
variable{ns:ar a8}{z0 kd cs:a8}{keep:a9}{Z:aG}{G:ar Gp}
theorem agU(h:gY Z keep G)(g:keep<=5)(t:0<=cs)(s:cs<=62)(k:a9)(r:k<=70)(B z:ax A):∃p Z' G',gY Z' keep G'/\PF (jG ns z0 kd keep cs (aA k) B z) Z=eB (jG ns z0 kd keep cs (aA k) p z) Z':=by
 have f:(0:a8)<max 1 cs:=by omega
 have n:=YK (k:a8) (show max 1 cs≠0 by omega);have o:=QI (k:a8) f;have d:=λZ=>ad5 ns (1+(k:a8)%max 1 cs) Z (by omega) (by omega);have e:=ab7 ns (1+(k:a8)%max 1 cs);have m:=ab6 ns (1+(k:a8)%max 1 cs);generalize ES ns (1+(k:a8)%max 1 cs)=j at d e m;have U:=λZ=>QC j k Z e (by omega) (by omega) (by omega);have s0:=UB j k;have N:=UA j k;generalize AR j k=st at U s0 N;obtain⟨Z',G',q,hh⟩:=aCV h g st kd s0 N;refine⟨aA st,Z',G',hh,?_⟩;unfold PF;have l:aS (cE 2 zQ) (aC (aS (cE 2 FQ) (aC aK (aC (aB cJ cU (aB (iN) nD (aS tZ (aC cU (aC jP a0))))) a0))) (aC nD a0)) (jG ns z0 kd keep cs (aA k) B z) Z=aE (.int st) Z :=
  oJ (bD (oJ (bD (aU (a:=.kL ns) rfl) (bD (dG (a:=.int 1) (by simp) (dG (aU (a:=.int k) rfl) (uF (Z':=Z) (bD (a:=.int 1) (by simp) (bD (aU (a:=.int cs) rfl) cD)) (a:=.int (max 1 cs)) (by simp)) (c:=.int ((k:a8)%max 1 cs)) (by simp only[iN,gI];simp[f])) (c:=.int (1+(k:a8)%max 1 cs)) (by simp)) cD)) rfl (d _)) (bD (aU (a:=.int k) rfl) cD)) rfl (U _)
 rw[bV (lO (i:=9) l)];simp only[jG,List.set];exact sO (yE (b:=a5) (lJ (oJ (bD (aU (a:=eM) rfl) (bD (aU (a:=.aH 6) rfl) (bD (aU (a:=.aH 7) rfl) (bD (aU (a:=.int st) rfl) (bD (aU (a:=.int kd) rfl) cD))))) rfl q)))
theorem arI(h:gY Z keep G)(N:keep<=5)(j:a9)(U:j<4)(B z:ax A):∃Z' G',gY Z' keep G'/\PD (jG ns z0 kd keep cs B z (aA j)) Z=eB (jG ns z0 kd keep cs B z (aA j)) Z':=by
 obtain⟨Z',G',q,hh⟩:=aeX h N (i:=0) (by decide) U 5;refine⟨Z',G',hh,?_⟩;unfold PD;exact sO (yE (b:=a5) (lJ (oJ (bD (aU (a:=eM) rfl) (bD (aU (a:=.aH 6) rfl) (bD (aU (a:=.aH 7) rfl) (bD (a:=.int 0) (by simp) (bD (aU (a:=.int j) rfl) (bD (a:=.int 5) (by simp) cD)))))) rfl q)))
theorem akS(h:gY Z keep G)(l:keep<=5)(z:0<=z0)(f:z0<2147483587)(k:a9)(B:k<4)(j q:ax A):OZ (jG ns z0 kd keep cs (aA k) j q) Z=eB (jG ns z0 kd keep cs (aA k) j q) Z:=by
 have m:=h.n4;obtain⟨g,N⟩:∃g,G[k]?=aq g:=⟨G[k]'(by omega),dZ (by omega)⟩;have i:=h.pt k g N;obtain⟨is,_,e⟩:=aCK g.2.2 z0 kd z (by omega) Z;have d:=aCW i (by omega) is;have c:(G.map λg=>A.lst (aN g.2.2))[k]?=aq (.lst (aN g.2.2)):=by simp[N]
 have pg:(G.map λg=>A.int (g.2.2.length:a8))[k]?=(aA g.2.2.length):=by simp[N]
 have U:aB aQ fD nD (jG ns z0 kd keep cs (aA k) j q) Z=aE (.lst (aN g.2.2)) Z:=tU (aU (a:=.aH 6) rfl) h.rows (aU (a:=.int k) rfl) c;unfold OZ;exact sO (yE (b:=a5) (lJ (oJ (bD (AX (aU (a:=eM) rfl) (aU (a:=.int k) rfl) (AL B)) (bD U (bD (tU (aU (a:=.aH 7) rfl) h.qC (aU (a:=.int k) rfl) pg) (bD (aU (a:=.int keep) rfl) (bD (oJ (bD U (bD (aU (a:=.int z0) rfl) (bD (aU (a:=.int kd) rfl) cD))) rfl e) cD))))) rfl d)))
end
theorem awO{keep:a9}(z:1<=keep)(B:keep<=5):gY [pM,pN,aT keep 0 0 [] [],aT keep 0 0 [] [],aT keep 0 0 [] [],aT keep 0 0 [] [],.lst [.lst [],.lst [],.lst [],.lst []],.lst [.int 0,.int 0,.int 0,.int 0]] keep [([],[],[]),([],[],[]),([],[],[]),([],[],[])]:=by
 refine⟨rfl,λi g j=>?_,rfl,rfl⟩;have hi:i<4:=by simpa using(cY.mp j).1
 have q:g=([],[],[]):=by
  match i,hi with
  |0,_=>simpa using j.symm
  |1,_=>simpa using j.symm
  |2,_=>simpa using j.symm
  |3,_=>simpa using j.symm
 subst q;have o:=aoG z (.inl B)
 match i,hi with
 |0,_=>exact⟨rfl,o,rfl,rfl⟩
 |1,_=>exact⟨rfl,o,rfl,rfl⟩
 |2,_=>exact⟨rfl,o,rfl,rfl⟩
 |3,_=>exact⟨rfl,o,rfl,rfl⟩
theorem aqY(ns:ar a8)(NJ:ns.length<=63):∃W,aeK [.kL ns] [pM,pN]=aE (.bl a5) W:=by
 have E:=λU=>ad5 ns 0 U (by decide) (by decide);have s:=ab7 ns 0;have r:=ab6 ns 0;generalize ES ns 0=z0 at E s r;have d5:rB z0 5:=⟨by decide,by decide⟩;have w:rB z0 20:=⟨by decide,by decide⟩;obtain⟨keep,NN⟩:=QH (show 0<=1+z0/5%4 by omega);have T:1<=keep:=by omega
 have u:keep<=5:=by omega
 generalize VM:max 0 ((ns.length:a8)-1)=cs;have y:0<=cs:=by omega
 have Zr:cs<=62:=by omega
 generalize hm:min 70 (max cs (z0/20%71))=m;have P:0<=m:=by omega
 have UZ:m<=70:=by omega
 have C:∀U,hZ U (.kL ns)=aq (ns.map A.int):=λ_=>rfl;generalize F:[pM,pN,aT keep 0 0 [] [],aT keep 0 0 [] [],aT keep 0 0 [] [],aT keep 0 0 [] [],Cell.lst [.lst [],.lst [],.lst [],.lst []],.lst [.int 0,.int 0,.int 0,.int 0]]=B;have D:=awO T u;rw[F]at D;obtain⟨M,f,e1,d,z,G1,rfl,h1⟩:=OI (ok:=λ_=>True) (g:=gN 8) (b:=PF)
  (λi n Z'=>∃(d z:ax A) (G:ar Gp),n=jG ns z0 (z0%5) keep cs d z av/\gY Z' keep G) (λ_ _ _ _=>trivial)
  ((List.range m.toNat).map λ(i:a9)=>A.int (0+(i:a8))) 0 (jG ns z0 (z0%5) keep cs av av av) B ⟨av,av,_,rfl,D⟩
  (by
   rintro i x n Z' l ⟨d,z,G,rfl,h⟩;have hi:i<m.toNat:=by simpa using(cY.mp l).1
   obtain rfl:A.int (0+(i:a8))=x:=by
    have:=(cY.mp l).2;simpa using this
   obtain⟨Pg,o,I,h2,q⟩:=agU (ns:=ns) (z0:=z0) (kd:=z0%5) (cs:=cs) h u y Zr i (by omega) z av;exact⟨jG ns z0 (z0%5) keep cs (aA i) z av,Z',_,_,by simp[jG],.inl q,_,_,I,rfl,h2⟩)
 obtain⟨L,o,e2,k,I,rfl,h2⟩:=OI (ok:=(srcOf (.lst [A.int 1,.int 2,.int 3]) [A.int 1,.int 2,.int 3]).ok) (g:=gN 10) (b:=PD)
  (λi n Z'=>∃(k:ax A) (G:ar Gp),n=jG ns z0 (z0%5) keep cs d z k/\gY Z' keep G) (λ_ _ _ _=>rfl)
  [A.int 1,.int 2,.int 3] 0 (jG ns z0 (z0%5) keep cs d z av) f ⟨av,_,rfl,h1⟩
  (by
   rintro i x n Z' l ⟨k,G,rfl,h⟩;have hi:i<3:=by simpa using(cY.mp l).1
   obtain rfl:A.int ((i+1:a9):a8)=x:=by
    match i,hi with
    |0,_=>simpa using l
    |1,_=>simpa using l
    |2,_=>simpa using l
   obtain⟨N,G3,Q,q⟩:=arI (ns:=ns) (z0:=z0) (kd:=z0%5) (cs:=cs) h u (i+1) (by omega) d z;exact⟨jG ns z0 (z0%5) keep cs d z (aA ((i+1:a9):a8)),Z',_,_,rfl,.inl q,_,G3,rfl,Q⟩)
 obtain⟨K,N,e3,H,rfl,rfl⟩:=OI (ok:=λ_=>True) (g:=gN 8) (b:=OZ)
  (λi n Z'=>∃(d:ax A),n=jG ns z0 (z0%5) keep cs d z k/\Z'=o) (λ_ _ _ _=>trivial)
  ((List.range 4).map λ(i:a9)=>A.int (0+(i:a8))) 0 (jG ns z0 (z0%5) keep cs d z k) o ⟨_,rfl,rfl⟩
  (by
   rintro i x n Z' l ⟨d,rfl,rfl⟩;have hi:i<4:=by simpa using(cY.mp l).1
   obtain rfl:A.int (0+(i:a8))=x:=by
    have:=(cY.mp l).2;simpa using this
   have q:=akS (ns:=ns) (z0:=z0) (kd:=z0%5) (cs:=cs) h2 u s r i hi z k;exact⟨jG ns z0 (z0%5) keep cs (aA i) z k,Z',_,_,by simp[jG],.inl q,_,rfl,rfl⟩)
 suffices hh:∃p,WY [aq (.kL ns),av,av,av,av,av,av,av,av,av,av] [pM,pN]=aq (.ret (.bl a5),p,N)by
  obtain⟨p,e⟩:=hh;show ∃W,trim [pM,pN] (eX (WY [aq (.kL ns),av,av,av,av,av,av,av,av,av,av] [pM,pN]))=_;rw[e];simp only[vB,trim];split
  ·exact⟨_,rfl⟩
  ·exact⟨_,rfl⟩
 refine⟨jG ns z0 (z0%5) keep cs H z k,?_⟩;have Ic:(4:a9)<=bg:=by decide
 have v:(3:a9)<=bg:=by decide
 have mk:∀U:aG,wQ "Gaps" 2 xJ [.int keep] U=aE (.aH U.length) (U++[aT keep 0 0 [] []]):=λU=>aB9 U keep;unfold WY;rw[bV (lO (i:=1) (Z':=[pM,pN]) (a:=.int z0) (oJ (as:=[.kL ns,.int 0]) (bD (aU (by rfl)) (bD (by rfl) cD)) (by rfl) (E _)))];simp only[List.set];rw[bV (lO (i:=2) (Z':=[pM,pN]) (a:=.int (z0%5)) (dG (aU (a:=.int z0) (by rfl)) (b:=.int 5) (by rfl) (by simp)))];simp only[List.set];rw[bV (lO (i:=3) (Z':=[pM,pN]) (a:=.int keep) (dG (a:=.int 1) (by rfl) (dG (a:=.int (z0/5)) (dG (aU (a:=.int z0) (by rfl)) (b:=.int 5) (by rfl) (by simp[d5])) (b:=.int 4) (by rfl) (c:=.int (z0/5%4)) (by simp)) (by simp[NN])))];simp only[List.set];generalize wQ "Gaps" 2 xJ=R at mk;have t:∀(U:aG),aS R (aC cA a0) [aq (.kL ns),aA z0,aA (z0%5),aA keep,av,av,av,av,av,av,av] U=aE (.aH U.length) (U++[aT keep 0 0 [] []]):=λU=>uF (bD (aU (a:=.int keep) rfl) cD) (mk U);rw[bV (lO (i:=4) (Z':=[pM,pN,aT keep 0 0 [] [],aT keep 0 0 [] [],aT keep 0 0 [] [],aT keep 0 0 [] []]) (a:=eM) (by
  unfold gS;rw[dF (sW (t _) (sW (t _) (sW (t _) (sW (t _) cD))))];simp[Ic]))]
 simp only[List.set];rw[bV (lO (i:=5) (Z':=[pM,pN,aT keep 0 0 [] [],aT keep 0 0 [] [],aT keep 0 0 [] [],aT keep 0 0 [] [],.lst [.lst [],.lst [],.lst [],.lst []]]) (a:=.aH 6) (by rfl))];simp only[List.set];rw[bV (lO (i:=6) (Z':=B) (a:=.aH 7) (by rw[<-F];rfl))];simp only[List.set];rw[bV (lO (i:=7) (Z':=B) (a:=.int cs) (uF (bD (a:=.int 0) (by rfl) (bD (dG (uF (Z':=B) (bD (aU (a:=.kL ns) (by rfl)) cD) (a:=.int ns.length) (by simp[C])) (b:=.int 1) (by rfl) (c:=.int ((ns.length:a8)-1)) (by simp)) cD)) (by simp[VM])))];simp only[List.set];have X:jR (zY (aC (aS VU (aC (cI 70) (aC (aS tZ (aC jP (aC (aB (iN) (aB (jC) aR (cI 20)) (cI 71)) a0))) a0))) a0)) (gN 8) PF (jG ns z0 (z0%5) keep cs av av av) B=eB (jG ns z0 (z0%5) keep cs d z av) f:=by
  rw[uA (S:=yB 0 m.toNat) (Z':=B) (De (j:=m) (bD (uF (Z':=B) (bD (a:=.int 70) (by rfl) (bD (uF (Z':=B) (bD (aU (a:=.int cs) (by rfl)) (bD (dG (a:=.int (z0/20)) (dG (aU (a:=.int z0) (by rfl)) (b:=.int 20) (by rfl) (by simp[w])) (b:=.int 71) (by rfl) (c:=.int (z0/20%71)) (by simp)) cD)) (a:=.int (max cs (z0/20%71))) (by simp)) cD)) (by simp[hm])) cD) (by unfold AE;omega))];exact e1
 have f2:jR (fH (gS aw (aC cU (aC lH (aC pG a0))))) (gN 10) PD (jG ns z0 (z0%5) keep cs d z av) f=eB (jG ns z0 (z0%5) keep cs d z k) N:=by
  rw[uA (S:=srcOf (.lst [A.int 1,.int 2,.int 3]) [A.int 1,.int 2,.int 3]) (Z':=f) (by
   unfold fH;rw[dF (x:=.lst [A.int 1,.int 2,.int 3]) (Z':=f) (by unfold gS;rw[dF (bD (a:=.int 1) (by simp) (bD (a:=.int 2) (by simp) (bD (a:=.int 3) (by simp) cD)))];simp[v])];simp)]
  exact e2
 have V:jR (zY (aC tL a0)) (gN 8) OZ (jG ns z0 (z0%5) keep cs d z k) N=eB (jG ns z0 (z0%5) keep cs H z k) N:=by
  rw[uA (S:=yB 0 4) (Z':=N) (De (j:=4) (bD (by rfl) cD) (by unfold AE;omega))];exact e3
 rw[bV X,bV f2,bV V];unfold bW;rw[fQ (x:=.bl a5) (Z':=N) (by simp)]
end M
namespace Nh
open PySem L2 V2 PyProof.Rows M
noncomputable def top(i:a9):cb:=PySem.Challenge.pw_rankpouch_k42_gaps_joined.main.body.getD i (.Pass ⟨0,0,0,0⟩)
abbrev Bk:cb:=top 7
abbrev Bo:cb:=top 10
abbrev Bi:cb:=top 11
abbrev Bh:cb:=top 12
abbrev Bj:cb:=top 15
abbrev Bn:cb:=top 16
abbrev Bm:cb:=top 17
abbrev Bq:cb:=top 18
abbrev Bl:cb:=top 19
abbrev Br:cb:=top 20
abbrev Bf:cb:=top 21
abbrev Bp:cb:=top 22
abbrev AH:cb:=top 24
abbrev AI:cb:=top 26
abbrev Bt:cb:=top 28
abbrev Bg:cb:=top 29
abbrev CS:cb:=top 30
abbrev By:cb:=top 37
abbrev Cd:cb:=top 38
abbrev Bx:cb:=top 39
abbrev Cc:cb:=top 41
abbrev Bw:cb:=top 42
abbrev Cb:cb:=top 43
abbrev Ce:cb:=top 44
abbrev Bz:cb:=top 45
abbrev Ca:cb:=top 46
abbrev Bu:cb:=top 47
abbrev Bv:cb:=top 48
abbrev GO:cb:=inClass (top 32) 0
abbrev CT:cb:=inClass (top 32) 1
abbrev Cn:cb:=inClass (top 32) 2
abbrev Ck:cb:=inClass (top 32) 3
abbrev Cm:cb:=inClass (top 32) 4
abbrev Ci:cb:=inClass (top 32) 5
abbrev Co:cb:=inClass (top 32) 6
abbrev Cj:cb:=inClass (top 32) 7
abbrev Cg:cb:=inClass (top 33) 3
abbrev Cf:cb:=inClass (top 33) 4
abbrev GP:cb:=inClass (top 35) 0
abbrev Cs:cb:=inClass (top 35) 1
abbrev Cr:cb:=inClass (top 35) 2
abbrev Cq:cb:=inClass (top 35) 3
abbrev Cw:cb:=inClass (top 35) 4
abbrev Cv:cb:=inClass (top 35) 5
abbrev Ct:cb:=inClass (top 35) 6
abbrev Cy:cb:=inClass (top 35) 8
abbrev Cu:cb:=inClass (top 35) 9
abbrev Cp:cb:=inClass (top 35) 10
abbrev Cz:cb:=inClass (top 35) 11
abbrev xY:cb:=top 49
structure dN(mg:bh->ax au):Prop where
 bool:mg "bool" = av
 enumerate:mg "enumerate" = av
 int:mg "int" = av
 isinstance:mg "isinstance" = av
 len:mg "len" = av
 list:mg "list" = av
 max:mg "max" = av
 min:mg "min" = av
 range:mg "range" = av
 set:mg "set" = av
 sorted:mg "sorted" = av
 sum:mg "sum" = av
 tuple:mg "tuple" = av
section
variable(P:bp)(w:bz)(K:bu)(mg:bh->ax au)(base:b9)
abbrev Ty0:=cQ P w K mg base "near_enough" 1 ["before", "entry", "slack"] QS
abbrev Ty1:=cQ P w K mg base "goes_first" 1 ["entries", "at", "others", "other_at"] KO
abbrev XQ:=cQ P w K mg base "bounds_ahead" 1 ["pouch", "at"] sA
abbrev Ty3:=cQ P w K mg base "apart" 1 ["ahead", "through"] QV
abbrev Ly:=cQ P w K mg base "summed" 1 ["bounds"] KL
abbrev PU:=cQ P w K mg base "_law_mix" 1 ["_law_cell_here", "_law_k"] zQ
abbrev Lx:=cQ P w K mg base "_law_number" 1 ["_law_cell_here", "_law_kind"] xG
abbrev Ty7:=cQ P w K mg base "_law_counts" 1 ["_law_row", "_law_number_here"] YT
abbrev Ty8:=cQ P w K mg base "_law_pair" 1 ["_law_found", "_law_due", "_law_apart"] uK
abbrev Ty9:=cQ P w K mg base "_law_figures" 1 ["_law_number_here"] YS
abbrev adN:=cQ P w K mg base "moved" 2 ["entry", "pouch", "at"] QT
abbrev adM:=cQ P w K mg base "kept_entries" 2 ["entries", "slack"] QU
abbrev adL:=cQ P w K mg base "_law_cell" 2 ["_law_script", "_law_k"] FQ
abbrev adK:=cQ P w K mg base "_law_asked_for" 2 ["_law_row", "_law_cell_here", "_law_kind"] Ny
abbrev adJ:=cQ P w K mg base "merged_entries" 3 ["one", "other"] YQ
abbrev adI:=cQ P w K mg base "thinned" 3 ["pouch", "keep"] QO
abbrev adH:=cQ P w K mg base "merged" 4 ["one", "other"] KN
abbrev adG:=cH P w K mg base "Gaps" "newest_pouch" 4 1 [] CB
abbrev XS:=cH P w K mg base "Gaps" "parts" 5 1 [] uL
abbrev XR:=cH P w K mg base "Gaps" "look_room" 1 2 [] QY
abbrev XO:=cH P w K mg base "Gaps" "take" 6 3 [] FT
abbrev Mb:=cH P w K mg base "Gaps" "upto" 6 2 [] vW
abbrev Ma:=cH P w K mg base "Gaps" "length" 1 1 [] zR
abbrev adF:=cH P w K mg base "Gaps" "numbers" 7 1 [] CA
abbrev adE:=cQ P w K mg base "_law_looks" 8 ["_law_pouch", "_law_number_here"] FP
abbrev Lz:=cQ P w K mg base "_law_joined" 9 ["_law_pouches", "_law_rows", "_law_puts", "_law_one", "_law_other", "_law_number_here"] QW
abbrev adD:=cQ P w K mg base "_law_right" 9 ["_law_pouch", "_law_row", "_law_puts", "_law_keep", "_law_numbers"] Nx
abbrev adC:=cQ P w K mg base "_law_step" 10 ["_law_pouches", "_law_rows", "_law_puts", "_law_cell_here", "_law_kind"] Nw
end
section
variable{P:bp}{w:bz}{K:bu}{mg:bh->ax au}{base:b9}
theorem ai6:cS ["before", "entry", "slack"] ["before", "entry", "slack"] (aW Bk):=dX
theorem ayN(B:dN mg)(h:HasFn K mg "near_enough" Bk):Ty0 P w K mg base :=
 cQ.o h ai6 λhr=>(bG (dB (ZP (xQ (tP hr.units) (bH (vv 1) aL bC) (bH (vv 0) aL bC) (eP _)) (RT (xQ vC (bH (vv 1) aL bC) (aY (dQ aw) (aY (dQ aw) (bH (vv 0) aL bC) (vv 2)) aL) (eP _))))))
theorem ajA:cS ["row", "length", "at", "run", "times"] ["row"] (aW Bo):=dX
theorem ayR(B:dN mg)(h:HasFn K mg "look_row" Bo)(j:∃t,mg "LONGEST" = aq (.int 1000000000 t)):cQ P w K mg base "look_row" 1 ["row"] YR :=
 cQ.o h ajA λhr=>(bA (cW 1 aL)
  (bA (rE bK.passes rfl (Qj rfl B.enumerate (vv 0)) (sF rfl (jQ (fG 2) (jQ (fG 3) sE)))
   (bA (cW 4 (bH (vv 3) aL bC))
   (bA (cW 1 (aY (dQ aw) (vv 1) (vv 4)))
   (bG (gJ (VW.vt (tM (fX tO (vv 4) aL (eP _)) (uR (fX DF (vv 1) (Qm rfl j) (eP _)))))
    (bG RP)
    gQ)))))
  (bG (dB (vv 1)))))
theorem ai4:cS ["row", "times_of", "number", "times"] ["row"] (aW Bi):=dX
theorem ayL(B:dN mg)(h:HasFn K mg "packed" Bi):cQ P w K mg base "packed" 1 ["row"] QQ :=
 cQ.o h ai4 λhr=>(bA (cW 1 LI)
  (bA (rE bK.passes rfl (nE (vv 0)) (sF rfl (jQ (fG 2) (jQ (fG 3) sE)))
   (bG (RQ (cR.AA hr) (vv 1) (vv 2) (aY (dQ aw) (Qo (cR.AA hr) (vv 1) (vv 2) aL ⟨rfl,rfl,rfl,rfl⟩) (vv 3)))))
  (bG (dB (uT aw ["number"] [1] (nE (fP (aAQ rfl aw) rfl B.sorted boot_sorted (aF (vv 1) aO))) ⟨(fG 0),uS,(rF (aF (vv 0) (aF (af5 (cR.AA hr) (vv 1) (vv 0) bC) aO)))⟩)))))
theorem ajD:cS ["entries", "at", "others", "other_at"] ["entries", "at", "others", "other_at"] (aW Bq):=dX
theorem ayW(B:dN mg)(h:HasFn K mg "goes_first" Bq):Ty1 P w K mg base :=
 cQ.o h ajD λhr=>(bA (gJ (fX (tP hr.units) (vv 1) (fP pV rfl B.len PySem.boot_len (aF (vv 0) aO)) (eP _))
   (bG (dB pH))
   gQ)
  (bG (dB (ZP (xQ (tP hr.units) (vv 3) (fP pV rfl B.len PySem.boot_len (aF (vv 2) aO)) (eP _)) (RT (xQ vC (bH (bH (vv 0) (vv 1) bC) aL bC) (bH (bH (vv 2) (vv 3) bC) aL bC) (eP _)))))))
theorem ajE:cS ["pouch", "at", "entries", "low", "high"] ["pouch", "at"] (aW Br):=dX
theorem ayZ(B:dN mg)(h:HasFn K mg "bounds_ahead" Br):XQ P w K mg base :=
 cQ.o h ajE λhr=>(bA (cW 2 (bH (vv 0) aL bC))
  (bA (cW 3 (Ql (fX DF (vv 1) aL (eP _)) (bH (bH (vv 2) (aY sH (vv 1) aL) bC) aL bC) aL))
  (bA (cW 4 (Ql (fX tO (vv 1) (fP pV rfl B.len PySem.boot_len (aF (vv 2) aO)) (eP _)) (aY sH (bH (bH (vv 2) (vv 1) bC) aL bC) aL) (bH (vv 0) aL bC)))
  (bG (dB (rF (aF (vv 3) (aF (vv 4) aO))))))))
theorem ajG:cS ["ahead", "through"] ["ahead", "through"] (aW Bt):=dX
theorem ay1(B:dN mg)(h:HasFn K mg "apart" Bt):Ty3 P w K mg base :=
 cQ.o h ajG λhr=>(bG (dB (rF (aF (fP (IQ rfl) rfl B.max boot_max (aF aL (aF (aY sH (bH (vv 1) aL bC) (bH (vv 0) aL bC)) aO))) (aF (aY sH (bH (vv 1) aL bC) (bH (vv 0) aL bC)) aO)))))
theorem ai2:cS ["bounds"] ["bounds"] (aW Bg):=dX
theorem ayH(B:dN mg)(h:HasFn K mg "summed" Bg):Ly P w K mg base :=
 cQ.o h ai2 λhr=>(bG (dB (rF (aF (fP (EU rfl) rfl B.sum boot_sum (aF (uT aw ["pair"] [] (nE (vv 0)) ⟨(fG 0),uS,(bH (vv 0) aL bC)⟩) aO)) (aF (fP (EU rfl) rfl B.sum boot_sum (aF (uT aw ["pair"] [] (nE (vv 0)) ⟨(fG 0),uS,(bH (vv 0) aL bC)⟩) aO)) aO)))))
theorem aj0:cS ["self", "keep"] ["self", "keep"] (aW GO):=dX
theorem aA0(B:dN mg)(q:eN K ["Gaps"] "keep")(N:eN K ["Gaps"] "many")(z:eN K ["Gaps"] "taken")(f:az)(j:au)(A:bx)(outer:ar Env)(s:ay)(H:Hp)(E:XK)(hr:cR 0 (A.deeper (c6 "Pouch.__init__" (aW GO) s.heap.objs.size f j))) :
  kU (oI P w K mg base ["self", "keep"] "Pouch.__init__" (aW GO) f j A outer s H E) (λ_=>E) (eQ GO) XF:=by
 exact(bA (wD (vv 0) (vv 1) q)
  (bA (wD (vv 0) aL N)
  (bG (wD (vv 0) aL z))))
theorem ayC(B:dN mg)(q:eN K ["Gaps"] "keep")(N:eN K ["Gaps"] "many")(z:eN K ["Gaps"] "taken"){rk:bh}(h:YO K mg rk "__init__" "Pouch.__init__" GO):FN P w K mg base rk "__init__" 1 2 RC:=FN.of h aj0 (λ_ _ _ _ _ _ j hl=>xU j hl bC) (aA0 B q N z)
theorem ajW:cS ["self", "more"] ["self", "more"] (aW Ck):=dX
theorem azI(B:dN mg)(q:∃t,mg "LONGEST" = aq (.int 1000000000 t))(j:eN K ["Gaps"] "many"){cls:bh}(h:mL K mg cls "look_room" "Pouch.look_room" Ck):cH P w K mg base cls "look_room" 1 2 [] QY :=
 cH.o h ajW λhr=>(bG (gJ (fX DF (aY (dQ aw) (nR (vv 0) j) (vv 1)) (Qm rfl q) (eP _))
   (bG RP)
   gQ))
theorem ajX:cS ["self"] ["self"] (aW Cm):=dX
theorem azJ(B:dN mg)(j:eN K ["Gaps"] "many"){cls:bh}(h:mL K mg cls "length" "Pouch.length" Cm):cH P w K mg base cls "length" 1 1 [] zR :=
 cH.o h ajX λhr=>(bG (dB (nR (vv 0) j)))
theorem ajU:cS ["self"] ["self"] (aW Ci):=dX
theorem azF(B:dN mg)(j:eN K ["Gaps"] "taken"){cls:bh}(h:mL K mg cls "puts" "Pouch.puts" Ci):cH P w K mg base cls "puts" 1 1 [] BZ :=
 cH.o h ajU λhr=>(bG (dB (nR (vv 0) j)))
theorem aj4:cS ["self", "other"] ["self", "other"] (aW Cs):=dX
theorem azP(B:dN mg)(j:Nt K mg "Gaps")(q:Nm K ["Gaps"]){cls:bh}(h:mL K mg cls "same_kind" "Gaps.same_kind" Cs):cH P w K mg base cls "same_kind" 1 2 [] RD :=
 cH.o h aj4 λhr=>(bG (dB (fP (aAS q) rfl B.isinstance OX (aF (vv 1) (aF (af0 j rfl) aO)))))
theorem ajL:cS ["_law_cell_here", "_law_k", "_law_first"] ["_law_cell_here", "_law_k"] (aW By):=dX
theorem ay6(B:dN mg)(h:HasFn K mg "_law_mix" By):PU P w K mg base :=
 cQ.o h ajL λhr=>(bA (cW 2 (aY nK (aY sI (aY (dQ aw) (vv 0) aL) (aY (dQ aw) aL (aY sI aL (vv 1)))) aL))
  (bG (dB (aY nK (aY (dQ aw) (aY (dQ aw) (aY sI (aY rH (vv 2) aL) aL) (aY sI (vv 2) (aY (dQ aw) (aY sI (vv 1) (vv 1)) aL))) (vv 1)) aL))))
theorem ajK:cS ["_law_cell_here", "_law_kind"] ["_law_cell_here", "_law_kind"] (aW Bx):=dX
theorem ay5(B:dN mg)(h:HasFn K mg "_law_number" Bx):Lx P w K mg base :=
 cQ.o h ajK λhr=>(bA (gJ (fX (tP hr.units) (vv 1) aL (eP _))
   (bG (dB (aY nK (vv 0) aL)))
   gQ)
  (bA (gJ (fX (tP hr.units) (vv 1) aL (eP _))
   (bG (dB (aY sH (aY nK (vv 0) aL) aL)))
   gQ)
  (bA (gJ (fX (tP hr.units) (vv 1) aL (eP _))
   (bG (dB (aY sH (aY nK (aY sI (vv 0) aL) (aY (dQ aw) (aY sI aL (aY TU aL aL)) aL)) (aY TU aL aL))))
   gQ)
  (bA (gJ (fX (tP hr.units) (vv 1) aL (eP _))
   (bG (dB aL))
   gQ)
  (bG (dB (bH (mO aw (aF (aY (dQ aw) (aY sI (vv 0) (aY TU aL aL)) aL) (aF (aY sH aL (aY sI (vv 0) (aY TU aL aL))) (aF (vv 0) (aF (aY sH aL (vv 0)) aO))))) (aY nK (vv 0) aL) bC)))))))
theorem ajP:cS ["_law_row", "_law_number_here", "_law_under", "_law_many", "_law_value", "_law_times_here"] ["_law_row", "_law_number_here"] (aW Cc):=dX
theorem azA(B:dN mg)(h:HasFn K mg "_law_counts" Cc):Ty7 P w K mg base :=
 cQ.o h ajP λhr=>(bA (cW 2 aL)
  (bA (cW 3 aL)
  (bA (rE bK.passes rfl (nE (vv 0)) (sF rfl (jQ (fG 4) (jQ (fG 5) sE)))
   (bA (gJ (fX tO (vv 4) (vv 1) (eP _))
    (bG (cW 2 (aY (dQ aw) (vv 2) (vv 5))))
    gQ)
   (bG (gJ (fX vC (vv 4) (vv 1) (eP _))
    (bG (cW 3 (aY (dQ aw) (vv 3) (vv 5))))
    gQ))))
  (bG (dB (rF (aF (vv 2) (aF (vv 3) aO))))))))
theorem ajJ:cS ["_law_found", "_law_due", "_law_apart"] ["_law_found", "_law_due", "_law_apart"] (aW Bw):=dX
theorem ay4(B:dN mg)(h:HasFn K mg "_law_pair" Bw):Ty8 P w K mg base :=
 cQ.o h ajJ λhr=>(bA (gJ (VW.vt (tM (sD (qA (fP OW rfl B.isinstance OX (aF (vv 0) (aF (LH rfl B.tuple PyProof.Rows.boot_tuple) aO))))) (uR (fX (DE hr.units) (fP pV rfl B.len PySem.boot_len (aF (vv 0) aO)) aL (eP _)))))
   (bG (dB pH))
   gQ)
  (bA (gJ (VW.vt (tM (sD (qA (fP OW rfl B.isinstance OX (aF (bH (vv 0) aL bC) (aF (LH rfl B.int PyProof.Rows.boot_int) aO))))) (uR (sD (qA (fP OW rfl B.isinstance OX (aF (bH (vv 0) aL bC) (aF (LH rfl B.int PyProof.Rows.boot_int) aO))))))))
   (bG (dB pH))
   gQ)
  (bA (gJ (VW.vt (tM (qA (fP OW rfl B.isinstance OX (aF (bH (vv 0) aL bC) (aF (LH rfl B.bool PyProof.Rows.boot_bool) aO)))) (uR (qA (fP OW rfl B.isinstance OX (aF (bH (vv 0) aL bC) (aF (LH rfl B.bool PyProof.Rows.boot_bool) aO)))))))
   (bG (dB pH))
   gQ)
  (bG (dB (af8 (af6 vC vC vC aL (bH (vv 0) aL bC) (vv 1) (bH (vv 0) aL bC)) (RT (xQ vC (aY sH (bH (vv 0) aL bC) (bH (vv 0) aL bC)) (vv 2) (eP _)))))))))
theorem ajO:cS ["_law_number_here", "_law_found"] ["_law_number_here"] (aW Cb):=dX
theorem ay9(B:dN mg)(h:HasFn K mg "_law_figures" Cb):Ty9 P w K mg base :=
 cQ.o h ajO λhr=>(bA (cW 1 aL)
  (bA (RO (λ_ _=>1000000) bK.passes (fX DF (vv 0) aL (eP _))
   (bA (cW 1 (aY (dQ aw) (vv 1) aL))
   (bG (cW 0 (aY rH (vv 0) aL)))))
  (bG (dB (vv 1)))))
theorem ai3:cS ["row", "places", "length", "number", "times"] ["row"] (aW Bh):=dX
theorem ayK(B:dN mg)(h:HasFn K mg "places_of" Bh)(j:cQ P w K mg base "packed" 1 ["row"] QQ):cQ P w K mg base "places_of" 2 ["row"] QP :=
 cQ.o h ai3 λhr=>(bA (cW 1 LI)
  (bA (cW 2 aL)
  (bA (rE bK.passes rfl (nE (fJ bK j hr.m rfl (aF (vv 0) aO))) (sF rfl (jQ (fG 3) (jQ (fG 4) sE)))
   (bA (RQ (cR.AA hr) (vv 1) (vv 3) (rF (aF (aY (dQ aw) (vv 2) aL) (aF (aY (dQ aw) (vv 2) (vv 4)) aO))))
   (bG (cW 2 (aY (dQ aw) (vv 2) (vv 4))))))
  (bG (dB (vv 1))))))
theorem ai7:cS ["entry", "pouch", "at", "ahead"] ["entry", "pouch", "at"] (aW Bl):=dX
theorem ayO(B:dN mg)(h:HasFn K mg "moved" Bl)(j:XQ P w K mg base):adN P w K mg base :=
 cQ.o h ai7 λhr=>(bA (cW 3 (fJ bK j hr.m rfl (aF (vv 1) (aF (vv 2) aO))))
  (bG (dB (rF (aF (bH (vv 0) aL bC) (aF (aY (dQ aw) (bH (vv 0) aL bC) (bH (vv 3) aL bC)) (aF (aY (dQ aw) (bH (vv 0) aL bC) (bH (vv 3) aL bC)) aO)))))))
theorem ajC:cS ["entries", "slack", "kept", "last", "at", "entry"] ["entries", "slack"] (aW Bp):=dX
theorem ayU(B:dN mg)(h:HasFn K mg "kept_entries" Bp)(j:Ty0 P w K mg base):adM P w K mg base :=
 cQ.o h ajC λhr=>(bA (cW 2 (mO a5 aO))
  (bA (cW 3 (aY sH (fP pV rfl B.len PySem.boot_len (aF (vv 0) aO)) aL))
  (bA (rE bK.passes rfl (Qj rfl B.enumerate (vv 0)) (sF rfl (jQ (fG 4) (jQ (fG 5) sE)))
   (bG (gJ (VW.vt (tM (fX (tP hr.units) (vv 4) aL (eP _)) (tM (fX (tP hr.units) (vv 4) (vv 3) (eP _)) (uR (sD (qA (fJ bK j hr.m rfl (aF (bH (vv 2) (Qk aL) bC) (aF (bH (vv 0) (aY (dQ aw) (vv 4) aL) bC) (aF (vv 1) aO))))))))))
    (bG (oN (CK PySem.F.plainAttrs_list PySem.F.slot_list_append PySem.F.type_list_append GW GZ (vv 2) (aF (vv 5) aO))))
    gQ)))
  (bG (dB (vf 2))))))
theorem Th:cS ["entries", "holds", "start", "end", "middle"] ["entries", "holds"] (aW CS):=dX
theorem acF(B:dN mg){qual:bh}{params:de}{body:b7}{scope:cu}{y:bh}{cs:ar bh}{fb:Ev->Mo A}(c:KA scope y cs)(e:∀(u:au) cl N c' b,dh (kla_fn "<lambda>" qual params body scope cl N (.ref c') b) ⟨[u],[]⟩=pure [(y,u)])(q:aeG P w K mg base qual body scope y cs fb) :
  ∀(j:az) (dD:ar (bh×a8)),dD.map (·.1)=cs->∀(f:az) (z:au) (A:bx) (outer:ar Env) (s:ay) (H:Hp) (E:XK),cR 1 (A.deeper (c6 "first_where" (aW CS) s.heap.objs.size f z))->xF s.heap H j qual params body scope dD ->
   kU (oI P w K mg base ["entries", "holds", "start", "end", "middle"] "first_where" (aW CS) f z A outer s H E) (λ_=>E) (eQ CS) (IV j (nZ fb (dD.map (·.2)))):=by
 intro j dD U f z A outer s H E hr d;subst U;have S:=c;have a:=q;exact(bA (cW 2 aL)
  (bA (cW 3 (fP pV rfl B.len PySem.boot_len (aF (vv 0) aO)))
  (bA (RO (λ_ _=>1000000) bK.passes (fX tO (vv 2) (vv 3) (eP _))
   (bA (cW 4 (aY rH (aY (dQ aw) (vv 2) (vv 3)) aL))
   (bG (gJ (qA (afY (i:=1) rfl d S hr.m e a rfl oIr (bH (vv 0) (vv 4) bC)))
    (bG (cW 3 (vv 4)))
    (bG (cW 2 (aY (dQ aw) (vv 4) aL)))))))
  (bG (dB (vv 2))))))
theorem ajQ:cS ["_law_script", "_law_k", "_law_cell_here"] ["_law_script", "_law_k"] (aW Cd):=dX
theorem azB(B:dN mg)(h:HasFn K mg "_law_cell" Cd)(j:PU P w K mg base):adL P w K mg base :=
 cQ.o h ajQ λhr=>(bA (cW 2 aL)
  (bA (gJ (fX tO (vv 1) (fP pV rfl B.len PySem.boot_len (aF (vv 0) aO)) (eP _))
   (bG (cW 2 (aY nK (bH (vv 0) (vv 1) bC) aL)))
   gQ)
  (bG (dB (fJ bK j hr.m rfl (aF (vv 2) (aF (aY (dQ aw) (vv 1) aL) aO)))))))
theorem ajR:cS ["_law_row", "_law_cell_here", "_law_kind", "_law_found", "_law_k", "_law_step_here", "_law_number_here"] ["_law_row", "_law_cell_here", "_law_kind"] (aW Ce):=dX
theorem azC(B:dN mg)(h:HasFn K mg "_law_asked_for" Ce)(j:PU P w K mg base)(q:Lx P w K mg base):adK P w K mg base :=
 cQ.o h ajR λhr=>(bA (cW 3 (mO a5 aO))
  (bA (rE bK.passes rfl (ZO rfl B.range (aF aL aO)) (fG 4)
   (bA (cW 5 (fJ bK j hr.m rfl (aF (vv 1) (aF (aY (dQ aw) aL (vv 4)) aO))))
   (bA (cW 6 (fJ bK q hr.m rfl (aF (vv 5) (aF (vv 2) aO))))
   (bA (gJ (VW.vt (Qh (fX (DE hr.units) (vv 0) (mO aw aO) (eP _)) (Qg (fX tO (vv 4) aL (eP _)))))
    (bG (cW 6 (aY (dQ aw) (bH (bH (vv 0) (aY nK (vv 5) (fP pV rfl B.len PySem.boot_len (aF (vv 0) aO))) bC) aL bC) (bH (mO aw (aF aL (aF aL (aF aL (aF (Qk aL) aO))))) (aY nK (aY rH (vv 5) aL) aL) bC))))
    gQ)
   (bG (oN (CK PySem.F.plainAttrs_list PySem.F.slot_list_append PySem.F.type_list_append GW GZ (vv 3) (aF (vv 6) aO))))))))
  (bG (dB (vf 3)))))
theorem ai5:cS ["row", "entries", "number", "stands"] ["row"] (aW Bj):=dX
theorem ayM(B:dN mg)(h:HasFn K mg "of_row" Bj)(j:cQ P w K mg base "look_row" 1 ["row"] YR)(q:cQ P w K mg base "places_of" 2 ["row"] QP):cQ P w K mg base "of_row" 3 ["row"] QR :=
 cQ.o h ai5 λhr=>(bA (cW 1 (mO a5 aO))
  (bA (rE bK.passes rfl (afU (fJ bK q hr.m rfl (aF (vv 0) aO))) (sF rfl (jQ (fG 2) (jQ (fG 3) sE)))
   (bA (oN (CK PySem.F.plainAttrs_list PySem.F.slot_list_append PySem.F.type_list_append GW GZ (vv 1) (aF (rF (aF (vv 2) (aF (bH (vv 3) aL bC) (aF (bH (vv 3) aL bC) aO)))) aO)))
   (bG (gJ (fX (DE hr.units) (bH (vv 3) aL bC) (bH (vv 3) aL bC) (eP _))
    (bG (oN (CK PySem.F.plainAttrs_list PySem.F.slot_list_append PySem.F.type_list_append GW GZ (vv 1) (aF (rF (aF (vv 2) (aF (bH (vv 3) aL bC) (aF (bH (vv 3) aL bC) aO)))) aO))))
    gQ))))
  (bG (dB (rF (aF (fJ bK j hr.m rfl (aF (vv 0) aO)) (aF aL (aF aL (aF (vf 1) aO)))))))))
theorem ai8:cS ["one", "other", "entries", "at", "other_at"] ["one", "other"] (aW Bm):=dX
theorem ayP(B:dN mg)(h:HasFn K mg "merged_entries" Bm)(q:Ty1 P w K mg base)(j:adN P w K mg base):adJ P w K mg base :=
 cQ.o h ai8 λhr=>(bA (cW 2 (mO a5 aO))
  (bA (cW 3 aL)
  (bA (cW 4 aL)
  (bA (RO (λ_ _=>1000000) bK.passes (VW.vt (tM (fX tO (vv 3) (fP pV rfl B.len PySem.boot_len (aF (bH (vv 0) aL bC) aO)) (eP _)) (uR (fX tO (vv 4) (fP pV rfl B.len PySem.boot_len (aF (bH (vv 1) aL bC) aO)) (eP _)))))
   (bG (gJ (qA (fJ bK q hr.m rfl (aF (bH (vv 0) aL bC) (aF (vv 3) (aF (bH (vv 1) aL bC) (aF (vv 4) aO))))))
    (bA (oN (CK PySem.F.plainAttrs_list PySem.F.slot_list_append PySem.F.type_list_append GW GZ (vv 2) (aF (fJ bK j hr.m rfl (aF (bH (bH (vv 0) aL bC) (vv 3) bC) (aF (vv 1) (aF (vv 4) aO)))) aO)))
    (bG (cW 3 (aY (dQ aw) (vv 3) aL))))
    (bA (oN (CK PySem.F.plainAttrs_list PySem.F.slot_list_append PySem.F.type_list_append GW GZ (vv 2) (aF (fJ bK j hr.m rfl (aF (bH (bH (vv 1) aL bC) (vv 4) bC) (aF (vv 0) (aF (vv 3) aO)))) aO)))
    (bG (cW 4 (aY (dQ aw) (vv 4) aL)))))))
  (bG (dB (vf 2)))))))
theorem ai1:cS ["pouch", "keep", "size", "slack"] ["pouch", "keep"] (aW Bf):=dX
theorem ayG(B:dN mg)(h:HasFn K mg "thinned" Bf)(j:adM P w K mg base):adI P w K mg base :=
 cQ.o h ai1 λhr=>(bA (cW 2 (bH (vv 0) aL bC))
  (bA (cW 3 (aY (dQ aw) (bH (vv 0) aL bC) (aY rH (vv 2) (vv 1))))
  (bG (dB (rF (aF (vv 2) (aF (vv 3) (aF (aY (dQ aw) (bH (vv 0) aL bC) aL) (aF (fJ bK j hr.m rfl (aF (bH (vv 0) aL bC) (aF (vv 3) aO))) aO)))))))))
theorem ai0:cS ["pouch", "number"] ["pouch", "number"] (aW AH):=dX
theorem ayF(B:dN mg)(h:HasFn K mg "upto" AH)(N:XQ P w K mg base)(g:HasFn K mg "first_where" CS)(q:PV K mg base "upto"):cQ P w K mg base "upto" 3 ["pouch", "number"] KJ:=by
 refine cQ.ofT h q ai0 (λ_ _ _ _ _ _ j hl=>xU j hl bC) (λc l b U f A outer s H E hr=>?_);exact(bG (dB (fJ bK N hr.m rfl (aF (vv 0) (aF (Qn (k:=0) (js:=[1]) (cs:=["number"]) (y := "entry") (fb:=IT) (bfw:=IV) (kf:=1) b U q.blt rfl rfl rfl (QN.of (aW AH) ["pouch", "number"] rfl rfl (by decide +kernel)) g rfl Th (λ_ _ _ _ _ _ j hl=>xU j hl bC) (λe=>acF B e (λ_ _ _ _ _=>rfl) (λf i cl A outer s H hr=>(xQ DF (bH (vv 0) aL bC) (vv 1) (eP _)))) (λd ns a z r h=>M.aaV d _ a z r h) hr.m rfl (bH (vv 0) aL bC)) aO)))))
theorem ajF:cS ["pouch", "number"] ["pouch", "number"] (aW AI):=dX
theorem ay0(B:dN mg)(h:HasFn K mg "below" AI)(N:XQ P w K mg base)(g:HasFn K mg "first_where" CS)(q:PV K mg base "below"):cQ P w K mg base "below" 3 ["pouch", "number"] KP:=by
 refine cQ.ofT h q ajF (λ_ _ _ _ _ _ j hl=>xU j hl bC) (λc l b U f A outer s H E hr=>?_);exact(bG (dB (fJ bK N hr.m rfl (aF (vv 0) (aF (Qn (k:=1) (js:=[1]) (cs:=["number"]) (y := "entry") (fb:=IW) (bfw:=IV) (kf:=1) b U q.blt rfl rfl rfl (QN.of (aW AI) ["pouch", "number"] rfl rfl (by decide +kernel)) g rfl Th (λ_ _ _ _ _ _ j hl=>xU j hl bC) (λe=>acF B e (λ_ _ _ _ _=>rfl) (λf i cl A outer s H hr=>(xQ Vr (bH (vv 0) aL bC) (vv 1) (eP _)))) (λd ns a z r h=>M.aaV d _ a z r h) hr.m rfl (bH (vv 0) aL bC)) aO)))))
theorem akB:cS ["self", "keep"] ["self", "keep"] (aW GP):=dX
theorem aA1(B:dN mg)(N:FN P w K mg base "RankPouch" "__init__" 1 2 RC)(q:eN K ["Gaps"] "laid")(z:eN K ["Gaps"] "newest")(f:az)(j:au)(A:bx)(outer:ar Env)(s:ay)(H:Hp)(E:XK)(hr:cR 2 (A.deeper (c6 "Gaps.__init__" (aW GP) s.heap.objs.size f j))) :
  kU (oI P w K mg base ["self", "keep"] "Gaps.__init__" (aW GP) f j A outer s H E) (λ_=>E) (eQ GP) XI:=by
 exact(bA (oN (af7 bK N rfl hr.m (aF (vv 0) (aF (vv 1) aO))))
  (bA (ZM (wD (vv 0) LI z))
  (bG (ZM (wD (vv 0) LI q)))))
theorem ayA(B:dN mg)(N:FN P w K mg base "RankPouch" "__init__" 1 2 RC)(q:eN K ["Gaps"] "laid")(z:eN K ["Gaps"] "newest"){cls:bh}(h:Nr K mg cls "Gaps.__init__" GP):JH P w K mg base cls 3 2 xJ:=JH.of h akB (λ_ _ _ _ _ _ j hl=>xU j hl bC) (aA1 B N q z)
theorem ai9:cS ["one", "other", "size", "slack", "depth"] ["one", "other"] (aW Bn):=dX
theorem ayQ(B:dN mg)(h:HasFn K mg "merged" Bn)(j:adJ P w K mg base):adH P w K mg base :=
 cQ.o h ai9 λhr=>(bA (cW 2 (aY (dQ aw) (bH (vv 0) aL bC) (bH (vv 1) aL bC)))
  (bA (cW 3 (aY (dQ aw) (bH (vv 0) aL bC) (bH (vv 1) aL bC)))
  (bA (cW 4 (fP (IQ rfl) rfl B.max boot_max (aF (bH (vv 0) aL bC) (aF (bH (vv 1) aL bC) aO))))
  (bG (dB (rF (aF (vv 2) (aF (vv 3) (aF (vv 4) (aF (fJ bK j hr.m rfl (aF (vv 0) (aF (vv 1) aO))) aO))))))))))
theorem aj7:cS ["self"] ["self"] (aW Cv):=dX
theorem azS(B:dN mg)(q:cQ P w K mg base "of_row" 3 ["row"] QR)(j:eN K ["Gaps"] "newest"){cls:bh}(h:mL K mg cls "newest_pouch" "Gaps.newest_pouch" Cv):cH P w K mg base cls "newest_pouch" 4 1 [] CB :=
 cH.o h aj7 λhr=>(bG (dB (fJ bK q hr.m rfl (aF (ZQ aw rfl (vv 0) j rfl B.list) aO))))
theorem aj8:cS ["self", "part", "level"] ["self", "part", "level"] (aW Cw):=dX
theorem azT(B:dN mg)(z:adH P w K mg base)(N:adI P w K mg base)(q:eN K ["Gaps"] "keep")(j:eN K ["Gaps"] "laid"){cls:bh}(h:mL K mg cls "lay" "Gaps.lay" Cw):cH P w K mg base cls "lay" 5 3 [] CC :=
 cH.o h aj8 λhr=>(bA (RO (λ_ _=>1000000) bK.passes (afR (cR.AA hr) (vv 2) (vv 0) j)
   (bA (ZL (i:=0) (f := "laid") (cW 1 (fJ bK N hr.m rfl (aF (fJ bK z hr.m rfl (aF (af4 (nR (vv 0) j) (vv 2) ⟨rfl,rfl,rfl,rfl⟩) (aF (vv 1) aO))) (aF (nR (vv 0) q) aO)))))
   (bG (cW 2 (aY (dQ aw) (vv 2) aL)))))
  (bG (ZL (i:=0) (f := "laid") (RQ (cR.AA hr) (nR (vv 0) j) (vv 2) (vv 1)))))
theorem aj5:cS ["self"] ["self"] (aW Ct):=dX
theorem azQ(B:dN mg)(j:eN K ["Gaps"] "laid")(q:adG P w K mg base){cls:bh}(h:mL K mg cls "parts" "Gaps.parts" Ct):cH P w K mg base cls "parts" 5 1 [] uL :=
 cH.o h aj5 λhr=>(bG (dB (aY (dQ aw) (mO aw (aF (nF bK (bU.cons q hr.m bU.nil) (vv 0)) aO)) (af2 aw rfl (vv 0) j rfl B.list))))
theorem aj3:cS ["self", "number", "times"] ["self", "number", "times"] (aW Cr):=dX
theorem azO(B:dN mg)(q:eN K ["Gaps"] "keep")(j:eN K ["Gaps"] "newest")(z:cH P w K mg base "Gaps" "lay" 5 3 [] CC)(N:adG P w K mg base){cls:bh}(h:mL K mg cls "take" "Gaps.take" Cr):cH P w K mg base cls "take" 6 3 [] FT :=
 cH.o h aj3 λhr=>(bA (ZL (i:=0) (f := "newest") (RQ (cR.AA hr) (nR (vv 0) j) (vv 1) (aY (dQ aw) (Qo (cR.AA hr) (nR (vv 0) j) (vv 1) aL ⟨rfl,rfl,rfl,rfl⟩) (vv 2))))
  (bG (gJ (fX DF (af3 (vv 0) j rfl B.len) (nR (vv 0) q) (eP _))
   (bA (oN (oO bK (bU.cons z hr.m bU.nil) (vv 0) (aF (nF bK (bU.cons N hr.m bU.nil) (vv 0)) (aF aL aO))))
   (bG (ZM (wD (vv 0) LI j))))
   gQ)))
theorem aj9:cS ["self", "numbers", "part"] ["self"] (aW Cy):=dX
theorem azU(B:dN mg)(j:XS P w K mg base){cls:bh}(h:mL K mg cls "kept" "Gaps.kept" Cy):cH P w K mg base cls "kept" 6 1 [] xH :=
 cH.o h aj9 λhr=>(bA (cW 1 (mO a5 aO))
  (bA (rE bK.passes rfl (nE (nF bK (bU.cons j hr.m bU.nil) (vv 0))) (fG 2)
   (bG (oN (CK PySem.F.plainAttrs_list PySem.F.slot_list_extend PySem.F.type_list_extend apP ap8 (vv 1) (aF (uT aw ["entry"] [] (nE (bH (vv 2) aL bC)) ⟨(fG 0),uS,(bH (vv 0) aL bC)⟩) aO)))))
  (bG (dB (vf 1)))))
theorem aj6:cS ["self"] ["self"] (aW Cu):=dX
theorem azR(B:dN mg)(j:XS P w K mg base){cls:bh}(h:mL K mg cls "off" "Gaps.off" Cu):cH P w K mg base cls "off" 6 1 [] zT :=
 cH.o h aj6 λhr=>(bG (dB (fP (EU rfl) rfl B.sum boot_sum (aF (uT aw ["part"] [] (nE (nF bK (bU.cons j hr.m bU.nil) (vv 0))) ⟨(fG 0),uS,(bH (vv 0) aL bC)⟩) aO))))
theorem aj1:cS ["self", "number"] ["self", "number"] (aW Cp):=dX
theorem azM(B:dN mg)(z:Ly P w K mg base)(q:cQ P w K mg base "upto_asks" 3 ["pouch", "number"] KJ)(j:XS P w K mg base){cls:bh}(h:mL K mg cls "upto" "Gaps.upto" Cp):cH P w K mg base cls "upto" 6 2 [] vW :=
 cH.o h aj1 λhr=>(bG (dB (fJ bK z hr.m rfl (aF (uT aw ["part"] [1] (nE (nF bK (bU.cons j hr.m bU.nil) (vv 0))) ⟨(fG 0),uS,(Qp (ps:=["pouch", "number"]) q.calm (by exact hr.mono (by first|decide|omega)) (by exact rfl) (aF (vv 0) (aF (vv 1) aO)))⟩) aO))))
theorem akA:cS ["self", "number"] ["self", "number"] (aW Cz):=dX
theorem azV(B:dN mg)(z:Ly P w K mg base)(q:cQ P w K mg base "below_asks" 3 ["pouch", "number"] KP)(j:XS P w K mg base){cls:bh}(h:mL K mg cls "below" "Gaps.below" Cz):cH P w K mg base cls "below" 6 2 [] xI :=
 cH.o h akA λhr=>(bG (dB (fJ bK z hr.m rfl (aF (uT aw ["part"] [1] (nE (nF bK (bU.cons j hr.m bU.nil) (vv 0))) ⟨(fG 0),uS,(Qp (ps:=["pouch", "number"]) q.calm (by exact hr.mono (by first|decide|omega)) (by exact rfl) (aF (vv 0) (aF (vv 1) aO)))⟩) aO))))
theorem Ti:cS ["self", "number", "times"] ["self", "number", "times"] (aW CT):=dX
theorem acG(B:dN mg)(q:eN K ["Gaps"] "many")(j:eN K ["Gaps"] "taken")(N:XR P w K mg base)(U:XO P w K mg base)(f:az)(z:au)(A:bx)(outer:ar Env)(s:ay)(H:Hp)(E:XK)(hr:cR 6 (A.deeper (c6 "Pouch.put" (aW CT) s.heap.objs.size f z))) :
  kU (oI P w K mg base ["self", "number", "times"] "Pouch.put" (aW CT) f z A outer s H E) (λ_=>E) (eQ CT) XD:=by
 exact(bA (gJ (fX tO (vv 2) aL (eP _))
   (bG RP)
   gQ)
  (bA (oN (oO bK (bU.cons N hr.m bU.nil) (vv 0) (aF (vv 2) aO)))
  (bA (oN (oO bK (bU.cons U hr.m bU.nil) (vv 0) (aF (vv 1) (aF (vv 2) aO))))
  (bA (wD (vv 0) (aY (dQ aw) (nR (vv 0) q) (vv 2)) q)
  (bG (wD (vv 0) (aY (dQ aw) (nR (vv 0) j) aL) j))))))
theorem azG(B:dN mg)(U:eN K ["Gaps"] "many")(N:eN K ["Gaps"] "taken")(j:XR P w K mg base)(q:XO P w K mg base){cls:bh}{tk:Tok}(h:YN K mg cls "put" "Pouch.put" CT #[.int 1 tk]):cH P w K mg base cls "put" 7 3 [] FR:=cH.ofD (ds:=[]) (dvs:=[]) h .nil (λ_ _ => .nil) Ti (λ_ _ _ _ _ _ _ z hl=>match z,hl with|[_,_,_],_=>⟨_,rfl,rfl⟩) (acG B U N j q)
theorem ax8(B:dN mg)(U:eN K ["Gaps"] "many")(N:eN K ["Gaps"] "taken")(j:XR P w K mg base)(q:XO P w K mg base){cls:bh}{tk:Tok}(h:YN K mg cls "put" "Pouch.put" CT #[.int 1 tk]):cH P w K mg base cls "put" 7 3 [.int 1] FR:=cH.ofD (ds:=[.int 1 tk]) (dvs:=[.int 1]) h (.cons ⟨_,rfl⟩ .nil) (λ_ _ => .cons (by simp only[V2.Den]) .nil) Ti (λ_ _ _ _ _ _ _ z hl=>match z,hl with|[_,_],_=>⟨_,rfl,rfl⟩) (acG B U N j q)
theorem ajZ:cS ["self"] ["self"] (aW Co):=dX
theorem azL(B:dN mg)(j:cH P w K mg base "Gaps" "kept" 6 1 [] xH){cls:bh}(h:mL K mg cls "held" "Pouch.held" Co):cH P w K mg base cls "held" 7 1 [] zS :=
 cH.o h ajZ λhr=>(bG (dB (fP pV rfl B.len PySem.boot_len (aF (nF bK (bU.cons j hr.m bU.nil) (vv 0)) aO))))
theorem ajV:cS ["self"] ["self"] (aW Cj):=dX
theorem azH(B:dN mg)(j:cH P w K mg base "Gaps" "kept" 6 1 [] xH){cls:bh}(h:mL K mg cls "numbers" "Pouch.numbers" Cj):cH P w K mg base cls "numbers" 7 1 [] CA :=
 cH.o h ajV λhr=>(bG (dB (afW a5 rfl rfl B.sorted rfl B.set (nF bK (bU.cons j hr.m bU.nil) (vv 0)))))
theorem ajT:cS ["self", "one", "other"] ["self", "one", "other"] (aW Cg):=dX
theorem azE(B:dN mg)(q:Ty3 P w K mg base)(z:cH P w K mg base "Gaps" "below" 6 2 [] xI)(j:Mb P w K mg base){cls:bh}(h:mL K mg cls "between" "RankPouch.between" Cg):cH P w K mg base cls "between" 7 3 [] QX :=
 cH.o h ajT λhr=>(bA (gJ (fX tO (vv 2) (vv 1) (eP _))
   (bG (dB (rF (aF aL (aF aL aO)))))
   gQ)
  (bG (dB (fJ bK q hr.m rfl (aF (oO bK (bU.cons z hr.m bU.nil) (vv 0) (aF (vv 1) aO)) (aF (oO bK (bU.cons j hr.m bU.nil) (vv 0) (aF (vv 2) aO)) aO))))))
theorem aj2:cS ["self", "other", "laid", "runs", "level", "part", "number", "times"] ["self", "other"] (aW Cq):=dX
theorem azN(B:dN mg)(q:eN K ["Gaps"] "laid")(z:eN K ["Gaps"] "newest")(N:cH P w K mg base "Gaps" "lay" 5 3 [] CC)(j:XO P w K mg base){cls:bh}(h:mL K mg cls "take_in" "Gaps.take_in" Cq):cH P w K mg base cls "take_in" 7 2 [] YU :=
 cH.o h aj2 λhr=>(bA (cW 2 (ZQ aw rfl (vv 1) q rfl B.list))
  (bA (cW 3 (ZQ aw rfl (vv 1) z rfl B.list))
  (bA (rE bK.passes rfl (nE (vv 2)) (sF rfl (jQ (fG 4) (jQ (fG 5) sE)))
   (bG (oN (oO bK (bU.cons N hr.m bU.nil) (vv 0) (aF (vv 5) (aF (vv 4) aO))))))
  (bG (rE bK.passes rfl (nE (vv 3)) (sF rfl (jQ (fG 6) (jQ (fG 7) sE)))
   (bG (oN (oO bK (bU.cons j hr.m bU.nil) (vv 0) (aF (vv 6) (aF (vv 7) aO))))))))))
theorem ajY:cS ["self", "other"] ["self", "other"] (aW Cn):=dX
theorem azK(B:dN mg)(z:eN K ["Gaps"] "keep")(j:eN K ["Gaps"] "many")(q:eN K ["Gaps"] "taken")(N:XR P w K mg base)(U:cH P w K mg base "Gaps" "same_kind" 1 2 [] RD)(a:cH P w K mg base "Gaps" "take_in" 7 2 [] YU){cls:bh}(h:mL K mg cls "join" "Pouch.join" Cn):cH P w K mg base cls "join" 8 2 [] QZ :=
 cH.o h ajY λhr=>(bA (gJ (VW.vt (tM (sD (qA (oO bK (bU.cons U hr.m bU.nil) (vv 0) (aF (vv 1) aO)))) (uR (fX (DE hr.units) (nR (vv 1) z) (nR (vv 0) z) (eP _)))))
   (bG RP)
   gQ)
  (bA (oN (oO bK (bU.cons N hr.m bU.nil) (vv 0) (aF (nR (vv 1) j) aO)))
  (bA (oN (oO bK (bU.cons a hr.m bU.nil) (vv 0) (aF (vv 1) aO)))
  (bA (wD (vv 0) (aY (dQ aw) (nR (vv 0) j) (nR (vv 1) j)) j)
  (bG (wD (vv 0) (aY (dQ aw) (nR (vv 0) q) (nR (vv 1) q)) q))))))
theorem ajS:cS ["self", "number"] ["self", "number"] (aW Cf):=dX
theorem azD(B:dN mg)(j:cH P w K mg base "Gaps" "between" 7 3 [] QX){cls:bh}(h:mL K mg cls "counted" "RankPouch.counted" Cf):cH P w K mg base cls "counted" 8 2 [] KQ :=
 cH.o h ajS λhr=>(bG (dB (oO bK (bU.cons j hr.m bU.nil) (vv 0) (aF (vv 1) (aF (vv 1) aO)))))
theorem ajM:cS ["_law_pouch", "_law_number_here"] ["_law_pouch", "_law_number_here"] (aW Bz):=dX
theorem ay7(B:dN mg)(h:HasFn K mg "_law_looks" Bz)(z:cH P w K mg base "Gaps" "held" 7 1 [] zS)(j:Ma P w K mg base)(N:adF P w K mg base)(U:cH P w K mg base "Gaps" "off" 6 1 [] zT)(a:cH P w K mg base "Gaps" "puts" 1 1 [] BZ)(q:Mb P w K mg base):adE P w K mg base :=
 cQ.o h ajM λhr=>(bG (dB (mO aw (aF (nF bK (bU.cons j hr.m bU.nil) (vv 0)) (aF (nF bK (bU.cons a hr.m bU.nil) (vv 0)) (aF (nF bK (bU.cons z hr.m bU.nil) (vv 0)) (aF (nF bK (bU.cons U hr.m bU.nil) (vv 0)) (aF (nF bK (bU.cons N hr.m bU.nil) (vv 0)) (aF (oO bK (bU.cons q hr.m bU.nil) (vv 0) (aF (vv 1) aO)) aO)))))))))
theorem ajN:cS ["_law_pouches", "_law_rows", "_law_puts", "_law_one", "_law_other", "_law_number_here", "_law_before", "_law_total"] ["_law_pouches", "_law_rows", "_law_puts", "_law_one", "_law_other", "_law_number_here"] (aW Ca):=dX
theorem ay8(B:dN mg)(h:HasFn K mg "_law_joined" Ca)(j:adE P w K mg base)(N:cH P w K mg base "Gaps" "join" 8 2 [] QZ)(q:Ma P w K mg base)(U:cH P w K mg base "Gaps" "puts" 1 1 [] BZ):Lz P w K mg base :=
 cQ.o h ajN (bind:=λ_ _ _ _ _ _ z hl=>us6 z hl (λ_ _ _ _ _ _=>rfl)) λhr=>(bA (cW 6 (fJ bK j hr.m rfl (aF (bH (vv 0) (vv 4) bC) (aF (vv 5) aO))))
  (bA (cW 7 (aY (dQ aw) (fP (EU rfl) rfl B.sum boot_sum (aF (uT aw ["_law_value", "_law_times_here"] [] (nE (bH (vv 1) (vv 3) bC)) ⟨(sF rfl (jQ (fG 0) (jQ (fG 1) sE))),uS,(vv 1)⟩) aO)) (fP (EU rfl) rfl B.sum boot_sum (aF (uT aw ["_law_value", "_law_times_here"] [] (nE (bH (vv 1) (vv 4) bC)) ⟨(sF rfl (jQ (fG 0) (jQ (fG 1) sE))),uS,(vv 1)⟩) aO))))
  (bA (gJ (VW.vt (tM (fX Vr (vv 7) aL (eP _)) (uR (fX DF (aY (dQ aw) (fP pV rfl B.len PySem.boot_len (aF (bH (vv 1) (vv 3) bC) aO)) (fP pV rfl B.len PySem.boot_len (aF (bH (vv 1) (vv 4) bC) aO))) aL (eP _)))))
   (bG (dB pH))
   gQ)
  (bA (oN (oO bK (bU.cons N hr.m bU.nil) (bH (vv 0) (vv 3) bC) (aF (bH (vv 0) (vv 4) bC) aO)))
  (bA (LG (aY (dQ aw) (bH (vv 1) (vv 3) bC) (bH (vv 1) (vv 4) bC)) (RR (vv 1) (vv 3)))
  (bA (LG (aY (dQ aw) (bH (vv 2) (vv 3) bC) (bH (vv 2) (vv 4) bC)) (RR (vv 2) (vv 3)))
  (bA (gJ (VW.vt (tM (fX (DE hr.units) (nF bK (bU.cons q hr.m bU.nil) (bH (vv 0) (vv 3) bC)) (vv 7) (eP _)) (uR (fX (DE hr.units) (nF bK (bU.cons U hr.m bU.nil) (bH (vv 0) (vv 3) bC)) (bH (vv 2) (vv 3) bC) (eP _)))))
   (bG (dB pH))
   gQ)
  (bG (dB (ZP (xQ (tP hr.units) (vv 3) (vv 4) (eP _)) (RT (xQ (tP hr.units) (fJ bK j hr.m rfl (aF (bH (vv 0) (vv 4) bC) (aF (vv 5) aO))) (vv 6) (eP _)))))))))))))
theorem ajI:cS ["_law_pouch", "_law_row", "_law_puts", "_law_keep", "_law_numbers", "_law_total", "_law_bits", "_law_apart", "_law_number_here", "_law_under", "_law_many"] ["_law_pouch", "_law_row", "_law_puts", "_law_keep", "_law_numbers"] (aW Bv):=dX
theorem ay3(B:dN mg)(h:HasFn K mg "_law_right" Bv)(N:Ty7 P w K mg base)(U:Ty9 P w K mg base)(j:Ty8 P w K mg base)(b:cH P w K mg base "Gaps" "below" 6 2 [] xI)(a:cH P w K mg base "Gaps" "counted" 8 2 [] KQ)(c:cH P w K mg base "Gaps" "held" 7 1 [] zS)(q:Ma P w K mg base)(d:adF P w K mg base)(e:cH P w K mg base "Gaps" "off" 6 1 [] zT)(z:Mb P w K mg base):adD P w K mg base :=
 cQ.o h ajI λhr=>(bA (cW 5 (fP (EU rfl) rfl B.sum boot_sum (aF (uT aw ["_law_value", "_law_times_here"] [] (nE (vv 1)) ⟨(sF rfl (jQ (fG 0) (jQ (fG 1) sE))),uS,(vv 1)⟩) aO)))
  (bA (cW 6 (fJ bK U hr.m rfl (aF (aY rH (vv 2) (aY (dQ aw) (vv 3) aL)) aO)))
  (bA (cW 7 (nF bK (bU.cons e hr.m bU.nil) (vv 0)))
  (bA (gJ (VW.vt (tM (sD (Qi vC vC (fP pV rfl B.len PySem.boot_len (aF (nF bK (bU.cons d hr.m bU.nil) (vv 0)) aO)) (nF bK (bU.cons c hr.m bU.nil) (vv 0)) (aY sI (aY (dQ aw) (aY sI aL (vv 3)) aL) (aY (dQ aw) (vv 6) aL)))) (uR (fX (DE hr.units) (nF bK (bU.cons q hr.m bU.nil) (vv 0)) (vv 5) (eP _)))))
   (bG (dB pH))
   gQ)
  (bA (gJ (sD (Qi vC vC aL (vv 7) (aY rH (aY sI (fP (IQ rfl) rfl B.max boot_max (aF aL (aF (aY sH (vv 6) aL) aO))) (vv 5)) (vv 3))))
   (bG (dB pH))
   gQ)
  (bA (rE bK.passes rfl (nE (vv 4)) (fG 8)
   (bA (LG (fJ bK N hr.m rfl (aF (vv 1) (aF (vv 8) aO))) (sF rfl (jQ (fG 9) (jQ (fG 10) sE))))
   (bA (gJ (VW.vt (tM (sD (qA (fJ bK j hr.m rfl (aF (oO bK (bU.cons z hr.m bU.nil) (vv 0) (aF (vv 8) aO)) (aF (vv 10) (aF (vv 7) aO)))))) (uR (sD (qA (fJ bK j hr.m rfl (aF (oO bK (bU.cons b hr.m bU.nil) (vv 0) (aF (vv 8) aO)) (aF (vv 9) (aF (vv 7) aO)))))))))
    (bG (dB pH))
    gQ)
   (bG (gJ (sD (qA (fJ bK j hr.m rfl (aF (oO bK (bU.cons a hr.m bU.nil) (vv 0) (aF (vv 8) aO)) (aF (aY sH (vv 10) (vv 9)) (aF (aY sI aL (vv 7)) aO))))))
    (bG (dB pH))
    gQ)))))
  (bG (dB pH))))))))
theorem ajH:cS ["_law_pouches", "_law_rows", "_law_puts", "_law_cell_here", "_law_kind", "_law_one", "_law_number_here", "_law_times_here"] ["_law_pouches", "_law_rows", "_law_puts", "_law_cell_here", "_law_kind"] (aW Bu):=dX
theorem ay2(B:dN mg)(h:HasFn K mg "_law_step" Bu)(z:Lz P w K mg base)(j:PU P w K mg base)(N:Lx P w K mg base)(q:cH P w K mg base "Gaps" "put" 7 3 [] FR):adC P w K mg base :=
 cQ.o h ajH λhr=>(bA (cW 5 (aY nK (vv 3) aL))
  (bA (cW 6 (fJ bK N hr.m rfl (aF (fJ bK j hr.m rfl (aF (vv 3) (aF aL aO))) (aF (vv 4) aO))))
  (bA (gJ (fX (tP hr.units) (aY nK (aY rH (vv 3) aL) aL) aL (eP _))
   (bG (dB (fJ bK z hr.m rfl (aF (vv 0) (aF (vv 1) (aF (vv 2) (aF (vv 5) (aF (aY nK (aY rH (vv 3) aL) aL) (aF (vv 6) aO)))))))))
   gQ)
  (bA (cW 7 (bH (mO aw (aF aL (aF aL (aF (aY (dQ aw) aL (aY nK (aY rH (vv 3) aL) aL)) (aF (aY (dQ aw) aL (aY nK (aY rH (vv 3) aL) aL)) aO))))) (aY nK (aY rH (vv 3) aL) aL) bC))
  (bA (gJ (VW.vt (Qh (fX tO (aY (dQ aw) (fP (EU rfl) rfl B.sum boot_sum (aF (uT aw ["_law_value", "_law_many"] [] (nE (bH (vv 1) (vv 5) bC)) ⟨(sF rfl (jQ (fG 0) (jQ (fG 1) sE))),uS,(vv 1)⟩) aO)) (vv 7)) aL (eP _)) (Qg (fX tO (fP pV rfl B.len PySem.boot_len (aF (bH (vv 1) (vv 5) bC) aO)) aL (eP _)))))
   (bA (oN (oO bK (bU.cons q hr.m bU.nil) (bH (vv 0) (vv 5) bC) (aF (vv 6) (aF (vv 7) aO))))
   (bA (LG (aY (dQ aw) (bH (vv 1) (vv 5) bC) (mO aw (aF (rF (aF (vv 6) (aF (vv 7) aO))) aO))) (RR (vv 1) (vv 5)))
   (bG (LG (aY (dQ aw) (bH (vv 2) (vv 5) bC) aL) (RR (vv 2) (vv 5))))))
   gQ)
  (bG (dB pH)))))))
theorem ajB:cS ["_law_script", "_law_first", "_law_kind", "_law_keep", "_law_pouches", "_law_rows", "_law_puts", "_law_cells", "_law_k", "_law_cell_here", "_law_other"] ["_law_script"] (aW xY):=dX
theorem ayT{f:az}{fd:cx}(B:dN mg)(F:uJ K "law" "law" xY f fd)(N:adK P w K mg base)(q:adL P w K mg base)(b:Lz P w K mg base)(z:PU P w K mg base)(U:adD P w K mg base)(a:adC P w K mg base)(j:JH P w K mg base "Gaps" 3 2 xJ):iI P w K mg base (pE P w) 11 f fd ["_law_script"] (tN K 1 aeK):=by
 refine aa1 F ajB (λ_ _ _ _ _ _ _ hr=>?_);exact(bA (cW 1 (fJ bK q hr.m rfl (aF (vv 0) (aF aL aO))))
  (bA (cW 2 (aY nK (vv 1) aL))
  (bA (cW 3 (aY (dQ aw) aL (aY nK (aY rH (vv 1) aL) aL)))
  (bA (cW 4 (mO aw (aF (RU j hr.m rfl (aF (vv 3) aO)) (aF (RU j hr.m rfl (aF (vv 3) aO)) (aF (RU j hr.m rfl (aF (vv 3) aO)) (aF (RU j hr.m rfl (aF (vv 3) aO)) aO))))))
  (bA (cW 5 (mO a5 (aF (mO aw aO) (aF (mO aw aO) (aF (mO aw aO) (aF (mO aw aO) aO))))))
  (bA (cW 6 (mO a5 (aF aL (aF aL (aF aL (aF aL aO))))))
  (bA (cW 7 (fP (IQ rfl) rfl B.max boot_max (aF aL (aF (aY sH (fP pV rfl B.len PySem.boot_len (aF (vv 0) aO)) aL) aO))))
  (bA (rE bK.passes rfl (ZO rfl B.range (aF (fP (aAR rfl) rfl B.min boot_min (aF aL (aF (fP (IQ rfl) rfl B.max boot_max (aF (vv 7) (aF (aY nK (aY rH (vv 1) aL) aL) aO))) aO))) aO)) (fG 8)
   (bA (cW 9 (fJ bK z hr.m rfl (aF (fJ bK q hr.m rfl (aF (vv 0) (aF (aY (dQ aw) aL (aY nK (vv 8) (fP (IQ rfl) rfl B.max boot_max (aF aL (aF (vv 7) aO))))) aO))) (aF (vv 8) aO))))
   (bG (gJ (sD (qA (fJ bK a hr.m rfl (aF (vv 4) (aF (vv 5) (aF (vv 6) (aF (vv 9) (aF (vv 2) aO))))))))
    (bG (dB pH))
    gQ))))
  (bA (rE bK.passes rfl (nE (mO aw (aF aL (aF aL (aF aL aO))))) (fG 10)
   (bG (gJ (sD (qA (fJ bK b hr.m rfl (aF (vv 4) (aF (vv 5) (aF (vv 6) (aF aL (aF (vv 10) (aF aL aO)))))))))
    (bG (dB pH))
    gQ)))
  (bA (rE bK.passes rfl (ZO rfl B.range (aF aL aO)) (fG 8)
   (bG (gJ (sD (qA (fJ bK U hr.m rfl (aF (bH (vv 4) (vv 8) bC) (aF (bH (vv 5) (vv 8) bC) (aF (bH (vv 6) (vv 8) bC) (aF (vv 3) (aF (fJ bK N hr.m rfl (aF (bH (vv 5) (vv 8) bC) (aF (vv 1) (aF (vv 2) aO)))) aO))))))))
    (bG (dB pH))
    gQ)))
  (bG (dB pH))))))))))))
end
theorem all_mk{l:OpenLaw}{w:bz}{K:bu}{h:b9}{mg:bh->ax au}{fa fl:az}{od an:ax az}{sl:ba (ax au)}{oc kV dc pm F ct:au}(X:K.In h)(G:h.Ns bo mg)(E:mg "law" = aq (.ref fa))
  (al:nsIn K bo "law" = aq (aq (.ref fl))) (ll:K.lookup fl=aq ⟨oc,od,.func (et "law" "law" (jE xY) (eQ xY) (aW xY) .none kV dc pm an F ct),sl⟩) (lc:codeIn K F "law" = a5) (lk:ek K (.ref fl)=a5)
  {o r a:az} {aoP aoM aBG:ax az} {aiB ah9:ba (ax au)} {ZK:ba au} {aoS arF S amH H:au} (Lq:nsIn K bo "upto" = aq (aq (.ref o))) (Wu:K.lookup o=aq ⟨aoS,aoM,.func (et "upto" "upto" (jE AH) (eQ AH) (aW AH) .none arF S amH aBG (.ref r) H),ah9⟩) (L:codeIn K (.ref r) "upto" = a5) (aq3:ek K (.ref o)=a5)
  {n p U:az} {aoQ aoN aBH:ax az} {aiC aiA:ba (ax au)} {ZN:ba au} {aoT arG R amI Q:au} (Lr:nsIn K bo "below" = aq (aq (.ref n))) (Wv:K.lookup n=aq ⟨aoT,aoN,.func (et "below" "below" (jE AI) (eQ AI) (aW AI) .none arG R amI aBH (.ref p) Q),aiA⟩) (I:codeIn K (.ref p) "below" = a5) (aq4:ek K (.ref n)=a5)
  (B:dN mg)
  (avG:HasFn K mg "near_enough" Bk)
  (avK:HasFn K mg "look_row" Bo)
  (avE:HasFn K mg "packed" Bi)
  (avD:HasFn K mg "places_of" Bh)
  (avF:HasFn K mg "of_row" Bj)
  (avJ:HasFn K mg "merged" Bn)
  (avI:HasFn K mg "merged_entries" Bm)
  (avM:HasFn K mg "goes_first" Bq)
  (avH:HasFn K mg "moved" Bl)
  (avN:HasFn K mg "bounds_ahead" Br)
  (avB:HasFn K mg "thinned" Bf)
  (avL:HasFn K mg "kept_entries" Bp)
  (avP:HasFn K mg "apart" Bt)
  (avC:HasFn K mg "summed" Bg)
  (IA:HasFn K mg "first_where" CS)
  (avU:HasFn K mg "_law_mix" By)
  (T:HasFn K mg "_law_cell" Cd)
  (avT:HasFn K mg "_law_number" Bx)
  (V:HasFn K mg "_law_counts" Cc)
  (avS:HasFn K mg "_law_pair" Bw)
  (W:HasFn K mg "_law_figures" Cb)
  (av0:HasFn K mg "_law_asked_for" Ce)
  (avV:HasFn K mg "_law_looks" Bz)
  (avW:HasFn K mg "_law_joined" Ca)
  (avQ:HasFn K mg "_law_step" Bu)
  (avR:HasFn K mg "_law_right" Bv)
  (IB:∃t,mg "LONGEST" = aq (.int 1000000000 t))
  {j:az} (q:nsIn K bo "Gaps" = aq (aq (.ref j))) (z:nQ K j)
  (apL:dq K (.ref j) "keep" = aq av)
  (apK:dq K (.ref j) "laid" = aq av)
  (apJ:dq K (.ref j) "many" = aq av)
  (apI:dq K (.ref j) "newest" = aq av)
  (apH:dq K (.ref j) "taken" = aq av)
  (ar9:dq K (.ref j) "__class__" = aq (aq (.builtin "object.__class__"))) (ar3:specialIn K (.builtin "object.__class__") "__get__" = aq (aq (.builtin "getset_descriptor.__get__"))) (arU:takesIn K (.builtin "object.__class__")=aq a5) (ar4:mroIn K j (.type "object")=aq a5)
  {ag6:Tok} (Uc:YA K j "put" "Pouch.put" CT #[.int 1 ag6])
  (alH:mI K j "join" "Pouch.join" Cn)
  (alD:mI K j "look_room" "Pouch.look_room" Ck)
  (alE:mI K j "length" "Pouch.length" Cm)
  (ak8:mI K j "puts" "Pouch.puts" Ci)
  (alI:mI K j "held" "Pouch.held" Co)
  (alB:mI K j "numbers" "Pouch.numbers" Cj)
  (alK:mI K j "between" "RankPouch.between" Cg)
  (alJ:mI K j "counted" "RankPouch.counted" Cf)
  (alM:YL K j "Gaps.__init__" GP)
  (ak7:mI K j "same_kind" "Gaps.same_kind" Cs)
  (ak6:mI K j "take" "Gaps.take" Cr)
  (ak5:mI K j "take_in" "Gaps.take_in" Cq)
  (alF:mI K j "lay" "Gaps.lay" Cw)
  (alC:mI K j "newest_pouch" "Gaps.newest_pouch" Cv)
  (ak9:mI K j "parts" "Gaps.parts" Ct)
  (alG:mI K j "kept" "Gaps.kept" Cy)
  (alA:mI K j "off" "Gaps.off" Cu)
  (ak4:mI K j "upto" "Gaps.upto" Cp)
  (alL:mI K j "below" "Gaps.below" Cz)
  (au3:YO K mg "RankPouch" "__init__" "Pouch.__init__" GO)
  (aBL:nsIn K bo "below_asks" = aq (aq (.ref n)))
  (aBK:nsIn K bo "upto_asks" = aq (aq (.ref o)))
  {b:ar az}
  (aqO:K.lookup r=aq ⟨.type "code",aoP,.fields ZK,aiB⟩)
  (aqQ:K.lookup p=aq ⟨.type "code",aoQ,.fields ZN,aiC⟩)
  (Xy:ZK[11]?=aq (.ref a)) (Zg:Hk ZK r a=a5)
  (Xz:ZN[11]?=aq (.ref U)) (Zh:Hk ZN p U=a5)
  (hsub:a∈b/\U∈b) (hnd:[a,U].Nodup) (hall:∀P∈b,P=a\/P=U)
  : ∃fd:cx,(∀(s:ay) (v:au),BindsTo s fd ⟨[v],[]⟩ [("_law_script",v)])/\(∀P∈b,∃c,codeHdIn K c P=a5)/\∀base:b9,K.In base->base.Ns bo mg->xK base mg->iI l.prog w K mg base CF 11 fa fd ["_law_script"] (SS K b):=by
 have e:=E.symm.trans (mg_of X G al);cases e;have i:eN K ["Gaps"] "keep":=OQ q z apL (OP);have k:eN K ["Gaps"] "laid":=OQ q z apK (OP);have N:eN K ["Gaps"] "many":=OQ q z apJ (OP);have m:eN K ["Gaps"] "newest":=OQ q z apI (OP);have d:eN K ["Gaps"] "taken":=OQ q z apH (OP);have Mc:=arV q z ar9 ar3 arU ar4;have Nu:Nt K mg "Gaps":=⟨j,mg_of X G q,q⟩;have FL:=OF (st:=xY) ll lc lk;have avA:HasFn K mg "upto" AH:=iZ X G Lq Wu L aq3;obtain⟨Rt,Rq⟩:=Rx (st:=AH) Lq Wu aqO Xy Zg;have avO:HasFn K mg "below" AI:=iZ X G Lr Wv I aq4;obtain⟨Ru,Rr⟩:=Rx (st:=AI) Lr Wv aqQ Xz Zh;refine⟨et "law" "law" (jE xY) (eQ xY) (aW xY) .none kV dc pm an F ct,λs v => .of_eq rfl,?_,λbase KB GB BB=>?_⟩
 ·intro P hP
  rcases hall P hP with e|e
  ·rw[e];exact⟨_,Rq⟩
  ·rw[e];exact⟨_,Rr⟩
 have XT:PV K mg base "upto":=⟨KB,GB,BB,_,_,Rt,Rq⟩;have XU:PV K mg base "below":=⟨KB,GB,BB,_,_,Ru,Rr⟩;have Oe:=@ayN l.prog w K mg base B avG;have Oh:=@ayR l.prog w K mg base B avK IB;have Oc:=@ayL l.prog w K mg base B avE;have Oj:=@ayW l.prog w K mg base B avM;have u:=@ayZ l.prog w K mg base B avN;have Om:=@ay1 l.prog w K mg base B avP;have KR:=@ayH l.prog w K mg base B avC;have f:=@ay6 l.prog w K mg base B avU;have KS:=@ay5 l.prog w K mg base B avT;have Ou:=@azA l.prog w K mg base B V;have RF:=@ay4 l.prog w K mg base B avS;have Ot:=@ay9 l.prog w K mg base B W;have QK:=@ayC l.prog w K mg base B i N d _ au3;have C:=@azI l.prog w K mg base B IB N _ (alD.has X G q z);have x:=@azJ l.prog w K mg base B N _ (alE.has X G q z);have JI:=@azF l.prog w K mg base B d _ (ak8.has X G q z);have Mq:=@azP l.prog w K mg base B Nu Mc _ (ak7.has X G q z);have Ob:=@ayK l.prog w K mg base B avD Oc;have YV:=@ayO l.prog w K mg base B avH u;have Oi:=@ayU l.prog w K mg base B avL Oe;have YX:=@azB l.prog w K mg base B T f;have Ov:=@azC l.prog w K mg base B av0 f KS;have Od:=@ayM l.prog w K mg base B avF Oh Ob;have Of:=@ayP l.prog w K mg base B avI Oj YV;have Oa:=@ayG l.prog w K mg base B avB Oi;have aCS:=@ayF l.prog w K mg base B avA u IA XT;have Nz:=aCS.alias (y := "upto_asks") ((mg_of X G aBK).trans (mg_of X G Lq).symm);have aCT:=@ay0 l.prog w K mg base B avO u IA XU;have Ol:=aCT.alias (y := "below_asks") ((mg_of X G aBL).trans (mg_of X G Lr).symm);have KC:=@ayA l.prog w K mg base B QK k m _ (alM.has X G q);have Og:=@ayQ l.prog w K mg base B avJ Of;have JL:=@azS l.prog w K mg base B Od m _ (alC.has X G q z);have JM:=@azT l.prog w K mg base B Og Oa i k _ (alF.has X G q z);have g:=@azQ l.prog w K mg base B k JL _ (ak9.has X G q z);have D:=@azO l.prog w K mg base B i m JM JL _ (ak6.has X G q z);have JN:=@azU l.prog w K mg base B g _ (alG.has X G q z);have JJ:=@azR l.prog w K mg base B g _ (alA.has X G q z);have A:=@azM l.prog w K mg base B KR Nz g _ (ak4.has X G q z);have JP:=@azV l.prog w K mg base B KR Ol g _ (alL.has X G q z);have Mr:=@azG l.prog w K mg base B N d C D _ _ (Uc.has X G q z);have aFY:=@ax8 l.prog w K mg base B N d C D _ _ (Uc.has X G q z);have JO:=@azL l.prog w K mg base B JN _ (alI.has X G q z);have JK:=@azH l.prog w K mg base B JN _ (alB.has X G q z);have Mu:=@azE l.prog w K mg base B Om JP A _ (alK.has X G q z);have Mp:=@azN l.prog w K mg base B k m JM D _ (ak5.has X G q z);have YW:=@ay7 l.prog w K mg base B avV JO x JK JJ JI A;have Ms:=@azK l.prog w K mg base B i N d C Mq Mp _ (alH.has X G q z);have Mt:=@azD l.prog w K mg base B Mu _ (alJ.has X G q z);have KU:=@ay8 l.prog w K mg base B avW YW Ms x JI;have Oq:=@ay3 l.prog w K mg base B avR Ou Ot RF JP Mt JO x JK JJ A;have Oo:=@ay2 l.prog w K mg base B avQ KU f KS Mr;exact aqW [(a, "upto",⟨93,53,93,84⟩,AS "upto"),(U, "below",⟨96,53,96,85⟩,AS "below")] hnd (by simp only[dU,zJ,yD,forall_eq_or_imp,forall_eq];exact hsub) (by simp only[dU,zJ,yD,forall_eq_or_imp,forall_eq];exact⟨⟨_,Rt⟩,⟨_,Ru⟩⟩) (ayT B FL Ov YX KU f Oq Oo KC) M.aqY
theorem walk{l:OpenLaw}{q:bp}{loose:ar bh}{XP:(bh->ax au)->b9->Prop}{YP:bz->b9->Prop}{d:DefRec}{K:Params->bu}{j:ar az}(hn:l.most=aq 63)(b:d.params.defaults=[])
  (B:∀(w:bz) (h:b9),YP w h->(K w.params).In h/\∀P∈j,h.get? P=aq (tabObj #[])) (N:∀w:bz,noTabs (K w.params)=a5)
  (F:∀(w:bz) (mg:bh->ax au) (fa:az) (h:b9),(K w.params).In h->h.Ns bo mg->mg d.name=aq (.ref fa) ->
   ∃fd:cx,(∀(s:ay) (u:au),BindsTo s fd ⟨[u],[]⟩ [("_law_script",u)])/\(∀P∈j,∃c,codeHdIn (K w.params) c P=a5)/\∀base:b9,(K w.params).In base->base.Ns bo mg->xK base mg->iI l.prog w (K w.params) mg base CF 11 fa fd ["_law_script"] (SS (K w.params) j)) :
  PySem.W.WalkO q loose XP YP l.row.toRowW d [] (λf vs=>PySem.call f vs) :=
 L2.afP (n:=63) (k:=11) (x := "_law_script") (CX:=λ_=>CF) (sp:=λw=>SS (K w.params) j) hn (by decide) b ⟨rfl,by decide,by decide⟩ B N F (λ_ _ a ns hl _ U hS=>⟨a,ns,rfl,hS,hl,U,λ_=>rfl⟩) λ_ _ _ _ _ z=>z
end Nh
open PySem PySem.W PyProof.Rows
namespace HD
open PySem PySem.W PyProof.Rows
noncomputable def TB(B:dk->ax Builtin)(p:bp)(w:bz)(lo:a9)(j:ax au):a9->SharedT->Thread->ax SharedT
 |0,_,_=>av
 |m+1,x,th=>bif through th then aq x else bif stepOk lo j th then(stepT (denote B) p w x th).bind (λy=>TB B p w lo j m y.1 y.2)else av
theorem akM{B:dk->ax Builtin}{p:bp}{w:bz}{lo:a9}{j:ax au}(m:a9) :
  ∀(x y:SharedT) (th:Thread),TB B p w lo j m x th=aq y->topRun B p w lo j m x.abs th=aq y.abs:=by
 induction m with
 |zero=>intro x y th z;cases z
 |succ m ih =>
  intro x y th z;unfold TB at z;unfold topRun;cases a:through th <;> rw[a]at z
  ·cases b:stepOk lo j th <;> rw[b]at z
   ·cases z
   ·obtain⟨u,N,q⟩:=Me.mp (show(stepT (denote B) p w x th).bind _=aq y from z);dsimp only;rw[stepT_spec (s':=u.1) (t':=u.2) N];exact ih _ _ _ q
  ·cases z;rfl
noncomputable def grow:ar cz->BT->a9->BT
 |[],T,_=>T
 |o::l,T,n=>grow l (T.ins n o) (n+1)
noncomputable def boot(w:bz)(os:OsState):SharedT:=⟨grow (ee w.params).objs.toList .nil 0,11,(ee w.params).life,#[],boot_drawn,boot_toks,os⟩
noncomputable def ends(p:bp)(N:a9)(w:bz)(os:OsState):ax SharedT:=TB treeTable p w 11 (aq (.ref 6)) N (boot w os) (topStub p)
theorem aAV(w:bz):((ee w.params).isNs bo&&(#[]:ba GenState).size==0,(ee w.params).objs.size,(ee w.params).nsMap bo "__annotations__")=(a5,11,aq (Value.ref 6)):=by kernel_rfl
theorem boot_abs(w:bz)(os:OsState):(boot w os).abs=⟨ee w.params,#[],boot_drawn,boot_toks,os⟩:=by kernel_rfl
noncomputable def fits(p:bp)(h:b9)(y:SharedT):bt:=staticsOk (importedModules p.main.body) h y.abs.heap&&namesBound p y.abs.heap&&gensDone y.abs&&laidKept h y.abs.heap
theorem left{p q:bp}{loose:ar bh}{Xt:ay->bt}{α:Type}{Yf:ay->α}{Ya:bz->α}{N:a9}{U:bt}
  (plain:opening p=plainProg p.main.scope.names) (e:Nat.ble 600 N=a5) (fence:∀s,fenceModules? p s=aq s)
  (tests:∀(w:bz) (os:OsState),(ends p N w os).map (fits p (ee w.params))=aq a5)
  (Er:∀(w:bz) (os:OsState),(ends p N w os).map (λy=>openSeen q loose (importedModules p.main.body) Xt U y.abs)=aq (openGood q loose))
  (hook:∀(w:bz) (os:OsState),(ends p N w os).map (λy=>Yf y.abs)=aq (Ya w)) :
  LeftO p q loose Xt Yf Ya N U:=by
 intro w;obtain⟨⟨g,h,i,tk,os⟩,d,B⟩:=FD.mp (boot_open plain e fence w);simp only[PY]at B;obtain⟨rfl,rfl,rfl,rfl⟩:=B;have bs:=aAV w;simp only[PY]at bs;obtain⟨y,z,f⟩:=FD.mp (tests w os);have b:=Er w os;have a:=hook w os;rw[z]at b a;have j:=akM _ _ _ _ z;rw[boot_abs]at j;have c:topFrom treeTable p w N ⟨ee w.params,#[],boot_drawn,boot_toks,os⟩=aq y.abs:=by
  unfold topFrom;dsimp only;rw[bs.1,bs.2.1,bs.2.2,j];show(match fits p (ee w.params) y with|true=>aq y.abs|false=>av)=aq y.abs;rw[f]
 show((fencedOpening treeTable p w N).bind (topFrom treeTable p w N)).map _=_;rw[d,Option.bind_some,c,JE,lD,PY];exact⟨kJ b,kJ a⟩
set_option maxRecDepth 100000
set_option compiler.extract_closed false
set_option genSizeOf false
set_option bootstrap.genMatcherCode false
set_option maxHeartbeats 0
noncomputable def arE(ds:ar a9)(l:ar cb):ar cb:=@List.rec cb (λ_=>a9->ar cb) (λ_=>[]) (λs _ f i=>@Bool.rec (λ_=>ar cb) (s::f (Nat.succ i)) (f (Nat.succ i)) (ds.any (Nat.beq i))) l 0
noncomputable def kept:bp:={PySem.Challenge.pw_rankpouch_k42_gaps_joined with main:={PySem.Challenge.pw_rankpouch_k42_gaps_joined.main with body:=arE [1,6,8,13,23,31,34,36] PySem.Challenge.pw_rankpouch_k42_gaps_joined.main.body} }
noncomputable def seenX(s:ay):bt:=xlAt kept [] s&&recOk (RowW.records (OpenRow.toRowW (OpenLaw.row PySem.Challenge.rw_rankpouch_k42_gaps_joined))) s
theorem said:OpenLaw.wellSaid PySem.Challenge.rw_rankpouch_k42_gaps_joined=a5:=by kernel_rfl
theorem plain:opening PySem.Challenge.pw_rankpouch_k42_gaps_joined=plainProg PySem.Challenge.pw_rankpouch_k42_gaps_joined.main.scope.names:=by kernel_rfl
theorem fence(s:ay):fenceModules? PySem.Challenge.pw_rankpouch_k42_gaps_joined s=aq s:=by kernel_rfl
theorem tests(w:bz)(os:OsState):(ends PySem.Challenge.pw_rankpouch_k42_gaps_joined 7314 w os).map (fits PySem.Challenge.pw_rankpouch_k42_gaps_joined (ee w.params))=aq a5:=by kernel_rfl
theorem Er(w:bz)(os:OsState):(ends PySem.Challenge.pw_rankpouch_k42_gaps_joined 7314 w os).map (λy=>openSeen kept [Str.ofString "upto_asks",Str.ofString "below_asks"] (importedModules PySem.Challenge.pw_rankpouch_k42_gaps_joined.main.body) seenX a5 y.abs)=aq (openGood kept [Str.ofString "upto_asks",Str.ofString "below_asks"]):=by kernel_rfl
end HD
open PySem PySem.W PyProof.Rows
local macro_rules
 | `(tactic| o_head $H) => `(tactic| refine holds_open (q := HD.kept) (loose := [Str.ofString "upto_asks", Str.ofString "below_asks"]) (N := 7314) (Xt := HD.seenX)
   (XP := XL HD.kept []) (Yf := Hook.obs $H) (Ya := Hook.val $H) (YP := Hook.says $H)
   ?_ (Hook.of $H) (Hook.keeps $H) (fun s e => xl_of s (Bool.and_eq_true_iff.mp e).1) XL.keeps
   (by rfl) (by rfl) (by rfl) (fun s e => recFacts_of (Bool.and_eq_true_iff.mp e).2)
   (by rfl) (by assumption) (by decide +kernel) ⟨rfl, rfl, rfl, rfl, rfl, by decide +kernel⟩ ?_ ?_)
set_option maxRecDepth 100000 in
set_option maxHeartbeats 0 in
theorem PySem.Challenge.cw_rankpouch_k42_gaps_joined_holds : PySem.Challenge.rw_rankpouch_k42_gaps_joined.Holds := by
 w_on
 refine holds_law HD.said λsaid=>?_
 k_head
 ·clear said
  refine HD.left HD.plain (by kernel_rfl) HD.fence HD.tests HD.Er ?_
  intro w os
  kernel_rfl
 ·clear said
  w_witness2
 clear said
 k_fill
 refine Nh.walk (l:=PySem.Challenge.rw_rankpouch_k42_gaps_joined) rfl rfl (λw h ρ=>⟨PySem.W.km_in_of ρ,PySem.W.km_tabs_of ρ⟩) (λw=>by kernel_rfl) ?F
 case F =>
  intro w mg fa h KX G NK
  refine' Nh.all_mk KX G NK ?_ ?_ ?_ ?_ ?_ ?_ ?_ ?_ ?_ ?_ ?_ ?_ ⟨tR KX G ?_,tR KX G ?_,tR KX G ?_,tR KX G ?_,tR KX G ?_,tR KX G ?_,tR KX G ?_,tR KX G ?_,tR KX G ?_,tR KX G ?_,tR KX G ?_,tR KX G ?_,tR KX G ?_⟩ (L2.iZ KX G ?_ ?_ ?_ ?_) (L2.iZ KX G ?_ ?_ ?_ ?_) (L2.iZ KX G ?_ ?_ ?_ ?_) (L2.iZ KX G ?_ ?_ ?_ ?_) (L2.iZ KX G ?_ ?_ ?_ ?_) (L2.iZ KX G ?_ ?_ ?_ ?_) (L2.iZ KX G ?_ ?_ ?_ ?_) (L2.iZ KX G ?_ ?_ ?_ ?_) (L2.iZ KX G ?_ ?_ ?_ ?_) (L2.iZ KX G ?_ ?_ ?_ ?_) (L2.iZ KX G ?_ ?_ ?_ ?_) (L2.iZ KX G ?_ ?_ ?_ ?_) (L2.iZ KX G ?_ ?_ ?_ ?_) (L2.iZ KX G ?_ ?_ ?_ ?_) (L2.iZ KX G ?_ ?_ ?_ ?_) (L2.iZ KX G ?_ ?_ ?_ ?_) (L2.iZ KX G ?_ ?_ ?_ ?_) (L2.iZ KX G ?_ ?_ ?_ ?_) (L2.iZ KX G ?_ ?_ ?_ ?_) (L2.iZ KX G ?_ ?_ ?_ ?_) (L2.iZ KX G ?_ ?_ ?_ ?_) (L2.iZ KX G ?_ ?_ ?_ ?_) (L2.iZ KX G ?_ ?_ ?_ ?_) (L2.iZ KX G ?_ ?_ ?_ ?_) (L2.iZ KX G ?_ ?_ ?_ ?_) (L2.iZ KX G ?_ ?_ ?_ ?_) (V2.az1 KX G ?_) ?_ ⟨?_,?_,?_,?_⟩ ?_ ?_ ?_ ?_ ?_ ?_ ?_ ?_ ?_ (V2.apO ?_ ?_ ?_ ?_ ?_ ?_) (V2.nW ?_ ?_ ?_ ?_ ?_) (V2.nW ?_ ?_ ?_ ?_ ?_) (V2.nW ?_ ?_ ?_ ?_ ?_) (V2.nW ?_ ?_ ?_ ?_ ?_) (V2.nW ?_ ?_ ?_ ?_ ?_) (V2.nW ?_ ?_ ?_ ?_ ?_) (V2.nW ?_ ?_ ?_ ?_ ?_) (V2.nW ?_ ?_ ?_ ?_ ?_) (V2.ar2 ?_ ?_ ?_ ?_ ?_ ?_ ?_) (V2.nW ?_ ?_ ?_ ?_ ?_) (V2.nW ?_ ?_ ?_ ?_ ?_) (V2.nW ?_ ?_ ?_ ?_ ?_) (V2.nW ?_ ?_ ?_ ?_ ?_) (V2.nW ?_ ?_ ?_ ?_ ?_) (V2.nW ?_ ?_ ?_ ?_ ?_) (V2.nW ?_ ?_ ?_ ?_ ?_) (V2.nW ?_ ?_ ?_ ?_ ?_) (V2.nW ?_ ?_ ?_ ?_ ?_) (V2.nW ?_ ?_ ?_ ?_ ?_) (V2.aA2 KX G ?_ ?_ ?_ ?_ ?_ ?_ ?_) ?_ ?_ ?_ ?_ ?Xy ?Zg ?Xz ?Zh ?hsub ?hnd ?hall <;> try first|exact(show(_)[_]?=aq (Value.ref _)from rfl)|k_is|kernel_rfl|k_exc
  (case hsub=>decide)
  (case hnd=>decide)
  (case hall=>intro P hP;first|simpa using hP|(simp at hP;omega)|(simp only[dU,zJ,yD]at hP;rcases hP with e|e <;> simp[e];done)|(simp only[dU,zJ,yD]at hP;rcases hP with e|e|e <;> simp[e]))
