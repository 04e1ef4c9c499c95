import PyProof.Rows.All
import KE.IntTextLaws
import KE.KDictSum
import KE.KIsAll
import KE.KLam
import KE.KNestM
import KE.KRevIter
import KE.KSortTup
import KE.LcSums
import PySem.Challenge.RW_rankpouch_k71_window_counts
set_option Elab.async false
set_option linter.all false
set_option maxRecDepth 100000
set_option compiler.extract_closed false
set_option genSizeOf false
set_option bootstrap.genMatcherCode false
noncomputable section
open PySem renaming wpAny_bind->aJ,wpAny_pure->aY,wpAny_mono->lV,wpAny_newObj_type->qC,sizeLine_eq->rD,codeAny_mono->uJ,wpAny_call_entry->uZ,wpAny_rule->wL,wpAny_ite_false->wM,wpAny_truthy_bool->yI,wpAny_setField_rec->zZ,wpAny_setState_of->CQ,wpAny_holding->CS,wpAny_field->CT,wpAny_askSetting->CU,wpAny_Call_Name_kw->CV,wpAny_setEntries_of->GL,wpAny_passesOwn->GN,wpAny_callSpecial?_slot->GO,wpAny_call->GP,wpAny_attempt->GQ,codeAny_builtin->JB,wpAny_loadPart_at->KW,wpAny_fieldsOf->KY,wpAny_execs_nil->RR,plainId_quiet->TY,wpAny_ite_true->ZX,wpAny_isInstance->ZY,fits_of_scanBound->Jk,wpAny_newFunctionEnv_cells->Pr,codeAny_call_function->abR,codeAny_call_builtin->abS
open PyProof.Rows renaming wpS_bind->bJ,wpS_pure->cP,wpS_mono->oH,wpS_forRange->qB,wpS_get->yH,wpS_modify->GK,boot_isinstance->PU,get?_update_seq->WJ,callWith_type1->Ma,slot_tuple_getitem->adA
open Ne renaming symm->cX
open List renaming getElem?_eq_some_iff->cY,map_cons->dE,mem_cons->dY,getElem?_set_ne->dZ,getElem?_set_self->eV,getElem?_eq_getElem->fF,length_append->gF,getElem?_append_left->iD,mem_cons_of_mem->iP,length_cons->iZ,length_map->jG,getElem?_map->jH,size_toArray->kD,append_assoc->kE,mem_append_right->kK,mem_append->kL,mem_singleton->lT,mem_of_getElem?->mJ,mem_append_left->oB,mem_map->oZ,getElem?_append_right->pY,append_nil->rW,take_append_drop->tN,pairwise_append->uT,not_mem_nil->wG,nil_append->wH,map_map->xW,sum_cons->zO,map_append->zP,getElem?_eq_none->zQ,filterMap_cons->zR,ext_getElem?->zS,set_set->BW,length_take->BX,length_set->BY,length_nil->BZ,getElem_of_mem->CA,perm_append_comm->FK,nodup_cons->FN,map_nil->FP,find?_cons->FQ,all_eq_true->FR,take_of_length_le->JZ,lookup_cons->KA,length_drop->KC,getElem?_take->KD,flatten_cons->KG,pairwise_cons->QT,map_congr_left->QU,getElem_mem->QV,drop_eq_getElem_cons->QW,cons_append->QX,take_sublist->YT,of_mem_zip->YU,mem_singleton_self->YV,eq_nil_of_length_eq_zero->YW,take_zero->Mn,nodup_append->Mp,mem_of_mem_drop->Mq,map_drop->Mr,getElem_drop->Ms,getElem?_cons_succ->Mt,any_cons->Mu,take_add_one->adN,mem_of_mem_take->adO,mem_map_of_mem->adP,getElem?_range->adQ,getElem?_drop->adR,drop_of_length_le->adS
open PySem.Heap renaming get?_push_of_some->dI,lt_size->dQ,get?_push_size->gU,get?_update_other->uU,size_push->KL,get?_update_self->ZF
open _root_ renaming if_true->eT,if_false->gH,decide_eq_false->nY,getElem?_pos->oR,or_false->vG,decide_eq_true->vT,beq_iff_eq->xR,beq_eq_false_iff_ne->xS,decide_eq_true_eq->BI,dif_pos->JA,decide_true->PF,decide_false->PJ,decide_eq_false_iff_not->PK,beq_self_eq_true->XN,of_decide_eq_true->Ea
open Nat renaming ne_of_lt->fW,lt_of_lt_of_le->lH,le_trans->rT,le_refl->rV,zero_add->xU,zero_le->BR,lt_or_ge->BS,le_succ->FJ,ne_of_gt->JT,lt_succ_self->YO,lt_succ_of_lt->YQ,le_of_not_lt->Mf
open Array renaming length_toList->gL,getElem?_toList->mM,toList_push->GJ,getElem?_eq_some_iff->RN,toList_extract->ZQ,perm_iff_toList_perm->ZR,getElem?_eq_getElem->Ol,toList_append->ad8,getElem?_eq_none_iff->ad9
open Bool renaming false_eq_true->jW,and_eq_true->lK,not_eq_true'->ZP,false_ne_true->ad6
open Option.some renaming inj->kJ,injEq->kS
open Int renaming le_refl->lJ,eq_ofNat_of_zero_le->CB,emod_lt_of_pos->CC,add_mul->CD,toNat_natCast->FX,emod_nonneg->FY,ediv_nonneg->FZ,mul_le_mul_of_nonneg_right->ZA,le_trans->ZC,le_of_lt->Nc,ediv_le_self->Nd,lt_mul_ediv_self_add->adW
open PySem.W renaming mg_none_of->tZ
open List.cons renaming injEq->xX
open Option renaming map_eq_some_iff->BQ,map_some->QO,bind_eq_some_iff->QP
open Classical renaming choose_spec->CM
open List.Perm renaming refl->FT,append_left->KH
open Prod.mk renaming injEq->QL
open PySem.Around renaming under_plainId->ZS
open PySem.Calls renaming spliced_cons->Oa,evalArgs_plain->ad2,callWith_builtin->ad3
open PyProof.Rows.F renaming plain_set_update_loop->adB,entry_set_update_loop->aG1
open PySem.F renaming typeOf_object_class->ad0
open Option renaming some->ao,none->au
open _root_ renaming List->aq,Option->aw,Int->a4,Nat->a6,Array->a8,if_pos->a9,if_neg->bb,Bool->br,absurd->b7,False->cp,String->c4,Decidable->c5,congrArg->c7,StateT->df,ForInStep->ek,beq_eq_false_iff_ne->e4
open PySem renaming Value->av,Shared->ay,Addr->az,mainGlobals->a7,Str->ba,sizeLine->bf,starEach->bg,Program->bh,model->bq,Around->bu,World->bw,Expr->bx,Heap->bz,Stmt->b8,compareOp->b9,eval->cj,rawInt->ck,Scope->cn,SetTable->cq,foldedSetIterable->cw,sliceBounds->cy,backTo->cz,FuncData->c3,Obj->c6,binaryOp->c9,intKind->da,excClassObj->di,Arguments->dj,bindArgs->dk,Pos->dn,bootBuiltins->dq,assignEach->du,attributeBase->dw,NameKind->dy,sysModules->ea,swapsWith->ej,firstArgMember->et,scanBound->eu,Model->ez,pyNext->e7,behindInMarks->e8,keywordEach->fm
open Bool renaming false->ax,true->a5
open PyProof.Rows renaming Keyed->bc,SortSt->bo,arrOf->bp,pendingOf->cb,elem'->cv,envOfC->c8,IntsAre->de,seqObj->dh,wpS_pure->dm,SortKind->dz,failedOf->d9,reverseSlice'->ff,sortedHeap->fj
open PySem.W renaming Frag->bj,findIn->cg,subIn->cu,nsIn->cx,boot_heap->ew,fnOf->e9,kia_one->fg,emptyDict->fk
theorem oIr{α:Sort _}{a:α}{q:Prop}:a=a\/q:=Or.inl rfl
theorem cE{α β j:Sort _}{f:α->β->j}:∀x y,f x y=f x y:=λ_ _=>rfl
theorem cJ{n:a6}:n<=n:=rV n
theorem IE{n:a4}:n<=n:=lJ n
theorem rG{α:Type _}{a:α}{l:aq α}:a∈a::l:=List.mem_cons_self ..
theorem HS{n:a6}:0<=n:=BR n
open PySem.W (Frag Looks OpenLaw callWith_K cellsFrom_some codeHdIn codeIn codeRec_of emptyDict envX excIn findIn fnOf hasDictIn instObj isFn keepIn kia_one kitAny kitOne kla_fn kla_obj lookIn looks_findIn looks_subIn makesIn methodObj mg_of mroIn noTabs nsIn plainGet plainGet_of subIn tabIn tabObj takerIn)
namespace L2
open PySem PySem.Spec PyProof.Rows
abbrev Key:=Sum a4 ba
noncomputable def IA:Key->av->br
 |.inl k,v=>Value.isInt k v
 |.inr x,v=>Value.isStrOf x v
noncomputable def atA(w:bw):Key->a4
 |.inl k=>hashInt k
 |.inr x=>hashStr w x
theorem vL:∀{k:Key} {v:av},IA k v=a5->(∃i t,k=Sum.inl i/\v=Value.int i t)\/(∃x t,k=Sum.inr x/\v=Value.str x t)
 |.inl i,v,h=>by
  obtain⟨t,e⟩:=Value.isInt_shape (k:=i) (v:=v) h;exact .inl ⟨i,t,rfl,e⟩
 |.inr x,v,h=>by
  obtain⟨t,e⟩:=Value.isStrOf_shape (x:=x) (v:=v) h;exact .inr ⟨x,t,rfl,e⟩
theorem as9(i:a4)(t:Tok):IA (.inl i) (.int i t)=a5:=by simp[IA,Value.isInt]
theorem as8(x:ba)(t:Tok):IA (.inr x) (.str x t)=a5:=by simp[IA,Value.isStrOf]
theorem as7(a b:a4):decide ((Sum.inl a:Key)=Sum.inl b)=(a==b):=by
 by_cases e:a=b
 ·subst e;simp
 ·have h:¬(Sum.inl a:Key)=Sum.inl b:=λq=>e (Sum.inl.inj q);rw[nY h];exact(xS.mpr e).symm
theorem as4(a b:ba):decide ((Sum.inr a:Key)=Sum.inr b)=decide (a=b):=by
 by_cases e:a=b
 ·subst e;simp
 ·have h:¬(Sum.inr a:Key)=Sum.inr b:=λq=>e (Sum.inr.inj q);rw[nY h,nY e]
theorem as6(a:a4)(b:ba):decide ((Sum.inl a:Key)=Sum.inr b)=ax:=nY (λq=>nomatch q)
theorem as5(a:ba)(b:a4):decide ((Sum.inr a:Key)=Sum.inl b)=ax:=nY (λq=>nomatch q)
def mB(prog:bh)(w:bw):PySem.KeyKind prog w Key where
 is:=IA
 hash:=atA w
 inj:=λv a b z hb=>by
  rcases vL z with⟨i,t,rfl,rfl⟩|⟨x,t,rfl,rfl⟩
  ·rcases vL hb with⟨j,u,rfl,e⟩|⟨y,u,rfl,e⟩
   ·injection e with e1 _;rw[e1]
   ·exact nomatch e
  ·rcases vL hb with⟨j,u,rfl,e⟩|⟨y,u,rfl,e⟩
   ·exact nomatch e
   ·injection e with e1 _;rw[e1]
 byValue:=λk v h=>by
  rcases vL h with⟨i,t,rfl,rfl⟩|⟨x,t,rfl,rfl⟩ <;> rfl
 pyHash:=λhv h=>by
  rcases vL hv with⟨i,t,rfl,rfl⟩|⟨x,t,rfl,rfl⟩
  ·exact wpAny_pyHash_int h
  ·exact wpAny_pyHash_str h
 eqBool:=λq hv h=>by
  rcases vL q with⟨i,t,rfl,rfl⟩|⟨x,t,rfl,rfl⟩
  ·rcases vL hv with⟨j,u,rfl,rfl⟩|⟨y,u,rfl,rfl⟩
   ·rw[as7]at h;exact wpAny_eqBool_int h
   ·rw[as6]at h;exact SeqAt.EqAt.int_str i t y u _ _ _ _ h
  ·rcases vL hv with⟨j,u,rfl,rfl⟩|⟨y,u,rfl,rfl⟩
   ·rw[as5]at h;exact SeqAt.EqAt.str_int x t j u _ _ _ _ h
   ·rw[as4]at h;exact wpAny_eqBool_str h
 «strs»:=λk x t v h=>by
  rcases vL h with⟨i,u,rfl,e⟩|⟨y,u,rfl,e⟩
  ·exact nomatch e
  ·injection e with e1 _;subst e1;cases v <;> rfl
theorem ar1(prog:bh)(w:bw)(i:a4)(t:Tok):(mB prog w).is (.inl i) (.int i t)=a5:=as9 i t
theorem ar0(prog:bh)(w:bw)(x:ba)(t:Tok):(mB prog w).is (.inr x) (.str x t)=a5:=as8 x t
inductive V where
 |aV|bl (b:br)|int (i:a4)|str (x:ba)|XM (b:a8 UInt8)|EL (b:UInt64)|ref (a:az)|ty (n:c4)
 deriving DecidableEq
def RelV:V->av->Prop
 |.aV,u=>u=Value.none
 |.bl b,u=>u=Value.bool b
 |.int i,u=>∃t,u=Value.int i t
 |.str x,u=>∃t,u=Value.str x t
 |.XM b,u=>∃t,u=Value.bytes b t
 |.EL b,u=>∃t,u=Value.float b t
 |.ref a,u=>u=Value.ref a
 |.ty n,u=>u=Value.type n
abbrev Vals:aq V->aq av->Prop:=Paired RelV
theorem Vals.length{xs:aq V}{us:aq av}(r:Vals xs us):xs.length=us.length:=Paired.length r
theorem Vals.get:∀{xs:aq V} {us:aq av} {i:a6} {x:V},Vals xs us->xs[i]?=ao x->∃u,us[i]?=ao u/\RelV x u
 |_,_,_,_,.nil,e=>by simp at e
 |_,_,0,_,.cons r _,e=>by simp at e;subst e;exact⟨_,rfl,r⟩
 |_,_,i+1,x,.cons _ t,e=>by
  obtain⟨u,h1,h2⟩:=Vals.get (i:=i) (x:=x) t (by simpa using e);exact⟨u,by simpa using h1,h2⟩
theorem Vals.set{x:V}{u:av}(r:RelV x u):∀{xs:aq V} {us:aq av} (i:a6),Vals xs us->Vals (xs.set i x) (us.set i u)
 |_,_,_,.nil => .nil
 |_,_,0,.cons _ t => .cons r t
 |_,_,i+1,.cons q t => .cons q (Vals.set r i t)
theorem Vals.append:∀{xs ys:aq V} {us ws:aq av},Vals xs us->Vals ys ws->Vals (xs++ys) (us++ws)
 |_,_,_,_,.nil,s=>s
 |_,_,_,_,.cons r t,s => .cons r (Vals.append t s)
theorem Vals.take:∀{xs:aq V} {us:aq av} (n:a6),Vals xs us->Vals (xs.take n) (us.take n)
 |_,_,0,_ => .nil
 |_,_,_+1,.nil => .nil
 |_,_,n+1,.cons r t => .cons r (Vals.take n t)
theorem Vals.drop:∀{xs:aq V} {us:aq av} (n:a6),Vals xs us->Vals (xs.drop n) (us.drop n)
 |_,_,0,r=>r
 |_,_,_+1,.nil => .nil
 |_,_,n+1,.cons _ t=>Vals.drop n t
def oA:aw V->aw av->Prop
 |some v,ao u=>RelV v u
 |none,au=>True
 |_,_=>cp
def KV{κ:Type}:aq (κ×V)->aq (κ×av)->Prop:=Paired λ(p:κ×V) (q:κ×av)=>p.1=q.1/\RelV p.2 q.2
noncomputable def kV:Key->V
 |.inl i => .int i
 |.inr x => .str x
inductive HO where
 |lst (xs:aq V)
 |tup (xs:aq V)
 |dK (kvs:aq (Key×V))|dT (kvs:aq (aq Key×V))
 |set (S:a4->br) (n:a6)
 |ins (C dx:az) (fs:aq (ba×V))
 |own (x:az)
 |xd (fs:aq (ba×V))
 |met (f x:az)
 |TN (lo hi:a4)
 |eI (o:c6) (u:HO)
 |jC (ps:a8 av)
 |ext (φ:bz->Prop)
abbrev Hp:=az->aw HO
noncomputable def upd(H:Hp)(a:az)(o:HO):Hp:=λb=>if b=a then ao o else H b
theorem eZ{H:Hp}{a:az}{o:HO}:upd H a o a=ao o:=by unfold upd;rw[a9 rfl]
theorem bR{H:Hp}{a b:az}{o:HO}(h:b≠a):upd H a o b=H b:=by unfold upd;rw[bb h]
theorem ME{H:Hp}{a b:az}{o u:HO}(h:H a=ao o)(h':H b=ao u)(d:o≠u):a≠b:=by
 intro e;subst e;rw[h]at h';exact d (kJ h')
theorem jT{H:Hp}{a b:az}{o:HO}(h:H a=ao o)(h':H b=au):a≠b:=by
 intro e;subst e;rw[h]at h';cases h'
section
variable(P:bh)(w:bw)
def iO(H:Hp)(h:bz)(a:az):HO->Prop
 | .lst xs=>xs.length<=bf/\∃(j:aq av) (n:a6),Vals xs j/\h.get? a=ao {cls:=.type "list",data:=.seq j.toArray n}
 |.tup xs=>xs.length<=bf/\∃j:aq av,Vals xs j/\IsTup h a j.toArray
 |.dK kvs=>kvs.length<=bf/\(a==ea)=ax/\∃vs,KV kvs vs/\h.DictOf (mB P w) a vs
 |.dT kvs=>kvs.length<=bf/\(a==ea)=ax/\∃xs:aq (aq Key×az×av),
   Paired (λ(p:aq Key×V) (q:aq Key×az×av)=>p.1=q.1/\H q.2.1=ao (.tup (p.1.map kV))/\RelV p.2 q.2.2) kvs xs /\
   ∃o es ep,h.get? a=ao o/\o.ExactDict/\o.data=.dict es ep/\es.toList=xs.map (entryOfKey (tupleKind (mB P w)))/\(xs.map (·.1)).Nodup
 |.set S n=>h.SetOf (da P w) a S n
 |.ins C dx fs=>H dx=ao (.own a)/\fs.length<=1000/\dx≠a/\h.get? a=ao (instObj C dx) /\
   ∃mA,h.Ns1 dx mA/\(∀f,oA (fs.lookup f) (mA f))/\PySem.Within mA (fs.map (·.1))
 |.own _=>∃o,h.get? a=ao o
 |.xd fs=>∃mA,h.Ns1 a mA/\∀f,oA (fs.lookup f) (mA f)
 | .TN lo hi=>∃t u v,h.get? a=ao {cls:=.type "range",data:=.fields #[.int lo t,.int hi u,.int 1 v]}
 |.eI o u=>h.get? a=ao o/\iO H h a u
 |.jC ps=>h.get? a=ao {cls:=.none,data:=.fields ps}
 |.met f x=>h.get? a=ao (methodObj (.ref f) (.ref x))
 |.ext z=>z h/\(∃o,h.get? a=ao o)/\∀h1 h2:bz,z h1->(∀o,h1.get? a=ao o->h2.get? a=ao o)->z h2
def fR(H:Hp)(h:bz):Prop:=∀a o,H a=ao o->iO P w H h a o
end
section
variable{P:bh}{w:bw}{H H':Hp}{h h':bz}{a:az}{o:HO}
theorem iO.lt(x:iO P w H h a o):a<h.objs.size:=by
 cases o with
 |lst xs=>obtain⟨_,_,_,_,e⟩:=x;exact dQ e
 |tup xs=>obtain⟨_,_,_,p⟩:=x;exact p.lt
 |dK j=>obtain⟨_,_,_,_,o,_,_,e,_⟩:=x;exact dQ e
 |dT j=>obtain⟨_,_,_,_,o,_,_,e,_⟩:=x;exact dQ e
 |set S n=>obtain⟨o,_,_,_,e,_⟩:=x;exact dQ e
 |ins C B fs=>obtain⟨_,_,_,e,_⟩:=x;exact dQ e
 |own y=>obtain⟨_,e⟩:=x;exact dQ e
 |xd fs=>obtain⟨_,⟨_,_,_,e,_⟩,_⟩:=x;exact dQ e
 |TN lo hi=>obtain⟨_,_,_,e⟩:=x;exact dQ e
 |eI ob u=>obtain⟨e,_⟩:=x;exact dQ e
 |jC z=>exact dQ (show h.get? a=ao _ from x)
 |met f y=>exact dQ (show h.get? a=ao _ from x)
 |ext q=>obtain⟨_,⟨_,e⟩,_⟩:=x;exact dQ e
theorem Paired.Es{α β:Type}{F G:α->β->Prop}:∀{q:aq α} {j:aq β},Paired F q j->(∀a b,F a b->G a b)->Paired G q j
 |_,_,.nil,_ => .nil
 |_,_,.cons r t,f => .cons (f _ _ r) (Paired.Es t f)
theorem iO.oJ(x:iO P w H h a o)(k:∀b u,(b=a\/H b=ao (.own a))->h.get? b=ao u->h'.get? b=ao u)
  (s:∀b,H b=ao (.own a)->H' b=ao (.own a)) (m:∀b xs,H b=ao (.tup xs)->H' b=ao (.tup xs)):iO P w H' h' a o:=by
 induction o with
 |lst xs=>obtain⟨z,g,n,r,e⟩:=x;exact⟨z,g,n,r,k _ _ (.inl rfl) e⟩
 |tup xs=>obtain⟨z,g,r,ob,e,c⟩:=x;exact⟨z,g,r,ob,k _ _ (.inl rfl) e,c⟩
 |dK U=>obtain⟨z,y,l,r,ob,es,j,e,c⟩:=x;exact⟨z,y,l,r,ob,es,j,k _ _ (.inl rfl) e,c⟩
 |dT U =>
  obtain⟨z,y,xs,r,ob,es,j,e,c⟩:=x;exact⟨z,y,xs,Paired.Es r λp q z=>⟨z.1,m _ _ z.2.1,z.2.2⟩,ob,es,j,k _ _ (.inl rfl) e,c⟩
 |set S n=>obtain⟨ob,es,j,t,e,c⟩:=x;exact⟨ob,es,j,t,k _ _ (.inl rfl) e,c⟩
 |ins C E fs =>
  obtain⟨d,z,ne,e,N,⟨B,es,j,A,c⟩,r⟩:=x;exact⟨s _ d,z,ne,k _ _ (.inl rfl) e,N,⟨B,es,j,k _ _ (.inr d) A,c⟩,r⟩
 |own y=>obtain⟨ob,e⟩:=x;exact⟨ob,k _ _ (.inl rfl) e⟩
 |xd fs=>obtain⟨N,⟨B,es,j,e,c⟩,r⟩:=x;exact⟨N,⟨B,es,j,k _ _ (.inl rfl) e,c⟩,r⟩
 |TN lo hi=>obtain⟨t,u,v,e⟩:=x;exact⟨t,u,v,k _ _ (.inl rfl) e⟩
 |eI ob u ih=>obtain⟨e,q⟩:=x;exact⟨k _ _ (.inl rfl) e,ih q⟩
 |jC i =>
  have e:h.get? a=ao {cls:=.none,data:=.fields i}:=x;show h'.get? a=ao {cls:=.none,data:=.fields i};exact k a _ (.inl rfl) e
 |met f y =>
  have e:h.get? a=ao (methodObj (.ref f) (.ref y)):=x;show h'.get? a=ao (methodObj (.ref f) (.ref y));exact k a _ (.inl rfl) e
 |ext D=>obtain⟨p,⟨o,e⟩,st⟩:=x;exact⟨st _ _ p λo q=>k _ _ (.inl rfl) q,⟨o,k _ _ (.inl rfl) e⟩,st⟩
theorem fR.lt(x:fR P w H h)(e:H a=ao o):a<h.objs.size:=(x a o e).lt
theorem fR.fresh(x:fR P w H h)(e:h.objs.size<=a):H a=au:=by
 cases q:H a with
 |none=>rfl
 |some u=>exact b7 (lH (x.lt q) e) (Nat.lt_irrefl _)
theorem fR.kept(x:fR P w H h)(k:∀b u,h.get? b=ao u->h'.get? b=ao u):fR P w H h':=λa o e =>
 (x a o e).oJ (λb u _ q=>k b u q) (λ_ q=>q) λ_ _ q=>q
theorem fR.laid(x:fR P w H h)(k:∀b u,h.get? b=ao u->h'.get? b=ao u)(j:h.objs.size<=a)(new:iO P w (upd H a o) h' a o):fR P w (upd H a o) h':=λb u e=>by
 have hn:=x.fresh j
 by_cases hb:b=a
 ·subst hb;rw[eZ]at e;cases e;exact new
 ·rw[bR hb]at e;exact(x b u e).oJ (λc v _ q=>k c v q) (λc q=>by rw[bR (jT q hn)];exact q) λc xs q=>by rw[bR (jT q hn)];exact q
end
def Rd(H:Hp)(a:az)(u:HO):Prop:=H a=ao u\/∃o,H a=ao (.eI o u)
theorem Rd.ok{P:bh}{w:bw}{H:Hp}{h:bz}{a:az}{u:HO}(r:Rd H a u)(x:fR P w H h):iO P w H h a u:=by
 rcases r with r|⟨o,r⟩
 ·exact x a u r
 ·obtain⟨_,q⟩:=x a _ r;exact q
def QQ:aw HO->Prop
 |some (.lst _)=>True
 |some (.dK _)=>True
 |some (.dT _)=>True
 |some (.set _ _)=>True
 |some (.ins _ _ _)=>True
 |some (.ext _)=>True
 |_=>cp
section
variable{P:bh}{w:bw}{H:Hp}{h h':bz}{x e:az}{o':HO}
theorem fR.write(ok:fR P w H h)(B:QQ (H x))(he:e=x\/H e=ao (.own x))(k:∀b u,b≠e->h.get? b=ao u->h'.get? b=ao u)(f:∃u,h'.get? e=ao u)
  (new:iO P w (upd H x o') h' x o'):fR P w (upd H x o') h':=λb u q=>by
 have d:∀c y,H c=ao (.own y)->c≠x:=λc y r z=>by subst z;rw[r]at B;exact B
 have U:∀c xs,H c=ao (.tup xs)->c≠x:=λc xs r z=>by subst z;rw[r]at B;exact B
 by_cases hb:b=x
 ·subst hb;rw[eZ]at q;cases q;exact new
 ·rw[bR hb]at q
  by_cases j:b=e
  ·have a:H b=ao (.own x):=by
    rcases he with z|z
    ·exact b7 (j.trans z) hb
    ·rw[j];exact z
   rw[q]at a;cases a;obtain⟨v,hv⟩:=f;exact⟨v,by rw[j];exact hv⟩
  ·refine(ok b u q).oJ (λc v N r=>k c v ?_ r) (λc r=>by rw[bR (d c b r)];exact r) λc xs r=>by rw[bR (U c xs r)];exact r
   rcases N with rfl|N
   ·exact j
   ·rintro rfl
    rcases he with z|z
    ·exact d c b N z
    ·rw[N]at z;cases z;exact hb rfl
end
structure Un(fs ex:aq az)(H H':Hp)(h h':bz):Prop where
 keep:∀b o,h.get? b=ao o->H b=au->b∉fs->b∉ex->h'.get? b=ao o
 slot:∀b o,h.get? b=ao o->H b=au->b∈fs->b∉ex->∃sl,h'.get? b=ao {o with slots:=sl}
 free:∀b o,h.get? b=ao o->H b=au->b∉ex->H' b=au
 there:∀b o,h.get? b=ao o->b∉ex->∃o',h'.get? b=ao o'
 nN:∀b xs,H b=ao (.tup xs)->H' b=ao (.tup xs)
 lP:∀b o u,H b=ao (.eI o u)->H' b=ao (.eI o u)
 mW:∀b ps,H b=ao (.jC ps)->∃more,H' b=ao (.jC (ps++more))
section
variable{fs mF ex ex':aq az}{H H1 H2:Hp}{h h1 h2 h':bz}{a x e:az}{o:HO}
theorem Un.any(u:Un fs ex H H1 h h1){b:az}{ob:c6}(q:h.get? b=ao ob)(n:H b=au)(j:b∉ex):∃sl,h1.get? b=ao {ob with slots:=sl}:=by
 by_cases hb:b∈fs
 ·exact u.slot b ob q n hb j
 ·exact⟨ob.slots,u.keep b ob q n hb j⟩
theorem Un.trans(a:Un fs ex H H1 h h1)(b:Un fs ex H1 H2 h1 h2):Un fs ex H H2 h h2 where
 keep:=λc ob q n B j=>b.keep c ob (a.keep c ob q n B j) (a.free c ob q n j) B j
 slot:=λc ob q n B j=>by
  obtain⟨sl,z⟩:=a.slot c ob q n B j;obtain⟨g,U⟩:=b.slot c _ z (a.free c ob q n j) B j;exact⟨g,U⟩
 free:=λc ob q n j=>by
  obtain⟨N,z⟩:=a.there c ob q j;exact b.free c N z (a.free c ob q n j) j
 there:=λc ob q j=>by
  obtain⟨N,z⟩:=a.there c ob q j;exact b.there c N z j
 nN:=λc xs q=>b.nN c xs (a.nN c xs q)
 lP:=λc ob xs q=>b.lP c ob xs (a.lP c ob xs q)
 mW:=λc d q=>by
  obtain⟨f,z⟩:=a.mW c d q;obtain⟨e,U⟩:=b.mW c _ z;exact⟨f++e,by rw[U,Array.append_assoc]⟩
theorem Un.kept(k:∀b u,h.get? b=ao u->h'.get? b=ao u):Un fs ex H H h h' :=
 ⟨λb ob q _ _ _=>k b ob q,λb ob q _ _ _=>⟨ob.slots,k b ob q⟩,λ_ _ _ n _=>n,λb ob q _=>⟨ob,k b ob q⟩,λ_ _ q=>q,λ_ _ _ q=>q,λ_ j q=>⟨#[],by rw[q];simp⟩⟩
theorem Un.refl:Un fs ex H H h h:=Un.kept λ_ _ q=>q
theorem Un.laid(k:∀b u,h.get? b=ao u->h'.get? b=ao u)(j:h.objs.size<=a)(hn:H a=au):Un fs ex H (upd H a o) h h' where
 keep:=λb u q _ _ _=>k b u q
 slot:=λb u q _ _ _=>⟨u.slots,k b u q⟩
 free:=λb u q n _=>by rw[bR (fW (lH (dQ q) j))];exact n
 there:=λb u q _=>⟨u,k b u q⟩
 nN:=λb xs q=>by rw[bR (jT q hn)];exact q
 lP:=λb u xs q=>by rw[bR (jT q hn)];exact q
 mW:=λb z q=>⟨#[],by rw[bR (jT q hn),q];simp⟩
theorem Un.write(j:QQ (H x))(he:e=x\/H e=ao (.own x))(k:∀b u,b≠e->h.get? b=ao u->h'.get? b=ao u)(U:∃u,h'.get? e=ao u):Un fs ex H (upd H x o) h h':=by
 have N:∀b,H b=au->b≠x:=λb n z=>by subst z;rw[n]at j;exact j
 have hb:∀b,H b=au->b≠e:=λb n z=>by
  subst z
  rcases he with r|r
  ·exact N b n r
  ·rw[n]at r;cases r
 have hm:∀b u,H b=ao u->¬QQ (ao u)->b≠x:=λb u q nm z=>by subst z;rw[q]at j;exact nm j
 refine⟨λb u q n _ _=>k b u (hb b n) q,λb u q n _ _=>⟨u.slots,k b u (hb b n) q⟩,λb u q n _=>by rw[bR (N b n)];exact n,λb u q _=>?_,
  λb xs q=>by rw[bR (hm b _ q λz=>z)];exact q,λb u xs q=>by rw[bR (hm b _ q λz=>z)];exact q,λb a q=>⟨#[],by rw[bR (hm b _ q λz=>z),q];simp⟩⟩
 by_cases B:b=e
 ·subst B;exact U
 ·exact⟨u,k b u B q⟩
theorem Un.mono(u:Un fs ex H H1 h h1)(B:∀b∈fs,b∈mF)(j:∀b∈ex,b∈ex'):Un mF ex' H H1 h h1 :=
 ⟨λb ob q n hb he=>u.keep b ob q n (λz=>hb (B b z)) λz=>he (j b z),λ_ _ q n _ he=>u.any q n λz=>he (j _ z),λb ob q n he=>u.free b ob q n λz=>he (j b z),λb ob q he=>u.there b ob q λz=>he (j b z),u.nN,u.lP,u.mW⟩
end
noncomputable def SH(h:bz)(H:Hp):aq az:=(List.range h.objs.size).filter λa=>(H a).isSome
def xH(h:bz)(H:Hp):bz:=PySem.W.hideAll h (SH h H)
theorem axF(h:bz)(H:Hp):(xH h H).objs.size=h.objs.size:=PySem.W.hideAll_size _ _
theorem axG{h:bz}{H:Hp}{b:az}{o:c6}(e:h.get? b=ao o)(n:H b=au):(xH h H).get? b=ao o :=
 PySem.W.hideAll_get _ e λhm=>by
  have q:(H b).isSome=a5:=(List.mem_filter.mp hm).2;rw[n]at q;simp at q
theorem ap7{h:bz}{H:Hp}{b:az}{o:c6}(e:(xH h H).get? b=ao o):h.get? b=ao o/\H b=au:=by
 have j:h.get? b=ao o:=PySem.W.of_hideAll (SH h H) e;refine⟨j,?_⟩;cases q:H b with
 |none=>rfl
 |some x =>
  have hm:b∈SH h H:=List.mem_filter.mpr ⟨List.mem_range.mpr (dQ j),by simp[q]⟩;have z:(xH h H).get? b=au:=PySem.W.hideAll_none (SH h H) hm;rw[z]at e;cases e
structure Mod(K:bj)(mg:ba->aw av)(base:bz):Prop where
 sS:K.In base
 glob:base.Ns a7 mg
 blt:∃mb,base.Ns builtinsNs mb/\∀x:ba,x≠"__name__"->mb x=dq x
 nolimit:base.NoLimit
structure Cx where
 prog:bh
 w:bw
 K:bj
 mg:ba->aw av
 base:bz
 A:bu
 N:aq ba
 s₀:ay
 H₀:Hp
 env:Env
 outer:aq Env
 stack:aq Env
 ex:aq az
 fn:ba->br
 calm:br
 pn:aq (az×c6)
 xe:av->ay->Prop
noncomputable def jE(l:aq Env):aq az:=l.filterMap (·.frame)
abbrev Cx.fs(X:Cx):aq az:=jE X.outer
def QJ(sc:cn)(x:ba):Prop:=sc.names.lookup x=ao .local\/sc.names.lookup x=ao .cell\/sc.names.lookup x=ao .free
def Loc(sc:cn)(x:ba):Prop:=sc.names.lookup x=ao .local\/sc.names.lookup x=ao .cell
def Look(env:Env)(h:bz)(m:ba->aw av)(x:ba)(u:av):Prop :=
 (env.kindOf x=ao .local/\m x=ao u)\/((env.kindOf x=ao .cell\/env.kindOf x=ao .free)/\∃c,env.cells.lookup x=ao c/\h.IsCell c (ao u))
structure Cx.Ok(X:Cx):Prop where
 mod:Mod X.K X.mg X.base
 kind:X.env.scope.kind=.function
 glob:X.env.globals=a7
 blt:X.env.builtins=builtinsNs
 above:X.s₀.heap.objs.size<=X.env.locals
 inj:∀x y c,X.env.cells.lookup x=ao c->X.env.cells.lookup y=ao c->x=y
 has:∀x,(X.env.kindOf x=ao .cell\/X.env.kindOf x=ao .free)->∃c,X.env.cells.lookup x=ao c
 ES:∀x c,X.fn x=a5->X.env.cells.lookup x=ao c->X.s₀.heap.objs.size<=c
 hd:X.calm=a5->X.A.handled=au
 frames:X.A.frames=ao X.stack
 tT:X.stack=X.outer\/(X.stack=X.env::X.outer/\X.env.frame=ao X.env.locals)
 EM:∀b∈X.ex,b≠X.env.locals/\∀x c,X.env.cells.lookup x=ao c->c≠b
 bs:∀b o,X.base.get? b=ao o->X.s₀.heap.get? b=ao o/\X.H₀ b=au
 rO:X.base.objs.size<=X.s₀.heap.objs.size
 yS:∀b o,X.base.get? b=ao o->b∉X.ex
 BF:∀b∈X.ex,b∉X.fs
 oS:X.s₀.heap.FunFrames X.base X.outer
 uI:∀b∈X.fs,X.H₀ b=au
structure Inv(X:Cx)(aa:aq (az×c6))(J:aq (aw V))(H:Hp)(s:ay):Prop where
 ok:X.Ok
 os:s.os=X.s₀.os
 bare:AllBare s.gens
 base:Un X.fs X.ex X.H₀ H X.s₀.heap s.heap
 loc:∃m,s.heap.Ns X.env.locals m/\∀(i:a6) (x:ba) (v:V),X.N[i]?=ao x->J[i]?=ao (ao v)->QJ X.env.scope x->∃u,RelV v u/\Look X.env s.heap m x u
 cell:∀x c,X.env.cells.lookup x=ao c->∃v,s.heap.IsCell c v
 free:H X.env.locals=au
 lQ:∀x c,X.env.cells.lookup x=ao c->H c=au
 pin:∀p∈X.pn++aa,s.heap.get? p.1=ao p.2/\H p.1=au/\p.1≠X.env.locals/\p.1∉X.fs/\∀v,p.2.data≠.cell v
 aK:fR X.prog X.w H s.heap
 len:J.length=X.N.length
section
variable{X:Cx}{aa:aq (az×c6)}{J:aq (aw V)}{H H':Hp}{s:ay}{h':bz}
theorem Cx.Ok.aq2(ok:X.Ok){b:az}{o:c6}(e:X.base.get? b=ao o):b∉X.fs:=λhb=>by
 have:=(ok.oS.mem hb).1;rw[e]at this;cases this
theorem Inv.bs(I:Inv X aa J H s):∀b o,X.base.get? b=ao o->s.heap.get? b=ao o/\H b=au:=λb o e =>
 ⟨I.base.keep b o (I.ok.bs b o e).1 (I.ok.bs b o e).2 (I.ok.aq2 e) (I.ok.yS b o e),I.base.free b o (I.ok.bs b o e).1 (I.ok.bs b o e).2 (I.ok.yS b o e)⟩
theorem Inv.bk(I:Inv X aa J H s):∀b o,X.base.get? b=ao o->s.heap.get? b=ao o:=λb o e=>(I.bs b o e).1
theorem Inv.mod(I:Inv X aa J H s):Mod X.K X.mg X.base:=I.ok.mod
theorem Inv.fY(I:Inv X aa J H s):X.K.In s.heap:=I.ok.mod.sS.keeps I.bk
theorem Inv.nolimit(I:Inv X aa J H s):s.heap.NoLimit:=I.ok.mod.nolimit.keeps I.bk
theorem Inv.lt(I:Inv X aa J H s):X.env.locals<s.heap.objs.size:=let ⟨_,hn,_⟩:=I.loc;hn.lt
theorem Inv.sz(I:Inv X aa J H s):X.s₀.heap.objs.size<=s.heap.objs.size:=rT I.ok.above (Nat.le_of_lt I.lt)
theorem Inv.aq0(I:Inv X aa J H s){a:az}(h:s.heap.objs.size<=a):a∉X.fs:=λhb=>by
 obtain⟨_,o,j,_⟩:=I.ok.oS.mem hb;exact b7 (lH (dQ j) (rT I.sz h)) (Nat.lt_irrefl _)
theorem Inv.vV(I:Inv X aa J H s):∀x c,X.env.cells.lookup x=ao c->c≠X.env.locals:=λx c e z=>by
 obtain⟨v,o,j,hd⟩:=I.cell x c e;obtain⟨m,⟨N,es,U,q,B,_⟩,_⟩:=I.loc;rw[z,q]at j;cases j;rw[B]at hd;cases hd
theorem Inv.oS(I:Inv X aa J H s):s.heap.FunFrames X.base X.outer:=by
 have all:∀(l:aq Env),(∀b∈jE l,b∈X.fs)->X.s₀.heap.FunFrames X.base l->s.heap.FunFrames X.base l:=by
  intro l
  induction l with
  |nil=>intro _ _;trivial
  |cons env r ih =>
   intro q hl;obtain⟨N,⟨L,o,hf,hn,B,hd⟩,hr⟩:=hl;have j:L∈X.fs:=q L (by unfold jE;rw[List.filterMap_cons,hf];exact List.mem_cons_self);obtain⟨sl,e⟩:=I.base.slot L o B (I.ok.uI L j) j λz=>I.ok.BF L z j;exact⟨N,⟨L,_,hf,hn,e,hd⟩,ih (λb hb=>q b (by unfold jE;rw[List.filterMap_cons,hf];exact List.mem_cons_of_mem _ hb)) hr⟩
 exact all X.outer (λ_ hb=>hb) I.ok.oS
theorem Inv.stack(I:Inv X aa J H s):s.heap.FunFrames X.base X.stack:=by
 rcases I.ok.tT with e|⟨e,hf⟩
 ·rw[e];exact I.oS
 ·rw[e];obtain⟨m,hn,_⟩:=I.loc;refine .cons (by rw[I.ok.kind];decide) hf hn ?_ I.oS;exact Heap.get?_none_of_le (rT I.ok.rO I.ok.above)
theorem Inv.LQ(I:Inv X aa J H s):∀b∈jE X.stack,b∈X.env.locals::X.fs:=λb hb=>by
 rcases I.ok.tT with e|⟨e,hf⟩
 ·rw[e]at hb;exact iP _ hb
 ·rw[e]at hb;unfold jE at hb;rw[zR,hf]at hb;exact hb
theorem Inv.Bm(I:Inv X aa J H s):∀b∈jE X.stack,H b=au:=λb hb=>by
 rcases dY.mp (I.LQ b hb)with e|hb
 ·rw[e];exact I.free
 ·obtain⟨_,o,j,_⟩:=I.ok.oS.mem hb;exact I.base.free b o j (I.ok.uI b hb) λz=>I.ok.BF b z hb
theorem Inv.step{g':a8 GenState}{t':a6}{d':Drawn}{ch:aq az}(I:Inv X aa J H s)
  (U:∀b∈ch,(b∈X.ex\/X.s₀.heap.objs.size<=b)/\b≠X.env.locals/\(∀x c,X.env.cells.lookup x=ao c->c≠b)/\∀p∈X.pn++aa,p.1≠b)
  (keep:∀b o,b≠X.env.locals->b∉X.fs->b∉ch->s.heap.get? b=ao o->H b=au->h'.get? b=ao o)
  (slot:∀b o,b≠X.env.locals->b∈X.fs->b∉ch->s.heap.get? b=ao o->H b=au->∃sl,h'.get? b=ao {o with slots:=sl}) (free:∀b o,b∉ch->s.heap.get? b=ao o->H b=au->H' b=au)
  (there:∀b o,b∉ch->s.heap.get? b=ao o->∃o',h'.get? b=ao o')
  (nN:∀b xs,H b=ao (.tup xs)->H' b=ao (.tup xs)) (lP:∀b o u,H b=ao (.eI o u)->H' b=ao (.eI o u)) (mW:∀b ps,H b=ao (.jC ps)->∃more,H' b=ao (.jC (ps++more)))
  (ns:∀m,s.heap.Ns X.env.locals m->h'.Ns X.env.locals m) (aK:fR X.prog X.w H' h') (E:AllBare g') :
  Inv X aa J H' {s with heap:=h',gens:=g',drawn:=d',toks:=t' }:=by
 have A:∀b o,X.s₀.heap.get? b=ao o->b≠X.env.locals:=λb o e=>fW (lH (dQ e) I.ok.above);have g:∀b o,X.s₀.heap.get? b=ao o->b∉X.ex->b∉ch:=λb o e j hb=>by
  rcases(U b hb).1 with z|z
  ·exact j z
  ·exact b7 (lH (dQ e) z) (Nat.lt_irrefl _)
 have cellK:∀x c,X.env.cells.lookup x=ao c->∀v,s.heap.IsCell c v->h'.IsCell c v:=λx c e v ⟨o,N,hd⟩=>by
  have f:c∉ch:=λz=>(U c z).2.2.1 x c e rfl
  by_cases y:c∈X.fs
  ·obtain⟨sl,q⟩:=slot c o (I.vV x c e) y f N (I.lQ x c e);exact⟨_,q,hd⟩
  ·exact⟨o,keep c o (I.vV x c e) y f N (I.lQ x c e),hd⟩
 refine⟨I.ok,I.os,E,⟨λb o e n hb j=>?_,λb o e n hb j=>?_,λb o e n j=>?_,λb o e j=>?_,λb xs e=>nN b xs (I.base.nN b xs e),λb o xs e=>lP b o xs (I.base.lP b o xs e),λb ps e=>?_⟩,?_,λx c e=>?_,?_,λx c e=>?_,λp t=>?_,aK,I.len⟩
 ·exact keep b o (A b o e) hb (g b o e j) (I.base.keep b o e n hb j) (I.base.free b o e n j)
 ·obtain⟨sl,B⟩:=I.base.slot b o e n hb j;obtain⟨G,a⟩:=slot b _ (A b o e) hb (g b o e j) B (I.base.free b o e n j);exact⟨G,a⟩
 ·obtain⟨o',B⟩:=I.base.there b o e j;exact free b o' (g b o e j) B (I.base.free b o e n j)
 ·obtain⟨o',B⟩:=I.base.there b o e j;exact there b o' (g b o e j) B
 ·obtain⟨D,B⟩:=I.base.mW b ps e;obtain⟨C,a⟩:=mW b _ B;exact⟨D++C,by rw[a,Array.append_assoc]⟩
 ·obtain⟨m,hn,hl⟩:=I.loc;refine⟨m,ns m hn,λi x v B a F=>?_⟩;obtain⟨u,r,l⟩:=hl i x v B a F;refine⟨u,r,?_⟩
  rcases l with l|⟨k,c,e,z⟩
  ·exact .inl l
  ·exact .inr ⟨k,c,e,cellK x c e _ z⟩
 ·obtain⟨v,z⟩:=I.cell x c e;exact⟨v,cellK x c e v z⟩
 ·obtain⟨m,⟨o,_,_,N,_⟩,_⟩:=I.loc;exact free _ o (λz=>(U _ z).2.1 rfl) N I.free
 ·obtain⟨v,o,N,hd⟩:=I.cell x c e;exact free c o (λz=>(U c z).2.2.1 x c e rfl) N (I.lQ x c e)
 ·obtain⟨e,n,ne,h,d⟩:=I.pin p t;have f:p.1∉ch:=λz=>(U p.1 z).2.2.2 p t rfl;exact⟨keep p.1 p.2 ne h f e n,free p.1 p.2 f e n,ne,h,d⟩
theorem Inv.un{t':a6}(I:Inv X aa J H s)(u:Un X.fs [] H H' s.heap h')(aK:fR X.prog X.w H' h'):Inv X aa J H' {s with heap:=h',toks:=t' }:=by
 obtain⟨m,⟨o,es,d,q,r⟩,_⟩:=id I.loc;obtain⟨sl,N⟩:=u.any q I.free (by simp);exact I.step (g':=s.gens) (d':=s.drawn) (ch:=[]) (λ_ z=>nomatch z) (λb o _ hb _ e n=>u.keep b o e n hb (by simp)) (λb o _ hb _ e n=>u.slot b o e n hb (by simp)) (λb o _ e n=>u.free b o e n (by simp)) (λb o _ e=>u.there b o e (by simp)) u.nN u.lP u.mW (λc hm=>by
  obtain⟨a,fE,U,j,B⟩:=hm;rw[q]at j;cases j;exact⟨_,fE,U,N,B⟩) aK I.bare
theorem Inv.call{g':a8 GenState}{t':a6}{d':Drawn}{ch:aq az}(I:Inv X aa J H s)(u:Un (jE X.stack) ch H H' s.heap h')(aK:fR X.prog X.w H' h')(d:AllBare g')
  (B:∀b∈ch,(b∈X.ex\/X.s₀.heap.objs.size<=b)/\b≠X.env.locals/\(∀x c,X.env.cells.lookup x=ao c->c≠b)/\∀p∈X.pn++aa,p.1≠b) :
  Inv X aa J H' {s with heap:=h',gens:=g',drawn:=d',toks:=t' }:=by
 obtain⟨m,⟨o,es,i,U,r⟩,_⟩:=id I.loc;obtain⟨sl,q⟩:=u.any U I.free λz=>(B _ z).2.1 rfl;exact I.step (ch:=ch) B (λb o q hb j e n=>u.keep b o e n (λz=>(dY.mp (I.LQ b z)).elim q hb) j) (λb o _ _ j e n=>u.any e n j) (λb o j e n=>u.free b o e n j) (λb o j e=>u.there b o e j) u.nN u.lP u.mW (λh hm=>by
  obtain⟨g,fE,f,N,a⟩:=hm;rw[U]at N;cases N;exact⟨_,fE,f,q,a⟩) aK d
theorem Inv.turned{t':a6}{it:az}(I:Inv X aa J H s)(k:∀b o,b≠it->s.heap.get? b=ao o->h'.get? b=ao o)(hn:H it=au)(B:it≠X.env.locals)
  (h1:it∈X.ex\/X.s₀.heap.objs.size<=it) (h2:∀x c,X.env.cells.lookup x=ao c->c≠it) (a:∀p∈X.pn++aa,p.1≠it):Inv X aa J H {s with heap:=h',toks:=t' }:=by
 have N:∀b u,H b=ao u->b≠it:=λb u e z=>by rw[z,hn]at e;cases e
 refine I.step (g':=s.gens) (d':=s.drawn) (ch:=[it]) (λb hb=>?_) (λb o _ _ j e _=>k b o (λz=>j (by simp[z])) e) (λb o _ _ j e _=>⟨o.slots,k b o (λz=>j (by simp[z])) e⟩) (λ_ _ _ _ n=>n)
  (λb o j e=>⟨o,k b o (λz=>j (by simp[z])) e⟩) (λ_ _ e=>e) (λ_ _ _ e=>e) (λb f e=>⟨#[],by rw[e];simp⟩) (λm hm=>?_) (λb u e=>?_) I.bare
 ·have e:b=it:=by simpa using hb
  subst e;exact⟨h1,B,h2,a⟩
 ·obtain⟨o,es,d,U,r⟩:=hm;exact⟨o,es,d,k _ o (cX B) U,r⟩
 ·refine(I.aK b u e).oJ (λc v j q=>k c v ?_ q) (λ_ q=>q) λ_ _ q=>q
  rcases j with z|z
  ·rw[z];exact N b u e
  ·exact N c _ z
theorem Inv.tok(I:Inv X aa J H s)(t:a6):Inv X aa J H {s with toks:=t}:=I.un (h':=s.heap) (t':=t) Un.refl I.aK
theorem Inv.kept{t':a6}(I:Inv X aa J H s)(k:∀b u,s.heap.get? b=ao u->h'.get? b=ao u):Inv X aa J H {s with heap:=h',toks:=t' }:=I.un (Un.kept k) (I.aK.kept k)
theorem Inv.laid{a:az}{o:HO}{t':a6}(I:Inv X aa J H s)(k:∀b u,s.heap.get? b=ao u->h'.get? b=ao u)(j:s.heap.objs.size<=a)(new:iO X.prog X.w (upd H a o) h' a o) :
  Inv X aa J (upd H a o) {s with heap:=h',toks:=t' }:=I.un (Un.laid k j (I.aK.fresh j)) (I.aK.laid k j new)
theorem Inv.write{x e:az}{o:HO}{t':a6}(I:Inv X aa J H s)(j:QQ (H x))(he:e=x\/H e=ao (.own x))(k:∀b u,b≠e->s.heap.get? b=ao u->h'.get? b=ao u)(q:∃u,h'.get? e=ao u)
  (new:iO X.prog X.w (upd H x o) h' x o):Inv X aa J (upd H x o) {s with heap:=h',toks:=t' }:=I.un (Un.write j he k q) (I.aK.write j he k q new)
theorem Inv.Du{j:aq (az×c6)}(I:Inv X aa J H s)(h:∀p∈j,s.heap.get? p.1=ao p.2/\H p.1=au/\p.1≠X.env.locals/\p.1∉X.fs/\∀v,p.2.data≠.cell v):Inv X j J H s :=
 ⟨I.ok,I.os,I.bare,I.base,I.loc,I.cell,I.free,I.lQ,λp q=>(kL.mp q).elim (λz=>I.pin p (oB _ z)) (h p),I.aK,I.len⟩
theorem Eg{N:aq ba}(q:N.Nodup){i j:a6}{x:ba}(a:N[i]?=ao x)(b:N[j]?=ao x):i=j:=by
 obtain⟨h1,B⟩:=cY.mp a;obtain⟨h2,z⟩:=cY.mp b;exact(List.getElem_inj q).mp (B.trans z.symm)
theorem ajE{M:ez}{A:bu}{E:av->ay->Prop}{i:a6}{x:ba}{v:V}{u:av}{Q:Unit->ay->Prop}(I:Inv X aa J H s)(hN:X.N.Nodup)(hi:X.N[i]?=ao x)(g:Loc X.env.scope x)(r:RelV v u)
  (h:∀s',Inv X aa (J.set i (ao v)) H s'->(∃a,Heap.SameBut a s.heap s'.heap/\(a=X.env.locals\/X.env.cells.lookup x=ao a))->Q () s') (hf:X.fn x=a5\/X.env.scope.names.lookup x=ao .local:=by first|exact .inl rfl|exact .inr rfl|assumption):wpAny M A (storeName X.env x u) Q E s:=by
 obtain⟨m,hn,hl⟩:=id I.loc;have Hw:(X.env.scope.kind == .class||(X.env.scope.kind == .module&&X.env.locals != X.env.globals))=ax:=by rw[I.ok.kind];rfl
 have NQ:i<J.length:=by rw[I.len];exact(cY.mp hi).1
 have vV:=I.vV;have tracked:∀{a:az} {h':bz},(∃o,s.heap.get? a=ao o/\H a=au)->Heap.SameBut a s.heap h'->fR X.prog X.w H h':=λ{a h'} ha B b ob e=>by
  obtain⟨_,_,zC⟩:=ha;refine(I.aK b ob e).oJ (λc D f q=>(B.2 c ?_).trans q) (λ_ q=>q) λ_ _ q=>q;rintro rfl
  rcases f with rfl|f
  ·rw[zC]at e;cases e
  ·rw[zC]at f;cases f
 rcases g with t|t
 ·refine wpAny_storeName_local t hn (λh' uD B=>?_) Hw;obtain⟨oL,_,_,xE,_⟩:=id hn;refine h _ ⟨I.ok,I.os,I.bare,⟨λb o e n hb g=>?_,λb o e n hb g=>?_,I.base.free,λb o e g=>?_,I.base.nN,I.base.lP,I.base.mW⟩,⟨_,uD,λj y G U l T=>?_⟩,λy c e=>?_,I.free,I.lQ,λp S=>?_,tracked ⟨oL,xE,I.free⟩ B,by simpa using I.len⟩ ⟨_,B,.inl rfl⟩
  ·exact(B.2 b (fW (lH (dQ e) I.ok.above))).trans (I.base.keep b o e n hb g)
  ·obtain⟨sl,U⟩:=I.base.slot b o e n hb g;exact⟨sl,(B.2 b (fW (lH (dQ e) I.ok.above))).trans U⟩
  ·obtain⟨P,U⟩:=I.base.there b o e g;exact⟨P,(B.2 b (fW (lH (dQ e) I.ok.above))).trans U⟩
  ·by_cases C:j=i
   ·subst C;rw[hi]at U;cases U;rw[eV NQ]at l;cases l;exact⟨u,r,.inl ⟨t,by simp⟩⟩
   ·rw[dZ (cX C)]at l;obtain⟨K,L,q⟩:=hl j y G U l T;refine⟨K,L,?_⟩
    rcases q with⟨k,e⟩|⟨k,c,e,z⟩
    ·refine .inl ⟨k,?_⟩;have:y≠x:=λe=>C (Eg hN U (e ▸ hi));simp[this,e]
    ·exact .inr ⟨k,c,e,z.sameBut B (vV y c e)⟩
  ·obtain⟨D,z⟩:=I.cell y c e;exact⟨D,z.sameBut B (vV y c e)⟩
  ·obtain⟨e,n,ne,R,d⟩:=I.pin p S;exact⟨(B.2 p.1 ne).trans e,n,ne,R,d⟩
 ·have Hm:X.fn x=a5:=by
   rcases hf with z|z
   ·exact z
   ·rw[z]at t;cases t
  obtain⟨c,f⟩:=I.ok.has x (.inl t);obtain⟨D,z⟩:=I.cell x c f;refine wpAny_storeName_cell I.ok.kind t f z (λh' xI B=>?_);obtain⟨oc,NJ,W⟩:=id z;refine h {s with heap:=h' } ⟨I.ok,I.os,I.bare,⟨λb o e n hb g=>?_,λb o e n hb g=>?_,I.base.free,λb o e g=>?_,I.base.nN,I.base.lP,I.base.mW⟩,⟨m,hn.sameBut B (cX (vV x c f)),λj y G U l T=>?_⟩,λy F e=>?_,I.free,I.lQ,λp S=>?_,tracked ⟨oc,NJ,I.lQ x c f⟩ B,by simpa using I.len⟩ ⟨c,B,.inr f⟩
  ·exact(B.2 b (fW (lH (dQ e) (I.ok.ES x c Hm f)))).trans (I.base.keep b o e n hb g)
  ·obtain⟨sl,U⟩:=I.base.slot b o e n hb g;exact⟨sl,(B.2 b (fW (lH (dQ e) (I.ok.ES x c Hm f)))).trans U⟩
  ·obtain⟨P,U⟩:=I.base.there b o e g;exact⟨P,(B.2 b (fW (lH (dQ e) (I.ok.ES x c Hm f)))).trans U⟩
  ·by_cases C:j=i
   ·subst C;rw[hi]at U;cases U;rw[eV NQ]at l;cases l;exact⟨u,r,.inr ⟨.inl t,c,f,xI⟩⟩
   ·rw[dZ (cX C)]at l;obtain⟨K,L,q⟩:=hl j y G U l T;refine⟨K,L,?_⟩
    rcases q with q|⟨k,F,e,z'⟩
    ·exact .inl q
    ·refine .inr ⟨k,F,e,z'.sameBut B ?_⟩;rintro rfl;exact C (Eg hN U (I.ok.inj _ _ _ e f ▸ hi))
  ·by_cases Zk:F=c
   ·subst Zk;exact⟨_,xI⟩
   ·obtain⟨w2,z2⟩:=I.cell y F e;exact⟨w2,z2.sameBut B Zk⟩
  ·obtain⟨e,n,ne,R,d⟩:=I.pin p S;refine⟨(B.2 p.1 ?_).trans e,n,ne,R,d⟩;intro q;rw[q,NJ]at e;have q':oc=p.2:=kJ e;exact d D (by rw[<-q'];exact W)
theorem SV{M:ez}{A:bu}{E:av->ay->Prop}{i:a6}{x:ba}{v:V}{u:av}{Q:Unit->ay->Prop}(I:Inv X aa J H s)(z:X.N.Nodup)(hi:X.N[i]?=ao x)(j:Loc X.env.scope x)(r:RelV v u)
  (h:∀s',Inv X aa (J.set i (ao v)) H s'->Q () s') (q:X.fn x=a5\/X.env.scope.names.lookup x=ao .local:=by first|exact .inl rfl|exact .inr rfl|assumption):wpAny M A (storeName X.env x u) Q E s :=
 ajE I z hi j r (λs' B _=>h s' B) q
theorem Inv.PQ{s':ay}{ch:aq az}(I:Inv X aa J H s)(z:s'.os=s.os)(u:Un (jE X.stack) ch H H' s.heap s'.heap)(aK:fR X.prog X.w H' s'.heap)(B:AllBare s'.gens)
  (j:∀b∈ch,(b∈X.ex\/X.s₀.heap.objs.size<=b)/\b≠X.env.locals/\(∀x c,X.env.cells.lookup x=ao c->c≠b)/\∀p∈X.pn++aa,p.1≠b):Inv X aa J H' s':=by
 obtain⟨h',g',d',t',q⟩:=s';have e:q=s.os:=z;subst e;exact I.call (g':=g') (t':=t') (d':=d') u aK B j
end
abbrev XK:=av->aw az->Hp->Prop
abbrev St:=aq (aw V)
abbrev VK:=V->Hp->Prop
abbrev TE:=St->Hp->VK->Prop
abbrev TT:=St->Hp->(br->Hp->Prop)->Prop
abbrev TA:=St->Hp->(aq V->Hp->Prop)->Prop
structure Ends where
 nx:St->Hp->Prop
 rt:VK
 bk:St->Hp->Prop:=λ_ _=>cp
 ct:St->Hp->Prop:=λ_ _=>cp
abbrev TS:=Ends->St->Hp->Prop
def EP(X:Cx)(aa:aq (az×c6))(J:St)(Q:VK)(u:av)(s':ay):Prop:=∃v H',Inv X aa J H' s'/\RelV v u/\Q v H'
def TP(X:Cx)(aa:aq (az×c6))(J:St)(Q:br->Hp->Prop)(b:br)(s':ay):Prop:=∃H',Inv X aa J H' s'/\Q b H'
def AP(X:Cx)(aa:aq (az×c6))(J:St)(Q:aq V->Hp->Prop)(us:aq av)(s':ay):Prop:=∃vs H',Inv X aa J H' s'/\Vals vs us/\Q vs H'
def SP(X:Cx)(aa:aq (az×c6))(D:Ends)(f:Flow)(s':ay):Prop :=
 match f with
 |.next=>∃j H',Inv X aa j H' s'/\D.nx j H'
 |.brk=>∃j H',Inv X aa j H' s'/\D.bk j H'
 |.cont=>∃j H',Inv X aa j H' s'/\D.ct j H'
 |.ret u=>∃v j H',Inv X aa j H' s'/\RelV v u/\D.rt v H'
def PE(X:Cx)(e:bx)(t:TE):Prop :=
 ∀(aa:aq (az×c6)) (s:ay) (J:St) (H:Hp) (Q:VK),Inv X aa J H s->t J H Q->wpAny (bq X.prog X.w) X.A (cj e X.env) (EP X aa J Q) X.xe s
def PT(X:Cx)(e:bx)(t:TT):Prop :=
 ∀(aa:aq (az×c6)) (s:ay) (J:St) (H:Hp) (Q:br->Hp->Prop),Inv X aa J H s->t J H Q->wpAny (bq X.prog X.w) X.A (isTrue e X.env (cj e X.env)) (TP X aa J Q) X.xe s
def PW(X:Cx)(e:bx)(t:TT):Prop :=
 ∀(whole:Sem av) (aa:aq (az×c6)) (s:ay) (J:St) (H:Hp) (Q:br->Hp->Prop),Inv X aa J H s->t J H Q->wpAny (bq X.prog X.w) X.A (isTrue e X.env whole) (TP X aa J Q) X.xe s
theorem PW.pt{X:Cx}{e:bx}{t:TT}(h:PW X e t):PT X e t:=h _
def PA(X:Cx)(es:aq bx)(t:TA):Prop :=
 ∀(pos:dn) (aa:aq (az×c6)) (s:ay) (J:St) (H:Hp) (Q:aq V->Hp->Prop),Inv X aa J H s->t J H Q->wpAny (bq X.prog X.w) X.A (spliced (cz pos (bg es X.env))) (AP X aa J Q) X.xe s
def PS(X:Cx)(st:b8)(t:TS):Prop :=
 ∀(aa:aq (az×c6)) (s:ay) (J:St) (H:Hp) (D:Ends),Inv X aa J H s->t D J H->wpAny (bq X.prog X.w) X.A (exec st X.env) (SP X aa D) X.xe s
def oY(X:Cx)(st:aq b8)(t:TS):Prop :=
 ∀(aa:aq (az×c6)) (s:ay) (J:St) (H:Hp) (D:Ends),Inv X aa J H s->t D J H->wpAny (bq X.prog X.w) X.A (execs st X.env) (SP X aa D) X.xe s
theorem bC{α:Type}{t:Sem α}{Q j:α->ay->Prop}{M:ez}{A:bu}{E:av->ay->Prop}{s:ay}(h:wpAny M A t Q E s)(q:∀a s,Q a s->j a s):wpAny M A t j E s:=lV h q λ_ _ x=>x
section
variable{X:Cx}
def Bd(i:a6):TE:=λJ H Q=>∃v,J[i]?=ao (ao v)/\Q v H
def tC(v:V):TE:=λ_ H Q=>Q v H
theorem Dx{i:a6}{x:ba}{pos:dn}(B:X.N[i]?=ao x)(hv:QJ X.env.scope x)(hd:(x==("__debug__" : ba))=ax:=by decide)(U:(x==("__classdict__" : ba))=ax:=by decide):PE X (.Name x pos) (Bd i):=by
 intro aa s J H Q I h;obtain⟨v,e,h⟩:=h;obtain⟨m,hn,hl⟩:=I.loc;obtain⟨u,r,l⟩:=hl i x v B e hv;have fin:EP X aa J Q u s:=⟨v,H,I,r,h⟩
 rcases l with⟨j,hm⟩|⟨j,c,q,z⟩
 ·exact wpAny_Name (wpAny_loadName_local I.ok.kind j hn hm fin) hd
 ·rcases j with j|j
  ·exact wpAny_Name (wpAny_loadName_cell I.ok.kind j q z fin) hd
  ·exact wpAny_Name (wpAny_loadName_free I.ok.kind j q z fin U) hd
theorem aoR{i j pos}:PE X (.Constant (.int i) j pos) (tC (.int i)):=λ_ _ _ H _ I h=>wpAny_Constant_int ⟨.int i,H,I.tok _,⟨_,rfl⟩,h⟩
theorem ao4{b j pos}:PE X (.Constant (.bool b) j pos) (tC (.bl b)):=λ_ _ _ H _ I h=>Constant_bool ⟨.bl b,H,I,rfl,h⟩
theorem aoJ{j pos}:PE X (.Constant .none j pos) (tC .aV):=λ_ _ _ H _ I h=>Constant_none ⟨.aV,H,I,rfl,h⟩
theorem aoC{x j pos}:PE X (.Constant (.str x) j pos) (tC (.str x)):=λ_ _ _ H _ I h=>Calls.Constant_str ⟨.str x,H,I.tok _,⟨_,rfl⟩,h⟩
def Gl(X:Cx)(x:ba):Prop:=X.env.kindOf x=ao .globalImplicit
theorem DU{E:av->ay->Prop}{aa:aq (az×c6)}{s:ay}{J:St}{H:Hp}{x:ba}{u:av}{pos:dn}{Q:av->ay->Prop}(I:Inv X aa J H s)(j:Gl X x)(hm:X.mg x=ao u)(h:Q u s)
  (hd:(x==("__debug__" : ba))=ax:=by decide):wpAny (bq X.prog X.w) X.A (cj (.Name x pos) X.env) Q E s :=
 Calls.Name_function_global I.ok.kind j (Calls.loadGlobal_global (by rw[I.ok.glob];exact I.mod.glob.keeps I.bk) hm h) hd
theorem HZ{E:av->ay->Prop}{aa:aq (az×c6)}{s:ay}{J:St}{H:Hp}{x:ba}{u:av}{pos:dn}{Q:av->ay->Prop}(I:Inv X aa J H s)(j:Gl X x)(hm:X.mg x=au)(hv:dq x=ao u)(h:Q u s)
  (hn:x≠"__name__":=by decide) (hd:(x==("__debug__" : ba))=ax:=by decide):wpAny (bq X.prog X.w) X.A (cj (.Name x pos) X.env) Q E s:=by
 obtain⟨mb,h1,h2⟩:=I.mod.blt;exact Calls.Name_function_global I.ok.kind j (Calls.loadGlobal_builtin (by rw[I.ok.glob];exact I.mod.glob.keeps I.bk) hm (by rw[I.ok.blt];exact h1.keeps I.bk) ((h2 x hn).trans hv) h) hd
theorem Ux{x:ba}{v:V}{u:av}{pos:dn}(j:Gl X x)(hm:X.mg x=ao u)(r:RelV v u)(hd:(x==("__debug__" : ba))=ax:=by decide):PE X (.Name x pos) (tC v) :=
 λ_ _ _ H _ I h=>DU I j hm ⟨v,H,I,r,h⟩ hd
theorem ao3{x:ba}{v:V}{u:av}{pos:dn}(j:Gl X x)(hm:X.mg x=au)(hv:dq x=ao u)(r:RelV v u)(hn:x≠"__name__":=by decide)(hd:(x==("__debug__" : ba))=ax:=by decide):PE X (.Name x pos) (tC v) :=
 λ_ _ _ H _ I h=>HZ I j hm hv ⟨v,H,I,r,h⟩ hn hd
variable{a b:bx}{ta tb:TE}{pos:dn}
def tB(t:TE):TT:=λJ H Q=>t J H λx H1=>∃c,x=.bl c/\Q c H1
theorem amU{e:bx}{t:TE}(h:PE X e t)(he:∀whole,isTrue e X.env whole=(do let v<-whole;standAt e.pos;holding [v] (truthy v)):=by intro _;rfl):PT X e (tB t):=by
 intro aa s J H Q I z;refine isTrue_plain (bC (h aa s J H _ I z) λv U ⟨x,N,B,r1,j⟩=>?_) (he _);obtain⟨d,rfl,q⟩:=j;cases r1;exact yI ⟨N,B,q⟩
variable{tA SS:TT}{rest:aq bx}
def aiG(t u:TT):TT:=λJ H Q=>t J H λc H1=>if c=a5 then u J H1 Q else Q ax H1
def tOr(t u:TT):TT:=λJ H Q=>t J H λc H1=>if c=a5 then Q a5 H1 else u J H1 Q
def ah0(t:TT):TT:=λJ H Q=>t J H λc H1=>Q (!c) H1
theorem pw_and1(j:PT X a tA):PW X (.BoolOp .And [a] pos) tA:=by
 intro q aa s J H Q I h;refine isTrue_and (bC (j aa s J H Q I h) λc z e=>?_);cases c with
 |true=>exact isTrue_and_nil e
 |false=>exact e
theorem pw_or1(j:PT X a tA):PW X (.BoolOp .Or [a] pos) tA:=by
 intro q aa s J H Q I h;refine isTrue_or (bC (j aa s J H Q I h) λc z e=>?_);cases c with
 |false=>exact isTrue_or_nil e
 |true=>exact e
theorem pw_and(U:PT X a tA)(hb:PW X (.BoolOp .And (b::rest) pos) SS):PW X (.BoolOp .And (a::b::rest) pos) (aiG tA SS):=by
 intro B aa s J H Q I h;refine isTrue_and (bC (U aa s J H _ I h) λc N ⟨z,q,j⟩=>?_);cases c with
 |true=>exact hb B aa N J z Q q j
 |false=>exact⟨z,q,j⟩
theorem pw_or(U:PT X a tA)(hb:PW X (.BoolOp .Or (b::rest) pos) SS):PW X (.BoolOp .Or (a::b::rest) pos) (tOr tA SS):=by
 intro B aa s J H Q I h;refine isTrue_or (bC (U aa s J H _ I h) λc N ⟨z,q,j⟩=>?_);cases c with
 |true=>exact⟨z,q,j⟩
 |false=>exact hb B aa N J z Q q j
theorem amV(j:PT X a tA):PT X (.UnaryOp .Not a pos) (ah0 tA):=by
 intro aa s J H Q I h;exact isTrue_not (j aa s J H (λc q=>Q (!c) q) I h)
def aiF(ta tb:TE):TE:=λJ H Q=>ta J H λx H1=>∃c,x=.bl c/\if c=a5 then tb J H1 Q else Q (.bl ax) H1
def ahX(ta tb:TE):TE:=λJ H Q=>ta J H λx H1=>∃c,x=.bl c/\if c=a5 then Q (.bl a5) H1 else tb J H1 Q
def ahZ(ta:TE):TE:=λJ H Q=>ta J H λx H1=>∃c,x=.bl c/\Q (.bl (!c)) H1
theorem aoH{j}{t:TE}(h:PE X a t):PE X (.BoolOp j [a] pos) t:=λaa s J H Q I q=>BoolOp_one (h aa s J H Q I q)
theorem ao5(N:PE X a ta)(hb:PE X (.BoolOp .And (b::rest) pos) tb):PE X (.BoolOp .And (a::b::rest) pos) (aiF ta tb):=by
 intro aa s J H Q I h;refine BoolOp_and (bC (N aa s J H _ I h) λv B ⟨x,z,q,r1,j⟩=>?_);obtain⟨c,rfl,j⟩:=j;cases r1;refine yI ?_;cases c with
 |true=>exact hb aa B J z Q q j
 |false=>exact⟨.bl ax,z,q,rfl,j⟩
theorem aoF(N:PE X a ta)(hb:PE X (.BoolOp .Or (b::rest) pos) tb):PE X (.BoolOp .Or (a::b::rest) pos) (ahX ta tb):=by
 intro aa s J H Q I h;refine BoolOp_or (bC (N aa s J H _ I h) λv B ⟨x,z,q,r1,j⟩=>?_);obtain⟨c,rfl,j⟩:=j;cases r1;refine yI ?_;cases c with
 |false=>exact hb aa B J z Q q j
 |true=>exact⟨.bl a5,z,q,rfl,j⟩
theorem aoI(q:PE X a ta):PE X (.UnaryOp .Not a pos) (ahZ ta):=by
 intro aa s J H Q I h;refine UnaryOp_ (bC (q aa s J H _ I h) λv N ⟨x,B,z,r1,j⟩=>?_);obtain⟨c,rfl,j⟩:=j;cases r1;exact not_of (yI ⟨.bl (!c),B,z,rfl,j⟩)
def tIf(t:TT)(ta tb:TE):TE:=λJ H Q=>t J H λc H1=>if c=a5 then ta J H1 Q else tb J H1 Q
theorem aoS{c:bx}(N:PT X c tA)(U:PE X a ta)(hb:PE X b tb):PE X (.IfExp c a b pos) (tIf tA ta tb):=by
 intro aa s J H Q I h;refine wpAny_IfExp (bC (N aa s J H _ I h) λd j ⟨B,z,q⟩=>?_);cases d with
 |true=>exact U aa j J B Q z q
 |false=>exact hb aa j J B Q z q
end
def fO(K:bj)(H:Hp)(a:az)(xs:aq V):Prop :=
 Rd H a (.lst xs) \/
  ∃(o:c6) (j:a8 av) (n:a6),K.lookup a=ao o/\o.cls=.type "list"/\o.dict=au/\o.data=.seq j n/\j.size<=bf/\Vals xs j.toList
def jP(K:bj)(H:Hp)(a:az)(xs:aq V):Prop :=
 Rd H a (.tup xs) \/
  ∃(o:c6) (j:a8 av) (n:a6),K.lookup a=ao o/\o.cls=.type "tuple"/\o.data=.seq j n/\j.size<=bf/\Vals xs j.toList
noncomputable def aGO:av->aw V
 |.none=>ao .aV
 |.bool b=>ao (.bl b)
 |.int i _=>ao (.int i)
 |.str x _=>ao (.str x)
 |.bytes b _=>ao (.XM b)
 |.float b _=>ao (.EL b)
 |.ref a=>ao (.ref a)
 |.type n=>ao (.ty n)
 |_=>au
theorem RelV.abs{x:V}{u:av}(r:RelV x u):aGO u=ao x:=by
 cases x with
 |aV=>cases r;rfl
 |bl _=>cases r;rfl
 |int _=>obtain⟨t,rfl⟩:=r;rfl
 |str _=>obtain⟨t,rfl⟩:=r;rfl
 |XM _=>obtain⟨t,rfl⟩:=r;rfl
 |EL _=>obtain⟨t,rfl⟩:=r;rfl
 |ref _=>cases r;rfl
 |ty _=>cases r;rfl
theorem RelV.inj{x y:V}{u:av}(r:RelV x u)(q:RelV y u):x=y:=kJ (r.abs.symm.trans q.abs)
theorem Vals.inj:∀{xs ys:aq V} {us:aq av},Vals xs us->Vals ys us->xs=ys
 |_,_,_,.nil,.nil=>rfl
 |_,_,_,.cons r t,.cons q j=>by rw[r.inj q,Vals.inj t j]
section
variable{X:Cx}{aa:aq (az×c6)}{J:St}{H:Hp}{s:ay}{a:az}{xs ys:aq V}
theorem fO.of{K:bj}(h:H a=ao (.lst xs)):fO K H a xs:=.inl (.inl h)
theorem jP.of{K:bj}(h:H a=ao (.tup xs)):jP K H a xs:=.inl (.inl h)
theorem Inv.list(I:Inv X aa J H s)(h:fO X.K H a xs):∃j:aq av,Vals xs j/\PlainL s.heap a j.toArray/\xs.length<=bf:=by
 rcases h with h|⟨o,j,n,B,N,hd,q,U,r⟩
 ·obtain⟨z,j,n,r,e⟩:=h.ok I.aK;exact⟨j,r,⟨_,n,e,rfl,rfl,rfl⟩,z⟩
 ·refine⟨j.toList,r,⟨o,n,I.fY a o B,N,hd,by simpa using q⟩,?_⟩;have e:=r.length;simp only[gL]at e;omega
theorem Inv.tuple(I:Inv X aa J H s)(h:jP X.K H a xs):∃j:aq av,Vals xs j/\IsTup s.heap a j.toArray/\xs.length<=bf:=by
 rcases h with h|⟨o,j,n,B,N,q,U,r⟩
 ·obtain⟨z,j,r,p⟩:=h.ok I.aK;exact⟨j,r,p,z⟩
 ·refine⟨j.toList,r,⟨o,I.fY a o B,N,n,by simpa using q⟩,?_⟩;have e:=r.length;simp only[gL]at e;omega
theorem Inv.Wr(I:Inv X aa J H s)(h:fO X.K H a xs)(h':fO X.K H a ys):xs=ys:=by
 obtain⟨N,r,⟨o,n,e,_,_,d⟩,_⟩:=I.list h;obtain⟨j,z,⟨U,b,q,_,_,d'⟩,_⟩:=I.list h';rw[e]at q;cases q;rw[d]at d';injection d' with B _;have:N=j:=by simpa using c7 Array.toList B
 subst this;exact r.inj z
theorem Inv.ag6(I:Inv X aa J H s)(h:jP X.K H a xs)(h':jP X.K H a ys):xs=ys:=by
 obtain⟨N,r,⟨o,e,_,n,d⟩,_⟩:=I.tuple h;obtain⟨j,z,⟨U,q,_,b,d'⟩,_⟩:=I.tuple h';rw[e]at q;cases q;rw[d]at d';injection d' with B _;have:N=j:=by simpa using c7 Array.toList B
 subst this;exact r.inj z
end
noncomputable abbrev Cx.nK(X:Cx)(E:av->ay->Prop):Cx:={X with xe:=E}
abbrev Cx.vI(X:Cx):Cx:=X.nK λ_ _=>cp
theorem Cx.Ok.nK{X:Cx}(ok:X.Ok)(E:av->ay->Prop):(X.nK E).Ok :=
 ⟨ok.mod,ok.kind,ok.glob,ok.blt,ok.above,ok.inj,ok.has,ok.ES,ok.hd,ok.frames,ok.tT,ok.EM,ok.bs,ok.rO,ok.yS,ok.BF,ok.oS,ok.uI⟩
theorem Cx.Ok.vA{X:Cx}{E:av->ay->Prop}(ok:(X.nK E).Ok):X.Ok :=
 ⟨ok.mod,ok.kind,ok.glob,ok.blt,ok.above,ok.inj,ok.has,ok.ES,ok.hd,ok.frames,ok.tT,ok.EM,ok.bs,ok.rO,ok.yS,ok.BF,ok.oS,ok.uI⟩
section
variable{X:Cx}{aa:aq (az×c6)}{J:St}{H:Hp}{s:ay}{E:av->ay->Prop}
theorem Inv.nK(I:Inv X aa J H s)(E:av->ay->Prop):Inv (X.nK E) aa J H s:=⟨I.ok.nK E,I.os,I.bare,I.base,I.loc,I.cell,I.free,I.lQ,I.pin,I.aK,I.len⟩
theorem Inv.vA(I:Inv (X.nK E) aa J H s):Inv X aa J H s:=⟨I.ok.vA,I.os,I.bare,I.base,I.loc,I.cell,I.free,I.lQ,I.pin,I.aK,I.len⟩
theorem SP.vA{D:Ends}{f:Flow}{s':ay}(h:SP (X.nK E) aa D f s'):SP X aa D f s':=by
 cases f with
 |next=>obtain⟨j,z,I,q⟩:=h;exact⟨j,z,I.vA,q⟩
 |brk=>obtain⟨j,z,I,q⟩:=h;exact⟨j,z,I.vA,q⟩
 |cont=>obtain⟨j,z,I,q⟩:=h;exact⟨j,z,I.vA,q⟩
 |ret u=>obtain⟨v,j,z,I,r,q⟩:=h;exact⟨v,j,z,I.vA,r,q⟩
end
section
variable{X:Cx}{st:b8}{rest:aq b8}{t u:TS}{e:bx}{te:TE}{pos:dn}
def ah2:TS:=λD J H=>D.nx J H
def Bf(t u:TS):TS:=λD J H=>t {D with nx:=u D} J H
theorem amZ:oY X [] ah2:=λ_ _ J H _ I h=>RR ⟨J,H,I,h⟩
theorem am0(h1:PS X st t)(h2:oY X rest u):oY X (st::rest) (Bf t u):=by
 intro aa s J H D I h;refine wpAny_execs_cons (bC (h1 aa s J H {D with nx:=u D} I h) λf z q=>?_);cases f with
 |next =>
  obtain⟨j,N,B,q⟩:=q;exact h2 aa z j N D B q
 |ret v=>exact q
 |brk=>exact q
 |cont=>exact q
theorem amY(h1:PS X st t):oY X [st] t:=by
 intro aa s J H D I h;refine wpAny_execs_cons (bC (h1 aa s J H D I h) λf j q=>?_);cases f with
 |next=>exact RR q
 |ret v=>exact q
 |brk=>exact q
 |cont=>exact q
theorem Inv.quiet{aa:aq (az×c6)}{J:St}{H:Hp}{s:ay}(I:Inv X aa J H s):interactive X.env=ax:=by simp[interactive,I.ok.kind]
def ah9(te:TE):TS:=λD J H=>te J H λ_ H1=>D.nx J H1
theorem anC(he:PE X e te)(q:ej e au pos.line X.env=pure ax:=by rfl):PS X (.Expr e pos) (ah9 te):=by
 intro aa s J H D I h;exact wpAny_Expr_any (bC (he aa s J H _ I h) λv N ⟨x,B,z,r1,j⟩=>⟨J,B,z,j⟩) I.quiet q
def ahU(te:TE):TS:=λD J H=>te J H D.rt
theorem am6(he:PE X e te):PS X (.Return (ao e) pos) (ahU te):=by
 intro aa s J H D I h;exact wpAny_Return_some (bC (he aa s J H _ I h) λv B ⟨x,z,q,r1,j⟩=>⟨x,J,z,q,r1,j⟩)
def ah6(c:TT)(t u:TS):TS:=λD J H=>c J H λb H1=>if b=a5 then t D J H1 else u D J H1
theorem am9{c:bx}{a b:aq b8}{tc:TT}(N:PT X c tc)(U:oY X a t)(hb:oY X b u):PS X (.If c a b pos) (ah6 tc t u):=by
 intro aa s J H D I h;refine wpAny_If (bC (N aa s J H _ I h) λd j ⟨B,z,q⟩=>?_);cases d with
 |true=>exact U aa j J B D z q
 |false=>exact hb aa j J B D z q
def ah3:TS:=λ_ _ _=>cp
theorem am8:PS X st ah3:=λ_ _ _ _ _ _ h=>h.elim
end
abbrev TG:=V->St->Hp->(St->Hp->Prop)->Prop
abbrev BP:=aq V->St->Hp->(St->Hp->Prop)->Prop
def PG(X:Cx)(target:bx)(t:TG):Prop :=
 ∀(aa:aq (az×c6)) (s:ay) (J:St) (H:Hp) (v:V) (u:av) (Q:St->Hp->Prop),Inv X aa J H s->RelV v u->t v J H Q ->
  wpAny (bq X.prog X.w) X.A (assign target X.env u) (λ_ s'=>∃j H',Inv X aa j H' s'/\Q j H') X.xe s
def QM(X:Cx)(ts:aq bx)(t:BP):Prop :=
 ∀(aa:aq (az×c6)) (s:ay) (J:St) (H:Hp) (vs:aq V) (us:aq av) (Q:St->Hp->Prop),Inv X aa J H s->Vals vs us->t vs J H Q ->
  wpAny (bq X.prog X.w) X.A (assignInOrder ((du ts X.env).map (·.2)) us) (λ_ s'=>∃j H',Inv X aa j H' s'/\Q j H') X.xe s
section
variable{X:Cx}{pos:dn}
def Je(i:a6):TG:=λv J H Q=>Q (J.set i (ao v)) H
theorem Uw{i:a6}{x:ba}(z:X.N.Nodup)(hi:X.N[i]?=ao x)(j:Loc X.env.scope x)(q:X.fn x=a5\/X.env.scope.names.lookup x=ao .local:=by first|exact .inl rfl|exact .inr rfl|assumption):PG X (.Name x pos) (Je i):=by
 intro aa s J H v u Q I r h;exact wpAny_assign_Name (SV I z hi j r (λs' B=>⟨_,H,B,h⟩) q)
def aAT:BP:=λvs J H Q=>vs=[]/\Q J H
def aAX(t:TG)(u:BP):BP:=λvs J H Q=>∃v r,vs=v::r/\t v J H λj H'=>u r j H' Q
theorem an7:QM X [] aAT:=by
 intro aa s J H j q Q I r h;obtain⟨e,h⟩:=h;subst e;cases r;exact assignInOrder_nil ⟨J,H,I,h⟩
theorem an8{e:bx}{es:aq bx}{t:TG}{u:BP}(h1:PG X e t)(h2:QM X es u)
  (N:(du (e::es) X.env).map (·.2)=assign e X.env::(du es X.env).map (·.2):=by rfl):QM X (e::es) (aAX t u):=by
 intro aa s J H c f Q I r h;obtain⟨v,d,U,h⟩:=h;subst U;cases r with
 |cons r z =>
  rw[N];refine assignInOrder_cons (bC (h1 aa s J H _ _ _ I r h) λ_ q ⟨j,b,a,B⟩=>?_);exact h2 aa q j b _ _ Q a z B
def aAS(K:bj)(n:a6)(t:BP):TG:=λv J H Q=>∃a xs,v=.ref a/\jP K H a xs/\xs.length=n/\t xs J H Q
theorem an9{es:aq bx}{k:a6}{t:BP}{n:a6}(d:X.calm=a5)(h:QM X es t)
  (hn:(du es X.env).length=n:=by rfl) (B:(du es X.env).findIdx? (·.1)=au:=by rfl):PG X (.Tuple es k pos) (aAS X.K n t):=by
 intro aa s J H v u Q I r j;obtain⟨a,z,f,c,hl,j⟩:=j;subst f;cases r;obtain⟨l,q,U,i⟩:=I.tuple c;refine assign_Tuple_tuple (I.ok.hd d) U (by simp[hn,<-hl,q.length]) B λh' N=>?_;have g:Inv X aa J H {s with heap:=h' }:=I.kept (t':=s.toks) λb o e=>N b o (fW (dQ e)) e;exact h aa _ J H z _ Q g (by simpa using q) j
def SU(te:TE)(g:TG):TS:=λD J H=>te J H λx H1=>g x J H1 D.nx
theorem anG{tg e:bx}{te:TE}{g:TG}(he:PE X e te)(U:PG X tg g)(N:swapsWithSole [tg] e pos.line X.env=pure ax:=by rfl)(B:swappedStores [tg] e X.env=pure au:=by rfl)
  (h1:(du [tg] X.env).map (·.2)=[assign tg X.env]:=by rfl):PS X (.Assign [tg] e pos) (SU te g):=by
 intro aa s J H D I h;refine wpAny_Assign_stores (bC (he aa s J H _ I h) λv j ⟨x,b,a,r1,z⟩=>?_) N B;rw[h1];exact bC (U aa j J b x v _ a r1 z) λ_ s2 q=>q
theorem am5{i:a6}{x:ba}{e:bx}{te:TE}{pos':dn}(U:X.N.Nodup)(hi:X.N[i]?=ao x)(q:Loc X.env.scope x)(he:PE X e te)(z:ej e (ao (.Name x pos')) pos.line X.env=pure ax:=by rfl)(B:X.fn x=a5\/X.env.scope.names.lookup x=ao .local:=by first|exact .inl rfl|exact .inr rfl|assumption) :
  PS X (.Assign [.Name x pos'] e pos) (SU te (Je i)):=by
 intro aa s J H D I h;refine wpAny_Assign_Name (bC (he aa s J H _ I h) λv d ⟨y,c,b,r1,j⟩=>?_) z;exact SV b U hi q r1 (λs2 a=>⟨_,c,a,j⟩) B
def Rr(c:TT)(tb:TS):TS:=λD J H=>∃W:a6->St->Hp->Prop,(∃m,W m J H)/\∀m J H,W m J H ->
 c J H λb H1=>if b=a5 then ∃N:St->Hp->Prop,(∀j H',N j H'->∃q,q<m/\W q j H')/\tb {D with nx:=N,ct:=N,bk:=D.nx} J H1 else D.nx J H1
theorem am2{c:bx}{body:aq b8}{tc:TT}{tb:TS}(i:PassesOwn (bq X.prog X.w) X.A X.env X.xe)(u:PT X c tc)(hb:oY X body tb):PS X (.While c body [] pos) (Rr tc tb):=by
 intro aa s J H D I h;obtain⟨W,⟨t,w0⟩,turn⟩:=h;refine wpAny_While (codeAny_whileLoop (λn s'=>∃z p,Inv X aa z p s'/\W n z p) ?_ t ⟨J,H,I,w0⟩);rintro n r ⟨q,o,x,w1⟩;refine GN i (bC (u aa r q o _ x (turn n q o w1)) λb s2 ⟨m,l,a⟩=>?_);cases b with
 |true =>
  obtain⟨N,k,a⟩:=a;rw[a9 rfl];refine GN i (bC (hb aa s2 q m _ l a) λf y U=>?_);cases f with
  |next =>
   obtain⟨j,B,g,d⟩:=U;obtain⟨e,hm,w3⟩:=k j B d;exact⟨e,hm,j,B,g,w3⟩
  |cont =>
   obtain⟨j,B,g,d⟩:=U;obtain⟨e,hm,w3⟩:=k j B d;exact⟨e,hm,j,B,g,w3⟩
  |brk=>exact U
  |ret v=>exact U
 |false =>
  rw[bb ad6];exact RR ⟨q,m,l,a⟩
end
structure It where
 go:a6->Hp->Prop
 CP:a6->Hp->V->Hp->Prop
 stop:a6->Hp->Prop
def rX(X:Cx)(aa:aq (az×c6))(H:Hp)(b:az):Prop :=
 H b=au/\b≠X.env.locals/\b∉X.fs/\(b∈X.ex\/X.s₀.heap.objs.size<=b)/\(∀x c,X.env.cells.lookup x=ao c->c≠b)/\∀p∈X.pn++aa,p.1≠b
theorem Inv.xM{X:Cx}{aa:aq (az×c6)}{J:St}{H H':Hp}{s:ay}{b:az}(I:Inv X aa J H s)(hb:s.heap.objs.size<=b)(hn:H' b=au):rX X aa H' b:=by
 refine⟨hn,JT (lH I.lt hb),I.aq0 hb,.inr (rT I.sz hb),λx c e z=>?_,λp j z=>?_⟩
 ·obtain⟨v,q⟩:=I.cell x c e;exact b7 (lH q.lt (by rw[z];exact hb)) (Nat.lt_irrefl _)
 ·exact b7 (lH (dQ (I.pin p j).1) (by rw[z];exact hb)) (Nat.lt_irrefl _)
structure Turn(P:bh)(w:bw)(K:bj)(tg:bx)(σ:It)(fp:aq az)(it:az)(tn:a6->bz->Prop):Prop where
 mem:it∈fp
 obj:∀i h,tn i h->∀b∈fp,∃o,h.get? b=ao o/\∀v,o.data≠.cell v
 keep:∀i h h',tn i h->(∀b∈fp,∀o,h.get? b=ao o->h'.get? b=ao o)->tn i h'
 item:∀(X:Cx),X.prog=P->X.w=w->X.K=K->X.calm=a5->∀(i:a6) (aa:aq (az×c6)) (s:ay) (J:St) (H:Hp) (E:av->ay->Prop),Inv X aa J H s->(∀b∈fp,rX X aa H b)->tn i s.heap->σ.go i H ->
  wpAny (bq P w) X.A (e7 (.ref it)) (λr s1=>∃u,r=ao u /\
   wpAny (bq P w) X.A (letOwnedTupleGo tg (.ref it) u) (λ_ s2=>∃x H',Inv X aa J H' s2/\RelV x u/\σ.CP i H x H'/\tn (i+1) s2.heap/\∀b∈fp,H' b=au) E s1) E s
 done:∀(X:Cx),X.prog=P->X.w=w->X.K=K->X.calm=a5->∀(i:a6) (aa:aq (az×c6)) (s:ay) (J:St) (H:Hp) (E:av->ay->Prop),Inv X aa J H s->(∀b∈fp,rX X aa H b)->tn i s.heap->σ.stop i H ->
  wpAny (bq P w) X.A (e7 (.ref it)) (λr s1=>r=au/\Inv X aa J H s1) E s
 self:∀(A:bu) (i:a6) (s:ay) (Q:av->ay->Prop) (E:av->ay->Prop),tn i s.heap->Q (.ref it) s->wpAny (bq P w) A (pyIter (.ref it)) Q E s
abbrev TI:=St->Hp->(It->Hp->Prop)->Prop
def Mb(X:Cx)(aa:aq (az×c6))(J:St)(tg:bx)(R:It->Hp->Prop)(j:av)(s2:ay):Prop :=
 ∃(it:az) (fp:aq az) (tn:a6->bz->Prop) (σ:It) (H':Hp),j=.ref it/\Inv X aa J H' s2/\Turn X.prog X.w X.K tg σ fp it tn/\tn 0 s2.heap/\(∀b∈fp,rX X aa H' b)/\R σ H'
def PI(X:Cx)(tg iter:bx)(wi:TI):Prop :=
 ∀(aa:aq (az×c6)) (s:ay) (J:St) (H:Hp) (R:It->Hp->Prop),Inv X aa J H s->wi J H R ->
  wpAny (bq X.prog X.w) X.A (cj iter X.env) (λv j=>wpAny (bq X.prog X.w) X.A (pyIter v) (Mb X aa J tg R) X.xe j) X.xe s
theorem WH{M:ez}{A:bu}{E:av->ay->Prop}{s:ay}{tg:bx}{it:az}{u:av}{o:c6}{n:c4}{vs:a8 av}{Q:Unit->ay->Prop}(q:s.heap.get? it=ao o)(z:o.cls=.type n)(hd:o.data=.fields vs)
  (hn:["enumerate", "zip", "dict_itemiterator", "dict_reverseitemiterator", "odict_iterator", "itertools.zip_longest", "itertools.pairwise"].contains n=ax) (j:Q () s):wpAny M A (letOwnedTupleGo tg (.ref it) u) Q E s:=by
 unfold letOwnedTupleGo;cases tg <;> first
  |exact aY j
  | (cases u <;> first
    |exact aY j
    | (refine aJ (wpAny_load q ?_)
       rw[z,hd];show wpAny M A (if(["enumerate", "zip", "dict_itemiterator", "dict_reverseitemiterator", "odict_iterator", "itertools.zip_longest", "itertools.pairwise"].contains n&&vs[0]? == ao (ck _))=a5 then _ else _) Q E s;rw[bb (by intro h;rw[hn,Bool.false_and]at h;cases h)];exact aY j))
noncomputable def Na(K:bj)(a:az):It :=
 ⟨λi H=>∃xs x,fO K H a xs/\xs[i]?=ao x,λi H x H'=>H'=H/\∀xs,fO K H a xs->xs[i]?=ao x,λi H=>∃xs,fO K H a xs/\xs.length<=i⟩
noncomputable def Mz(K:bj)(a:az):It :=
 ⟨λi H=>∃xs x,jP K H a xs/\xs[i]?=ao x,λi H x H'=>H'=H/\∀xs,jP K H a xs->xs[i]?=ao x,λi H=>∃xs,jP K H a xs/\xs.length<=i⟩
noncomputable def YY(lo:a4)(n:a6):It:=⟨λi _=>i<n,λi H x H'=>H'=H/\x=.int (lo+i),λi _=>n<=i⟩
theorem ag1{P:bh}{w:bw}{K:bj}{tg:bx}(a it:az):Turn P w K tg (Na K a) [it] it (λi h=>h.IsListIter it a i)where
 mem:=by simp
 obj:=λi h st b hb=>by
  have e:b=it:=by simpa using hb
  subst e;obtain⟨o,e,c,d⟩:=st;exact⟨o,e,λv z=>by rw[d]at z;cases z⟩
 keep:=λi h h' st k=>st.at λo e=>k it (by simp) o e
 item:=by
  intro X g U l A i aa s J H E I q st f;subst g U l;obtain⟨D,x,j,N⟩:=f;obtain⟨R,B,p,G⟩:=I.list j;obtain⟨u,M,F⟩:=B.get N;obtain⟨y,t,f2,r,n,m⟩:=q it (by simp);refine wpAny_pyNext_list_item st p.isList (x:=u) (by simpa using M) λh' C sb=>?_;have S:Inv X aa J H {s with heap:=h' }:=I.turned (t':=s.toks) (λb o hb e=>(sb.2 b hb).trans e) y t r n m;obtain⟨o,e,c,d⟩:=id C;exact⟨u,rfl,WH (s:={s with heap:=h' }) e c d (by decide) ⟨x,H,S,F,⟨rfl,λT L=>by rw[I.Wr L j];exact N⟩,C,λb hb=>(q b hb).1⟩⟩
 done:=by
  intro X g U l A i aa s J H E I q st f;subst g U l;obtain⟨D,j,N⟩:=f;obtain⟨R,B,p,G⟩:=I.list j;obtain⟨y,t,f2,r,n,m⟩:=q it (by simp);have hl:=B.length;exact wpAny_pyNext_list_end (I.ok.hd A) st p.isList (by simp;omega) λh' Q=>⟨rfl,I.turned (t':=s.toks) (λb o hb e=>Q b o hb e) y t r n m⟩
 self:=λ_ _ _ _ _ st h=>wpAny_pyIter_listiter st h
theorem agY{P:bh}{w:bw}{K:bj}{tg:bx}(a it:az):Turn P w K tg (Mz K a) [it] it (λi h=>h.IsTupleIter it a i)where
 mem:=by simp
 obj:=λi h st b hb=>by
  have e:b=it:=by simpa using hb
  subst e;obtain⟨o,e,c,d⟩:=st;exact⟨o,e,λv z=>by rw[d]at z;cases z⟩
 keep:=λi h h' st k=>st.at λo e=>k it (by simp) o e
 item:=by
  intro X g U l C i aa s J H E I q st f;subst g U l;obtain⟨F,x,j,N⟩:=f;obtain⟨A,B,p,L⟩:=I.tuple j;obtain⟨u,Q,G⟩:=B.get N;obtain⟨y,t,f2,r,n,m⟩:=q it (by simp);refine wpAny_pyNext_tuple_item st (show s.heap.IsTuple a A.toArray from p) (x:=u) (by simpa using Q) λh' D sb=>?_;have S:Inv X aa J H {s with heap:=h' }:=I.turned (t':=s.toks) (λb o hb e=>(sb.2 b hb).trans e) y t r n m;obtain⟨o,e,c,d⟩:=id D;exact⟨u,rfl,WH (s:={s with heap:=h' }) e c d (by decide) ⟨x,H,S,G,⟨rfl,λT M=>by rw[I.ag6 M j];exact N⟩,D,λb hb=>(q b hb).1⟩⟩
 done:=by
  intro X g U l C i aa s J H E I q st f;subst g U l;obtain⟨F,j,N⟩:=f;obtain⟨A,B,p,L⟩:=I.tuple j;obtain⟨y,t,f2,r,n,m⟩:=q it (by simp);have hl:=B.length;exact wpAny_pyNext_tuple_end (I.ok.hd C) st (show s.heap.IsTuple a A.toArray from p) (by simp;omega) λh' R=>⟨rfl,I.turned (t':=s.toks) (λb o hb e=>R b o hb e) y t r n m⟩
 self:=λ_ _ _ _ _ st h=>wpAny_pyIter_tupleiter st h
theorem ag0{P:bh}{w:bw}{K:bj}{tg:bx}(it:az)(lo:a4)(n:a6):Turn P w K tg (YY lo n) [it] it (λi h=>IsRangeIter h it (lo+(i:a6)*1) ((n:a4)-(i:a6)) 1)where
 mem:=by simp
 obj:=λi h st b hb=>by
  have e:b=it:=by simpa using hb
  subst e;exact⟨_,st,λv z=>by
   have p:Data.fields _=Data.cell v:=z;cases p⟩
 keep:=λi h h' st k=>k it (by simp) _ st
 item:=by
  intro X U q a N i aa s J H E I j st B;subst U q a;obtain⟨l,g,f2,f,d,c⟩:=j it (by simp);have W:=Walks.range (prog:=X.prog) (w:=X.w) (I.ok.hd N) it lo 1 n;refine W.item i s _ _ B st λv h' tk hv m r=>?_;obtain⟨t,rfl⟩:=hv;have x:Inv X aa J H {s with heap:=h',toks:=tk}:=I.turned (λb o hb e=>r b o (by simpa using hb) e) l g f d c;refine⟨_,rfl,WH (s:={s with heap:=h',toks:=tk}) (n := "range_iterator") m rfl rfl (by decide) ⟨.int (lo+i),H,x,⟨t,?_⟩,⟨rfl,rfl⟩,m,λb hb=>(j b hb).1⟩⟩;rw[Int.mul_one]
 done:=by
  intro X U q a N i aa s J H E I j st B;subst U q a;obtain⟨l,g,f2,f,d,c⟩:=j it (by simp);exact wpAny_pyNext_range_end (I.ok.hd N) st (by have:n<=i:=B;omega) λh' u=>⟨rfl,I.turned (t':=s.toks) (λb o hb e=>u b o hb e) l g f d c⟩
 self:=λ_ _ _ _ _ st h=>wpAny_pyIter_rangeiter st h
section
variable{X:Cx}{tg:bx}
theorem alX{aa:aq (az×c6)}{J:St}{H:Hp}{s:ay}{R:It->Hp->Prop}{E:av->ay->Prop}{lo hi:a4}{t u v:Tok}{tk:a6}(I:Inv X aa J H s)(h1 : -(2 ^ 62)<=lo)(h2:lo<2 ^ 62)(B : -(2 ^ 62)<=hi)(z:hi<2 ^ 62)
  (q:R (YY lo (hi-lo).toNat) H):wpAny (bq X.prog X.w) X.A (pyIter (.ref s.heap.objs.size)) (Mb X aa J tg R) E {s with heap:=s.heap.push {cls:=.type "range",data:=.fields #[.int lo t,.int hi u,.int 1 v]},toks:=tk}:=by
 refine wpAny_pyIter_range (IsRange.new ..) (small_one h1 h2 B z) ?_;have j:Inv X aa J H {s with heap:=s.heap.push {cls:=.type "range",data:=.fields #[.int lo t,.int hi u,.int 1 v]},toks:=tk}:=I.kept λb o e=>dI _ e;refine⟨(s.heap.push {cls:=.type "range",data:=.fields #[.int lo t,.int hi u,.int 1 v]}).objs.size,[(s.heap.push {cls:=.type "range",data:=.fields #[.int lo t,.int hi u,.int 1 v]}).objs.size],_,_,H,rfl,
  j.kept (t':=tk) λb o e=>dI _ e,ag0 _ lo (hi-lo).toNat,?_,λb hb=>?_,q⟩
 ·have U:lo+((0:a6):a4)*1=lo:=by simp
  have N:(((hi-lo).toNat:a6):a4)-((0:a6):a4)=Builtin.Range.rangeSize lo hi 1:=by rw[rangeSize_one];split <;> omega
  show IsRangeIter _ _ (lo+((0:a6):a4)*1) ((((hi-lo).toNat:a6):a4)-((0:a6):a4)) 1;rw[U,N];exact gU _ rfl
 ·have e:b=(s.heap.push {cls:=.type "range",data:=.fields #[.int lo t,.int hi u,.int 1 v]}).objs.size:=by simpa using hb
  subst e;exact j.xM cJ (j.aK.fresh cJ)
def avS(ta:TA):TI:=λJ H R=>ta J H λvs H1=>∃j:a4,vs=[.int j]/\-(2 ^ 62)<=j/\j<2 ^ 62/\R (YY 0 j.toNat) H1
theorem an2{a:bx}{ta:TA}{p pos:dn}(b:Gl X "range")(hm:X.mg "range" = au)(c:PA X [a] ta)(U:bg [a] X.env=[(ax,cj a X.env)]:=by rfl):PI X tg (.Call (.Name "range" p) [a] [] pos) (avS ta):=by
 intro aa s J H R I h;refine Call_ (HZ I b hm boot_range (Ma (bC (c pos aa s J H _ I h) λg i ⟨f,k,d,r1,z⟩=>?_) U rfl));obtain⟨j,e,z,N,q⟩:=z;subst e;cases r1 with
 |cons r B =>
  cases B;obtain⟨t,rfl⟩:=r;exact call_range_1 (alX d (by omega) (by omega) z N (by simpa using q))
def Rv(wi:TI)(g:TG)(tb:TS):TS:=λD J H=>wi J H λσ H1=>∃W:a6->a6->St->Hp->Prop,(∃m,W 0 m J H1)/\∀i m J H,W i m J H ->
 (σ.stop i H/\D.nx J H)\/(σ.go i H/\∃N:St->Hp->Prop,(∀j H',N j H'->∃z,z<m/\W (i+1) z j H')/\∀x H',σ.CP i H x H'->g x J H' λq H2=>tb {D with nx:=N,ct:=N,bk:=D.nx} q H2)
noncomputable def LY(fp:aq az)(h:bz):aq (az×c6):=fp.filterMap λb=>(h.get? b).map λo=>(b,o)
theorem MU{fp:aq az}{h:bz}{b:az}{o:c6}(hb:b∈fp)(e:h.get? b=ao o):(b,o)∈LY fp h:=List.mem_filterMap.mpr ⟨b,hb,by rw[e];rfl⟩
theorem ap6{fp:aq az}{h:bz}{p:az×c6}(j:p∈LY fp h):p.1∈fp/\h.get? p.1=ao p.2:=by
 obtain⟨b,hb,e⟩:=List.mem_filterMap.mp j;cases q:h.get? b with
 |none=>rw[q]at e;cases e
 |some o =>
  rw[q]at e;have z:(b,o)=p:=kJ e;subst z;exact⟨hb,q⟩
theorem Inv.pinned{aa:aq (az×c6)}{J:St}{H:Hp}{s:ay}{fp:aq az}(I:Inv X aa J H s)(hf:∀b∈fp,rX X aa H b)(B:∀b∈fp,∃o,s.heap.get? b=ao o/\∀v,o.data≠.cell v):Inv X (aa++LY fp s.heap) J H s :=
 I.Du λp q=>(kL.mp q).elim (λz=>I.pin p (kK _ z)) λz=>by
  obtain⟨hb,e⟩:=ap6 z;obtain⟨f0,f1,f2,_⟩:=hf p.1 hb;obtain⟨o,j,d⟩:=B p.1 hb;rw[e]at j;cases j;exact⟨e,f0,f1,f2,d⟩
theorem Inv.LK{aa pl:aq (az×c6)}{J:St}{H:Hp}{s:ay}(I:Inv X (aa++pl) J H s):Inv X aa J H s:=I.Du λp j=>I.pin p (kK _ (oB _ j))
theorem anA{iter:bx}{body:aq b8}{wi:TI}{g:TG}{tb:TS}{pos:dn}(l:PassesOwn (bq X.prog X.w) X.A X.env X.xe)(Q:X.calm=a5)(hi:PI X tg iter wi)(hg:PG X tg g)(hb:oY X body tb)
  (hs:∀x,cw iter X.env x=pure x:=by intro _;rfl):PS X (.For tg iter body [] pos) (Rv wi g tb):=by
 intro aa s J H D I h;refine wpAny_For (bC (hi aa s J H _ I h) λv s1 h1=>bC h1 λFt s2 h2=>?_) hs;obtain⟨it,t,tn,σ,H2,e,I2,T,iE,f2,W,⟨m0,w0⟩,turn⟩:=h2;subst e;have K:∀{a:Hp},(∀b∈t,a b=au)->∀b∈t,rX X aa a b:=λhn b hb=>⟨hn b hb,(f2 b hb).2⟩
 refine codeAny_forLoop_any (λn s'=>∃i z a,Inv X aa z a s'/\tn i s'.heap/\(∀b∈t,a b=au)/\W i n z a) ?_ m0 ⟨0,J,H2,I2,iE,λb hb=>(f2 b hb).1,w0⟩;rintro n M ⟨i,q,y,R,P,p,w3⟩
 rcases turn i n q y w3 with⟨stop,qn⟩|⟨go,N,hN,step⟩
 ·refine GN l (bC (T.done X rfl rfl rfl Q i aa M q y X.xe R (K p) P stop) λr s4 ⟨hr,I4⟩=>?_);subst hr;exact RR ⟨q,y,I4,qn⟩
 ·refine GN l (bC (T.item X rfl rfl rfl Q i aa M q y X.xe R (K p) P go) λr s4 ⟨u,hr,h4⟩=>?_);subst hr;refine GN l (bC h4 λ_ L zz=>?_);obtain⟨x,S,I5,r5,V,G,WQ⟩:=zz;have F:=I5.pinned (K WQ) (T.obj _ _ G);refine GN l (bC (hg _ L q S x u _ F r5 (step x S V)) λ_ s6 ⟨C,H6,I6,q6⟩=>?_);refine GN l (bC (hb _ s6 C H6 _ I6 q6) λf E c=>?_);have again:∀{j:St} {U:Hp},Inv X (aa++LY t L.heap) j U E->N j U->∃m,m<n/\∃i z a,Inv X aa z a E/\tn i E.heap/\(∀b∈t,a b=au)/\W i m z a:=λ{j U} B k=>by
   obtain⟨m',hm,w7⟩:=hN j U k;refine⟨m',hm,i+1,j,U,B.LK,T.keep _ _ _ G λb hb o e=>(B.pin (b,o) (kK _ (kK _ (MU hb e)))).1,λb hb=>?_,w7⟩;obtain⟨o,e,d⟩:=T.obj _ _ G b hb;exact(B.pin (b,o) (kK _ (kK _ (MU hb e)))).2.1
  cases f with
  |next=>obtain⟨j,U,B,k⟩:=c;exact again B k
  |cont=>obtain⟨j,U,B,k⟩:=c;exact again B k
  |brk=>obtain⟨j,U,B,c⟩:=c;exact⟨j,U,B.LK,c⟩
  |ret v=>obtain⟨x7,j,U,B,r7,c⟩:=c;exact⟨x7,j,U,B.LK,r7,c⟩
end
abbrev R2:=V->V->Hp->VK->Prop
def gZ(X:Cx)(f:av->av->Sem av)(r:R2):Prop :=
 ∀(aa:aq (az×c6)) (s:ay) (J:St) (H:Hp) (x y:V) (v u:av) (Q:VK),Inv X aa J H s->RelV x v->RelV y u->r x y H Q ->
  wpAny (bq X.prog X.w) X.A (f v u) (EP X aa J Q) X.xe s
def Lv(X:Cx)(f:av->Sem av)(r:V->Hp->VK->Prop):Prop :=
 ∀(aa:aq (az×c6)) (s:ay) (J:St) (H:Hp) (x:V) (v:av) (Q:VK),Inv X aa J H s->RelV x v->r x H Q ->
  wpAny (bq X.prog X.w) X.A (f v) (EP X aa J Q) X.xe s
def tP(X:Cx)(f:av)(r:aq V->Hp->VK->Prop):Prop :=
 ∀(aa:aq (az×c6)) (s:ay) (J:St) (H:Hp) (xs:aq V) (us:aq av) (Q:VK),Inv X aa J H s->Vals xs us->r xs H Q ->
  wpAny (bq X.prog X.w) X.A (call f us) (EP X aa J Q) X.xe s
def LN(r:R2)(ta tb:TE):TE:=λJ H Q=>ta J H λx H1=>tb J H1 λy H2=>r x y H2 Q
def tUn(r:V->Hp->VK->Prop)(ta:TE):TE:=λJ H Q=>ta J H λx H1=>r x H1 Q
def rI(C:a4->a4->Prop)(g:a4->a4->V):R2:=λx y H Q=>∃i j,x=.int i/\y=.int j/\C i j/\Q (g i j) H
def yO(g:a4->a4->V):R2:=λx y H Q=>∃i j,x=.int i/\y=.int j/\Q (g i j) H
def rU(g:a4->V):V->Hp->VK->Prop:=λx H Q=>∃i,x=.int i/\Q (g i) H
section
variable{X:Cx}{a b c:bx}{ta tb tc:TE}{pos:dn}
theorem Km(U:PE X a ta)(hb:PE X b tb){aa:aq (az×c6)}{s:ay}{J:St}{H:Hp}{R:V->V->Hp->Prop}(I:Inv X aa J H s)
  (h:ta J H λx H1=>tb J H1 λy H2=>R x y H2) {Q:av->ay->Prop} {f:av->av->Sem av}
  (N:∀v u s2 x y H2,Inv X aa J H2 s2->RelV x v->RelV y u->R x y H2->wpAny (bq X.prog X.w) X.A (f v u) Q X.xe s2) :
  wpAny (bq X.prog X.w) X.A (cj a X.env) (λv s₁=>wpAny (bq X.prog X.w) X.A (cj b X.env) (λu s₂=>wpAny (bq X.prog X.w) X.A (f v u) Q X.xe s₂) X.xe s₁) X.xe s:=by
 refine bC (U aa s J H _ I h) λv j ⟨x,H1,d,r1,B⟩=>?_;refine bC (hb aa j J H1 _ d B) λu s2 ⟨y,H2,c,q,z⟩=>?_;exact N v u s2 x y H2 c r1 q z
theorem aoG{j:Operator}{r:R2}(N:gZ X (c9 j) r)(U:PE X a ta)(hb:PE X b tb):PE X (.BinOp a j b pos) (LN r ta tb):=by
 intro aa s J H Q I h;exact wpAny_BinOp (Km U hb I h λv u s2 x y d c B z q=>N aa s2 J d x y v u Q c B z q)
theorem aoA{j:UnaryOp}{r:V->Hp->VK->Prop}(B:Lv X (unaryOp j) r)(N:PE X a ta):PE X (.UnaryOp j a pos) (tUn r ta):=by
 intro aa s J H Q I h;exact UnaryOp_ (bC (N aa s J H _ I h) λv q ⟨x,b,U,r1,z⟩=>B aa q J b x v Q U r1 z)
theorem UB{f:av->av->Sem av}{C:a4->a4->Prop}{g:a4->a4->a4}
  (rule:∀(i j:a4) (t u:Tok) (s:ay) (Q:av->ay->Prop) (E:av->ay->Prop),C i j->Q (.int (g i j) s.toks) {s with toks:=s.toks+1}->wpAny (bq X.prog X.w) X.A (f (.int i t) (.int j u)) Q E s) :
  gZ X f (rI C λi j => .int (g i j)):=by
 intro aa s J H x y v u Q I N B h;obtain⟨i,j,rfl,rfl,U,q⟩:=h;obtain⟨t,rfl⟩:=N;obtain⟨z,rfl⟩:=B;exact rule i j t z s _ _ U ⟨.int (g i j),H,I.tok _,⟨_,rfl⟩,q⟩
theorem Vg{f:av->av->Sem av}{g:a4->a4->a4}
  (rule:∀(i j:a4) (t u:Tok) (s:ay) (Q:av->ay->Prop) (E:av->ay->Prop),Q (.int (g i j) s.toks) {s with toks:=s.toks+1}->wpAny (bq X.prog X.w) X.A (f (.int i t) (.int j u)) Q E s) :
  gZ X f (yO λi j => .int (g i j)):=by
 intro aa s J H x y v u Q I N B h;obtain⟨i,j,rfl,rfl,q⟩:=h;obtain⟨t,rfl⟩:=N;obtain⟨z,rfl⟩:=B;exact rule i j t z s _ _ ⟨.int (g i j),H,I.tok _,⟨_,rfl⟩,q⟩
theorem UC{f:av->av->Sem av}{g:a4->a4->br}
  (rule:∀(i j:a4) (t u:Tok) (s:ay) (Q:av->ay->Prop) (E:av->ay->Prop),Q (.bool (g i j)) s->wpAny (bq X.prog X.w) X.A (f (.int i t) (.int j u)) Q E s) :
  gZ X f (yO λi j => .bl (g i j)):=by
 intro aa s J H x y v u Q I N B h;obtain⟨i,j,rfl,rfl,q⟩:=h;obtain⟨t,rfl⟩:=N;obtain⟨z,rfl⟩:=B;exact rule i j t z s _ _ ⟨.bl (g i j),H,I,rfl,q⟩
def mL(i j:a4):Prop:=0<j/\j<1073741824
def CN(i j:a4):Prop:=0<=j/\j<=1000000/\i.natAbs<2 ^ 64
def kM(i j:a4):Prop:=(-(2 ^ 64)<i/\i<2 ^ 64)\/(-(2 ^ 64)<j/\j<2 ^ 64)
theorem kM.ok{i j:a4}(h:kM i j):IntMulOk i j:=by
 rcases h with⟨h1,h2⟩|⟨h1,h2⟩
 ·exact .of_left (intBits_le_64 h1 h2)
 ·exact .of_right (intBits_le_64 h1 h2)
theorem apS:gZ X (c9 .Add) (yO λi j => .int (i+j)):=Vg λ_ _ _ _ _ _ _ q=>add_int q
theorem apE:gZ X (c9 .Sub) (yO λi j => .int (i-j)):=Vg λ_ _ _ _ _ _ _ q=>sub_int q
theorem apH:gZ X (c9 .Mult) (rI kM λi j => .int (i*j)):=UB λ_ _ _ _ _ _ _ z q=>mul_int q z.ok
theorem apO:gZ X (c9 .FloorDiv) (rI mL λi j => .int (i/j)):=UB λi j _ _ _ _ _ z q=>by
 have h1:(0:a4)<j:=z.1;have h2:j<1073741824:=z.2;exact floordiv_int (by omega) (by rw[Int.fdiv_eq_ediv_of_nonneg i (by omega)];exact q) (.inl (PyProof.noPylong_small (by omega)))
theorem apI:gZ X (c9 .Mod) (rI (λ_ j=>0<j) λi j => .int (i%j)):=UB λi j _ _ _ _ _ z q=>by
 have h1:(0:a4)<j:=z;exact mod_int' (by omega) (by rw[Int.fmod_eq_emod_of_nonneg i (by omega)];exact q)
theorem apF:gZ X (c9 .Pow) (rI CN λi j => .int (i ^ j.toNat)):=UB λ_ _ _ _ _ _ _ z q=>pow_int_small z.1 z.2.1 z.2.2 q
theorem unI{f:av->Sem av}{g:a4->a4}
  (rule:∀(i:a4) (t:Tok) (s:ay) (Q:av->ay->Prop) (E:av->ay->Prop),Q (.int (g i) s.toks) {s with toks:=s.toks+1}->wpAny (bq X.prog X.w) X.A (f (.int i t)) Q E s) :
  Lv X f (rU λi => .int (g i)):=by
 intro aa s J H x v Q I j h;obtain⟨i,rfl,q⟩:=h;obtain⟨t,rfl⟩:=j;exact rule i t s _ _ ⟨.int (g i),H,I.tok _,⟨_,rfl⟩,q⟩
theorem agQ:Lv X (unaryOp .USub) (rU λi => .int (-i)):=unI λ_ _ _ _ _ q=>neg_int q
theorem aBE{aa:aq (az×c6)}{J:St}{H:Hp}{s:ay}{Q:VK}{k k':br}(I:Inv X aa J H s)(q:Q (.bl k) H)(e:k=k'):EP X aa J Q (.bool k') s:=by
 subst e;exact⟨.bl k,H,I,rfl,q⟩
theorem apJ:gZ X (b9 .Lt) (yO λi j => .bl (decide (i<j))):=UC λ_ _ _ _ _ _ _ q=>lt_int q
theorem apK:gZ X (b9 .LtE) (yO λi j => .bl (decide (i<=j))):=UC λ_ _ _ _ _ _ _ q=>le_int q
theorem apM:gZ X (b9 .Gt) (yO λi j => .bl (decide (j<i))):=UC λ_ _ _ _ _ _ _ q=>gt_int q
theorem apN:gZ X (b9 .GtE) (yO λi j => .bl (decide (j<=i))):=UC λ_ _ _ _ _ _ _ q=>ge_int q
theorem apL:gZ X (b9 .Is) (λx y H Q=>y=.aV/\Q (.bl (decide (x=.aV))) H):=by
 intro aa s J H x y v u Q I j z h;obtain⟨rfl,q⟩:=h;cases z;refine is_none_gen (aBE I q ?_);cases x <;> first
  |(cases j;rfl)
  |(obtain⟨t,rfl⟩:=j;rfl)
theorem gZ.or{f:av->av->Sem av}{r B:R2}(h:gZ X f r)(h':gZ X f B):gZ X f (λx y H Q=>r x y H Q\/B x y H Q):=by
 intro aa s J H x y v u Q I z j q
 rcases q with q|q
 ·exact h aa s J H x y v u Q I z j q
 ·exact h' aa s J H x y v u Q I z j q
theorem gQ(b:bx){j:CmpOp}(h:j≠.In:=by decide)(h2:j≠.NotIn:=by decide):e8 j b=ax:=by
 have z:(j==CmpOp.In)=ax:=by cases j <;> first|rfl|exact b7 rfl h
 have q:(j==CmpOp.NotIn)=ax:=by cases j <;> first|rfl|exact b7 rfl h2
 cases b <;> simp[e8,z,q]
theorem aoZ{j:CmpOp}{r:R2}(N:gZ X (b9 j) r)(U:PE X a ta)(hb:PE X b tb)(hm:e8 j b=ax):PE X (.Compare a [j] [b] pos) (LN r ta tb):=by
 intro aa s J H Q I h;exact wpAny_Compare1 (Km U hb I h λv u s2 x y d c B z q=>N aa s2 J d x y v u Q c B z q) hm
def Be(t:TE):TT:=λJ H Q=>t J H λx H'=>∃k,x=.bl k/\Q k H'
theorem amW{j:CmpOp}{r:R2}(g:gZ X (b9 j) r)(i:PE X a ta)(hb:PE X b tb)(hm:e8 j b=ax):PT X (.Compare a [j] [b] pos) (Be (LN r ta tb)):=by
 intro aa s J H Q I h;refine wpAny_isTrue_Compare1 (bC (i aa s J H _ I h) λv q ⟨x,t,n,r1,f⟩=>bC (hb aa q J t _ n f) λu s2 ⟨y,p,m,N,d⟩ =>
  bC (g aa s2 J p x y v u _ m r1 N d) λc w ⟨z,o,l,B,k,e,U⟩=>?_) hm
 subst e;cases B;exact yI ⟨o,l,U⟩
def Rx(r B:R2)(ta tb tc:TE):TE:=λJ H Q=>ta J H λx H1=>tb J H1 λy H2=>r x y H2 λz j=>∃k,z=.bl k /\
 (if k=a5 then tc J j λq N=>B y q N Q else Q (.bl ax) j)
theorem ao0{q j:CmpOp}{r N:R2}(E:gZ X (b9 q) r)(D:gZ X (b9 j) N)(G:PE X a ta)(hb:PE X b tb)(F:PE X c tc)
  (hm:lastMarks [q,j] [b,c]=ax:=by with_unfolding_all rfl):PE X (.Compare a [q,j] [b,c] pos) (Rx r N ta tb tc):=by
 intro aa s J H Q I h;refine Compare_chain (bC (G aa s J H _ I h) λv o ⟨x,S,M,r1,C⟩=>chain_link (bC (hb aa o J S _ M C) λu s2 ⟨y,R,L,B,A⟩ =>
  bC (E aa s2 J R x y v u _ L r1 B A) λd n ⟨z,g,f,t,k,e,U⟩=>?_)) hm
 subst e;cases t;refine yI ?_;cases k with
 |false=>exact ite_ff ⟨.bl ax,g,f,rfl,U⟩
 |true=>exact ite_tt (chain_last (bC (F aa n J g _ f U) λl m ⟨i,P,K,p,w⟩=>D aa m J P y i u l Q K B p w))
theorem UN:(bf:a6)<2 ^ 63:=by rw[rD];decide
theorem vals1{x:V}{us:aq av}(r:Vals [x] us):∃u,us=[u]/\RelV x u:=by
 cases r with
 |cons r1 j=>cases j;exact⟨_,rfl,r1⟩
theorem vals2{x y:V}{us:aq av}(r:Vals [x,y] us):∃u j,us=[u,j]/\RelV x u/\RelV y j:=by
 cases r with
 |cons r1 B =>
  cases B with
  |cons z q=>cases q;exact⟨_,_,rfl,r1,z⟩
theorem aEX(B:X.calm=a5):tP X (.builtin "max") (λxs H Q=>∃i j,xs=[.int i,.int j]/\Q (.int (if j>i then j else i)) H):=by
 intro aa s J H xs U Q I r h;obtain⟨i,j,rfl,q⟩:=h;obtain⟨u,N,rfl,⟨t,rfl⟩,⟨a,rfl⟩⟩:=vals2 r;refine max_two_ints (I.ok.hd B) λh' tk k=>⟨_,H,I.kept k,?_,q⟩
 by_cases z:j>i
 ·rw[a9 z,a9 z];exact⟨_,rfl⟩
 ·rw[bb z,bb z];exact⟨_,rfl⟩
theorem aEW(B:X.calm=a5):tP X (.builtin "min") (λxs H Q=>∃i j,xs=[.int i,.int j]/\Q (.int (if j<i then j else i)) H):=by
 intro aa s J H xs U Q I r h;obtain⟨i,j,rfl,q⟩:=h;obtain⟨u,N,rfl,⟨t,rfl⟩,⟨a,rfl⟩⟩:=vals2 r;refine min_two_ints (I.ok.hd B) λh' tk k=>⟨_,H,I.kept k,?_,q⟩
 by_cases z:j<i
 ·rw[a9 z,a9 z];exact⟨_,rfl⟩
 ·rw[bb z,bb z];exact⟨_,rfl⟩
theorem aE1:tP X (.type "int") (λxs H Q=>(∃i,xs=[.int i]/\Q (.int i) H)\/∃k,xs=[.bl k]/\Q (.int (if k then 1 else 0)) H):=by
 intro aa s J H xs j Q I r h
 rcases h with⟨i,rfl,q⟩|⟨k,rfl,q⟩
 ·obtain⟨u,rfl,t,rfl⟩:=vals1 r;exact call_int_int ⟨.int i,H,I,⟨_,rfl⟩,q⟩
 ·obtain⟨u,rfl,r1⟩:=vals1 r;cases r1;exact call_int_bool ⟨.int (if k then 1 else 0),H,I.tok _,⟨_,rfl⟩,q⟩
end
structure FH(h:bz)(x dx C:az)(mA:ba->aw av):Prop where
 obj:h.get? x=ao (instObj C dx)
 ns:h.Ns1 dx mA
 ne:dx≠x
theorem asC{h:bz}{dx:az}{mA:ba->aw av}(n:h.Ns1 dx mA):∃j,h.get? dx=ao j/\∀name,lookIn name j=ao (mA name):=by
 obtain⟨o,es,d,U,hd,b,_,hm⟩:=n;refine⟨o,U,λname=>?_⟩;have e:=hm name;unfold nsFind findBy at e;rw[<-Array.find?_toList]at e;unfold lookIn;rw[hd];dsimp only;split
 ·rename_i y q;rw[q]at e;exact c7 ao e
 ·rename_i q;rw[q]at e;have a:es.toList.any (·.refKey)=ax:=by
   rw[List.any_eq_false];intro y N;obtain⟨z,t,B⟩:=b y (Array.mem_toList_iff.mp N);simp[DictEntry.refKey,B]
  have c:¬es.toList.any (·.refKey)=a5:=by rw[a];exact ad6
  rw[bb c];exact c7 ao e
theorem FH.look{h:bz}{x dx C:az}{mA:ba->aw av}(I:FH h x dx C mA):∃j,PySem.W.InstAt h x (instObj C dx) C (ao j)/\∀name,lookIn name j=ao (mA name) :=
 let ⟨j,q,hl⟩:=asC I.ns
 ⟨j,⟨I.obj,rfl,rfl,q⟩,hl⟩
section
variable{prog:bh}{w:bw}{A:bu}{E:av->ay->Prop}{s:ay}{K:bj}{x dx C f:az}{mA:ba->aw av}{name:ba}{v:av}
theorem get_map{expr:br}{Q:av->ay->Prop}(X:K.In s.heap)(I:FH s.heap x dx C mA)(q:plainGet K C name=a5)(hh:hasDictIn K C=a5)
  (z:cg K (.ref C) name=ao au) (hv:mA name=ao v) (j:PySem.W.handedIn v=a5) (h:Q v {s with toks:=s.toks+1}) :
  wpAny (bq prog w) A (getAttr (.ref x) name expr) Q E s:=by
 obtain⟨B,σ,hl⟩:=I.look;exact PySem.W.get_value X σ (plainGet_of q).1 (PySem.W.findObj_own hh z rfl (by rw[hl,hv])) j h
theorem aAG{pl:Sem br}{Q:av×aq av->ay->Prop}(X:K.In s.heap)(I:FH s.heap x dx C mA)(j:plainGet K C name=a5)
  (B:cg K (.ref C) name=ao (ao (.ref f))) (z:isFn K (.ref f)=a5) (hv:mA name=au) (h:Q (.ref f,[.ref x]) s) :
  wpAny (bq prog w) A (getMethod (.ref x) name pl) Q E s:=by
 obtain⟨q,σ,hl⟩:=I.look;exact PySem.W.method_fn X σ (plainGet_of j).1 (plainGet_of j).2 B (xR.mp z) (by show(lookIn name q).map (·.isSome)=ao ax;rw[hl,hv];rfl) h
theorem akB{ns:aq ba}{Q:Unit->ay->Prop}(X:K.In s.heap)(I:FH s.heap x dx C mA)
  (e:cg K (.ref C) "__setattr__" = ao (ao (.builtin "object.__setattr__"))) (f:PySem.W.plainOver K C=a5) (d:takerIn K C name=ao au) (hh:hasDictIn K C=a5)
  (c:PySem.Within mA ns) (hsz:ns.length<=bf)
  (h:∀h',FH h' x dx C (λy=>if y=name then ao v else mA y)->Heap.SameBut dx s.heap h'->Q () {s with heap:=h',toks:=s.toks+2}) :
  wpAny (bq prog w) A (setAttr (.ref x) name v) Q E s:=by
 obtain⟨m,σ,hl⟩:=I.look;refine PySem.W.set_plain X σ e (PySem.W.osa_open (s:={s with toks:=s.toks+1}) (r:=au) X σ f d λb=>?_);obtain⟨o,g,l⟩:=PySem.W.any_some hh;have U:s.heap.get? x=ao ⟨.ref C,ao dx,.plain,#[]⟩:=I.obj;refine aJ (aY (aJ (aJ (wpAny_loadPart U (aJ (PySem.W.Looks.here (s:={s with toks:=s.toks+1}) (PySem.W.looks_clsIn X g) ?_))))));rw[l];refine aY (a:=ao dx) (aJ (aY (aJ ?_)));refine wpAny_nsSet1 (s:={s with toks:=s.toks+1}) I.ns λh' N B=>?_;obtain⟨n,i,k,j,q,z⟩:=N.count (PySem.Within.cons name v c);refine aJ (wpAny_lookBehind j (by rw[q];exact pastItsLine_dict (rT z (by rw[iZ];omega))) ?_);exact aY (h _ ⟨(B.2 _ (cX I.ne)).trans I.obj,N,I.ne⟩ B)
theorem ar7{R:Result->ay->Prop}{vs:aq av}{kw:aq (ba×av)}(X:K.In s.heap)(hm:makesIn K C=a5)
  (hi:cg K (.ref C) "__init__" = ao (ao (.ref f))) (j:PySem.W.typeIn K (.ref f)=ao (.type "function"))
  (h:codeAny (bq prog w) (A.under (.builtin "type.__call__" ⟨.ref C::vs,kw⟩)) (.call (.ref f) ⟨.ref (s.heap.objs.size+1)::vs,kw⟩) (PySem.W.InitBack (s.heap.objs.size+1) R)
   {s with heap:=(s.heap.push fk).push (instObj C s.heap.objs.size)}) :
  codeAny (bq prog w) A (.call (.ref C) ⟨vs,kw⟩) R s:=by
 obtain⟨hh,g,d,t,os⟩:=s;exact PySem.W.make_core (PySem.W.makes_of X hm) (looks_findIn X hi) (λself=>PySem.W.bind_fn X self j) (.inl rfl) h
end
noncomputable def jS(f:ba)(v:V):aq (ba×V)->aq (ba×V)
 |[]=>[(f,v)]
 |(g,x)::r=>if g=f then(g,v)::r else(g,x)::jS f v r
theorem Wk(f g:ba)(v:V):∀fs:aq (ba×V),(jS f v fs).lookup g=if g=f then ao v else fs.lookup g
 |[]=>by
  show List.lookup g [(f,v)]=_
  by_cases h:g=f
  ·have hb:(g==f)=a5:=xR.mpr h;simp only[List.lookup,hb,a9 h]
  ·have hb:(g==f)=ax:=xS.mpr h;simp only[List.lookup,hb,bb h]
 |(k,x)::r=>by
  have ih:=Wk f g v r;rw[show jS f v ((k,x)::r)=(if k=f then(k,v)::r else(k,x)::jS f v r)from rfl]
  by_cases j:k=f
  ·rw[a9 j]
   by_cases h:g=k
   ·have hb:(g==k)=a5:=xR.mpr h;simp only[List.lookup,hb,a9 (h.trans j)]
   ·have hb:(g==k)=ax:=xS.mpr h;simp only[List.lookup,hb,bb (λe:g=f=>h (e.trans j.symm))]
  ·rw[bb j]
   by_cases h:g=k
   ·have hb:(g==k)=a5:=xR.mpr h;simp only[List.lookup,hb,bb (λe:g=f=>j (h.symm.trans e))]
   ·have hb:(g==k)=ax:=xS.mpr h;simp only[List.lookup,hb];exact ih
theorem Fm(f:ba)(v:V):∀fs:aq (ba×V),f∈(jS f v fs).map (·.1)/\∀g,g∈fs.map (·.1)->g∈(jS f v fs).map (·.1)
 |[]=>⟨by simp[jS],λg h=>by simp at h⟩
 |(k,x)::r=>by
  obtain⟨z,q⟩:=Fm f v r;rw[show jS f v ((k,x)::r)=(if k=f then(k,v)::r else(k,x)::jS f v r)from rfl]
  by_cases j:k=f
  ·rw[a9 j];subst j;exact⟨by simp,λg h=>by simpa using h⟩
  ·rw[bb j];refine⟨?_,λg h=>?_⟩
   ·rw[dE];exact iP _ z
   ·rw[dE]at h ⊢
    rcases dY.mp h with e|e
    ·exact dY.mpr (.inl e)
    ·exact iP _ (q g e)
theorem Wu(f:ba)(v:V):∀fs:aq (ba×V),(jS f v fs).length<=fs.length+1
 |[]=>by simp[jS]
 |(k,x)::r=>by
  have ih:=Wu f v r;rw[show jS f v ((k,x)::r)=(if k=f then(k,v)::r else(k,x)::jS f v r)from rfl]
  by_cases j:k=f
  ·rw[a9 j,iZ,iZ];omega
  ·rw[bb j,iZ,iZ];omega
theorem oA.some_of{v:V}{o:aw av}(r:oA (ao v) o):∃u,o=ao u/\RelV v u:=by
 cases o with
 |none=>exact(show cp from r).elim
 |some u=>exact⟨u,rfl,r⟩
theorem oA.none_of{o:aw av}(r:oA au o):o=au:=by
 cases o with
 |none=>rfl
 |some u=>exact(show cp from r).elim
theorem ayK{v:V}{u:av}(r:RelV v u):PySem.W.handedIn u=a5:=by
 cases v with
 |aV=>cases(show u=Value.none from r);rfl
 |bl b=>cases(show u=Value.bool b from r);rfl
 |int i=>obtain⟨t,e⟩:=(show ∃t,u=Value.int i t from r);cases e;rfl
 |str x=>obtain⟨t,e⟩:=(show ∃t,u=Value.str x t from r);cases e;rfl
 |XM b=>obtain⟨t,e⟩:=(show ∃t,u=Value.bytes b t from r);cases e;rfl
 |EL b=>obtain⟨t,e⟩:=(show ∃t,u=Value.float b t from r);cases e;rfl
 |ref a=>cases(show u=Value.ref a from r);rfl
 |ty n=>cases(show u=Value.type n from r);rfl
section
variable{P:bh}{w:bw}{H H':Hp}{h h':bz}{a C dx:az}{fs mF:aq (ba×V)}
theorem UW(aK:fR P w H h)(e:H a=ao (.ins C dx fs)):∃mA,FH h a dx C mA/\(∀f,oA (fs.lookup f) (mA f))/\PySem.Within mA (fs.map (·.1))/\fs.length<=1000/\H dx=ao (.own a):=by
 obtain⟨d,z,ne,ob,mA,n,r,q⟩:=(show iO P w H h a (.ins C dx fs)from aK a _ e);exact⟨mA,⟨ob,n,ne⟩,r,q,z,d⟩
end
structure pA(K:bj)(C:az):Prop where
 pg:plainGet K C Str.empty=a5
 hd:hasDictIn K C=a5
 po:PySem.W.plainOver K C=a5
 sa:cg K (.ref C) "__setattr__" = ao (ao (.builtin "object.__setattr__"))
theorem pA.get{K:bj}{C:az}(c:pA K C)(f:ba):plainGet K C f=a5:=c.pg
def FI(K:bj)(C:az)(f:ba):Prop:=cg K (.ref C) f=ao au
theorem FI.ahM{K:bj}{C:az}{f:ba}(n:FI K C f):takerIn K C f=ao au:=by
 unfold takerIn;rw[show cg K (.ref C) f=ao au from n];rfl
structure Meth(K:bj)(C:az)(m:ba)(f:az):Prop where
 at_:cg K (.ref C) m=ao (ao (.ref f))
 fn:isFn K (.ref f)=a5
 kp:keepIn K (.ref f)=a5
section
variable{X:Cx}{aa:aq (az×c6)}{J:St}{H:Hp}{s:ay}{a C dx:az}{fs:aq (ba×V)}{f:ba}{v:V}{A:bu}{E:av->ay->Prop}
theorem aAF{b:br}{Q:av->ay->Prop}(I:Inv X aa J H s)(e:H a=ao (.ins C dx fs))(c:pA X.K C)(n:FI X.K C f)(l:fs.lookup f=ao v)
  (h:∀u s',Inv X aa J H s'->RelV v u->Q u s'):wpAny (bq X.prog X.w) A (getAttr (.ref a) f b) Q E s:=by
 obtain⟨q,ι,r,_,_,_⟩:=UW I.aK e;obtain⟨u,z,j⟩:=oA.some_of (v:=v) (o:=q f) (by rw[<-l];exact r f);exact get_map I.fY ι (c.get f) c.hd n z (ayK j) (h u _ (I.tok _) j)
theorem aaH{m:ba}{g:az}{pl:Sem br}{Q:av×aq av->ay->Prop}(I:Inv X aa J H s)(e:H a=ao (.ins C dx fs))(c:pA X.K C)(k:Meth X.K C m g)(l:fs.lookup m=au)
  (h:Q (.ref g,[.ref a]) s):wpAny (bq X.prog X.w) A (getMethod (.ref a) m pl) Q E s:=by
 obtain⟨j,ι,r,_,_,_⟩:=UW I.aK e;have hn:j m=au:=oA.none_of (by rw[<-l];exact r m);exact aAG I.fY ι (c.get m) k.at_ k.fn hn h
theorem aj9{y:V}{u:av}{Q:Unit->ay->Prop}(I:Inv X aa J H s)(e:H a=ao (.ins C dx fs))(c:pA X.K C)(n:FI X.K C f)(hl:fs.length<1000)(U:RelV y u)
  (h:∀s',Inv X aa J (upd H a (.ins C dx (jS f y fs))) s'->Q () s'):wpAny (bq X.prog X.w) A (setAttr (.ref a) f u) Q E s:=by
 obtain⟨B,ι,r,wi,_,N⟩:=UW I.aK e;have d:(fs.map (·.1)).length<=bf:=by rw[jG,rD];omega
 refine akB I.fY ι c.sa c.po n.ahM c.hd wi d λh' j sb=>h _ ?_;have hd:∃o,h'.get? dx=ao o:=let ⟨o,_,_,k,_⟩:=j.ns; ⟨o,k⟩;refine I.write (x:=a) (e:=dx) (by rw[e];exact True.intro) (.inr N) (λb q hb z=>(sb.2 b hb).trans z) hd ?_;refine⟨by rw[bR ι.ne];exact N,?_,ι.ne,j.obj,_,j.ns,λg=>?_,λg i=>?_⟩
 ·have:=Wu f y fs;omega
 ·show oA ((jS f y fs).lookup g) (if g=f then ao u else B g);rw[Wk]
  by_cases q:g=f
  ·rw[a9 q,a9 q];exact U
  ·rw[bb q,bb q];exact r g
 ·by_cases q:g=f
  ·rw[q];exact(Fm f y fs).1
  ·refine(Fm f y fs).2 g (wi g λz=>i ?_);show(if g=f then ao u else B g)=au;rw[bb q];exact z
theorem Inv.made(I:Inv X aa J H s):Inv X aa J (upd (upd H s.heap.objs.size (.own (s.heap.objs.size+1))) (s.heap.objs.size+1) (.ins C s.heap.objs.size []))
  {s with heap:=(s.heap.push fk).push (instObj C s.heap.objs.size)}:=by
 have j:(s.heap.push fk).get? s.heap.objs.size=ao fk:=gU s.heap rfl;have N:((s.heap.push fk).push (instObj C s.heap.objs.size)).get? (s.heap.objs.size+1)=ao (instObj C s.heap.objs.size):=by
  have:=gU (s.heap.push fk) (o:=instObj C s.heap.objs.size) rfl;rwa[KL]at this
 have B:(s.heap.push fk).Ns s.heap.objs.size (λ_=>au):=⟨fk,#[],_,j,rfl,(λe he=>b7 he (by simp)),λ_=>rfl⟩;have U:=I.laid (a:=s.heap.objs.size) (o:=.own (s.heap.objs.size+1)) (h':=s.heap.push fk) (t':=s.toks) (λb u q=>dI _ q) cJ ⟨_,j⟩;refine U.laid (a:=s.heap.objs.size+1) (o:=.ins C s.heap.objs.size []) (t':=s.toks) (λb u q=>dI _ q) (Nat.le_of_eq (KL _ _)) ?_;have ne:s.heap.objs.size≠s.heap.objs.size+1:=fW (YO _);refine⟨by rw[bR ne,eZ],BR _,ne,N,λ_=>au,(Heap.Ns1.of_empty B).at λo q=>dI _ q,λ_=>True.intro,λy z=>b7 rfl z⟩
theorem aF8{prog:bh}{w:bw}{env:Env}{e:bx}{f:ba}{pos:dn}{s:ay}{Q:av->ay->Prop}(hb:dw e f env (cj e env)=cj e env)
  (h:wpAny (bq prog w) A (cj e env) (λo s₁=>wpAny (bq prog w) A (getAttr o f a5) Q E s₁) E s):wpAny (bq prog w) A (cj (.Attribute e f pos) env) Q E s :=
 Attribute_any_ h (by rw[arm_eval_Attribute,hb])
end
def ah8(K:bj)(ta:TE)(f:ba):TE:=λJ H Q=>ta J H λx H1=>∃a C dx fs v,x=.ref a/\H1 a=ao (.ins C dx fs)/\pA K C/\FI K C f/\fs.lookup f=ao v/\Q v H1
def alH(K:bj)(ta tv:TE)(f:ba):TS:=λD J H=>tv J H λy H1=>ta J H1 λx H2=>∃a C dx fs,x=.ref a/\H2 a=ao (.ins C dx fs)/\pA K C/\FI K C f/\fs.length<1000 /\
 D.nx J (upd H2 a (.ins C dx (jS f y fs)))
section
variable{X:Cx}{o e value:bx}{f:ba}{pos pos' ahA:dn}{ta tv:TE}
theorem aoT(he:PE X e ta)(hb:dw e f X.env (cj e X.env)=cj e X.env):PE X (.Attribute e f pos) (ah8 X.K ta f):=by
 intro aa s J H Q I h;refine aF8 hb (bC (he aa s J H _ I h) λu g zz=>?_);obtain⟨x,b,U,j,a,C,i,fs,v,ex,B,c,n,l,q⟩:=zz;subst ex;obtain rfl:u=Value.ref a:=j;exact aAF U B c n l λd s2 N z=>⟨v,b,N,z,q⟩
theorem anB(d:PE X o ta)(hv:PE X value tv)(b:ej value (ao (.Attribute o f pos')) pos.line X.env=pure ax):PS X (.Assign [.Attribute o f pos'] value pos) (alH X.K ta tv f):=by
 intro aa s J H D I h;refine plainObj_wpAny_Assign_Attribute (bC (hv aa s J H _ I h) λu j ⟨y,m,k,z,q⟩=>bC (d aa j J m _ k q) λU s2 zz=>?_) b;obtain⟨x,t,i,B,a,C,r,fs,ex,e,c,n,l,N⟩:=zz;subst ex;obtain rfl:U=Value.ref a:=B;exact aj9 i e c n l z λp g=>⟨J,_,g,N⟩
end
section
variable{X:Cx}{aa:aq (az×c6)}{J:St}{H:Hp}{s:ay}{A:bu}{E:av->ay->Prop}{Q:av->ay->Prop}{c:av}{b:br}
inductive rQ(K:bj)(H:Hp):V->av->Prop where
 | aV:rQ K H .aV (.type "NoneType")
 | bl (x:br):rQ K H (.bl x) (.type "bool")
 | int (i:a4):rQ K H (.int i) (.type "int")
 | str (x:ba):rQ K H (.str x) (.type "str")
 | EL (x:UInt64):rQ K H (.EL x) (.type "float")
 | lst {a:az} {xs:aq V} (e:H a=ao (.lst xs)):rQ K H (.ref a) (.type "list")
 | eI {a:az} {o:c6} {xs:aq V} (e:H a=ao (.eI o (.lst xs))):rQ K H (.ref a) (.type "list")
 | tup {a:az} {xs:aq V} (e:H a=ao (.tup xs)):rQ K H (.ref a) (.type "tuple")
 | dK {a:az} {kvs:aq (Key×V)} (e:H a=ao (.dK kvs)):rQ K H (.ref a) (.type "dict")
 | dT {a:az} {kvs:aq (aq Key×V)} (e:H a=ao (.dT kvs)):rQ K H (.ref a) (.type "dict")
 | ins {a C dx:az} {fs:aq (ba×V)} (e:H a=ao (.ins C dx fs)) (cl:pA K C) (ha:cg K (.ref C) "__class__" = ao (ao (.builtin "object.__class__")))
   (hn:PySem.W.specialIn K (.builtin "object.__class__") "__get__" = ao (ao (.builtin "getset_descriptor.__get__"))) (Xv:PySem.W.takesIn K (.builtin "object.__class__")=ao a5)
   (hm:mroIn K C (.type "object")=ao a5):rQ K H (.ref a) (.ref C)
theorem au8{x:V}{u t:av}(I:Inv X aa J H s)(j:RelV x u)(ty:rQ X.K H x t)(e:kitOne X.K t c=ao b)(h:∀tk,Q (.bool b) {s with toks:=tk}) :
  wpAny (bq X.prog X.w) A (call (.builtin "isinstance") [u,c]) Q E s:=by
 cases ty with
 |aV=>cases(show u=Value.none from j);exact fg PySem.W.kitx_none I.fY True.intro e (λz=>nomatch z) h
 |bl y=>cases(show u=Value.bool y from j);exact fg PySem.W.kitx_bool I.fY True.intro e (λz=>nomatch z) h
 |int i=>obtain⟨t,q⟩:=(show ∃t,u=Value.int i t from j);cases q;exact fg PySem.W.kitx_int I.fY True.intro e (λz=>nomatch z) h
 |str y=>obtain⟨t,q⟩:=(show ∃t,u=Value.str y t from j);cases q;exact fg PySem.W.kitx_str I.fY True.intro e (λz=>nomatch z) h
 |EL y=>obtain⟨t,q⟩:=(show ∃t,u=Value.float y t from j);cases q;exact fg PySem.W.kitx_float I.fY True.intro e (λz=>nomatch z) h
 | @lst a U B =>
  cases(show u=Value.ref a from j);obtain⟨_,_,n,_,h1⟩:=(show iO X.prog X.w H s.heap a (.lst U)from I.aK a _ B);exact fg PySem.W.kitx_list I.fY ⟨_,h1,rfl⟩ e (λz=>nomatch z) h
 | @eI a ob U B =>
  cases(show u=Value.ref a from j);obtain⟨_,_,_,n,_,h1⟩:=(show iO X.prog X.w H s.heap a (.eI ob (.lst U))from I.aK a _ B);exact fg PySem.W.kitx_list I.fY ⟨_,h1,rfl⟩ e (λz=>nomatch z) h
 | @tup a U B =>
  cases(show u=Value.ref a from j);obtain⟨_,_,_,p⟩:=(show iO X.prog X.w H s.heap a (.tup U)from I.aK a _ B);obtain⟨o,h1,h2,_⟩:=p;exact fg PySem.W.kitx_tuple I.fY ⟨o,h1,h2⟩ e (λz=>nomatch z) h
 | @dK a N B =>
  cases(show u=Value.ref a from j);obtain⟨_,_,k,_,p⟩:=(show iO X.prog X.w H s.heap a (.dK N)from I.aK a _ B);obtain⟨o,es,f,h1,h2,_⟩:=p;exact fg PySem.W.kitx_dict I.fY ⟨o,h1,h2.1⟩ e (λz=>nomatch z) h
 | @dT a N B =>
  cases(show u=Value.ref a from j);obtain⟨_,_,U,_,o,es,f,h1,h2,_⟩:=(show iO X.prog X.w H s.heap a (.dT N)from I.aK a _ B);exact fg PySem.W.kitx_dict I.fY ⟨o,h1,h2.1⟩ e (λz=>nomatch z) h
 | @ins a C r fs B cl d hn g hm =>
  cases(show u=Value.ref a from j);obtain⟨m,ι,_⟩:=UW I.aK B;obtain⟨l,σ,_⟩:=ι.look;exact fg (PySem.W.kitx_own (cl.get _) cl.hd d hn g hm) I.fY σ e (λz=>nomatch z) h
end
structure cK(k:a6)(A:bu):Prop where
 hd:A.handled=au
 dp:A.depth+3*k+5<recursionLimit
 un:A.units+16*k+200<cLine
theorem cK.mono{j k:a6}{A:bu}(r:cK k A)(h:j<=k):cK j A:=⟨r.hd,by have:=r.dp;omega,by have:=r.un;omega⟩
theorem cK.deeper{k:a6}{A:bu}(r:cK (k+1) A)(env:Env):cK k (A.deeper env) :=
 ⟨r.hd,by have:=r.dp;show A.depth+1+3*k+5<_;omega,by have:=r.un;show A.units+3+16*k+200<_;omega⟩
theorem ar8{A:bu}{C:az}{us:aq av}{kw:aq (ba×av)}:(A.under (.builtin "type.__call__" ⟨.ref C::us,kw⟩)).depth=A.depth+1:=by
 first|rfl|simp[Around.under,Code.weight,Code.isCreation,Code.isGuard,Code.isCaller,Code.frames,Code.isFrame,guardIds]
theorem ar6{A:bu}{C:az}{us:aq av}{kw:aq (ba×av)}:(A.under (.builtin "type.__call__" ⟨.ref C::us,kw⟩)).units=A.units+1:=by
 first|rfl|simp[Around.under,Code.cUnits,Code.frames,Code.isFrame]
theorem cK.make{k:a6}{A:bu}(r:cK (k+1) A)(C:az)(us:aq av)(kw:aq (ba×av)):cK k (A.under (.builtin "type.__call__" ⟨.ref C::us,kw⟩)) :=
 ⟨r.hd,by have:=r.dp;rw[ar8];omega,by have:=r.un;rw[ar6];omega⟩
theorem cK.depth{k:a6}{A:bu}(r:cK k A):A.depth<recursionLimit:=by have:=r.dp;omega
theorem cK.units{k:a6}{A:bu}(r:cK k A):A.units+64<cLine:=by have:=r.un;omega
def SQ:TA:=λ_ H Q=>Q [] H
def LO(ta:TE)(j:TA):TA:=λJ H Q=>ta J H λx H1=>j J H1 λxs H2=>Q (x::xs) H2
section
variable{X:Cx}{e:bx}{es:aq bx}{te:TE}{t:TA}{pos:dn}
theorem LZ:PA X [] SQ:=λ_ _ _ _ H Q I h=>Calls.spliced_nil ⟨[],H,I,.nil,h⟩
theorem HN(a:PE X e te)(hr:PA X es t)(U:bg (e::es) X.env=(ax,cj e X.env)::bg es X.env:=by rfl):PA X (e::es) (LO te t):=by
 intro pos aa s J H Q I h;rw[U];show wpAny _ _ (spliced ((ax,cj e X.env)::cz pos (bg es X.env))) _ _ s;refine Oa (bC (a aa s J H _ I h) λu q ⟨x,f,c,r1,N⟩=>?_);exact bC (hr pos aa q J f _ c N) λg s2 ⟨j,d,b,z,B⟩=>⟨x::j,d,b,.cons r1 z,B⟩
def ahR(t:TA):TE:=λJ H Q=>t J H λxs H1=>xs.length<=bf/\∀p,H1 p=au->Q (.ref p) (upd H1 p (.tup xs))
def ah5(t:TA):TE:=λJ H Q=>t J H λxs H1=>xs.length<=bf/\∀p,H1 p=au->Q (.ref p) (upd H1 p (.lst xs))
theorem aoB{a}(h:PA X es t):PE X (.Tuple es a pos) (ahR t):=by
 intro aa s J H Q I d;refine wpAny_Tuple_spliced (bC (h pos aa s J H _ I d) λc j ⟨U,N,B,r,z,q⟩=>⟨by rw[<-r.length];exact z,?_⟩);have f:N j.heap.objs.size=au:=B.aK.fresh cJ;refine⟨.ref j.heap.objs.size,upd N j.heap.objs.size (.tup U),B.laid (t':=j.toks) (λb u e=>dI _ e) cJ ?_,rfl,q _ f⟩;exact⟨z,c,r,⟨_,gU _ rfl,rfl,_,rfl⟩⟩
theorem aoN(h:PA X es t):PE X (.List es pos) (ah5 t):=by
 intro aa s J H Q I c;refine wpAny_List_spliced (bC (h pos aa s J H _ I c) λa j ⟨U,N,B,r,z,q⟩=>⟨by rw[<-r.length];exact z,?_⟩);have d:N j.heap.objs.size=au:=B.aK.fresh cJ;refine⟨.ref j.heap.objs.size,upd N j.heap.objs.size (.lst U),B.laid (t':=j.toks) (λb u e=>dI _ e) cJ ?_,rfl,q _ d⟩;exact⟨z,a,0,r,gU _ rfl⟩
end
abbrev Sp:=aq V->Hp->VK->XK->Prop
abbrev oF:=aq Env->Hp->ay->XK->av->ay->Prop
structure zW(P:bh)(w:bw)(K:bj)(mg:ba->aw av)(base:bz)(A:bu)(outer:aq Env)(s:ay)(H:Hp):Prop where
 frames:A.frames=ao outer
 mod:Mod K mg base
 bs:∀b o,base.get? b=ao o->s.heap.get? b=ao o/\H b=au
 rO:base.objs.size<=s.heap.objs.size
 oS:s.heap.FunFrames base outer
 uI:∀b∈jE outer,H b=au
 aK:fR P w H s.heap
 bare:AllBare s.gens
def CE(outer:aq Env)(P:bh)(w:bw)(H:Hp)(s:ay)(Q:VK)(u:av)(s':ay):Prop :=
 ∃v H',s'.os=s.os/\AllBare s'.gens/\Un (jE outer) [] H H' s.heap s'.heap/\fR P w H' s'.heap/\RelV v u/\Q v H'
def CR(CX:oF)(outer:aq Env)(P:bh)(w:bw)(H:Hp)(s:ay)(Q:VK)(E:XK)(r:Result)(s':ay):Prop :=
 match r with
 |.ok (.ret u)=>CE outer P w H s Q u s'
 |.ok _=>cp
 |.error e=>CX outer H s E e s'
structure jA(P:bh)(w:bw)(K:bj)(mg:ba->aw av)(base:bz)(CX:oF)(k:a6)(f:az)(fd:c3)(ps:aq ba)(sp:Sp):Prop where
 len:∀vs H Q E,sp vs H Q E->vs.length=ps.length
 run:∀(A:bu) (outer:aq Env) (s:ay) (H:Hp) (args:Args) (us:aq av) (vs:aq V) (Q:VK) (E:XK),cK k A->zW P w K mg base A outer s H->BindsTo s fd args (ps.zip us)->Vals vs us->sp vs H Q E ->
  codeAny (bq P w) A (.call (.ref f) args) (CR CX outer P w H s Q E) s
theorem jA.mono{P:bh}{w:bw}{K:bj}{mg:ba->aw av}{base:bz}{CX:oF}{j k:a6}{f:az}{fd:c3}{ps:aq ba}{sp:Sp}(F:jA P w K mg base CX j f fd ps sp)(h:j<=k) :
  jA P w K mg base CX k f fd ps sp:=⟨F.len,λA outer s H args us q Q E hr=>F.run A outer s H args us q Q E (hr.mono h)⟩
theorem jA.imp{P:bh}{w:bw}{K:bj}{mg:ba->aw av}{base:bz}{CX:oF}{k:a6}{f:az}{fd:c3}{ps:aq ba}{sp j:Sp}(F:jA P w K mg base CX k f fd ps sp)
  (h:∀vs H Q E,j vs H Q E->sp vs H Q E):jA P w K mg base CX k f fd ps j :=
 ⟨λvs H Q E q=>F.len vs H Q E (h _ _ _ _ q),λA outer s H args us vs Q E hr he hb hv z=>F.run A outer s H args us vs Q E hr he hb hv (h _ _ _ _ z)⟩
theorem zW.make{P:bh}{w:bw}{K:bj}{mg:ba->aw av}{base:bz}{A:bu}{outer:aq Env}{s:ay}{H:Hp}(e:zW P w K mg base A outer s H)(C:az)(us:aq av)(kw:aq (ba×av)) :
  zW P w K mg base (A.under (.builtin "type.__call__" ⟨.ref C::us,kw⟩)) outer s H:=⟨by first|exact e.frames|(simpa[Around.under,Code.envs,Code.isFrame,pushEnvs]using e.frames),e.mod,e.bs,e.rO,e.oS,e.uI,e.aK,e.bare⟩
section
variable{X:Cx}{aa:aq (az×c6)}{J:St}{H:Hp}{s s':ay}
theorem Inv.IY(I:Inv X aa J H s):zW X.prog X.w X.K X.mg X.base X.A X.stack s H :=
 ⟨I.ok.frames,I.ok.mod,I.bs,rT I.ok.rO I.sz,I.stack,I.Bm,I.aK,I.bare⟩
theorem Inv.after{Q:VK}{u:av}(I:Inv X aa J H s)(h:CE X.stack X.prog X.w H s Q u s'):EP X aa J Q u s':=by
 obtain⟨v,j,os,bare,un,aK,r,q⟩:=h;obtain⟨hh,g,d,t,Dz⟩:=s';obtain rfl:Dz=s.os:=os;exact⟨v,j,I.call (h':=hh) (g':=g) (d':=d) (t':=t) (ch:=[]) un aK bare (λb z=>b7 z (by simp)),r,q⟩
end
def Rz(sp:Sp)(dvs:aq V)(E:XK)(t:TA):TE:=λJ H Q=>t J H λvs H1=>sp (vs++dvs) H1 Q E
def ah4(C:az)(sp:Sp)(dvs:aq V)(E:XK)(t:TA):TE:=λJ H Q=>t J H λvs H1=>∀x dx,H1 x=au->H1 dx=au->dx≠x ->
 sp (.ref x::(vs++dvs)) (upd (upd H1 dx (.own x)) x (.ins C dx [])) (λv H2=>v=.aV/\Q (.ref x) H2) E
def Binds(K:bj)(fd:c3)(ps:aq ba)(ds:aq av):Prop :=
 ∀(s:ay) (us:aq av),K.In s.heap->(us++ds).length=ps.length->BindsTo s fd ⟨us,[]⟩ (ps.zip (us++ds))
theorem Binds.all{K:bj}{fd:c3}{ps:aq ba}(h:∀us:aq av,us.length=ps.length->dk fd ⟨us,[]⟩=pure (ps.zip us)):Binds K fd ps []:=λs us _ hl=>by
 rw[rW]at hl ⊢;exact .of_eq (h us hl)
def Passes(CX:oF)(X:Cx)(E:XK):Prop:=∀(aa:aq (az×c6)) (J:St) (H:Hp) (s:ay) (e:av) (s':ay),Inv X aa J H s->CX X.stack H s E e s'->X.xe e s'
section
variable{X:Cx}{CX:oF}{k:a6}{f C:az}{fd:c3}{ps:aq ba}{sp:Sp}{dvs:aq V}{ds:aq av}{E:XK}{x m:ba}{p pos ag:dn}{e o:bx}{es:aq bx}{ta:TE}{t:TA}
theorem alR{aa:aq (az×c6)}{J:St}{H:Hp}{s:ay}{Q:VK}{us:aq av}{vs:aq V}(F:jA X.prog X.w X.K X.mg X.base CX k f fd ps sp)(hr:cK k X.A)(hb:Binds X.K fd ps ds)(hd:Vals dvs ds)(z:Passes CX X E)
  (I:Inv X aa J H s) (r:Vals vs us) (h:sp (vs++dvs) H Q E):wpAny (bq X.prog X.w) X.A (call (.ref f) us) (EP X aa J Q) X.xe s:=by
 have q:Vals (vs++dvs) (us++ds):=r.append hd;have hl:(us++ds).length=ps.length:=by rw[<-q.length];exact F.len _ _ _ _ h
 refine GP (uJ (F.run X.A X.stack s H ⟨us,[]⟩ (us++ds) (vs++dvs) Q E hr I.IY (hb s us I.fY hl) q h) λr s' j=>?_);cases r with
 |error e=>exact z aa J H s e s' I j
 |ok fl =>
  cases fl with
  |ret u=>exact I.after j
  |next=>exact False.elim j
  |brk=>exact False.elim j
  |cont=>exact False.elim j
theorem ao1(F:jA X.prog X.w X.K X.mg X.base CX k f fd ps sp)(hr:cK k X.A)(N:Gl X x)(hm:X.mg x=ao (.ref f))(B:keepIn X.K (.ref f)=a5)(hb:Binds X.K fd ps ds)(hd:Vals dvs ds)(z:Passes CX X E)
  (U:PA X (e::es) t) (a:(x==("__debug__" : ba))=ax:=by decide) (he:bg (e::es) X.env=(ax,cj e X.env)::bg es X.env:=by rfl) (b:(cz pos (bg es X.env)).any (·.1)=ax:=by rfl) :
  PE X (.Call (.Name x p) (e::es) [] pos) (Rz sp dvs E t):=by
 intro aa s J H Q I h;refine CV (DU I N hm ?_ a);refine callWith_K (h₀:=X.base) I.ok.mod.sS B (bC (U pos aa s J H _ I h) λd g ⟨c,i,j,r,q⟩=>⟨j.fY,?_⟩) he b;exact alR F hr hb hd z j r q
structure Mk(K:bj)(C f:az):Prop where
 makes:makesIn K C=a5
 init:cg K (.ref C) "__init__" = ao (ao (.ref f))
 fn:isFn K (.ref f)=a5
 kp:keepIn K (.ref C)=a5
theorem alQ{aa:aq (az×c6)}{J:St}{H:Hp}{s:ay}{Q:VK}{us:aq av}{vs:aq V}(M:Mk X.K C f)(F:jA X.prog X.w X.K X.mg X.base CX k f fd ps sp)(hr:cK (k+1) X.A)(hb:Binds X.K fd ps ds)(hd:Vals dvs ds)
  (a:Passes CX X E) (I:Inv X aa J H s) (r:Vals vs us)
  (h:∀x dx,H x=au->H dx=au->dx≠x->sp (.ref x::(vs++dvs)) (upd (upd H dx (.own x)) x (.ins C dx [])) (λv H2=>v=.aV/\Q (.ref x) H2) E) :
  wpAny (bq X.prog X.w) X.A (call (.ref C) us) (EP X aa J Q) X.xe s:=by
 have B:=h (s.heap.objs.size+1) s.heap.objs.size (I.aK.fresh (FJ _)) (I.aK.fresh cJ) (fW (YO _));have q:=Inv.made (C:=C) I;have z:Vals (V.ref (s.heap.objs.size+1)::(vs++dvs)) (Value.ref (s.heap.objs.size+1)::(us++ds)):=.cons rfl (r.append hd);have hl:(Value.ref (s.heap.objs.size+1)::us++ds).length=ps.length:=by
  have e:=z.length;rw[F.len _ _ _ _ B]at e;exact e.symm
 refine GP (ar7 (f:=f) I.fY M.makes M.init (xR.mp M.fn) (uJ (F.run _ X.stack _ _ ⟨Value.ref (s.heap.objs.size+1)::us,[]⟩ (Value.ref (s.heap.objs.size+1)::(us++ds)) _ _ E (hr.make C us [])
  (q.IY.make C us []) (hb _ (Value.ref (s.heap.objs.size+1)::us) q.fY hl) z B) λr s' j=>?_))
 cases r with
 |error e=>exact a aa J _ _ e s' q j
 |ok fl =>
  cases fl with
  |ret u =>
   obtain⟨v,d,c,N,b,U⟩:=q.after j;subst b;exact⟨N,⟨V.ref (s.heap.objs.size+1),d,c,rfl,U⟩⟩
  |next=>exact False.elim j
  |brk=>exact False.elim j
  |cont=>exact False.elim j
theorem aoM(M:Mk X.K C f)(F:jA X.prog X.w X.K X.mg X.base CX k f fd ps sp)(hr:cK (k+1) X.A)(B:Gl X x)(hm:X.mg x=ao (.ref C))(hb:Binds X.K fd ps ds)(hd:Vals dvs ds)(z:Passes CX X E)
  (N:PA X (e::es) t) (U:(x==("__debug__" : ba))=ax:=by decide) (he:bg (e::es) X.env=(ax,cj e X.env)::bg es X.env:=by rfl) (a:(cz pos (bg es X.env)).any (·.1)=ax:=by rfl) :
  PE X (.Call (.Name x p) (e::es) [] pos) (ah4 C sp dvs E t):=by
 intro aa s J H Q I h;refine CV (DU I B hm ?_ U);refine callWith_K (h₀:=X.base) I.ok.mod.sS M.kp (bC (N pos aa s J H _ I h) λc d ⟨b,g,j,r,q⟩=>⟨j.fY,?_⟩) he a;exact alQ M F hr hb hd z j r q
end
structure dN(N P:aq ba)(sc:cn):Prop where
 kind:sc.kind=.function
 co:sc.isCoroutine=ax
 gen:sc.isGenerator=ax
 nd:N.Nodup
 pre:N.take P.length=P
 par:∀x∈P,sc.names.lookup x=ao .local\/sc.names.lookup x=ao .cell
 aq1:∀y∈sc.names,y.2≠.free
theorem ab8{kindOf:ba->aw dy}{x:ba}:∀{binds:aq (ba×av)} {m:ba->aw av},(∀v,(x,v)∉binds)->bindL kindOf binds m x=m x
 |[],_,_=>rfl
 |(n,v)::r,m,h=>by
  unfold bindL;rw[ab8 λw j=>h w (iP _ j)];split
  ·have:x≠n:=by rintro rfl;exact h v List.mem_cons_self
   simp[this]
  ·rfl
theorem acA{kindOf:ba->aw dy}{x:ba}:∀{binds:aq (ba×av)} {m:ba->aw av},(∀v,(x,v)∉binds)->bindC kindOf binds m x=m x
 |[],_,_=>rfl
 |(n,v)::r,m,h=>by
  unfold bindC;rw[acA λw j=>h w (iP _ j)];split
  ·rfl
  ·have:x≠n:=by rintro rfl;exact h v List.mem_cons_self
   simp[this]
theorem ab9{kindOf:ba->aw dy}{x:ba}{v:av}:∀{P:aq ba} {vs:aq av} {i:a6} {m:ba->aw av},P.Nodup->P[i]?=ao x->vs[i]?=ao v->kindOf x=ao .local ->
  bindL kindOf (P.zip vs) m x=ao v
 |[],_,_,_,_,h,_,_=>by simp at h
 |_::_,[],_,_,_,_,h,_=>by simp at h
 |p::P,w::vs,0,m,nd,h1,h2,j=>by
  simp at h1 h2;subst h1;subst h2;show bindL kindOf ((p,w)::P.zip vs) m p=_;unfold bindL;rw[ab8 λv hv=>(FN.mp nd).1 (YU hv).1,a9 j];simp
 |p::P,w::vs,i+1,m,nd,h1,h2,j=>by
  show bindL kindOf ((p,w)::P.zip vs) m x=_;unfold bindL;exact ab9 (i:=i) (FN.mp nd).2 (by simpa using h1) (by simpa using h2) j
theorem acB{kindOf:ba->aw dy}{x:ba}{v:av}:∀{P:aq ba} {vs:aq av} {i:a6} {m:ba->aw av},P.Nodup->P[i]?=ao x->vs[i]?=ao v->kindOf x≠ao .local ->
  bindC kindOf (P.zip vs) m x=ao v
 |[],_,_,_,_,h,_,_=>by simp at h
 |_::_,[],_,_,_,_,h,_=>by simp at h
 |p::P,w::vs,0,m,nd,h1,h2,j=>by
  simp at h1 h2;subst h1;subst h2;show bindC kindOf ((p,w)::P.zip vs) m p=_;unfold bindC;rw[acA λv hv=>(FN.mp nd).1 (YU hv).1,bb j];simp
 |p::P,w::vs,i+1,m,nd,h1,h2,j=>by
  show bindC kindOf ((p,w)::P.zip vs) m x=_;unfold bindC;exact acB (i:=i) (FN.mp nd).2 (by simpa using h1) (by simpa using h2) j
noncomputable def start(N:aq ba)(vs:aq V):St:=vs.map ao++List.replicate (N.length-vs.length) au
noncomputable def mG(CX:oF)(P:bh)(w:bw)(K:bj)(mg:ba->aw av)(base:bz)(N:aq ba)(qual:ba)(scope:cn)(f:az)(j:av)(A:bu)(outer:aq Env)(s:ay)(H:Hp)(E:XK):Cx where
 prog:=P
 w:=w
 K:=K
 mg:=mg
 base:=base
 A:=A.deeper (c8 qual scope s.heap.objs.size f j)
 N:=N
 s₀:=s
 H₀:=H
 env:=c8 qual scope s.heap.objs.size f j
 outer:=outer
 stack:=c8 qual scope s.heap.objs.size f j::outer
 ex:=[]
 calm:=a5
 fn:=λ_=>a5
 pn:=[]
 xe:=λe s'=>wpAny (bq P w) (A.deeper (c8 qual scope s.heap.objs.size f j)) (leaving (c8 qual scope s.heap.objs.size f j) e) (λ_ q=>CX outer H s E e q) (λz q=>CX outer H s E z q) s'
theorem ab2{sc:cn}{n:a6}{x:ba}(h:sc.names.lookup x=ao .cell):∃c,(cellsFrom n sc.names []).lookup x=ao c:=by
 have q:=cellsFrom_some sc.names n [] (.inl h);exact Option.isSome_iff_exists.mp q
theorem Fv{CX:oF}{P:bh}{w:bw}{K:bj}{mg:ba->aw av}{base:bz}{N ps:aq ba}{qual:ba}{scope:cn}{f:az}{d:av}{A:bu}{outer:aq Env}{s l:ay}{H:Hp}{E:XK}{us:aq av}{vs:aq V}
  (S:dN N ps scope) (hd:A.handled=au) (j:zW P w K mg base A outer s H) (hl:vs.length=ps.length) (r:Vals vs us)
  (x:InCallC s s.heap.objs.size (bindL (c8 qual scope s.heap.objs.size f d).kindOf (ps.zip us) λ_=>au) (cellsFrom (s.heap.objs.size+1) scope.names []) (bindC (c8 qual scope s.heap.objs.size f d).kindOf (ps.zip us) λ_=>au) l) :
  Inv (mG CX P w K mg base N qual scope f d A outer s H E) [] (start N vs) H l:=by
 have G:ps.length<=N.length:=by have:=c7 List.length S.pre;rw[BX]at this;omega
 obtain⟨h1,tk,rfl,o⟩:=x.done;have g:∀b:az,b∉(mG CX P w K mg base N qual scope f d A outer s H E).ex:=λb z=>b7 (show b∈([]:aq az)from z) (by simp);refine⟨⟨j.mod,S.kind,rfl,rfl,rV _,λy z c h1 h2=>?_,λy B=>?_,λy c _ h=>?_,λ_=>hd,Around.frames_deeper j.frames,.inr ⟨rfl,rfl⟩,λb z=>b7 z (g b),j.bs,j.rO,λb _ _=>g b,λb z=>b7 z (g b),j.oS,j.uI⟩,
  rfl,j.bare,Un.kept o,⟨_,x.toInCall.ns,λi y v h1 h2 F=>?_⟩,λy c h=>⟨_,x.cell y c h⟩,j.aK.fresh cJ,λy c h=>?_,λp U=>b7 (show p∈([]:aq (az×c6))from U) (by simp),j.aK.kept o,?_⟩
 ·exact name_of_addr x.apart (PySem.mem_of_lookup h1) (PySem.mem_of_lookup h2)
 ·have B:scope.names.lookup y=ao .cell\/scope.names.lookup y=ao .free:=B
  rcases B with B|B
  ·exact ab2 B
  ·exact b7 rfl (S.aq1 _ (PySem.mem_of_lookup B))
 ·exact Nat.le_of_lt (x.above y c (PySem.mem_of_lookup h))
 ·have hi:i<vs.length:=by
   unfold start at h2
   by_cases hi:i<vs.length
   ·exact hi
   ·rw[pY (by simpa using hi)]at h2;rw[List.getElem?_replicate]at h2;split at h2 <;> cases h2
  have D:vs[i]?=ao v:=by
   unfold start at h2;rw[iD (by simpa using hi),jH]at h2;cases e:vs[i]? with
   |none=>rw[e]at h2;cases h2
   |some a=>rw[e]at h2;cases h2;rfl
  obtain⟨u,m,C⟩:=r.get D;have U:ps[i]?=ao y:=by
   rw[<-S.pre,List.getElem?_take_of_lt (by omega)];exact h1
  have t:ps.Nodup:=by rw[<-S.pre];exact S.nd.sublist (YT _ _)
  refine⟨u,C,?_⟩
  rcases S.par y (mJ U)with k|k
  ·exact .inl ⟨k,ab9 t U m k⟩
  ·obtain⟨c,e⟩:=ab2 (n:=s.heap.objs.size+1) k;refine .inr ⟨.inl k,c,e,?_⟩;have q:=x.cell y c e;rw[acB t U m (by show scope.names.lookup y≠_;rw[k];decide)]at q;exact q
 ·exact j.aK.fresh (Nat.le_of_lt (x.above y c (PySem.mem_of_lookup h)))
 ·unfold start;show _=N.length;rw[gF,jG,List.length_replicate];omega
theorem WR{CX:oF}{P:bh}{w:bw}{K:bj}{mg:ba->aw av}{base:bz}{k:a6}{f:az}{name qual:ba}{params:dj}{body:aq b8}{scope:cn}{h kV doc d z ct C:av}{i p:aw az}
  {R:a8 (aw av)} {N ps:aq ba} {sp:Sp} (D:K.lookup f=ao ⟨C,p,.func (e9 name qual params body scope h kV doc d i z ct),R⟩) (T:codeIn K z qual=a5) (S:dN N ps scope)
  (len:∀vs H Q E,sp vs H Q E->vs.length=ps.length)
  (F:∀(A:bu) (outer:aq Env) (s:ay) (H:Hp) (vs:aq V) (Q:VK) (E:XK),cK k (A.deeper (c8 qual scope s.heap.objs.size f z))->sp vs H Q E ->
   ∃t,oY (mG CX P w K mg base N qual scope f z A outer s H E) body t/\t {nx:=λ_ H'=>Q .aV H',rt:=Q} (start N vs) H) :
  jA P w K mg base CX (k+1) f (e9 name qual params body scope h kV doc d i z ct) ps sp:=by
 refine⟨len,λA outer s H args m vs Q E hr U hb r g=>?_⟩;have hl:=len _ _ _ _ g;have l:K.In s.heap:=U.mod.sS.keeps λb o e=>(U.bs b o e).1;have lim:s.heap.NoLimit:=U.mod.nolimit.keeps λb o e=>(U.bs b o e).1;have W:∀y∈ps.zip m,scope.names.lookup y.1=ao .local\/(scope.names.lookup y.1=ao .cell/\((cellsFrom (s.heap.objs.size+1) scope.names []).lookup y.1).isSome=a5):=λ⟨n,v⟩ G=>by
  rcases S.par n (YU G).1 with q|q
  ·exact .inl q
  ·exact .inr ⟨q,cellsFrom_some _ _ _ (.inl q)⟩
 refine abR hr.depth (l _ _ D) rfl S.co S.gen rfl (codeRec_of l T) (hb _ _ _ _ ?_);refine Pr S.kind W λenv he c x=>?_;subst he;refine⟨lim.keeps x.toInCall.keep,codeAny_func ?_⟩;obtain⟨t,L,M⟩:=F A outer s H vs Q E (hr.deeper _) g;have I:Inv (mG CX P w K mg base N qual scope f z A outer s H E) [] (start N vs) H c:=Fv S hr.hd U hl r x;refine lV (L [] c (start N vs) H _ I M) (λfl s' B=>?_) λe s' B=>B;have fin:∀{j:St} {H':Hp} {v:V} {u:av},Inv (mG CX P w K mg base N qual scope f z A outer s H E) [] j H' s'->RelV v u->Q v H'->CE outer P w H s Q u s' :=
  λ{j H' v u} σ a q=>⟨v,H',σ.os,σ.bare,σ.base,σ.aK,a,q⟩
 cases fl with
 |ret u =>
  obtain⟨v,j,H',σ,a,q⟩:=B;exact fin σ a q
 |next =>
  obtain⟨j,H',σ,q⟩:=B;exact fin (v:=V.aV) (u:=Value.none) σ rfl q
 |brk =>
  obtain⟨_,_,_,q⟩:=B;exact False.elim q
 |cont =>
  obtain⟨_,_,_,q⟩:=B;exact False.elim q
section
variable{X:Cx}{x:ba}{p pos:dn}{e:bx}{es:aq bx}{t:TA}{id T:c4}{r:aq V->Hp->VK->Prop}
def Bj(r:aq V->Hp->VK->Prop)(t:TA):TE:=λJ H Q=>t J H λvs H1=>r vs H1 Q
theorem Uz(U:tP X (.builtin id) r)(N:Gl X x)(hm:X.mg x=au)(hv:dq x=ao (.builtin id))(a:PA X (e::es) t)(hn:x≠"__name__":=by decide)(b:(x==("__debug__" : ba))=ax:=by decide)
  (he:bg (e::es) X.env=(ax,cj e X.env)::bg es X.env:=by rfl) (c:(cz pos (bg es X.env)).any (·.1)=ax:=by rfl):PE X (.Call (.Name x p) (e::es) [] pos) (Bj r t):=by
 intro aa s J H Q I h;refine CV (HZ I N hm hv ?_ hn b);exact PyProof.Rows.callWith_builtin1 (bC (a pos aa s J H _ I h) λq z ⟨j,f,d,r1,B⟩=>U aa z J f j q Q d r1 B) he c
theorem Uy(U:tP X (.type T) r)(N:Gl X x)(hm:X.mg x=au)(hv:dq x=ao (.type T))(a:PA X (e::es) t)(hn:x≠"__name__":=by decide)(b:(x==("__debug__" : ba))=ax:=by decide)
  (he:bg (e::es) X.env=(ax,cj e X.env)::bg es X.env:=by rfl) (c:(cz pos (bg es X.env)).any (·.1)=ax:=by rfl):PE X (.Call (.Name x p) (e::es) [] pos) (Bj r t):=by
 intro aa s J H Q I h;refine CV (HZ I N hm hv ?_ hn b);exact Ma (bC (a pos aa s J H _ I h) λq z ⟨j,f,d,r1,B⟩=>U aa z J f j q Q d r1 B) he c
end
end L2
namespace HT
open PySem PyProof.Rows
section
variable{prog:bh}{w:bw}{A:bu}{E:av->ay->Prop}{s:ay}
theorem aEQ{t b:az}{vs j:aq av}{Q:av->ay->Prop}(g:IsTup s.heap t vs.toArray)(hb:IsTup s.heap b j.toArray)(hv:vs≠[])
  (h1:j=[]->Q (.ref t) s) (h2:j≠[]->Q (.ref s.heap.objs.size) {s with heap:=s.heap.push {cls:=.type "tuple",data:=.seq (vs++j).toArray} })
  (hsz:vs.length+j.length<=bf):wpAny (bq prog w) A (c9 .Add (.ref t) (.ref b)) Q E s:=by
 obtain⟨⟨cls,c,data,sl⟩,N,a,n,hd⟩:=id g;obtain⟨⟨h,q,data2,d⟩,z,f,U,hd2⟩:=id hb;simp only at a hd f hd2;subst a hd f hd2;have e:vs.toArray++j.toArray=(vs++j).toArray:=by simp
 by_cases B:j=[]
 ·exact concat_meets ⟨_,N,rfl⟩ ⟨_,z,rfl⟩ noFill_tuple_add seq_tuple_add PySem.F.slot_tuple_add PySem.F.entry_tuple_add (PySem.F.args_tuple_add_2 _ _)
   (tuple_addW1 t b vs.toArray j.toArray n U c q sl d (by simpa using hv) (by simp[B])) ⟨N,z,h1 B⟩
 ·refine concat_meets ⟨_,N,rfl⟩ ⟨_,z,rfl⟩ noFill_tuple_add seq_tuple_add PySem.F.slot_tuple_add PySem.F.entry_tuple_add (PySem.F.args_tuple_add_2 _ _)
   (tuple_addW2 t b vs.toArray j.toArray n U c q sl d (by simpa using hv) (by simpa using B) (by rw[kD,kD];exact hsz)) ⟨N,z,?_⟩
  rw[e];exact h2 B
noncomputable def cR(n d:a6):aw a4->a6
 |none=>d
 |some v=>if v<0 then(v+(n:a4)).toNat else min v.toNat n
theorem Cz(n d:a6):cR n d au=d:=rfl
theorem To(n d k:a6):cR n d (ao (k:a4))=min k n:=by
 show(if(k:a4)<0 then((k:a4)+(n:a4)).toNat else min (k:a4).toNat n)=min k n;rw[bb (by omega),FX]
theorem alG(n d:a6)(hd:d<=n)(o:aw a4):cR n d o<=n:=by
 cases o with
 |none=>exact hd
 |some v =>
  show(if v<0 then(v+(n:a4)).toNat else min v.toNat n)<=n
  by_cases hv:v<0
  ·rw[a9 hv];omega
  ·rw[bb hv];exact Nat.min_le_right _ _
theorem abU(v:a4)(n d:a6):(if v<0 then max (v+(n:a4)) 0 else min v (n:a4))=((cR n d (ao v):a6):a4):=by
 show(if v<0 then max (v+(n:a4)) 0 else min v (n:a4))=(((if v<0 then(v+(n:a4)).toNat else min v.toNat n):a6):a4)
 by_cases hv:v<0
 ·simp only[a9 hv];omega
 ·simp only[bb hv];omega
theorem aGL(lo hi:aw a4)(n:a6):Builtin.Slice.sliceAdjust lo hi 1 (n:a4)=(((cR n 0 lo:a6):a4),((cR n n hi:a6):a4)):=by
 have h1:¬((1:a4)<0):=by omega
 unfold Builtin.Slice.sliceAdjust;simp only[h1,gH];refine Prod.ext ?_ ?_
 ·cases lo with
  |none=>rfl
  |some v=>exact abU v n 0
 ·cases hi with
  |none=>rfl
  |some v=>exact abU v n n
theorem anQ(i j:a6):Builtin.Slice.slicePlaces (i:a4) (j:a4) 1=j-i:=by
 unfold Builtin.Slice.slicePlaces;have h1:(1:a4)>0:=by omega
 simp only[h1,eT,Int.ediv_one];split <;> omega
theorem Ss{v:av}{o:aw a4}{Q:aw a4->ay->Prop}(p:IsPart v o)(h:Q o s):wpAny (bq prog w) A (Builtin.Slice.slicePartIndex v) Q E s:=by
 cases p with
 |none=>exact slicePart_none h
 |int i t=>exact slicePart_int h
theorem ajX{sl:az}{q j:av}{lo hi:aw a4}{n:a6}{Q:a4×a4×a6->ay->Prop}(U:s.heap.IsSliceOf sl q j .none)(pl:IsPart q lo)(N:IsPart j hi)
  (h:Q (((cR n 0 lo:a6):a4),1,cR n n hi-cR n 0 lo) s):wpAny (bq prog w) A (Builtin.Slice.sliceApplied (.ref sl) (pure (n:a4))) Q E s:=by
 obtain⟨os,z,a,B⟩:=id U;unfold Builtin.Slice.sliceApplied Builtin.Slice.sliceFields;refine aJ (aJ (CT z B (x:=q) rfl (aJ (CT z B (x:=j) rfl (aJ (CT z B (x:=.none) rfl (aY ?_)))))));refine aJ (slicePart_none ?_);show wpAny _ _ (if((1:a4)==0)=a5 then _ else _) _ _ s;rw[bb (by decide)];refine aJ (Ss pl (aJ (Ss N (aJ (aY ?_)))));show wpAny _ _ (match Builtin.Slice.sliceAdjust lo hi 1 (n:a4)with|(lo,hi)=>pure (lo,(1:a4),Builtin.Slice.slicePlaces lo hi 1)) _ _ s;rw[aGL lo hi n];show wpAny _ _ (pure (((cR n 0 lo:a6):a4),(1:a4),Builtin.Slice.slicePlaces ((cR n 0 lo:a6):a4) ((cR n n hi:a6):a4) 1)) _ _ s;rw[anQ];exact aY h
theorem anW(xs:a8 av)(i k:a6):((List.range k).filterMap λ(m:a6)=>xs[((i:a4)+(m:a4)*1).toNat]?).toArray=((xs.toList.drop i).take k).toArray:=by
 have e:(λ(m:a6)=>xs[((i:a4)+(m:a4)*1).toNat]?)=λm=>xs[i+m]?:=by
  funext m;have:((i:a4)+(m:a4)*1).toNat=i+m:=by omega
  rw[this]
 rw[e];have:=pick_run xs i k;rw[List.filterMap_map]at this;have j:((λx=>xs[x]?) ∘ λx=>i+x)=λm=>xs[i+m]?:=rfl;rw[j]at this;rw[this]
theorem aAH{t sl:az}{items:a8 av}{N B:av}{lo hi:aw a4}{Q:av->ay->Prop}(j:IsTup s.heap t items)(U:s.heap.IsSliceOf sl N B .none)(pl:IsPart N lo)(a:IsPart B hi)
  (d:¬(cR items.size 0 lo=0/\cR items.size items.size hi=items.size))
  (h:Q (.ref s.heap.objs.size) {s with heap:=s.heap.push {cls:=.type "tuple",data:=.seq ((items.toList.drop (cR items.size 0 lo)).take (cR items.size items.size hi-cR items.size 0 lo)).toArray} })
  (hsz:items.size<=bf):wpAny (bq prog w) A (getItem (.ref t) (.ref sl)) Q E s:=by
 have z:sizeOk (.seq ((items.toList.drop (cR items.size 0 lo)).take (cR items.size items.size hi-cR items.size 0 lo)).toArray):=by
  show((items.toList.drop (cR items.size 0 lo)).take (cR items.size items.size hi-cR items.size 0 lo)).toArray.size<=bf;rw[kD,BX,KC,gL];omega
 have k:cR items.size items.size hi<=items.size:=alG _ _ cJ hi;obtain⟨os,c,e,l⟩:=id U;have f:s.TypeIs (.ref sl) "slice":=⟨os,c,e⟩;unfold getItem
 try with_reducible refine CS ?_
 first|refine aJ (aY ?_)|skip
 refine aJ (wpAny_sequenceKey j.typeIs (by decide) ?_);refine aJ (GO (name:=Str.ofString "__getitem__") j.typeIs adA
  (uZ adA j.typeIs entry_tuple_getitem ?_ (args_tuple_getitem _ _)))
 show wpAny _ _ (Builtin.Tuple.tupleItemsOf (.ref t) >>= _) _ _ s;refine aJ (tupleItemsOf_ j ?_);refine aJ (wpAny_typeOf f ?_);rw[a9 (by decide)];refine aJ (ajX U pl a ?_);have b:¬((((cR items.size 0 lo:a6):a4)==0&&(1:a4)==1&&(cR items.size items.size hi-cR items.size 0 lo)==items.size)=a5):=by
  intro q;rw[lK,lK]at q;have i:((cR items.size 0 lo:a6):a4)=0:=eq_of_beq q.1.1;have g:cR items.size items.size hi-cR items.size 0 lo=items.size:=eq_of_beq q.2;exact d ⟨by omega,by omega⟩
 show wpAny _ _ (if(((cR items.size 0 lo:a6):a4)==0&&(1:a4)==1&&(cR items.size items.size hi-cR items.size 0 lo)==items.size)=a5 then _ else _) _ _ s;rw[bb b,anW]
 first
  |exact aJ (m:=Builtin.Tuple.tupleExact _) (qC (aY ⟨_,rfl,aY h⟩) z)
  |exact aJ (m:=Builtin.Tuple.tupleExact _) (qC (aJ (aY (aY ⟨_,rfl,aY h⟩))) z)
  |exact aJ (aJ (m:=Builtin.Tuple.tupleExact _) (qC (aY (aY ⟨_,rfl,aY h⟩)) z))
  |exact aJ (aJ (m:=Builtin.Tuple.tupleExact _) (qC (aY ⟨_,rfl,aY h⟩) z))
end
end HT
namespace L2
open PySem PySem.Spec PyProof.Rows
abbrev TO:=St->Hp->(aw a4->Hp->Prop)->Prop
def PO(X:Cx)(e:aw bx)(t:TO):Prop :=
 ∀(aa:aq (az×c6)) (s:ay) (J:St) (H:Hp) (Q:aw a4->Hp->Prop),Inv X aa J H s->t J H Q ->
  wpAny (bq X.prog X.w) X.A (evalPart e X.env) (λu s'=>∃o H',Inv X aa J H' s'/\IsPart u o/\Q o H') X.xe s
def ah1:TO:=λ_ H Q=>Q au H
def ahW(t:TE):TO:=λJ H Q=>t J H λx H1=>∃i,x=.int i/\Q (ao i) H1
theorem intsAre_of{ns:aq a4}:∀{us:aq av},Vals (ns.map V.int) us->de us ns:=by
 induction ns with
 |nil=>intro us r;rw[FP]at r;cases r;exact .nil
 |cons n ns ih =>
  intro us r;rw[dE]at r;cases r with
  |cons r1 j =>
   obtain⟨t,e⟩:=r1;subst e;exact .cons n t (ih j)
section
variable{X:Cx}{e:bx}{te:TE}{lo hi:aw bx}{tl th:TO}{pos p2:dn}
theorem anO:PO X au ah1:=by
 intro aa s J H Q I h;rw[evalPart_none];exact aY ⟨au,H,I,.none,h⟩
theorem anN(h:PE X e te):PO X (ao e) (ahW te):=by
 intro aa s J H Q I z;rw[evalPart_some];refine bC (h aa s J H _ I z) λu U ⟨x,N,B,r1,j⟩=>?_;obtain⟨i,rfl,q⟩:=j;obtain⟨t,rfl⟩:=r1;exact⟨ao i,N,B,.int i t,q⟩
def FF(X:Cx)(r:V->aw a4->aw a4->Hp->VK->Prop):Prop :=
 ∀(aa:aq (az×c6)) (s:ay) (J:St) (H:Hp) (x:V) (v q j:av) (lo hi:aw a4) (sl:az) (Q:VK),Inv X aa J H s->RelV x v->s.heap.IsSliceOf sl q j .none->IsPart q lo->IsPart j hi->r x lo hi H Q ->
  ∃T id,typeLookup (.type T) "__getitem__" = pure (ao (.builtin id))/\s.TypeIs v T/\wpAny (bq X.prog X.w) X.A (getItem v (.ref sl)) (EP X aa J Q) X.xe s
theorem FF.or{r N:V->aw a4->aw a4->Hp->VK->Prop}(h:FF X r)(h':FF X N):FF X (λx lo hi H Q=>r x lo hi H Q\/N x lo hi H Q):=by
 intro aa s J H x v z j lo hi sl Q I B U pl pu q
 rcases q with q|q
 ·exact h aa s J H x v z j lo hi sl Q I B U pl pu q
 ·exact h' aa s J H x v z j lo hi sl Q I B U pl pu q
def tSl(r:V->aw a4->aw a4->Hp->VK->Prop)(te:TE)(tl th:TO):TE:=λJ H Q=>te J H λx H1=>tl J H1 λl H2=>th J H2 λu j=>r x l u j Q
theorem aoE{r:V->aw a4->aw a4->Hp->VK->Prop}(hr:FF X r)(he:PE X e te)(hl:PO X lo tl)(g:PO X hi th):PE X (.Subscript e (.Slice lo hi au p2) pos) (tSl r te tl th):=by
 intro aa s J H Q I h;refine Subscript_ (bC (he aa s J H _ I h) λv U ⟨x,y,p,r1,d⟩=>?_);refine wpAny_Slice (bC (hl aa U J y _ p d) λB s2 ⟨l,t,o,pl,c⟩=>bC (g aa s2 J t _ o c) λz j ⟨u,N,n,f,a⟩=>?_);rw[evalPart_none];refine aY ?_;have m:Inv X aa J N {j with heap:=j.heap.push {cls:=.type "slice",data:=.fields #[B,z,.none]} }:=n.kept (t':=j.toks) λb ob q=>dI _ q;obtain⟨T,id,hT,i,k⟩:=hr aa {j with heap:=j.heap.push {cls:=.type "slice",data:=.fields #[B,z,.none]} } J N x v B z l u j.heap.objs.size Q m r1 (Heap.IsSliceOf.new ..) pl f a;show wpAny (bq X.prog X.w) X.A (subscriptTail e (.Slice lo hi au p2) v (.ref j.heap.objs.size)) (EP X aa J Q) X.xe {j with heap:=j.heap.push {cls:=.type "slice",data:=.fields #[B,z,.none]} };exact tail_any (ops:=[.ref j.heap.objs.size,v]) i hT k (by with_unfolding_all rfl)
def BK(xs:aq V)(lo hi:aw a4):aq V:=(xs.drop (HT.cR xs.length 0 lo)).take (HT.cR xs.length xs.length hi-HT.cR xs.length 0 lo)
theorem abQ(xs:aq V)(lo hi:aw a4):(BK xs lo hi).length<=xs.length:=by
 unfold BK;rw[BX,KC];omega
def alZ(K:bj):V->aw a4->aw a4->Hp->VK->Prop:=λx lo hi H Q=>∃a xs,x=.ref a/\jP K H a xs /\
 ¬(HT.cR xs.length 0 lo=0/\HT.cR xs.length xs.length hi=xs.length)/\∀p,H p=au->Q (.ref p) (upd H p (.tup (BK xs lo hi)))
theorem aj0:FF X (alZ X.K):=by
 intro aa s J H x v i g lo hi sl Q I N e pl U h;obtain⟨a,j,rfl,c,d,q⟩:=h;cases N;obtain⟨f,r,B,z⟩:=I.tuple c;have hlen:f.toArray.size=j.length:=by rw[kD];exact r.length.symm
 refine⟨"tuple",_,adA.lookup,B.typeIs,?_⟩;refine HT.aAH B e pl U (by rw[hlen];exact d) ?_ (by rw[hlen];exact z);rw[hlen];refine⟨.ref s.heap.objs.size,_,I.laid (t':=s.toks) (o:=.tup (BK j lo hi)) (λb ob q=>dI _ q) cJ ?_,rfl,q _ (I.aK.fresh cJ)⟩;exact⟨rT (abQ j lo hi) z,_,(r.drop (HT.cR j.length 0 lo)).take (HT.cR j.length j.length hi-HT.cR j.length 0 lo),IsTup.new _ _⟩
def al3(K:bj):R2:=λx y H Q=>∃a b xs ys,x=.ref a/\y=.ref b/\jP K H a xs/\jP K H b ys/\xs≠[]/\xs.length+ys.length<=bf /\
 (ys=[]->Q (.ref a) H)/\(ys≠[]->∀p,H p=au->Q (.ref p) (upd H p (.tup (xs++ys))))
theorem Vals.Ei{xs:aq V}{us:aq av}(r:Vals xs us):us=[]<->xs=[]:=by
 cases r with
 |nil=>simp
 |cons _ _=>simp
theorem apQ:gZ X (c9 .Add) (al3 X.K):=by
 intro aa s J H x y v u Q I d c h;obtain⟨a,b,U,N,rfl,rfl,k,hb,i,B,f,e⟩:=h;cases d;cases c;obtain⟨l,r1,g,_⟩:=I.tuple k;obtain⟨m,j,p2,_⟩:=I.tuple hb;refine HT.aEQ g p2 (λz=>i (r1.Ei.mp z)) (λz=>⟨.ref a,H,I,rfl,f (j.Ei.mp z)⟩) (λz=>?_) (by rw[<-r1.length,<-j.length];exact B);refine⟨.ref s.heap.objs.size,_,I.laid (t':=s.toks) (o:=.tup (U++N)) (λb ob q=>dI _ q) cJ ?_,rfl,e (λw=>z (j.Ei.mpr w)) _ (I.aK.fresh cJ)⟩;exact⟨by rw[gF];exact B,_,r1.append j,IsTup.new _ _⟩
end
noncomputable def yV(n:a6)(i:a4):aw a6:=if 0<=i then(if i<n then ao i.toNat else au)else if -(n:a4)<=i then ao (i+n).toNat else au
def fU{α:Type}(xs:aq α)(i:a4):aw α:=(yV xs.length i).bind λj=>xs[j]?
theorem auZ{n:a6}{i:a4}{j:a6}(h:yV n i=ao j):seqIndex? i n=ao j/\j<n/\-(n:a4)<=i/\i<n:=by
 unfold yV at h
 by_cases q:0<=i
 ·rw[a9 q]at h
  by_cases h1:i<n
  ·rw[a9 h1]at h;have e:i.toNat=j:=kJ h;exact⟨by rw[seqIndex_of q h1,e],by omega,by omega,h1⟩
  ·rw[bb h1]at h;cases h
 ·rw[bb q]at h
  by_cases h1 : -(n:a4)<=i
  ·rw[a9 h1]at h;have e:(i+n).toNat=j:=kJ h;exact⟨by rw[seqIndex_neg (by omega) h1,e],by omega,h1,by omega⟩
  ·rw[bb h1]at h;cases h
theorem Lq{α:Type}{xs:aq α}{i:a4}{v:α}(h:fU xs i=ao v):∃j,seqIndex? i xs.length=ao j/\xs[j]?=ao v/\j<xs.length/\-(xs.length:a4)<=i/\i<xs.length:=by
 unfold fU at h;cases e:yV xs.length i with
 |none=>rw[e]at h;cases h
 |some j =>
  rw[e]at h;obtain⟨h1,h2,z,q⟩:=auZ e;exact⟨j,h1,h,h2,z,q⟩
theorem aGE{α:Type}(xs:aq α)(v:α):fU (xs++[v]) (-1)=ao v:=by
 have hl:(xs++[v]).length=xs.length+1:=by simp
 have e:yV (xs++[v]).length (-1)=ao xs.length:=by
  unfold yV;rw[hl,bb (by decide),a9 (by omega)];congr 1;omega
 unfold fU;rw[e];show(xs++[v])[xs.length]?=ao v;simp
def adD(b:bx):Prop:=∀o i,subscripted b ax o i=operate [o,i] (getItem o i)
def zT(X:Cx)(r:R2):Prop :=
 ∀(value slice:bx) (aa:aq (az×c6)) (s:ay) (J:St) (H:Hp) (x y:V) (v u:av) (Q:VK),Inv X aa J H s->RelV x v->RelV y u->r x y H Q ->
  subscripted slice ax v u=operate [v,u] (getItem v u)->wpAny (bq X.prog X.w) X.A (subscriptTail value slice v u) (EP X aa J Q) X.xe s
def MtR(X:Cx)(id:c4)(r:V->aq V->Hp->VK->Prop):Prop :=
 ∀(aa:aq (az×c6)) (s:ay) (J:St) (H:Hp) (x:V) (xs:aq V) (v:av) (us:aq av) (Q:VK),Inv X aa J H s->RelV x v->Vals xs us->r x xs H Q ->
  wpAny (bq X.prog X.w) X.A (call (.builtin id) (v::us)) (EP X aa J Q) X.xe s
section
variable{X:Cx}{a b:bx}{ta tb:TE}{pos:dn}
theorem zT.or{r B:R2}(h:zT X r)(h':zT X B):zT X (λx y H Q=>r x y H Q\/B x y H Q):=by
 intro value slice aa s J H x y v u Q I z j q N
 rcases q with q|q
 ·exact h value slice aa s J H x y v u Q I z j q N
 ·exact h' value slice aa s J H x y v u Q I z j q N
theorem aoQ{r:R2}(hr:zT X r)(N:PE X a ta)(hb:PE X b tb)(B:adD b):PE X (.Subscript a b pos) (LN r ta tb):=by
 intro aa s J H Q I h;exact Subscript_ (Km N hb I h λv u s2 x y c U z j q=>hr a b aa s2 J c x y v u Q U z j q (B _ _))
def Ua(K:bj):R2:=λx y H Q=>∃p xs i v,x=.ref p/\y=.int i/\fO K H p xs/\fU xs i=ao v/\Q v H
def Tx(K:bj):R2:=λx y H Q=>∃p xs i v,x=.ref p/\y=.int i/\jP K H p xs/\fU xs i=ao v/\Q v H
def Tz:R2:=λx y H Q=>∃z i c,x=.str z/\y=.int i/\z.length<=bf/\fU z.cps.toList i=ao c/\Q (.str ⟨#[c]⟩) H
theorem auY:zT X (Ua X.K):=by
 intro value slice aa s J H x y v u Q I d c h N;obtain⟨p,l,i,z,rfl,rfl,e,he,q⟩:=h;cases d;obtain⟨t,rfl⟩:=c;obtain⟨k,r,pl,m⟩:=I.list e;obtain⟨j,h1,h2,n,g,f⟩:=Lq he;obtain⟨w,a,b⟩:=r.get h2;have hl:=r.length;have hn:=UN;have fin:EP X aa J Q w s:=⟨z,H,I,b,q⟩
 by_cases U:0<=i
 ·have B:i.toNat=j:=by
   rw[seqIndex_of U f]at h1;exact kJ h1
  exact item_listR pl.isList U (by omega) (by rw[B];simpa using a) fin N
 ·have B:(i+(k.toArray.size:a4)).toNat=j:=by
   rw[seqIndex_neg (by omega) g]at h1;rw[kD,<-hl];exact kJ h1
  exact subscriptTail_builtinR (x:=w) pl.isList.typeIs slot_list_getitem.lookup
   (wpAny_getItem_list_neg (Q:=λr s'=>r=w/\EP X aa J Q r s') pl.isList (by omega) (by rw[kD] <;> omega) (by omega) (by rw[B];simpa using a) ⟨rfl,fin⟩) N
theorem auV:zT X (Tx X.K):=by
 intro value slice aa s J H x y v u Q I U N h a;obtain⟨p,d,i,z,rfl,rfl,b,he,q⟩:=h;cases U;obtain⟨t,rfl⟩:=N;obtain⟨l,r,pl,e⟩:=I.tuple b;obtain⟨j,h1,h2,k,g,f⟩:=Lq he;obtain⟨w,c,B⟩:=r.get h2;have hl:=r.length;have hn:=UN;have fin:EP X aa J Q w s:=⟨z,H,I,B,q⟩;exact subscriptTail_builtinR (x:=w) pl.typeIs slot_tuple_getitem.lookup
  (getItem_tuple (j:=j) (Q:=λr s'=>r=w/\EP X aa J Q r s') pl (by omega) (by omega) (by rw[kD,<-hl];exact h1) (by simpa using c) ⟨rfl,fin⟩) a
theorem auW:zT X Tz:=by
 intro value slice aa s J H x y v u Q I N B h U;obtain⟨z,i,c,rfl,rfl,g,he,q⟩:=h;obtain⟨t,rfl⟩:=N;obtain⟨f,rfl⟩:=B;obtain⟨j,h1,h2,k,b,a⟩:=Lq he;have hl:z.cps.toList.length=z.length:=by simp[Str.length]
 rw[hl]at h1 b a;have hn:=UN;exact tail_any (typeIs_str s z t) slot_str_getitem.lookup (getItem_str (c:=c) (by
  have e:decide (i < -(2 ^ 63:a4))=ax:=nY (by omega);have d:decide (i>=2 ^ 63)=ax:=nY (by omega);rw[e,d,Bool.or_false]) (by rw[h1];simpa using h2) ⟨.str ⟨#[c]⟩,H,I.tok _,⟨_,rfl⟩,q⟩) U
def rIx(K:bj):R2:=λx y H Q=>Ua K x y H Q\/Tx K x y H Q\/Tz x y H Q
theorem auX:zT X (rIx X.K):=auY.or (auV.or auW)
theorem Inv.lst{aa:aq (az×c6)}{J:St}{H:Hp}{s:ay}{p:az}{xs:aq V}(I:Inv X aa J H s)(h:H p=ao (.lst xs)) :
  ∃(j:aq av) (n:a6),Vals xs j/\s.heap.get? p=ao {cls:=.type "list",data:=.seq j.toArray n}/\xs.length<=bf:=by
 obtain⟨z,j,n,r,e⟩:=I.aK p _ h;exact⟨j,n,r,e,z⟩
theorem ajV(lo hi:aw a4)(n:a6):(cy lo hi au n).1=((HT.cR n 0 lo:a6):a4)/\(cy lo hi au n).2.1=((HT.cR n n hi:a6):a4)/\(cy lo hi au n).2.2=1:=by
 refine⟨?_,?_,rfl⟩
 ·cases lo with
  |none=>simp[cy,HT.cR]
  |some i =>
   simp only[cy,HT.cR,Option.getD_none,show(1:a4)>0 by decide,eT]
   by_cases h:i<0
   ·simp only[h,eT] <;> omega
   ·simp only[h,gH] <;> omega
 ·cases hi with
  |none=>simp[cy,HT.cR]
  |some i =>
   simp only[cy,HT.cR,Option.getD_none,show(1:a4)>0 by decide,eT]
   by_cases h:i<0
   ·simp only[h,eT] <;> omega
   ·simp only[h,gH] <;> omega
theorem ajW(j:aq av)(lo hi:aw a4):slicePick j.toArray lo hi au=((j.drop (HT.cR j.length 0 lo)).take (HT.cR j.length j.length hi-HT.cR j.length 0 lo)).toArray:=by
 obtain⟨h1,h2,q⟩:=ajV lo hi j.toArray.size;unfold slicePick;rw[h1,h2,q];simp only[sliceRange_one,pick_run,kD] <;> rfl
def al0(K:bj):V->aw a4->aw a4->Hp->VK->Prop:=λx lo hi H Q=>∃a xs,x=.ref a/\fO K H a xs/\∀p,H p=au->Q (.ref p) (upd H p (.lst (BK xs lo hi)))
theorem aj1:FF X (al0 X.K):=by
 intro aa s J H x v f e lo hi sl Q I B d pl N h;obtain⟨a,j,rfl,c,q⟩:=h;cases B;obtain⟨g,r,z,U⟩:=I.list c;have hlen:=r.length;refine⟨"list",_,slot_list_getitem.lookup,z.isList.typeIs,?_⟩;refine wpAny_getItem_list_slice z.isList d pl N .none (by simp) ?_ (by rw[kD] <;> omega);rw[ajW,<-hlen];refine⟨.ref s.heap.objs.size,_,I.laid (t':=s.toks) (o:=.lst (BK j lo hi)) (λb ob q=>dI _ q) cJ ?_,rfl,q _ (I.aK.fresh cJ)⟩;exact⟨rT (abQ j lo hi) U,_,0,(r.drop (HT.cR j.length 0 lo)).take (HT.cR j.length j.length hi-HT.cR j.length 0 lo),gU _ rfl⟩
theorem aEY:tP X (.builtin "len") (λxs H Q=>∃p ys,xs=[.ref p]/\(fO X.K H p ys\/jP X.K H p ys)/\Q (.int ys.length) H):=by
 intro aa s J H xs a Q I r h;obtain⟨p,ys,rfl,j,q⟩:=h;obtain⟨u,rfl,B⟩:=vals1 r;cases B;have hn:=UN
 rcases j with j|j
 ·obtain⟨U,z,pl,N⟩:=I.list j;have hlen:=z.length;exact Calls.call_len_list pl.isList (by simp only[kD] <;> omega) ⟨.int ys.length,H,I.tok _,⟨s.toks+1,by rw[kD,hlen]⟩,q⟩
 ·obtain⟨U,z,pl,N⟩:=I.tuple j;have hlen:=z.length;exact len_tuple pl (by simp only[kD] <;> omega) ⟨.int ys.length,H,I.tok _,⟨s.toks+1,by rw[kD,hlen]⟩,q⟩
def Aw(K:bj)(T:c4)(x:V)(H:Hp):Prop:=match x with
 |.str _=>T = "str"
 |.int _=>T = "int"
 | .ref p=>(T = "list"/\∃xs,fO K H p xs)\/(T = "tuple"/\∃o,K.lookup p=ao o/\o.cls=.type "tuple"/\o.dict=au) \/
   (T = "dict"/\((∃kvs,H p=ao (.dK kvs))\/∃kvs,H p=ao (.dT kvs)))\/(T = "set"/\∃S n,H p=ao (.set S n))
 |_=>cp
theorem agV{aa:aq (az×c6)}{J:St}{H:Hp}{s:ay}{T:c4}{x:V}{v:av}(I:Inv X aa J H s)(r:RelV x v)(ty:Aw X.K T x H) :
  s.TypeIs v T/\∀a,v=.ref a->∃ob,s.heap.get? a=ao ob/\ob.dict=au:=by
 cases x with
 |str z =>
  obtain⟨t,rfl⟩:=r;cases(show T = "str" from ty);exact⟨typeIs_str s z t,λ_ e=>nomatch e⟩
 |int i =>
  obtain⟨t,rfl⟩:=r;cases(show T = "int" from ty);exact⟨typeIs_int s i t,λ_ e=>nomatch e⟩
 |ref p =>
  cases r
  rcases ty with⟨rfl,b,N⟩|⟨rfl,o,j,U,hd⟩|⟨rfl,j⟩|⟨rfl,S,n,j⟩
  ·obtain⟨d,_,pl,_⟩:=I.list N;refine⟨pl.isList.typeIs,λa e=>?_⟩;cases e;obtain⟨o,n,e,c,hd,_⟩:=pl;exact⟨o,e,hd⟩
  ·refine⟨⟨o,I.fY p o j,U⟩,λa e=>?_⟩;cases e;exact⟨o,I.fY _ o j,hd⟩
  ·have z:∃o,s.heap.get? p=ao o/\o.ExactDict:=by
    rcases j with⟨q,j⟩|⟨q,j⟩
    ·obtain⟨_,_,_,_,o,_,_,e,ex,_⟩:=I.aK p _ j;exact⟨o,e,ex⟩
    ·obtain⟨_,_,_,_,o,_,_,e,ex,_⟩:=I.aK p _ j;exact⟨o,e,ex⟩
   obtain⟨o,e,ex⟩:=z;refine⟨⟨o,e,ex.1⟩,λa B=>?_⟩;cases B;exact⟨o,e,ex.2.1⟩
  ·obtain⟨o,_,_,_,e,ex,_⟩:=I.aK p _ j;refine⟨⟨o,e,ex.1⟩,λa B=>?_⟩;cases B;exact⟨o,e,ex.2.1⟩
 |_=>exact False.elim ty
def tBM(K:bj)(T:c4)(r:V->aq V->Hp->VK->Prop)(to:TE)(t:TA):TE:=λJ H Q=>to J H λx H1=>Aw K T x H1/\t J H1 λxs H2=>r x xs H2 Q
variable{o e:bx}{es:aq bx}{to:TE}{t:TA}{name:ba}{ag kB:dn}{T id:c4}{r:V->aq V->Hp->VK->Prop}
theorem ao2(pa:PlainAttrs T)(slot:Slot T name id)(p:typeOf (.builtin id)=pure (.type "method_descriptor"))(hm:MtR X id r)(f:PE X o to)(g:PA X (e::es) t)
  (z:dw o name X.env (cj o X.env)=cj o X.env:=by rfl)
  (k:((cz kB (bg (e::es) X.env)).all (λx=>!x.1)&&(backToKw kB (fm [] X.env)).all (λx=>x.1.isSome)
   && decide ((e::es).length+([]:aq Keyword).length+(if([]:aq Keyword).isEmpty then 0 else 1)<30))=a5:=by rfl)
  (u:(ag.endLine==kB.line)=a5:=by rfl) (d:bg (e::es) X.env=(ax,cj e X.env)::bg es X.env:=by rfl) (n:(cz kB (bg es X.env)).any (·.1)=ax:=by rfl) :
  PE X (.Call (.Attribute o name ag) (e::es) [] kB) (tBM X.K T r to t):=by
 intro aa s J H Q I h;refine wpAny_Call_method_late z k u rfl (bC (f aa s J H _ I h) λv U ⟨x,m,q,r1,ty,c⟩=>?_);obtain⟨h1,h2⟩:=agV q r1 ty;refine⟨T,id,pa,slot,p,h1,h2,?_⟩;have j:=g kB aa U J m _ q c;rw[d]at j ⊢;refine ad3 (by show(ax||(cz kB (bg es X.env)).any (·.1))=ax;rw[n] <;> rfl) (ad2 ?_);exact bC j λN s2 ⟨B,l,i,a,b⟩=>hm aa s2 J l x B v N Q i r1 a b
end
def MtM(X:Cx)(id:c4)(r:V->aq V->Hp->VK->Prop):Prop :=
 ∀(aa:aq (az×c6)) (s:ay) (J:St) (H:Hp) (x:V) (xs:aq V) (v:av) (us:aq av) (Q:VK),Inv X aa J H s->RelV x v->Vals xs us->r x xs H Q ->
  wpAny (bq X.prog X.w) X.A (call (.builtin id) (v::us)) (EP X aa J Q) X.xe s
theorem Vals.one:∀{x:V} {us:aq av},Vals [x] us->∃u,us=[u]/\RelV x u
 |_,_,.cons r .nil=>⟨_,rfl,r⟩
theorem Vals.zero:∀{us:aq av},Vals [] us->us=[]
 |_,.nil=>rfl
theorem Vals.eraseIdx:∀{xs:aq V} {us:aq av} (i:a6),Vals xs us->Vals (xs.eraseIdx i) (us.eraseIdx i)
 |_,_,_,.nil => .nil
 |_,_,0,.cons _ t=>t
 |_,_,i+1,.cons r t => .cons r (Vals.eraseIdx i t)
theorem Ww{α:Type}:∀(l:aq α) (i:a6),(l.eraseIdx i).length<=l.length
 |[],_=>rV _
 |_::_,0=>FJ _
 |_::r,i+1=>Nat.succ_le_succ (Ww r i)
section
variable{X:Cx}{aa:aq (az×c6)}{J:St}{H:Hp}{s:ay}{l b:az}{xs ys zs:aq V}
theorem Inv.Eu{j its':aq av}{n:a6}{f:a8 av->a8 av}{t':a6}(I:Inv X aa J H s)(B:H l=ao (.lst xs))
  (e:s.heap.get? l=ao {cls:=.type "list",data:=.seq j.toArray n}) (hf:f j.toArray=its'.toArray) (hv:Vals ys its') (hz:ys.length<=bf) :
  Inv X aa J (upd H l (.lst ys)) {s with heap:=s.heap.update l (Obj.mapSeq f),toks:=t' }:=by
 have q:=PySem.IsL.update e f;rw[hf]at q;refine I.write (x:=l) (e:=l) (by rw[B];exact trivial) (.inl rfl) (λN u hb z=>(uU s.heap (Obj.mapSeq f) (cX hb)).trans z) ⟨_,q⟩ ?_;exact⟨hz,its',_,hv,q⟩
theorem Inv.asF{j:aq av}{t':a6}(I:Inv X aa J H s)(hv:Vals ys j)(hz:ys.length<=bf) :
  Inv X aa J (upd H s.heap.objs.size (.lst ys)) {s with heap:=s.heap.push {cls:=.type "list",data:=.seq j.toArray},toks:=t' } :=
 I.laid (λ_ _ q=>dI _ q) cJ ⟨hz,j,0,hv,gU _ rfl⟩
theorem Inv.fresh(I:Inv X aa J H s):H s.heap.objs.size=au:=I.aK.fresh cJ
theorem Inv.MY(I:Inv X aa J H s)(q:H l=ao (.lst xs)):xs.length<=bf/\∃(j:aq av) (n:a6),Vals xs j/\xs.length=j.length/\s.heap.get? l=ao {cls:=.type "list",data:=.seq j.toArray n}:=by
 obtain⟨z,j,n,r,e⟩:=I.aK l _ q;exact⟨z,j,n,r,r.length,e⟩
end
section
variable{X:Cx}
def Uc:V->aq V->Hp->VK->Prop:=λx vs H Q=>∃l xs y,x=.ref l/\vs=[y]/\H l=ao (.lst xs)/\xs.length<bf/\Q .aV (upd H l (.lst (xs++[y])))
theorem DQ:MtM X "list.append" Uc:=by
 intro aa s J H x c v d Q I N U h;obtain⟨l,b,y,rfl,rfl,j,f,q⟩:=h;cases N;obtain⟨u,rfl,a⟩:=U.one;obtain⟨z,B,n,r,hl,e⟩:=I.MY j;refine call_meets F.slot_list_append ⟨_,e,rfl⟩ F.entry_list_append (F.args_list_append_2 _ _) (PySem.list_append l B.toArray n u (by rw[kD];omega)) ⟨e,?_⟩;refine⟨.aV,_,I.Eu (its':=B++[u]) j e (by simp) (r.append (.cons a .nil)) ?_,rfl,q⟩;rw[gF,List.length_singleton];omega
def Tw:V->aq V->Hp->VK->Prop:=λx vs H Q=>∃l xs i k y,x=.ref l/\vs=[.int i]/\H l=ao (.lst xs)/\-(2 ^ 63)<=i/\i<2 ^ 63/\seqIndex? i xs.length=ao k/\xs[k]?=ao y/\Q y (upd H l (.lst (xs.eraseIdx k)))
theorem arY:MtM X "list.pop" Tw:=by
 intro aa s J H x m v o Q I a b h;obtain⟨l,N,i,k,y,rfl,rfl,B,h1,h2,g,d,q⟩:=h;cases a;obtain⟨u,rfl,c⟩:=b.one;obtain⟨t,rfl⟩:=c;obtain⟨z,j,n,r,hl,e⟩:=I.MY B;obtain⟨w,f,U⟩:=r.get d;refine call_meets F.slot_list_pop ⟨_,e,rfl⟩ F.entry_list_pop (F.args_list_pop_2 _ _)
  (MeetsSeq.list_pop_at l j.toArray n i t k w (fitsIndex_both h1 h2) (by rw[kD,<-hl];exact g) (by rw[<-mM];exact f) (by rw[kD];omega)) ⟨e,?_⟩
 refine⟨y,_,I.Eu (its':=j.eraseIdx k) B e ?_ (r.eraseIdx k) ?_,U,q⟩
 ·show j.toArray.eraseIdxIfInBounds k=(j.eraseIdx k).toArray;rw[List.eraseIdxIfInBounds_toArray]
 ·have:=Ww N k;omega
def Ub:R2:=λx y H Q=>∃l b xs zs,x=.ref l/\y=.ref b/\H l=ao (.lst xs)/\H b=ao (.lst zs)/\xs.length+zs.length<=bf/\∀p,H p=au->Q (.ref p) (upd H p (.lst (xs++zs)))
theorem apR:gZ X (c9 .Add) Ub:=by
 intro aa s J H x y v u Q I U N h;obtain⟨l,b,m,i,rfl,rfl,c,d,t,q⟩:=h;cases U;cases N;obtain⟨z,j,n,r,hl,e⟩:=I.MY c;obtain⟨k,B,o,a,p,g⟩:=I.MY d;refine PySem.P.add_list e g ?_ (by rw[kD,kD];omega);have f:j.toArray++B.toArray=(j++B).toArray:=by simp
 rw[f];exact⟨.ref _,_,I.asF (t':=s.toks) (r.append a) (by rw[gF];omega),rfl,q _ I.fresh⟩
end
section
variable{κ:Type} [DecidableEq κ]
noncomputable def nL(kvs:aq (κ×V))(k:κ):aw V:=(kvs.find? λj=>decide (j.1=k)).map (·.2)
noncomputable def putK(kvs:aq (κ×V))(k:κ)(v:V):aq (κ×V) :=
 if(kvs.any λj=>decide (j.1=k))=a5 then kvs.map (λj=>if j.1=k then(j.1,v)else j)else kvs++[(k,v)]
theorem Aj{p:κ×V}{r:aq (κ×V)}{k:κ}(e:p.1=k):nL (p::r) k=ao p.2:=by simp[nL,FQ,e]
theorem Ak{p:κ×V}{r:aq (κ×V)}{k:κ}(e:¬p.1=k):nL (p::r) k=nL r k:=by simp[nL,FQ,e]
theorem Qn(k:κ):∀kvs:aq (κ×V),(kvs.any λj=>decide (j.1=k))=(nL kvs k).isSome
 |[]=>rfl
 |p::r=>by
  rw[Mu]
  by_cases e:p.1=k
  ·simp only[Aj e,vT e,Bool.true_or,Option.isSome_some]
  ·rw[Ak e,nY e,Bool.false_or];exact Qn k r
theorem Wt(kvs:aq (κ×V))(k:κ)(v:V):(putK kvs k v).length<=kvs.length+1:=by
 unfold putK;split
 ·rw[jG];omega
 ·rw[gF,iZ,BZ];omega
theorem oA.avB{o:aw V}{u:aw av}(r:oA o u):o.isSome=u.isSome:=by
 cases o with
 |none=>cases u with
  |none=>rfl
  |some _=>exact(show cp from r).elim
 |some _=>cases u with
  |none=>exact(show cp from r).elim
  |some _=>rfl
theorem oA.getD{o:aw V}{u:aw av}{d:V}{d':av}(r:oA o u)(j:RelV d d'):RelV (o.getD d) (u.getD d'):=by
 cases o with
 |none=>cases u with
  |none=>exact j
  |some _=>exact(show cp from r).elim
 |some _=>cases u with
  |none=>exact(show cp from r).elim
  |some _=>exact r
theorem KV.val{kvs:aq (κ×V)}{vs:aq (κ×av)}(r:KV kvs vs)(k:κ):oA (nL kvs k) (valueAt vs k):=by
 unfold KV at r
 induction r with
 |nil=>exact True.intro
 | @cons p q N j h t ih =>
  obtain⟨h1,h2⟩:=h
  by_cases e:p.1=k
  ·have B:q.1=k:=h1.symm.trans e;have b:valueAt (q::j) k=ao q.2:=by simp[valueAt,FQ,B]
   rw[Aj e,b];exact h2
  ·have B:¬q.1=k:=λz=>e (h1.trans z);have b:valueAt (q::j) k=valueAt j k:=by simp[valueAt,FQ,B]
   rw[Ak e,b];exact ih
theorem KV.any{kvs:aq (κ×V)}{vs:aq (κ×av)}(r:KV kvs vs)(k:κ):(kvs.any λj=>decide (j.1=k))=vs.any λj=>decide (j.1=k):=by
 unfold KV at r
 induction r with
 |nil=>rfl
 |cons h t ih=>rw[Mu,Mu,ih,h.1]
theorem KV.Dg{kvs:aq (κ×V)}{vs:aq (κ×av)}(r:KV kvs vs)(k:κ){y:V}{u:av}(B:RelV y u) :
  KV (kvs.map λj=>if j.1=k then(j.1,y)else j) (vs.map λj=>if j.1=k then(j.1,u)else j):=by
 unfold KV at r ⊢
 induction r with
 |nil=>exact .nil
 | @cons p q U N h t ih =>
  rw[dE,dE];refine .cons ?_ ih;obtain⟨h1,h2⟩:=h
  by_cases e:p.1=k
  ·rw[a9 e,a9 (h1.symm.trans e)];exact⟨h1,B⟩
  ·rw[bb e,bb (λz=>e (h1.trans z))];exact⟨h1,h2⟩
theorem KV.put{kvs:aq (κ×V)}{vs:aq (κ×av)}(r:KV kvs vs)(k:κ){y:V}{u:av}(j:RelV y u):KV (putK kvs k y) (stored vs k u):=by
 unfold putK stored;rw[r.any k]
 by_cases e:(vs.any λq=>decide (q.1=k))=a5
 ·rw[a9 e,a9 e];exact r.Dg k j
 ·rw[bb e,bb e];exact Paired.snoc r ⟨rfl,j⟩
theorem KV.keys{kvs:aq (κ×V)}{vs:aq (κ×av)}(r:KV kvs vs):kvs.map (·.1)=vs.map (·.1):=by
 unfold KV at r
 induction r with
 |nil=>rfl
 |cons h t ih=>rw[dE,dE,ih,h.1]
theorem KV.length{kvs:aq (κ×V)}{vs:aq (κ×av)}(r:KV kvs vs):kvs.length=vs.length:=Paired.length r
end
theorem UU{P:bh}{w:bw}{k:Key}{u:av}(r:RelV (kV k) u):(mB P w).is k u=a5:=by
 cases k with
 |inl i=>obtain⟨t,e⟩:=(show ∃t,u=Value.int i t from r);subst e;exact ar1 P w i t
 |inr x=>obtain⟨t,e⟩:=(show ∃t,u=Value.str x t from r);subst e;exact ar0 P w x t
theorem Xd{P:bh}{w:bw}:∀{j:aq Key} {us:aq av},Vals (j.map kV) us->ItemsAre (mB P w) j us
 |[],_,r=>by rw[FP]at r;cases r;exact .nil
 |k::j,_,r=>by
  rw[dE]at r;cases r with
  |cons h t=>exact .cons (UU h) (Xd t)
abbrev KT(H:Hp):aq (aq Key×V)->aq (aq Key×az×av)->Prop:=Paired λp q=>p.1=q.1/\H q.2.1=ao (.tup (p.1.map kV))/\RelV p.2 q.2.2
theorem KT.val{H:Hp}{kvs:aq (aq Key×V)}{xs:aq (aq Key×az×av)}(r:KT H kvs xs)(k:aq Key):oA (nL kvs k) ((atKey xs k).map (·.2)):=by
 induction r with
 |nil=>exact True.intro
 | @cons p q N j h t ih =>
  obtain⟨h1,_,h2⟩:=h
  by_cases e:p.1=k
  ·have B:q.1=k:=h1.symm.trans e;have b:atKey (q::j) k=ao q.2:=by simp[atKey,FQ,B]
   rw[Aj e,b];exact h2
  ·have B:¬q.1=k:=λz=>e (h1.trans z);have b:atKey (q::j) k=atKey j k:=by simp[atKey,FQ,B]
   rw[Ak e,b];exact ih
theorem KT.Dg{H:Hp}{kvs:aq (aq Key×V)}{xs:aq (aq Key×az×av)}(r:KT H kvs xs)(k:aq Key){y:V}{u:av}(B:RelV y u) :
  KT H (kvs.map λj=>if j.1=k then(j.1,y)else j) (xs.map (putAt k u)):=by
 induction r with
 |nil=>exact .nil
 | @cons p q a U h t ih =>
  rw[dE,dE];refine .cons ?_ ih;obtain⟨h1,h2,N⟩:=h;unfold putAt
  by_cases e:p.1=k
  ·rw[a9 e,a9 (h1.symm.trans e)];exact⟨h1,h2,B⟩
  ·rw[bb e,bb (λz=>e (h1.trans z))];exact⟨h1,h2,N⟩
theorem KT.put{H:Hp}{kvs:aq (aq Key×V)}{xs:aq (aq Key×az×av)}(r:KT H kvs xs)(k:aq Key){b:az}{y:V}{u:av}(hb:H b=ao (.tup (k.map kV)))(j:RelV y u) :
  KT H (putK kvs k y) (storedH xs k b u):=by
 have e:(kvs.any λz=>decide (z.1=k))=(atKey xs k).isSome:=by
  rw[Qn,(r.val k).avB,Option.isSome_map]
 unfold putK storedH;rw[e]
 by_cases q:(atKey xs k).isSome=a5
 ·rw[a9 q,a9 q];exact r.Dg k j
 ·rw[bb q,bb q];exact Paired.snoc r ⟨rfl,hb,j⟩
theorem KT.keeps{H H':Hp}{kvs:aq (aq Key×V)}{xs:aq (aq Key×az×av)}(r:KT H kvs xs)(j:∀b ys,H b=ao (.tup ys)->H' b=ao (.tup ys)):KT H' kvs xs :=
 Paired.Es r λ_ _ z=>⟨z.1,j _ _ z.2.1,z.2.2⟩
section
variable{P:bh}{w:bw}{H:Hp}{h:bz}{a:az}
theorem Tv{u:HO}(ok:fR P w H h)(e:Rd H a u):iO P w H h a u:=e.ok ok
theorem PC{kvs:aq (Key×V)}(ok:fR P w H h)(e:Rd H a (.dK kvs)):kvs.length<=bf/\(a==ea)=ax/\∃vs,KV kvs vs/\h.DictOf (mB P w) a vs :=
 show iO P w H h a (.dK kvs)from Tv ok e
theorem Jw{kvs:aq (Key×V)}(ok:fR P w H h)(e:H a=ao (.dK kvs)):kvs.length<=bf/\(a==ea)=ax/\∃vs,KV kvs vs/\h.DictOf (mB P w) a vs:=PC ok (.inl e)
theorem US{j:aq Key}(ok:fR P w H h)(e:H a=ao (.tup (j.map kV))):(tupleKind (mB P w)).is h j a:=by
 obtain⟨_,z,r,o,h1,h2,n,q⟩:=(show iO P w H h a (.tup (j.map kV))from ok a _ e);exact⟨o,z.toArray,n,h1,h2,q,by simpa using Xd r⟩
theorem OY{kvs:aq (aq Key×V)}(ok:fR P w H h)(e:Rd H a (.dT kvs)):kvs.length<=bf/\(a==ea)=ax /\
  ∃xs,KT H kvs xs/\h.DictOfH (tupleKind (mB P w)) a xs:=by
 obtain⟨z,y,xs,r,o,es,c,h1,h2,b,U,N⟩:=(show iO P w H h a (.dT kvs)from Tv ok e);refine⟨z,y,xs,r,o,es,c,h1,h2,b,U,λx j=>?_,N⟩;have all:∀{l:aq (aq Key×V)} {m:aq (aq Key×az×av)},KT H l m->∀x∈m,(tupleKind (mB P w)).is h x.1 x.2.1:=by
  intro l m q
  induction q with
  |nil=>intro x j;exact nomatch j
  | @cons p q f d B t ih =>
   intro x j
   rcases dY.mp j with e|j
   ·subst e;exact US ok (by rw[<-B.1];exact B.2.1)
   ·exact ih x j
 exact all r x j
theorem aB6{kvs:aq (aq Key×V)}(ok:fR P w H h)(e:H a=ao (.dT kvs)):kvs.length<=bf/\(a==ea)=ax /\
  ∃xs,KT H kvs xs/\h.DictOfH (tupleKind (mB P w)) a xs:=OY ok (.inl e)
end
def zX(H:Hp)(a:az)(y:V)(r:aw V):Prop :=
 (∃kvs k,Rd H a (.dK kvs)/\y=kV k/\r=nL kvs k)\/∃kvs k b,Rd H a (.dT kvs)/\y=.ref b/\H b=ao (.tup (k.map kV))/\r=nL kvs k
def RM(H:Hp)(a:az)(y v:V)(H':Hp):Prop :=
 (∃kvs k,H a=ao (.dK kvs)/\y=kV k/\kvs.length<bf/\H'=upd H a (.dK (putK kvs k v))) \/
 ∃kvs k b,H a=ao (.dT kvs)/\y=.ref b/\H b=ao (.tup (k.map kV))/\kvs.length<bf/\H'=upd H a (.dT (putK kvs k v))
theorem zX.k{H:Hp}{a:az}{kvs:aq (Key×V)}{k:Key}(e:H a=ao (.dK kvs)):zX H a (kV k) (nL kvs k):=.inl ⟨kvs,k,.inl e,rfl,rfl⟩
theorem RM.k{H:Hp}{a:az}{kvs:aq (Key×V)}{k:Key}{v:V}(e:H a=ao (.dK kvs))(hl:kvs.length<bf):RM H a (kV k) v (upd H a (.dK (putK kvs k v))):=.inl ⟨kvs,k,e,rfl,hl,rfl⟩
section
variable{X:Cx}{aa:aq (az×c6)}{J:St}{H:Hp}{s:ay}{a:az}{y v:V}{u r:av}{o:aw V}{A:bu}{E:av->ay->Prop}
theorem Inv.big(I:Inv X aa J H s):ea<s.heap.objs.size:=by
 have h:a7<s.heap.objs.size:=(I.mod.glob.keeps I.bk).lt;exact Nat.lt_trans (by decide) h
theorem aC2{Q:av->ay->Prop}(m:A.units+1<cLine)(I:Inv X aa J H s)(g:zX H a y (ao v))(d:RelV y u)(h:∀j s',Inv X aa J H s'->RelV v j->Q j s') :
  wpAny (bq X.prog X.w) A (getItem (.ref a) u) Q E s:=by
 rcases g with⟨B,k,e,U,l⟩|⟨B,k,b,e,U,r,l⟩
 ·subst U;obtain⟨z,hd,i,rel,c⟩:=PC I.aK e;obtain⟨j,N,q⟩:=oA.some_of (v:=v) (o:=valueAt i k) (by rw[l];exact rel.val k);exact wpAny_getItem_of (UU d) c.mapOf N (h j _ (I.tok _) q)
 ·subst U;cases(show u=Value.ref b from d);obtain⟨z,hd,f,rel,c⟩:=OY I.aK e;obtain⟨j,N,q⟩:=oA.some_of (v:=v) (o:=(atKey f k).map (·.2)) (by rw[l];exact rel.val k);obtain⟨p,n,t⟩:=BQ.mp N;refine wpAny_getItem_heap (tupleKind_room_in1 m) (US I.aK r) c n ?_;rw[t];exact h j _ (I.tok _) q
theorem abO{h':bz}{t':a6}{ob:HO}(I:Inv X aa J H s)(j:QQ (H a))(B:Heap.SameBut a s.heap h')(he:∃q,h'.get? a=ao q)(new:iO X.prog X.w (upd H a ob) h' a ob) :
  Inv X aa J (upd H a ob) {s with heap:=h',toks:=t' } :=
 I.write (x:=a) (e:=a) j (.inl rfl) (λb q hb z=>(B.2 b hb).trans z) he new
theorem aB9{P:bh}{w:bw}{H':Hp}{h':bz}{kvs:aq (Key×V)}{vs:aq (Key×av)}(z:kvs.length<=bf)(hd:(a==ea)=ax)(rel:KV kvs vs)(dd:h'.DictOf (mB P w) a vs) :
  iO P w H' h' a (.dK kvs):=⟨z,hd,vs,rel,dd⟩
theorem aCT{H':Hp}{Q:Unit->ay->Prop}(D:A.units+1<cLine)(I:Inv X aa J H s)(g:RM H a y v H')(n:RelV y u)(o:RelV v r)(h:∀s',Inv X aa J H' s'->Q () s') :
  wpAny (bq X.prog X.w) A (setItem (.ref a) u r) Q E s:=by
 rcases g with⟨j,k,e,f,l,i⟩|⟨j,k,b,e,f,t,l,i⟩
 ·subst f i;obtain⟨z,hd,C,rel,m⟩:=Jw I.aK e;have U:C.length<=bf:=by rw[<-rel.length];exact z
  have hl:(putK j k v).length<=bf:=by have:=Wt j k v;omega
  refine wpAny_setItem_pairs (hsz:=U) (UU n) m λh' N d=>h _ ?_;have he:∃q,h'.get? a=ao q:=let ⟨q,_,_,B,_⟩:=N; ⟨q,B⟩;exact abO I (by rw[e];exact True.intro) d he (aB9 hl hd (rel.put k o) N)
 ·subst f i;cases(show u=Value.ref b from n);obtain⟨z,hd,x,rel,m⟩:=aB6 I.aK e;have U:x.length<=bf:=by rw[<-Paired.length rel];exact z
  have hl:(putK j k v).length<=bf:=by have:=Wt j k v;omega
  refine wpAny_setItem_heap (hsz:=U) (tupleKind_room_in1 D) (US I.aK t) m λh' N d=>h _ ?_;obtain⟨q,es,L,B,h2,K,G,_,F⟩:=N;refine abO I (by rw[e];exact True.intro) d ⟨q,B⟩ ⟨hl,hd,_,(rel.put k t o).keeps λc M p=>?_,q,es,L,B,h2,K,G,F⟩;rw[bR (ME p e (λz=>nomatch z))];exact p
end
def Me(i:bx):Prop:=∀j q,subscripted i ax j q=operate [j,q] (getItem j q)
theorem ajD{prog:bh}{w:bw}{A:bu}{E:av->ay->Prop}{s:ay}{env:Env}{value slice:bx}{pos:dn}{T id:c4}{Q:av->ay->Prop}
  (hl:typeLookup (.type T) "__getitem__" = pure (ao (.builtin id))) (N:Me slice)
  (h:wpAny (bq prog w) A (cj value env) (λo s₁=>wpAny (bq prog w) A (cj slice env) (λi s₂=>s₂.TypeIs o T/\wpAny (bq prog w) A (getItem o i) Q E s₂) E s₁) E s) :
  wpAny (bq prog w) A (cj (.Subscript value slice pos) env) Q E s:=by
 refine Subscript_ (lV h (λo s₁ B=>lV B (λi s₂ j=>?_) λ_ _ x=>x) λ_ _ x=>x);obtain⟨hT,j⟩:=j;unfold subscriptTail;refine aJ ?_;rw[getitemInPython_of_ne hT.not_modules];refine aJ (wpAny_specialOf hT hl ?_);have fin:wpAny (bq prog w) A (subscripted slice ax o i) (λr q=>wpAny (bq prog w) A (letTemporaryGo value o r >>= λ_=>pure r) Q E q) E s₂:=by
  rw[N o i];exact wpAny_operating (lV j (λr q z=>aJ (wpAny_letTemporaryGo (aY z))) λ_ _ x=>x)
 first
  |exact aY (aJ fin)
  |exact aJ (aY (aJ fin))
  |exact aJ fin
theorem aCC{X:Cx}{aa:aq (az×c6)}{J:St}{H:Hp}{s:ay}{a:az}{y:V}{o:aw V}(I:Inv X aa J H s)(g:zX H a y o):s.TypeIs (.ref a) "dict":=by
 rcases g with⟨j,k,e,_,_⟩|⟨j,k,b,e,_,_,_⟩
 ·obtain⟨_,_,B,_,q⟩:=PC I.aK e;exact q.typeIs
 ·obtain⟨_,_,z,_,q⟩:=OY I.aK e;exact q.typeIs
def aiC(td ty:TE):TE:=λJ H Q=>td J H λx H1=>ty J H1 λy H2=>∃a v,x=.ref a/\zX H2 a y (ao v)/\Q v H2
def alI(td ty tv:TE):TS:=λD J H=>tv J H λv H1=>td J H1 λx H2=>ty J H2 λy q=>∃a j,x=.ref a/\RM q a y v j/\D.nx J j
section
variable{X:Cx}{o i e value:bx}{pos pos' ahA:dn}{td ty tv:TE}
theorem aoW(c:X.A.units+1<cLine)(e:PE X o td)(hi:PE X i ty)(d:Me i):PE X (.Subscript o i pos) (aiC td ty):=by
 intro aa s J H Q I h;refine ajD PySem.F.slot_dict_getitem.lookup d (bC (e aa s J H _ I h) λu z ⟨x,m,k,N,b⟩=>bC (hi aa z J m _ k b) λr s2 zz=>?_);obtain⟨y,l,j,B,a,v,ex,g,U⟩:=zz;subst ex;obtain rfl:u=Value.ref a:=N;exact⟨aCC j g,aC2 c j g B λn p f q=>⟨v,l,f,q,U⟩⟩
theorem anD(c:X.A.units+1<cLine)(e:PE X o td)(hi:PE X i ty)(hv:PE X value tv)(d:ej value (ao (.Subscript o i pos')) pos.line X.env=pure ax) :
  PS X (.Assign [.Subscript o i pos'] value pos) (alI td ty tv):=by
 intro aa s J H D I h;refine wpAny_Assign_Subscript (bC (hv aa s J H _ I h) λr j ⟨v,t,m,B,b⟩=>bC (e aa j J t _ m b) λu s2 ⟨x,p,l,z,U⟩=>bC (hi aa s2 J p _ l U) λE C zz=>?_) d;obtain⟨y,F,k,q,a,n,ex,g,N⟩:=zz;subst ex;obtain rfl:u=Value.ref a:=z;exact aCT c k g q B λw f=>⟨J,n,f,N⟩
end
theorem aCA{P:bh}{w:bw}{H:Hp}(h:bz)(hb:ea<h.objs.size):iO P w H (h.push {cls:=.type "dict",data:=.dict #[]}) h.objs.size (.dK []) :=
 ⟨BR _,xS.mpr (cX (fW hb)),[],.nil,Heap.DictOf.new h⟩
def aiA:TE:=λ_ H Q=>∀p,H p=au->Q (.ref p) (upd H p (.dK []))
section
variable{X:Cx}{pos:dn}
theorem aoU:PE X (.Dict [] [] pos) aiA:=λaa s J H Q I h =>
 wpAny_Dict_empty ⟨.ref s.heap.objs.size,_,I.laid (a:=s.heap.objs.size) (o:=.dK []) (t':=s.toks) (λ_ _ q=>dI _ q) cJ (aCA s.heap I.big),rfl,h _ (I.aK.fresh cJ)⟩
end
structure M2(X:Cx)(o:bx)(m:ba)(ag:dn)(e f:bx)(kB:dn):Prop where
 base:dw o m X.env (cj o X.env)=cj o X.env
 tF:((cz kB (bg [e,f] X.env)).all (λx=>!x.1)&&(backToKw kB (fm [] X.env)).all (λx=>x.1.isSome)
  && decide (([e,f]:aq bx).length+([]:aq Keyword).length+(if([]:aq Keyword).isEmpty then 0 else 1)<30))=a5
 line:(ag.endLine==kB.line)=a5
 trees:cz kB (bg [e,f] X.env)=[(ax,cj e X.env),(ax,cj f X.env)]
def IsD(H:Hp)(a:az):Prop:=(∃kvs,Rd H a (.dK kvs))\/∃kvs,Rd H a (.dT kvs)
theorem Xe{X:Cx}{aa:aq (az×c6)}{J:St}{H:Hp}{s:ay}{a:az}(I:Inv X aa J H s)(d:IsD H a) :
  s.TypeIs (.ref a) "dict"/\(∀b,Value.ref a=.ref b->∃ob,s.heap.get? b=ao ob/\ob.dict=au)/\(a==ea)=ax:=by
 rcases d with⟨z,e⟩|⟨z,e⟩
 ·obtain⟨_,hd,N,_,j⟩:=PC I.aK e;refine⟨j.typeIs,λb q=>?_,hd⟩;cases q;obtain⟨ob,_,_,h1,h2,_⟩:=j;exact⟨ob,h1,h2.2.1⟩
 ·obtain⟨_,hd,B,_,j⟩:=OY I.aK e;refine⟨j.typeIs,λb q=>?_,hd⟩;cases q;obtain⟨ob,_,_,h1,h2,_⟩:=j;exact⟨ob,h1,h2.2.1⟩
section
variable{X:Cx}{aa:aq (az×c6)}{J:St}{H:Hp}{s:ay}{a:az}{y d:V}{u r:av}{o:aw V}{A:bu}{E:av->ay->Prop}
theorem aC3{Q:av->ay->Prop}(i:A.units+1<cLine)(I:Inv X aa J H s)(g:zX H a y o)(U:RelV y u)(c:RelV d r)(h:∀N s',Inv X aa J H s'->RelV (o.getD d) N->Q N s') :
  wpAny (bq X.prog X.w) A (call (.builtin "dict.get") [.ref a,u,r]) Q E s:=by
 rcases g with⟨q,k,e,B,l⟩|⟨q,k,b,e,B,m,l⟩
 ·subst B;obtain⟨z,hd,n,rel,j⟩:=PC I.aK e;refine call_meetsIn PySem.F.slot_dict_get j.typeIs PySem.F.entry_dict_get (PySem.F.args_dict_get_3 _ _ _) (meets_dict_get_default (mB X.prog X.w) a (UU U) hd r) ⟨_,j.mapOf,h _ _ (I.tok _) ?_⟩;rw[l];exact(rel.val k).getD c
 ·subst B;cases(show u=Value.ref b from U);obtain⟨z,hd,f,rel,j⟩:=OY I.aK e;refine call_meetsIn PySem.F.slot_dict_get j.typeIs PySem.F.entry_dict_get (PySem.F.args_dict_get_3 _ _ _) (meetsH_dict_get_default (tupleKind (mB X.prog X.w)) a b hd r) ⟨tupleKind_room_in1 i,k,f,US I.aK m,j,h _ _ (I.tok _) ?_⟩;rw[l];exact(rel.val k).getD c
end
def aiB(td ty tx:TE):TE:=λJ H Q=>td J H λx H1=>∃a,x=.ref a/\IsD H1 a/\ty J H1 λy H2=>tx J H2 λz j=>∃o,zX j a y o/\Q (o.getD z) j
section
variable{X:Cx}{o e f:bx}{ag kB:dn}{td ty tx:TE}
theorem aoV(p:X.A.units+1<cLine)(r:PE X o td)(he:PE X e ty)(t:PE X f tx)(m:M2 X o "get" ag e f kB):PE X (.Call (.Attribute o "get" ag) [e,f] [] kB) (aiB td ty tx):=by
 intro aa s J H Q I h;refine wpAny_Call_method m.base m.tF m.line PySem.F.plainAttrs_dict PySem.F.slot_dict_get PySem.F.type_dict_get (bC (r aa s J H _ I h) λu U zz=>?_);obtain⟨x,G,j,i,a,ex,d,n⟩:=zz;subst ex;obtain rfl:u=Value.ref a:=i;obtain⟨B,q,_⟩:=Xe j d;refine⟨B,q,?_⟩;rw[m.trees];refine ad3 rfl (ad2 (Oa (bC (he aa U J G _ j n) λR s2 ⟨y,E,C,c,l⟩ =>
  Oa (bC (t aa s2 J E _ C l) λS M ⟨z,D,w,b,P,g,k⟩=>Calls.spliced_nil ?_))))
 exact aC3 p w g c b λK L v N=>⟨_,D,v,N,k⟩
end
end L2
namespace Att
open PySem PySem.W PySem.Calls PyProof.Rows
theorem avD{P:Params}{h:bz}:∀(ns:aq a4) (vs:aq av),WellAll P h vs (ns.map WData.int)->de vs ns:=by
 intro ns
 induction ns with
 |nil =>
  intro vs w;rw[FP]at w;cases w;exact .nil
 |cons n ns ih =>
  intro vs w;rw[dE]at w;cases w with
  |cons a b =>
   cases a;exact .cons _ _ (ih _ b)
theorem akL{l:OpenLaw}{n:a6}(hn:l.most=ao n){P:Params}{h:bz}{args:aq WData}{vals:aq av}
  (U:l.row.toRowW.claim.pre args=a5) (f:WellAll P h vals args) :
  ∃a vs ns,vals=[Value.ref a]/\args=[WData.list (ns.map WData.int)]/\h.get? a=ao {cls:=.type "list",data:=.seq vs.toArray}/\de vs ns/\ns.length<=n:=by
 have B:WShape.hasAll [] args [.list .int]=a5:=(pre_splitW U).1;have N:l.pre.holds [] {args:=args}=a5:=(pre_splitW U).2;obtain⟨d,r,rfl,h1,h2⟩:=hasAllW_cons B;obtain rfl:=hasAllW_nil h2;obtain⟨g,rfl,e⟩:=hasW_list h1;obtain⟨ns,rfl⟩:=items_int e;have hlen:ns.length<=n:=by
  unfold OpenLaw.pre at N;have z:(WTm.not (.lt (.lit (.int (n:a4))) (.len (.arg 0)))).holds [] {args:=[.list (ns.map .int)]}=a5:=by
   have z:=(holds_andW N).1;rw[hn]at z;exact z
  have j:=condW_of z (w_not (w_lt w_lit (w_len_list (w_arg rfl))));rw[jG]at j;refine Mf λq=>?_;have b:(n:a4)<((ns.length:a6):a4):=by omega
  first
   |(rw[vT b]at j;exact b7 j (by decide))
   |(simp at j;omega)
 cases f with
 |cons w1 w2 =>
  cases w2;cases w1 with
  |list c hall=>exact⟨_,_,ns,rfl,rfl,c,avD ns _ hall,hlen⟩
theorem anK(l:OpenLaw)(args:aq WData):l.row.toRowW.claim.post args (.bool a5) args=a5 :=
 postW_of (r:=l.row.toRowW) (X:=(a5==a5))
  (show WShape.has [] (.bool a5) .bool=a5 by first|rfl|decide|simp[WShape.has,WShape.arms,WShape.armsAll])
  (show(WTm.eq .res (.lit (.bool a5))).value [] {args:=args,res:=ao (.bool a5),after:=args}=ao (.bool (a5==a5))from w_eq_bool (w_res rfl) w_lit) rfl
theorem aF9{l:OpenLaw}{n:a6}{q:bh}{loose:aq ba}{XP:(ba->aw av)->bz->Prop}{YP:bw->bz->Prop}{d:DefRec}
  (hn:l.most=ao n) (p:d.params.defaults=[])
  (call:∀(w:bw) (s₀ s₁:ay) (mg mb:ba->aw av) (fa:az) (o:c6) (z j doc:av) (a:az) (vs:aq av) (ns:aq a4),
   Ground q loose [] XP w s₀ mg mb s₁.heap->YP w s₁.heap ->
   s₁.heap.get? fa=ao o->o.data=.func (docDef d.name d.params d.body d.scope z j doc)->s₁.heap.CodeRec j d.name->mg d.name=ao (.ref fa) ->
   s₁.heap.get? a=ao {cls:=.type "list",data:=.seq vs.toArray}->de vs ns->ns.length<=n->s₁.gens=#[] ->
   codeAny (bq l.prog w) callerA (.call (.ref fa) ⟨[.ref a],[]⟩) (λr s'=>r=.ok (.ret (.bool a5))/\OldK s₁.heap s'.heap/\s'.os=s₁.os/\AllBare s'.gens) s₁) :
  WalkO q loose XP YP l.row.toRowW d [] (λf vs=>PySem.call f vs):=by
 intro w s₀ s₁ mg mb G ρ fa o z j doc i kV b hd h B s c args vals x m k N t v;obtain rfl:i=.none:=Dflts.none B p;obtain rfl:kV=.none:=Dflts.noKw B;obtain⟨a,vs,ns,rfl,rfl,u,hints,hlen⟩:=akL hn m t;refine enter_call (uJ (call w s₀ s₁ mg mb fa o z j doc a vs ns G ρ b (fd_plain hd) h s u hints hlen c) λr s' U=>?_);obtain⟨rfl,h2,g,e⟩:=U;exact⟨.inl ⟨.bool a5,.bool a5,[],rfl,λ_=>rfl,.bool a5,anK l _,λ_=>⟨List.Pairwise.nil,λ_ hm=>(nomatch hm)⟩⟩,h2,g,e⟩
section
variable{prog:bh}{w:bw}{A:bu}{E:av->ay->Prop}{s:ay}{K:bj}
noncomputable def ledger(h:bz)(L d:az):aq (az×c6):=(List.range h.objs.size).filterMap λa=>if a=L\/a=d then au else(h.get? a).map λo=>(a,o)
end
end Att
namespace L2
open PySem PySem.Spec PyProof.Rows
theorem RZ:∀{vs:aq av} {ns:aq a4},de vs ns->Vals (ns.map V.int) vs
 |_,_,.nil => .nil
 |_,_,.cons n t h => .cons ⟨t,rfl⟩ (RZ h)
noncomputable def inClass(s:b8)(j:a6):b8:=match s with
 |.ClassDef _ _ _ body _ _ _ _ _ _ _=>body.getD j (.Pass ⟨0,0,0,0⟩)
 |_ => .Pass ⟨0,0,0,0⟩
noncomputable def jO(s:b8):dj:=match s with
 |.FunctionDef _ a _ _ _ _ _ _ _ _=>a
 |_=>{posonlyargs:=[],args:=[],vararg:=au,kwonlyargs:=[],kw_defaults:=[],kwarg:=au,defaults:=[]}
noncomputable def eL(s:b8):aq b8:=match s with
 |.FunctionDef _ _ b _ _ _ _ _ _ _=>b
 |_=>[]
noncomputable def aZ(s:b8):cn:=match s with
 |.FunctionDef _ _ _ _ _ _ sc _ _ _=>sc
 |_=>{kind:=.function,names:=[],isGenerator:=ax,isCoroutine:=ax}
abbrev yE:oF:=λ_ _ _ _ _ _=>cp
abbrev E0:XK:=λ_ _ _=>cp
theorem Va{X:Cx}:Passes yE X E0:=λ_ _ _ _ _ _ _ h=>h.elim
structure wJ(K:bj)(x qual:ba)(st:b8)(f:az)(fd:c3):Prop where
 ex:∃(oc:av) (od:aw az) (kV doc pm:av) (an:aw az) (aS ct:av) (gY:a8 (aw av)),
  fd=e9 x qual (jO st) (eL st) (aZ st) .none kV doc pm an aS ct/\K.lookup f=ao ⟨oc,od,.func fd,gY⟩/\codeIn K aS qual=a5
 kp:keepIn K (.ref f)=a5
section
variable{P:bh}{w:bw}{K:bj}{mg:ba->aw av}{base:bz}
theorem wJ.binds{x qual:ba}{st:b8}{f:az}{fd:c3}{ps:aq ba}(F:wJ K x qual st f fd)
  (h:∀(kV doc pm:av) (an:aw az) (j ct:av) (us:aq av),us.length=ps.length->dk (e9 x qual (jO st) (eL st) (aZ st) .none kV doc pm an j ct) ⟨us,[]⟩=pure (ps.zip us)):Binds K fd ps []:=by
 obtain⟨z,q,kV,doc,pm,an,j,ct,N,rfl,B,U⟩:=F.ex;exact .all (h kV doc pm an j ct)
theorem WO{x qual:ba}{st:b8}{f:az}{N:av}{B z:aw az}{U:a8 (aw av)}{kV doc q j ct:av}(l:K.lookup f=ao ⟨N,B,.func (e9 x qual (jO st) (eL st) (aZ st) .none kV doc q z j ct),U⟩)
  (c:codeIn K j qual=a5) (k:keepIn K (.ref f)=a5):wJ K x qual st f (e9 x qual (jO st) (eL st) (aZ st) .none kV doc q z j ct):=⟨⟨N,B,kV,doc,q,z,j,ct,U,rfl,l,c⟩,k⟩
end
def oX(H H':Hp):Prop:=∀b o,H b=ao o->H' b=ao o
theorem oX.refl(H:Hp):oX H H:=λ_ _ h=>h
theorem oX.trans{H H1 H2:Hp}(a:oX H H1)(b:oX H1 H2):oX H H2:=λc o h=>b c o (a c o h)
theorem oX.seq{K:bj}{H H':Hp}{a:az}{xs:aq V}(e:oX H H')(h:fO K H a xs):fO K H' a xs:=by
 rcases h with(h|⟨o,h⟩)|h
 ·exact .inl (.inl (e _ _ h))
 ·exact .inl (.inr ⟨o,e _ _ h⟩)
 ·exact .inr h
theorem Kc(env:Env):∀(names:aq (ba×dy)) (cs:aq (ba×az)),(∀y∈names,y.2=.free->∃c,env.cells.lookup y.1=ao c) ->
  ∃cl,(forIn names cs (λ(x:ba×dy) (cs:aq (ba×az))=>(match x with|(name,kind)=>if(kind==NameKind.free)=a5 then(do let c<-cellOf env name;pure (ForInStep.yield ((name,c)::cs)))else pure (ForInStep.yield cs))):Sem (aq (ba×az)))=pure cl /\
   (∀x c,cl.lookup x=ao c->cs.lookup x=ao c\/env.cells.lookup x=ao c)/\(∀y∈names,y.2=.free->∃c,cl.lookup y.1=ao c)/\(∀x c,cs.lookup x=ao c->∃c',cl.lookup x=ao c')
 |[],cs,_=>⟨cs,rfl,λ_ _ h => .inl h,λ_ h=>(nomatch h),λ_ c h=>⟨c,h⟩⟩
 |(n,k)::r,cs,h=>by
  by_cases a:k=.free
  ·subst a;obtain⟨c,b⟩:=h (n,.free) rG rfl;obtain⟨cl,e,h1,h2,B⟩:=Kc env r ((n,c)::cs) λy j=>h y (iP _ j);refine⟨cl,?_,λx d hd=>?_,λy j U=>?_,λx d hd=>?_⟩
   ·rw[List.forIn_cons];simp only[XN,eT,cellOf,b,pure_bind];exact e
   ·rcases h1 x d hd with q|q
    ·rw[KA]at q;split at q
     ·rename_i N;have f:x=n:=by simpa using N
      subst f;exact .inr (b.trans q)
     ·exact .inl q
    ·exact .inr q
   ·rcases dY.mp j with z|z
    ·subst z;exact B n c (by simp)
    ·exact h2 y z U
   ·by_cases N:x=n
    ·subst N;exact B x c (by simp)
    ·have hb:(x==n)=ax:=by simpa using N
     exact B x d (by rw[KA,hb];exact hd)
  ·obtain⟨cl,e,h1,h2,B⟩:=Kc env r cs λy j=>h y (iP _ j);have hb:(k==NameKind.free)=ax:=by simpa using a
   refine⟨cl,?_,h1,λy j U=>?_,B⟩
   ·rw[List.forIn_cons];simp only[hb,jW,gH,pure_bind];exact e
   ·rcases dY.mp j with z|z
    ·subst z;exact b7 U a
    ·exact h2 y z U
theorem abT{scope:cn}{env:Env}(h:∀y∈scope.names,y.2=.free->∃c,env.cells.lookup y.1=ao c) :
  ∃cl,closureFor scope env=pure cl/\(∀x c,cl.lookup x=ao c->env.cells.lookup x=ao c)/\∀y∈scope.names,y.2=.free->∃c,cl.lookup y.1=ao c:=by
 obtain⟨cl,e,h1,h2,_⟩:=Kc env scope.names [] h;refine⟨cl,?_,λx c j=>(h1 x c j).resolve_left (by simp),h2⟩;unfold closureFor;refine Eq.trans (c7 (λm=>m >>= λcs=>pure cs) e) ?_;rfl
section
variable{prog:bh}{w:bw}{A:bu}{R:Result->ay->Prop}{s:ay}
theorem aDW{elt target iter:bx}{ifs:aq bx}{scope:cn}{pos:dn}{it af:av}{env:Env}(I:a6->ay->Prop)
  (turn:∀n s,I n s->wpAny (bq prog w) A (e7 it) (λr s₁=>match r with
   |none=>R (.ok .next) s₁
   | some v=>wpAny (bq prog w) A (letOwnedTupleGo target it v) (λ_ e=>wpAny (bq prog w) A (assign target env v) (λ_ s₂ =>
     wpAny (bq prog w) A (forIn ifs a5 λc r=>if r=a5 then do let ok<-isTrue c env (cj c env);pure (ForInStep.yield ok)else pure (ForInStep.yield r)) (λok j =>
      if ok=a5 then wpAny (bq prog w) A (cj elt env) (λx z =>
       wpAny (bq prog w) A (call (.builtin "list.append") [af,x]) (λ_ q=>∃m,m<n/\I m q) (λ_ _=>cp) z) (λ_ _=>cp) j
      else ∃m,m<n/\I m j) (λ_ _=>cp) s₂) (λ_ _=>cp) e) (λ_ _=>cp) s₁) (λ_ _=>cp) s)
  (n:a6) (h:I n s) :
  codeAny (bq prog w) A (.compLoop (.ListComp elt [⟨target,iter,ifs,0⟩] scope pos) 0 it af env) R s:=by
 refine codeAny_loop rfl I (λn s f=>?_) n h;show wpAny _ A ((compTurn (.ListComp elt [⟨target,iter,ifs,0⟩] scope pos) 0 it af env).onRaise (λx=>do noteFrame x env;theTreesLotGoes x)) _ _ s;refine wpAny_noted ?_;rw[compTurn_list];refine aJ (wpAny_standAt (aJ (lV (turn n s f) (λr s₁ N=>?_) λ_ _ h'=>h'.elim)));cases r with
 |none=>exact aY N
 |some v =>
  refine aJ (lV N (λ_ e U=>?_) λ_ _ h'=>h'.elim);refine aJ (lV U (λ_ s₂ d=>aJ (lV d (λok j B=>?_) λ_ _ h'=>h'.elim)) λ_ _ h'=>h'.elim);cases ok with
  |false=>exact aY ⟨rfl,B⟩
  |true =>
   exact aJ (aJ (lV B (λx z b=>aJ (lV b (λ_ q a=>aY (aY ⟨rfl,a⟩)) λ_ _ h'=>h'.elim)) λ_ _ h'=>h'.elim))
end
def FG(X:Cx)(ifs:aq bx)(t:TT):Prop :=
 ∀(aa:aq (az×c6)) (s:ay) (J:St) (H:Hp) (Q:br->Hp->Prop),Inv X aa J H s->t J H Q ->
  wpAny (bq X.prog X.w) X.A (forIn ifs a5 λc r=>if r=a5 then do let ok<-isTrue c X.env (cj c X.env);pure (ForInStep.yield ok)else pure (ForInStep.yield r)) (TP X aa J Q) X.xe s
def ahP:TT:=λ_ H Q=>Q a5 H
theorem anU{X:Cx}:FG X [] ahP:=λ_ _ _ H _ I h=>wpAny_tests_nil ⟨H,I,h⟩
theorem anT{X:Cx}{c:bx}{t:TT}(h:PT X c t):FG X [c] t:=λaa s J H Q I q=>wpAny_tests_one (h aa s J H Q I q)
noncomputable def iJ(X:Cx)(scope:cn)(q:aq ba)(js:aq a6)(cl:aq (ba×az))(C:az)(s:ay)(H:Hp)(fp:aq az):Cx :=
 {X with N:=q++js.map (λj=>X.N.getD j Str.empty),s₀:=s,H₀:=H,env:=compEnvC scope cl C X.env,outer:=X.stack,ex:=fp,fn:=λ_=>ax,xe:=λ_ _=>cp}
noncomputable def AU(q:aq ba)(js:aq a6)(J:St):St:=q.map (λ_=>au)++js.map (λj=>(J[j]?).join)
noncomputable def gk(env:Env)(n:ba)(k:dy):dy:=if(k==NameKind.free&&env.scope.kind == .function&&env.kindOf n==ao .cell)=a5 then .cell else k
theorem Tt(env:Env)(names:aq (ba×dy)):(names.map λ(n,k)=>if(k==NameKind.free&&env.scope.kind == .function&&env.kindOf n==ao .cell)then(n,NameKind.cell)else(n,k))=names.map λp=>(p.1,gk env p.1 p.2):=by
 refine QU λp _=>?_;obtain⟨n,k⟩:=p;show(if(k==NameKind.free&&env.scope.kind == .function&&env.kindOf n==ao .cell)=a5 then(n,NameKind.cell)else(n,k))=(n,gk env n k);unfold gk;split <;> rfl
theorem Ew(env:Env)(x:ba):∀names:aq (ba×dy),(names.map λp=>(p.1,gk env p.1 p.2)).lookup x=(names.lookup x).map (gk env x)
 |[]=>rfl
 |(n,k)::r=>by
  rw[dE];cases j:x==n with
  |true =>
   have e:x=n:=by simpa using j
   subst e;rw[KA,KA];simp
  |false =>
   rw[KA,KA];simp only[j];exact Ew env x r
theorem lookup_mem{x:ba}{k:dy}:∀{names:aq (ba×dy)},names.lookup x=ao k->(x,k)∈names
 |[],h=>by simp at h
 |(n,q)::r,h=>by
  rw[KA]at h;cases j:x==n with
  |true =>
   have e:x=n:=by simpa using j
   subst e;simp only[XN]at h;cases h;exact List.mem_cons_self ..
  |false =>
   simp only[j]at h;exact iP _ (lookup_mem h)
theorem Ex{env:Env}{names:aq (ba×dy)}{x:ba}(h:names.lookup x=ao .free) :
  (names.map λ(n,k)=>if(k==NameKind.free&&env.scope.kind == .function&&env.kindOf n==ao .cell)then(n,NameKind.cell)else(n,k)).lookup x=ao .cell \/
  (names.map λ(n,k)=>if(k==NameKind.free&&env.scope.kind == .function&&env.kindOf n==ao .cell)then(n,NameKind.cell)else(n,k)).lookup x=ao .free:=by
 rw[Tt,Ew,h];show ao (gk env x .free)=ao .cell\/ao (gk env x .free)=ao .free;unfold gk;split
 ·exact .inl rfl
 ·exact .inr rfl
theorem Dh{env:Env}{names:aq (ba×dy)}{x:ba}(B:∀y∈names,y.2≠.cell)
  (h:(names.map λ(n,k)=>if(k==NameKind.free&&env.scope.kind == .function&&env.kindOf n==ao .cell)then(n,NameKind.cell)else(n,k)).lookup x=ao .cell \/
   (names.map λ(n,k)=>if(k==NameKind.free&&env.scope.kind == .function&&env.kindOf n==ao .cell)then(n,NameKind.cell)else(n,k)).lookup x=ao .free):(x,NameKind.free)∈names:=by
 rw[Tt,Ew]at h;cases e:names.lookup x with
 |none=>rw[e]at h;rcases h with h|h <;> cases h
 |some k =>
  have hm:=lookup_mem e
  by_cases j:k=.free
  ·rw[j]at hm;exact hm
  ·rw[e]at h;have q:gk env x k=k:=by
    unfold gk;have hb:(k==NameKind.free)=ax:=by simpa using j
    rw[hb];rfl
   have h':gk env x k=.cell\/gk env x k=.free:=h.imp (λz=>kJ z) λz=>kJ z;rw[q]at h'
   rcases h' with z|z
   ·exact b7 z (B _ hm)
   ·exact b7 z j
structure wI(X:Cx)(scope:cn)(ls:aq ba)(js:aq a6):Prop where
 kind:scope.kind=.function
 cell:∀y∈scope.names,y.2≠.cell
 names:∀y∈scope.names,y.2=.local->scope.names.lookup y.1=ao .local
 free:∀y∈scope.names,y.2=.free->X.env.kindOf y.1=ao .cell\/X.env.kindOf y.1=ao .free
 XJ:∀j∈js,∃x,X.N[j]?=ao x/\scope.names.lookup x=ao .free
section
variable{X:Cx}{aa:aq (az×c6)}{J:St}{H:Hp}{s:ay}
theorem asO{scope:cn}{j:aq ba}{js:aq a6}{cl:aq (ba×az)}{C:az}{fp:aq az}(L:wI X scope j js)(I:Inv X aa J H s)
  (h1:∀x c,cl.lookup x=ao c->X.env.cells.lookup x=ao c) (h2:∀y∈scope.names,y.2=.free->∃c,cl.lookup y.1=ao c)
  {s':ay} {H':Hp} (B:s'.heap.objs.size<=C) (bs:∀b o,X.base.get? b=ao o->s'.heap.get? b=ao o/\H' b=au) (rO:X.base.objs.size<=s'.heap.objs.size)
  (oS:s'.heap.FunFrames X.base X.stack) (uI:∀b∈jE X.stack,H' b=au)
  (EM:∀b∈fp,b≠C/\∀x c,X.env.cells.lookup x=ao c->c≠b) (yS:∀b o,X.base.get? b=ao o->b∉fp) (BF:∀b∈fp,b∉jE X.stack) :
  (iJ X scope j js cl C s' H' fp).Ok where
 mod:=I.ok.mod
 kind:=L.kind
 glob:=I.ok.glob
 blt:=I.ok.blt
 above:=B
 inj:=λx y c a b=>I.ok.inj x y c (h1 x c a) (h1 y c b)
 has:=λx q=>h2 (x,.free) (Dh (env:=X.env) L.cell q) rfl
 ES:=λx c z=>by cases z
 hd:=I.ok.hd
 frames:=I.ok.frames
 tT:=.inl rfl
 EM:=λb hb=>⟨(EM b hb).1,λx c e=>(EM b hb).2 x c (h1 x c e)⟩
 bs:=bs
 rO:=rO
 yS:=yS
 BF:=BF
 oS:=oS
 uI:=uI
theorem asL{z:aq ba}{js:aq a6}{i:a6}{v:V}(h:(AU z js J)[i]?=ao (ao v)):∃k j,i=z.length+k/\js[k]?=ao j/\J[j]?=ao (ao v):=by
 unfold AU at h
 by_cases hi:i<z.length
 ·rw[iD (by simpa using hi),jH]at h;cases e:z[i]? with
  |none=>rw[e]at h;cases h
  |some y=>rw[e]at h;cases h
 ·rw[pY (by simpa using Mf hi),jH,jG]at h;cases e:js[i-z.length]? with
  |none=>rw[e]at h;cases h
  |some j =>
   rw[e]at h;refine⟨i-z.length,j,by omega,e,?_⟩;have h':(J[j]?).join=ao v:=kJ h;cases q:J[j]? with
   |none=>rw[q]at h';cases h'
   |some o =>
    rw[q]at h';exact c7 ao h'
def LcR(b:aq ba)(js:aq a6)(g:TG)(tc:TT)(te:TE)(J:St)(Q:VK)(σ:It)(H1:Hp):Prop:=∀D,H1 D=au ->
 ∃W:a6->a6->St->Hp->Prop,(∃m,W 0 m (AU b js J) (upd H1 D (.lst [])))/\∀i m z H',W i m z H' ->
  (σ.stop i H'/\Q (.ref D) H')\/(σ.go i H'/\∃N:St->Hp->Prop,(∀q H2,N q H2->∃B,B<m/\W (i+1) B q H2) /\
   ∀x H2,σ.CP i H' x H2->g x z H2 λj d=>tc j d λc a=>if c=a5 then te j a λy U=>∃ys,U D=ao (.lst ys)/\ys.length<bf/\N j (upd U D (.lst (ys++[y])))else N j a)
def SR(j:aq ba)(js:aq a6)(wi:TI)(g:TG)(tc:TT)(te:TE):TE:=λJ H Q=>wi J H (LcR j js g tc te J Q)
theorem Wz{elt tg iter:bx}{ifs:aq bx}{scope:cn}{pos anJ:dn}{f:aq ba}{js:aq a6}{wi:TI}{g:TG}{tc:TT}{te:TE}{use:aw (av->Sem Unit)}{R:av->ay->Prop}{Q:V->Hp->Prop}(hc:X.calm=a5)(L:wI X scope f js)(hi:PI X tg iter wi)
  (hb:∀cl C s H fp,PG (iJ X scope f js cl C s H fp) tg g/\FG (iJ X scope f js cl C s H fp) ifs tc/\PE (iJ X scope f js cl C s H fp) elt te)
  (hs:∀x,cw iter X.env x=pure x) (I:Inv X aa J H s) (h:SR f js wi g tc te J H Q)
  (fin:∀d C M P m,Inv X aa J M P->rX X aa M C->P.heap.Ns C m->Q (.ref d) M->compPost (bq X.prog X.w) X.A X.xe use R (.ref d) C (.ok .next) P) :
  wpAny (bq X.prog X.w) X.A (comprehension (.ListComp elt [⟨tg,iter,ifs,0⟩] scope pos) scope X.env anJ (newList []) ax (cj iter X.env) use) R X.xe s:=by
 obtain⟨cl,gC,gJ,nW⟩:=abT (scope:=scope) (env:=X.env) λy S hf=>I.ok.has y.1 (L.free y S hf);refine wpAny_comprehension_free rfl hs gC L.kind L.names (bC (hi aa s J H _ I h) λv s1 h1=>bC h1 λFt s2 h2=>?_);obtain⟨it,fp,tn,σ,a,e,I2,T,iE,f2,h2⟩:=h2;subst e;refine qC (wpAny_newFunctionEnv L.cell (by intro y S;simp at S) (λU Gr Ge=>?_) L.kind);dsimp only at Gr Ge ⊢;generalize Io:s2.heap.push {cls:=.type "list",dict:=au,data:=.seq ([]:aq av).toArray}=B at Gr Ge ⊢;have hCz:B.objs.size=s2.heap.objs.size+1:=by rw[<-Io,KL]
 have hD0:a s2.heap.objs.size=au:=I2.aK.fresh cJ;have Ir:a B.objs.size=au:=I2.aK.fresh (by omega);have hDC:s2.heap.objs.size≠B.objs.size:=by omega
 have azR:B.get? s2.heap.objs.size=ao {cls:=.type "list",dict:=au,data:=.seq ([]:aq av).toArray}:=by rw[<-Io];exact gU _ rfl
 have Fp:∀b o,s2.heap.get? b=ao o->B.get? b=ao o:=λb o e=>by rw[<-Io];exact dI _ e
 have t:Inv X aa J (upd a s2.heap.objs.size (.lst [])) {s2 with heap:=B,toks:=s2.toks} :=
  I2.laid (t':=s2.toks) Fp cJ (show iO X.prog X.w _ B _ (.lst [])from⟨by simp,[],0,.nil,azR⟩)
 have Fq:∀b o,B.get? b=ao o->U.get? b=ao o:=λb o e=>(Ge.2 b (fW (dQ e))).trans (dI _ e);have I4:Inv X aa J (upd a s2.heap.objs.size (.lst [])) {s2 with heap:=U,toks:=s2.toks+0}:=t.kept (h':=U) (t':=s2.toks+0) Fq;generalize hT:(a,(⟨tg,iter,ifs,0⟩:Comprehension))=auU;clear hT auU;have Ji:∀b∈fp,b<s2.heap.objs.size:=λb hb=>by
  obtain⟨o,e,_⟩:=T.obj 0 _ iE b hb;exact dQ e
 have fpD:s2.heap.objs.size∉fp:=λz=>Nat.lt_irrefl _ (Ji _ z);have fpC:∀b∈fp,b≠B.objs.size:=λb hb=>fW (by rw[hCz];exact YQ (Ji b hb));have okC:(iJ X scope f js cl B.objs.size {s2 with heap:=B} (upd a s2.heap.objs.size (.lst [])) fp).Ok:=by
  refine asO L t gJ nW cJ t.bs (rT t.ok.rO t.sz) t.stack t.Bm (λb hb=>⟨fpC b hb,(f2 b hb).2.2.2.2.1⟩) (λb o e hb=>?_) (λb hb z=>?_)
  ·rcases(f2 b hb).2.2.2.1 with q|q
   ·exact I2.ok.yS b o e q
   ·exact b7 (lH (dQ (I2.ok.bs b o e).1) q) (Nat.lt_irrefl _)
  ·rcases dY.mp (t.LQ b z)with q|q
   ·exact(f2 b hb).2.1 q
   ·exact(f2 b hb).2.2.1 q
 have IC:Inv (iJ X scope f js cl B.objs.size {s2 with heap:=B} (upd a s2.heap.objs.size (.lst [])) fp) [] (AU f js J) (upd a s2.heap.objs.size (.lst [])) {s2 with heap:=U,toks:=s2.toks+0}:=by
  refine⟨okC,rfl,I4.bare,Un.kept Fq,⟨_,Gr,λi x v e1 e2 e3=>?_⟩,λx c e=>I4.cell x c (gJ x c e),?_,λx c e=>I4.lQ x c (gJ x c e),λp hp=>?_,I4.aK,?_⟩
  ·obtain⟨k,j,mD,hj,hσ⟩:=asL e2;obtain⟨y,S,Fx⟩:=L.XJ j (mJ hj);have hxy:x=y:=by
    have xP:(f++js.map (λj=>X.N.getD j Str.empty))[i]?=ao x:=e1;rw[mD,pY (Nat.le_add_right ..),Nat.add_sub_cancel_left,jH,hj]at xP;have Jt:X.N.getD j Str.empty=x:=kJ xP;rw[<-Jt,List.getD_eq_getElem?_getD,S];rfl
   subst hxy;have Yv:X.env.kindOf x=ao .cell\/X.env.kindOf x=ao .free:=by
    have hm:(x,NameKind.free)∈scope.names:=by
     have q:=Dh (env:=X.env) L.cell (Ex (env:=X.env) Fx);exact q
    exact L.free _ hm rfl
   obtain⟨m,hn,hl⟩:=I4.loc;obtain⟨u,r,l⟩:=hl j x v S hσ (Yv.elim (λz => .inr (.inl z)) λz => .inr (.inr z));refine⟨u,r,.inr ⟨Ex (env:=X.env) Fx,?_⟩⟩
   rcases l with⟨kl,_⟩|⟨_,c,xI,z⟩
   ·rcases Yv with q|q
    ·rw[q]at kl;cases kl
    ·rw[q]at kl;cases kl
   ·have hm:(x,NameKind.free)∈scope.names:=Dh (env:=X.env) L.cell (Ex (env:=X.env) Fx);obtain⟨c',Zo⟩:=nW _ hm rfl;have:=gJ _ _ Zo;rw[xI]at this;cases this;exact⟨c,Zo,z⟩
  ·show upd a s2.heap.objs.size (.lst []) B.objs.size=au;rw[bR (cX hDC)];exact Ir
  ·have II:p∈X.pn:=by simpa[iJ]using hp
   obtain⟨e,n,ne,nf,d⟩:=I4.pin p (oB _ II);obtain⟨e3,_⟩:=t.pin p (oB _ II);refine⟨e,n,?_,λz=>?_,d⟩
   ·exact fW (dQ e3)
   ·rcases dY.mp (t.LQ p.1 z)with q|q
    ·exact ne q
    ·exact nf q
  ·simp[AU,iJ]
 obtain⟨Hy,hbI,hbE⟩:=hb cl B.objs.size {s2 with heap:=B} (upd a s2.heap.objs.size (.lst [])) fp;obtain⟨W,⟨m0,w0⟩,turn⟩:=h2 s2.heap.objs.size hD0;have Si:tn 0 U:=T.keep _ _ _ iE λb hb o e=>Fq b o (Fp b o e);have eI:∀{G:Hp},(∀b∈fp,G b=au)->∀b∈fp,rX (iJ X scope f js cl B.objs.size {s2 with heap:=B} (upd a s2.heap.objs.size (.lst [])) fp) [] G b:=λhn b hb=>by
  refine⟨hn b hb,fpC b hb,λz=>?_,.inl hb,λx c e=>(f2 b hb).2.2.2.2.1 x c (gJ x c e),λp hp=>?_⟩
  ·rcases dY.mp (t.LQ b z)with q|q
   ·exact(f2 b hb).2.1 q
   ·exact(f2 b hb).2.2.1 q
  ·have II:p∈X.pn:=by simpa[iJ]using hp
   exact(f2 b hb).2.2.2.2.2 p (oB _ II)
 have fr0:∀b∈fp,(upd a s2.heap.objs.size (.lst [])) b=au:=λb hb=>by
  rw[bR (show b≠s2.heap.objs.size from fW (Ji b hb))];exact(f2 b hb).1
 have loop:∀s4:ay,s4={s2 with heap:=U,toks:=s2.toks+0} ->
   codeAny (bq X.prog X.w) X.A (.compLoop (.ListComp elt [⟨tg,iter,ifs,0⟩] scope pos) 0 (.ref it) (.ref s2.heap.objs.size) (compEnvC scope cl B.objs.size X.env))
    (compPost (bq X.prog X.w) X.A X.xe use R (.ref s2.heap.objs.size) B.objs.size) s4:=by
  rintro s4 rfl;refine aDW (λn s'=>∃i E G,Inv (iJ X scope f js cl B.objs.size {s2 with heap:=B} (upd a s2.heap.objs.size (.lst [])) fp) [] E G s'/\tn i s'.heap/\(∀b∈fp,G b=au)/\W i n E G) ?_ m0 ⟨0,_,_,IC,Si,fr0,w0⟩;rintro n s5 ⟨i,K,M,I5,DA,WQ,w5⟩
  rcases turn i n K M w5 with⟨stop,qn⟩|⟨go,N,hN,step⟩
  ·refine bC (T.done (iJ X scope f js cl B.objs.size {s2 with heap:=B} (upd a s2.heap.objs.size (.lst [])) fp) rfl rfl rfl hc i [] s5 K M _ I5 (eI WQ) DA stop) λr P ⟨hr,I6⟩=>?_;subst hr;obtain⟨m6,Gu,_⟩:=I6.loc;have un1:Un (jE X.stack) fp (upd a s2.heap.objs.size (.lst [])) M B P.heap:=I6.base;have un:=(Un.laid Fp cJ hD0).trans un1;exact fin _ _ _ _ _ (I2.PQ (s':=P) (ch:=fp) I6.os un I6.aK I6.bare λb hb=>⟨(f2 b hb).2.2.2.1,(f2 b hb).2.1,(f2 b hb).2.2.2.2.1,(f2 b hb).2.2.2.2.2⟩) (t.xM cJ I6.free) Gu qn
  ·refine bC (T.item (iJ X scope f js cl B.objs.size {s2 with heap:=B} (upd a s2.heap.objs.size (.lst [])) fp) rfl rfl rfl hc i [] s5 K M _ I5 (eI WQ) DA go) λr P ⟨u,hr,h6⟩=>?_;subst hr;refine bC h6 λ_ s7 zz=>?_;obtain⟨x,H7,I7,r7,y7,Bo,fr7⟩:=zz;have I7':=I7.pinned (eI fr7) (T.obj _ _ Bo);refine bC (Hy _ s7 K H7 x u _ I7' r7 (step x H7 y7)) λ_ s8 ⟨J8,H8,I8,q8⟩=>?_;refine bC (hbI _ s8 J8 H8 _ I8 q8) λok s9 ⟨H9,I9,q9⟩=>?_;have again:∀{D:St} {Ha:Hp} {sa:ay},Inv (iJ X scope f js cl B.objs.size {s2 with heap:=B} (upd a s2.heap.objs.size (.lst [])) fp) ([]++LY fp s7.heap) D Ha sa->N D Ha ->
     ∃m,m<n/\∃i E G,Inv (iJ X scope f js cl B.objs.size {s2 with heap:=B} (upd a s2.heap.objs.size (.lst [])) fp) [] E G sa/\tn i sa.heap/\(∀b∈fp,G b=au)/\W i m E G:=λ{D Ha sa} Ia na=>by
    obtain⟨m',hm,wa⟩:=hN D Ha na;refine⟨m',hm,i+1,D,Ha,Ia.LK,T.keep _ _ _ Bo λb hb o e=>(Ia.pin (b,o) (kK _ (kK _ (MU hb e)))).1,λb hb=>?_,wa⟩;obtain⟨o,e,d⟩:=T.obj _ _ Bo b hb;exact(Ia.pin (b,o) (kK _ (kK _ (MU hb e)))).2.1
   cases ok with
   |false=>exact again I9 q9
   |true =>
    refine bC (hbE _ s9 J8 H9 _ I9 q9) λy s10 zz=>?_;obtain⟨z,H10,I10,r10,ys,hD,cM,nn⟩:=zz;obtain⟨zz,aW,k,r,hl,e⟩:=I10.MY hD;refine call_meets F.slot_list_append ⟨_,e,rfl⟩ F.entry_list_append (F.args_list_append_2 _ _) (PySem.list_append s2.heap.objs.size aW.toArray k y (by rw[kD];omega)) ⟨e,?_⟩;refine again (I10.Eu (its':=aW++[y]) (t':=s10.toks) hD e ?_ (r.append (.cons r10 .nil)) ?_) nn
    ·simp
    ·simp;omega
 exact codeAny_compStart_list (loop _ rfl) (T.self _ 0 _ _ _ Si (loop _ rfl))
theorem Inv.back{C:az}{h':bz}(I:Inv X aa J H s)(f:rX X aa H C)(j:Heap.SameBut C s.heap h'):Inv X aa J H {s with heap:=h' }:=by
 have ne1:∀b,b∉[C]->b≠C:=λb hb z=>hb (by rw[z];exact YV _);have B:Un (jE X.stack) [C] H H s.heap h':=⟨λb o e n a x=>(j.2 b (ne1 b x)).trans e,λb o e n a x=>⟨o.slots,(j.2 b (ne1 b x)).trans e⟩,λ_ _ _ n _=>n,λb o e x=>⟨o,(j.2 b (ne1 b x)).trans e⟩,λ_ _ q=>q,λ_ _ _ q=>q,λ_ d q=>⟨#[],by rw[q];simp⟩⟩;have U:fR X.prog X.w H h':=λb o e=>by
  refine(I.aK b o e).oJ (λc u N q=>(j.2 c ?_).trans q) (λ_ q=>q) λ_ _ q=>q;rintro rfl
  rcases N with z|z
  ·subst z;rw[f.1]at e;cases e
  ·rw[f.1]at z;cases z
 exact I.PQ (s':={s with heap:=h' }) (ch:=[C]) rfl B U I.bare λb hb=>by
  rw[lT.mp hb];exact⟨f.2.2.2.1,f.2.1,f.2.2.2.2.1,f.2.2.2.2.2⟩
theorem aoO{elt tg iter:bx}{ifs:aq bx}{scope:cn}{pos:dn}{j:aq ba}{js:aq a6}{wi:TI}{g:TG}{tc:TT}{te:TE}(N:X.calm=a5)(L:wI X scope j js)(hi:PI X tg iter wi)
  (hb:∀cl C s H fp,PG (iJ X scope j js cl C s H fp) tg g/\FG (iJ X scope j js cl C s H fp) ifs tc/\PE (iJ X scope j js cl C s H fp) elt te)
  (B:∀x,cw iter X.env x=pure x:=by intro _;rfl):PE X (.ListComp elt [⟨tg,iter,ifs,0⟩] scope pos) (SR j js wi g tc te):=by
 intro aa s J H Q I h;rw[eval_ListComp];exact Wz N L hi hb B I h λd C a b m U f hn q=>⟨m,hn,λh' z=>⟨.ref d,a,U.back f z,rfl,q⟩⟩
end
section
variable{X:Cx}
theorem aER(c:X.calm=a5):tP X (.builtin "sum") (λxs H Q=>∃(a:az) (ns:aq a4),xs=[.ref a]/\fO X.K H a (ns.map V.int)/\Q (.int ns.sum) H):=by
 intro aa s J H xs d Q I r h;obtain⟨a,ns,rfl,U,q⟩:=h;obtain⟨u,rfl,N⟩:=vals1 r;cases N;obtain⟨j,B,pl,f⟩:=I.list U;have hi:de j ns:=intsAre_of B;obtain⟨xs,z⟩:=hi.allInts.items;have hl:s.heap.IsList a (intItems xs):=z ▸ pl.isList;refine sum_intListG (I.ok.hd c) hl λh' tk t' b=>?_;have e:preSum (numAt xs) xs.size=ns.sum:=by
  rw[preSum_eq,JZ (by simp),<-nums_intItems,<-z,show j.toArray.toList=j from rfl,hi.numsOf]
 exact⟨.int ns.sum,H,I.kept (t':=tk) b,⟨t',by rw[e]⟩,q⟩
theorem aEZ:tP X (.builtin "isinstance") (λxs H Q=>∃x n t b,xs=[x,.ty n]/\rQ X.K H x t/\kitOne X.K t (.type n)=ao b/\Q (.bl b) H):=by
 intro aa s J H xs B Q I r h;obtain⟨x,n,t,b,rfl,ty,e,q⟩:=h;obtain⟨u,v,rfl,z,j⟩:=vals2 r;cases j;exact au8 I z ty e λtk=>⟨.bl b,H,I.tok tk,rfl,q⟩
end
inductive Dt where
 |int (i:a4)|bl (b:br)|str (x:ba)|aV|tup (ds:aq Dt)|lst (ds:aq Dt)
def Den(K:bj)(H:Hp):a6->V->Dt->Prop
 |_,v,.int j=>v=.int j
 |_,v,.bl b=>v=.bl b
 |_,v,.str x=>v=.str x
 |_,v,.aV=>v=.aV
 |0,_,.tup _=>cp
 |0,_,.lst _=>cp
 |n+1,v,.tup ds=>∃a xs,v=.ref a/\jP K H a xs/\Paired (Den K H n) xs ds
 |n+1,v,.lst ds=>∃a xs,v=.ref a/\fO K H a xs/\Paired (Den K H n) xs ds
structure HasFn(K:bj)(mg:ba->aw av)(x:ba)(st:b8):Prop where
 ex:∃f fd,mg x=ao (.ref f)/\wJ K x x st f fd
theorem kH{K:bj}{h:bz}{mg:ba->aw av}{x:ba}{st:b8}{f:az}{B:av}{z U:aw az}{N:a8 (aw av)}{kV doc q j ct:av}(X:K.In h)(G:h.Ns a7 mg)
  (a:cx K a7 x=ao (ao (.ref f))) (l:K.lookup f=ao ⟨B,z,.func (e9 x x (jO st) (eL st) (aZ st) .none kV doc q U j ct),N⟩)
  (c:codeIn K j x=a5) (k:keepIn K (.ref f)=a5):HasFn K mg x st:=⟨⟨f,_,mg_of X G a,WO l c k⟩⟩
structure Def(P:bh)(w:bw)(K:bj)(mg:ba->aw av)(base:bz)(x:ba)(k:a6)(ps:aq ba)(sp:Sp):Prop where
 ex:∃f fd,jA P w K mg base yE k f fd ps sp/\mg x=ao (.ref f)/\keepIn K (.ref f)=a5/\Binds K fd ps []
theorem aoY{X:Cx}{k:a6}{x:ba}{ps:aq ba}{sp:Sp}{e:bx}{es:aq bx}{t:TA}{p pos:dn}(D:Def X.prog X.w X.K X.mg X.base x k ps sp)(hr:cK k X.A)(q:Gl X x)(z:PA X (e::es) t)
  (B:(x==("__debug__" : ba))=ax:=by decide) (he:bg (e::es) X.env=(ax,cj e X.env)::bg es X.env:=by rfl) (N:(cz pos (bg es X.env)).any (·.1)=ax:=by rfl) :
  PE X (.Call (.Name x p) (e::es) [] pos) (Rz sp [] E0 t):=by
 obtain⟨f,U,F,hm,j,hb⟩:=D.ex;exact ao1 F hr q hm j hb .nil Va z B he N
theorem oX.new{H:Hp}{p:az}{o:HO}(h:H p=au):oX H (upd H p o):=λb u e=>by rw[bR (jT e h)];exact e
def aH3(K:bj)(H:Hp)(v:V)(ns:aq a4):Prop:=∃p,v=.ref p/\jP K H p (ns.map V.int)
def Rows(K:bj)(H:Hp)(xs:aq V)(rs:aq (aq a4)):Prop:=Paired (aH3 K H) xs rs
def aGY(h₀ h:bz)(H:Hp)(x:az)(vs:a8 av):Prop :=
 ∃T j ts,vs[1]?=ao (.ref T)/\T≠x/\h₀.get? T=au/\H T=au/\h.get? T=ao j/\j.data=.fields ts/\3<ts.size
def lU(h₀ h:bz)(H:Hp)(x:az)(cls:av)(dx:aw az)(tb:br):Prop :=
 h₀.get? x=au/\H x=au/\∃oe vs,h.get? x=ao oe/\oe.cls=cls/\oe.dict=dx/\oe.data=.fields vs/\1<vs.size/\((tb=ax/\vs[1]?=ao .none)\/aGY h₀ h H x vs)
theorem lU.any{h₀ h:bz}{H:Hp}{x:az}{cls:av}{dx:aw az}{tb:br}(e:lU h₀ h H x cls dx tb):lU h₀ h H x cls dx ax:=by
 obtain⟨a,b,q,j,f,d,c,U,N,B⟩:=e;exact⟨a,b,q,j,f,d,c,U,N,B.imp (λz=>⟨rfl,z.2⟩) id⟩
structure mI(X:Cx):Prop where
 tT:X.stack=X.env::X.outer
 OQ:X.env.frame=ao X.env.locals
 pn:X.pn=[]
theorem mI.mem{X:Cx}(t:mI X){b:az}:b∈jE X.stack<->b=X.env.locals\/b∈X.fs:=by
 rw[t.tT];unfold jE;rw[zR,t.OQ];exact dY
section
variable{X:Cx}{J:St}{H:Hp}{s:ay}
theorem Inv.Dj{h':bz}{ch:aq az}(I:Inv X [] J H s)(t:mI X)(g:∀b∈ch,X.s₀.heap.get? b=au/\H b=au/\∃o vs,s.heap.get? b=ao o/\o.data=.fields vs)
  (keep:∀b o,b∉jE X.stack->b∉ch->s.heap.get? b=ao o->h'.get? b=ao o) (slot:∀b o,b∈jE X.stack->s.heap.get? b=ao o->∃sl,h'.get? b=ao {o with slots:=sl}) :
  Inv X [] J H {s with heap:=h' }:=by
 have C:∀c v,s.heap.IsCell c v->c∉ch:=λc v ⟨o,B,hd⟩ j=>by
  obtain⟨_,_,h,vs,e,d⟩:=g c j;rw[B]at e;cases e;rw[hd]at d;cases d
 have any:∀b o,b∉ch->s.heap.get? b=ao o->∃sl,h'.get? b=ao {o with slots:=sl}:=λb o j e=>by
  by_cases hb:b∈jE X.stack
  ·exact slot b o hb e
  ·exact⟨o.slots,keep b o hb j e⟩
 have cellK:∀c v,s.heap.IsCell c v->h'.IsCell c v:=λc v z=>by
  obtain⟨o,B,hd⟩:=id z;obtain⟨sl,e⟩:=any c o (C c v z) B;exact⟨_,e,hd⟩
 have old:∀b o,X.s₀.heap.get? b=ao o->b≠X.env.locals/\b∉ch:=λb o e =>
  ⟨fW (lH (dQ e) I.ok.above),λj=>by rw[(g b j).1]at e;cases e⟩
 have w:∀b,b≠X.env.locals->b∉X.fs->b∉jE X.stack:=λb h1 h2 z=>(t.mem.mp z).elim h1 h2;refine⟨I.ok,I.os,I.bare,⟨λb o e n hb N=>?_,λb o e n hb N=>?_,I.base.free,λb o e N=>?_,I.base.nN,I.base.lP,I.base.mW⟩,?_,λx c e=>?_,I.free,I.lQ,λp D=>?_,λb u e=>?_,I.len⟩
 ·exact keep b o (w b (old b o e).1 hb) (old b o e).2 (I.base.keep b o e n hb N)
 ·obtain⟨sl,a⟩:=I.base.slot b o e n hb N;obtain⟨L,U⟩:=any b _ (old b o e).2 a;exact⟨L,U⟩
 ·obtain⟨h,a⟩:=I.base.there b o e N;obtain⟨sl,U⟩:=any b h (old b o e).2 a;exact⟨_,U⟩
 ·obtain⟨m,hn,hl⟩:=I.loc;obtain⟨o,es,F,B,hd,r⟩:=id hn;have A:X.env.locals∉ch:=λj=>by
   obtain⟨_,_,h,vs,e,d⟩:=g _ j;rw[B]at e;cases e;rw[hd]at d;cases d
  obtain⟨sl,e⟩:=any _ o A B;refine⟨m,⟨_,es,F,e,hd,r⟩,λi x v a U K=>?_⟩;obtain⟨u,E,l⟩:=hl i x v a U K;refine⟨u,E,?_⟩
  rcases l with l|⟨k,c,G,z⟩
  ·exact .inl l
  ·exact .inr ⟨k,c,G,cellK c _ z⟩
 ·obtain⟨v,z⟩:=I.cell x c e;exact⟨v,cellK c v z⟩
 ·rw[t.pn]at D;simp at D
 ·refine(I.aK b u e).oJ (λc v j q=>keep c v ?_ ?_ q) (λ_ q=>q) λ_ _ q=>q
  ·intro z;have f:=I.Bm c z
   rcases j with y|y
   ·rw[y,e]at f;cases f
   ·rw[y]at f;cases f
  ·intro z;have f:=(g c z).2.1
   rcases j with y|y
   ·rw[y,e]at f;cases f
   ·rw[y]at f;cases f
variable{M:ez}{E:av->ay->Prop}{x:az}{cls:av}{dx:aw az}
theorem lU.UE(I:Inv X [] J H s){b:az}{o:c6}{vs:a8 av}(e:s.heap.get? b=ao o)(d:o.data=.fields vs):b∉jE X.stack:=λhm=>by
 obtain⟨_,z,q,j⟩:=I.stack.mem hm;rw[e]at q;cases q;exact j vs d
theorem abB(I:Inv X [] J H s)(t:mI X){oe:c6}{vs:a8 av}{head:av}{g:br}{Q:Unit->ay->Prop}(l:X.s₀.heap.get? x=au)(m:H x=au)(he:s.heap.get? x=ao oe)(hd:oe.data=.fields vs)(hsz:1<vs.size)
  (q:∀h',Inv X [] J H {s with heap:=h' }->lU X.s₀.heap h' H x oe.cls oe.dict a5->Q () {s with heap:=h' }) :
  wpAny M X.A (do let a<-frameOf X.env;let pl<-entryPlaceOf X.env.locals g;let b<-EntryCells.newEntry head a .none (ck X.env.locals) .none pl;setField (.ref x) 1 b) Q E s:=by
 have G:X.A.frames=ao (X.env::X.outer):=by rw[<-t.tT];exact I.ok.frames
 have hl:s.heap.FunFrames X.base (X.env::X.outer):=by rw[<-t.tT];exact I.stack
 have eX:x∉jE X.stack:=lU.UE I he hd;have i:(X.env::X.outer).filterMap (·.frame)=jE X.stack:=by rw[t.tT];rfl
 refine aJ (wpAny_frameOf_fun G hl t.OQ λh1 j=>aJ (wpAny_entryPlaceOf λpl w=>?_));rw[i]at j;unfold EntryCells.newEntry;unfold newFields;refine aJ (qC ?_ (w.sizeOk5 _ _ _ _ _));have r:h1.get? x=ao oe:=(j.2.1 x eX).trans he;generalize p:({cls:=.type "traceback",dict:=au,data:=.fields ([head,.ref X.env.locals,.none,ck X.env.locals,.none]++(if pl.isEmpty then List.replicate 6 Value.none else pl)).toArray}:c6)=to;have U:∃B,to.data=.fields B/\3<B.size:=⟨_,by rw[<-p],by simp only[kD,gF,iZ,BZ];omega⟩;have N:to.isFreed=ax:=by rw[<-p];rfl
 have n:(h1.push to).get? x=ao oe:=dI _ r;have k:h1.objs.size≠x:=JT (dQ r);refine wpAny_setField n hd hsz ?_;have u:=Obj.data_mapFields hd (·.setIfInBounds 1 (Value.ref h1.objs.size));have f:=ZF (Obj.mapFields (·.setIfInBounds 1 (Value.ref h1.objs.size))) n (Obj.isFreed_of_fields u);have h:=(uU (h1.push to) (Obj.mapFields (·.setIfInBounds 1 (Value.ref h1.objs.size))) (cX k)).trans (gU h1 N);have kp:∀b o,b≠x->h1.get? b=ao o->((h1.push to).update x (Obj.mapFields (·.setIfInBounds 1 (Value.ref h1.objs.size)))).get? b=ao o:=λb o hb e =>
  (uU _ _ (cX hb)).trans (dI _ e)
 have K:X.s₀.heap.get? h1.objs.size=au:=by
  cases e:X.s₀.heap.get? h1.objs.size with
  |none=>rfl
  |some o =>
   have h2:=lH (dQ e) I.sz;rw[j.1]at h2;exact b7 h2 (Nat.lt_irrefl _)
 have L:H h1.objs.size=au:=by rw[j.1];exact I.aK.fresh cJ
 refine q _ (I.Dj t (ch:=[x]) (λb hb=>?_) (λb o hb v e=>?_) λb o hb e=>?_) ⟨l,m,_,_,f,Obj.cls_mapFields _ _,?_,u,by simpa using hsz,.inr ⟨h1.objs.size,to,?_⟩⟩
 ·rw[lT.mp hb];exact⟨l,m,oe,vs,he,hd⟩
 ·exact kp b o (λz=>v (by rw[z];exact lT.mpr rfl)) ((j.2.1 b hb).trans e)
 ·obtain⟨sl,y⟩:=j.2.2 b o e;exact⟨sl,kp b _ (λz=>eX (z ▸ hb)) y⟩
 ·obtain⟨c,d,C,sl⟩:=oe;cases C <;> rfl
 ·obtain⟨B,F,D⟩:=U;exact⟨B,by simp[hsz],k,K,L,h,F,D⟩
theorem Ef(I:Inv X [] J H s)(t:mI X){tb:br}{Q:Unit->ay->Prop}(e:lU X.s₀.heap s.heap H x cls dx tb)
  (q:∀h',Inv X [] J H {s with heap:=h' }->lU X.s₀.heap h' H x cls dx a5->Q () {s with heap:=h' }):wpAny M X.A (noteFrame (.ref x) X.env) Q E s:=by
 obtain⟨U,a,n,m,he,rfl,rfl,hd,j,r⟩:=id e;unfold noteFrame;simp only[t.OQ]
 rcases r with⟨_,h1⟩|⟨T,i,N,h1,h,k,l,hT,B,f⟩
 ·refine aJ (CT he hd h1 ?_);rw[bb (by decide)];exact abB I t U a he hd j q
 ·refine aJ (CT he hd h1 ?_);rw[a9 (show(Value.ref T != Value.none)=a5 from by simp)];obtain⟨c,d⟩:∃c,N[3]?=ao c:=⟨N[3],Ol f⟩;refine aJ (CT hT B d ?_)
  by_cases hb:(c==ck X.env.locals)=a5
  ·rw[a9 hb];exact aY (q s.heap I ⟨U,a,n,m,he,rfl,rfl,hd,j,.inr ⟨T,i,N,h1,h,k,l,hT,B,f⟩⟩)
  ·rw[bb hb];refine aJ (wpAny_setField hT B f ?_);have g:∀b,b≠T->(s.heap.update T (Obj.mapFields (·.setIfInBounds 3 Value.none))).get? b=s.heap.get? b:=λb hb=>uU _ _ (cX hb);have u:T∉jE X.stack:=lU.UE I hT B;have v:Inv X [] J H {s with heap:=s.heap.update T (Obj.mapFields (·.setIfInBounds 3 Value.none))}:=I.Dj t (ch:=[T]) (λb hb=>by
    rw[lT.mp hb];exact⟨k,l,i,N,hT,B⟩) (λb o _ p e=>(g b (λz=>p (by rw[z];exact lT.mpr rfl))).trans e) λb o hb e=>⟨o.slots,(g b (λz=>u (z ▸ hb))).trans e⟩
   exact abB v t U a ((g x (cX h)).trans he) hd j q
theorem WT{A:bu}(I:Inv X [] J H s)(t:mI X){fo:aw az}{Q:Unit->ay->Prop}(e:lU X.s₀.heap s.heap H x cls dx a5)
  (q:∀h',Inv X [] J H {s with heap:=h' }->lU X.s₀.heap h' H x cls dx a5->Q () {s with heap:=h' }):wpAny M A (setFlight (.ref x) fo) Q E s:=by
 obtain⟨i,l,n,k,he,rfl,rfl,hd,B,u⟩:=id e
 rcases u with⟨z,_⟩|⟨T,p,m,h1,U,g,h,hT,j,a⟩
 ·cases z
 unfold setFlight;refine aJ (CT he hd h1 ?_);rw[a9 (show(Value.ref T != Value.none)=a5 from by simp)];refine wpAny_setField hT j a ?_;generalize (fo.elim Value.none λf=>ck f)=c;have N:∀b,b≠T->(s.heap.update T (Obj.mapFields (·.setIfInBounds 3 c))).get? b=s.heap.get? b:=λb hb=>uU _ _ (cX hb);have v:T∉jE X.stack:=lU.UE I hT j;have d:=Obj.data_mapFields j (·.setIfInBounds 3 c);refine q _ (I.Dj t (ch:=[T]) (λb hb=>?_) (λb o _ r e=>(N b (λz=>r (by rw[z];exact lT.mpr rfl))).trans e) λb o hb e=>⟨o.slots,(N b (λz=>v (z ▸ hb))).trans e⟩)
  ⟨i,l,n,k,(N x (cX U)).trans he,rfl,rfl,hd,B,.inr ⟨T,_,_,h1,U,g,h,ZF _ hT (Obj.isFreed_of_fields d),d,by simpa using a⟩⟩
 rw[lT.mp hb];exact⟨g,h,p,m,hT,j⟩
end
abbrev WX:=St->av->aw az->Hp->Prop
def XE(X:Cx)(W:WX):av->ay->Prop:=λe s'=>∃J H' x cls dx,e=.ref x/\Inv X [] J H' s'/\lU X.s₀.heap s'.heap H' x cls dx ax/\W J cls dx H'
section
variable{X:Cx}
theorem ao6(t:mI X){W:WX}:PassesOwn (bq X.prog X.w) X.A X.env (XE X W):=by
 rintro e s' ⟨J,c,x,cls,N,rfl,I,ex,w⟩;unfold notedBy;refine Ef I t ex λh1 b j=>?_;unfold cameBackBy;obtain⟨g,k,m,h,he,o,r,hd,q,U⟩:=id j
 rcases U with⟨z,_⟩|⟨T,n,l,d,f,s,u,hT,i,p⟩
 ·cases z
 refine aJ (CT he hd d ?_);rw[bb (show ¬((Value.ref T==Value.none)=a5)from by simp)];exact WT b t j λh2 a B=>⟨J,c,x,cls,N,rfl,a,B.any,w⟩
def qV(P:bh)(w:bw):oF:=λouter H s E e s'=>∃x cls dx H',e=.ref x/\s'.os=s.os/\AllBare s'.gens/\Un (jE outer) [] H H' s.heap s'.heap/\fR P w H' s'.heap/\lU s.heap s'.heap H' x cls dx a5/\E cls dx H'
end
structure pU(X:Cx)(W:WX):Prop where
 top:mI X
 ex:X.ex=[]
 to:∀e s',XE X W e s'->X.xe e s'
 passes:PassesOwn (bq X.prog X.w) X.A X.env X.xe
theorem pU.of{X:Cx}(t:mI X)(j:X.ex=[])(W:WX):pU (X.nK (XE X W)) W where
 top:=⟨t.tT,t.OQ,t.pn⟩
 ex:=j
 to:=λe s' ⟨J,z,x,cls,q,a,I,b,c⟩=>⟨J,z,x,cls,q,a,I.vA,b,c⟩
 passes:=ao6 t
theorem Inv.Dv{X:Cx}{aa:aq (az×c6)}{J:St}{H:Hp}{s:ay}(I:Inv X aa J H s):Inv X [] J H s:=I.Du λp j=>b7 j (by simp)
theorem Inv.first{X:Cx}{aa:aq (az×c6)}{J:St}{H:Hp}{s:ay}(I:Inv X aa J H s)(q:X.ex=[]){b:az}(h:s.heap.get? b=au):X.s₀.heap.get? b=au:=by
 cases e:X.s₀.heap.get? b with
 |none=>rfl
 |some o =>
  obtain⟨z,j⟩:=I.base.there b o e (by rw[q];simp);rw[h]at j;cases j
theorem lU.first{X:Cx}{aa:aq (az×c6)}{J:St}{H H':Hp}{s:ay}{h':bz}{x:az}{cls:av}{dx:aw az}{tb:br}(I:Inv X aa J H s)(j:X.ex=[])(e:lU s.heap h' H' x cls dx tb) :
  lU X.s₀.heap h' H' x cls dx tb:=by
 obtain⟨a,b,B,q,p,o,n,m,l,k⟩:=e;refine⟨I.first j a,b,B,q,p,o,n,m,l,k.imp id λ⟨T,N,z,i,h,g,f,d,c,U⟩=>⟨T,N,z,i,h,I.first j g,f,d,c,U⟩⟩
theorem iO.at{P:bh}{w:bw}{H:Hp}{h:bz}{a:az}{o:HO}(x:iO P w H h a o):∃ob,h.get? a=ao ob:=by
 cases o with
 |lst xs=>obtain⟨_,_,_,_,e⟩:=x;exact⟨_,e⟩
 |tup xs=>obtain⟨_,_,_,_,e,_⟩:=x;exact⟨_,e⟩
 |dK j=>obtain⟨_,_,_,_,o,_,_,e,_⟩:=x;exact⟨_,e⟩
 |dT j=>obtain⟨_,_,_,_,o,_,_,e,_⟩:=x;exact⟨_,e⟩
 |set S n=>obtain⟨o,_,_,_,e,_⟩:=x;exact⟨_,e⟩
 |ins C B fs=>obtain⟨_,_,_,e,_⟩:=x;exact⟨_,e⟩
 |own y=>exact x
 |xd fs=>obtain⟨_,⟨_,_,_,e,_⟩,_⟩:=x;exact⟨_,e⟩
 |TN lo hi=>obtain⟨_,_,_,e⟩:=x;exact⟨_,e⟩
 |eI ob u=>obtain⟨e,_⟩:=x;exact⟨_,e⟩
 |jC z=>exact⟨_,show h.get? a=ao _ from x⟩
 |met f y=>exact⟨_,show h.get? a=ao _ from x⟩
 |ext q=>obtain⟨_,e,_⟩:=x;exact e
theorem fR.aqY{P:bh}{w:bw}{H:Hp}{h:bz}{a:az}(x:fR P w H h)(e:h.get? a=au):H a=au:=by
 cases q:H a with
 |none=>rfl
 |some o =>
  obtain⟨ob,j⟩:=(x a o q).at;rw[e]at j;cases j
section
variable{P:bh}{w:bw}{K:bj}{mg:ba->aw av}{base:bz}
abbrev oV(P:bh)(w:bw)(K:bj)(mg:ba->aw av)(base:bz)(N:aq ba)(qual:ba)(scope:cn)(f:az)(j:av)(A:bu)(outer:aq Env)(s:ay)(H:Hp)(E:XK):Cx :=
 (mG (qV P w) P w K mg base N qual scope f j A outer s H E).nK (XE (mG (qV P w) P w K mg base N qual scope f j A outer s H E) λ_=>E)
theorem SI{CX:oF}{N:aq ba}{qual:ba}{scope:cn}{f:az}{j:av}{A:bu}{outer:aq Env}{s:ay}{H:Hp}{E:XK}:mI (mG CX P w K mg base N qual scope f j A outer s H E):=⟨rfl,rfl,rfl⟩
theorem cF{N:aq ba}{qual:ba}{scope:cn}{f:az}{j:av}{A:bu}{outer:aq Env}{s:ay}{H:Hp}{E:XK}:pU (oV P w K mg base N qual scope f j A outer s H E) (λ_=>E):=pU.of SI rfl _
theorem NA{N:aq ba}{qual:ba}{scope:cn}{f:az}{z:av}{A:bu}{outer:aq Env}{s:ay}{H:Hp}{E:XK}{st:aq b8}{t:TS}(h:oY (oV P w K mg base N qual scope f z A outer s H E) st t) :
  oY (mG (qV P w) P w K mg base N qual scope f z A outer s H E) st t:=by
 intro aa U J m D I b;refine lV (h aa U J m D (I.nK _) b) (λ_ _ q=>q.vA) λe s' a=>?_;obtain⟨B,n,x,cls,i,rfl,l,ex,q⟩:=a;show wpAny _ _ (leaving _ _) _ _ _;unfold leaving;refine aJ (Ef (E:=λg o=>qV P w outer H s E g o) l SI ex λh1 k d=>?_);refine WT k SI d λh2 j c=>?_;exact⟨x,cls,i,n,rfl,j.os,j.bare,j.base,j.aK,c,q⟩
structure RL(P:bh)(w:bw)(K:bj)(mg:ba->aw av)(base:bz)(x:ba)(k:a6)(ps:aq ba)(sp:Sp):Prop where
 ex:∃f fd,jA P w K mg base (qV P w) k f fd ps sp/\mg x=ao (.ref f)/\keepIn K (.ref f)=a5/\Binds K fd ps []
end
section
variable{X:Cx}{W:WX}{x:ba}{p pos np kB:dn}{e:bx}{es:aq bx}{t:TA}
def aiD(sp:Sp)(W:WX)(t:TA):TE:=λJ H Q=>t J H λvs H1=>sp vs H1 Q λcls dx H'=>W J cls dx H'
theorem aoX{k:a6}{ps:aq ba}{sp:Sp}(T:pU X W)(D:RL X.prog X.w X.K X.mg X.base x k ps sp)(hr:cK k X.A)(l:Gl X x)(m:PA X (e::es) t)
  (n:(x==("__debug__" : ba))=ax:=by decide) (he:bg (e::es) X.env=(ax,cj e X.env)::bg es X.env:=by rfl) (o:(cz pos (bg es X.env)).any (·.1)=ax:=by rfl) :
  PE X (.Call (.Name x p) (e::es) [] pos) (aiD sp W t):=by
 obtain⟨f,G,F,hm,i,hb⟩:=D.ex;intro aa s J H Q I h;refine CV (DU I l hm ?_ n);refine callWith_K (h₀:=X.base) I.ok.mod.sS i (bC (m pos aa s J H _ I h) λN U ⟨d,C,j,r,q⟩=>⟨j.fY,?_⟩) he o;have hl:N.length=ps.length:=by rw[<-r.length];exact F.len _ _ _ _ q
 have c:=hb U N j.fY (by rw[rW];exact hl);rw[rW]at c;refine GP (uJ (F.run X.A X.stack U C ⟨N,[]⟩ N d Q _ hr j.IY c r q) λr s' B=>?_);cases r with
 |error L =>
  obtain⟨a,cls,v,E,rfl,os,bare,un,aK,ex,g⟩:=B;have y:=(j.PQ os un aK bare (λb z=>b7 z (by simp))).Dv;exact T.to _ _ ⟨J,E,a,cls,v,rfl,y,(ex.first j T.ex).any,g⟩
 |ok fl =>
  cases fl with
  |ret u=>exact j.after B
  |next=>exact False.elim B
  |brk=>exact False.elim B
  |cont=>exact False.elim B
noncomputable abbrev Kk:aq av:=[.type "ValueError",.type "Exception",.type "BaseException",.type "object"]
structure QN(K:bj)(C:az):Prop where
 inK:excIn K C Kk "ValueError.__new__" = a5
theorem QN.obj{K:bj}{C:az}(ι:QN K C){h:bz}(X:K.In h):∃bm N nm q bs hdct sn sub ab col dd k0 k1 k2 k3 k5 j,h.get? C=ao (di nm q C N bs bm hdct sn sub ab col dd k0 k1 k2 k3 k5 "ValueError.__new__")/\h.Ns N j/\j "__init__" = au/\OwnTail h Kk bm:=by
 have q:=ι.inK;unfold excIn at q;split at q
 ·rename_i dd cd sl d;split at q
  ·rename_i e bm k0 k1 k2 k3 n k5 hm z;simp only[lK,xR,ZP]at q;obtain⟨⟨⟨⟨⟨rfl,rfl⟩,B⟩,c⟩,aK⟩,U⟩:=q;obtain⟨nm,bs,mro,ns,a,hd,sn,sub,ab,col,del⟩:=cd;dsimp only at hm B aK U;subst hm B;have b:sl=#[k0,k1,k2,k3,ao (.builtin "ValueError.__new__"),k5]:=by
    obtain⟨l⟩:=sl;simp only at z;rw[z]
   subst b;exact⟨bm,ns,nm,a,bs,hd,sn,sub,ab,col,dd,k0,k1,k2,k3,k5,_,X _ _ d,.of_isNs (PySem.W.isNs_of_in X aK),PySem.W.nsMap_none_of_in X aK U,PySem.W.tail_of_in X c⟩
  ·cases q
 ·cases q
def ahV(W:WX)(C:az)(t:TA):TS:=λ_ J H=>t J H λvs H1=>vs.length<=bf/\W J (.ref C) au H1
theorem am7{C:az}(T:pU X W)(k:X.calm=a5)(ι:QN X.K C)(i:Gl X x)(hm:X.mg x=ao (.ref C))(l:PA X (e::es) t)
  (p:(x==("__debug__" : ba))=ax:=by decide) (he:bg (e::es) X.env=(ax,cj e X.env)::bg es X.env:=by rfl) (u:(cz kB (bg (e::es) X.env)).any (·.1)=ax:=by rfl) :
  PS X (.Raise (ao (.Call (.Name x np) (e::es) [] kB)) au pos) (ahV W C t):=by
 intro aa s J H D I h;obtain⟨v,N,nm,q,bs,hdct,sn,sub,ab,col,dd,k0,k1,k2,k3,k5,G,o,m,w,hT⟩:=ι.obj I.ok.mod.sS;have U:v.contains (.type "BaseException")=a5:=hT.hasType (by decide);refine wpAny_Raise_call_subT (nm:=nm) (q:=q) (N:=N) (bs:=bs) (hdct:=hdct) (sn:=sn) (sub:=sub) (ab:=ab) (col:=col) (dd:=dd) (k0:=k0) (k1:=k1) (k2:=k2) (k3:=k3) (k5:=k5) PySem.F.excBase_ValueError U (I.ok.hd k) u w (DU I i hm ⟨rfl,?_⟩ p);rw[he];refine ad2 ?_;have z:=l kB aa s J H _ I h;rw[he]at z;refine bC z λA b ⟨y,B,j,r,d,c⟩=>⟨rfl,by rw[<-r.length];exact d,j.bk _ _ o,m.keeps j.bk,hT.keeps j.bk,λh' a M=>?_⟩
 obtain⟨E,g,f,_⟩:=M.there;have n:B a=au:=j.aK.aqY M.new;refine T.to _ _ ⟨J,B,a,.ref C,au,rfl,(j.kept (t':=b.toks) M.keeps).Dv,⟨j.first T.ex M.new,n,_,_,g,rfl,rfl,rfl,by simp,.inl ⟨rfl,rfl⟩⟩,c⟩
end
structure XC(K:bj)(C:az):Prop where
 ob:∃nm q N bs bm hdct sn sub ab col dd k0 k1 k2 k3 k5,K.lookup C=ao (di nm q C N bs bm hdct sn sub ab col dd k0 k1 k2 k3 k5 "ValueError.__new__")
 ga:cg K (.ref C) "__getattribute__" = ao (ao (.builtin "BaseException.__getattribute__"))
 gt:cg K (.ref C) "__getattr__" = ao au
 cl:cg K (.ref C) "__class__" = ao (ao (.builtin "object.__class__"))
 be:cu K (.ref C) (.type "BaseException")=ao a5
 oj:cu K (.ref C) (.type "object")=ao a5
section
variable{prog:bh}{w:bw}{A:bu}{E:av->ay->Prop}{h:bz}{g:a8 GenState}{d:Drawn}{t:a6}{os:OsState}{a:az}{o:c6}{K:bj}{C:az}
theorem aeG{R:Result->ay->Prop}(c:XC K C)(X:K.In h)(j:h.get? a=ao o)(q:o.cls=.ref C)(B:R (.ok (.ret (.ref C))) ⟨h,g,d,t,os⟩) :
  codeAny (bq prog w) A (.call (.builtin "getset_descriptor.__get__") ⟨[.builtin "object.__class__",.ref a,.ref C],[]⟩) R ⟨h,g,d,t,os⟩:=by
 have z:(⟨h,g,d,t,os⟩:ay).TypeIs (.builtin "object.__class__") "getset_descriptor":=ad0;have L:Looks (bq prog w) h (isSubtype (.ref C) (.type (".".intercalate ("object.__class__".cutAt '.').dropLast))) a5:=by
  rw[F.owner_object_class];exact looks_subIn X c.oj
 refine abS F.slot_gs_get.plain F.entry_gs_get (F.slot_gs_get.check _ _ _ _ _ _ _ _ z (F.args_gs_get _ _ _) ?_)
 repeat (any_goals (first|assumption|(with_reducible refine KW j ?_;rw[q])|with_reducible refine L.at ?_|wp_step))
 refine⟨Code.quiet_builtin _ (by decide +kernel),JB F.entry_object_class ?_⟩
 repeat (any_goals (first|assumption|(with_reducible refine KW j ?_;rw[q])|wp_step))
theorem aeH{tk:Tok}{Q:Fin->ay->Prop}(c:XC K C)(X:K.In h)(j:h.get? a=ao o)(q:o.cls=.ref C)(z:Q (.done (.ret (.ref C))) ⟨h,g,d,t,os⟩) :
  wpAny (bq prog w) A (Builtin.«object.__getattribute__» ⟨[.ref a,.str "__class__" tk],[]⟩) Q E ⟨h,g,d,t,os⟩:=by
 have b:(⟨h,g,d,t,os⟩:ay).TypeIs (.builtin "object.__class__") "getset_descriptor":=ad0;have U:=ad0;have N:=F.slot_gs_get.lookup;have B:=F.slot_gs_set.lookup;have L1:=looks_findIn (M:=bq prog w) X c.cl
 repeat (any_goals (first|assumption|(with_reducible refine KW j ?_;rw[q])|with_reducible refine L1.at ?_|wp_step))
 refine aeG c X j q ?_
 repeat (any_goals (first|assumption|wp_step))
theorem aeI{M:ez}{j:av}{Q:Unit->ay->Prop}(c:XC K C)(X:K.In h)(q:h.get? a=ao o)(U:o.cls=.ref C)(B:Q () ⟨h,g,d,t,os⟩) :
  wpAny M A (checkBuiltinCall "BaseException.__getattribute__" ⟨[.ref a,j],[]⟩) Q E ⟨h,g,d,t,os⟩:=by
 have L:Looks M h (isInstance (.ref a) (.type "BaseException")) a5:=by
  refine PySem.W.Looks.andThen (a:=.ref C) ?_ (looks_subIn X c.be);rw[<-U];exact(PySem.W.Looks.ld q).andThen .now
 have N:builtinKind "BaseException.__getattribute__" = ao .slot:=by decide +kernel
 have z:splitId "BaseException.__getattribute__" = ao ("BaseException", "__getattribute__"):=by decide +kernel
 have b:=F.args_bexc_ga (.ref a) j;exact PySem.W.check_slot (i := "BaseException.__getattribute__") (owner := "BaseException") (n := "__getattribute__") (self:=.ref a) (rest:=[j]) (kw:=[]) (s:=⟨h,g,d,t,os⟩) N z L b B
theorem aeJ{tk:Tok}{fill expr:br}{Q:av->ay->Prop}(c:XC K C)(X:K.In h)(q:h.get? a=ao o)(z:o.cls=.ref C)(U:Q (.ref C) ⟨h,g,d,t,os⟩) :
  wpAny (bq prog w) A (getAttrBy (.ref a) (.str "__class__" tk) fill expr) Q E ⟨h,g,d,t,os⟩:=by
 have b:=PySem.F.excAttr_ValueError.ga.bind (.ref a);have N:(expr&&onTheHeap (Value.builtin "BaseException.__getattribute__"))=ax:=by cases expr <;> rfl
 have j:(Value.builtin "BaseException.__getattribute__" == Value.builtin "object.__getattribute__")=ax:=by decide +kernel
 have B:(onTheHeap (Value.ref C)&&Value.builtin "BaseException.__getattribute__" == Value.builtin "object.__getattribute__")=ax:=by rw[j];rfl
 have L1:=looks_findIn (M:=bq prog w) X c.ga;have L2:=looks_findIn (M:=bq prog w) X c.gt
 repeat (any_goals (first|assumption|(with_reducible refine KW q ?_;rw[z])|with_reducible refine L1.at ?_|with_reducible refine L2.at ?_|wp_step))
 refine abS PySem.F.excAttr_ValueError.ga.plain F.entry_bexc_ga (aeI c X q z (aeH c X q z ?_))
 repeat (any_goals (first|assumption|wp_step))
theorem aeK{Q:aw av->ay->Prop}(c:XC K C)(X:K.In h)(j:h.get? a=ao o)(q:o.cls=.ref C)(z:Q (ao (.ref C)) ⟨h,g,d,t+1,os⟩) :
  wpAny (bq prog w) A (getAttr? (.ref a) "__class__") Q E ⟨h,g,d,t,os⟩:=by
 unfold getAttr? getAttrBy?
 repeat (any_goals (first|assumption|with_reducible apply aeJ c X j q|wp_step))
end
section
variable{K:bj}{C D x:az}{oe:c6}{b:br}
theorem XC.get(c:XC K C):∃cd,PySem.W.clsIn K C=ao cd/\cd.mro.isEmpty=ax/\cd.mro.contains (.ref C)=a5/\PySem.W.typeIn K (.ref C)=ao (.type "type"):=by
 obtain⟨nm,q,N,bs,bm,j,sn,sub,z,col,b,a,k1,k2,U,B,e⟩:=c.ob;refine⟨{name:=nm,bases:=bs,mro:=.ref C::bm,ns:=N,qualname:=q,hasDict:=j,slotNames:=sn,subclasses:=sub,abstract:=z,collection:=col,hasDel:=ax},?_,rfl,?_,?_⟩
 ·unfold PySem.W.clsIn;rw[e]
 ·simp
 ·show(K.lookup C).map (·.cls)=_;rw[e];rfl
theorem XC.isType(c:XC K C){M:ez}{h:bz}(X:K.In h):Looks M h (PySem.isType (.ref C)) a5:=by
 obtain⟨nm,q,N,bs,bm,j,sn,sub,b,col,a,U,k1,k2,B,z,e⟩:=c.ob;intro g d f s' k q;unfold PySem.isType loadHead;exact aJ (wpAny_loadPart (k _ _ (X _ _ e)) (aY q))
theorem as0(c:XC K D)(U:oe.cls=.ref D):PySem.W.KitX K (.ref x) (.ref D) (λh=>h.get? x=ao oe)where
 ty:=λM h _ p=>U ▸ (PySem.W.Looks.ld p).andThen .now
 it:=λ_ _ X _=>c.isType X
 ne:=λh b i y n sl X j=>by
  obtain⟨m,q,N,bs,v,B,l,sub,w,col,i,u,k1,k2,r,o,e⟩:=c.ob;refine Bool.eq_false_iff.mpr λq=>?_;have f:D=b:=Value.ref.inj (xR.mp q);subst f;have z:=kJ ((X _ _ e).symm.trans j);have a:=c7 Obj.data z;cases a
 ca:=λ{_ _ _ _ _ s} X p k=>by obtain⟨h,g,d,t,os⟩:=s;exact aeK c X p U k
theorem as2(N:XC K D)(U:XC K C)(s:cu K (.ref D) (.ref C)=ao b):kitOne K (.ref D) (.ref C)=ao b:=by
 unfold kitOne;split
 ·rename_i q;have e:D=C:=Value.ref.inj (xR.mp q);subst e;obtain⟨B,h1,h2,z,_⟩:=N.get;change mroIn K D (.ref D)=ao b at s;unfold mroIn at s;rw[h1]at s;simp only[Option.bind_some,h2,z]at s;simpa using s
 ·obtain⟨B,h1,_,_,j⟩:=U.get;unfold PySem.W.kitCls;simp only[h1,j];exact s
theorem as1{T:c4}(s:cu K (.ref D) (.type T)=ao b)(hT:PySem.W.kitMeta T=a5):kitOne K (.ref D) (.type T)=ao b:=by
 unfold kitOne;rw[bb (by simp)];unfold PySem.W.kitCls;simp only[hT];exact s
theorem as3:PySem.W.kitMeta "ValueError" = a5:=by kernel_rfl
end
noncomputable def Cx.tI(X:Cx)(x:az)(oe:c6):Cx:={X with A:=X.A.mark (ao (.ref x)),calm:=ax,pn:=X.pn++[(x,oe)],xe:=λ_ _=>cp}
theorem Cx.Ok.tI{X:Cx}(ok:X.Ok)(x:az)(oe:c6):(X.tI x oe).Ok :=
 ⟨ok.mod,ok.kind,ok.glob,ok.blt,ok.above,ok.inj,ok.has,ok.ES,λh=>Bool.noConfusion h,ok.frames,ok.tT,ok.EM,ok.bs,ok.rO,ok.yS,ok.BF,ok.oS,ok.uI⟩
section
variable{X:Cx}{J:St}{H:Hp}{s:ay}{x:az}{oe:c6}
theorem Inv.tI(I:Inv X [] J H s)(p:s.heap.get? x=ao oe/\H x=au/\x≠X.env.locals/\x∉X.fs/\∀v,oe.data≠.cell v):Inv (X.tI x oe) [] J H s :=
 ⟨I.ok.tI x oe,I.os,I.bare,I.base,I.loc,I.cell,I.free,I.lQ,λq j=>by
  have j:q∈(X.pn++[(x,oe)])++[]:=j;rw[rW]at j
  rcases kL.mp j with z|z
  ·exact I.pin q (oB _ z)
  ·rw[lT.mp z];exact p,I.aK,I.len⟩
theorem Inv.uncaught(ok:X.Ok)(I:Inv (X.tI x oe) [] J H s):Inv X [] J H s :=
 ⟨ok,I.os,I.bare,I.base,I.loc,I.cell,I.free,I.lQ,λq j=>I.pin q (by
  rw[rW]at j ⊢;exact oB _ j),I.aK,I.len⟩
theorem lU.pin{cls:av}{dx:aw az}{tb:br}(I:Inv X [] J H s)(t:mI X)(e:lU X.s₀.heap s.heap H x cls dx tb):∃oe vs,oe.cls=cls/\oe.dict=dx/\oe.data=.fields vs/\s.heap.get? x=ao oe/\H x=au/\x≠X.env.locals/\x∉X.fs/\∀v,oe.data≠.cell v:=by
 obtain⟨_,q,oe,vs,he,B,N,hd,_⟩:=e;have j:=lU.UE I he hd;exact⟨oe,vs,B,N,hd,he,q,λz=>j (t.mem.mpr (.inl z)),λz=>j (t.mem.mpr (.inr z)),λv z=>by rw[hd]at z;cases z⟩
def al2(K:bj)(x:az)(cls:av):aq V->Hp->VK->Prop:=λxs H Q=>∃D,cls=.ref D/\XC K D /\
 ((∃C b,xs=[.ref x,.ref C]/\kitOne K cls (.ref C)=ao b/\Q (.bl b) H)\/(∃T b,xs=[.ref x,.ty T]/\kitOne K cls (.type T)=ao b/\Q (.bl b) H) \/
  ∃(p:az) (cs:aq az) (b:br),xs=[.ref x,.ref p]/\H p=ao (.tup (cs.map V.ref))/\kitAny K cls (cs.map Value.ref)=ao b/\Q (.bl b) H)
theorem Ql:∀{cs:aq az} {us:aq av},Vals (cs.map V.ref) us->us=cs.map Value.ref
 |[],_,.nil=>rfl
 |_::_,_,.cons r t=>by rw[dE,<-Ql t];congr
theorem aE0(i:(x,oe)∈X.pn):tP X (.builtin "isinstance") (al2 X.K x oe.cls):=by
 intro aa s J H k l Q I r h;obtain⟨D,a,c,h⟩:=h;have he:=(I.pin _ (oB _ i)).1;have Ω:=as0 (x:=x) c a;rw[a]at h
 rcases h with⟨C,b,rfl,e,q⟩|⟨T,b,rfl,e,q⟩|⟨p,cs,b,rfl,N,e,q⟩
 ·obtain⟨u,v,rfl,B,j⟩:=vals2 r;obtain rfl:u=.ref x:=B;obtain rfl:v=.ref C:=j;exact fg Ω I.fY he e (by intro z;cases z) λtk=>⟨.bl b,H,I.tok tk,rfl,q⟩
 ·obtain⟨u,v,rfl,B,j⟩:=vals2 r;obtain rfl:u=.ref x:=B;obtain rfl:v=.type T:=j;exact fg Ω I.fY he e (by intro z;cases z) λtk=>⟨.bl b,H,I.tok tk,rfl,q⟩
 ·obtain⟨u,v,rfl,B,j⟩:=vals2 r;obtain rfl:u=.ref x:=B;obtain rfl:v=.ref p:=j;obtain⟨_,y,f,⟨o,U,gC,n,d⟩⟩:=I.aK p _ N;obtain⟨t,m,g,w⟩:=o;simp only at gC d;subst gC d;rw[Ql f]at U;exact PySem.W.kia_tup Ω I.fY he U e (by intro z;cases z) λtk=>⟨.bl b,H,I.tok tk,rfl,q⟩
end
section
variable{M:ez}{A:bu}{E:av->ay->Prop}{h:bz}{g:a8 GenState}{d:Drawn}{t:a6}{os:OsState}{e:az}{oe:c6}{K:bj}{C D:az}{b:br}
theorem aeF{Q:br->ay->Prop}(z:XC K C)(X:K.In h)(he:h.get? e=ao oe)(U:oe.cls=.ref D)(sb:cu K (.ref D) (.ref C)=ao b)(B:Q b ⟨h,g,d,t,os⟩) :
  wpAny M A (excMatches (.ref e) (.ref C)) Q E ⟨h,g,d,t,os⟩:=by
 obtain⟨l,q,N,bs,r,j,k,sub,s,col,p,o,k1,k2,n,m,i⟩:=z.ob;have a:=X _ _ i;have L:=looks_subIn (M:=M) X sb;have c:=looks_subIn (M:=M) X z.be;have f:=tc_notTuple;unfold excMatches
 repeat (first|(with_reducible refine KW he ?_;rw[U])|with_reducible refine KW a ?_|with_reducible refine c.at ?_|with_reducible refine L.at ?_|wp_step)
 cases b <;> (wp_walk;exact B)
end
theorem WZ{X:Cx}{M:ez}{A:bu}{E:av->ay->Prop}{J:St}{H:Hp}{s:ay}{i:a6}{n:ba}{pos:dn}{Q:Unit->ay->Prop}(I:Inv X [] J H s)(F:X.N.Nodup)(hi:X.N[i]?=ao n)(hl:X.env.scope.names.lookup n=ao .local)
  (h:∀s',Inv X [] (J.set i au) H s'->Q () s'):wpAny M A (do bindName X.env n .none;unbindBehindTheSuite X.env n pos) Q E s:=by
 refine aJ (wpAny_bindName (SV (v:=.aV) I F hi (.inl hl) rfl (λs1 B=>?_) (.inr hl)));unfold unbindBehindTheSuite;refine wpAny_onRaise ?_;have Hw:(X.env.scope.kind == .class||(X.env.scope.kind == .module&&X.env.locals != X.env.globals))=ax:=by rw[I.ok.kind];rfl
 obtain⟨m,hn,D⟩:=id B.loc;have G:i<J.length:=by rw[I.len];exact(cY.mp hi).1
 have hv:m n=ao .none:=by
  obtain⟨u,R,l⟩:=D i n .aV hi (by rw[eV G]) (.inl hl);obtain rfl:u=Value.none:=R
  rcases l with⟨_,l⟩|⟨k,_⟩
  ·exact l
  ·have Yu:X.env.kindOf n=ao .local:=hl
   rcases k with k|k <;> (rw[Yu]at k;cases k)
 refine wpAny_unbindName_local hl hn hv Hw λh' u L U=>?_;have vV:=B.vV;obtain⟨oL,_,_,xE,_⟩:=id hn;refine h _ ⟨B.ok,B.os,B.bare,⟨λb o e f hb g=>?_,λb o e f hb g=>?_,B.base.free,λb o e g=>?_,B.base.nN,B.base.lP,B.base.mW⟩,⟨_,L,λj y K a t e3=>?_⟩,λy c e=>?_,B.free,B.lQ,λp W=>?_,λb ob e=>?_,by simpa using I.len⟩
 ·exact(U.2 b (fW (lH (dQ e) B.ok.above))).trans (B.base.keep b o e f hb g)
 ·obtain⟨sl,a⟩:=B.base.slot b o e f hb g;exact⟨sl,(U.2 b (fW (lH (dQ e) B.ok.above))).trans a⟩
 ·obtain⟨T,a⟩:=B.base.there b o e g;exact⟨T,(U.2 b (fW (lH (dQ e) B.ok.above))).trans a⟩
 ·have w:j≠i:=λz=>by
   subst z;rw[eV G]at t;cases t
  rw[dZ (cX w)]at t;obtain⟨P,S,q⟩:=D j y K a (by rw[dZ (cX w)];exact t) e3;refine⟨P,S,?_⟩
  rcases q with⟨k,e⟩|⟨k,c,e,z⟩
  ·refine .inl ⟨k,?_⟩;have:y≠n:=λe=>w (Eg F a (e ▸ hi));simp[this,e]
  ·exact .inr ⟨k,c,e,z.sameBut U (vV y c e)⟩
 ·obtain⟨C,z⟩:=B.cell y c e;exact⟨C,z.sameBut U (vV y c e)⟩
 ·obtain⟨e,f,ne,V,d⟩:=B.pin p W;exact⟨(U.2 p.1 ne).trans e,f,ne,V,d⟩
 ·refine(B.aK b ob e).oJ (λc C r q=>(U.2 c ?_).trans q) (λ_ q=>q) λ_ _ q=>q;rintro rfl;have x:=B.free
  rcases r with rfl|r
  ·rw[x]at e;cases e
  ·rw[x]at r;cases r
def YM(X:Cx)(st:b8)(t:TS):Prop:=∀(s:ay) (J:St) (H:Hp) (D:Ends),Inv X [] J H s->t D J H->wpAny (bq X.prog X.w) X.A (exec st X.env) (SP X [] D) X.xe s
def wD(X:Cx)(st:aq b8)(t:TS):Prop:=∀(s:ay) (J:St) (H:Hp) (D:Ends),Inv X [] J H s->t D J H->wpAny (bq X.prog X.w) X.A (execs st X.env) (SP X [] D) X.xe s
theorem PS.Dp{X:Cx}{st:b8}{t:TS}(h:PS X st t):YM X st t:=h []
theorem oY.Dp{X:Cx}{st:aq b8}{t:TS}(h:oY X st t):wD X st t:=h []
theorem am1{X:Cx}{st:b8}{rest:aq b8}{t u:TS}(h1:YM X st t)(h2:wD X rest u):wD X (st::rest) (Bf t u):=by
 intro s J H D I h;refine wpAny_execs_cons (bC (h1 s J H {D with nx:=u D} I h) λf z q=>?_);cases f with
 |next =>
  obtain⟨j,N,B,q⟩:=q;exact h2 z j N D B q
 |brk=>exact q
 |cont=>exact q
 |ret u=>exact q
abbrev TH:=az->av->aw az->TS
def PH(X:Cx)(j:aq ExceptHandler)(th:TH):Prop:=∀(s:ay) (J:St) (H:Hp) (D:Ends) (x:az) (cls:av) (dx:aw az),Inv X [] J H s->lU X.s₀.heap s.heap H x cls dx a5->th x cls dx D J H ->
 wpAny (bq X.prog X.w) X.A (handleBy (.ref x) X.env j) (SP X [] D) X.xe s
def Ru:TH:=λ_ _ _ _ _ _=>cp
theorem an5{X:Cx}:PH X [] Ru:=λ_ _ _ _ _ _ _ _ _ h=>h.elim
noncomputable def Ends.drop(D:Ends)(i:a6):Ends:=⟨λJ H=>D.nx (J.set i au) H,D.rt,λJ H=>D.bk (J.set i au) H,λJ H=>D.ct (J.set i au) H⟩
def tH(K:bj)(C:az)(i:a6)(ts th:TH):TH:=λx cls dx D J H=>∃E b,cls=.ref E/\cu K (.ref E) (.ref C)=ao b /\
 if b=a5 then ts x cls dx (D.drop i) (J.set i (ao (.ref x))) H else th x cls dx D J H
section
variable{X:Cx}{C:az}{i:a6}{n y:ba}{np pos:dn}{b₀:b8}{suite:aq b8}{rest:aq ExceptHandler}{ts th:TH}
theorem an6(t:mI X)(c:XC X.K C)(M:Gl X y)(hm:X.mg y=ao (.ref C))(e:X.N.Nodup)(hi:X.N[i]?=ao n)(hl:X.env.scope.names.lookup n=ao .local)(G:∀x oe,oY (X.tI x oe) (b₀::suite) (ts x oe.cls oe.dict))(hr:PH X rest th)
  (Q:(y==("__debug__" : ba))=ax:=by decide):PH X (.ExceptHandler (ao (.Name y np)) (ao n) (b₀::suite) pos::rest) (tH X.K C i ts th):=by
 intro s J H D x cls R I ex h;obtain⟨E,b,rfl,sb,h⟩:=h;obtain⟨oe,W,P,NY,hd,he,L⟩:=ex.pin I t;have T:=I.tI (x:=x) (oe:=oe) ⟨he,L⟩;refine wpAny_handleBy_cons (codeAny_handlers_test (DU (X:=X.tI x oe) (s:=s) T M hm ?_ Q)) (by intro q;cases q);obtain⟨hh,g,d,tk,os⟩:=s;refine aeF c I.fY he P sb ?_;cases b with
 |false =>
  exact hr _ J H D x _ R I ex (by simpa using h)
 |true =>
  rw[a9 rfl]at h;refine codeAny_handlers_suite_as (WT I t ex λh1 w l=>?_);obtain⟨p,A,F,m,Hu,S,k⟩:=l.pin w t;have o:=w.tI (x:=x) (oe:=p) ⟨S,k⟩;refine SV (X:=X.tI x p) (v:=.ref x) o e hi (.inl hl) rfl (λs2 V=>?_) (.inr hl);rw[<-F,<-m]at h;refine lV (G x p [] s2 (J.set i (ao (.ref x))) H (D.drop i) V h) (λf s3 q=>?_) λ_ _ z=>False.elim z;cases f with
  |next =>
   obtain⟨j,U,B,q⟩:=q;exact WZ (B.uncaught I.ok) e hi hl λs' a=>⟨_,U,a,q⟩
  |brk =>
   obtain⟨j,U,B,q⟩:=q;exact WZ (B.uncaught I.ok) e hi hl λs' a=>⟨_,U,a,q⟩
  |cont =>
   obtain⟨j,U,B,q⟩:=q;exact WZ (B.uncaught I.ok) e hi hl λs' a=>⟨_,U,a,q⟩
  |ret u =>
   obtain⟨v,j,U,B,r,q⟩:=q;exact WZ (B.uncaught I.ok) e hi hl λs' a=>⟨v,_,U,a,r,q⟩
def Rt(tb:WX->TS)(th:TH):TS:=λD J H=>tb (λj cls dx H'=>∀x,H' x=au->th x cls dx D j H') D J H
theorem am3{U:ExceptHandler}{N:aq ExceptHandler}{body:aq b8}{tb:WX->TS}(t:mI X)(k:X.ex=[])(hb:∀W,wD (X.nK (XE X W)) body (tb W))(hh:PH X (U::N) th):YM X (.Try body (U::N) [] [] pos) (Rt tb th):=by
 intro s J H D I h;refine wpAny_Try_except (lV (hb _ s J H D (I.nK _) h) (λf b q=>?_) λe b q=>?_)
 ·have q:=q.vA;cases f with
  |next =>
   obtain⟨j,B,z,q⟩:=q;exact RR ⟨j,B,z,q⟩
  |brk=>exact q
  |cont=>exact q
  |ret u=>exact q
 ·obtain⟨j,B,x,cls,d,rfl,z,ex,q⟩:=q;refine Ef z t ex λh1 i c=>WT i t c λh2 g a=>?_;exact hh _ j B D x cls d g a (q x a.2.1)
end
section
variable{P:bh}{w:bw}{K:bj}{mg:ba->aw av}{base:bz}
theorem aA9{CX:oF}{k:a6}{f:az}{name qual:ba}{params:dj}{body:aq b8}{scope:cn}{h kV doc d z ct C:av}{i p:aw az}
  {R:a8 (aw av)} {N ps:aq ba} {sp:Sp} (D:K.lookup f=ao ⟨C,p,.func (e9 name qual params body scope h kV doc d i z ct),R⟩) (T:codeIn K z qual=a5) (S:dN N ps scope)
  (len:∀vs H Q E,sp vs H Q E->vs.length=ps.length)
  (F:∀(A:bu) (outer:aq Env) (s:ay) (H:Hp) (vs:aq V) (Q:VK) (E:XK),cK k (A.deeper (c8 qual scope s.heap.objs.size f z))->sp vs H Q E ->
   ∃t,wD (mG CX P w K mg base N qual scope f z A outer s H E) body t/\t {nx:=λ_ H'=>Q .aV H',rt:=Q} (start N vs) H) :
  jA P w K mg base CX (k+1) f (e9 name qual params body scope h kV doc d i z ct) ps sp:=by
 refine⟨len,λA outer s H args m vs Q E hr U hb r g=>?_⟩;have hl:=len _ _ _ _ g;have l:K.In s.heap:=U.mod.sS.keeps λb o e=>(U.bs b o e).1;have lim:s.heap.NoLimit:=U.mod.nolimit.keeps λb o e=>(U.bs b o e).1;have W:∀y∈ps.zip m,scope.names.lookup y.1=ao .local\/(scope.names.lookup y.1=ao .cell/\((cellsFrom (s.heap.objs.size+1) scope.names []).lookup y.1).isSome=a5):=λ⟨n,v⟩ G=>by
  rcases S.par n (YU G).1 with q|q
  ·exact .inl q
  ·exact .inr ⟨q,cellsFrom_some _ _ _ (.inl q)⟩
 refine abR hr.depth (l _ _ D) rfl S.co S.gen rfl (codeRec_of l T) (hb _ _ _ _ ?_);refine Pr S.kind W λenv he c x=>?_;subst he;refine⟨lim.keeps x.toInCall.keep,codeAny_func ?_⟩;obtain⟨t,L,M⟩:=F A outer s H vs Q E (hr.deeper _) g;have I:Inv (mG CX P w K mg base N qual scope f z A outer s H E) [] (start N vs) H c:=Fv S hr.hd U hl r x;refine lV (L c (start N vs) H _ I M) (λfl s' B=>?_) λe s' B=>B;have fin:∀{j:St} {H':Hp} {v:V} {u:av},Inv (mG CX P w K mg base N qual scope f z A outer s H E) [] j H' s'->RelV v u->Q v H'->CE outer P w H s Q u s' :=
  λ{j H' v u} σ a q=>⟨v,H',σ.os,σ.bare,σ.base,σ.aK,a,q⟩
 cases fl with
 |ret u =>
  obtain⟨v,j,H',σ,a,q⟩:=B;exact fin σ a q
 |next =>
  obtain⟨j,H',σ,q⟩:=B;exact fin (v:=V.aV) (u:=Value.none) σ rfl q
 |brk =>
  obtain⟨_,_,_,q⟩:=B;exact False.elim q
 |cont =>
  obtain⟨_,_,_,q⟩:=B;exact False.elim q
theorem wD.vI{X:Cx}{st:aq b8}{t:TS}(h:wD X.vI st t):wD X st t:=λs J H D I hw =>
 lV (h s J H D (I.nK _) hw) (λ_ _ q=>q.vA) λ_ _ z=>False.elim z
theorem Def.of0{x:ba}{st:b8}{N ps:aq ba}{k:a6}{sp:Sp}(h:HasFn K mg x st)(S:dN N ps (aZ st))
  (bind:∀(kV doc pm:av) (an:aw az) (j ct:av) (us:aq av),us.length=ps.length->dk (e9 x x (jO st) (eL st) (aZ st) .none kV doc pm an j ct) ⟨us,[]⟩=pure (ps.zip us))
  (len:∀vs H Q E,sp vs H Q E->vs.length=ps.length)
  (B:∀(f:az) (j:av) (A:bu) (outer:aq Env) (s:ay) (H:Hp) (vs:aq V) (Q:VK) (E:XK),cK k (A.deeper (c8 x (aZ st) s.heap.objs.size f j))->sp vs H Q E ->
   ∃t,wD (mG yE P w K mg base N x (aZ st) f j A outer s H E).vI (eL st) t/\t {nx:=λ_ H'=>Q .aV H',rt:=Q} (start N vs) H):Def P w K mg base x (k+1) ps sp:=by
 obtain⟨f,fd,hm,F⟩:=h.ex;refine⟨f,fd,?_,hm,F.kp,F.binds bind⟩;obtain⟨c,b,kV,doc,pm,an,j,ct,d,rfl,z,a⟩:=F.ex;refine aA9 z a S len λA outer s H vs Q E hr U=>?_;obtain⟨t,h,q⟩:=B f j A outer s H vs Q E hr U;exact⟨t,h.vI,q⟩
end
noncomputable def UP(scope sc:cn)(N:aq ba)(js:aq a6):br :=
 scope.kind == .function&&(scope.names.all λy=>y.2 != .cell&&(y.2 != .local||scope.names.lookup y.1==ao .local)&&(y.2 != .free||(sc.names.lookup y.1==ao .cell||sc.names.lookup y.1==ao .free))) &&
 js.all λj=>match N[j]? with
  |some x=>scope.names.lookup x==ao .free
  |none=>ax
theorem wI.of{X:Cx}{scope:cn}{ls:aq ba}{js:aq a6}(sc:cn)(N:aq ba)(c:X.env.scope=sc)(b:X.N=N)(ok:UP scope sc N js=a5):wI X scope ls js:=by
 unfold UP at ok;rw[lK,lK]at ok;obtain⟨⟨h1,h2⟩,U⟩:=ok;rw[FR]at h2 U;refine⟨by simpa using h1,λy z=>?_,λy z hl=>?_,λy z hf=>?_,λj a=>?_⟩
 ·have q:=h2 y z;rw[lK,lK]at q;simpa using q.1.1
 ·have q:=h2 y z;rw[lK,lK]at q;simpa[hl]using q.1.2
 ·have q:=h2 y z;rw[lK,lK]at q;have B:=q.2;rw[hf]at B;unfold Env.kindOf;rw[c];simpa using B
 ·have q:=U j a;rw[b];cases e:N[j]? with
  |none=>rw[e]at q;cases q
  |some x=>rw[e]at q;exact⟨x,rfl,by simpa using q⟩
end L2
namespace PyProof.Rows
open PySem
noncomputable def qO:br->bc->a8 bc->a6->a6->a6->df bo Sem (aw a6):=sortPriv% PySem.Builtin.gallop
noncomputable def AL:a6->df bo Sem Unit:=sortPriv% PySem.Builtin.setMinGallop
noncomputable def MR:a8 bc->a8 bc->df bo Sem (a8 bc):=sortPriv% PySem.Builtin.mergeLo
noncomputable def MT:a8 bc->a8 bc->df bo Sem (a8 bc):=sortPriv% PySem.Builtin.mergeHi
def iY(M:ez)(A:bu)(E:av->ay->Prop)(s:ay)(kd:dz)(P:bc->Prop)(rk:bc->a4):Prop :=
 ∀x y,P x->P y->∀(st:bo) (Q:aw br->bo->Prop),kindOf st=kd->Q (ao (decide (rk x<rk y))) st->wpS M A E s (lt' x y) Q st
theorem aAI(left:br)(key:bc)(arr:a8 bc)(base n ai:a6):qO left key arr base n ai=(do
 let beyond (i:a6):df bo Sem (aw br):=do
  let x<-cv arr (base+i)
  if left then lt' x key else return (<-lt' key x).map (!·)
 let mut sP:=0
 let mut jD:=1
 let mut lo:=0
 let mut hi:=0
 let ao right<-beyond ai|return au
 if right then
  let j:=n-ai
  for _ in [0:n] do
   if jD>=j then break
   let ao more<-beyond (ai+jD)|return au
   if !more then break
   sP:=jD
   jD:=2*jD+1
  lo:=ai+sP+1
  hi:=ai+min jD j
 else
  let j:=ai+1
  for _ in [0:n] do
   if jD>=j then break
   let ao found<-beyond (ai-jD)|return au
   if found then break
   sP:=jD
   jD:=2*jD+1
  lo:=ai+1-min jD j
  hi:=ai-sP
 for _ in [0:n] do
  if lo>=hi then break
  let m:=lo+(hi-lo)/2
  let ao more<-beyond m|return au
  if more then lo:=m+1 else hi:=m
 return ao hi):=rfl
section
variable{M:ez}{A:bu}{E:av->ay->Prop}{s:ay}{kd:dz}{P:bc->Prop}{rk:bc->a4}
theorem ae7(z:iY M A E s kd P rk){st:bo}(q:kindOf st=kd){left:br}{key:bc}{arr:a8 bc}{base i:a6}{x:bc}(j:P key)(N:arr[base+i]?=ao x)(B:P x){Q:aw br->bo->Prop}
  (h:Q (ao (if left then decide (rk x<rk key)else !decide (rk key<rk x))) st):wpS M A E s (do
  let x<-cv arr (base+i)
  if left then lt' x key else return (<-lt' key x).map (!·)) Q st:=by
 have e:cv arr (base+i)=pure x:=by rw[elem'_eq,N]
 rw[e,pure_bind];cases left with
 |true=>exact z x key B j st Q q h
 |false=>exact bJ (z key x j B st _ q (cP h))
noncomputable def aaM(left:br)(key:bc)(arr:a8 bc)(base n j q:a6):df bo Sem (aw a6):=do
 let beyond (i:a6):df bo Sem (aw br):=do
  let x<-cv arr (base+i)
  if left then lt' x key else return (<-lt' key x).map (!·)
 let mut lo:=j
 let mut hi:=q
 for _ in [0:n] do
  if lo>=hi then break
  let m:=lo+(hi-lo)/2
  let ao more<-beyond m|return au
  if more then lo:=m+1 else hi:=m
 return ao hi
theorem Pm{st:bo}{left:br}{key:bc}{arr:a8 bc}{base n:a6}(q:a6->br)
  (t:∀i,i<n->∀{Q:aw br->bo->Prop},Q (ao (q i)) st->wpS M A E s (do
  let x<-cv arr (base+i)
  if left then lt' x key else return (<-lt' key x).map (!·)) Q st) (mono:∀i j,i<=j->j<n->q j=a5->q i=a5) {Q:aw a6->bo->Prop}
  (h:∀k,k<=n->(∀i,i<k->q i=a5)->(∀i,k<=i->i<n->q i=ax)->Q (ao k) st) {lo hi:a6} (h1:lo<=hi) (h2:hi<=n) (o:∀i,i<lo->q i=a5) (m:∀i,hi<=i->i<n->q i=ax) :
  wpS M A E s (aaM left key arr base n lo hi) Q st:=by
 unfold aaM;dsimp only;refine bJ (oH (qB
  (I:=λi (c:aw (aw a6)×a6×a6) z=>z=st/\c.1=au/\c.2.1<=c.2.2/\c.2.2<=n/\(∀i,i<c.2.1->q i=a5)/\(∀i,c.2.2<=i->i<n->q i=ax)/\c.2.2-c.2.1<=n-i)
  (Q:=λ(c:aw (aw a6)×a6×a6) z=>z=st/\c.1=au/\c.2.1=c.2.2/\c.2.2<=n/\(∀i,i<c.2.1->q i=a5)/\(∀i,c.2.2<=i->i<n->q i=ax)) ?step ?fin ⟨rfl,rfl,h1,h2,o,m,by dsimp only;omega⟩) ?post)
 case fin =>
  rintro⟨r,lo,hi⟩ z ⟨e,b,f,U,N,B,p⟩;dsimp only at *;exact⟨e,b,by omega,U,N,B⟩
 case step =>
  rintro i ⟨r,lo,hi⟩ z _ u ⟨rfl,b,f,U,N,B,p⟩;dsimp only at *
  by_cases g:lo>=hi
  ·rw[a9 g];exact dm ⟨rfl,rfl,by dsimp only;omega,U,N,B⟩
  ·rw[bb g];refine bJ (t (lo+(hi-lo)/2) (by omega) ?_);dsimp only;cases hm:q (lo+(hi-lo)/2)with
   |true =>
    simp only[eT];refine dm ⟨rfl,rfl,by dsimp only;omega,U,λj a=>mono j _ (by dsimp only at a;omega) (by omega) hm,B,by dsimp only;omega⟩
   |false =>
    simp only[jW,gH];refine dm ⟨rfl,rfl,by dsimp only;omega,by dsimp only;omega,N,λj a l=>?_,by dsimp only;omega⟩;dsimp only at a;cases d:q j with
    |false=>rfl
    |true=>rw[mono _ j a l d]at hm;cases hm
 case post =>
  rintro⟨r,lo,hi⟩ z ⟨rfl,b,f,U,N,B⟩;dsimp only at *;subst b;exact cP (h hi U (by rw[<-f];exact N) B)
theorem Pj(C:iY M A E s kd P rk){st:bo}(y:kindOf st=kd){left:br}{key:bc}{arr:a8 bc}{base n ai:a6}(v:P key)(m:∀i,i<n->∃x,arr[base+i]?=ao x/\P x)(hh:ai<n)(B:a6->br)
  (hb:∀i x,i<n->arr[base+i]?=ao x->B i=if left then decide (rk x<rk key)else !decide (rk key<rk x)) (mono:∀i j,i<=j->j<n->B j=a5->B i=a5) {Q:aw a6->bo->Prop}
  (h:∀k,k<=n->(∀i,i<k->B i=a5)->(∀i,k<=i->i<n->B i=ax)->Q (ao k) st):wpS M A E s (qO left key arr base n ai) Q st:=by
 have l:∀i,i<n->∀{Q:aw br->bo->Prop},Q (ao (B i)) st->wpS M A E s (do
  let x<-cv arr (base+i)
  if left then lt' x key else return (<-lt' key x).map (!·)) Q st:=λi hi Q q=>by
  obtain⟨x,t,w⟩:=m i hi;rw[hb i x hi t]at q;exact ae7 C y v t w q
 rw[aAI];dsimp only;refine bJ (l ai hh ?_);dsimp only;cases u:B ai with
 |true =>
  simp only[eT];refine bJ (oH (qB
   (I:=λi (c:aw (aw a6)×a6×a6) U=>U=st/\c.1=au/\B (ai+c.2.1)=a5/\c.2.1<c.2.2/\i+1<=c.2.2/\ai+c.2.1<n)
   (Q:=λ(c:aw (aw a6)×a6×a6) U=>U=st/\c.1=au/\B (ai+c.2.1)=a5/\c.2.1<c.2.2/\ai+c.2.1<n/\(n-ai<=c.2.2\/B (ai+c.2.2)=ax)) ?step ?fin (show _/\_/\B (ai+0)=a5/\(0:a6)<1/\0+1<=(1:a6)/\ai+0<n from⟨rfl,rfl,u,by decide,by decide,hh⟩)) ?post)
  case fin =>
   rintro⟨r,sP,jD⟩ U ⟨e,d,N,b,p,a⟩;dsimp only at *;exact⟨e,d,N,b,a,.inl (by omega)⟩
  case step =>
   rintro i ⟨r,sP,jD⟩ U _ g ⟨rfl,d,N,b,p,a⟩;dsimp only at *
   by_cases f:jD>=n-ai
   ·rw[a9 f];exact cP ⟨rfl,rfl,N,b,a,.inl f⟩
   ·rw[bb f];refine bJ (l (ai+jD) (by omega) ?_);dsimp only;cases hm:B (ai+jD)with
    |true =>
     simp only[Bool.not_true,jW,gH];exact dm ⟨rfl,rfl,hm,by dsimp only;omega,by dsimp only;omega,by dsimp only;omega⟩
    |false =>
     simp only[Bool.not_false,eT];exact cP ⟨rfl,rfl,N,b,a,.inr hm⟩
  case post =>
   rintro⟨r,sP,jD⟩ U ⟨rfl,d,N,b,a,o⟩;dsimp only at *;subst d;refine Pm (lo:=ai+sP+1) (hi:=ai+min jD (n-ai)) B (λi hi=>l i hi) mono h (by omega) (by omega) (λi hi=>mono i (ai+sP) (by omega) (by omega) N) (λi hi g=>?_)
   rcases o with z|z
   ·omega
   ·cases WB:B i with
    |false=>rfl
    |true =>
     by_cases hle:ai+jD<=i
     ·rw[mono _ i hle g WB]at z;cases z
     ·omega
 |false =>
  simp only[jW,gH];refine bJ (oH (qB
   (I:=λi (c:aw (aw a6)×a6×a6) U=>U=st/\c.1=au/\B (ai-c.2.1)=ax/\c.2.1<c.2.2/\i+1<=c.2.2/\c.2.1<=ai)
   (Q:=λ(c:aw (aw a6)×a6×a6) U=>U=st/\c.1=au/\B (ai-c.2.1)=ax/\c.2.1<c.2.2/\c.2.1<=ai/\(ai+1<=c.2.2\/(c.2.2<=ai/\B (ai-c.2.2)=a5))) ?step ?fin (show _/\_/\B (ai-0)=ax/\(0:a6)<1/\0+1<=(1:a6)/\0<=ai from⟨rfl,rfl,u,by decide,by decide,BR _⟩)) ?post)
  case fin =>
   rintro⟨r,sP,jD⟩ U ⟨e,d,N,b,p,a⟩;dsimp only at *;exact⟨e,d,N,b,a,.inl (by omega)⟩
  case step =>
   rintro i ⟨r,sP,jD⟩ U _ g ⟨rfl,d,N,b,p,a⟩;dsimp only at *
   by_cases f:jD>=ai+1
   ·rw[a9 f];exact cP ⟨rfl,rfl,N,b,a,.inl f⟩
   ·rw[bb f];refine bJ (l (ai-jD) (by omega) ?_);dsimp only;cases hm:B (ai-jD)with
    |true =>
     simp only[eT];exact dm ⟨rfl,rfl,N,b,a,.inr ⟨by dsimp only;omega,hm⟩⟩
    |false =>
     simp only[jW,gH];exact dm ⟨rfl,rfl,hm,by dsimp only;omega,by dsimp only;omega,by dsimp only;omega⟩
  case post =>
   rintro⟨r,sP,jD⟩ U ⟨rfl,d,N,b,a,o⟩;dsimp only at *;subst d;refine Pm (lo:=ai+1-min jD (ai+1)) (hi:=ai-sP) B (λi hi=>l i hi) mono h (by omega) (by omega) (λi hi=>?_) (λi hi g=>?_)
   ·rcases o with z|⟨D,z⟩
    ·omega
    ·exact mono i (ai-jD) (by omega) (by omega) z
   ·cases WB:B i with
    |false=>rfl
    |true=>rw[mono _ i hi g WB]at N;cases N
end
theorem ar3(a b:a8 bc):MR a b=(do
 rule "list.sort.merge-lo"
 let ak:=a.size+b.size
 let done (ae:a8 bc) (ia ib:a6):=ae++a.extract ia a.size++b.extract ib b.size
 let j (ae:a8 bc) (ia ib:a6):=ae++b.extract ib b.size++a.extract ia a.size
 let mut ae:a8 bc:=#[<-cv b 0]
 let mut ia:=0
 let mut ib:=1
 if ib==b.size then return done ae ia ib
 if ia+1==a.size then return j ae ia ib
 let mut aj:=gallopOf (<-get)
 for _ in [0:ak] do
  let mut tK:=0
  let mut tJ:=0
  for _ in [0:ak] do
   let ao q<-lt' (<-cv b ib) (<-cv a ia)|return done ae ia ib
   if q then
    ae:=ae.push (<-cv b ib);ib:=ib+1;tJ:=tJ+1;tK:=0
    if ib==b.size then return done ae ia ib
    if tJ>=aj then break
   else
    ae:=ae.push (<-cv a ia);ia:=ia+1;tK:=tK+1;tJ:=0
    if ia+1==a.size then return j ae ia ib
    if tK>=aj then break
  rule "list.sort.gallop"
  aj:=aj+1
  for _ in [0:ak] do
   if aj>1 then aj:=aj-1
   AL aj
   let ao k<-qO ax (<-cv b ib) a ia (a.size-ia) 0|return done ae ia ib
   tK:=k
   if k>0 then
    ae:=ae++a.extract ia (ia+k);ia:=ia+k
    if ia+1==a.size then return j ae ia ib
    if ia==a.size then return done ae ia ib
   ae:=ae.push (<-cv b ib);ib:=ib+1
   if ib==b.size then return done ae ia ib
   let ao k<-qO a5 (<-cv a ia) b ib (b.size-ib) 0|return done ae ia ib
   tJ:=k
   if k>0 then
    ae:=ae++b.extract ib (ib+k);ib:=ib+k
    if ib==b.size then return done ae ia ib
   ae:=ae.push (<-cv a ia);ia:=ia+1
   if ia+1==a.size then return j ae ia ib
   if tK<7&&tJ<7 then break
  aj:=aj+1
  AL aj
 unsupported "internal:list.sort.merge-bound"):=rfl
section
variable{α:Type}{rk:α->a4}{al bl ae:aq α}{ia ib:a6}
abbrev dD(rk:α->a4)(l:aq α):Prop:=l.Pairwise λx y=>rk x<=rk y
structure MI(rk:α->a4)(al bl ae:aq α)(ia ib:a6):Prop where
 la:ia<=al.length
 lb:ib<=bl.length
 perm:ae.Perm (al.take ia++bl.take ib)
 AI:dD rk ae
 low:∀x∈ae,∀y∈al.drop ia++bl.drop ib,rk x<=rk y
theorem MI.TV(h:MI rk al bl ae ia ib){y:α}(U:bl[ib]?=ao y)(sb:dD rk bl)(e:∀x∈al.drop ia,rk y<=rk x):MI rk al bl (ae++[y]) ia (ib+1):=by
 have b:ib<bl.length:=(cY.mp U).1;have c:bl[ib]=y:=(cY.mp U).2;have ed:bl.drop ib=y::bl.drop (ib+1):=by rw[QW b,c]
 have f:bl.take (ib+1)=bl.take ib++[y]:=by rw[adN,U];rfl
 refine⟨h.la,b,?_,?_,λx a z B=>?_⟩
 ·rw[f,<-kE];exact h.perm.append_right [y]
 ·refine uT.mpr ⟨h.AI,by simp,λx a z B=>?_⟩;simp only[lT]at B;subst B;exact h.low x a z (by rw[ed];simp)
 ·have N:z∈al.drop ia++bl.drop ib:=by
   rw[ed]
   rcases kL.mp B with q|q
   ·exact oB _ q
   ·exact kK _ (iP _ q)
  rcases kL.mp a with q|q
  ·exact h.low x q z N
  ·simp only[lT]at q;subst q
   rcases kL.mp B with q|q
   ·exact e z q
   ·have:=(List.pairwise_iff_getElem (R:=λx y=>rk x<=rk y)).mp sb;obtain⟨j,d,rfl⟩:=CA q;rw[Ms];rw[<-c];exact this ib (ib+1+j) b (by simp at d;omega) (by omega)
theorem MI.swap(h:MI rk al bl ae ia ib):MI rk bl al ae ib ia :=
 ⟨h.lb,h.la,h.perm.trans FK,h.AI,λx z y j=>h.low x z y (by
  rcases kL.mp j with q|q
  ·exact kK _ q
  ·exact oB _ q)⟩
theorem MI.HM(h:MI rk al bl ae ia ib){x:α}(j:al[ia]?=ao x)(sa:dD rk al)(hb:∀y∈bl.drop ib,rk x<=rk y):MI rk al bl (ae++[x]) (ia+1) ib:=(h.swap.TV j sa hb).swap
theorem MI.HI(h:MI rk al bl ae ia ib)(sa:dD rk al):∀k,ia+k<=al.length->(∀j x,j<k->al[ia+j]?=ao x->∀y∈bl.drop ib,rk x<=rk y)->MI rk al bl (ae++(al.drop ia).take k) (ia+k) ib
 |0,_,_=>by simpa using h
 |k+1,z,hb=>by
  have ih:=h.HI sa k (by omega) λj x B=>hb j x (by omega);have q:al[ia+k]?=ao (al[ia+k]'(by omega)):=fF _;have e:(al.drop ia).take (k+1)=(al.drop ia).take k++[al[ia+k]'(by omega)]:=by
   rw[adN,adR,q];rfl
  rw[e,<-kE];exact ih.HM q sa (hb k _ (by omega) q)
theorem MI.akK(h:MI rk al bl ae ia ib)(sb:dD rk bl)(k:a6)(q:ib+k<=bl.length)(z:∀j y,j<k->bl[ib+j]?=ao y->∀x∈al.drop ia,rk y<=rk x):MI rk al bl (ae++(bl.drop ib).take k) ia (ib+k):=(h.swap.HI sb k q z).swap
theorem MI.EO(h:MI rk al bl ae ia ib)(sa:dD rk al)(he:ib=bl.length):(ae++al.drop ia++bl.drop ib).Perm (al++bl)/\dD rk (ae++al.drop ia++bl.drop ib):=by
 subst he;have e:bl.drop bl.length=[]:=List.drop_length;rw[e,rW];have p:=h.perm;rw[List.take_length]at p;refine⟨?_,uT.mpr ⟨h.AI,sa.sublist (List.drop_sublist _ _),λx z y j=>h.low x z y (oB _ j)⟩⟩;have q:(al.take ia++bl++al.drop ia).Perm (al++bl):=by
  have:(al.take ia++bl++al.drop ia).Perm (al.take ia++al.drop ia++bl):=by
   rw[kE,kE];exact KH _ FK
  rwa[tN]at this
 exact(p.append_right _).trans q
theorem MI.UR(h:MI rk al bl ae ia ib)(sb:dD rk bl)(he:ia+1=al.length)(hl:∀x∈al.drop ia,∀y∈bl,rk y<=rk x):(ae++bl.drop ib++al.drop ia).Perm (al++bl)/\dD rk (ae++bl.drop ib++al.drop ia):=by
 constructor
 ·have p:=h.perm;have q:(al.take ia++bl.take ib++(bl.drop ib++al.drop ia)).Perm (al++bl):=by
   have N:al.take ia++bl.take ib++(bl.drop ib++al.drop ia)=al.take ia++(bl.take ib++bl.drop ib++al.drop ia):=by simp only[kE]
   rw[N,tN];have:(al.take ia++(bl++al.drop ia)).Perm (al.take ia++(al.drop ia++bl)):=KH _ FK;rwa[<-kE (al.take ia) (al.drop ia),tN]at this
  rw[kE];exact(p.append_right _).trans q
 ·refine uT.mpr ⟨uT.mpr ⟨h.AI,sb.sublist (List.drop_sublist _ _),λx B y j=>h.low x B y (kK _ j)⟩,?_,λx B y j=>?_⟩
  ·have e:(al.drop ia).length=1:=by simp;omega
   match hd:al.drop ia,e with
   |[z],_=>simp
  ·rcases kL.mp B with q|q
   ·exact h.low x q y (oB _ j)
   ·exact hl y j x (Mq q)
end
section
variable{M:ez}{A:bu}{E:av->ay->Prop}{s:ay}
theorem kT{arr:a8 bc}{i:a6}{x:bc}{st:bo}{Q:bc->bo->Prop}(h:arr[i]?=ao x)(q:Q x st):wpS M A E s (cv arr i) Q st:=by
 rw[elem'_eq,h];exact cP q
theorem akD(g:a6):AL g=modify λs=>SortSt.mk' (kindOf s) (bp s) (cb s) g (d9 s):=rfl
structure eQ(st aI:bo):Prop where
 kind:kindOf aI=kindOf st
 arr:bp aI=bp st
 pend:cb aI=cb st
 failed:d9 aI=d9 st
theorem eQ.refl(st:bo):eQ st st:=⟨rfl,rfl,rfl,rfl⟩
theorem RP{g:a6}{st:bo}{Q:Unit->bo->Prop}(h:∀j,eQ st j->Q () j):wpS M A E s (AL g) Q st:=by
 rw[akD];exact GK (h _ ⟨rfl,rfl,rfl,rfl⟩)
theorem eQ.trans{a b c:bo}(h:eQ a b)(k:eQ b c):eQ a c:=⟨k.kind.trans h.kind,k.arr.trans h.arr,k.pend.trans h.pend,k.failed.trans h.failed⟩
end
theorem zK(ae a b:a8 bc)(ia ib:a6):(ae++a.extract ia a.size++b.extract ib b.size).toList=ae.toList++a.toList.drop ia++b.toList.drop ib:=by
 simp[ZQ,JZ]
theorem Td(a:a8 bc)(i k:a6):(a.extract i (i+k)).toList=(a.toList.drop i).take k:=by
 simp[ZQ]
abbrev YS:=aw (a8 bc)×a8 bc×a6×a6×a6×a6
noncomputable def Fb(a b:a8 bc)(mg:a6)(z:a8 bc)(j q:a6):df bo Sem YS :=
 forIn [0:a.size+b.size] ((au,z,j,q,0,0):YS) λ_ c=>do
  let y<-cv b c.2.2.2.1
  let x<-cv a c.2.2.1
  let r<-lt' y x
  match r with
  |some B =>
   if B=a5 then do
    let y<-cv b c.2.2.2.1
    if(c.2.2.2.1+1==b.size)=a5 then pure (ForInStep.done (ao (c.2.1.push y++a.extract c.2.2.1 a.size++b.extract (c.2.2.2.1+1) b.size),c.2.1.push y,c.2.2.1,c.2.2.2.1+1,0,c.2.2.2.2.2+1))
    else if c.2.2.2.2.2+1>=mg then pure (ForInStep.done (au,c.2.1.push y,c.2.2.1,c.2.2.2.1+1,0,c.2.2.2.2.2+1))
    else pure (ForInStep.yield (au,c.2.1.push y,c.2.2.1,c.2.2.2.1+1,0,c.2.2.2.2.2+1))
   else do
    let x<-cv a c.2.2.1
    if(c.2.2.1+1+1==a.size)=a5 then pure (ForInStep.done (ao (c.2.1.push x++b.extract c.2.2.2.1 b.size++a.extract (c.2.2.1+1) a.size),c.2.1.push x,c.2.2.1+1,c.2.2.2.1,c.2.2.2.2.1+1,0))
    else if c.2.2.2.2.1+1>=mg then pure (ForInStep.done (au,c.2.1.push x,c.2.2.1+1,c.2.2.2.1,c.2.2.2.2.1+1,0))
    else pure (ForInStep.yield (au,c.2.1.push x,c.2.2.1+1,c.2.2.2.1,c.2.2.2.2.1+1,0))
  |_=>pure (ForInStep.done (ao (c.2.1++a.extract c.2.2.1 a.size++b.extract c.2.2.2.1 b.size),c.2.1,c.2.2.1,c.2.2.2.1,c.2.2.2.2.1,c.2.2.2.2.2))
structure FE(P:bc->Prop)(rk:bc->a4)(a b:a8 bc):Prop where
 pa:∀x∈a.toList,P x
 pb:∀x∈b.toList,P x
 sa:dD rk a.toList
 sb:dD rk b.toList
 top:∀x∈a.toList.drop (a.size-1),∀y∈b.toList,rk y<=rk x
def jQ(rk:bc->a4)(a b m:a8 bc):Prop:=m.toList.Perm (a.toList++b.toList)/\dD rk m.toList
section
variable{M:ez}{A:bu}{E:av->ay->Prop}{s:ay}{kd:dz}{P:bc->Prop}{rk:bc->a4}{a b:a8 bc}
theorem HH{l:aq bc}(h:dD rk l){i:a6}{x:bc}(q:l[i]?=ao x):∀z∈l.drop i,rk x<=rk z:=λz B=>by
 have hi:i<l.length:=(cY.mp q).1;have ex:l[i]=x:=(cY.mp q).2;obtain⟨j,N,rfl⟩:=CA B;rw[Ms,<-ex]
 by_cases U:j=0
 ·subst U;exact lJ _
 ·exact(List.pairwise_iff_getElem (R:=λx y=>rk x<=rk y)).mp h i (i+j) hi (by simp at N;omega) (by omega)
theorem aeY(F:iY M A E s kd P rk)(T:FE P rk a b){st:bo}(D:kindOf st=kd){mg:a6}{v:a8 bc}{B N:a6}(G:MI rk a.toList b.toList v.toList B N)(h1:B+1<a.size)(h2:N<b.size){Q:YS->bo->Prop}
  (hr:∀m o i j x y,jQ rk a b m->Q (ao m,o,i,j,x,y) st)
  (hn:∀ae ia ib x y,MI rk a.toList b.toList ae.toList ia ib->ia+1<a.size->ib<b.size->B+N<=ia+ib->Q (au,ae,ia,ib,x,y) st):wpS M A E s (Fb a b mg v B N) Q st:=by
 unfold Fb;refine qB (I:=λ_ (c:YS) h=>h=st/\c.1=au/\MI rk a.toList b.toList c.2.1.toList c.2.2.1 c.2.2.2.1/\c.2.2.1+1<a.size/\c.2.2.2.1<b.size/\B+N<=c.2.2.1+c.2.2.2.1) ?step ?fin ⟨rfl,rfl,G,h1,h2,rV _⟩
 case fin =>
  rintro⟨r,ae,ia,ib,x,y⟩ h ⟨rfl,u,l,k,d,C⟩;dsimp only at *;subst u;exact hn ae ia ib x y l k d C
 case step =>
  rintro i ⟨r,ae,ia,ib,K,H⟩ h _ L ⟨rfl,u,l,k,d,C⟩;dsimp only at *;subst u;have e:b[ib]?=ao b[ib]:=oR b ib d;have f:a[ia]?=ao (a[ia]'(by omega)):=oR a ia (by omega);generalize b[ib]=y at e;generalize a[ia]'(by omega)=x at f;have p:b.toList[ib]?=ao y:=by rw[mM];exact e
  have n:a.toList[ia]?=ao x:=by rw[mM];exact f
  refine bJ (kT e (bJ (kT f (bJ (F y x (T.pb y (mJ p)) (T.pa x (mJ n)) h _ D ?_)))));dsimp only
  by_cases w:rk y<rk x
  ·rw[vT w,a9 rfl];refine bJ (kT e ?_);have q:=l.TV p T.sb λz t=>by have:=HH T.sa n z t;omega
   rw[<-GJ]at q
   by_cases he:ib+1=b.size
   ·rw[a9 (by simpa using he)];refine cP (hr _ _ _ _ _ _ ?_);have g:=q.EO T.sa (by simpa using he);unfold jQ;rw[zK];exact g
   ·rw[bb (by simpa using he)]
    by_cases U:H+1>=mg
    ·rw[a9 U];exact cP (hn _ _ _ _ _ q k (by omega) (by omega))
    ·rw[bb U];exact dm ⟨rfl,rfl,q,k,by dsimp only;omega,by dsimp only;omega⟩
  ·rw[nY w,bb (by simp)];refine bJ (kT f ?_);have q:=l.HM n T.sa λz t=>by have:=HH T.sb p z t;omega
   rw[<-GJ]at q
   by_cases he:ia+1+1=a.size
   ·rw[a9 (by simpa using he)];refine cP (hr _ _ _ _ _ _ ?_);have g:=q.UR T.sb (by simpa using he) (by rw[show ia+1=a.size-1 by omega];exact T.top);unfold jQ;rw[zK];exact g
   ·rw[bb (by simpa using he)]
    by_cases U:K+1>=mg
    ·rw[a9 U];exact cP (hn _ _ _ _ _ q (by omega) d (by omega))
    ·rw[bb U];exact dm ⟨rfl,rfl,q,by dsimp only;omega,d,by dsimp only;omega⟩
end
abbrev xV:=aw (a8 bc)×a8 bc×a6×a6×a6×a6×a6
noncomputable def UL(a b:a8 bc)(ae:a8 bc)(ia ib mg q j:a6):df bo Sem (ek xV):=do
 let x<-cv a ia
 if(ia+1+1==a.size)=a5 then pure (ForInStep.done (ao (ae.push x++b.extract ib b.size++a.extract (ia+1) a.size),ae.push x,ia+1,ib,mg,q,j))
 else if(decide (q<7)&&decide (j<7))=a5 then pure (ForInStep.done (au,ae.push x,ia+1,ib,mg,q,j))
 else pure (ForInStep.yield (au,ae.push x,ia+1,ib,mg,q,j))
def Fe(a b:a8 bc)(ae:a8 bc)(ia ib mg j q:a6):df bo Sem (ek xV):=do
 let x<-cv a ia
 let r<-qO a5 x b ib (b.size-ib) 0
 match r with
 |some k =>
  if k>0 then
   if(ib+k==b.size)=a5 then pure (ForInStep.done (ao (ae++b.extract ib (ib+k)++a.extract ia a.size++b.extract (ib+k) b.size),ae++b.extract ib (ib+k),ia,ib+k,mg,j,k))
   else UL a b (ae++b.extract ib (ib+k)) ia (ib+k) mg j k
  else UL a b ae ia ib mg j k
 |_=>pure (ForInStep.done (ao (ae++a.extract ia a.size++b.extract ib b.size),ae,ia,ib,mg,j,q))
def UM(a b:a8 bc)(ae:a8 bc)(ia ib mg q j:a6):df bo Sem (ek xV):=do
 let y<-cv b ib
 if(ib+1==b.size)=a5 then pure (ForInStep.done (ao (ae.push y++a.extract ia a.size++b.extract (ib+1) b.size),ae.push y,ia,ib+1,mg,q,j))
 else Fe a b (ae.push y) ia (ib+1) mg q j
def MZ(a b:a8 bc)(ae:a8 bc)(ia ib mg q j:a6):df bo Sem (ek xV):=do
 AL mg
 let y<-cv b ib
 let r<-qO ax y a ia (a.size-ia) 0
 match r with
 |some k =>
  if k>0 then
   if(ia+k+1==a.size)=a5 then pure (ForInStep.done (ao (ae++a.extract ia (ia+k)++b.extract ib b.size++a.extract (ia+k) a.size),ae++a.extract ia (ia+k),ia+k,ib,mg,k,j))
   else if(ia+k==a.size)=a5 then pure (ForInStep.done (ao (ae++a.extract ia (ia+k)++a.extract (ia+k) a.size++b.extract ib b.size),ae++a.extract ia (ia+k),ia+k,ib,mg,k,j))
   else UM a b (ae++a.extract ia (ia+k)) (ia+k) ib mg k j
  else UM a b ae ia ib mg k j
 |_=>pure (ForInStep.done (ao (ae++a.extract ia a.size++b.extract ib b.size),ae,ia,ib,mg,q,j))
section
variable{M:ez}{A:bu}{E:av->ay->Prop}{s:ay}{kd:dz}{P:bc->Prop}{rk:bc->a4}{a b:a8 bc}
def BV(rk:bc->a4)(a b:a8 bc)(lo:a6)(st:bo)(r:ek xV)(j:bo):Prop:=eQ st j/\(match r with
 |.done c=>(∃m,c.1=ao m/\jQ rk a b m)\/(c.1=au/\MI rk a.toList b.toList c.2.1.toList c.2.2.1 c.2.2.2.1/\c.2.2.1+1<a.size/\c.2.2.2.1<b.size/\lo<=c.2.2.1+c.2.2.2.1)
 | .yield c=>c.1=au/\MI rk a.toList b.toList c.2.1.toList c.2.2.1 c.2.2.2.1/\c.2.2.1+1<a.size/\c.2.2.2.1<b.size/\lo<=c.2.2.1+c.2.2.2.1)
theorem nZ{a:a8 bc}{i:a6}(h:i<a.size):∃x,a[i]?=ao x/\a.toList[i]?=ao x/\x∈a.toList:=by
 refine⟨a[i],oR a i h,?_,?_⟩
 ·rw[mM];exact oR a i h
 ·exact Array.getElem_mem_toList h
theorem Pe(T:FE P rk a b){st:bo}{ae:a8 bc}{ia ib mg c U lo:a6}(h:MI rk a.toList b.toList ae.toList ia ib)(h1:ia+1<a.size)(h2:ib<b.size)(N:∀x,a.toList[ia]?=ao x->∀z∈b.toList.drop ib,rk x<=rk z)(d:lo<=ia+ib+1) :
  wpS M A E s (UL a b ae ia ib mg c U) (BV rk a b lo st) st:=by
 obtain⟨x,B,q,_⟩:=nZ (show ia<a.size by omega);unfold UL;refine bJ (kT B ?_);have j:=h.HM q T.sa (N x q);rw[<-GJ]at j
 by_cases he:ia+1+1=a.size
 ·rw[a9 (by simpa using he)];refine cP ⟨eQ.refl _,.inl ⟨_,rfl,?_⟩⟩;have g:=j.UR T.sb (by simpa using he) (by rw[show ia+1=a.size-1 by omega];exact T.top);unfold jQ;rw[zK];exact g
 ·rw[bb (by simpa using he)];split
  ·exact dm ⟨eQ.refl _,.inr ⟨rfl,j,by dsimp only;omega,h2,by dsimp only;omega⟩⟩
  ·exact dm ⟨eQ.refl _,rfl,j,by dsimp only;omega,h2,by dsimp only;omega⟩
theorem HG{l:aq bc}(h:dD rk l){i j:a6}{x y:bc}(B:i<=j)(z:l[i]?=ao x)(q:l[j]?=ao y):rk x<=rk y :=
 HH h z y (mJ (i:=j-i) (by rw[adR,show i+(j-i)=j by omega];exact q))
theorem abL{l:aq bc}{i:a6}{z:bc}(h:z∈l.drop i):∃j,i<=j/\l[j]?=ao z:=by
 obtain⟨j,q⟩:=List.getElem?_of_mem h;rw[adR]at q;exact⟨i+j,by omega,q⟩
theorem Pn(l:iY M A E s kd P rk){st:bo}(g:kindOf st=kd){left:br}{key:bc}{arr:a8 bc}(d:P key)(f:∀x∈arr.toList,P x)(e:dD rk arr.toList){base:a6}(hb:base<arr.size){Q:aw a6->bo->Prop}
  (h:∀k,base+k<=arr.size->(∀j x,j<k->arr.toList[base+j]?=ao x->(if left then rk x<rk key else rk x<=rk key))->(∀j x,base+k<=j->arr.toList[j]?=ao x->(if left then rk key<=rk x else rk key<rk x))->Q (ao k) st) :
  wpS M A E s (qO left key arr base (arr.size-base) 0) Q st:=by
 have NT:∀i,i<arr.size-base->∃x,arr[base+i]?=ao x/\arr.toList[base+i]?=ao x/\x∈arr.toList:=λi hi=>nZ (by omega);refine Pj l g d (λi hi=>let ⟨x,N,_,b⟩:=NT i hi; ⟨x,N,f x b⟩) (by omega) (λi=>match arr[base+i]? with|some x=>if left then decide (rk x<rk key)else !decide (rk key<rk x)|none=>ax) (λi x hi z=>by simp only[z]) (λi j o B hb=>?_) (λk p n m=>h k (by omega) (λj x B z=>?_) (λj x B z=>?_))
 ·obtain⟨x,N,c,_⟩:=NT i (by omega);obtain⟨y,a,U,_⟩:=NT j B;simp only[N,a]at hb ⊢;have:=HG e (show base+i<=base+j by omega) c U;cases left with
  |true=>simp only[eT,BI]at hb ⊢;omega
  |false=>simp only[jW,gH,ZP,PK]at hb ⊢;omega
 ·have q:=n j B;rw[mM]at z;simp only[z]at q;cases left with
  |true=>simpa using q
  |false=>simp only[jW,gH,ZP,PK]at q ⊢;omega
 ·have r:j<arr.size:=by have:=(cY.mp z).1;simpa using this
  have q:=m (j-base) (by omega) (by omega);rw[mM]at z;rw[show base+(j-base)=j by omega]at q;simp only[z]at q;cases left with
  |true=>simp only[eT,PK]at q ⊢;omega
  |false=>simp only[jW,gH,Bool.not_eq_false',BI]at q ⊢;exact q
theorem aeZ(p:iY M A E s kd P rk)(T:FE P rk a b){st:bo}(o:kindOf st=kd){ae:a8 bc}{ia ib mg v u lo:a6}(h:MI rk a.toList b.toList ae.toList ia ib)(h1:ia+1<a.size)(h2:ib<b.size)(n:lo<=ia+ib+1) :
  wpS M A E s (Fe a b ae ia ib mg v u) (BV rk a b lo st) st:=by
 obtain⟨x,l,c,i⟩:=nZ (show ia<a.size by omega);unfold Fe;refine bJ (kT l (bJ (Pn p o (T.pa x i) T.pb T.sb h2 λk r f e=>?_)));dsimp only;simp only[eT]at f e;have B:=h.akK T.sb k (by simpa using r) λj y U q z N=>by
  have:=f j y U q;have:=HH T.sa c z N;omega
 rw[<-Td,<-ad8]at B;have last:∀y,a.toList[ia]?=ao y->∀z∈b.toList.drop (ib+k),rk y<=rk z:=λy q z N=>by
  rw[c]at q;cases q;obtain⟨j,U,t⟩:=abL N;exact e j z U t
 by_cases d:k>0
 ·rw[a9 d]
  by_cases he:ib+k=b.size
  ·rw[a9 (by simpa using he)];refine cP ⟨eQ.refl _,.inl ⟨_,rfl,?_⟩⟩;have g:=B.EO T.sa (by simpa using he);unfold jQ;rw[zK];exact g
  ·rw[bb (by simpa using he)];exact Pe T B h1 (by omega) last (by omega)
 ·rw[bb d];have m:k=0:=by omega
  subst m;exact Pe T h h1 h2 last n
theorem Pf(c:iY M A E s kd P rk)(T:FE P rk a b){st:bo}(U:kindOf st=kd){ae:a8 bc}{ia ib mg e d lo:a6}(h:MI rk a.toList b.toList ae.toList ia ib)(h1:ia+1<a.size)(h2:ib<b.size)(N:∀y,b.toList[ib]?=ao y->∀z∈a.toList.drop ia,rk y<=rk z)(f:lo<=ia+ib+2) :
  wpS M A E s (UM a b ae ia ib mg e d) (BV rk a b lo st) st:=by
 obtain⟨y,B,q,_⟩:=nZ h2;unfold UM;refine bJ (kT B ?_);have j:=h.TV q T.sb (N y q);rw[<-GJ]at j
 by_cases he:ib+1=b.size
 ·rw[a9 (by simpa using he)];refine cP ⟨eQ.refl _,.inl ⟨_,rfl,?_⟩⟩;have g:=j.EO T.sa (by simpa using he);unfold jQ;rw[zK];exact g
 ·rw[bb (by simpa using he)];exact aeZ c T U j h1 (by omega) (by omega)
end
def Ez(a b:a8 bc)(z:a8 bc)(j q U B N:a6):df bo Sem xV :=
 forIn [0:a.size+b.size] ((au,z,j,q,U,B,N):xV) λ_ c =>
  if c.2.2.2.2.1>1 then MZ a b c.2.1 c.2.2.1 c.2.2.2.1 (c.2.2.2.2.1-1) c.2.2.2.2.2.1 c.2.2.2.2.2.2 else MZ a b c.2.1 c.2.2.1 c.2.2.2.1 c.2.2.2.2.1 c.2.2.2.2.2.1 c.2.2.2.2.2.2
section
variable{M:ez}{A:bu}{E:av->ay->Prop}{s:ay}{kd:dz}{P:bc->Prop}{rk:bc->a4}{a b:a8 bc}
theorem BV.trans{lo:a6}{st j q:bo}{r:ek xV}(g:eQ st j)(h:BV rk a b lo j r q):BV rk a b lo st r q:=⟨g.trans h.1,h.2⟩
theorem ae0(f:iY M A E s kd P rk)(T:FE P rk a b){st:bo}(F:kindOf st=kd){ae:a8 bc}{ia ib mg K I lo:a6}(h:MI rk a.toList b.toList ae.toList ia ib)(h1:ia+1<a.size)(h2:ib<b.size)(w:lo<=ia+ib+2) :
  wpS M A E s (MZ a b ae ia ib mg K I) (BV rk a b lo st) st:=by
 obtain⟨y,u,l,t⟩:=nZ h2;unfold MZ;refine bJ (RP λC B=>?_);have i:kindOf C=kd:=B.kind.trans F;refine bJ (kT u (bJ (Pn f i (T.pb y t) T.pa T.sa (by omega) λk L o n=>?_)));dsimp only;simp only[jW,gH]at o n;have N:=h.HI T.sa k (by simpa using L) λj x e d z U=>by
  have:=o j x e d;have:=HH T.sb l z U;omega
 rw[<-Td,<-ad8]at N;have p:∀z,b.toList[ib]?=ao z->∀x∈a.toList.drop (ia+k),rk z<=rk x:=λz U x d=>by
  rw[l]at U;cases U;obtain⟨j,e,G⟩:=abL d;have:=n j x e G;omega
 by_cases m:k>0
 ·rw[a9 m]
  by_cases he:ia+k+1=a.size
  ·rw[a9 (by simpa using he)];refine cP ⟨B,.inl ⟨_,rfl,?_⟩⟩;have g:=N.UR T.sb (by simpa using he) (by rw[show ia+k=a.size-1 by omega];exact T.top);unfold jQ;rw[zK];exact g
  ·rw[bb (by simpa using he)]
   by_cases c:ia+k=a.size
   ·rw[a9 (by simpa using c)];refine cP ⟨B,.inl ⟨_,rfl,?_⟩⟩;have g:=N.swap.EO T.sb (by simpa using c);have H:a.toList.drop (ia+k)=[]:=adS (by simp;omega);unfold jQ;rw[zK];rw[H,rW]at g ⊢;exact⟨g.1.trans FK,g.2⟩
   ·rw[bb (by simpa using c)];exact oH (Pf f T i N (by omega) h2 p (by omega)) λr D q=>q.trans B
 ·rw[bb m];have v:k=0:=by omega
  subst v;exact oH (Pf f T i h h1 h2 p w) λr D q=>q.trans B
theorem aeX(C:iY M A E s kd P rk)(T:FE P rk a b){st:bo}(y:kindOf st=kd){p:a8 bc}{z B V L R:a6}(D:MI rk a.toList b.toList p.toList z B)(h1:z+1<a.size)(h2:B<b.size){Q:xV->bo->Prop}
  (hr:∀m c j,eQ st j->jQ rk a b m->Q (ao m,c) j)
  (hn:∀ae ia ib c j,eQ st j->MI rk a.toList b.toList ae.toList ia ib->ia+1<a.size->ib<b.size->z+B+2<=ia+ib->Q (au,ae,ia,ib,c) j):wpS M A E s (Ez a b p z B V L R) Q st:=by
 unfold Ez;refine qB (I:=λi (c:xV) j=>eQ st j/\c.1=au/\MI rk a.toList b.toList c.2.1.toList c.2.2.1 c.2.2.2.1/\c.2.2.1+1<a.size/\c.2.2.2.1<b.size/\(i=0->c.2.2.1=z/\c.2.2.2.1=B)/\(0<i->z+B+2<=c.2.2.1+c.2.2.2.1)) ?step ?fin ⟨eQ.refl _,rfl,D,h1,h2,λ_=>⟨rfl,rfl⟩,λh=>b7 h (by decide)⟩
 case fin =>
  rintro⟨r,ae,ia,ib,c⟩ j ⟨g,f,o,n,l,t,k⟩;dsimp only at *;subst f;exact hn ae ia ib c j g o n l (k (by omega))
 case step =>
  rintro i ⟨r,ae,ia,ib,mg,H,G⟩ j _ W ⟨g,f,o,n,l,t,k⟩;dsimp only at *;subst f;have iV:z+B<=ia+ib:=by
   by_cases hi:i=0
   ·have:=t hi;omega
   ·have:=k (by omega);omega
  have K:∀mg,wpS M A E s (MZ a b ae ia ib mg H G) (BV rk a b (z+B+2) j) j:=λmg=>ae0 C T (g.kind.trans y) o n l (by omega);split
  all_goals
   refine oH (K _) λr x q=>?_;obtain⟨d,q⟩:=q
   match r,q with
   |.done (ao m,c),.inl ⟨X,e,F⟩=>dsimp only at e;cases e;exact hr _ _ _ (g.trans d) F
   |.done (au,S,U,N,c),.inr ⟨_,m,w,v,u⟩=>exact hn S U N c x (g.trans d) m w v u
   |.yield c,q=>exact⟨g.trans d,q.1,q.2.1,q.2.2.1,q.2.2.2.1,λh=>by omega,λ_=>q.2.2.2.2⟩
theorem gM{J α:Type}{c:Prop} [c5 c]{t e:df J Sem α}{Q:α->J->Prop}{st:J}(h1:c->wpS M A E s t Q st)(h2:¬c->wpS M A E s e Q st):wpS M A E s (if c then t else e) Q st:=by
 split
 ·exact h1 ‹_›
 ·exact h2 ‹_›
theorem aeT(C:iY M A E s kd P rk)(T:FE P rk a b)(ha:0<a.size)(hb:0<b.size)(n:∀y,b.toList[0]?=ao y->∀x∈a.toList,rk y<=rk x){st:bo}(w:kindOf st=kd):wpS M A E s (MR a b) (λm q=>eQ st q/\jQ rk a b m) st:=by
 rw[ar3];refine bJ (wpS_lift (wL ⟨rfl,?_⟩));obtain⟨y,F,v,y3⟩:=nZ hb;refine bJ (kT F ?_);have N:MI rk a.toList b.toList (#[y]:a8 bc).toList 0 1:=by
  have V:MI rk a.toList b.toList [] 0 0:=⟨by simp,by simp,by simp,by simp,by simp⟩;exact V.TV v T.sb (by simpa using n y v)
 refine gM (λhe=>?_) (λhe=>?_)
 ·have he:1=b.size:=by simpa using he
  refine cP ⟨eQ.refl _,?_⟩;have g:=N.EO T.sa (by simpa using he);unfold jQ;rw[zK];exact g
 have he:¬1=b.size:=by simpa using he
 refine gM (λz=>?_) (λz=>?_)
 ·have z:0+1=a.size:=by simpa using z
  refine cP ⟨eQ.refl _,?_⟩;have g:=N.UR T.sb (by simpa using z) (by rw[show 0=a.size-1 by omega];exact T.top);unfold jQ;rw[zK];exact g
 have z:¬0+1=a.size:=by simpa using z
 refine bJ (yH ?_);refine bJ (oH (qB
  (I:=λi (c:aw (a8 bc)×a8 bc×a6×a6×a6) q=>eQ st q/\c.1=au/\MI rk a.toList b.toList c.2.1.toList c.2.2.1 c.2.2.2.1/\c.2.2.1+1<a.size/\c.2.2.2.1<b.size/\i<=c.2.2.1+c.2.2.2.1)
  (Q:=λ(c:aw (a8 bc)×a8 bc×a6×a6×a6) q=>eQ st q/\∃m,c.1=ao m/\jQ rk a b m) ?step ?fin ⟨eQ.refl _,rfl,N,by dsimp only;omega,by dsimp only;omega,by dsimp only;omega⟩) ?post)
 case fin =>
  rintro⟨r,ae,h,d,c⟩ q ⟨g,l,u,t,p,D⟩;dsimp only at *;omega
 case post =>
  rintro⟨r,ae,h,d,c⟩ q ⟨g,m,e,B⟩;dsimp only at e;subst e;exact cP ⟨g,B⟩
 case step =>
  rintro i ⟨r,ae,h,d,mg⟩ q _ mC ⟨g,l,u,t,p,D⟩;dsimp only at l u t p D;subst l;refine bJ (show wpS M A E s (Fb a b mg ae h d) _ _ from aeY C T (g.kind.trans w) u t p (λm o i j x y B=>?_) (λae f U x y S R L n4=>?_))
  ·exact cP ⟨g,m,rfl,B⟩
  ·refine bJ (wpS_lift (wL ⟨rfl,?_⟩));refine bJ (show wpS M A E s (Ez a b ae f U (mg+1) x y) _ _ from aeX C T (g.kind.trans w) S R L (λm c iF k B=>?_) (λae X W c iF k K H G o4=>?_))
   ·exact cP ⟨g.trans k,m,rfl,B⟩
   ·refine bJ (RP λiE g2=>?_);exact dm ⟨(g.trans k).trans g2,rfl,K,H,G,by dsimp only;omega⟩
end
section
variable{α:Type}{rk:α->a4}{al bl ae:aq α}{na nb:a6}
structure MH(rk:α->a4)(al bl ae:aq α)(na nb:a6):Prop where
 la:na<=al.length
 lb:nb<=bl.length
 perm:ae.Perm (al.drop na++bl.drop nb)
 AI:ae.Pairwise λx y=>rk y<=rk x
 high:∀x∈ae,∀y∈al.take na++bl.take nb,rk y<=rk x
theorem Rp{l:aq α}{n:a6}{x:α}(j:l[n]?=ao x):l.take (n+1)=l.take n++[x]:=by rw[adN,j];rfl
theorem XA{l:aq α}{n:a6}{x:α}(j:l[n]?=ao x):l.drop n=x::l.drop (n+1):=by
 have h:=(cY.mp j);rw[QW h.1,h.2]
theorem ajI{l:aq α}(h:dD rk l){n:a6}{x:α}(q:l[n]?=ao x):∀y∈l.take n,rk y<=rk x:=λy j=>by
 have e:l=l.take n++x::l.drop (n+1):=by rw[<-XA q,tN]
 rw[e]at h;exact(uT.mp h).2.2 y j x (by simp)
theorem MH.swap(h:MH rk al bl ae na nb):MH rk bl al ae nb na :=
 ⟨h.lb,h.la,h.perm.trans FK,h.AI,λx z y j=>h.high x z y (by
  rcases kL.mp j with q|q
  ·exact kK _ q
  ·exact oB _ q)⟩
theorem MH.HM(h:MH rk al bl ae (na+1) nb){x:α}(N:al[na]?=ao x)(sa:dD rk al)(hb:∀y∈bl.take nb,rk y<=rk x):MH rk al bl (ae++[x]) na nb:=by
 have U:=Rp N;have ed:=XA N;have hi:=h.high;rw[U]at hi;refine⟨by have:=h.la;omega,h.lb,?_,?_,λy B z j=>?_⟩
 ·rw[ed];exact FK.trans (KH [x] h.perm)
 ·refine uT.mpr ⟨h.AI,by simp,λy B z j=>?_⟩;simp only[lT]at j;subst j;exact hi y B z (by simp)
 ·rcases kL.mp B with q|q
  ·refine hi y q z ?_
   rcases kL.mp j with r|r
   ·exact oB _ (oB _ r)
   ·exact kK _ r
  ·simp only[lT]at q;subst q
   rcases kL.mp j with r|r
   ·exact ajI sa N z r
   ·exact hb z r
theorem MH.HI(sa:dD rk al):∀k na,MH rk al bl ae (na+k) nb->(∀j x,na<=j->j<na+k->al[j]?=ao x->∀y∈bl.take nb,rk y<=rk x)->MH rk al bl (ae++((al.drop na).take k).reverse) na nb
 |0,na,h,_=>by simpa using h
 |k+1,na,h,hb=>by
  have q:al[na]?=ao (al[na]'(by have:=h.la;omega)):=fF _;have ih:=MH.HI sa k (na+1) (by rw[show na+1+k=na+(k+1)by omega];exact h) λj x h1 h2=>hb j x (by omega) (by omega);have e:((al.drop na).take (k+1)).reverse=((al.drop (na+1)).take k).reverse++[al[na]'(by have:=h.la;omega)]:=by
   rw[XA q,List.take_succ_cons,List.reverse_cons]
  rw[e,<-kE];exact ih.HM q sa (hb na _ (by omega) (by omega) q)
theorem MH.all(h:MH rk al bl ae na nb):(al.take na++bl.take nb++ae.reverse).Perm (al++bl):=by
 have p:(al.take na++bl.take nb++ae.reverse).Perm (al.take na++bl.take nb++(al.drop na++bl.drop nb)):=KH _ ((List.reverse_perm _).trans h.perm);refine p.trans ?_;have e:al.take na++bl.take nb++(al.drop na++bl.drop nb)=al.take na++(bl.take nb++al.drop na++bl.drop nb):=by simp only[kE]
 have j:al++bl=al.take na++(al.drop na++bl.take nb++bl.drop nb):=by
  rw[kE (al.drop na),tN,<-kE,tN]
 rw[e,j];exact KH _ (FK.append_right _)
theorem MH.rev(h:MH rk al bl ae na nb):dD rk ae.reverse:=List.pairwise_reverse.mpr h.AI
theorem MH.abG(h:MH rk al bl ae na nb)(sb:dD rk bl)(he:na=0):(al.take na++bl.take nb++ae.reverse).Perm (al++bl)/\dD rk (al.take na++bl.take nb++ae.reverse):=by
 refine⟨h.all,?_⟩;have hi:=h.high;have r:=h.rev;subst he;rw[Mn,wH]at hi ⊢;exact uT.mpr ⟨sb.sublist (YT _ _),r,λx q y j=>hi y (List.mem_reverse.mp j) x q⟩
theorem MH.EO(h:MH rk al bl ae na nb)(sa:dD rk al)(he:nb=0):(al.take na++bl.take nb++ae.reverse).Perm (al++bl)/\dD rk (al.take na++bl.take nb++ae.reverse):=by
 have q:=h.swap.abG sa he;subst he;refine⟨h.all,?_⟩;rw[Mn,wH]at q;rw[Mn,rW];exact q.2
theorem MH.aBC(h:MH rk al bl ae na nb)(sa:dD rk al)(sb:dD rk bl)(hl:∀y∈bl.take nb,∀x∈al,rk y<=rk x):(bl.take nb++al.take na++ae.reverse).Perm (al++bl)/\dD rk (bl.take nb++al.take na++ae.reverse):=by
 refine⟨h.swap.all.trans FK,uT.mpr ⟨uT.mpr ⟨sb.sublist (YT _ _),sa.sublist (YT _ _),λx q y j=>hl x q y (adO j)⟩,h.rev,λx q y j=>?_⟩⟩;refine h.high y (List.mem_reverse.mp j) x ?_
 rcases kL.mp q with r|r
 ·exact kK _ r
 ·exact oB _ r
end
theorem Jv(ae a b:a8 bc)(na nb:a6):(a.extract 0 na++b.extract 0 nb++ae.reverse).toList=a.toList.take na++b.toList.take nb++ae.toList.reverse:=by
 simp[ZQ]
theorem akI(a:a8 bc)(i k:a6):((a.extract i (i+k)).reverse).toList=((a.toList.drop i).take k).reverse:=by
 simp[ZQ]
section
variable{M:ez}{A:bu}{E:av->ay->Prop}{s:ay}{kd:dz}{P:bc->Prop}{rk:bc->a4}{a b:a8 bc}
theorem ZW(g:iY M A E s kd P rk){st:bo}(e:kindOf st=kd){left:br}{key:bc}{arr:a8 bc}{base n ai:a6}(c:P key)(N:∀i,i<n->∃x,arr[base+i]?=ao x/\P x)(d:∀i j x y,i<=j->j<n->arr[base+i]?=ao x->arr[base+j]?=ao y->rk x<=rk y)(hb:ai<n){Q:aw a6->bo->Prop}
  (h:∀k,k<=n->(∀j x,j<k->arr[base+j]?=ao x->(if left then rk x<rk key else rk x<=rk key))->(∀j x,k<=j->j<n->arr[base+j]?=ao x->(if left then rk key<=rk x else rk key<rk x))->Q (ao k) st) :
  wpS M A E s (qO left key arr base n ai) Q st:=by
 refine Pj g e c N hb (λi=>match arr[base+i]? with|some x=>if left then decide (rk x<rk key)else !decide (rk key<rk x)|none=>ax) (λi x hi B=>by simp only[B]) (λi j f z hb=>?_) (λk o m l=>h k (by omega) (λj x z B=>?_) (λj x z b B=>?_))
 ·obtain⟨x,a,_⟩:=N i (by omega);obtain⟨y,U,_⟩:=N j z;simp only[a,U]at hb ⊢;have:=d i j x y f z a U;cases left with
  |true=>simp only[eT,BI]at hb ⊢;omega
  |false=>simp only[jW,gH,ZP,PK]at hb ⊢;omega
 ·have q:=m j z;simp only[B]at q;cases left with
  |true=>simpa using q
  |false=>simp only[jW,gH,ZP,PK]at q ⊢;omega
 ·have q:=l j z b;simp only[B]at q;cases left with
  |true=>simp only[eT,PK]at q ⊢;omega
  |false=>simp only[jW,gH,Bool.not_eq_false',BI]at q ⊢;exact q
end
theorem ar4(a b:a8 bc):MT a b=(do
 rule "list.sort.merge-hi"
 let ak:=a.size+b.size
 let done (ae:a8 bc) (na nb:a6):=a.extract 0 na++b.extract 0 nb++ae.reverse
 let j (ae:a8 bc) (na nb:a6):=b.extract 0 nb++a.extract 0 na++ae.reverse
 let mut na:=a.size-1
 let mut nb:=b.size
 let mut ae:a8 bc:=#[<-cv a na]
 if na==0 then return done ae na nb
 if nb==1 then return j ae na nb
 let mut aj:=gallopOf (<-get)
 for _ in [0:ak] do
  let mut tK:=0
  let mut tJ:=0
  for _ in [0:ak] do
   let ao q<-lt' (<-cv b (nb-1)) (<-cv a (na-1))|return done ae na nb
   if q then
    na:=na-1;ae:=ae.push (<-cv a na);tK:=tK+1;tJ:=0
    if na==0 then return done ae na nb
    if tK>=aj then break
   else
    nb:=nb-1;ae:=ae.push (<-cv b nb);tJ:=tJ+1;tK:=0
    if nb==1 then return j ae na nb
    if tJ>=aj then break
  rule "list.sort.gallop"
  aj:=aj+1
  for _ in [0:ak] do
   if aj>1 then aj:=aj-1
   AL aj
   let ao at_<-qO ax (<-cv b (nb-1)) a 0 na (na-1)|return done ae na nb
   let k:=na-at_
   tK:=k
   if k>0 then
    ae:=ae++(a.extract at_ na).reverse;na:=at_
    if na==0 then return done ae na nb
   nb:=nb-1;ae:=ae.push (<-cv b nb)
   if nb==1 then return j ae na nb
   let ao at_<-qO a5 (<-cv a (na-1)) b 0 nb (nb-1)|return done ae na nb
   let k:=nb-at_
   tJ:=k
   if k>0 then
    ae:=ae++(b.extract at_ nb).reverse;nb:=at_
    if nb==1 then return j ae na nb
    if nb==0 then return done ae na nb
   na:=na-1;ae:=ae.push (<-cv a na)
   if na==0 then return done ae na nb
   if tK<7&&tJ<7 then break
  aj:=aj+1
  AL aj
 unsupported "internal:list.sort.merge-bound"):=rfl
abbrev ZE:=aw (a8 bc)×a6×a6×a8 bc×a6×a6
abbrev zU:=aw (a8 bc)×a6×a6×a8 bc×a6×a6×a6
noncomputable def Hk(a b:a8 bc)(mg:a6)(j q:a6)(z:a8 bc):df bo Sem ZE :=
 forIn [0:a.size+b.size] ((au,j,q,z,0,0):ZE) λ_ c=>do
  let y<-cv b (c.2.2.1-1)
  let x<-cv a (c.2.1-1)
  let r<-lt' y x
  match r with
  |some B =>
   if B=a5 then do
    let x<-cv a (c.2.1-1)
    if(c.2.1-1==0)=a5 then pure (ForInStep.done (ao (a.extract 0 (c.2.1-1)++b.extract 0 c.2.2.1++(c.2.2.2.1.push x).reverse),c.2.1-1,c.2.2.1,c.2.2.2.1.push x,c.2.2.2.2.1+1,0))
    else if c.2.2.2.2.1+1>=mg then pure (ForInStep.done (au,c.2.1-1,c.2.2.1,c.2.2.2.1.push x,c.2.2.2.2.1+1,0))
    else pure (ForInStep.yield (au,c.2.1-1,c.2.2.1,c.2.2.2.1.push x,c.2.2.2.2.1+1,0))
   else do
    let y<-cv b (c.2.2.1-1)
    if(c.2.2.1-1==1)=a5 then pure (ForInStep.done (ao (b.extract 0 (c.2.2.1-1)++a.extract 0 c.2.1++(c.2.2.2.1.push y).reverse),c.2.1,c.2.2.1-1,c.2.2.2.1.push y,0,c.2.2.2.2.2+1))
    else if c.2.2.2.2.2+1>=mg then pure (ForInStep.done (au,c.2.1,c.2.2.1-1,c.2.2.2.1.push y,0,c.2.2.2.2.2+1))
    else pure (ForInStep.yield (au,c.2.1,c.2.2.1-1,c.2.2.2.1.push y,0,c.2.2.2.2.2+1))
  |_=>pure (ForInStep.done (ao (a.extract 0 c.2.1++b.extract 0 c.2.2.1++c.2.2.2.1.reverse),c.2.1,c.2.2.1,c.2.2.2.1,c.2.2.2.2.1,c.2.2.2.2.2))
noncomputable def VN(a b:a8 bc)(na nb:a6)(ae:a8 bc)(mg q j:a6):df bo Sem (ek zU):=do
 let x<-cv a (na-1)
 if(na-1==0)=a5 then pure (ForInStep.done (ao (a.extract 0 (na-1)++b.extract 0 nb++(ae.push x).reverse),na-1,nb,ae.push x,mg,q,j))
 else if(decide (q<7)&&decide (j<7))=a5 then pure (ForInStep.done (au,na-1,nb,ae.push x,mg,q,j))
 else pure (ForInStep.yield (au,na-1,nb,ae.push x,mg,q,j))
def Hl(a b:a8 bc)(na nb:a6)(ae:a8 bc)(mg j q:a6):df bo Sem (ek zU):=do
 let x<-cv a (na-1)
 let r<-qO a5 x b 0 nb (nb-1)
 match r with
 |some k =>
  if nb-k>0 then
   if(k==1)=a5 then pure (ForInStep.done (ao (b.extract 0 k++a.extract 0 na++(ae++(b.extract k nb).reverse).reverse),na,k,ae++(b.extract k nb).reverse,mg,j,nb-k))
   else if(k==0)=a5 then pure (ForInStep.done (ao (a.extract 0 na++b.extract 0 k++(ae++(b.extract k nb).reverse).reverse),na,k,ae++(b.extract k nb).reverse,mg,j,nb-k))
   else VN a b na k (ae++(b.extract k nb).reverse) mg j (nb-k)
  else VN a b na nb ae mg j (nb-k)
 |_=>pure (ForInStep.done (ao (a.extract 0 na++b.extract 0 nb++ae.reverse),na,nb,ae,mg,j,q))
def VP(a b:a8 bc)(na nb:a6)(ae:a8 bc)(mg q j:a6):df bo Sem (ek zU):=do
 let y<-cv b (nb-1)
 if(nb-1==1)=a5 then pure (ForInStep.done (ao (b.extract 0 (nb-1)++a.extract 0 na++(ae.push y).reverse),na,nb-1,ae.push y,mg,q,j))
 else Hl a b na (nb-1) (ae.push y) mg q j
def AY(a b:a8 bc)(na nb:a6)(ae:a8 bc)(mg q j:a6):df bo Sem (ek zU):=do
 AL mg
 let y<-cv b (nb-1)
 let r<-qO ax y a 0 na (na-1)
 match r with
 |some k =>
  if na-k>0 then
   if(k==0)=a5 then pure (ForInStep.done (ao (a.extract 0 k++b.extract 0 nb++(ae++(a.extract k na).reverse).reverse),k,nb,ae++(a.extract k na).reverse,mg,na-k,j))
   else VP a b k nb (ae++(a.extract k na).reverse) mg (na-k) j
  else VP a b na nb ae mg (na-k) j
 |_=>pure (ForInStep.done (ao (a.extract 0 na++b.extract 0 nb++ae.reverse),na,nb,ae,mg,q,j))
def Hj(a b:a8 bc)(j q:a6)(z:a8 bc)(U B N:a6):df bo Sem zU :=
 forIn [0:a.size+b.size] ((au,j,q,z,U,B,N):zU) λ_ c =>
  if c.2.2.2.2.1>1 then AY a b c.2.1 c.2.2.1 c.2.2.2.1 (c.2.2.2.2.1-1) c.2.2.2.2.2.1 c.2.2.2.2.2.2 else AY a b c.2.1 c.2.2.1 c.2.2.2.1 c.2.2.2.2.1 c.2.2.2.2.2.1 c.2.2.2.2.2.2
structure BO(P:bc->Prop)(rk:bc->a4)(a b:a8 bc):Prop where
 pa:∀x∈a.toList,P x
 pb:∀x∈b.toList,P x
 sa:dD rk a.toList
 sb:dD rk b.toList
 bot:∀y∈b.toList.take 1,∀x∈a.toList,rk y<=rk x
section
variable{M:ez}{A:bu}{E:av->ay->Prop}{s:ay}{kd:dz}{P:bc->Prop}{rk:bc->a4}{a b:a8 bc}
theorem Bc{l:aq bc}{i:a6}{z:bc}(h:z∈l.take i):∃j,j<i/\l[j]?=ao z:=by
 obtain⟨j,q⟩:=List.getElem?_of_mem h;rw[KD]at q;split at q
 ·exact⟨j,‹_›,q⟩
 ·cases q
theorem SY{l:aq bc}(h:dD rk l){i:a6}{x:bc}(hi:0<i)(z:l[i-1]?=ao x):∀y∈l.take i,rk y<=rk x:=λy q=>by
 obtain⟨j,B,e⟩:=Bc q;exact HG h (by omega) e z
theorem MH.TX{ae:a8 bc}{na nb:a6}(h:MH rk a.toList b.toList ae.toList na nb)(hn:0<na){x:bc}(j:a.toList[na-1]?=ao x)(sa:dD rk a.toList)(hb:∀y∈b.toList.take nb,rk y<=rk x):MH rk a.toList b.toList (ae.push x).toList (na-1) nb:=by
 rw[GJ];exact MH.HM (na:=na-1) (by rw[show na-1+1=na by omega];exact h) j sa hb
theorem MH.Ui{ae:a8 bc}{na nb:a6}(h:MH rk a.toList b.toList ae.toList na nb)(hn:0<nb){x:bc}(j:b.toList[nb-1]?=ao x)(sb:dD rk b.toList)(hb:∀y∈a.toList.take na,rk y<=rk x):MH rk a.toList b.toList (ae.push x).toList na (nb-1):=(h.swap.TX hn j sb hb).swap
theorem MH.Te{ae:a8 bc}{na nb k:a6}(h:MH rk a.toList b.toList ae.toList na nb)(sa:dD rk a.toList)(q:k<=na)(hb:∀j x,k<=j->j<na->a.toList[j]?=ao x->∀y∈b.toList.take nb,rk y<=rk x):MH rk a.toList b.toList (ae++(a.extract k na).reverse).toList k nb:=by
 obtain⟨d,rfl⟩:∃d,na=k+d:=⟨na-k,by omega⟩;rw[ad8,akI];exact MH.HI sa d k h hb
theorem MH.akJ{ae:a8 bc}{na nb k:a6}(h:MH rk a.toList b.toList ae.toList na nb)(sb:dD rk b.toList)(q:k<=nb)(hb:∀j x,k<=j->j<nb->b.toList[j]?=ao x->∀y∈a.toList.take na,rk y<=rk x):MH rk a.toList b.toList (ae++(b.extract k nb).reverse).toList na k:=(h.swap.Te sb q hb).swap
theorem MH.WG{ae:a8 bc}{na nb:a6}(h:MH rk a.toList b.toList ae.toList na nb)(sb:dD rk b.toList)(he:na=0):jQ rk a b (a.extract 0 na++b.extract 0 nb++ae.reverse):=by
 unfold jQ;rw[Jv];exact h.abG sb he
theorem MH.aAC{ae:a8 bc}{na nb:a6}(h:MH rk a.toList b.toList ae.toList na nb)(sa:dD rk a.toList)(he:nb=0):jQ rk a b (a.extract 0 na++b.extract 0 nb++ae.reverse):=by
 unfold jQ;rw[Jv];exact h.EO sa he
theorem MH.WE{ae:a8 bc}{na nb:a6}(h:MH rk a.toList b.toList ae.toList na nb)(T:BO P rk a b)(he:nb=1):jQ rk a b (b.extract 0 nb++a.extract 0 na++ae.reverse):=by
 unfold jQ;rw[Jv];exact h.aBC T.sa T.sb (by rw[he];exact T.bot)
theorem ae2(D:iY M A E s kd P rk)(T:BO P rk a b){st:bo}(C:kindOf st=kd){mg:a6}{p:a8 bc}{B N:a6}(F:MH rk a.toList b.toList p.toList B N)(h1:0<B)(h2:1<N){Q:ZE->bo->Prop}
  (hr:∀m c,jQ rk a b m->Q (ao m,c) st)
  (hn:∀ae na nb c,MH rk a.toList b.toList ae.toList na nb->0<na->1<nb->na+nb<=B+N->Q (au,na,nb,ae,c) st):wpS M A E s (Hk a b mg B N p) Q st:=by
 unfold Hk;refine qB (I:=λ_ (c:ZE) d=>d=st/\c.1=au/\MH rk a.toList b.toList c.2.2.2.1.toList c.2.1 c.2.2.1/\0<c.2.1/\1<c.2.2.1/\c.2.1+c.2.2.1<=B+N) ?step ?fin ⟨rfl,rfl,F,h1,h2,rV _⟩
 case fin =>
  rintro⟨r,na,nb,ae,c⟩ d ⟨rfl,h,q,U,e,u⟩;dsimp only at *;subst h;exact hn ae na nb c q U e u
 case step =>
  rintro i ⟨r,na,nb,ae,K,H⟩ d _ G ⟨rfl,h,q,U,e,u⟩;dsimp only at *;subst h;have la:=q.la;have lb:=q.lb;rw[gL]at la lb;obtain⟨y,l,k,v⟩:=nZ (show nb-1<b.size by omega);obtain⟨x,o,n,w⟩:=nZ (show na-1<a.size by omega);refine bJ (kT l (bJ (kT o (bJ (D y x (T.pb y v) (T.pa x w) d _ C ?_)))));dsimp only
  by_cases t:rk y<rk x
  ·rw[vT t,a9 rfl];refine bJ (kT o ?_);have j:=q.TX U n T.sa λz f=>by have:=SY T.sb (by omega) k z f;omega
   refine gM (λhe=>?_) (λhe=>?_)
   ·exact cP (hr _ _ (j.WG T.sb (by simpa using he)))
   ·have he:¬na-1=0:=by simpa using he
    refine gM (λg=>?_) (λg=>?_)
    ·exact cP (hn _ _ _ _ j (by omega) e (by omega))
    ·exact dm ⟨rfl,rfl,j,by dsimp only;omega,e,by dsimp only;omega⟩
  ·rw[nY t,bb (by simp)];refine bJ (kT l ?_);have j:=q.Ui (by omega) k T.sb λz f=>by have:=SY T.sa (by omega) n z f;omega
   refine gM (λhe=>?_) (λhe=>?_)
   ·exact cP (hr _ _ (j.WE T (by simpa using he)))
   ·have he:¬nb-1=1:=by simpa using he
    refine gM (λg=>?_) (λg=>?_)
    ·exact cP (hn _ _ _ _ j U (by omega) (by omega))
    ·exact dm ⟨rfl,rfl,j,U,by dsimp only;omega,by dsimp only;omega⟩
def RC(rk:bc->a4)(a b:a8 bc)(hi:a6)(st:bo)(r:ek zU)(j:bo):Prop:=eQ st j/\(match r with
 |.done c=>(∃m,c.1=ao m/\jQ rk a b m)\/(c.1=au/\MH rk a.toList b.toList c.2.2.2.1.toList c.2.1 c.2.2.1/\0<c.2.1/\1<c.2.2.1/\c.2.1+c.2.2.1<=hi)
 | .yield c=>c.1=au/\MH rk a.toList b.toList c.2.2.2.1.toList c.2.1 c.2.2.1/\0<c.2.1/\1<c.2.2.1/\c.2.1+c.2.2.1<=hi)
theorem Pg(T:BO P rk a b){st:bo}{ae:a8 bc}{na nb mg d c hi:a6}(h:MH rk a.toList b.toList ae.toList na nb)(h1:0<na)(h2:1<nb)(N:∀x,a.toList[na-1]?=ao x->∀z∈b.toList.take nb,rk z<=rk x)(e:na+nb<=hi+1) :
  wpS M A E s (VN a b na nb ae mg d c) (RC rk a b hi st) st:=by
 have la:=h.la;rw[gL]at la;obtain⟨x,B,q,_⟩:=nZ (show na-1<a.size by omega);unfold VN;refine bJ (kT B ?_);have j:=h.TX h1 q T.sa (N x q);refine gM (λhe=>?_) (λhe=>?_)
 ·exact cP ⟨eQ.refl _,.inl ⟨_,rfl,j.WG T.sb (by simpa using he)⟩⟩
 ·have he:¬na-1=0:=by simpa using he
  refine gM (λU=>?_) (λU=>?_)
  ·exact dm ⟨eQ.refl _,.inr ⟨rfl,j,by dsimp only;omega,h2,by dsimp only;omega⟩⟩
  ·exact dm ⟨eQ.refl _,rfl,j,by dsimp only;omega,h2,by dsimp only;omega⟩
theorem Pk(f:iY M A E s kd P rk){st:bo}(e:kindOf st=kd){left:br}{key:bc}{arr:a8 bc}(b:P key)(d:∀x∈arr.toList,P x)(c:dD rk arr.toList){n:a6}(m:0<n)(hn:n<=arr.size){Q:aw a6->bo->Prop}
  (h:∀k,k<=n->(∀j x,j<k->arr.toList[j]?=ao x->(if left then rk x<rk key else rk x<=rk key))->(∀j x,k<=j->j<n->arr.toList[j]?=ao x->(if left then rk key<=rk x else rk key<rk x))->Q (ao k) st) :
  wpS M A E s (qO left key arr 0 n (n-1)) Q st:=by
 refine ZW f e b (λi hi=>?_) (λi j x y l z q B=>?_) (by omega) (λk g h1 h2=>h k g (λj x z q=>h1 j x z ?_) (λj x z N q=>h2 j x z N ?_))
 ·obtain⟨x,a,_,U⟩:=nZ (show 0+i<arr.size by omega);exact⟨x,a,d x U⟩
 ·rw[<-mM]at q B;exact HG c (show 0+i<=0+j by omega) q B
 ·rw[xU,<-mM];exact q
 ·rw[xU,<-mM];exact q
theorem ae3(r:iY M A E s kd P rk)(T:BO P rk a b){st:bo}(p:kindOf st=kd){ae:a8 bc}{na nb mg w v hi:a6}(h:MH rk a.toList b.toList ae.toList na nb)(h1:0<na)(h2:1<nb)(o:na+nb<=hi+1) :
  wpS M A E s (Hl a b na nb ae mg w v) (RC rk a b hi st) st:=by
 have la:=h.la;have lb:=h.lb;rw[gL]at la lb;obtain⟨x,l,d,i⟩:=nZ (show na-1<a.size by omega);unfold Hl;refine bJ (kT l (bJ (Pk r p (T.pa x i) T.pb T.sb (by omega) lb λk t f e=>?_)));dsimp only;simp only[eT]at f e;have N:=h.akJ T.sb t λj y c g B z U=>by
  have:=e j y c g B;have:=SY T.sa h1 d z U;omega
 have last:∀y,a.toList[na-1]?=ao y->∀z∈b.toList.take k,rk z<=rk y:=λy B z U=>by
  rw[d]at B;cases B;obtain⟨j,c,u⟩:=Bc U;have:=f j z c u;omega
 refine gM (λm=>?_) (λm=>?_)
 ·refine gM (λhe=>?_) (λhe=>?_)
  ·exact cP ⟨eQ.refl _,.inl ⟨_,rfl,N.WE T (by simpa using he)⟩⟩
  ·have he:¬k=1:=by simpa using he
   refine gM (λq=>?_) (λq=>?_)
   ·exact cP ⟨eQ.refl _,.inl ⟨_,rfl,N.aAC T.sa (by simpa using q)⟩⟩
   ·have q:¬k=0:=by simpa using q
    exact Pg T N h1 (by omega) last (by omega)
 ·have n:k=nb:=by omega
  subst n;exact Pg T h h1 h2 last o
theorem Ph(c:iY M A E s kd P rk)(T:BO P rk a b){st:bo}(U:kindOf st=kd){ae:a8 bc}{na nb mg e d hi:a6}(h:MH rk a.toList b.toList ae.toList na nb)(h1:0<na)(h2:1<nb)(N:∀y,b.toList[nb-1]?=ao y->∀z∈a.toList.take na,rk z<=rk y)(f:na+nb<=hi+2) :
  wpS M A E s (VP a b na nb ae mg e d) (RC rk a b hi st) st:=by
 have lb:=h.lb;rw[gL]at lb;obtain⟨y,B,j,_⟩:=nZ (show nb-1<b.size by omega);unfold VP;refine bJ (kT B ?_);have q:=h.Ui (by omega) j T.sb (N y j);refine gM (λhe=>?_) (λhe=>?_)
 ·exact cP ⟨eQ.refl _,.inl ⟨_,rfl,q.WE T (by simpa using he)⟩⟩
 ·have he:¬nb-1=1:=by simpa using he
  exact ae3 c T U q h1 (by omega) (by omega)
theorem ae4(d:iY M A E s kd P rk)(T:BO P rk a b){st:bo}(D:kindOf st=kd){ae:a8 bc}{na nb mg H G hi:a6}(h:MH rk a.toList b.toList ae.toList na nb)(h1:0<na)(h2:1<nb)(v:na+nb<=hi+2) :
  wpS M A E s (AY a b na nb ae mg H G) (RC rk a b hi st) st:=by
 have la:=h.la;have lb:=h.lb;rw[gL]at la lb;obtain⟨y,o,f,n⟩:=nZ (show nb-1<b.size by omega);unfold AY;refine bJ (RP λw N=>?_);have e:kindOf w=kd:=N.kind.trans D;refine bJ (kT o (bJ (Pk d e (T.pb y n) T.pa T.sa h1 la λk I l i=>?_)));dsimp only;simp only[jW,gH]at l i;have g:=h.Te T.sa I λj x c p U z B=>by
  have:=i j x c p U;have:=SY T.sb (by omega) f z B;omega
 have m:∀z,b.toList[nb-1]?=ao z->∀x∈a.toList.take k,rk x<=rk z:=λz B x U=>by
  rw[f]at B;cases B;obtain⟨j,c,F⟩:=Bc U;exact l j x c F
 refine gM (λt=>?_) (λt=>?_)
 ·refine gM (λhe=>?_) (λhe=>?_)
  ·exact cP ⟨N,.inl ⟨_,rfl,g.WG T.sb (by simpa using he)⟩⟩
  ·have he:¬k=0:=by simpa using he
   exact oH (Ph d T e g (by omega) h2 m (by omega)) λr C q=>⟨N.trans q.1,q.2⟩
 ·have u:k=na:=by omega
  subst u;exact oH (Ph d T e h h1 h2 m v) λr C q=>⟨N.trans q.1,q.2⟩
theorem ae1(D:iY M A E s kd P rk)(T:BO P rk a b){st:bo}(C:kindOf st=kd){t:a8 bc}{z B V L R:a6}(d:MH rk a.toList b.toList t.toList z B)(h1:0<z)(h2:1<B){Q:zU->bo->Prop}
  (hr:∀m c j,eQ st j->jQ rk a b m->Q (ao m,c) j)
  (hn:∀ae na nb c j,eQ st j->MH rk a.toList b.toList ae.toList na nb->0<na->1<nb->na+nb+2<=z+B->Q (au,na,nb,ae,c) j):wpS M A E s (Hj a b z B t V L R) Q st:=by
 unfold Hj;have la:=d.la;have lb:=d.lb;rw[gL]at la lb;refine qB (I:=λi (c:zU) j=>eQ st j/\c.1=au/\MH rk a.toList b.toList c.2.2.2.1.toList c.2.1 c.2.2.1/\0<c.2.1/\1<c.2.2.1/\(i=0->c.2.1=z/\c.2.2.1=B)/\(0<i->c.2.1+c.2.2.1+2<=z+B)) ?step ?fin ⟨eQ.refl _,rfl,d,h1,h2,λ_=>⟨rfl,rfl⟩,λh=>b7 h (by decide)⟩
 case fin =>
  rintro⟨r,na,nb,ae,c⟩ j ⟨g,k,p,o,n,u,l⟩;dsimp only at *;subst k;exact hn ae na nb c j g p o n (l (by omega))
 case step =>
  rintro i ⟨r,na,nb,ae,mg,H,G⟩ j _ W ⟨g,k,p,o,n,u,l⟩;dsimp only at *;subst k;have iV:na+nb<=z+B:=by
   by_cases hi:i=0
   ·have:=u hi;omega
   ·have:=l (by omega);omega
  have K:∀mg,wpS M A E s (AY a b na nb ae mg H G) (RC rk a b (z+B-2) j) j:=λmg=>ae4 D T (g.kind.trans C) p o n (by omega);split
  all_goals
   refine oH (K _) λr y q=>?_;obtain⟨f,q⟩:=q
   match r,q with
   |.done (ao m,c),.inl ⟨X,e,F⟩=>dsimp only at e;cases e;exact hr _ _ _ (g.trans f) F
   |.done (au,U,N,S,c),.inr ⟨_,m,x,w,v⟩=>exact hn S U N c y (g.trans f) m x w (by dsimp only at v;omega)
   |.yield c,q=>exact⟨g.trans f,q.1,q.2.1,q.2.2.1,q.2.2.2.1,λh=>by omega,λ_=>by have:=q.2.2.2.2;omega⟩
theorem aeU(t:iY M A E s kd P rk)(T:BO P rk a b)(V:0<a.size)(hb:0<b.size)(h:∀x,a.toList[a.size-1]?=ao x->∀y∈b.toList,rk y<=rk x){st:bo}(p:kindOf st=kd):wpS M A E s (MT a b) (λm j=>eQ st j/\jQ rk a b m) st:=by
 rw[ar4];refine bJ (wpS_lift (wL ⟨rfl,?_⟩));obtain⟨x,v,o,X⟩:=nZ (show a.size-1<a.size by omega);refine bJ (kT v ?_);have U:MH rk a.toList b.toList (#[x]:a8 bc).toList (a.size-1) b.size:=by
  have R:MH rk a.toList b.toList (#[]:a8 bc).toList a.size b.size:=⟨by simp,by simp,by simp,by simp,by simp⟩;exact R.TX V o T.sa (by rw[JZ (by simp)];exact h x o)
 refine gM (λhe=>?_) (λhe=>?_)
 ·exact cP ⟨eQ.refl _,U.WG T.sb (by simpa using he)⟩
 have he:¬a.size-1=0:=by simpa using he
 refine gM (λz=>?_) (λz=>?_)
 ·exact cP ⟨eQ.refl _,U.WE T (by simpa using z)⟩
 have z:¬b.size=1:=by simpa using z
 refine bJ (yH ?_);refine bJ (oH (qB
  (I:=λi (c:aw (a8 bc)×a6×a6×a8 bc×a6) j=>eQ st j/\c.1=au/\MH rk a.toList b.toList c.2.2.2.1.toList c.2.1 c.2.2.1/\0<c.2.1/\1<c.2.2.1/\i+c.2.1+c.2.2.1<=a.size+b.size)
  (Q:=λ(c:aw (a8 bc)×a6×a6×a8 bc×a6) j=>eQ st j/\∃m,c.1=ao m/\jQ rk a b m) ?step ?fin ⟨eQ.refl _,rfl,U,by dsimp only;omega,by dsimp only;omega,by dsimp only;omega⟩) ?post)
 case fin =>
  rintro⟨r,na,nb,ae,c⟩ j ⟨g,f,n,l,k,u⟩;dsimp only at *;omega
 case post =>
  rintro⟨r,na,nb,ae,c⟩ j ⟨g,m,e,q⟩;dsimp only at e;subst e;exact cP ⟨g,q⟩
 case step =>
  rintro i ⟨r,na,nb,ae,mg⟩ j _ mC ⟨g,f,n,l,k,u⟩;dsimp only at f n l k u;subst f;refine bJ (show wpS M A E s (Hk a b mg na nb ae) _ _ from ae2 t T (g.kind.trans p) n l k (λm c q=>?_) (λae N B c L K H n4=>?_))
  ·exact cP ⟨g,m,rfl,q⟩
  ·refine bJ (wpS_lift (wL ⟨rfl,?_⟩));refine bJ (show wpS M A E s (Hj a b N B ae (mg+1) c.1 c.2) _ _ from ae1 t T (g.kind.trans p) L K H (λm c S d q=>?_) (λae G F c S d D C w o4=>?_))
   ·exact cP ⟨g.trans d,m,rfl,q⟩
   ·refine bJ (RP λiE W=>?_);exact dm ⟨(g.trans d).trans W,rfl,D,C,w,by dsimp only;omega⟩
end
noncomputable def Kr(rk:bc->a4)(xs:a8 bc)(i:a6):a4:=match xs[i]? with
 |some p=>rk p
 |none=>0
theorem QZ{rk:bc->a4}{xs ys:a8 bc}{i j:a6}(h:xs[i]?=ys[j]?):Kr rk xs i=Kr rk ys j:=by unfold Kr;rw[h]
def Up(rk:bc->a4)(xs:a8 bc)(lo n:a6):Prop:=∀i j,i<=j->j<n->Kr rk xs (lo+i)<=Kr rk xs (lo+j)
def Dn(rk:bc->a4)(xs:a8 bc)(lo n:a6):Prop:=∀i j,i<=j->j<n->Kr rk xs (lo+j)<=Kr rk xs (lo+i)
theorem aH2{rk:bc->a4}{xs:a8 bc}{src d:a6}(j:src<xs.size)(hd:d<=src)(k:a6) :
  Kr rk (bubble xs src d) k=if k=src-d then Kr rk xs src else if src-d<k/\k<=src then Kr rk xs (k-1)else Kr rk xs k:=by
 have e:=getElem?_bubble j d hd k
 by_cases h1:k=src-d
 ·rw[a9 h1]at e ⊢;exact QZ e
 ·rw[bb h1]at e ⊢
  by_cases h2:src-d<k/\k<=src
  ·rw[a9 h2]at e ⊢;exact QZ e
  ·rw[bb h2]at e ⊢;exact QZ e
theorem Mv{rk:bc->a4}{xs:a8 bc}{i j:a6}(q:j<=xs.size)(k:a6) :
  Kr rk (mirror xs i j ((j-i)/2)) k=if i<=k/\k<j then Kr rk xs (i+j-1-k)else Kr rk xs k:=by
 have e:=getElem?_mirror_all (i:=i) q k
 by_cases h1:i<=k/\k<j
 ·rw[a9 h1]at e ⊢;exact QZ e
 ·rw[bb h1]at e ⊢;exact QZ e
theorem QY{rk:bc->a4}{xs:a8 bc}{i j:a6}(q:j<=xs.size)(heq:∀k,i<=k->k<j->Kr rk xs k=Kr rk xs (j-1))(k:a6) :
  Kr rk (mirror xs i j ((j-i)/2)) k=Kr rk xs k:=by
 rw[Mv q];split
 ·rw[heq _ (by omega) (by omega),heq k (by omega) (by omega)]
 ·rfl
structure Bs(kd:dz)(x0:a8 bc)(lo:a6)(p0:a8 (a6×a6×a6))(st:bo):Prop where
 kind:kindOf st=kd
 failed:d9 st=au
 pend:cb st=p0
 perm:(bp st).Perm x0
 pre:∀k,k<lo->(bp st)[k]?=x0[k]?
section
variable{M:ez}{A:bu}{E:av->ay->Prop}{s:ay}{kd:dz}{P:bc->Prop}{rk:bc->a4}{x0:a8 bc}{lo:a6}{p0:a8 (a6×a6×a6)}
theorem Bs.size{st:bo}(h:Bs kd x0 lo p0 st):(bp st).size=x0.size:=h.perm.size_eq
theorem Bs.mirror{st:bo}(h:Bs kd x0 lo p0 st){i j:a6}(hi:lo<=i)(z:j<=x0.size):Bs kd x0 lo p0 (setArr st (mirror (bp st) i j ((j-i)/2))) :=
 ⟨h.kind,h.failed,h.pend,(mirror_perm _ _ _ _).trans h.perm,λk q=>by
  rw[<-h.pre k q];show(PyProof.Rows.mirror (bp st) i j ((j-i)/2))[k]?=_;rw[getElem?_mirror_all (by rw[h.size];exact z),bb (by omega)]⟩
theorem Bs.bubble{st:bo}(h:Bs kd x0 lo p0 st){src d:a6}(j:src<x0.size)(hd:lo+d<=src):Bs kd x0 lo p0 (setArr st (bubble (bp st) src d)) :=
 ⟨h.kind,h.failed,h.pend,(bubble_perm _ _ _).trans h.perm,λk q=>by
  rw[<-h.pre k q];show(PyProof.Rows.bubble (bp st) src d)[k]?=_;rw[getElem?_bubble (by rw[h.size];exact j) d (by omega),bb (by omega),bb (by omega)]⟩
theorem KU(e:iY M A E s kd P rk)(N:∀x∈x0.toList,P x){st:bo}(q:Bs kd x0 lo p0 st){i j:a6}{Q:aw br->bo->Prop}(hi:i<x0.size)(d:j<x0.size)
  (h:Q (ao (decide (Kr rk (bp st) i<Kr rk (bp st) j))) st):wpS M A E s (ltAt' i j) Q st:=by
 obtain⟨x,B,_,b⟩:=nZ (show i<(bp st).size by rw[q.size];exact hi);obtain⟨y,z,_,U⟩:=nZ (show j<(bp st).size by rw[q.size];exact d);have c:=(ZR.mp q.perm).mem_iff (a:=x);have k:=(ZR.mp q.perm).mem_iff (a:=y);rw[ltAt'_eq];refine bJ (yH ?_);show wpS _ _ _ _ (do let x<-cv (bp st) i;let y<-cv (bp st) j;lt' x y) Q st;refine bJ (kT B (bJ (kT z ?_)));refine e x y (N x (c.mp b)) (N y (k.mp U)) st Q q.kind ?_;have g:Kr rk (bp st) i=rk x:=by unfold Kr;rw[B]
 have f:Kr rk (bp st) j=rk y:=by unfold Kr;rw[z]
 rw[g,f]at h;exact h
theorem RQ{st:bo}{i j:a6}{Q:Unit->bo->Prop}(h:Q () (setArr st (mirror (bp st) i j ((j-i)/2)))):wpS M A E s (ff i j) Q st:=by
 rw[reverseSlice'_eq];exact GK h
theorem ae6(F:iY M A E s kd P rk)(D:∀x∈x0.toList,P x){st:bo}{n ok:a6}{Q:br->bo->Prop}(hn:lo+n<=x0.size)(aK:ok<=n)(G:Bs kd x0 lo p0 st)(u:Up rk (bp st) lo ok)
  (h:∀q,Bs kd x0 lo p0 q->Up rk (bp q) lo n->Q a5 q):wpS M A E s (binarySort' lo n ok) Q st:=by
 rw[binarySort'_eq];refine bJ (oH (qB (I:=λk c q=>c=(au,())/\Bs kd x0 lo p0 q/\Up rk (bp q) lo (min k n))
  (Q:=λc q=>c=(au,())/\Bs kd x0 lo p0 q/\Up rk (bp q) lo n) ?step ?fin ?init) ?post)
 case post =>
  rintro c q ⟨rfl,N,B⟩;exact cP (h q N B)
 case init =>
  refine⟨rfl,G,λi j g w=>?_⟩
  by_cases h1:ok=0
  ·have:i=j:=by omega
   subst this;exact lJ _
  ·exact u i j g (by omega)
 case fin =>
  rintro c q ⟨y,N,B⟩;refine⟨y,N,?_⟩;rwa[show min (max (max ok 1) n) n=n by omega]at B
 case step =>
  rintro k c q C v ⟨rfl,N,B⟩;rw[show min k n=k by omega]at B;have e:lo+k<x0.size:=by omega
  refine bJ (oH (qB (I:=λx c z=>z=q/\∃l r,c=(au,l,r)/\l<=r/\r<=k/\r-l<=k-x /\
    (∀i,i<l->Kr rk (bp q) (lo+i)<=Kr rk (bp q) (lo+k))/\(∀i,r<=i->i<k->Kr rk (bp q) (lo+k)<Kr rk (bp q) (lo+i)))
   (Q:=λc z=>z=q/\∃l r,c=(au,l,r)/\l<=k /\
    (∀i,i<l->Kr rk (bp q) (lo+i)<=Kr rk (bp q) (lo+k))/\(∀i,l<=i->i<k->Kr rk (bp q) (lo+k)<Kr rk (bp q) (lo+i))) ?istep ?ifin ?iinit) ?ipost)
  case iinit=>exact⟨rfl,0,k,rfl,by omega,by omega,by omega,λi hi=>by omega,λi h1 h2=>by omega⟩
  case ifin =>
   rintro c z ⟨rfl,l,r,rfl,d,f,hm,U,a⟩;have:l=r:=by omega
   subst this;exact⟨rfl,l,l,rfl,f,U,a⟩
  case istep =>
   rintro x c z _ t ⟨rfl,l,r,rfl,d,f,hm,U,a⟩;dsimp only
   by_cases m:l>=r
   ·rw[a9 m];have:l=r:=by omega
    subst this;exact cP ⟨rfl,l,l,rfl,f,U,a⟩
   ·rw[bb m];refine bJ (KU F D N e (by omega) ?_)
    by_cases b:Kr rk (bp z) (lo+k)<Kr rk (bp z) (lo+(l+r)/2)
    ·simp only[b,PF,eT];refine cP ⟨rfl,l,(l+r)/2,rfl,by omega,by omega,by omega,U,λi h1 h2=>?_⟩;exact Int.lt_of_lt_of_le b (B _ _ h1 h2)
    ·simp only[b,PJ,jW,gH];refine cP ⟨rfl,(l+r)/2+1,r,rfl,by omega,by omega,by omega,λi h1=>?_,a⟩;exact ZC (B i ((l+r)/2) (by omega) (by omega)) (Int.not_lt.mp b)
  case ipost =>
   rintro c z ⟨rfl,l,r,rfl,H,U,a⟩;show wpS _ _ _ _ (do moveDown' (lo+k) (lo+l);pure (ForInStep.yield (au,()))) _ _;rw[moveDown'_eq];refine bJ (GK (cP ⟨rfl,N.bubble e (by omega),?_⟩));rw[show min (k+1) n=k+1 by omega];have p:lo+k<(bp z).size:=by rw[N.size];exact e
   intro i j g w;show Kr rk (bubble (bp z) (lo+k) (lo+k-(lo+l))) (lo+i)<=Kr rk (bubble (bp z) (lo+k) (lo+k-(lo+l))) (lo+j);have o:∀i,Kr rk (bubble (bp z) (lo+k) (lo+k-(lo+l))) (lo+i)=if i=l then Kr rk (bp z) (lo+k)else if l<i/\i<=k then Kr rk (bp z) (lo+(i-1))else Kr rk (bp z) (lo+i):=λi=>by
    rw[aH2 p (by omega)]
    by_cases h1:i=l
    ·rw[a9 h1,a9 (by omega)]
    ·rw[bb h1,bb (by omega)]
     by_cases h2:l<i/\i<=k
     ·rw[a9 h2,a9 (by omega),show lo+i-1=lo+(i-1)by omega]
     ·rw[bb h2,bb (by omega)]
   rw[o,o]
   repeat' split
   all_goals first
    |(exfalso;omega)
    |exact lJ _
    |exact U _ (by omega)
    |exact Nc (a _ (by omega) (by omega))
    |exact B _ _ (by omega) (by omega)
end
noncomputable def YE(lo a nrem:a6):df bo Sem AscSt :=
 forIn [a:nrem] ((au,a):AscSt) λ_ c=>do
  let x<-ltAt' (lo+c.2) (lo+c.2-1)
  match x with
  |some j=>if j=a5 then pure (ForInStep.done (au,c.2))else pure (ForInStep.yield (au,c.2+1))
  |_=>pure (ForInStep.done (ao au,c.2))
noncomputable def SO(lo q nrem:a6):df bo Sem (aw a6):=do
 let mut n:=q
 ff lo (lo+n)
 for _ in [n:nrem] do
  let ao j<-ltAt' (lo+n) (lo+n-1)|return au
  if j then break
  n:=n+1
 return ao n
noncomputable def Jx(lo n nrem:a6):df bo Sem DescSt :=
 forIn [n:nrem] ((au,n,0):DescSt) λ_ c=>do
  let x<-ltAt' (lo+c.2.1) (lo+c.2.1-1)
  match x with
  |some j =>
   if j=a5 then
    if c.2.2>0 then do
     ff (lo+c.2.1-(c.2.2+1)) (lo+c.2.1)
     pure (ForInStep.yield (au,c.2.1+1,0))
    else pure (ForInStep.yield (au,c.2.1+1,0))
   else do
    let x<-ltAt' (lo+c.2.1-1) (lo+c.2.1)
    match x with
    |some q =>
     if q=a5 then pure (ForInStep.done (au,c.2.1,c.2.2))
     else pure (ForInStep.yield (au,c.2.1+1,c.2.2+1))
    |_=>pure (ForInStep.done (ao au,c.2.1,c.2.2))
  |_=>pure (ForInStep.done (ao au,c.2.1,c.2.2))
noncomputable def XB(lo q nrem:a6):df bo Sem (aw a6):=do
 let mut n:=q
 rule "list.sort.descending-run"
 n:=n+1
 let mut lN:=0
 for _ in [n:nrem] do
  let ao j<-ltAt' (lo+n) (lo+n-1)|return au
  if j then
   if lN>0 then ff (lo+n-(lN+1)) (lo+n)
   lN:=0
  else
   let ao z<-ltAt' (lo+n-1) (lo+n)|return au
   if z then break
   lN:=lN+1
  n:=n+1
 if lN>0 then ff (lo+n-(lN+1)) (lo+n)
 ff lo (lo+n)
 for _ in [n:nrem] do
  let ao j<-ltAt' (lo+n) (lo+n-1)|return au
  if j then break
  n:=n+1
 return ao n
section
variable{M:ez}{A:bu}{E:av->ay->Prop}{s:ay}{kd:dz}{P:bc->Prop}{rk:bc->a4}{x0:a8 bc}{lo:a6}{p0:a8 (a6×a6×a6)}
theorem Pq(g:iY M A E s kd P rk)(f:∀x∈x0.toList,P x){st:bo}{a nrem:a6}{Q:AscSt->bo->Prop}(hn:lo+nrem<=x0.size)(r:1<=a)(U:a<=nrem)(k:Bs kd x0 lo p0 st)(d:Up rk (bp st) lo a)
  (h:∀n,a<=n->n<=nrem->Up rk (bp st) lo n->(n=nrem\/Kr rk (bp st) (lo+n)<Kr rk (bp st) (lo+n-1))->Q (au,n) st) :
  wpS M A E s (YE lo a nrem) Q st:=by
 unfold YE;refine qB (I:=λx c B=>B=st/\c=(au,x)/\Up rk (bp st) lo x) ?step ?fin ⟨rfl,rfl,d⟩
 case fin =>
  rintro c B ⟨rfl,rfl,z⟩;rw[show max a nrem=nrem by omega]at z ⊢;exact h nrem U cJ z (.inl rfl)
 case step =>
  rintro x c B m t ⟨rfl,rfl,z⟩;dsimp only;refine bJ (KU g f k (by omega) (by omega) ?_)
  by_cases N:Kr rk (bp B) (lo+x)<Kr rk (bp B) (lo+x-1)
  ·simp only[N,PF,eT];exact cP (h x m (by omega) z (.inr N))
  ·simp only[N,PJ,jW,gH];refine cP ⟨rfl,rfl,λi j e p=>?_⟩
   by_cases l:j<x
   ·exact z i j e l
   ·have o:j=x:=by omega
    subst o
    by_cases b:i=j
    ·subst b;exact lJ _
    ·have q:=z i (j-1) (by omega) (by omega);rw[show lo+(j-1)=lo+j-1 by omega]at q;exact ZC q (Int.not_lt.mp N)
theorem Pc(d:iY M A E s kd P rk)(c:∀x∈x0.toList,P x){st:bo}{n nrem:a6}{Q:aw a6->bo->Prop}(hn:lo+nrem<=x0.size)(h1:1<=n)(a:n<=nrem)(U:Bs kd x0 lo p0 st)
  (b:Dn rk (bp st) lo n) (h:∀m B,Bs kd x0 lo p0 B->1<=m->m<=nrem->Up rk (bp B) lo m->Q (ao m) B) :
  wpS M A E s (SO lo n nrem) Q st:=by
 unfold SO;have z:lo+n<=(bp st).size:=by rw[U.size];omega
 refine bJ (RQ ?_);have N:=U.mirror (i:=lo) (j:=lo+n) cJ (by omega);refine bJ (show wpS M A E s (YE lo n nrem) _ _ from Pq d c hn h1 a N ?_ λm l f e _=>cP (h m _ N (by omega) f e));intro i j k g;show Kr rk (mirror (bp st) lo (lo+n) ((lo+n-lo)/2)) (lo+i)<=Kr rk (mirror (bp st) lo (lo+n) ((lo+n-lo)/2)) (lo+j);rw[Mv z,Mv z,a9 (by omega),a9 (by omega)];have q:=b (n-1-j) (n-1-i) (by omega) (by omega);rw[show lo+(n-1-j)=lo+(lo+n)-1-(lo+j)by omega,show lo+(n-1-i)=lo+(lo+n)-1-(lo+i)by omega]at q;exact q
theorem ae5(t:iY M A E s kd P rk)(r:∀x∈x0.toList,P x){st:bo}{n nrem:a6}{Q:DescSt->bo->Prop}(hn:lo+nrem<=x0.size)(h1:1<=n)(y:n<=nrem)(F:Bs kd x0 lo p0 st)
  (C:Dn rk (bp st) lo n)
  (h:∀m lN z,Bs kd x0 lo p0 z->n<=m->m<=nrem->Dn rk (bp z) lo m->lN+1<=m->(∀i,lo+m-(lN+1)<=i->i<lo+m->Kr rk (bp z) i=Kr rk (bp z) (lo+m-1))->Q (au,m,lN) z) :
  wpS M A E s (Jx lo n nrem) Q st:=by
 unfold Jx;refine qB (I:=λx c z=>∃lN,c=(au,x,lN)/\Bs kd x0 lo p0 z/\Dn rk (bp z) lo x/\lN+1<=x /\
   (∀i,lo+x-(lN+1)<=i->i<lo+x->Kr rk (bp z) i=Kr rk (bp z) (lo+x-1))) ?step ?fin ⟨0,rfl,F,C,by omega,λi h1 h2=>by congr 1;omega⟩
 case fin =>
  rintro c z ⟨lN,rfl,B,N,U,he⟩;rw[show max n nrem=nrem by omega]at N U he ⊢;exact h nrem lN z B y cJ N U he
 case step =>
  rintro x c z G K ⟨lN,rfl,B,N,U,he⟩;dsimp only;have e:lo+x<=(bp z).size:=by rw[B.size];omega
  refine bJ (KU t r B (by omega) (by omega) ?_)
  by_cases b:Kr rk (bp z) (lo+x)<Kr rk (bp z) (lo+x-1)
  ·simp only[b,PF,eT];have w:∀a:a8 bc,(∀k,Kr rk a k=Kr rk (bp z) k)->Dn rk a lo (x+1):=by
    intro a p i j g D;rw[p,p]
    by_cases l:j<x
    ·exact N i j g l
    ·have o:j=x:=by omega
     subst o
     by_cases d:i=j
     ·subst d;exact lJ _
     ·have q:=N i (j-1) (by omega) (by omega);rw[show lo+(j-1)=lo+j-1 by omega]at q;exact ZC (Nc b) q
   refine gM (λH=>?_) (λH=>?_)
   ·exact bJ (RQ (cP ⟨0,rfl,B.mirror (by omega) (by omega),w _ (QY e he),by omega,λi h1 h2=>by congr 1;omega⟩))
   ·exact cP ⟨0,rfl,B,w _ (λ_=>rfl),by omega,λi h1 h2=>by congr 1;omega⟩
  ·simp only[b,PJ,jW,gH];refine bJ (KU t r B (by omega) (by omega) ?_)
   by_cases v:Kr rk (bp z) (lo+x-1)<Kr rk (bp z) (lo+x)
   ·simp only[v,PF,eT];exact cP (h x lN z B G (by omega) N U he)
   ·simp only[v,PJ,jW,gH];have u:Kr rk (bp z) (lo+x)=Kr rk (bp z) (lo+x-1):=by omega
    refine cP ⟨lN+1,rfl,B,λi j g D=>?_,by omega,λi h1 h2=>?_⟩
    ·by_cases l:j<x
     ·exact N i j g l
     ·have o:j=x:=by omega
      subst o
      by_cases d:i=j
      ·subst d;exact lJ _
      ·have q:=N i (j-1) (by omega) (by omega);rw[show lo+(j-1)=lo+j-1 by omega]at q;rw[u];exact q
    ·rw[show lo+(x+1)-1=lo+x by omega]
     by_cases f:i=lo+x
     ·subst f;rfl
     ·rw[u];exact he i (by omega) (by omega)
theorem Pp(U:iY M A E s kd P rk)(N:∀x∈x0.toList,P x){st:bo}{n nrem:a6}{Q:aw a6->bo->Prop}(hn:lo+nrem<=x0.size)(c:n+1<=nrem)(g:Bs kd x0 lo p0 st)
  (d:Dn rk (bp st) lo (n+1)) (h:∀m q,Bs kd x0 lo p0 q->1<=m->m<=nrem->Up rk (bp q) lo m->Q (ao m) q) :
  wpS M A E s (XB lo n nrem) Q st:=by
 unfold XB;refine bJ (wpS_lift (wL ⟨rfl,?_⟩));refine bJ (show wpS M A E s (Jx lo (n+1) nrem) _ _ from ae5 U N hn (by omega) c g d λm lN q B o b a l he=>?_);have z:lo+m<=(bp q).size:=by rw[B.size];omega
 refine gM (λk=>?_) (λk=>?_)
 ·refine wpS_bind (RQ (show wpS M A E s (SO lo m nrem) _ _ from Pc U N hn (by omega) b (B.mirror (by dsimp only;omega) (by dsimp only;omega)) ?_ h));intro i j f e;show Kr rk (mirror (bp q) _ _ _) (lo+j)<=Kr rk (mirror (bp q) _ _ _) (lo+i);rw[QY z he,QY z he];exact a i j f e
 ·exact(show wpS M A E s (SO lo m nrem) _ _ from Pc U N hn (by omega) b B a h)
theorem aeS(a:iY M A E s kd P rk)(U:∀x∈x0.toList,P x){st:bo}{nrem:a6}{Q:aw a6->bo->Prop}(hn:lo+nrem<=x0.size)(h1:1<=nrem)(z:Bs kd x0 lo p0 st)
  (h:∀m f,Bs kd x0 lo p0 f->1<=m->m<=nrem->Up rk (bp f) lo m->Q (ao m) f) :
  wpS M A E s (countRun' lo nrem) Q st:=by
 rw[countRun'_eq];refine bJ (show wpS M A E s (YE lo 1 nrem) _ _ from Pq a U hn (rV 1) h1 z (λi j o l=>by
  have:i=j:=by omega
  subst this;exact lJ _) λn v g b C=>?_)
 refine gM (λN=>?_) (λN=>?_)
 ·exact cP (h n st z v g b)
 ·have N:¬n=nrem:=by simpa using N
  have p:=C.resolve_left N;refine gM (λc=>?_) (λc=>?_)
  ·have c:n>1:=c;refine wpS_bind (KU a U z (by omega) (by dsimp only;omega) ?_);dsimp only
   by_cases u:Kr rk (bp st) lo<Kr rk (bp st) (lo+n-1)
   ·refine gM (λ_=>cP (h n st z v g b)) (λq=>b7 (vT u) q)
   ·refine gM (λq=>b7 (Ea q) u) (λ_=>?_);have B:lo+n<=(bp st).size:=by rw[z.size];omega
    have hall:∀k,lo<=k->k<lo+n->Kr rk (bp st) k=Kr rk (bp st) (lo+n-1):=by
     intro k G H;have t:=b 0 (k-lo) (by omega) (by omega);have r:=b (k-lo) (n-1) (by omega) (by omega);rw[show lo+(k-lo)=k by omega]at t r;rw[show lo+(n-1)=lo+n-1 by omega]at r;rw[Nat.add_zero]at t;omega
    refine bJ (RQ (show wpS M A E s (XB lo n nrem) _ _ from Pp a U hn (by omega) (z.mirror cJ (by omega)) ?_ h));intro i j o l;show Kr rk (mirror (bp st) _ _ _) (lo+j)<=Kr rk (mirror (bp st) _ _ _) (lo+i);rw[QY B hall,QY B hall]
    by_cases F:j<n
    ·rw[hall (lo+i) (by omega) (by omega),hall (lo+j) (by omega) (by omega)];exact lJ _
    ·have D:j=n:=by omega
     subst D
     by_cases d:i=j
     ·subst d;exact lJ _
     ·rw[hall (lo+i) (by omega) (by omega)];exact Nc p
  ·have e:n=1:=by dsimp only at c;omega
   subst e;refine(show wpS M A E s (XB lo 1 nrem) _ _ from Pp a U hn (by omega) z ?_ h);intro i j o l
   by_cases d:i=j
   ·subst d;exact lJ _
   ·have w:i=0:=by omega
    have y:j=1:=by omega
    subst w;subst y;exact Nc p
end
theorem ar5(i:a6):mergeAt' i=(do
 let s<-get
 let (ao (sa,na,power),ao (sb,nb,_)):=((cb s)[i]?,(cb s)[i+1]?)|unsupported "internal:list.sort.pending"
 set (setPending s (((cb s).setIfInBounds i (sa,na+nb,power)).eraseIdxIfInBounds (i+1)))
 let ao k<-qO ax (<-cv (bp s) sb) (bp s) sa na 0|return ax
 let (sa,na):=(sa+k,na-k)
 if na==0 then return a5
 let ao nb<-qO a5 (<-cv (bp s) (sa+na-1)) (bp s) sb nb (nb-1)|return ax
 if nb==0 then return a5
 let x:=(bp s).extract sa sb
 let y:=(bp s).extract sb (sb+nb)
 let merged<-if na<=nb then MR x y else MT x y
 modify λs=>setArr s (merged.toList.zipIdx.foldl (λa (p,j)=>a.setIfInBounds (sa+j) p) (bp s))
 return (d9 (<-get)).isNone):=rfl
theorem acE{p:a6}:∀(l:aq bc) (k:a6) (arr:a8 bc),p+k+l.length<=arr.size->∀i,((l.zipIdx k).foldl (λa (x,j)=>a.setIfInBounds (p+j) x) arr)[i]?=if p+k<=i/\i<p+k+l.length then l[i-(p+k)]? else arr[i]?
 |[],k,arr,h,i=>by
  rw[bb (by simp only[BZ];omega)];rfl
 |x::l,k,arr,h,i=>by
  rw[iZ]at h;have ih:=acE (p:=p) l (k+1) (arr.setIfInBounds (p+k) x) (by rw[Array.size_setIfInBounds];omega) i;rw[List.zipIdx_cons,List.foldl_cons];refine ih.trans ?_;rw[iZ]
  by_cases h1:p+(k+1)<=i/\i<p+(k+1)+l.length
  ·rw[a9 h1,a9 (by omega),show i-(p+k)=i-(p+(k+1))+1 by omega,Mt]
  ·rw[bb h1]
   by_cases h2:i=p+k
   ·subst h2;rw[a9 (by omega),Nat.sub_self,List.getElem?_cons_zero,Array.getElem?_setIfInBounds_self_of_lt (by omega)]
   ·rw[bb (by omega),Array.getElem?_setIfInBounds_ne (by omega)]
theorem aF3{p:a6}{l pre mid post:aq bc}{arr:a8 bc}(h:arr.toList=pre++mid++post)(q:pre.length=p)(hl:l.length=mid.length):(l.zipIdx.foldl (λa (x,j)=>a.setIfInBounds (p+j) x) arr).toList=pre++l++post:=by
 have z:arr.size=pre.length+mid.length+post.length:=by rw[<-gL,h];simp[Nat.add_assoc]
 refine zS λi=>?_;rw[mM,acE l 0 arr (by omega) i,<-mM,h]
 by_cases h1:p+0<=i/\i<p+0+l.length
 ·rw[a9 h1,kE,pY (by omega),iD (by omega),q];rfl
 ·rw[bb h1]
  by_cases h2:i<p
  ·rw[kE,kE,iD (by omega),iD (by omega)]
  ·rw[pY (by simp only[gF];omega),pY (by simp only[gF];omega),gF,gF,hl]
theorem aeR{J:Type}{M:ez}{A:bu}{E:av->ay->Prop}{s:ay}{x:J}{Q:PUnit->J->Prop}{st:J}(h:Q ⟨⟩ x):wpS M A E s (set x:df J Sem PUnit) Q st:=by
 unfold wpS;rw[StateT.run_set];exact wpAny_pure ⟨rfl,h⟩
section
variable{M:ez}{A:bu}{E:av->ay->Prop}{s:ay}{kd:dz}{P:bc->Prop}{rk:bc->a4}
theorem Wa{pre mid post:aq bc}{arr:a8 bc}(h:arr.toList=pre++(mid++post)){j:a6}(q:j<mid.length):arr[pre.length+j]?=mid[j]?:=by
 rw[<-mM,h,pY (by omega),iD (by omega)];congr 1;omega
theorem Wb{pre mid post:aq bc}{arr:a8 bc}(h:arr.toList=pre++mid++post){i j:a6}(hi:i=pre.length)(q:j=pre.length+mid.length):(arr.extract i j).toList=mid:=by
 subst hi q;rw[ZQ,List.extract_eq_take_drop,h,kE,List.drop_left];rw[show pre.length+mid.length-pre.length=mid.length by omega,List.take_left]
theorem SX{q j:aq bc}(h1:dD rk q)(h2:dD rk j)(h:∀x∈q,∀y∈j,rk x<=rk y):dD rk (q++j):=uT.mpr ⟨h1,h2,h⟩
theorem Sj{q j:aq bc}(h:dD rk (q++j)):dD rk q/\dD rk j/\∀x∈q,∀y∈j,rk x<=rk y:=uT.mp h
theorem aeW(d:iY M A E s kd P rk){a b:a8 bc}(pa:∀x∈a.toList,P x)(pb:∀x∈b.toList,P x)(sa:dD rk a.toList)(sb:dD rk b.toList)(U:0<a.size)(hb:0<b.size)(top:∀x,a.toList[a.size-1]?=ao x->∀y∈b.toList,rk y<=rk x)(bot:∀y,b.toList[0]?=ao y->∀x∈a.toList,rk y<=rk x){c:Prop} [c5 c]{st:bo}(N:kindOf st=kd) :
  wpS M A E s (if c then MR a b else MT a b) (λm e=>eQ st e/\jQ rk a b m) st:=by
 obtain⟨x,i,B,h⟩:=nZ (show a.size-1<a.size by omega);obtain⟨y,g,q,f⟩:=nZ hb;refine gM (λ_=>aeT d ⟨pa,pb,sa,sb,λz j=>?_⟩ U hb bot N) (λ_=>aeU d ⟨pa,pb,sa,sb,λz j=>?_⟩ U hb top N)
 ·rw[XA B,adS (by simp;omega)]at j;simp only[lT]at j;subst j;exact top z B
 ·rw[Rp q,Mn,wH]at j;simp only[lT]at j;subst j;exact bot z q
theorem aeV(hL:iY M A E s kd P rk){st:bo}(R:kindOf st=kd)(hf:d9 st=au){i pw q:a6}{pre RA RB post:aq bc}(h:(bp st).toList=pre++(RA++(RB++post)))(hP:∀x∈(bp st).toList,P x)
  (p1:(cb st)[i]?=ao (pre.length,RA.length,pw)) (p2:(cb st)[i+1]?=ao (pre.length+RA.length,RB.length,q)) (hA:dD rk RA) (G:dD rk RB) (a0:0<RA.length) (b0:0<RB.length) {Q:br->bo->Prop}
  (L:∀t C,kindOf t=kd->d9 t=au->cb t=((cb st).setIfInBounds i (pre.length,RA.length+RB.length,pw)).eraseIdxIfInBounds (i+1)->(bp t).toList=pre++(C++post)->C.Perm (RA++RB)->dD rk C->Q a5 t) :
  wpS M A E s (mergeAt' i) Q st:=by
 rw[ar5];refine bJ (yH ?_);rw[p1,p2];refine bJ (aeR ?_);generalize hp:((cb st).setIfInBounds i (pre.length,RA.length+RB.length,pw)).eraseIdxIfInBounds (i+1)=pend at L ⊢;have K:∀j,j<RA.length->(bp st)[pre.length+j]?=RA[j]?:=λj b=>Wa h b;have h':(bp st).toList=(pre++RA)++(RB++post):=by rw[h,kE]
 have I:∀j,j<RB.length->(bp st)[pre.length+RA.length+j]?=RB[j]?:=λj b=>by
  have:=Wa h' b;rwa[gF]at this
 have PA:∀x∈RA,P x:=λx d=>hP x (by rw[h];simp[d]);have PB:∀x∈RB,P x:=λx d=>hP x (by rw[h];simp[d]);obtain⟨y,F⟩:∃y,RB[0]?=ao y:=⟨RB[0],oR RB 0 b0⟩;have W:=mJ F;refine bJ (kT (by rw[<-F];exact I 0 b0) ?_);have IK:kindOf (setPending st pend)=kd:=R;refine bJ (ZW hL IK (PB y W) (λj b=>?_) (λj1 j2 x1 x2 Hf b o p=>?_) a0 (λk gJ cM fI=>?_))
 ·exact⟨RA[j],by rw[K j b];exact oR RA j b,PA _ (QV _)⟩
 ·rw[K _ (by omega)]at o p;exact HG hA Hf o p
 simp only[jW,gH]at cM fI;obtain⟨N,B,rfl,lA1⟩:∃N B,RA=N++B/\N.length=k:=⟨RA.take k,RA.drop k,(tN k RA).symm,by rw[BX];omega⟩;have lA:(N++B).length=N.length+B.length:=gF;obtain⟨Tq,Tp,alM⟩:=Sj hA;have Wj:∀x∈N,rk x<=rk y:=λx d=>by
  obtain⟨j,b,e⟩:=CA d;exact cM j x (by omega) (by rw[K j (by omega),iD b,oR N j b,e])
 have asB:∀x∈B,rk y<=rk x:=λx d=>by
  obtain⟨j,b,e⟩:=CA d;have:=fI (k+j) x (by omega) (by omega) (by rw[K _ (by omega),pY (by omega),show k+j-N.length=j by omega,oR B j b,e]);omega
 have Wi:∀x∈RB,rk y<=rk x:=λx d=>HH G F x (by simpa using d);refine gM (λhe=>?_) (λhe=>?_)
 ·have he:(N++B).length-k=0:=by simpa using he
  have eA2:B=[]:=YW (by omega);subst eA2;rw[rW]at *;exact cP (L _ (N++RB) R hf rfl (by rw[kE];exact h) (FT _) (SX Tq G λx d z U=>by have:=Wj x d;have:=Wi z U;omega))
 have he:¬(N++B).length-k=0:=by simpa using he
 obtain⟨x,d⟩:∃x,B[B.length-1]?=ao x:=⟨B[B.length-1],oR B _ (by omega)⟩;have X:=mJ d;have ex:(bp st)[pre.length+k+((N++B).length-k)-1]?=ao x:=by
  rw[show pre.length+k+((N++B).length-k)-1=pre.length+((N++B).length-1)by omega,K _ (by omega),pY (by omega),show(N++B).length-1-N.length=B.length-1 by omega];exact d
 refine bJ (kT ex ?_);refine bJ (ZW hL IK (PA x (kK _ X)) (λj b=>?_) (λj1 j2 x1 x2 Hf b o p=>?_) (by omega) (λk2 nW Yl Zb=>?_))
 ·exact⟨RB[j],by rw[I j b];exact oR RB j b,PB _ (QV _)⟩
 ·rw[I _ (by omega)]at o p;exact HG G Hf o p
 simp only[eT]at Yl Zb;obtain⟨f,l,rfl,lB1⟩:∃f l,RB=f++l/\f.length=k2:=⟨RB.take k2,RB.drop k2,(tN k2 RB).symm,by rw[BX];omega⟩;have lB:(f++l).length=f.length+l.length:=gF;obtain⟨V,T,alK⟩:=Sj G;have NS:∀z∈f,rk z<=rk x:=λz U=>by
  obtain⟨j,b,e⟩:=CA U;have:=Yl j z (by omega) (by rw[I j (by omega),iD b,oR f j b,e]);omega
 have AY:∀z∈l,rk x<=rk z:=λz U=>by
  obtain⟨j,b,e⟩:=CA U;exact Zb (k2+j) z (by omega) (by omega) (by rw[I _ (by omega),pY (by omega),show k2+j-f.length=j by omega,oR l j b,e])
 have Rg:∀z∈B,rk z<=rk x:=λz U=>by
  obtain⟨j,b,e⟩:=CA U;exact HG Tp (show j<=B.length-1 by omega) (by rw[oR B j b,e]) d
 have Om:∀z∈N,∀v∈f++l,rk z<=rk v:=λz U v hv=>by have:=Wj z U;have:=Wi v hv;omega
 refine gM (λD=>?_) (λD=>?_)
 ·have D:k2=0:=by simpa using D
  have eB1:f=[]:=YW (by omega);subst eB1;rw[wH]at *;refine cP (L _ (N++B++l) R hf rfl (by rw[h,kE (N++B)]) (FT _) (SX hA G λz U v hv=>?_))
  rcases kL.mp U with r|r
  ·exact Om z r v hv
  ·have:=Rg z r;have:=AY v hv;omega
 have D:¬k2=0:=by simpa using D
 have w:((bp st).extract (pre.length+k) (pre.length+(N++B).length)).toList=B:=Wb (pre:=pre++N) (post:=f++l++post) (by rw[h];simp only[kE]) (by simp only[gF];omega) (by simp only[gF];omega);have u:((bp st).extract (pre.length+(N++B).length) (pre.length+(N++B).length+k2)).toList=f:=Wb (pre:=pre++(N++B)) (post:=l++post) (by rw[h];simp only[kE]) (by simp only[gF]) (by simp only[gF];omega);have S:((bp st).extract (pre.length+k) (pre.length+(N++B).length)).size=B.length:=by rw[<-gL,w]
 have szb:((bp st).extract (pre.length+(N++B).length) (pre.length+(N++B).length+k2)).size=f.length:=by rw[<-gL,u]
 have both:∀(c:Prop) [c5 c],wpS M A E s (if c then MR ((bp st).extract (pre.length+k) (pre.length+(N++B).length)) ((bp st).extract (pre.length+(N++B).length) (pre.length+(N++B).length+k2))else MT ((bp st).extract (pre.length+k) (pre.length+(N++B).length)) ((bp st).extract (pre.length+(N++B).length) (pre.length+(N++B).length+k2))) (λm t=>eQ (setPending st pend) t/\jQ rk ((bp st).extract (pre.length+k) (pre.length+(N++B).length)) ((bp st).extract (pre.length+(N++B).length) (pre.length+(N++B).length+k2)) m) (setPending st pend):=λc _=>by
  refine aeW hL (by rw[w];exact λz U=>PA z (kK _ U)) (by rw[u];exact λz U=>PB z (oB _ U)) (by rw[w];exact Tp) (by rw[u];exact V) (by omega) (by omega) (λz U=>?_) (λz U=>?_) IK
  ·rw[w,S,d]at U;cases U;rw[u];exact NS
  ·rw[u]at U;rw[iD (by omega)]at F;rw[F]at U;cases U;rw[w];exact asB
 have bT:=both True;have bF:=both cp;rw[a9 trivial]at bT;rw[bb id]at bF;refine gM (λ_=>bJ (oH bT λm n gm=>?_)) (λ_=>bJ (oH bF λm n gm=>?_))
 all_goals
  obtain⟨g,H,gs⟩:=gm;rw[w,u]at H;refine bJ (GK (bJ (yH (cP ?_))));have o:d9 n=au:=g.failed.trans hf;have ef:(d9 (setArr n (m.toList.zipIdx.foldl (λa (x,j)=>a.setIfInBounds (pre.length+k+j) x) (bp n)))).isNone=a5:=by
   show(d9 n).isNone=a5;rw[o];rfl
  have fin:Q a5 (setArr n (m.toList.zipIdx.foldl (λa (x,j)=>a.setIfInBounds (pre.length+k+j) x) (bp n))):=by
   refine L _ (N++m.toList++l) (g.kind.trans R) o g.pend ?_ ?_ ?_
   ·show(m.toList.zipIdx.foldl (λa (x,j)=>a.setIfInBounds (pre.length+k+j) x) (bp n)).toList=_;rw[show bp n=bp st from g.arr];rw[aF3 (pre:=pre++N) (mid:=B++f) (post:=l++post) (by rw[h];simp only[kE]) (by rw[gF];omega) H.length_eq];simp only[kE]
   ·have p:N++B++(f++l)=N++(B++f)++l:=by simp only[kE]
    rw[p];exact(KH N H).append_right l
   ·refine SX (SX Tq gs λz U v hv=>?_) T λz U v hv=>?_
    ·rcases kL.mp (H.mem_iff.mp hv)with r|r
     ·exact alM z U v r
     ·exact Om z U v (oB _ r)
    ·rcases kL.mp U with r|r
     ·exact Om z r v (kK _ hv)
     ·rcases kL.mp (H.mem_iff.mp r)with r|r
      ·have:=Rg z r;have:=AY v hv;omega
      ·exact alK z r v hv
  rw[<-ef]at fin;exact fin
end
noncomputable def starts:a6->aq (aq bc)->aq (a6×a6)
 |_,[]=>[]
 |o,R::Rs=>(o,R.length)::starts (o+R.length) Rs
theorem SW:∀(o:a6) (j R2:aq (aq bc)),starts o (j++R2)=starts o j++starts (o+j.flatten.length) R2
 |o,[],R2=>by simp[starts]
 |o,R::j,R2=>by
  rw[QX,starts,starts,SW,KG,gF,QX,Nat.add_assoc]
theorem LR:∀(o:a6) (Rs:aq (aq bc)),(starts o Rs).length=Rs.length
 |_,[]=>rfl
 |o,R::Rs=>by rw[starts,iZ,iZ,LR]
noncomputable abbrev sl(p:a6×a6×a6):a6×a6:=(p.1,p.2.1)
def uX(rk:bc->a4)(pend:a8 (a6×a6×a6))(l rest:aq bc):Prop :=
 ∃Rs:aq (aq bc),l=Rs.flatten++rest/\pend.toList.map sl=starts 0 Rs/\∀R∈Rs,0<R.length/\dD rk R
section
variable{rk:bc->a4}{pend:a8 (a6×a6×a6)}{l rest:aq bc}
theorem uX.push{R:aq bc}(h:uX rk pend l (R++rest))(h0:0<R.length)(z:dD rk R){lo q:a6}(j:lo+R.length+rest.length=l.length):uX rk (pend.push (lo,R.length,q)) l rest:=by
 obtain⟨Rs,e,m,hR⟩:=h;refine⟨Rs++[R],by rw[e];simp,?_,λS hS=>?_⟩
 ·rw[GJ,zP,m,SW];have:lo=0+Rs.flatten.length:=by
   rw[e]at j;simp only[gF]at j;omega
  rw[this];rfl
 ·rcases kL.mp hS with q|q
  ·exact hR S q
  ·simp only[lT]at q;subst q;exact⟨h0,z⟩
theorem uX.last{pw i:a6}(h:uX rk pend l rest):uX rk (pend.modify i λx=>match x with|(st,len,_)=>(st,len,pw)) l rest:=by
 obtain⟨Rs,e,m,hR⟩:=h;refine⟨Rs,e,?_,hR⟩;rw[<-m];refine zS λj=>?_;rw[jH,jH,mM,mM,Array.getElem?_modify];split
 ·cases pend[j]? <;> rfl
 ·rfl
theorem uX.size(h:uX rk pend l rest):pend.size+rest.length<=l.length:=by
 obtain⟨Rs,rfl,m,hR⟩:=h;have e:pend.size=Rs.length:=by
  have:=c7 List.length m;rwa[jG,gL,LR]at this
 rw[gF,e];have:∀Rs:aq (aq bc),(∀R∈Rs,0<R.length/\dD rk R)->Rs.length<=Rs.flatten.length:=by
  intro Rs
  induction Rs with
  |nil=>intro _;simp
  |cons R Rs ih =>
   intro h;have h1:=ih λS hS=>h S (iP _ hS);have h2:=(h R (by simp)).1;rw[iZ,KG,gF];omega
 have:=this Rs hR;omega
theorem uX.done(h:uX rk pend l [])(h1:pend.size<=1):dD rk l:=by
 obtain⟨Rs,rfl,m,hR⟩:=h;have e:pend.size=Rs.length:=by
  have:=c7 List.length m;rwa[jG,gL,LR]at this
 rw[rW]
 match Rs,hR with
 |[],_=>simp
 |[R],hR=>simpa using(hR R (by simp)).2
 |_::_::_,_=>simp only[iZ]at e;omega
theorem Qz{β:Type}{l:aq β}{i:a6}(h:i+1<l.length):∃j x y q,l=j++x::y::q/\j.length=i :=
 ⟨l.take i,l[i],l[i+1],l.drop (i+2),by rw[<-QW,<-QW,tN],by rw[BX];omega⟩
variable{M:ez}{A:bu}{E:av->ay->Prop}{s:ay}{kd:dz}{P:bc->Prop}
structure Go(rk:bc->a4)(kd:dz)(x0:a8 bc)(rest:aq bc)(st:bo):Prop where
 kind:kindOf st=kd
 failed:d9 st=au
 perm:(bp st).Perm x0
 XH:uX rk (cb st) (bp st).toList rest
theorem Pd(X:iY M A E s kd P rk){x0:a8 bc}(W:∀x∈x0.toList,P x){st:bo}(h:Go rk kd x0 rest st){i:a6}(hi:i+1<(cb st).size){Q:br->bo->Prop}
  (S:∀j,Go rk kd x0 rest j->(cb j).size+1=(cb st).size->Q a5 j):wpS M A E s (mergeAt' i) Q st:=by
 obtain⟨T,V,f,Rs,e,m,hR⟩:=h;have el:(cb st).size=Rs.length:=by
  have:=c7 List.length m;rwa[jG,gL,LR]at this
 obtain⟨B,RA,RB,R2,rfl,l1⟩:=Qz (show i+1<Rs.length by omega);obtain⟨N,x,y,t,q,H⟩:=Qz (show i+1<(cb st).toList.length by rw[gL];omega);rw[q,zP,SW,xU]at m;have G:=List.append_inj m (by rw[jG,LR];omega);obtain⟨F,d⟩:=G;simp only[dE,starts,xX]at d;obtain⟨c,b,D⟩:=d;obtain⟨x1,x2,a⟩:=x;obtain⟨y1,y2,p⟩:=y;simp only[QL]at c b;obtain⟨rfl,rfl⟩:=c;obtain⟨rfl,rfl⟩:=b;have v:(cb st)[i]?=ao (B.flatten.length,RA.length,a):=by
  rw[<-mM,q,pY (by omega),show i-N.length=0 by omega];rfl
 have u:(cb st)[i+1]?=ao (B.flatten.length+RA.length,RB.length,p):=by
  rw[<-mM,q,pY (by omega),show i+1-N.length=1 by omega];rfl
 have k:=hR RA (by simp);have g:=hR RB (by simp);refine aeV X T V (pre:=B.flatten) (RA:=RA) (RB:=RB) (post:=R2.flatten++rest) (by rw[e];simp) (λz L=>W z ((ZR.mp f).mem_iff.mp L)) v u k.2 g.2 k.1 g.1 λj C K f' w n l c2=>?_;have I:C.length=RA.length+RB.length:=by rw[l.length_eq,gF]
 have o:(cb j).toList=N++(B.flatten.length,RA.length+RB.length,a)::t:=by
  rw[w,Array.toList_eraseIdxIfInBounds,Array.toList_setIfInBounds,q,<-H];simp[List.eraseIdx_append_of_length_le]
 refine S j ⟨K,f',?_,B++C::R2,?_,?_,λR U=>?_⟩ ?_
 ·refine Array.Perm.trans ?_ f;rw[ZR,n,e];simp only[List.flatten_append,KG,kE];refine KH _ ?_;rw[<-kE RA RB];exact l.append_right _
 ·rw[n];simp
 ·rw[o,zP,SW,F,dE,D,starts,I,xU,Nat.add_assoc]
 ·rcases kL.mp U with r|r
  ·exact hR R (oB _ r)
  ·rcases dY.mp r with r|r
   ·subst r;exact⟨by omega,c2⟩
   ·exact hR R (by simp[r])
 ·rw[<-gL,o,<-gL,q];simp;omega
end
section
variable{M:ez}{A:bu}{E:av->ay->Prop}{s:ay}{kd:dz}{P:bc->Prop}{rk:bc->a4}
theorem Up.ajH{xs:a8 bc}{lo n:a6}(h:Up rk xs lo n)(hn:lo+n<=xs.size):dD rk ((xs.toList.drop lo).take n):=by
 refine List.pairwise_iff_getElem.mpr λi j hi B N=>?_;rw[BX,KC,gL]at hi B;have q:=h i j (by omega) (by omega);have g:∀k (z:lo+k<xs.size),Kr rk xs (lo+k)=rk xs[lo+k]:=λk z=>by unfold Kr;rw[getElem?_pos xs (lo+k) z]
 rw[g i (by omega),g j (by omega)]at q;rw[List.getElem_take,List.getElem_take,Ms,Ms];exact q
theorem Go.made{x0:a8 bc}{rest:aq bc}{st j:bo}(h:Go rk kd x0 rest st){lo n:a6}(a:lo+rest.length=(bp st).size)(q:Bs kd (bp st) lo (cb st) j)(hn:lo+n<=(bp st).size)(B:Up rk (bp j) lo n) :
  ∃R z,Go rk kd x0 (R++z) j/\R.length=n/\dD rk R/\lo+n+z.length=(bp st).size:=by
 obtain⟨b,hf,N,Rs,e,m,hR⟩:=h;have sz:=q.size;have lf:Rs.flatten.length=lo:=by
  have:=c7 List.length e;rw[gL,gF]at this;omega
 have U:(bp j).toList.take lo=Rs.flatten:=by
  refine zS λi=>?_
  by_cases hi:i<lo
  ·rw[List.getElem?_take_of_lt hi,mM,q.pre i hi,<-mM,e,iD (by omega)]
  ·rw[zQ (by rw[BX];omega),zQ (by omega)]
 refine⟨((bp j).toList.drop lo).take n,((bp j).toList.drop lo).drop n,⟨q.kind,q.failed,q.perm.trans N,Rs,?_,by rw[q.pend];exact m,hR⟩,?_,B.ajH (by omega),?_⟩
 ·rw[tN,<-U,tN]
 ·rw[BX,KC,gL];omega
 ·rw[KC,KC,gL];omega
theorem Go.Ta{x0:a8 bc}{rest j:aq bc}{st:bo}(h:Go rk kd x0 rest st){p:a8 (a6×a6×a6)}(q:uX rk p (bp st).toList j):Go rk kd x0 j (setPending st p):=⟨h.kind,h.failed,h.perm,q⟩
theorem Go.bs{x0:a8 bc}{rest:aq bc}{st:bo}(h:Go rk kd x0 rest st)(lo:a6):Bs kd (bp st) lo (cb st) st:=⟨h.kind,h.failed,rfl,.refl _,λ_ _=>rfl⟩
theorem aeQ(u:iY M A E s kd P rk){x0:a8 bc}(H:∀x∈x0.toList,P x){st:bo}(hk:kindOf st=kd)(hf:d9 st=au)(G:bp st=x0)(hp:cb st=#[]){Q:Unit->bo->Prop}
  (h:∀z,(bp z).Perm x0->d9 z=au->dD rk (bp z).toList->Q () z):wpS M A E s sortRuns' Q st:=by
 have g0:Go rk kd x0 x0.toList st:=⟨hk,hf,by rw[G],[],by rw[G];rfl,by rw[hp];rfl,by simp⟩;rw[sortRuns'_eq];refine bJ (yH ?_);dsimp only;rw[G];generalize minRun' x0.size x0.size 0=o;refine bJ (oH (qB
  (I:=λi c z=>∃lo rest,c=(au,lo)/\i<=lo/\lo+rest.length=x0.size/\Go rk kd x0 rest z)
  (Q:=λc z=>c.1=au/\Go rk kd x0 [] z) ?step ?fin ⟨0,x0.toList,rfl,rV _,by simp,g0⟩) ?post)
 case fin =>
  rintro c z ⟨lo,rest,rfl,h1,h2,g⟩;have:rest=[]:=YW (by omega);subst this;exact⟨rfl,g⟩
 case step =>
  rintro i c z _ hi ⟨lo,rest,rfl,h1,h2,g⟩;have C:(bp z).size=x0.size:=g.perm.size_eq;refine gM (λm=>?_) (λm=>?_)
  ·have m:lo>=x0.size:=m;have:rest=[]:=YW (by omega);subst this;exact cP ⟨rfl,g⟩
  have m:¬lo>=x0.size:=m;have BC:∀x∈(bp z).toList,P x:=λx hx=>H x ((ZR.mp g.perm).mem_iff.mp hx);refine bJ (aeS u BC (lo:=lo) (nrem:=x0.size-lo) (by omega) (by omega) (g.bs lo) λn p hB Gw pM hu=>?_);refine gM (λS=>?a) (λS=>?b)
  case' a =>
   have S:n<o:=S;refine bJ (wpS_lift (wL ⟨rfl,?_⟩));refine bJ (ae6 u BC (lo:=lo) (n:=min (x0.size-lo) o) (by omega) (by omega) hB hu λB K Xs=>?_);refine gM (λq=>b7 q (by decide)) (λ_=>?_);have F:1<=min (x0.size-lo) o:=by omega
   have D:min (x0.size-lo) o<=x0.size-lo:=by omega
   dsimp only;generalize min (x0.size-lo) o=n2 at F D Xs ⊢;obtain⟨R,U,N,y,W,kZ⟩:=g.made (by omega) K (by omega) Xs
  case' b =>
   dsimp only;obtain⟨R,U,N,y,W,kZ⟩:=g.made (by omega) hB (by omega) hu
  all_goals
   refine bJ (yH ?_);generalize w:R.length=k at y;subst y;have fin:∀B,Go rk kd x0 (R++U) B->Go rk kd x0 U (setPending B ((cb B).push (lo,k,0))):=λB d=>d.Ta (by
    rw[<-w];exact d.XH.push (by omega) W (by have:=d.perm.size_eq;have e:=gL (xs:=bp B);omega))
   have last:∀B,Go rk kd x0 (R++U) B->∃T LX,((au,lo+k):aw Unit×a6)=(au,T)/\i+1<=T/\T+LX.length=x0.size/\Go rk kd x0 LX (setPending B ((cb B).push (lo,k,0))):=λB d=>⟨lo+k,U,rfl,by omega,by omega,fin B d⟩
   split
   ·rename_i X v q1 _;generalize power' x0.size (2*X+v) (2*X+v+v+k) x0.size=pw;refine bJ (oH (qB (I:=λ_ c z=>c=(au,())/\Go rk kd x0 (R++U) z) (Q:=λc z=>c=(au,())/\Go rk kd x0 (R++U) z) ?istep (λ_ _ hh=>hh) ⟨rfl,N⟩) ?ipost)
    case istep =>
     rintro j c V _ _ ⟨rfl,f⟩;refine bJ (yH ?_)
     by_cases hs:(cb V).size>1
     ·rw[a9 hs,oR _ _ (by omega)];refine gM (λ_=>cP ⟨rfl,f⟩) (λ_=>?_);refine bJ (Pd u H f (by omega) λDA L _=>?_);exact gM (λq=>b7 q (by decide)) (λ_=>cP ⟨rfl,L⟩)
     ·rw[bb hs];exact cP ⟨rfl,f⟩
    case ipost =>
     rintro c V ⟨rfl,f⟩;have L:=f.Ta (f.XH.last (pw:=pw) (i:=(cb V).size-1));refine bJ (GK (bJ (GK (cP ?_))));exact last _ L
   ·exact bJ (GK (cP (last _ N)))
 case post =>
  rintro⟨r,lo⟩ z ⟨e,g⟩;dsimp only at e;subst e;have C:(bp z).size=x0.size:=g.perm.size_eq;have hc:=g.XH.size;have e:=gL (xs:=bp z);rw[BZ]at hc;refine bJ (oH (qB (I:=λt c l=>c=(au,())/\Go rk kd x0 [] l/\(cb l).size+t<=x0.size+1) (Q:=λc l=>c=(au,())/\Go rk kd x0 [] l/\(cb l).size<=1) ?s2 ?f2 ⟨rfl,g,by omega⟩) ?p2)
  case f2 =>
   rintro c p ⟨e,N,h2⟩;exact⟨e,N,by omega⟩
  case p2 =>
   rintro c p ⟨rfl,N,h2⟩;exact cP (h p N.perm N.failed (N.XH.done h2))
  case s2 =>
   rintro t c p _ _ ⟨rfl,N,h2⟩;refine bJ (yH (gM (λh1=>cP ⟨rfl,N,h1⟩) (λh1=>?_)));refine bJ (Pd u H N ?_ λB d h3=>?_)
   ·generalize Option.any _ _=cc;cases cc <;> simp only[jW,eT,gH] <;> omega
   ·exact gM (λq=>b7 q (by decide)) (λ_=>cP ⟨rfl,d,by omega⟩)
end
section
variable{prog:bh}{w:bw}{A:bu}{E:av->ay->Prop}{s:ay}
theorem asA:iY (bq prog w) A E s oneType' (λp=>∃n t,p.1=.int n t) (λp=>numOf p.1):=by
 rintro⟨x,N⟩ ⟨y,B⟩ ⟨n,t,q⟩ ⟨m,u,j⟩ st Q z h;dsimp only at q j;subst q j;rw[lt'_eq];refine bJ (yH ?_);rw[z,keyLt'_oneType];refine bJ (wpS_lift (GQ (oneLt_int ⟨rfl,?_⟩)));exact cP h
theorem ajG{xs:a8 bc}{n:a6}(h:dD (λp=>numOf p.1) xs.toList)(hn:n<=xs.size):SortedTo xs n:=λi j z q=>by
 rw[K_eq (show i<xs.size by omega),K_eq (show j<xs.size by omega)]
 by_cases e:i=j
 ·subst e;exact lJ _
 ·have:=List.pairwise_iff_getElem.mp h i j (by rw[gL];omega) (by rw[gL];omega) (by omega);simpa using this
theorem Wq{a:az}{vs:aq av}{ns:aq a4}{n:a6}{P:PySem.Fin->ay->Prop}(b:s.heap.get? a=ao (dh "list" vs.toArray n))
  (g:de vs ns) (hl:vs.length<=bf)
  (h:∀(ae:a8 av) (N:aq a4),de ae.toList N->N.Perm ns->N.Pairwise (· <= ·)->P (.done (.ret .none)) {s with heap:=fj s.heap a vs ae}) :
  wpAny (bq prog w) A (Builtin.«list.sort» ⟨[.ref a],[]⟩) P E s:=by
 rw[list_sort_plain];have m:a<s.heap.objs.size:=dQ b;refine aJ (listItems_at b rfl ?_);refine aJ (listUpdate_at b rfl ?_ (by rw[kD];exact hl) HS);obtain⟨k,l⟩:∃k,(s.heap.update a (Obj.mapSeq λ_=>#[])).get? a=ao (dh "list" #[] k):=⟨_,WJ b (λ_=>#[])⟩;refine aJ (seqEpoch_at l rfl ?_);refine aJ (wpAny_newTuple ?_ (by show vs.length<=_;exact hl));refine aJ (wpAny_newList ?_ HS);refine CS ?_;have c:(((s.heap.update a (Obj.mapSeq λ_=>#[])).push (dh "tuple" vs.toArray 0)).push (dh "list" #[] 0)).get? a=ao (dh "list" #[] k):=by
  rw[Heap.get?_push_ne _ _ _ (by rw[size_push',Heap.size_update];exact fW (YQ m)),Heap.get?_push_ne _ _ _ (by rw[Heap.size_update];exact fW m)];exact l
 show wpAny (bq prog w) A _ P E {s with heap:=((s.heap.update a (Obj.mapSeq λ_=>#[])).push (dh "tuple" vs.toArray 0)).push (dh "list" #[] 0)};dsimp only;have d:vs.toArray.size=vs.length:=by simp
 have fin:∀B:bo,(bp B).Perm (pairsOf vs)->SortedTo (bp B) (pairsOf vs).size ->
   P (.done (.ret .none)) {s with heap:=fj s.heap a vs ((bp B).map (·.2))}:=by
  intro B U f;obtain⟨N,h1,h2,t⟩:=sorted_out g U f;exact h _ N h1 h2 t
 by_cases h2:vs.toArray.size<2
 ·rw[a9 h2,a9 h2];refine aJ (aY ?_);rw[StateT.run_pure];refine aJ (aY ?_);dsimp only;refine aJ (seqEpoch_at c rfl ?_);refine aJ (listUpdate_at c rfl ?_ HS (by rw[Array.size_map];show(pairsOf vs).size<=_;rw[pairsOf_size];omega));simp only[bne_self_eq_false,jW,gH];refine aY (fin (SortSt.mk' general' (vs.toArray.zip vs.toArray) #[] 7 au) (Array.Perm.refl _) ?_);intro i j x p;have:i=j:=by rw[pairsOf_size]at p;omega
  subst this;exact lJ _
 ·rw[bb h2,bb h2];obtain⟨z,q,rest,rfl⟩:∃z q rest,vs=z::q::rest:=by
   match vs,d,h2 with
   |[],_,h2=>simp at h2
   |[_],_,h2=>simp at h2
   |z::q::rest,_,_=>exact⟨z,q,rest,rfl⟩
  rw[keyKind_ints g];refine aJ (aY ?_);refine aJ (lV (aeQ asA (x0:=pairsOf (z::q::rest)) (st:=SortSt.mk' oneType' ((z::q::rest).toArray.zip (z::q::rest).toArray) #[] 7 au)
   (Q:=λ_ B=>(bp B).Perm (pairsOf (z::q::rest))/\d9 B=au/\SortedTo (bp B) (pairsOf (z::q::rest)).size)
   g.intKeys rfl rfl rfl rfl λB o v u=>⟨o,v,ajG u (by rw[o.size_eq];exact rV _)⟩) ?_ λ_ _ e=>e)
  rintro⟨⟨⟩,B⟩ s' ⟨rfl,U,r,f⟩;dsimp only;refine aJ (seqEpoch_at c rfl ?_);refine aJ (listUpdate_at c rfl ?_ HS (by refine rT (Nat.le_of_eq ((Array.size_map ..).trans (U.size_eq.trans (pairsOf_size _)))) ?_;omega));rw[r];simp only[bne_self_eq_false,jW,gH];exact aY (fin B U f)
end
end PyProof.Rows
namespace L2
open PySem PySem.Spec PyProof.Rows
section
variable{X:Cx}
theorem aET(hc:X.calm=a5):tP X (.builtin "sorted") (λxs H Q=>∃d kvs B,xs=[.ref d]/\H d=ao (.dK kvs)/\kvs.map (·.1)=B.map Sum.inl/\B.length<4000 /\
  ∀(ms:aq a4) (l:az),ms.Perm B->ms.Pairwise (· <= ·)->H l=au->Q (.ref l) (upd H l (.lst (ms.map V.int)))):=by
 intro aa s J H xs N Q I r h;obtain⟨d,kvs,B,rfl,hd,D,Iv,q⟩:=h;obtain⟨u,rfl,P⟩:=vals1 r;cases P;obtain⟨z,lo,o,rel,dd⟩:=Jw I.aK hd;obtain⟨ep,EE⟩:=dd.dictAt;have y:o.length=B.length:=by
  rw[<-rel.length,<-jG (f:=(·.1)),D,jG]
 have T:(4000:a6)<=bf:=by decide
 refine Calls.call_function_entry kind_sorted plain_sorted entry_sorted (args_sorted1 _) ?_;unfold Builtin.«sorted»;refine aJ (m:=checkCount "sorted" 1 1 _) (aY ?_);refine aJ (PySem.W.kdu_collect (A:=X.A.in1) (PySem.W.kdl_dict (knd:=mB X.prog X.w) (kvs:=o) (ep:=ep) lo) (I.ok.hd hc) EE (by omega) λh' tk af Hd C=>?_);have hl:af.toList.length=B.length:=by rw[gL,C.1,y]
 have hI:de af.toList B:=by
  refine intsAre_of (ns:=B) ?_;have key:∀(js:aq a4) (N:aq av),N.length=js.length->(∀(i:a6) (v:av),N[i]?=ao v->∃(j:a4) (t:Tok),js[i]?=ao j/\v=Value.int j t)->Vals (js.map V.int) N:=by
   intro js
   induction js with
   |nil=>intro N hl _;cases N with
    |nil=>exact .nil
    |cons _ _=>simp at hl
   |cons j js ih =>
    intro N hl hv;cases N with
    |nil=>simp at hl
    |cons v N =>
     obtain⟨j',t,a,U⟩:=hv 0 v rfl;cases a;exact .cons ⟨t,U⟩ (ih N (by simpa using hl) λi w S=>hv (i+1) w (by simpa using S))
  refine key B af.toList hl λi v hv=>?_;obtain⟨k,x,a,U⟩:=C.2 i v (by rw[<-mM];exact hv);have c:(o.map (·.1))[i]?=ao k:=by rw[jH,a];rfl
  rw[<-rel.keys,D,jH]at c;cases E:B[i]? with
  |none=>rw[E]at c;cases c
  |some j =>
   rw[E]at c;have e5:(Sum.inl j:Key)=k:=kJ c;subst e5
   rcases vL (k:=Sum.inl j) (v:=v) U with⟨i',t,p,R⟩|⟨_,_,p,_⟩
   ·cases p;exact⟨j,t,rfl,R⟩
   ·cases p
 refine aJ (wpAny_newList ?_ (by rw[hl];omega));have n:(h'.push (dh "list" af.toList.toArray 0)).get? h'.objs.size=ao (dh "list" af.toList.toArray 0):=gU _ rfl;refine aJ (CS (uZ slot_list_sort ⟨_,n,rfl⟩ entry_list_sort (Wq n hI (by omega) λae g a1 F a3=>⟨_,rfl,?_⟩) (args_list_sort _)));refine aY ⟨_,rfl,?_⟩;have G:Inv X aa J H {s with heap:=h',toks:=tk}:=I.kept Hd;have hf:H h'.objs.size=au:=G.aK.fresh cJ;obtain⟨a,L⟩:∃a,((h'.push (dh "list" af.toList.toArray 0)).update h'.objs.size (Obj.mapSeq λ_=>#[])).get? h'.objs.size=ao (dh "list" #[] a):=⟨_,WJ n (λ_=>#[])⟩;have M:=dI (dh "list" #[] 0) (dI (dh "tuple" af.toList.toArray 0) L);obtain⟨U,K⟩:∃U,(fj (h'.push (dh "list" af.toList.toArray 0)) h'.objs.size af.toList ae).get? h'.objs.size=ao (dh "list" ae U):=⟨_,WJ M (λ_=>ae)⟩;have kp:∀b u,h'.get? b=ao u->(fj (h'.push (dh "list" af.toList.toArray 0)) h'.objs.size af.toList ae).get? b=ao u:=λb u e=>by
  have hb:b≠h'.objs.size:=fW (dQ e);unfold fj;exact(uU _ _ (cX hb)).trans (dI _ (dI _ ((uU _ _ (cX hb)).trans (dI _ e))))
 have hv:Vals (g.map V.int) ae.toList:=RZ a1;have Yn:g.length=B.length:=F.length_eq;refine⟨.ref h'.objs.size,upd H h'.objs.size (.lst (g.map V.int)),G.laid (t':=tk) kp cJ ?_,rfl,q g _ F a3 hf⟩;exact⟨by rw[jG];omega,ae.toList,U,hv,K⟩
end
end L2
namespace V2
open PySem PySem.Spec PyProof.Rows L2
inductive A where
 |int (i:a4)|bl (b:br)|str (x:ba)|aV|ty (n:c4)|adr (p:az)|OU (p d:az) (f:ba) (i:a4)|gl (x:ba)|gG (ns:aq a4)
 |tup (ds:aq A)|lst (ds:aq A)|aE (k:a6)
inductive Fd where
 |val (a:A)|lst (ds:aq A)|cV (kvs:aq (Key×A))
@[simp] noncomputable def Fd.own:Fd->br
 |.val _=>ax
 |_=>a5
inductive Cell where
 |lst (ds:aq A)|cV (kvs:aq (Key×A))|ins (cls:ba) (fs:aq (ba×Fd))|tab (x:ba) (pos:dn) (qual:ba)|dead
@[simp] def Cell.noOwn:Cell->br
 |.ins _ fs=>fs.all λp=>!p.2.own
 |_=>a5
structure Exc where
 cls:ba
 fs:aq (ba×A)
inductive Rs(α:Type)where
 |ok (a:α)|exc (x:Exc)
abbrev aH:=aq Cell
abbrev Ev:=aq (aw A)
abbrev Mo(α:Type):=aH->aw (Rs α×aH)
@[simp] noncomputable def ret{α:Type}(a:α):Mo α:=λZ=>ao (.ok a,Z)
@[simp] noncomputable def mb{α β:Type}(m:Mo α)(k:α->Mo β):Mo β:=λZ =>
 match m Z with
 |some (.ok a,Z1)=>k a Z1
 |some (.exc x,Z1)=>ao (.exc x,Z1)
 |none=>au
@[simp] noncomputable def stuck{α:Type}:Mo α:=λ_=>au
@[simp] noncomputable def need{α:Type}(o:aw α):Mo α:=λZ=>o.map λa=>(.ok a,Z)
@[simp] noncomputable def nF(p:Prop) [c5 p]:Mo Unit:=λZ=>if p then ao (.ok (),Z)else au
mutual
def Den(K:bj)(G:Hp)(O:aq az):V->A->Prop
 |v,.int j=>v=.int j
 |v,.bl b=>v=.bl b
 |v,.str x=>v=.str x
 |v,.aV=>v=.aV
 |v,.ty n=>v=.ty n
 |v,.adr p=>v=.ref p
 |v,.OU p d f i=>v=.ref p/\G d=ao (.xd [(f,.int i)])
 |v,.gl x=>∃C,cx K a7 x=ao (ao (.ref C))/\v=.ref C
 |v,.gG ns=>∃a,v=.ref a/\fO K G a (ns.map V.int)
 |v,.tup ds=>∃a xs,v=.ref a/\G a=ao (.tup xs)/\aU K G O xs ds
 |v,.lst ds=>∃a xs,v=.ref a/\G a=ao (.lst xs)/\aU K G O xs ds
 |v,.aE k=>∃a,v=.ref a/\O[k]?=ao a
def aU(K:bj)(G:Hp)(O:aq az):aq V->aq A->Prop
 |xs,[]=>xs=[]
 |xs,d::ds=>∃x r,xs=x::r/\Den K G O x d/\aU K G O r ds
end
structure Ext(G:Hp)(O:aq az)(G':Hp)(O':aq az):Prop where
 same:oX G G'
 pre:∀(k:a6) (a:az),O[k]?=ao a->O'[k]?=ao a
theorem Ext.refl(G:Hp)(O:aq az):Ext G O G O:=⟨oX.refl _,λ_ _ h=>h⟩
theorem Ext.trans{G B z:Hp}{O q j:aq az}(a:Ext G O B q)(b:Ext B q z j):Ext G O z j:=⟨a.same.trans b.same,λk x h=>b.pre k x (a.pre k x h)⟩
section
variable{K:bj}{G G':Hp}{O O':aq az}
mutual
theorem Den.ext(e:Ext G O G' O'):∀{v:V} {d:A},Den K G O v d->Den K G' O' v d
 |_,.int _,h=>by simpa only[Den]using h
 |_,.bl _,h=>by simpa only[Den]using h
 |_,.str _,h=>by simpa only[Den]using h
 |_,.aV,h=>by simpa only[Den]using h
 |_,.ty _,h=>by simpa only[Den]using h
 |_,.adr _,h=>by simpa only[Den]using h
 |_,.OU _ _ _ _,h=>by
  simp only[Den]at h ⊢;exact⟨h.1,e.same _ _ h.2⟩
 |_,.gl _,h=>by simpa only[Den]using h
 |_,.gG _,h=>by
  simp only[Den]at h ⊢;obtain⟨a,h1,h2⟩:=h;exact⟨a,h1,e.same.seq h2⟩
 |_,.tup ds,h=>by
  simp only[Den]at h ⊢;obtain⟨a,xs,h1,h2,j⟩:=h;exact⟨a,xs,h1,e.same _ _ h2,aU.ext e j⟩
 |_,.lst ds,h=>by
  simp only[Den]at h ⊢;obtain⟨a,xs,h1,h2,j⟩:=h;exact⟨a,xs,h1,e.same _ _ h2,aU.ext e j⟩
 |_,.aE k,h=>by
  simp only[Den]at h ⊢;obtain⟨a,h1,h2⟩:=h;exact⟨a,h1,e.pre _ _ h2⟩
theorem aU.ext(e:Ext G O G' O'):∀{xs:aq V} {ds:aq A},aU K G O xs ds->aU K G' O' xs ds
 |_,[],h=>by simpa only[aU]using h
 |_,d::ds,h=>by
  simp only[aU]at h ⊢;obtain⟨x,r,h1,h2,j⟩:=h;exact⟨x,r,h1,Den.ext e h2,aU.ext e j⟩
end
theorem vS{xs:aq V}:aU K G O xs []<->xs=[]:=by simp only[aU]
theorem aU.length:∀{xs:aq V} {ds:aq A},aU K G O xs ds->xs.length=ds.length
 |_,[],h=>by simp only[aU]at h;subst h;rfl
 |_,d::ds,h=>by
  simp only[aU]at h;obtain⟨x,r,rfl,h2,j⟩:=h;simp only[iZ,aU.length j]
theorem aU.nil:aU K G O [] []:=by simp only[aU]
theorem aU.cons{x:V}{xs:aq V}{d:A}{ds:aq A}(h:Den K G O x d)(t:aU K G O xs ds):aU K G O (x::xs) (d::ds):=by
 simp only[aU];exact⟨x,xs,rfl,h,t⟩
theorem aU.lY{xs:aq V}{d:A}{ds:aq A}(h:aU K G O xs (d::ds)):∃x r,xs=x::r/\Den K G O x d/\aU K G O r ds:=by simpa only[aU]using h
theorem aU.get:∀{xs:aq V} {ds:aq A} {i:a6} {d:A},aU K G O xs ds->ds[i]?=ao d->∃x,xs[i]?=ao x/\Den K G O x d
 |_,[],_,_,_,e=>by simp at e
 |_,_::_,0,_,h,e=>by
  obtain⟨x,r,rfl,h2,j⟩:=h.lY;simp at e;subst e;exact⟨x,rfl,h2⟩
 |_,_::_,i+1,_,h,e=>by
  obtain⟨x,r,rfl,h2,j⟩:=h.lY;simp at e;obtain⟨y,z,q⟩:=aU.get j e;exact⟨y,by simpa using z,q⟩
theorem aU.append:∀{xs ys:aq V} {ds es:aq A},aU K G O xs ds->aU K G O ys es->aU K G O (xs++ys) (ds++es)
 |_,_,[],_,h,t=>by rw[vS]at h;subst h;exact t
 |_,_,d::ds,_,h,t=>by
  obtain⟨x,r,rfl,h2,j⟩:=h.lY;exact .cons h2 (aU.append j t)
theorem aU.take:∀{xs:aq V} {ds:aq A} (n:a6),aU K G O xs ds->aU K G O (xs.take n) (ds.take n)
 |_,_,0,_=>by simpa using aU.nil
 |_,[],n+1,h=>by rw[vS]at h;subst h;exact aU.nil
 |_,d::ds,n+1,h=>by
  obtain⟨x,r,rfl,h2,j⟩:=h.lY;exact .cons h2 (aU.take n j)
theorem aU.drop:∀{xs:aq V} {ds:aq A} (n:a6),aU K G O xs ds->aU K G O (xs.drop n) (ds.drop n)
 |_,_,0,h=>by simpa using h
 |_,[],n+1,h=>by rw[vS]at h;subst h;exact aU.nil
 |_,d::ds,n+1,h=>by
  obtain⟨x,r,rfl,h2,j⟩:=h.lY;exact aU.drop n j
theorem aU.set{x:V}{d:A}(q:Den K G O x d):∀{xs:aq V} {ds:aq A} (n:a6),aU K G O xs ds->aU K G O (xs.set n x) (ds.set n d)
 |_,[],n,h=>by rw[vS]at h;subst h;exact aU.nil
 |_,e::ds,0,h=>by
  obtain⟨y,r,rfl,h2,j⟩:=h.lY;exact .cons q j
 |_,e::ds,n+1,h=>by
  obtain⟨y,r,rfl,h2,j⟩:=h.lY;exact .cons h2 (aU.set q n j)
theorem XD:∀(ns:aq a4),aU K G O (ns.map V.int) (ns.map A.int)
 |[] => .nil
 |n::ns => .cons (by simp only[Den]) (XD ns)
end
def aGZ(K:bj)(G H:Hp)(a:az)(x:ba)(pos:dn)(qual:ba):Prop :=
 G a=au/\(∃c,tabIn K x=ao (c,a))/\∃ps,H a=ao (.jC ps)/\TriplesOk ps.toList /\
  (codeAmong pos ps.toList=au\/∃c' j vs t,codeAmong pos ps.toList=ao (.ref c')/\G c'=ao (.eI j (.own 0))/\j.data=.fields vs/\vs[1]?=ao (.str qual t))
def kF(K:bj)(G:Hp)(O:aq az)(H:Hp)(v:V):Fd->Prop
 |.val a=>Den K G O v a
 |.lst ds=>∃b xs,v=.ref b/\G b=au/\b∉O/\H b=ao (.lst xs)/\aU K G O xs ds
 |.cV kvs=>∃b,∃j:aq (Key×V),v=.ref b/\G b=au/\b∉O/\H b=ao (.dK j)/\j.map (·.1)=kvs.map (·.1)/\aU K G O (j.map (·.2)) (kvs.map (·.2))
def jV(K:bj)(G:Hp)(O:aq az)(H:Hp):aq (ba×V)->aq (ba×Fd)->Prop
 |[],[]=>True
 |(f,v)::j,(g,d)::fs=>f=g/\kF K G O H v d/\jV K G O H j fs
 |_,_=>cp
def tO(K:bj)(G:Hp)(O:aq az)(H:Hp)(a:az):Cell->Prop
 |.lst ds=>G a=au/\∃xs,H a=ao (.lst xs)/\aU K G O xs ds
 |.cV kvs=>G a=au/\∃j:aq (Key×V),H a=ao (.dK j)/\j.map (·.1)=kvs.map (·.1)/\aU K G O (j.map (·.2)) (kvs.map (·.2))
 |.ins cls fs=>G a=au/\∃C dx,∃j:aq (ba×V),cx K a7 cls=ao (ao (.ref C))/\H a=ao (.ins C dx j)/\jV K G O H j fs
 |.tab x pos qual=>aGZ K G H a x pos qual
 |.dead=>True
def jU(H:Hp)(O:aq az)(Z:aH)(k i:a6)(b:az):Prop:=∃a cls fs C dx j g h fd,O[k]?=ao a/\Z[k]?=ao (.ins cls fs)/\H a=ao (.ins C dx j)/\fs[i]?=ao (g,fd)/\fd.own=a5/\j[i]?=ao (h,.ref b)
structure Wd(K:bj)(G:Hp)(O:aq az)(Z:aH)(H:Hp):Prop where
 sub:oX G H
 inj:O.Nodup
 len:O.length=Z.length
 live:∀a∈O,∃o,H a=ao o
 aE:∀(k:a6) (c:Cell) (a:az),Z[k]?=ao c->O[k]?=ao a->tO K G O H a c
 sep:∀(b:az) (k i k' i':a6),jU H O Z k i b->jU H O Z k' i' b->k=k'/\i=i'
section
variable{K:bj}{G G' H H':Hp}{O O':aq az}{Z:aH}{a p:az}
theorem kF.mono{v:V}{fd:Fd}(h:kF K G O H v fd)(e:Ext G O G' O')(c:∀b o,b∉O->G b=au->H b=ao o->b∉O'/\G' b=au/\H' b=ao o):kF K G' O' H' v fd:=by
 cases fd with
 |val a=>exact Den.ext e h
 |lst ds =>
  obtain⟨b,xs,h1,h2,U,N,B⟩:=h;obtain⟨z,q,j⟩:=c b _ U h2 N;exact⟨b,xs,h1,q,z,j,B.ext e⟩
 |cV d =>
  obtain⟨b,ws,h1,h2,U,N,B,f⟩:=h;obtain⟨z,q,j⟩:=c b _ U h2 N;exact⟨b,ws,h1,q,z,j,B,f.ext e⟩
theorem jV.map{j:bj}{G' H':Hp}{O':aq az}(f:∀v fd,kF K G O H v fd->kF j G' O' H' v fd):∀{ws:aq (ba×V)} {fs:aq (ba×Fd)},jV K G O H ws fs->jV j G' O' H' ws fs
 |[],[],_=>trivial
 |(_,_)::_,(_,_)::_,h=>⟨h.1,f _ _ h.2.1,jV.map f h.2.2⟩
 |[],_::_,h=>h.elim
 |_::_,[],h=>h.elim
theorem tO.mono{c:Cell}(h:tO K G O H a c)(e:Ext G O G' O')(j:G' a=G a)(hh:H' a=H a)(l:∀b o,b∉O->G b=au->H b=ao o->b∉O'/\G' b=au/\H' b=ao o):tO K G' O' H' a c:=by
 cases c with
 |lst ds=>obtain⟨g,xs,h1,h2⟩:=h;exact⟨j.trans g,xs,hh.trans h1,h2.ext e⟩
 |cV k=>obtain⟨g,ws,h1,h2,z⟩:=h;exact⟨j.trans g,ws,hh.trans h1,h2,z.ext e⟩
 |ins cls fs=>obtain⟨g,C,n,ws,h0,h1,h2⟩:=h;exact⟨j.trans g,C,n,ws,h0,hh.trans h1,h2.map λ_ _ q=>q.mono e l⟩
 |tab x pos qual =>
  obtain⟨g,m,f,h1,h2,z⟩:=h;exact⟨j.trans g,m,f,hh.trans h1,h2,z.imp id λ⟨p,i,B,t,d,U,N⟩=>⟨p,i,B,t,d,e.same _ _ U,N⟩⟩
 |dead=>trivial
theorem Wd.addr(w:Wd K G O Z H){k:a6}{c:Cell}(h:Z[k]?=ao c):∃a,O[k]?=ao a:=by
 have j:=(cY.mp h).1;exact⟨O[k]'(by rw[w.len];exact j),fF _⟩
theorem Wd.ne(w:Wd K G O Z H)(j:H p=au)(z:a∈O):a≠p:=by
 obtain⟨o,q⟩:=w.live a z;exact jT q j
theorem Wd.oQ(w:Wd K G O Z H)(j:H p=au):G p=au:=by
 cases e:G p with
 |none=>rfl
 |some o=>rw[w.sub _ _ e]at j;cases j
theorem jU.to{k i:a6}{b:az}{O':aq az}{Z Z':aH}(h:jU H O Z k i b)(h1:∀a,O[k]?=ao a->O'[k]?=ao a/\∀o,H a=ao o->H' a=ao o)(h2:∀cls fs,Z[k]?=ao (.ins cls fs)->Z'[k]?=ao (.ins cls fs)):jU H' O' Z' k i b:=by
 obtain⟨a,cls,fs,C,c,ws,g,h',fd,j,U,N,B,z,q⟩:=h;exact⟨a,cls,fs,C,c,ws,g,h',fd,(h1 a j).1,h2 _ _ U,(h1 a j).2 _ N,B,z,q⟩
theorem jU.no{k i:a6}{b:az}{c:Cell}(h:jU H O Z k i b)(B:Z[k]?=ao c)(hn:c.noOwn=a5):cp:=by
 obtain⟨a,cls,fs,C,e,ws,g,h',fd,d,j,U,z,q,N⟩:=h;rw[B]at j;cases j;simp only[Cell.noOwn,FR]at hn;have:=hn _ (mJ z);simp only[]at this;rw[q]at this;cases this
theorem Wd.grow(w:Wd K G O Z H)(s:oX H H'):Wd K G O Z H' where
 sub:=w.sub.trans s
 inj:=w.inj
 len:=w.len
 live:=λa j=>let ⟨o,B⟩:=w.live a j; ⟨o,s _ _ B⟩
 aE:=λk c a h1 h2=>by
  have q:=w.aE k c a h1 h2;cases c with
  |lst ds=>obtain⟨g,xs,h1,h2⟩:=q;exact⟨g,xs,s _ _ h1,h2⟩
  |cV d=>obtain⟨g,ws,h1,h2,m⟩:=q;exact⟨g,ws,s _ _ h1,h2,m⟩
  |ins cls fs=>obtain⟨g,C,n,ws,h0,h1,h2⟩:=q;exact⟨g,C,n,ws,h0,s _ _ h1,h2.map λ_ _ q=>q.mono (Ext.refl _ _) λb o x y z=>⟨x,y,s _ _ z⟩⟩
  |tab x pos qual =>
   obtain⟨g,l,U,h1,h2⟩:=q;exact⟨g,l,U,s _ _ h1,h2⟩
  |dead=>trivial
 sep:=λb k i e f h1 h2=>by
  have back:∀{k i},jU H' O Z k i b->jU H O Z k i b:=λh=>h.to (λa j=>⟨j,λo B=>by
   obtain⟨p,N⟩:=w.live a (mJ j);have:=s _ _ N;rw[B]at this;cases this;exact N⟩) λ_ _ q=>q
  exact w.sep b k i e f (back h1) (back h2)
theorem HR{α:Type}:∀{l:aq α} {i j:a6} {x:α},l.Nodup->l[i]?=ao x->l[j]?=ao x->i=j
 |[],_,_,_,_,h,_=>by simp at h
 |y::l,0,0,_,_,_,_=>rfl
 |y::l,0,j+1,x,n,h1,h2=>by
  simp at h1 h2;subst h1;exact b7 (mJ h2) (FN.mp n).1
 |y::l,i+1,0,x,n,h1,h2=>by
  simp at h1 h2;subst h2;exact b7 (mJ h1) (FN.mp n).1
 |y::l,i+1,j+1,x,n,h1,h2=>by
  simp at h1 h2;rw[HR (FN.mp n).2 h1 h2]
theorem HV{α:Type}{l:aq α}{k:a6}{x:α}(h:l[k]?=ao x):x∈l:=mJ h
theorem Ext.new(j:G p=au)(o:HO):Ext G O (upd G p o) O:=⟨oX.new j,λ_ _ h=>h⟩
theorem Wd.new(w:Wd K G O Z H)(j:H p=au)(o:HO):Wd K (upd G p o) O Z (upd H p o)where
 sub:=λb u h=>by
  by_cases e:b=p
  ·subst e;rw[eZ]at h ⊢;exact h
  ·rw[bR e]at h ⊢;exact w.sub _ _ h
 inj:=w.inj
 len:=w.len
 live:=λa B=>by rw[bR (w.ne j B)];exact w.live a B
 aE:=λk c a h1 h2=>by
  have n:=w.ne j (HV h2);exact(w.aE k c a h1 h2).mono (Ext.new (w.oQ j) o) (bR n) (bR n) λb u x y z=>by
   have nb:b≠p:=jT z j;exact⟨x,by rw[bR nb];exact y,by rw[bR nb];exact z⟩
 sep:=λb k i N U h1 h2=>by
  have back:∀{k i},jU (upd H p o) O Z k i b->jU H O Z k i b:=λh=>h.to (λa B=>⟨B,λu d=>by rwa[bR (w.ne j (mJ B))]at d⟩) λ_ _ q=>q;exact w.sep b k i N U (back h1) (back h2)
theorem Ext.cell(x:az):Ext G O G (O++[x]):=⟨oX.refl _,λk a h=>by
 rw[iD (cY.mp h).1];exact h⟩
theorem Wd.cell(w:Wd K G O Z H)(j:H p=au){o:HO}{c:Cell}(v:tO K G (O++[p]) (upd H p o) p c)(r:c.noOwn=a5:=by rfl):Wd K G (O++[p]) (Z++[c]) (upd H p o)where
 sub:=λb u h=>by
  have e:b≠p:=λe=>by subst e;rw[w.sub _ _ h]at j;cases j
  rw[bR e];exact w.sub _ _ h
 inj:=by
  rw[Mp];exact⟨w.inj,by simp,λa d b hb=>by simp at hb;subst hb;exact w.ne j d⟩
 len:=by simp[w.len]
 live:=λa d=>by
  rcases kL.mp d with h|h
  ·rw[bR (w.ne j h)];exact w.live a h
  ·simp at h;subst h;exact⟨o,eZ⟩
 aE:=λk D a h1 h2=>by
  by_cases q:k<O.length
  ·rw[iD q]at h2;rw[iD (by rw[<-w.len];exact q)]at h1;exact(w.aE k D a h1 h2).mono (Ext.cell p) rfl (bR (w.ne j (HV h2))) λb u x y z=>by
    have nb:b≠p:=jT z j;exact⟨by simp[x,nb],y,by rw[bR nb];exact z⟩
  ·have U:k=O.length:=by
    have:=(cY.mp h2).1;simp at this;omega
   subst U;simp at h2;subst h2;rw[w.len]at h1;simp at h1;subst h1;exact v
 sep:=λb k i s t h1 h2=>by
  have back:∀{k i},jU (upd H p o) (O++[p]) (Z++[c]) k i b->jU H O Z k i b:=λ{k i} h=>by
   have h0:=h;obtain⟨a,cls,fs,C,A,ws,g,h',fd,N,B,f,n,m,l⟩:=h
   by_cases q:k<Z.length
   ·rw[iD q]at B;rw[iD (by rw[w.len];exact q)]at N;rw[bR (w.ne j (HV N))]at f;exact⟨a,cls,fs,C,A,ws,g,h',fd,N,B,f,n,m,l⟩
   ·have U:k=Z.length:=by
     have:=(cY.mp B).1;simp at this;omega
    subst U;exact(h0.no (by simp) r).elim
  exact w.sep b k i s t (back h1) (back h2)
theorem Wd.put(w:Wd K G O Z H){k:a6}{c:Cell}{o:HO}(B:O[k]?=ao a)(t:G a=au)(v:tO K G O (upd H a o) a c)(p:c.noOwn=a5:=by rfl):Wd K G O (Z.set k c) (upd H a o)where
 sub:=λb u h=>by
  have e:b≠a:=λe=>by subst e;rw[t]at h;cases h
  rw[bR e];exact w.sub _ _ h
 inj:=w.inj
 len:=by rw[BY];exact w.len
 live:=λb hb=>by
  by_cases e:b=a
  ·subst e;exact⟨o,eZ⟩
  ·rw[bR e];exact w.live b hb
 aE:=λj D b h1 h2=>by
  by_cases q:j=k
  ·subst q;rw[B]at h2;cases h2;have hl:j<Z.length:=by rw[<-w.len];exact(cY.mp B).1
   rw[eV hl]at h1;cases h1;exact v
  ·rw[dZ (cX q)]at h1;have eX:b≠a:=λe=>by
    subst e;exact q (HR w.inj h2 B)
   exact(w.aE j D b h1 h2).mono (Ext.refl _ _) rfl (bR eX) λb u x y z=>by
    have nb:b≠a:=λe=>by subst e;exact x (HV B)
    exact⟨x,y,by rw[bR nb];exact z⟩
 sep:=λb j i r s h1 h2=>by
  have back:∀{j i},jU (upd H a o) O (Z.set k c) j i b->jU H O Z j i b:=λ{j i} h=>by
   have h0:=h;obtain⟨f,cls,fs,C,A,ws,g,h',fd,d,U,N,n,m,l⟩:=h
   by_cases q:j=k
   ·subst q;have hl:j<Z.length:=by rw[<-w.len];exact(cY.mp B).1
    exact(h0.no (by rw[eV hl]) p).elim
   ·rw[dZ (cX q)]at U;have eX:f≠a:=λe=>by subst e;exact q (HR w.inj d B)
    rw[bR eX]at N;exact⟨f,cls,fs,C,A,ws,g,h',fd,d,U,N,n,m,l⟩
  exact w.sep b j i r s (back h1) (back h2)
theorem Wd.freeze(w:Wd K G O Z H){k:a6}{o:HO}(B:O[k]?=ao a)(r:G a=au)(p:H a=ao o):Wd K (upd G a o) O (Z.set k .dead) H where
 sub:=λb u h=>by
  by_cases e:b=a
  ·subst e;rw[eZ]at h;cases h;exact p
  ·rw[bR e]at h;exact w.sub _ _ h
 inj:=w.inj
 len:=by rw[BY];exact w.len
 live:=w.live
 aE:=λj t b h1 h2=>by
  by_cases q:j=k
  ·subst q;have hl:j<Z.length:=by rw[<-w.len];exact(cY.mp B).1
   rw[eV hl]at h1;cases h1;trivial
  ·rw[dZ (cX q)]at h1;have eX:b≠a:=λe=>by
    subst e;exact q (HR w.inj h2 B)
   exact(w.aE j t b h1 h2).mono (Ext.new r o) (bR eX) rfl λb u x y z=>by
    have nb:b≠a:=λe=>by subst e;exact x (HV B)
    exact⟨x,by rw[bR nb];exact y,z⟩
 sep:=λb j i m n h1 h2=>by
  have back:∀{j i},jU H O (Z.set k .dead) j i b->jU H O Z j i b:=λ{j i} h=>by
   have h0:=h;obtain⟨v,cls,fs,C,s,ws,g,h',fd,l,N,f,d,c,U⟩:=h
   by_cases q:j=k
   ·subst q;have hl:j<Z.length:=by rw[<-w.len];exact(cY.mp B).1
    exact(h0.no (by rw[eV hl]) rfl).elim
   ·rw[dZ (cX q)]at N;exact⟨v,cls,fs,C,s,ws,g,h',fd,l,N,f,d,c,U⟩
  exact w.sep b j i m n (back h1) (back h2)
end
def gV(K:bj)(G:Hp)(O:aq az)(J:L2.St)(Y:Ev):Prop:=J.length=Y.length/\∀(i:a6) (d:A),Y[i]?=ao (ao d)->∃v,J[i]?=ao (ao v)/\Den K G O v d
theorem gV.ext{K:bj}{G G':Hp}{O O':aq az}{J:L2.St}{Y:Ev}(r:gV K G O J Y)(e:Ext G O G' O'):gV K G' O' J Y:=⟨r.1,λi d h=>let ⟨v,h1,h2⟩:=r.2 i d h; ⟨v,h1,h2.ext e⟩⟩
theorem gV.set{K:bj}{G:Hp}{O:aq az}{J:L2.St}{Y:Ev}(r:gV K G O J Y)(j:a6){v:V}{d:A}(h:Den K G O v d):gV K G O (J.set j (ao v)) (Y.set j (ao d)):=by
 refine⟨by rw[BY,BY];exact r.1,λi e he=>?_⟩
 by_cases q:i=j
 ·subst q;have hl:i<Y.length:=by
   have:=(cY.mp he).1;rwa[BY]at this
  rw[eV hl]at he;cases he;exact⟨v,eV (by rw[r.1];exact hl),h⟩
 ·rw[dZ (cX q)]at he ⊢;exact r.2 i e he
theorem gV.unset{K:bj}{G:Hp}{O:aq az}{J:L2.St}{Y:Ev}(r:gV K G O J Y)(j:a6)(o:aw V):gV K G O (J.set j o) (Y.set j au):=by
 refine⟨by rw[BY,BY];exact r.1,λi e he=>?_⟩
 by_cases q:i=j
 ·subst q;have hl:i<Y.length:=by
   have:=(cY.mp he).1;rwa[BY]at this
  rw[eV hl]at he;cases he
 ·rw[dZ (cX q)]at he ⊢;exact r.2 i e he
def ad1(K:bj)(G:Hp)(O:aq az)(H:Hp)(x:Exc)(cls:av)(dx:aw az):Prop :=
 (∃C,cx K a7 x.cls=ao (ao (.ref C))/\cls=.ref C)/\((x.fs=[]/\dx=au)\/∃d f i,dx=ao d/\x.fs=[(f,.int i)]/\G d=ao (.xd [(f,.int i)]))
abbrev Rl(α β:Type):=Hp->aq az->β->α->Prop
def bD{α β:Type}(K:bj)(rel:Rl α β)(W:WX)(G:Hp)(O:aq az)(J:L2.St)(Q:β->Hp->Prop):aw (Rs α×aH)->Prop
 |some (.ok a,Z')=>∀v H' G' O',Ext G O G' O'->Wd K G' O' Z' H'->rel G' O' v a->Q v H'
 |some (.exc x,Z')=>∀cls dx H' G' O',Ext G O G' O'->Wd K G' O' Z' H'->ad1 K G' O' H' x cls dx->W J cls dx H'
 |none=>cp
theorem bD.ext{α β:Type}{K:bj}{rel:Rl α β}{W:WX}{G U:Hp}{O q:aq az}{J:L2.St}{Q:β->Hp->Prop}{r:aw (Rs α×aH)}(h:bD K rel W G O J Q r)(e:Ext G O U q):bD K rel W U q J Q r:=by
 match r,h with
 |some (.ok a,z),h=>exact λv B N j x w d=>h v B N j (e.trans x) w d
 |some (.exc x,z),h=>exact λcls b B N j x w d=>h cls b B N j (e.trans x) w d
theorem bD.mb{α β B z:Type}{K:bj}{rel:Rl α β}{U:Rl B z}{W:WX}{G:Hp}{O:aq az}{J:L2.St}{Q:z->Hp->Prop}{N:β->Hp->Prop}{m:Mo α}{k:α->Mo B}{Z:aH}(h:bD K U W G O J Q (mb m k Z))
  (b:∀a Z1 v H1 q j,Ext G O q j->Wd K q j Z1 H1->rel q j v a->bD K U W q j J Q (k a Z1)->N v H1):bD K rel W G O J N (m Z):=by
 unfold V2.mb at h
 revert h
 generalize m Z=r;intro h
 match r,h with
 |some (.ok a,Z1),h=>exact λv H1 q j x w d=>b a Z1 v H1 q j x w d (bD.ext h x)
 |some (.exc x,Z1),h=>exact h
theorem bD.need{α β j:Type}{K:bj}{q:Rl α β}{W:WX}{G:Hp}{O:aq az}{J:L2.St}{Q:β->Hp->Prop}{o:aw j}{k:j->Mo α}{Z:aH}(h:bD K q W G O J Q (V2.mb (need o) k Z)):∃a,o=ao a/\bD K q W G O J Q (k a Z):=by
 cases o with
 |none=>exact False.elim h
 |some a=>exact⟨a,rfl,h⟩
theorem bD.nF{α β:Type}{K:bj}{q:Rl α β}{W:WX}{G:Hp}{O:aq az}{J:L2.St}{Q:β->Hp->Prop}{p:Prop} [c5 p]{k:Unit->Mo α}{Z:aH}(h:bD K q W G O J Q (V2.mb (nF p) k Z)):p/\bD K q W G O J Q (k () Z):=by
 unfold V2.mb V2.nF at h
 by_cases j:p
 ·rw[a9 j]at h;exact⟨j,h⟩
 ·rw[bb j]at h;exact False.elim h
def fP{α β:Type}(K:bj)(rel:Rl α β)(W:WX)(t:L2.St->Hp->(β->Hp->Prop)->Prop)(f:Ev->Mo α):Prop :=
 ∀G O Z H J Y Q,Wd K G O Z H->gV K G O J Y->bD K rel W G O J Q (f Y Z)->t J H Q
def DG:Rl br br:=λ_ _ b c=>b=c
def VE(X:Cx)(W:WX)(e:bx)(f:Ev->Mo A):Prop:=∃t,PE X e t/\fP X.K (Den X.K) W t f
def VT(X:Cx)(W:WX)(e:bx)(f:Ev->Mo br):Prop:=∃t,PT X e t/\fP X.K DG W t f
def VW(X:Cx)(W:WX)(e:bx)(f:Ev->Mo br):Prop:=∃t,PW X e t/\fP X.K DG W t f
def VA(X:Cx)(W:WX)(es:aq bx)(f:Ev->Mo (aq A)):Prop:=∃t,PA X es t/\fP X.K (aU X.K) W t f
end V2
namespace V2
open PySem PySem.Spec PyProof.Rows L2
section
variable{K:bj}{G H:Hp}{O:aq az}{Z:aH}{v:V}{a:A}
noncomputable def dU(Z:aH):A->aw (aq A)
 |.lst ds=>ao ds
 |.gG ns=>ao (ns.map A.int)
 |.aE k=>match Z[k]? with
  |some (.lst ds)=>ao ds
  |_=>au
 |_=>au
def fX(Z:aH):A->aw (aq A)
 |.tup ds=>ao ds
 |a=>dU Z a
theorem xB(w:Wd K G O Z H)(d:Den K G O v a){ds:aq A}(h:dU Z a=ao ds):∃p xs,v=.ref p/\fO K H p xs/\aU K G O xs ds:=by
 cases a with
 |lst es =>
  simp only[dU,kS]at h;subst h;simp only[Den]at d;obtain⟨p,xs,h1,h2,j⟩:=d;exact⟨p,xs,h1,fO.of (w.sub _ _ h2),j⟩
 |gG ns =>
  simp only[dU,kS]at h;subst h;simp only[Den]at d;obtain⟨p,h1,h2⟩:=d;exact⟨p,_,h1,w.sub.seq h2,XD ns⟩
 |aE k =>
  simp only[dU]at h;cases e:Z[k]? with
  |none=>rw[e]at h;cases h
  |some c =>
   rw[e]at h;cases c with
   |lst es =>
    simp only[kS]at h;subst h;simp only[Den]at d;obtain⟨p,h1,h2⟩:=d;obtain⟨g,xs,j,q⟩:=w.aE k _ p e h2;exact⟨p,xs,h1,fO.of j,q⟩
   |_=>cases h
 |_=>simp[dU]at h
theorem Bq(w:Wd K G O Z H)(d:Den K G O v a){ds:aq A}(h:fX Z a=ao ds):∃p xs,v=.ref p/\(fO K H p xs\/jP K H p xs)/\aU K G O xs ds:=by
 cases a with
 |tup es =>
  simp only[fX,kS]at h;subst h;simp only[Den]at d;obtain⟨p,xs,h1,h2,j⟩:=d;exact⟨p,xs,h1,.inr (jP.of (w.sub _ _ h2)),j⟩
 |_ =>
  obtain⟨p,xs,h1,h2,j⟩:=xB w d h;exact⟨p,xs,h1,.inl h2,j⟩
theorem Uk(w:Wd K G O Z H)(d:Den K G O v a){ds:aq A}(h:dU Z a=ao ds)(q:∀ns,a≠.gG ns):∃p xs,v=.ref p/\H p=ao (.lst xs)/\aU K G O xs ds:=by
 cases a with
 |lst es =>
  simp only[dU,kS]at h;subst h;simp only[Den]at d;obtain⟨p,xs,h1,h2,j⟩:=d;exact⟨p,xs,h1,w.sub _ _ h2,j⟩
 |gG ns=>exact b7 rfl (q ns)
 |aE k =>
  simp only[dU]at h;cases e:Z[k]? with
  |none=>rw[e]at h;cases h
  |some c =>
   rw[e]at h;cases c with
   |lst es =>
    simp only[kS]at h;subst h;simp only[Den]at d;obtain⟨p,h1,h2⟩:=d;obtain⟨g,xs,j,z⟩:=w.aE k _ p e h2;exact⟨p,xs,h1,j,z⟩
   |_=>cases h
 |_=>simp[dU]at h
end
@[simp] noncomputable def rF(c:br)(ds:aq A):Mo A:=λZ=>if c then ao (.ok (.aE Z.length),Z++[.lst ds])else ao (.ok (.lst ds),Z)
section
variable{K:bj}{G H:Hp}{O:aq az}{Z:aH}{W:WX}{J:L2.St}{Q:VK}
theorem HU{c:br}{ds:aq A}{xs:aq V}{p:az}(w:Wd K G O Z H)(j:H p=au)(d:aU K G O xs ds)(h:bD K (Den K) W G O J Q (rF c ds Z)):Q (.ref p) (upd H p (.lst xs)):=by
 cases c with
 |true =>
  refine h _ _ G (O++[p]) (Ext.cell p) (w.cell j ⟨w.oQ j,xs,eZ,d.ext (Ext.cell p)⟩) ?_;simp only[Den];exact⟨p,rfl,by rw[<-w.len];simp⟩
 |false =>
  refine h _ _ _ _ (Ext.new (w.oQ j) (.lst xs)) (w.new j _) ?_;simp only[Den];exact⟨p,xs,rfl,eZ,d.ext (Ext.new (w.oQ j) _)⟩
@[simp] def El(ds:aq A):Mo A:=ret (.tup ds)
theorem Ek{ds:aq A}{xs:aq V}{p:az}(w:Wd K G O Z H)(j:H p=au)(d:aU K G O xs ds)(h:bD K (Den K) W G O J Q (El ds Z)):Q (.ref p) (upd H p (.tup xs)):=by
 refine h _ _ _ _ (Ext.new (w.oQ j) (.tup xs)) (w.new j _) ?_;simp only[Den];exact⟨p,xs,rfl,eZ,d.ext (Ext.new (w.oQ j) _)⟩
theorem iS{α β:Type}{rel:Rl α β}{Q:β->Hp->Prop}{a:α}{b:β}(w:Wd K G O Z H)(d:rel G O b a)(h:bD K rel W G O J Q (ret a Z)):Q b H:=h b H G O (Ext.refl _ _) w d
end
section
variable{X:Cx}{W:WX}{e a b:bx}{es:aq bx}{pos:dn}{fa fb:Ev->Mo A}{fs:Ev->Mo (aq A)}
@[simp] def eM(i:a6):Ev->Mo A:=λY=>need (Y[i]?).join
theorem join_some{α:Type}{o:aw (aw α)}{x:α}(h:o.join=ao x):o=ao (ao x):=by
 cases o with
 |none=>cases h
 |some y=>cases y with
  |none=>cases h
  |some z=>cases h;rfl
theorem aj3{K:bj}{i:a6}:fP K (Den K) W (Bd i) (eM i):=by
 intro G q z H J j Q w r h;unfold eM need at h;cases e:(j[i]?).join with
 |none=>rw[e]at h;exact False.elim h
 |some d =>
  rw[e]at h;obtain⟨v,h1,h2⟩:=r.2 i d (join_some e);exact⟨v,h1,h v H G q (Ext.refl _ _) w h2⟩
theorem vv(i:a6){x:ba}(j:X.N[i]?=ao x:=by rfl)(hv:QJ X.env.scope x:=by first|exact Or.inl rfl|exact Or.inr (Or.inl rfl)|exact Or.inr (Or.inr rfl))(hd:(x==("__debug__" : ba))=ax:=by decide)
  (q:(x==("__classdict__" : ba))=ax:=by decide):VE X W (.Name x pos) (eM i):=⟨_,Dx j hv hd q,aj3⟩
@[simp] noncomputable def LG(i:a6):Ev->Mo A:=λY Z=>match (Y[i]?).join with
 |some (.aE k)=>match Z[k]? with
  |some (.lst ds)=>ao (.ok (.lst ds),Z.set k .dead)
  |_=>au
 |_=>au
theorem aj5{K:bj}{i:a6}:fP K (Den K) W (Bd i) (LG i):=by
 intro G N U H J B Q w r h;unfold LG at h;cases e:(B[i]?).join with
 |none=>rw[e]at h;exact False.elim h
 |some d =>
  rw[e]at h;cases d with
  |aE k =>
   simp only at h;cases j:U[k]? with
   |none=>rw[j]at h;exact False.elim h
   |some c =>
    rw[j]at h;cases c with
    |lst ds =>
     obtain⟨v,h1,h2⟩:=r.2 i _ (join_some e);simp only[Den]at h2;obtain⟨p,rfl,z⟩:=h2;obtain⟨g,q,b,a⟩:=w.aE k _ p j z;refine⟨_,h1,h _ H (upd G p (.lst q)) N (Ext.new g _) (w.freeze z g b) ?_⟩;simp only[Den];exact⟨p,q,rfl,eZ,a.ext (Ext.new g _)⟩
    |_=>exact False.elim h
  |_=>exact False.elim h
theorem vf(i:a6){x:ba}(j:X.N[i]?=ao x:=by rfl)(hv:QJ X.env.scope x:=by first|exact Or.inl rfl|exact Or.inr (Or.inl rfl)|exact Or.inr (Or.inr rfl))(hd:(x==("__debug__" : ba))=ax:=by decide)
  (q:(x==("__classdict__" : ba))=ax:=by decide):VE X W (.Name x pos) (LG i):=⟨_,Dx j hv hd q,aj5⟩
theorem DB{K:bj}{v:V}{d:A}(h:∀G O,Den K G O v d):fP K (Den K) W (tC v) (λ_=>ret d):=λG O _ _ _ _ _ w _ q=>iS w (h G O) q
theorem aO{i:a4}{j}:VE X W (.Constant (.int i) j pos) (λ_=>ret (.int i)):=⟨_,aoR,DB λ_ _=>by simp only[Den]⟩
theorem oI{i:br}{j}:VE X W (.Constant (.bool i) j pos) (λ_=>ret (.bl i)):=⟨_,ao4,DB λ_ _=>by simp only[Den]⟩
theorem GW{j}:VE X W (.Constant .none j pos) (λ_=>ret .aV):=⟨_,aoJ,DB λ_ _=>by simp only[Den]⟩
theorem afY{x:ba}{j}:VE X W (.Constant (.str x) j pos) (λ_=>ret (.str x)):=⟨_,aoC,DB λ_ _=>by simp only[Den]⟩
theorem af7{x:ba}{p:az}(j:Gl X x)(hm:X.mg x=ao (.ref p))(q:cx X.K a7 x=ao (ao (.ref p)))(hd:(x==("__debug__" : ba))=ax:=by decide):VE X W (.Name x pos) (λ_=>ret (.gl x)) :=
 ⟨_,Ux (v:=.ref p) j hm rfl hd,DB λ_ _=>by simp only[Den];exact⟨p,q,rfl⟩⟩
theorem af6{x:ba}{i:a4}(j:Gl X x)(hm:∃t,X.mg x=ao (.int i t))(hd:(x==("__debug__" : ba))=ax:=by decide):VE X W (.Name x pos) (λ_=>ret (.int i)):=by
 obtain⟨t,hm⟩:=hm;exact⟨_,Ux (v:=.int i) j hm ⟨t,rfl⟩ hd,DB λ_ _=>by simp only[Den]⟩
theorem RW{x:ba}{n:c4}(j:Gl X x)(hm:X.mg x=au)(hv:dq x=ao (.type n))(hn:x≠"__name__":=by decide)(hd:(x==("__debug__" : ba))=ax:=by decide):VE X W (.Name x pos) (λ_=>ret (.ty n)) :=
 ⟨_,ao3 (v:=.ty n) j hm hv rfl hn hd,DB λ_ _=>by simp only[Den]⟩
theorem aR:VA X W [] (λ_=>ret []):=⟨_,LZ,λ_ _ _ _ _ _ _ w _ q=>iS w .nil q⟩
@[simp] def aB(f:Ev->Mo A)(g:Ev->Mo (aq A)):Ev->Mo (aq A):=λY=>mb (f Y) λx=>mb (g Y) λxs=>ret (x::xs)
theorem aF(h1:VE X W e fa)(h2:VA X W es fs)(g:bg (e::es) X.env=(ax,cj e X.env)::bg es X.env:=by rfl):VA X W (e::es) (aB fa fs):=by
 obtain⟨t,f,d⟩:=h1;obtain⟨u,p2,s2⟩:=h2;refine⟨_,HN f p2 g,λG N a H J z Q w r h=>?_⟩;refine d G N a H J z _ w r (bD.mb h λx q v l m j c w1 k h1=>?_);refine s2 m j q l J z _ w1 (r.ext c) (bD.mb h1 λn U o p s B b w2 i h2=>?_);exact iS w2 (.cons (k.ext b) i) h2
@[simp] def sG(g:Ev->Mo (aq A)):Ev->Mo A:=λY=>mb (g Y) λxs=>mb (nF (xs.length<=bf)) λ_=>El xs
theorem tS{k}(h:VA X W es fs):VE X W (.Tuple es k pos) (sG fs):=by
 obtain⟨t,p,s⟩:=h;refine⟨_,aoB p,λG B U H J q Q w r h=>?_⟩;refine s G B U H J q _ w r (bD.mb h λb N d e f z c w1 j h1=>?_);obtain⟨hl,h2⟩:=bD.nF h1;exact⟨by rw[j.length];exact hl,λp a=>Ek w1 a j h2⟩
@[simp] def fM(c:br)(g:Ev->Mo (aq A)):Ev->Mo A:=λY=>mb (g Y) λxs=>mb (nF (xs.length<=bf)) λ_=>rF c xs
theorem lX(c:br)(h:VA X W es fs):VE X W (.List es pos) (fM c fs):=by
 obtain⟨t,p,s⟩:=h;refine⟨_,aoN p,λG B U H J q Q w r h=>?_⟩;refine s G B U H J q _ w r (bD.mb h λb N e f g z d w1 j h1=>?_);obtain⟨hl,h2⟩:=bD.nF h1;exact⟨by rw[j.length];exact hl,λp a=>HU w1 a j h2⟩
def uS(K:bj)(W:WX)(r:R2)(g:A->A->Mo A):Prop :=
 ∀G O Z H J x y a b Q,Wd K G O Z H->Den K G O x a->Den K G O y b->bD K (Den K) W G O J Q (g a b Z)->r x y H Q
def lG(X:Cx)(W:WX)(f:av->av->Sem av)(g:A->A->Mo A):Prop:=∃r,gZ X f r/\uS X.K W r g
@[simp] def aC(g:A->A->Mo A)(f h:Ev->Mo A):Ev->Mo A:=λY=>mb (f Y) λx=>mb (h Y) λy=>g x y
theorem TC{K:bj}{r:R2}{g:A->A->Mo A}{ta tb:TE}(e:uS K W r g)(h1:fP K (Den K) W ta fa)(h2:fP K (Den K) W tb fb):fP K (Den K) W (LN r ta tb) (aC g fa fb):=by
 intro G a b H J U Q w q h;refine h1 G a b H J U _ w q (bD.mb h λx N v l n z d w1 i h1=>?_);refine h2 n z N l J U _ w1 (q.ext d) (bD.mb h1 λy B u k m j c w2 f h2=>?_);exact e m j B k J v u x y Q w2 (i.ext c) f h2
theorem aT{j:Operator}{g:A->A->Mo A}(U:lG X W (c9 j) g)(c:VE X W a fa)(hb:VE X W b fb):VE X W (.BinOp a j b pos) (aC g fa fb):=by
 obtain⟨r,N,B⟩:=U;obtain⟨t,z,q⟩:=c;obtain⟨u,p2,s2⟩:=hb;exact⟨_,aoG N z p2,TC B q s2⟩
@[simp] def gI(C:a4->a4->Prop) [∀i j,c5 (C i j)](g:a4->a4->A):A->A->Mo A
 |.int i,.int j=>mb (nF (C i j)) λ_=>ret (g i j)
 |_,_=>stuck
theorem UA{K:bj}{C:a4->a4->Prop} [∀i j,c5 (C i j)]{g:a4->a4->V}{g':a4->a4->A}(B:∀G O i j,Den K G O (g i j) (g' i j)):uS K W (rI C g) (gI C g'):=by
 intro G O U H J x y a b Q w z q h;cases a with
 |int i =>
  cases b with
  |int j =>
   simp only[Den]at z q;obtain⟨N,h2⟩:=bD.nF h;exact⟨i,j,z,q,N,iS w (B _ _ _ _) h2⟩
  |_=>exact False.elim h
 |_=>exact False.elim h
@[simp] def IX(g:a4->a4->A):A->A->Mo A
 |.int i,.int j=>ret (g i j)
 |_,_=>stuck
theorem MB{K:bj}{g:a4->a4->V}{g':a4->a4->A}(B:∀G O i j,Den K G O (g i j) (g' i j)):uS K W (yO g) (IX g'):=by
 intro G O N H J x y a b Q w z q h;cases a with
 |int i =>
  cases b with
  |int j =>
   simp only[Den]at z q;exact⟨i,j,z,q,iS w (B _ _ _ _) h⟩
  |_=>exact False.elim h
 |_=>exact False.elim h
instance:∀i j,c5 (kM i j):=λi j=>by unfold kM;infer_instance
instance:∀i j,c5 (mL i j):=λi j=>by unfold mL;infer_instance
instance:∀i j,c5 (CN i j):=λi j=>by unfold CN;infer_instance
@[simp] def dG:=IX λi j => .int (i-j)
@[simp] def jZ:=gI kM λi j => .int (i*j)
@[simp] def iL:=gI mL λi j => .int (i/j)
@[simp] def dW:=gI (λ_ j=>0<j) λi j => .int (i%j)
@[simp] def zH:=gI CN λi j => .int (i ^ j.toNat)
theorem jK:lG X W (c9 .Sub) dG:=⟨_,apE,MB λ_ _ _ _=>by simp only[Den]⟩
theorem sO:lG X W (c9 .Mult) jZ:=⟨_,apH,UA λ_ _ _ _=>by simp only[Den]⟩
theorem pH:lG X W (c9 .FloorDiv) iL:=⟨_,apO,UA λ_ _ _ _=>by simp only[Den]⟩
theorem jL:lG X W (c9 .Mod) dW:=⟨_,apI,UA λ_ _ _ _=>by simp only[Den]⟩
theorem DM:lG X W (c9 .Pow) zH:=⟨_,apF,UA λ_ _ _ _=>by simp only[Den]⟩
@[simp] noncomputable def IB:A->br
 |.gG _=>a5
 |_=>ax
theorem Vs{a:A}(h:IB a=ax):∀ns,a≠.gG ns:=λns e=>by subst e;cases h
@[simp] def WN(c:br)(a b:A):Mo A:=λZ=>match dU Z a,dU Z b with
  |some xs,ao ys=>if IB a||IB b||decide (bf<xs.length+ys.length)then au else rF c (xs++ys) Z
  |_,_=>au
@[simp] def OP(c:br):A->A->Mo A
 |.int i,.int j=>ret (.int (i+j))
 |.tup xs,.tup ys=>mb (nF (0<xs.length/\xs.length+ys.length<=bf)) λ_=>El (xs++ys)
 |a,b=>WN c a b
theorem apD{K:bj}{c:br}:uS K W Ub (WN c):=by
 intro G m B H J x y a b Q w l k h;unfold WN at h
 match j:dU B a,z:dU B b with
 |none,_=>rw[j]at h;exact False.elim h
 |some N,au=>rw[j,z]at h;exact False.elim h
 |some N,ao e =>
  rw[j,z]at h;simp only at h
  by_cases hb:(IB a||IB b||decide (bf<N.length+e.length))=a5
  ·rw[a9 hb]at h;exact False.elim h
  ·rw[bb hb]at h;simp only[Bool.or_eq_true,BI,not_or,Bool.not_eq_true]at hb;obtain⟨p,g,rfl,h2,d⟩:=Uk w l j (Vs hb.1.1);obtain⟨q,f,rfl,i,U⟩:=Uk w k z (Vs hb.1.2);exact⟨p,q,g,f,rfl,rfl,h2,i,by rw[d.length,U.length];omega,λr hr=>HU w hr (d.append U) h⟩
theorem dX(c:br):lG X W (c9 .Add) (OP c):=by
 refine⟨_,apS.or (apR.or apQ),?_⟩;intro G d f H J x y a b Q w z j h;unfold OP at h;split at h
 ·simp only[Den]at z j;exact .inl ⟨_,_,z,j,iS w (by simp only[Den]) h⟩
 ·rename_i m l;simp only[Den]at z j;obtain⟨p,U,rfl,h2,B⟩:=z;obtain⟨q,g,rfl,i,N⟩:=j;obtain⟨⟨n,k⟩,h⟩:=bD.nF h;refine .inr (.inr ⟨p,q,U,g,rfl,rfl,jP.of (w.sub _ _ h2),jP.of (w.sub _ _ i),?_,by rw[B.length,N.length];exact k,λe=>?_,λ_ r hr=>Ek w hr (B.append N) h⟩)
  ·intro e;subst e;have:=B.length;simp at this;omega
  ·subst e;refine iS w ?_ h;simp only[Den];exact⟨p,U,rfl,h2,by simpa using B.append N⟩
 ·exact .inr (.inl (apD G d f H J x y _ _ Q w z j h))
end
noncomputable def fN:a6->A->br
 |_,.int _=>a5
 |_,.bl _=>a5
 |_,.aV=>a5
 |_,.str x=>PyData.canLay0 (.str x)
 |n+1,.tup ds=>ds.all (fN n)
 |n+1,.lst ds=>ds.all (fN n)
 |_,_=>ax
noncomputable def BG(f:A->A->br):aq A->aq A->br
 |[],[]=>a5
 |x::xs,y::ys=>f x y&&BG f xs ys
 |_,_=>ax
def lD:a6->A->A->br
 |_,.int i,.int j=>i==j
 |_,.bl i,.bl j=>i==j
 |_,.bl i,.int j=>(if i then 1 else 0)==j
 |_,.int i,.bl j=>i==(if j then 1 else 0)
 |_,.aV,.aV=>a5
 |_,.str x,.str y=>x==y
 |n+1,.tup xs,.tup ys=>BG (lD n) xs ys
 |n+1,.lst xs,.lst ys=>BG (lD n) xs ys
 |_,_,_=>ax
noncomputable def toPy:a6->A->PyData
 |_,.int i => .int i
 |_,.bl i => .bool i
 |_,.str x => .str x
 |n+1,.tup ds => .tuple (ds.map (toPy n))
 |n+1,.lst ds => .list (ds.map (toPy n))
 |_,_ => .none
theorem Kg:∀(ds:aq A) (n:a6),(∀d∈ds,fN n d=a5->PyData.canLay0 (toPy n d)=a5)->ds.all (fN n)=a5->PyData.canLayAll0 (ds.map (toPy n))=a5
 |[],_,_,_=>rfl
 |d::ds,n,ih,h=>by
  simp only[List.all_cons,lK]at h;simp only[dE,PyData.canLayAll0,lK];exact⟨ih d rG h.1,Kg ds n (λe he=>ih e (iP _ he)) h.2⟩
theorem SK:∀(n:a6) (a:A),fN n a=a5->PyData.canLay0 (toPy n a)=a5:=by
 intro n
 induction n with
 |zero=>intro a h;cases a <;> first|rfl|exact h|cases h
 |succ n ih =>
  intro a h;cases a with
  |tup ds=>exact Kg ds n (λd _=>ih d) h
  |lst ds=>exact Kg ds n (λd _=>ih d) h
  |str x=>exact h
  |int i=>rfl
  |bl b=>rfl
  |aV=>rfl
  |_=>cases h
theorem Jy:∀(ds:aq A) (n:a6),(∀d∈ds,(toPy n d).depth<=n)->PyData.depthAll (ds.map (toPy n))<=n
 |[],_,_=>BR _
 |d::ds,n,ih=>by
  simp only[dE,PyData.depthAll];exact Nat.max_le.mpr ⟨ih d rG,Jy ds n λe he=>ih e (iP _ he)⟩
theorem Ri:∀(n:a6) (a:A),(toPy n a).depth<=n:=by
 intro n
 induction n with
 |zero=>intro a;cases a <;> exact rV _
 |succ n ih =>
  intro a;cases a with
  |tup ds=>exact Nat.succ_le_succ (Jy ds n λd _=>ih d)
  |lst ds=>exact Nat.succ_le_succ (Jy ds n λd _=>ih d)
  |_=>exact BR _
theorem aa7:∀(xs ys:aq A) (n:a6),(∀x∈xs,∀y∈ys,PyData.eqv (toPy n x) (toPy n y)=lD n x y)->PyData.eqvAll (xs.map (toPy n)) (ys.map (toPy n))=BG (lD n) xs ys
 |[],[],_,_=>rfl
 |[],_::_,_,_=>rfl
 |_::_,[],_,_=>rfl
 |x::xs,y::ys,n,ih=>by
  simp only[dE,PyData.eqvAll,BG];rw[ih x rG y rG,aa7 xs ys n λa j b hb=>ih a (iP _ j) b (iP _ hb)]
theorem Rh:∀(n:a6) (a b:A),fN n a=a5->fN n b=a5->PyData.eqv (toPy n a) (toPy n b)=lD n a b:=by
 intro n
 induction n with
 |zero=>intro a b z hb;cases a <;> cases b <;> first|rfl|(simp[fN]at z;done)|(simp[fN]at hb;done)
 |succ n ih =>
  intro a b z hb;have lst:∀q j:aq A,q.all (fN n)=a5->j.all (fN n)=a5->PyData.eqvAll (q.map (toPy n)) (j.map (toPy n))=BG (lD n) q j:=λq j h1 h2 =>
   aa7 q j n λx N y B=>ih x y (FR.mp h1 x N) (FR.mp h2 y B)
  cases a <;> cases b <;> first|rfl|(simp[fN]at z;done)|(simp[fN]at hb;done)|exact lst _ _ z hb
section
variable{X:Cx}{aa:aq (az×c6)}{J:L2.St}{H:Hp}{s:ay}{O:aq az}
theorem readsAll(n:a6)(ih:∀(v:V) (u:av) (a:A),fN n a=a5->Den X.K H O v a->RelV v u->∃as,Reads s.heap u (toPy n a) as) :
  ∀(ds:aq A) (xs:aq V) (us:aq av),ds.all (fN n)=a5->aU X.K H O xs ds->Vals xs us->∃as,ReadsAll s.heap us (ds.map (toPy n)) as
 |[],xs,us,_,d,r=>by
  rw[vS]at d;subst d;cases r;exact⟨_,.nil⟩
 |a::ds,xs,us,h,d,r=>by
  obtain⟨x,t,rfl,N,B⟩:=d.lY;simp only[List.all_cons,lK]at h;cases r with
  |cons r1 j =>
   obtain⟨as,z⟩:=ih _ _ _ h.1 N r1;obtain⟨bs,q⟩:=readsAll n ih ds _ _ h.2 B j;exact⟨_,.cons z q⟩
theorem TR(I:Inv X aa J H s):∀(n:a6) (v:V) (u:av) (a:A),fN n a=a5->Den X.K H O v a->RelV v u->∃as,Reads s.heap u (toPy n a) as:=by
 intro n
 induction n with
 |zero =>
  intro v u a h d r;cases a with
  |int i=>simp only[Den]at d;subst d;obtain⟨t,rfl⟩:=r;exact⟨_,.int i t⟩
  |bl b=>simp only[Den]at d;subst d;cases r;exact⟨_,.bool b⟩
  |str x=>simp only[Den]at d;subst d;obtain⟨t,rfl⟩:=r;exact⟨_,.str x t⟩
  |aV=>simp only[Den]at d;subst d;cases r;exact⟨_,.none⟩
  |_=>cases h
 |succ n ih =>
  intro v u a h d r;cases a with
  |int i=>simp only[Den]at d;subst d;obtain⟨t,rfl⟩:=r;exact⟨_,.int i t⟩
  |bl b=>simp only[Den]at d;subst d;cases r;exact⟨_,.bool b⟩
  |str x=>simp only[Den]at d;subst d;obtain⟨t,rfl⟩:=r;exact⟨_,.str x t⟩
  |aV=>simp only[Den]at d;subst d;cases r;exact⟨_,.none⟩
  |tup ds =>
   simp only[Den]at d;obtain⟨p,z,rfl,h2,c⟩:=d;cases r;obtain⟨j,B,pl,e⟩:=I.tuple (jP.of h2);obtain⟨as,q⟩:=readsAll n ih ds z j h c B;obtain⟨o,N,U,m,hd⟩:=(show s.heap.IsTuple p j.toArray from pl);exact⟨_,.tuple N U hd (by simpa using q)⟩
  |lst ds =>
   simp only[Den]at d;obtain⟨p,z,rfl,h2,c⟩:=d;cases r;obtain⟨j,B,pl,e⟩:=I.list (fO.of h2);obtain⟨as,q⟩:=readsAll n ih ds z j h c B;obtain⟨o,N,U,m,hd⟩:=pl.isList;exact⟨_,.list N U hd (by simpa using q)⟩
  |_=>cases h
end
def Dk(K:bj)(neg:br):R2:=λx y H Q=>∃O a b,fN 8 a=a5/\fN 8 b=a5/\Den K H O x a/\Den K H O y b/\Q (.bl (if neg then !lD 8 a b else lD 8 a b)) H
theorem apP{X:Cx}(e:X.A.units+64<cLine):gZ X (b9 .Eq) (Dk X.K ax):=by
 intro aa s J H x y v u Q I z j h;obtain⟨d,a,b,h1,h2,c,U,q⟩:=h;obtain⟨g,N⟩:=TR I 8 x v a h1 c z;obtain⟨bs,B⟩:=TR I 8 y u b h2 U j;have f:=Ri 8 a;refine SeqAt.compareEq_reads N B (SK 8 a h1) (SK 8 b h2) (by omega) ?_;rw[Rh 8 a b h1 h2];exact⟨.bl (lD 8 a b),H,I,rfl,q⟩
theorem apG{X:Cx}(e:X.A.units+64<cLine):gZ X (b9 .NotEq) (Dk X.K a5):=by
 intro aa s J H x y v u Q I z j h;obtain⟨d,a,b,h1,h2,c,U,q⟩:=h;obtain⟨g,N⟩:=TR I 8 x v a h1 c z;obtain⟨bs,B⟩:=TR I 8 y u b h2 U j;have f:=Ri 8 a;refine SeqAt.compareNe_reads N B (SK 8 a h1) (SK 8 b h2) (by omega) ?_;rw[Rh 8 a b h1 h2];exact⟨.bl (!lD 8 a b),H,I,rfl,q⟩
noncomputable def xA(f:A->aw A):aq A->aw (aq A)
 |[]=>ao []
 |x::xs=>match f x,xA f xs with
  |some y,ao ys=>ao (y::ys)
  |_,_=>au
def res(Z:aH):a6->A->aw A
 |0,a=>if fN 8 a=a5 then ao a else au
 |n+1,a=>if fN 8 a=a5 then ao a else match a with
  |.tup ds=>(xA (res Z n) ds).map .tup
  |.lst ds=>(xA (res Z n) ds).map .lst
  |.aE k=>match Z[k]? with
   |some (.lst ds)=>(xA (res Z n) ds).map .lst
   |_=>au
  |_=>au
section
variable{K:bj}{G H:Hp}{O:aq az}{Z:aH}
theorem Wd.aa2(w:Wd K G O Z H):Ext G O H O:=⟨w.sub,λ_ _ h=>h⟩
theorem UJ{f:A->aw A}(ih:∀v a b,Den K G O v a->f a=ao b->Den K H O v b):∀(ds es:aq A) (xs:aq V),aU K G O xs ds->xA f ds=ao es->aU K H O xs es
 |[],es,xs,d,h=>by
  simp only[xA,kS]at h;subst h;rw[vS]at d ⊢;exact d
 |a::ds,es,xs,d,h=>by
  obtain⟨x,t,rfl,N,B⟩:=d.lY;simp only[xA]at h;split at h
  ·rename_i y j z q;cases h;exact .cons (ih _ _ _ N z) (UJ ih ds j t B q)
  ·cases h
theorem Ts(w:Wd K G O Z H):∀(n:a6) (v:V) (a b:A),Den K G O v a->res Z n a=ao b->Den K H O v b:=by
 intro n
 induction n with
 |zero =>
  intro v a b d h;simp only[res]at h;split at h
  ·cases h;exact d.ext w.aa2
  ·cases h
 |succ n ih =>
  intro v a b d h;simp only[res]at h;split at h
  ·cases h;exact d.ext w.aa2
  ·split at h
   ·rename_i ds _;simp only[BQ]at h;obtain⟨es,h1,rfl⟩:=h;simp only[Den]at d ⊢;obtain⟨p,j,B,z,q⟩:=d;exact⟨p,j,B,w.sub _ _ z,UJ ih ds es j q h1⟩
   ·rename_i ds _;simp only[BQ]at h;obtain⟨es,h1,rfl⟩:=h;simp only[Den]at d ⊢;obtain⟨p,j,B,z,q⟩:=d;exact⟨p,j,B,w.sub _ _ z,UJ ih ds es j q h1⟩
   ·rename_i k _;split at h
    ·rename_i ds e;simp only[BQ]at h;obtain⟨es,h1,rfl⟩:=h;simp only[Den]at d ⊢;obtain⟨p,B,z⟩:=d;obtain⟨g,j,q,N⟩:=w.aE k _ p e z;exact⟨p,j,B,q,UJ ih ds es j N h1⟩
    ·cases h
   ·cases h
end
def BD(neg:br)(a b:A):Mo A:=λZ=>match res Z 6 a,res Z 6 b with
 |some x,ao y=>if(fN 8 x&&fN 8 y)=a5 then ao (.ok (.bl (if neg then !lD 8 x y else lD 8 x y)),Z)else au
 |_,_=>au
def iW:=BD ax
def OM:=BD a5
section
variable{X:Cx}{W:WX}{e a b c:bx}{pos:dn}{fa fb fc:Ev->Mo A}{ta tb:Ev->Mo br}
theorem Vf{K:bj}{neg:br}:uS K W (Dk K neg) (BD neg):=by
 intro G q e H J x y a b Q w d c h;unfold BD at h;split at h
 ·rename_i B z U N;split at h
  ·rename_i j;rw[lK]at j;exact⟨q,B,z,j.1,j.2,Ts w 6 x a B d U,Ts w 6 y b z c N,h _ H G q (Ext.refl _ _) w (by simp only[Den])⟩
  ·exact False.elim h
 ·exact False.elim h
theorem rE(j:X.A.units+64<cLine):lG X W (b9 .Eq) iW:=⟨_,apP j,Vf⟩
theorem Vo(j:X.A.units+64<cLine):lG X W (b9 .NotEq) OM:=⟨_,apG j,Vf⟩
@[simp] def tD:=IX λi j => .bl (decide (i<j))
@[simp] def rK:=IX λi j => .bl (decide (i<=j))
@[simp] def zJ:=IX λi j => .bl (decide (j<i))
@[simp] def WM:=IX λi j => .bl (decide (j<=i))
theorem DN:lG X W (b9 .Lt) tD:=⟨_,apJ,MB λ_ _ _ _=>by simp only[Den]⟩
theorem DO:lG X W (b9 .LtE) rK:=⟨_,apK,MB λ_ _ _ _=>by simp only[Den]⟩
theorem HQ:lG X W (b9 .Gt) zJ:=⟨_,apM,MB λ_ _ _ _=>by simp only[Den]⟩
theorem aqH:lG X W (b9 .GtE) WM:=⟨_,apN,MB λ_ _ _ _=>by simp only[Den]⟩
noncomputable def yX:A->aw br
 |.aV=>ao a5
 |_=>ao ax
theorem avC{K:bj}{G:Hp}{O:aq az}{v:V}{a:A}(d:Den K G O v a):yX a=ao (decide (v=.aV)):=by
 cases a with
 |aV=>simp only[Den]at d;subst d;rfl
 |tup ds=>simp only[Den]at d;obtain⟨p,j,rfl,_⟩:=d;rfl
 |lst ds=>simp only[Den]at d;obtain⟨p,j,rfl,_⟩:=d;rfl
 |gG ds=>simp only[Den]at d;obtain⟨p,rfl,_⟩:=d;rfl
 |aE ds=>simp only[Den]at d;obtain⟨p,rfl,_⟩:=d;rfl
 |gl x=>simp only[Den]at d;obtain⟨p,_,rfl⟩:=d;rfl
 |OU p d' f i=>simp only[Den]at d;obtain⟨rfl,_⟩:=d;rfl
 |_=>simp only[Den]at d;subst d;rfl
@[simp] def OO(neg:br):A->A->Mo A
 |a,.aV=>mb (need (yX a)) λk=>ret (.bl (if neg then !k else k))
 |_,_=>stuck
theorem Vp:lG X W (b9 .Is) (OO ax):=by
 refine⟨_,apL,?_⟩;intro G z B H J x y a b Q w q j h;cases b with
 |aV =>
  simp only[Den]at j;obtain⟨k,e,h⟩:=bD.need h;rw[avC q]at e;cases e;exact⟨j,iS w (by simp only[Den];rfl) h⟩
 |_=>exact False.elim h
@[simp] def BE:A->Mo br
 |.bl b=>ret b
 |_=>stuck
@[simp] def bX(f:Ev->Mo A):Ev->Mo br:=λY=>mb (f Y) BE
theorem Br{K:bj}{t:TE}(h:fP K (Den K) W t fa):fP K DG W (Be t) (bX fa):=by
 intro G N a H J z Q w r q;refine h G N a H J z _ w r (bD.mb q λx U v d e B c w1 j h1=>?_);cases x with
 |bl b=>simp only[Den]at j;exact⟨b,j,iS w1 rfl h1⟩
 |_=>exact False.elim h1
theorem GX{j:CmpOp}{g:A->A->Mo A}(U:lG X W (b9 j) g)(c:VE X W a fa)(hb:VE X W b fb)(hm:e8 j b=ax):VE X W (.Compare a [j] [b] pos) (aC g fa fb):=by
 obtain⟨r,N,B⟩:=U;obtain⟨t,z,q⟩:=c;obtain⟨u,p2,s2⟩:=hb;exact⟨_,aoZ N z p2 hm,TC B q s2⟩
theorem jI{j:CmpOp}{g:A->A->Mo A}(U:lG X W (b9 j) g)(c:VE X W a fa)(hb:VE X W b fb)(hm:e8 j b=ax):VT X W (.Compare a [j] [b] pos) (bX (aC g fa fb)):=by
 obtain⟨r,N,B⟩:=U;obtain⟨t,z,q⟩:=c;obtain⟨u,p2,s2⟩:=hb;exact⟨_,amW N z p2 hm,Br (TC B q s2)⟩
@[simp] def HB(g g':A->A->Mo A)(f1 f2 j:Ev->Mo A):Ev->Mo A:=λY=>mb (f1 Y) λx=>mb (f2 Y) λy=>mb (g x y) λz=>mb (BE z) λk=>if k then mb (j Y) λu=>g' y u else ret (.bl ax)
theorem aj8{K:bj}{r t:R2}{g g':A->A->Mo A}{s p o:TE}(P:uS K W r g)(M:uS K W t g')(h1:fP K (Den K) W s fa)(h2:fP K (Den K) W p fb)(S:fP K (Den K) W o fc):fP K (Den K) W (Rx r t s p o) (HB g g' fa fb fc):=by
 intro G E F H J j Q w q h;refine h1 G E F H J j _ w q (bD.mb h λx e v H1 G1 a n w1 V h1=>?_);refine h2 G1 a e H1 J j _ w1 (q.ext n) (bD.mb h1 λy d u H2 G2 U l w2 D h2=>?_);refine P G2 U d H2 J v u x y _ w2 (V.ext l) D (bD.mb h2 λz c z' H3 G3 N i w3 C f=>?_);cases z with
 |bl k =>
  simp only[Den]at C;refine⟨k,C,?_⟩;cases k with
  |true=>exact S G3 N c H3 J j _ w3 (q.ext ((n.trans l).trans i)) (bD.mb f λm b L X G4 B I w4 T R=>M G4 B b X J u L y m Q w4 (D.ext (i.trans I)) T R)
  |false=>exact iS w3 (by simp only[Den]) f
 |_=>exact False.elim f
theorem agE{q j:CmpOp}{g g':A->A->Mo A}(h:lG X W (b9 q) g)(f:lG X W (b9 j) g')(k:VE X W a fa)(hb:VE X W b fb)(i:VE X W c fc)
  (hm:lastMarks [q,j] [b,c]=ax:=by with_unfolding_all rfl):VE X W (.Compare a [q,j] [b,c] pos) (HB g g' fa fb fc):=by
 obtain⟨r,e,d⟩:=h;obtain⟨o,l,m⟩:=f;obtain⟨t,U,B⟩:=k;obtain⟨u,p2,s2⟩:=hb;obtain⟨n,N,z⟩:=i;exact⟨_,ao0 e l U p2 N hm,aj8 d m B s2 z⟩
theorem qZ(h:VE X W e fa)(he:∀whole,isTrue e X.env whole=(do let v<-whole;standAt e.pos;holding [v] (truthy v)):=by intro _;rfl):VT X W e (bX fa):=by
 obtain⟨t,p,s⟩:=h;exact⟨_,amU p he,Br s⟩
@[simp] def Aq(f g:Ev->Mo br):Ev->Mo br:=λY=>mb (f Y) λc=>if c then g Y else ret ax
@[simp] def mS(f g:Ev->Mo br):Ev->Mo br:=λY=>mb (f Y) λc=>if c then ret a5 else g Y
@[simp] def kU(f:Ev->Mo br):Ev->Mo br:=λY=>mb (f Y) λc=>ret (!c)
variable{rest:aq bx}
theorem afH(h:VT X W a ta):VW X W (.BoolOp .And [a] pos) ta:=let ⟨t,p,s⟩:=h; ⟨t,pw_and1 p,s⟩
theorem CW(h:VT X W a ta):VW X W (.BoolOp .Or [a] pos) ta:=let ⟨t,p,s⟩:=h; ⟨t,pw_or1 p,s⟩
theorem afI(h1:VT X W a ta)(h2:VW X W (.BoolOp .And (b::rest) pos) tb):VW X W (.BoolOp .And (a::b::rest) pos) (Aq ta tb):=by
 obtain⟨t,e,d⟩:=h1;obtain⟨u,p2,s2⟩:=h2;refine⟨_,pw_and e p2,λG B N H J z Q w r h=>?_⟩;refine d G B N H J z _ w r (bD.mb h λc q g i k j U w1 f h1=>?_);cases(show g=c from f);cases c with
 |true=>exact s2 k j q i J z Q w1 (r.ext U) h1
 |false=>exact iS w1 rfl h1
theorem wO(h1:VT X W a ta)(h2:VW X W (.BoolOp .Or (b::rest) pos) tb):VW X W (.BoolOp .Or (a::b::rest) pos) (mS ta tb):=by
 obtain⟨t,e,d⟩:=h1;obtain⟨u,p2,s2⟩:=h2;refine⟨_,pw_or e p2,λG B N H J z Q w r h=>?_⟩;refine d G B N H J z _ w r (bD.mb h λc q g i k j U w1 f h1=>?_);cases(show g=c from f);cases c with
 |false=>exact s2 k j q i J z Q w1 (r.ext U) h1
 |true=>exact iS w1 rfl h1
theorem VW.vt(h:VW X W e ta):VT X W e ta:=let ⟨t,p,s⟩:=h; ⟨t,p.pt,s⟩
theorem sD(h:VT X W a ta):VT X W (.UnaryOp .Not a pos) (kU ta):=by
 obtain⟨t,p,s⟩:=h;refine⟨_,amV p,λG z N H J j Q w r h=>?_⟩;refine s G z N H J j _ w r (bD.mb h λc B b e f q d w1 U h1=>?_);cases(show b=c from U);exact iS w1 rfl h1
@[simp] def LI(f g:Ev->Mo A):Ev->Mo A:=λY=>mb (f Y) λx=>mb (BE x) λc=>if c then g Y else ret (.bl ax)
@[simp] def Qo(f g:Ev->Mo A):Ev->Mo A:=λY=>mb (f Y) λx=>mb (BE x) λc=>if c then ret (.bl a5)else g Y
@[simp] def Qp(f:Ev->Mo A):Ev->Mo A:=λY=>mb (f Y) λx=>mb (BE x) λc=>ret (.bl (!c))
theorem Ag{j}(h:VE X W a fa):VE X W (.BoolOp j [a] pos) fa:=let ⟨t,p,s⟩:=h; ⟨t,aoH p,s⟩
theorem Qk(h1:VE X W a fa)(h2:VE X W (.BoolOp .And (b::rest) pos) fb):VE X W (.BoolOp .And (a::b::rest) pos) (LI fa fb):=by
 obtain⟨t,f,e⟩:=h1;obtain⟨u,p2,s2⟩:=h2;refine⟨_,ao5 f p2,λG N U H J z Q w r h=>?_⟩;refine e G N U H J z _ w r (bD.mb h λx q v g i j d w1 B h1=>?_);cases x with
 |bl c =>
  simp only[Den]at B;refine⟨c,B,?_⟩;cases c with
  |true=>exact s2 i j q g J z Q w1 (r.ext d) h1
  |false=>exact iS w1 (by simp only[Den]) h1
 |_=>exact False.elim h1
theorem af1(h1:VE X W a fa)(h2:VE X W (.BoolOp .Or (b::rest) pos) fb):VE X W (.BoolOp .Or (a::b::rest) pos) (Qo fa fb):=by
 obtain⟨t,f,e⟩:=h1;obtain⟨u,p2,s2⟩:=h2;refine⟨_,aoF f p2,λG N U H J z Q w r h=>?_⟩;refine e G N U H J z _ w r (bD.mb h λx q v g i j d w1 B h1=>?_);cases x with
 |bl c =>
  simp only[Den]at B;refine⟨c,B,?_⟩;cases c with
  |false=>exact s2 i j q g J z Q w1 (r.ext d) h1
  |true=>exact iS w1 (by simp only[Den]) h1
 |_=>exact False.elim h1
theorem af2(h:VE X W a fa):VE X W (.UnaryOp .Not a pos) (Qp fa):=by
 obtain⟨t,p,s⟩:=h;refine⟨_,aoI p,λG B U H J q Q w r h=>?_⟩;refine s G B U H J q _ w r (bD.mb h λx N v d e z b w1 j h1=>?_);cases x with
 |bl c =>
  simp only[Den]at j;exact⟨c,j,iS w1 (by simp only[Den]) h1⟩
 |_=>exact False.elim h1
@[simp] def An(t:Ev->Mo br)(f g:Ev->Mo A):Ev->Mo A:=λY=>mb (t Y) λc=>if c then f Y else g Y
theorem Qi(k:VT X W c ta)(h1:VE X W a fa)(h2:VE X W b fb):VE X W (.IfExp c a b pos) (An ta fa fb):=by
 obtain⟨n,i,s0⟩:=k;obtain⟨t,g,f⟩:=h1;obtain⟨u,p2,s2⟩:=h2;refine⟨_,aoS i g p2,λG d e H J z Q w r h=>?_⟩;refine s0 G d e H J z _ w r (bD.mb h λc q m N U j B w1 l h1=>?_);cases(show m=c from l);cases c with
 |true=>exact f U j q N J z Q w1 (r.ext B) h1
 |false=>exact s2 U j q N J z Q w1 (r.ext B) h1
@[simp] def LF(f:Ev->Mo A):Ev->Mo A:=λY=>mb (f Y) λx=>match x with
 |.int i=>ret (.int (-i))
 |_=>stuck
theorem Qg(h:VE X W a fa):VE X W (.UnaryOp .USub a pos) (LF fa):=by
 obtain⟨t,p,s⟩:=h;refine⟨_,aoA agQ p,λG B U H J q Q w r h=>?_⟩;refine s G B U H J q _ w r (bD.mb h λx N v d e z b w1 j h1=>?_);cases x with
 |int c =>
  simp only[Den]at j;exact⟨c,j,iS w1 (by simp only[Den]) h1⟩
 |_=>exact False.elim h1
end
inductive Out where
 |nx|bk|ct|ret (a:A)|exc (x:Exc)
abbrev OS:=aw (Out×Ev×aH)
abbrev MS:=Ev->aH->OS
def aG3(K:bj)(W:WX)(G:Hp)(O:aq az)(D:Ends)(J:L2.St)(H:Hp):Out->Prop
 |.nx=>D.nx J H
 |.bk=>D.bk J H
 |.ct=>D.ct J H
 |.ret a=>∀v,Den K G O v a->D.rt v H
 |.exc x=>∀cls dx,ad1 K G O H x cls dx->W J cls dx H
def fQ(K:bj)(W:WX)(G:Hp)(O:aq az)(D:Ends):OS->Prop
 |some (o,q,Z')=>∀j H' G' O',Ext G O G' O'->Wd K G' O' Z' H'->gV K G' O' j q->aG3 K W G' O' D j H' o
 |none=>cp
@[simp] noncomputable def sM{α:Type}(m:Mo α)(Y:Ev)(k:α->aH->OS):aH->OS:=λZ=>match m Z with
 |some (.ok a,Z1)=>k a Z1
 |some (.exc x,Z1)=>ao (.exc x,Y,Z1)
 |none=>au
section
variable{K:bj}{W:WX}{G:Hp}{O:aq az}{Z:aH}{J:L2.St}{Y:Ev}{D:Ends}
theorem fQ.ext{B:Hp}{j:aq az}{r:OS}(h:fQ K W G O D r)(e:Ext G O B j):fQ K W B j D r:=by
 match r,h with
 |some (o,N,U),h=>exact λq a b z x w d=>h q a b z (e.trans x) w d
theorem fQ.sM{α β:Type}{rel:Rl α β}{m:Mo α}{k:α->aH->OS}{N:β->Hp->Prop}(h:fQ K W G O D (V2.sM m Y k Z))(r:gV K G O J Y)
  (U:∀a Z1 v H1 z j,Ext G O z j->Wd K z j Z1 H1->rel z j v a->fQ K W z j D (k a Z1)->N v H1):bD K rel W G O J N (m Z):=by
 unfold V2.sM at h
 revert h
 generalize m Z=q;intro h
 match q,h with
 |some (.ok a,Z1),h=>exact λv H1 z j x w d=>U a Z1 v H1 z j x w d (fQ.ext h x)
 |some (.exc x,Z1),h=>exact λcls b c f B e w d=>h J c f B e w (r.ext e) cls b d
end
def rR(K:bj)(W:WX)(t:TS)(f:MS):Prop:=∀G O Z H J Y D,Wd K G O Z H->gV K G O J Y->fQ K W G O D (f Y Z)->t D J H
def VS(X:Cx)(W:WX)(st:b8)(f:MS):Prop:=∃t,PS X st t/\rR X.K W t f
def iC(X:Cx)(W:WX)(st:aq b8)(f:MS):Prop:=∃t,oY X st t/\rR X.K W t f
def QK(K:bj)(W:WX)(t:TG)(g:A->MS):Prop:=∀G O Z H J Y v a D,Wd K G O Z H->gV K G O J Y->Den K G O v a->fQ K W G O D (g a Y Z)->t v J H D.nx
def aG0(K:bj)(W:WX)(t:BP)(g:aq A->MS):Prop:=∀G O Z H J Y vs as D,Wd K G O Z H->gV K G O J Y->aU K G O vs as->fQ K W G O D (g as Y Z)->t vs J H D.nx
def VG(X:Cx)(W:WX)(tg:bx)(g:A->MS):Prop:=∃t,PG X tg t/\QK X.K W t g
def YG(X:Cx)(W:WX)(j:aq bx)(g:aq A->MS):Prop:=∃t,QM X j t/\aG0 X.K W t g
@[simp] noncomputable def gX:MS:=λY Z=>ao (.nx,Y,Z)
@[simp] noncomputable def aX(f g:MS):MS:=λY Z=>match f Y Z with
 |some (.nx,Y1,Z1)=>g Y1 Z1
 |r=>r
section
variable{X:Cx}{W:WX}{st:b8}{rest:aq b8}{f g:MS}{e:bx}{fe:Ev->Mo A}{pos:dn}
theorem wZ{K:bj}{G H:Hp}{O:aq az}{Z:aH}{J:L2.St}{Y:Ev}{D:Ends}(w:Wd K G O Z H)(r:gV K G O J Y)(h:fQ K W G O D (ao (.nx,Y,Z))):D.nx J H:=h J H G O (Ext.refl _ _) w r
theorem kG:iC X W [] gX:=⟨_,amZ,λ_ _ _ _ _ _ _ w r h=>wZ w r h⟩
theorem Sv{K:bj}{t u:TS}(h1:rR K W t f)(h2:rR K W u g):rR K W (Bf t u) (aX f g):=by
 intro G c b H J U D w r h;refine h1 G c b H J U _ w r ?_;unfold aX at h
 revert h
 generalize f U b=q;intro h
 match q,h with
 |some (.nx,j,z),h=>exact λB i k N x d e=>h2 k N z i B j D d e (fQ.ext h x)
 |some (.bk,j,z),h=>exact h
 |some (.ct,j,z),h=>exact h
 |some (.ret a,j,z),h=>exact h
 |some (.exc a,j,z),h=>exact h
theorem bL(h1:VS X W st f)(h2:iC X W rest g):iC X W (st::rest) (aX f g):=by
 obtain⟨t,q,j⟩:=h1;obtain⟨u,p2,s2⟩:=h2;exact⟨_,am0 q p2,Sv j s2⟩
theorem bS(h1:VS X W st f):iC X W [st] f:=let ⟨t,p,s⟩:=h1; ⟨t,amY p,s⟩
@[simp] def iG(fe:Ev->Mo A):MS:=λY=>sM (fe Y) Y λ_ Z=>ao (.nx,Y,Z)
theorem tR(h:VE X W e fe)(b:ej e au pos.line X.env=pure ax:=by rfl):VS X W (.Expr e pos) (iG fe):=by
 obtain⟨t,p,s⟩:=h;refine⟨_,anC p b,λG z N H J j D w r h=>?_⟩;exact s G z N H J j _ w r (fQ.sM h r λa B v d f q U w1 c h1=>wZ w1 (r.ext U) h1)
@[simp] def dB(fe:Ev->Mo A):MS:=λY=>sM (fe Y) Y λa Z=>ao (.ret a,Y,Z)
theorem eE(h:VE X W e fe):VS X W (.Return (ao e) pos) (dB fe):=by
 obtain⟨t,p,s⟩:=h;refine⟨_,am6 p,λG z N H J q D w r h=>?_⟩;exact s G z N H J q _ w r (fQ.sM h r λa B v c d j U w1 b h1=>h1 J c d j (Ext.refl _ _) w1 (r.ext U) v b)
@[simp] def eA(c:Ev->Mo br)(f g:MS):MS:=λY=>sM (c Y) Y λb Z=>if b then f Y Z else g Y Z
theorem jJ{c:bx}{a b:aq b8}{fc:Ev->Mo br}(m:VT X W c fc)(h1:iC X W a f)(h2:iC X W b g):VS X W (.If c a b pos) (eA fc f g):=by
 obtain⟨p,l,s0⟩:=m;obtain⟨t,k,i⟩:=h1;obtain⟨u,p2,s2⟩:=h2;refine⟨_,am9 l k p2,λG d e H J z D w r h=>?_⟩;refine s0 G d e H J z _ w r (fQ.sM h r λc q o N U j B w1 n h1=>?_);cases(show o=c from n);cases c with
 |true=>exact i U j q N J z D w1 (r.ext B) h1
 |false=>exact s2 U j q N J z D w1 (r.ext B) h1
@[simp] noncomputable def gN(i:a6):A->MS:=λa Y Z=>ao (.nx,Y.set i (ao a),Z)
theorem afX{i:a6}{x:ba}(z:X.N.Nodup)(hi:X.N[i]?=ao x)(j:Loc X.env.scope x)(q:X.fn x=a5\/X.env.scope.names.lookup x=ao .local:=by first|exact .inl rfl|exact .inr rfl|assumption):VG X W (.Name x pos) (gN i) :=
 ⟨_,Uw z hi j q,λ_ _ _ _ _ _ _ _ _ w r d h=>wZ w (r.set i d) h⟩
@[simp] noncomputable def sY:aq A->MS:=λas Y Z=>match as with
 |[]=>ao (.nx,Y,Z)
 |_=>au
@[simp] def jM(g:A->MS)(gs:aq A->MS):aq A->MS:=λas=>match as with
 |a::r=>aX (g a) (gs r)
 |[]=>λ_ _=>au
theorem GU:YG X W [] sY:=⟨_,an7,λG z B H J q N j D w r d h=>by
 cases j with
 |nil=>rw[vS]at d;exact⟨d,wZ w r h⟩
 | cons=>exact False.elim h⟩
theorem sF{es:aq bx}{g:A->MS}{gs:aq A->MS}(h1:VG X W e g)(h2:YG X W es gs)
  (p:(du (e::es) X.env).map (·.2)=assign e X.env::(du es X.env).map (·.2):=by rfl):YG X W (e::es) (jM g gs):=by
 obtain⟨t,o,m⟩:=h1;obtain⟨u,p2,s2⟩:=h2;refine⟨_,an8 o p2 p,λG k i H J f C b D w r d h=>?_⟩;cases b with
 |nil=>exact False.elim h
 |cons a b =>
  obtain⟨x,U,rfl,v,s⟩:=d.lY;refine⟨x,U,rfl,m G k i H J f x a {D with nx:=λB c=>u U B c D.nx} w r v ?_⟩;simp only[jM,aX]at h
  revert h
  generalize g a f i=q;intro h
  match q,h with
  |some (.nx,j,z),h=>exact λB c y N x l n=>s2 y N z c B j U b D l n (s.ext x) (fQ.ext h x)
  |some (.bk,j,z),h=>exact h
  |some (.ct,j,z),h=>exact h
  |some (.ret a,j,z),h=>exact h
  |some (.exc a,j,z),h=>exact h
@[simp] noncomputable def rJ(n:a6)(gs:aq A->MS):A->MS:=λa Y Z=>match a with
 |.tup ds=>if ds.length=n then gs ds Y Z else au
 |_=>au
theorem GV{es:aq bx}{k:a6}{n:a6}{gs:aq A->MS}(b:X.calm=a5)(h:YG X W es gs)
  (hn:(du es X.env).length=n:=by rfl) (U:(du es X.env).findIdx? (·.1)=au:=by rfl):VG X W (.Tuple es k pos) (rJ n gs):=by
 obtain⟨t,p,s⟩:=h;refine⟨_,an9 b p hn U,λG B N H J z v a D w r d h=>?_⟩;unfold rJ at h;cases a with
 |tup ds =>
  simp only at h
  by_cases hl:ds.length=n
  ·rw[a9 hl]at h;simp only[Den]at d;obtain⟨p,j,rfl,h2,q⟩:=d;exact⟨p,j,rfl,jP.of (w.sub _ _ h2),by rw[q.length];exact hl,s G B N H J z j ds D w r q h⟩
  ·rw[bb hl]at h;exact False.elim h
 |_=>exact False.elim h
@[simp] def bN(fe:Ev->Mo A)(g:A->MS):MS:=λY=>sM (fe Y) Y λa Z=>g a Y Z
theorem Bt{K:bj}{te:TE}{t:TG}{g:A->MS}(h1:fP K (Den K) W te fe)(h2:QK K W t g):rR K W (SU te t) (bN fe g):=by
 intro G B N H J z D w r h;exact h1 G B N H J z _ w r (fQ.sM h r λa q v c d j U w1 b h1=>h2 d j q c J z v a D w1 (r.ext U) b h1)
theorem afT{tg:bx}{g:A->MS}(he:VE X W e fe)(N:VG X W tg g)(B:swapsWithSole [tg] e pos.line X.env=pure ax:=by rfl)(z:swappedStores [tg] e X.env=pure au:=by rfl)
  (h1:(du [tg] X.env).map (·.2)=[assign tg X.env]:=by rfl):VS X W (.Assign [tg] e pos) (bN fe g):=by
 obtain⟨t,q,j⟩:=he;obtain⟨u,p2,s2⟩:=N;exact⟨_,anG q p2 B z h1,Bt j s2⟩
theorem afO{i:a6}{x:ba}{pos':dn}(a:X.N.Nodup)(hi:X.N[i]?=ao x)(z:Loc X.env.scope x)(he:VE X W e fe)(B:ej e (ao (.Name x pos')) pos.line X.env=pure ax:=by rfl)(U:X.fn x=a5\/X.env.scope.names.lookup x=ao .local:=by first|exact .inl rfl|exact .inr rfl|assumption) :
  VS X W (.Assign [.Name x pos'] e pos) (bN fe (gN i)):=by
 obtain⟨t,q,j⟩:=he;exact⟨_,am5 a hi z q B U,Bt j λ_ _ _ _ _ _ _ _ _ w r d h=>wZ w (r.set i d) h⟩
structure Src where
 ds:aq A
 ok:aH->Prop
structure FW(K:bj)(G:Hp)(O:aq az)(σ:It)(S:Src):Prop where
 go:∀G' O' Z' H',Ext G O G' O'->Wd K G' O' Z' H'->S.ok Z'->∀i,i<S.ds.length->σ.go i H'
 stop:∀G' O' Z' H',Ext G O G' O'->Wd K G' O' Z' H'->S.ok Z'->∀i,S.ds.length<=i->σ.stop i H'
 CP:∀G' O' Z' H',Ext G O G' O'->Wd K G' O' Z' H'->S.ok Z'->∀i x H2 d,S.ds[i]?=ao d->σ.CP i H' x H2->∃G2,Ext G' O' G2 O'/\Wd K G2 O' Z' H2/\Den K G2 O' x d
def Di(K:bj):Rl Src It:=λG O σ S=>FW K G O σ S
def VI(X:Cx)(W:WX)(tg iter:bx)(f:Ev->Mo Src):Prop:=∃t,PI X tg iter t/\fP X.K (Di X.K) W t f
open Classical in
noncomputable def fD(ok:aH->Prop)(g:A->MS)(b:MS):aq A->MS
 |[],Y,Z=>if ok Z then ao (.nx,Y,Z)else au
 | x::xs,Y,Z=>if ok Z then(match g x Y Z with
  | some (.nx,Y0,Z0)=>(match b Y0 Z0 with
   |some (.nx,Y1,Z1)=>fD ok g b xs Y1 Z1
   |some (.ct,Y1,Z1)=>fD ok g b xs Y1 Z1
   |some (.bk,Y1,Z1)=>ao (.nx,Y1,Z1)
   | r=>r)
  |some (.exc e,Y0,Z0)=>ao (.exc e,Y0,Z0)
  | _=>au)else au
@[simp] noncomputable def kP(fi:Ev->Mo Src)(g:A->MS)(b:MS):MS:=λY=>sM (fi Y) Y λS Z=>fD S.ok g b S.ds Y Z
theorem aBI{K:bj}{G:Hp}{O:aq az}{D:Ends}{ok:aH->Prop}{g:A->MS}{b:MS}{xs:aq A}{Y:Ev}{Z:aH}(h:fQ K W G O D (fD ok g b xs Y Z)):ok Z:=by
 cases xs with
 |nil =>
  unfold fD at h
  by_cases j:ok Z
  ·exact j
  ·rw[bb j]at h;exact False.elim h
 |cons =>
  unfold fD at h
  by_cases j:ok Z
  ·exact j
  ·rw[bb j]at h;exact False.elim h
theorem aj6{K:bj}{wi:TI}{tg:TG}{tb:TS}{fi:Ev->Mo Src}{g:A->MS}{b:MS}(hi:fP K (Di K) W wi fi)(hg:QK K W tg g)(hb:rR K W tb b):rR K W (Rv wi tg tb) (kP fi g b):=by
 intro G O Z H J Y D w r h;refine hi G O Z H J Y _ w r (fQ.sM h r λS Z1 σ H1 G1 C x1 w1 j1 h1=>?_);refine⟨λi m u T=>m=S.ds.length-i/\i<=S.ds.length/\∃s B N e,Ext G1 C s B/\Wd K s B N T/\gV K s B u e/\fQ K W s B D (fD S.ok g b (S.ds.drop i) e N),
  ⟨_,rfl,BR _,G1,C,Z1,Y,Ext.refl _ _,w1,r.ext x1,by simpa using h1⟩,?_⟩
 rintro i m u T ⟨rfl,hil,s,B,N,e,Q,V,r',h'⟩;have aK:=aBI h'
 by_cases X:i<S.ds.length
 ·right
  refine⟨j1.go s B N T Q V aK i X,λL R=>∃I l P M,Ext G1 C I l/\Wd K I l P R/\gV K I l L M/\fQ K W I l D (fD S.ok g b (S.ds.drop (i+1)) M P),λL R n=>?_,λx R y=>?_⟩
  ·exact⟨S.ds.length-(i+1),by omega,rfl,X,n⟩
  ·obtain⟨I,o,w2,d2⟩:=j1.CP s B N T Q V aK i x R S.ds[i] (fF X) y;rw[QW X]at h';unfold fD at h';rw[a9 aK]at h';refine hg I B N R u e x S.ds[i] {D with nx:=λt H3=>tb _ t H3} w2 (r'.ext o) d2 ?_
   revert h'
   generalize g S.ds[i] e N=q;intro h'
   match q,h' with
   |some (.nx,v,E),h' =>
    intro t H3 G3 O3 F w3 r3;refine hb G3 O3 E H3 t v _ w3 r3 ?_;simp only at h'
    revert h'
    generalize b v E=q2;intro h'
    match q2,h' with
    |some (.nx,U,c),h'=>exact λz p k j d w4 f=>⟨k,j,c,U,(Q.trans (o.trans F)).trans d,w4,f,fQ.ext h' ((o.trans F).trans d)⟩
    |some (.ct,U,c),h'=>exact λz p k j d w4 f=>⟨k,j,c,U,(Q.trans (o.trans F)).trans d,w4,f,fQ.ext h' ((o.trans F).trans d)⟩
    |some (.bk,U,c),h'=>exact λz p k j d w4 f=>h' z p k j ((o.trans F).trans d) w4 f
    |some (.ret a,U,c),h'=>exact λz p k j d w4 f=>h' z p k j ((o.trans F).trans d) w4 f
    |some (.exc a,U,c),h'=>exact λz p k j d w4 f=>h' z p k j ((o.trans F).trans d) w4 f
   |some (.exc a,v,E),h'=>exact λz p k j d w4 f=>h' z p k j (o.trans d) w4 f
 ·have Hh:i=S.ds.length:=by omega
  subst Hh
  left
  rw[List.drop_length]at h';unfold fD at h';rw[a9 aK]at h';exact⟨j1.stop s B N T Q V aK _ cJ,wZ V r' h'⟩
theorem sE{tg iter:bx}{body:aq b8}{fi:Ev->Mo Src}{g:A->MS}{b:MS}(U:PassesOwn (bq X.prog X.w) X.A X.env X.xe)(c:X.calm=a5)(hi:VI X W tg iter fi)(a:VG X W tg g)(hb:iC X W body b)
  (N:∀x,cw iter X.env x=pure x:=by intro _;rfl):VS X W (.For tg iter body [] pos) (kP fi g b):=by
 obtain⟨f,B,q⟩:=hi;obtain⟨e,p2,s2⟩:=a;obtain⟨d,z,j⟩:=hb;exact⟨_,anA U c B p2 z N,aj6 q s2 j⟩
def qP(c:Ev->Mo br)(b:MS):a6->MS
 |0,_,_=>au
 | n+1,Y,Z=>sM (c Y) Y (λk Z1=>if k then(match b Y Z1 with
   |some (.nx,Y1,Z2)=>qP c b n Y1 Z2
   |some (.ct,Y1,Z2)=>qP c b n Y1 Z2
   |some (.bk,Y1,Z2)=>ao (.nx,Y1,Z2)
   | r=>r)else ao (.nx,Y,Z1)) Z
theorem aj2{K:bj}{tc:TT}{tb:TS}{c:Ev->Mo br}{b:MS}(n:Ev->aH->a6)(R:fP K DG W tc c)(hb:rR K W tb b):rR K W (Rr tc tb) (λY Z=>qP c b (n Y Z) Y Z):=by
 intro G F Z H J Y D w r h;refine⟨λm f I=>∃s U i N,Ext G F s U/\Wd K s U i I/\gV K s U f N/\fQ K W s U D (qP c b m N i),⟨_,G,F,Z,Y,Ext.refl _ _,w,r,h⟩,?_⟩;rintro m f I ⟨s,U,i,N,L,P,A,h'⟩;cases m with
 |zero=>exact False.elim h'
 |succ m =>
  unfold qP at h';refine R s U i I f N _ P A (fQ.sM h' A λk x Q T V E y w1 S h1=>?_);cases(show Q=k from S);cases k with
  |false=>exact wZ w1 (A.ext y) h1
  |true =>
   refine⟨λt M=>∃C g v u,Ext G F C g/\Wd K C g v M/\gV K C g t u/\fQ K W C g D (qP c b m u v),λt M q=>⟨m,YO _,q⟩,?_⟩;refine hb V E x T f N _ w1 (A.ext y) ?_;simp only[eT]at h1
   revert h1
   generalize b N x=q;intro h1
   match q,h1 with
   |some (.nx,B,d),h1=>exact λz p o j e w4 l=>⟨o,j,d,B,(L.trans y).trans e,w4,l,fQ.ext h1 e⟩
   |some (.ct,B,d),h1=>exact λz p o j e w4 l=>⟨o,j,d,B,(L.trans y).trans e,w4,l,fQ.ext h1 e⟩
   |some (.bk,B,d),h1=>exact λz p o j e w4 l=>h1 z p o j e w4 l
   |some (.ret a,B,d),h1=>exact λz p o j e w4 l=>h1 z p o j e w4 l
   |some (.exc a,B,d),h1=>exact λz p o j e w4 l=>h1 z p o j e w4 l
theorem afK{j:bx}{body:aq b8}{c:Ev->Mo br}{b:MS}(n:Ev->aH->a6)(B:PassesOwn (bq X.prog X.w) X.A X.env X.xe)(N:VT X W j c)(hb:iC X W body b):VS X W (.While j body [] pos) (λY Z=>qP c b (n Y Z) Y Z):=by
 obtain⟨a,z,q⟩:=N;obtain⟨U,p2,s2⟩:=hb;exact⟨_,am2 B z p2,aj2 n q s2⟩
@[simp] def srcOf(a:A)(ds:aq A):Src:=⟨ds,λZ=>fX Z a=ao ds⟩
theorem AK{Z:aH}{a:A}{ds:aq A}(h:dU Z a=ao ds):fX Z a=ao ds:=by
 cases a with
 |tup es=>simp[dU]at h
 |_=>exact h
theorem Wo{Z:aH}{a:A}{ds:aq A}(h:fX Z a=ao ds)(j:∀es,a≠.tup es):dU Z a=ao ds:=by
 cases a with
 |tup es=>exact b7 rfl (j es)
 |_=>exact h
theorem an0{tg l:bx}{tl:TE}(hl:PE X l tl):PI X tg l (λJ H R=>tl J H λx H1=>∃a,x=.ref a/\(((∃xs,fO X.K H1 a xs)/\R (Na X.K a) H1)\/((∃xs,jP X.K H1 a xs)/\R (Mz X.K a) H1))):=by
 intro aa s J H R I h;refine bC (hl aa s J H _ I h) λv j ⟨x,H1,z,r1,c⟩=>?_;obtain⟨a,e,q⟩:=c;subst e;cases r1
 rcases q with⟨⟨xs,B⟩,q⟩|⟨⟨xs,B⟩,q⟩
 ·obtain⟨N,U,p,d⟩:=z.list B;refine wpAny_pyIter_list p.isList ?_;refine⟨j.heap.objs.size,[j.heap.objs.size],_,_,H1,rfl,z.kept (t':=j.toks) λb o e=>dI _ e,ag1 a _,⟨_,gU _ rfl,rfl,rfl⟩,λb hb=>?_,q⟩;have e:b=j.heap.objs.size:=by simpa using hb
  subst e;exact z.xM cJ (z.aK.fresh cJ)
 ·obtain⟨N,U,p,d⟩:=z.tuple B;refine wpAny_pyIter_tuple (show j.heap.IsTuple a N.toArray from p) ?_;refine⟨j.heap.objs.size,[j.heap.objs.size],_,_,H1,rfl,z.kept (t':=j.toks) λb o e=>dI _ e,agY a _,⟨_,gU _ rfl,rfl,rfl⟩,λb hb=>?_,q⟩;have e:b=j.heap.objs.size:=by simpa using hb
  subst e;exact z.xM cJ (z.aK.fresh cJ)
@[simp] def gW(f:Ev->Mo A):Ev->Mo Src:=λY=>mb (f Y) λa Z=>match fX Z a with
 |some ds=>ao (.ok (srcOf a ds),Z)
 |none=>au
theorem au1{K:bj}{G:Hp}{O:aq az}{p:az}{a:A}{ds:aq A}(d:Den K G O (.ref p) a)(l:∀es,a≠.tup es):FW K G O (Na K p) (srcOf a ds):=by
 have key:∀U j B b,Ext G O U j->Wd K U j B b->fX B a=ao ds->∃N,fO K b p N/\aU K U j N ds:=λU j B b e w h=>by
  obtain⟨q,N,h1,h2,c⟩:=xB w (d.ext e) (Wo h l);cases h1;exact⟨N,h2,c⟩
 refine⟨λU j B b e w h i hi=>?_,λU j B b e w h i hi=>?_,λU j B b e w h i x o y k hd=>?_⟩
 ·obtain⟨N,h2,c⟩:=key U j B b e w h;have hl:i<N.length:=by rw[c.length];exact hi
  exact⟨N,N[i],h2,fF hl⟩
 ·obtain⟨N,h2,c⟩:=key U j B b e w h;exact⟨N,h2,by rw[c.length];exact hi⟩
 ·obtain⟨N,h2,c⟩:=key U j B b e w h;obtain⟨n,m⟩:=hd;subst n;obtain⟨z,f,g⟩:=c.get k;rw[m N h2]at f;cases f;exact⟨U,Ext.refl _ _,w,g⟩
theorem au0{K:bj}{G:Hp}{O:aq az}{p:az}{ds es:aq A}(d:Den K G O (.ref p) (.tup es)):FW K G O (Mz K p) (srcOf (.tup es) ds):=by
 have key:∀U j B a,Ext G O U j->Wd K U j B a->fX B (.tup es)=ao ds->∃N,jP K a p N/\aU K U j N ds:=λU j B a e w h=>by
  simp only[fX,kS]at h;subst h;have d':=d.ext e;simp only[Den]at d';obtain⟨q,N,h1,h2,b⟩:=d';cases h1;exact⟨N,jP.of (w.sub _ _ h2),b⟩
 refine⟨λU j B a e w h i hi=>?_,λU j B a e w h i hi=>?_,λU j B a e w h i x m y g hd=>?_⟩
 ·obtain⟨N,h2,b⟩:=key U j B a e w h;have hl:i<N.length:=by rw[b.length];exact hi
  exact⟨N,N[i],h2,fF hl⟩
 ·obtain⟨N,h2,b⟩:=key U j B a e w h;exact⟨N,h2,by rw[b.length];exact hi⟩
 ·obtain⟨N,h2,b⟩:=key U j B a e w h;obtain⟨l,k⟩:=hd;subst l;obtain⟨z,c,f⟩:=b.get g;rw[k N h2]at c;cases c;exact⟨U,Ext.refl _ _,w,f⟩
theorem qE{tg l:bx}{fe:Ev->Mo A}(h:VE X W l fe):VI X W tg l (gW fe):=by
 obtain⟨t,p,s⟩:=h;refine⟨_,an0 p,λG i k H J g R w r h=>?_⟩;refine s G i k H J g _ w r (bD.mb h λa N v d f B u w1 j h1=>?_);cases e:fX N a with
 |none=>simp only[e]at h1;exact False.elim h1
 |some ds =>
  simp only[e]at h1;obtain⟨q,o,h2,y,x⟩:=Bq w1 j e;subst h2;refine⟨q,rfl,?_⟩;cases a with
  |tup es =>
   right
   simp only[Den]at j;obtain⟨m,U,c,b,n⟩:=id j;cases c;exact⟨⟨_,jP.of (w1.sub _ _ b)⟩,h1 _ d f B (Ext.refl _ _) w1 (au0 (by simpa only[Den]using j))⟩
  |_ =>
   left
   obtain⟨m,U,c,b,n⟩:=xB w1 j (Wo e (by intro _ z;cases z));cases c;exact⟨⟨_,b⟩,h1 _ d f B (Ext.refl _ _) w1 (au1 j (by intro _ z;cases z))⟩
@[simp] noncomputable def wW(lo:a4)(n:a6):Src:=⟨(List.range n).map λ(i:a6)=>A.int (lo+(i:a4)),λ_=>True⟩
def yN(i:a4):Prop:=-(2 ^ 62)<=i/\i<2 ^ 62
instance (i:a4):c5 (yN i):=by unfold yN;infer_instance
theorem au3{K:bj}{G:Hp}{O:aq az}{lo:a4}{n:a6}:FW K G O (YY lo n) (wW lo n):=by
 refine⟨λ_ _ _ _ _ _ _ i hi=>show i<n by simpa[wW]using hi,λ_ _ _ _ _ _ _ i hi=>show n<=i by simpa[wW]using hi,λa z B c e w h i x b y q hd=>?_⟩;obtain⟨U,N⟩:=hd;subst U N;refine⟨a,Ext.refl _ _,w,?_⟩;simp only[wW,jH]at q;cases e:(List.range n)[i]? with
 |none=>rw[e]at q;cases q
 |some j =>
  rw[e]at q;cases q;have:=(cY.mp e).2;simp at this;subst this;simp only[Den]
@[simp] def rB(f:Ev->Mo (aq A)):Ev->Mo Src:=λY=>mb (f Y) λas=>match as with
 |[.int j]=>mb (nF (yN j)) λ_=>ret (wW 0 j.toNat)
 |_=>stuck
theorem RV{tg a:bx}{fs:Ev->Mo (aq A)}{p:dn}(f:Gl X "range")(hm:X.mg "range" = au)(g:VA X W [a] fs)(e:bg [a] X.env=[(ax,cj a X.env)]:=by rfl):VI X W tg (.Call (.Name "range" p) [a] [] pos) (rB fs):=by
 obtain⟨t,p,s⟩:=g;refine⟨_,an2 f hm p e,λG b d H J N R w r h=>?_⟩;refine s G b d H J N _ w r (bD.mb h λm c l n o U k w1 i h1=>?_);split at h1
 ·rename_i j;obtain⟨v,t,rfl,z,q⟩:=i.lY;rw[vS]at q;subst q;simp only[Den]at z;subst z;obtain⟨B,h2⟩:=bD.nF h1;exact⟨j,rfl,B.1,B.2,iS w1 au3 h2⟩
 ·exact False.elim h1
end
section
variable{X:Cx}{W:WX}{e a b:bx}{es:aq bx}{pos:dn}{fa fb:Ev->Mo A}{fs:Ev->Mo (aq A)}
@[simp] def bB(a i:A):Mo A:=λZ=>match fX Z a,i with
 |some ds,.int n=>match fU ds n with
  |some d=>ao (.ok d,Z)
  |none=>au
 |_,_=>au
theorem aGF{K:bj}{G:Hp}{O:aq az}{xs:aq V}{ds:aq A}{n:a4}{d:A}(h:aU K G O xs ds)(e:fU ds n=ao d):∃x,fU xs n=ao x/\Den K G O x d:=by
 unfold fU at e ⊢;rw[h.length];cases q:yV ds.length n with
 |none=>rw[q]at e;cases e
 |some j=>rw[q]at e;exact h.get e
theorem cH(k:VE X W a fa)(hb:VE X W b fb)(g:adD b):VE X W (.Subscript a b pos) (aC bB fa fb):=by
 obtain⟨t,f,c⟩:=k;obtain⟨u,p2,s2⟩:=hb;refine⟨_,aoQ auX f p2 g,TC ?_ c s2⟩;intro G z o H J x y a i Q w m q h;unfold bB at h;split at h
 ·rename_i ds n l;split at h
  ·rename_i d e;simp only[Den]at q;have fin:∀v,Den X.K G z v d->Q v H:=λv hv=>h v H G z (Ext.refl _ _) w hv;obtain⟨p,B,rfl,j,hd⟩:=Bq w m l;obtain⟨v,U,N⟩:=aGF hd e
   rcases j with j|j
   ·exact .inl ⟨p,B,n,v,rfl,q,j,U,fin v N⟩
   ·exact .inr (.inl ⟨p,B,n,v,rfl,q,j,U,fin v N⟩)
  ·exact False.elim h
 ·exact False.elim h
def VO(X:Cx)(W:WX)(e:aw bx)(f:Ev->Mo (aw a4)):Prop:=∃t,PO X e t/\fP X.K (λ_ _ o o'=>o=o') W t f
theorem RU:VO X W au (λ_=>ret au):=⟨_,anO,λ_ _ _ _ _ _ _ w _ q=>iS w rfl q⟩
@[simp] def mR(f:Ev->Mo A):Ev->Mo (aw a4):=λY=>mb (f Y) λx=>match x with
 |.int i=>ret (ao i)
 |_=>stuck
theorem LA(h:VE X W e fa):VO X W (ao e) (mR fa):=by
 obtain⟨t,p,s⟩:=h;refine⟨_,anN p,λG B U H J q Q w r h=>?_⟩;refine s G B U H J q _ w r (bD.mb h λx N v b c z a w1 j h1=>?_);cases x with
 |int i=>simp only[Den]at j;exact⟨i,j,iS w1 rfl h1⟩
 |_=>exact False.elim h1
def vU(ds:aq A)(lo hi:aw a4):aq A:=(ds.drop (HT.cR ds.length 0 lo)).take (HT.cR ds.length ds.length hi-HT.cR ds.length 0 lo)
theorem abP{K:bj}{G:Hp}{O:aq az}{xs:aq V}{ds:aq A}(h:aU K G O xs ds)(lo hi:aw a4):aU K G O (BK xs lo hi) (vU ds lo hi):=by
 unfold BK vU;rw[h.length];exact(h.drop _).take _
@[simp] def Jd(c:br)(a:A)(lo hi:aw a4):Mo A:=λZ=>match a with
 |.tup ds=>if HT.cR ds.length 0 lo=0/\HT.cR ds.length ds.length hi=ds.length then au else ao (.ok (.tup (vU ds lo hi)),Z)
 |a=>match dU Z a with
  |some ds=>rF c (vU ds lo hi) Z
  |none=>au
@[simp] def sH(c:br)(f:Ev->Mo A)(l h:Ev->Mo (aw a4)):Ev->Mo A:=λY=>mb (f Y) λa=>mb (l Y) λlo=>mb (h Y) λhi=>Jd c a lo hi
theorem Af(c:br){lo hi:aw bx}{fl m:Ev->Mo (aw a4)}{p2:dn}(he:VE X W e fa)(hl:VO X W lo fl)(hh:VO X W hi m):VE X W (.Subscript e (.Slice lo hi au p2) pos) (sH c fa fl m):=by
 obtain⟨t,I,E⟩:=he;obtain⟨u,p2,s2⟩:=hl;obtain⟨u',F,D⟩:=hh;refine⟨_,aoE (aj1.or aj0) I p2 F,λG s A H J z Q w r h=>?_⟩;refine E G s A H J z _ w r (bD.mb h λx a v T G1 N i w1 R h1=>?_);refine s2 G1 N a T J z _ w1 (r.ext i) (bD.mb h1 λo U K S V B g w2 P h2=>?_);cases(show K=o from P);refine D V B U S J z _ w2 ((r.ext i).ext g) (bD.mb h2 λk y L H3 G3 n C w3 M j=>?_);cases(show L=k from M);have d:=R.ext (g.trans C);unfold Jd at j;cases x with
 |tup ds =>
  simp only at j;split at j
  ·exact False.elim j
  ·rename_i hn;simp only[Den]at d;obtain⟨p,b,rfl,f,q⟩:=d;exact .inr ⟨p,b,rfl,jP.of (w3.sub _ _ f),by rw[q.length];exact hn,λl hl=>Ek w3 hl (abP q o k) j⟩
 |_ =>
  simp only at j;split at j
  ·rename_i ds e;obtain⟨p,b,rfl,f,q⟩:=xB w3 d e;exact .inl ⟨p,b,rfl,f,λl hl=>HU w3 hl (abP q o k) j⟩
  ·exact False.elim j
def ad4(K:bj)(W:WX)(r:aq V->Hp->VK->Prop)(g:aq A->Mo A):Prop :=
 ∀G O Z H J xs as Q,Wd K G O Z H->aU K G O xs as->bD K (Den K) W G O J Q (g as Z)->r xs H Q
def yD(X:Cx)(W:WX)(f:av)(g:aq A->Mo A):Prop:=∃r,tP X f r/\ad4 X.K W r g
@[simp] def aQ(g:aq A->Mo A)(f:Ev->Mo (aq A)):Ev->Mo A:=λY=>mb (f Y) g
theorem Sy{K:bj}{r:aq V->Hp->VK->Prop}{g:aq A->Mo A}{t:TA}(b:ad4 K W r g)(h:fP K (aU K) W t fs):fP K (Den K) W (Bj r t) (aQ g fs):=by
 intro G N U H J B Q w q h2;exact h G N U H J B _ w q (bD.mb h2 λd z a e f j i w1 c h1=>b f j z e J a d Q w1 c h1)
theorem dS{id:c4}{x:ba}{g:aq A->Mo A}{p:dn}(B:yD X W (.builtin id) g)(z:Gl X x)(hm:X.mg x=au)(hv:dq x=ao (.builtin id))(N:VA X W (e::es) fs)(hn:x≠"__name__":=by decide)(U:(x==("__debug__" : ba))=ax:=by decide)
  (he:bg (e::es) X.env=(ax,cj e X.env)::bg es X.env:=by rfl) (a:(cz pos (bg es X.env)).any (·.1)=ax:=by rfl):VE X W (.Call (.Name x p) (e::es) [] pos) (aQ g fs):=by
 obtain⟨r,c,b⟩:=B;obtain⟨t,q,j⟩:=N;exact⟨_,Uz c z hm hv q hn U he a,Sy b j⟩
theorem agF{T:c4}{x:ba}{g:aq A->Mo A}{p:dn}(B:yD X W (.type T) g)(z:Gl X x)(hm:X.mg x=au)(hv:dq x=ao (.type T))(N:VA X W (e::es) fs)(hn:x≠"__name__":=by decide)(U:(x==("__debug__" : ba))=ax:=by decide)
  (he:bg (e::es) X.env=(ax,cj e X.env)::bg es X.env:=by rfl) (a:(cz pos (bg es X.env)).any (·.1)=ax:=by rfl):VE X W (.Call (.Name x p) (e::es) [] pos) (aQ g fs):=by
 obtain⟨r,c,b⟩:=B;obtain⟨t,q,j⟩:=N;exact⟨_,Uy c z hm hv q hn U he a,Sy b j⟩
theorem BH{K:bj}{G:Hp}{O:aq az}{xs:aq V}{d:A}(h:aU K G O xs [d]):∃x,xs=[x]/\Den K G O x d:=by
 obtain⟨x,r,rfl,h1,h2⟩:=h.lY;rw[vS]at h2;subst h2;exact⟨x,rfl,h1⟩
theorem XF{K:bj}{G:Hp}{O:aq az}{xs:aq V}{d d':A}(h:aU K G O xs [d,d']):∃x y,xs=[x,y]/\Den K G O x d/\Den K G O y d':=by
 obtain⟨x,r,rfl,h1,h2⟩:=h.lY;obtain⟨y,rfl,j⟩:=BH h2;exact⟨x,y,rfl,h1,j⟩
@[simp] def dO(as:aq A):Mo A:=λZ=>match as with
 | [a]=>(match fX Z a with
  |some ds=>ao (.ok (.int ds.length),Z)
  | none=>au)
 |_=>au
theorem kQ:yD X W (.builtin "len") dO:=by
 refine⟨_,aEY,?_⟩;intro G j N H J U b Q w d h;unfold dO at h;split at h
 ·rename_i a;split at h
  ·rename_i ds e;obtain⟨x,rfl,B⟩:=BH d;obtain⟨p,q,rfl,h2,z⟩:=Bq w B e;exact⟨p,q,rfl,h2,h _ H G j (Ext.refl _ _) w (by simp only[Den,z.length])⟩
  ·exact False.elim h
 ·exact False.elim h
@[simp] def zI(as:aq A):Mo A:=match as with
 |[.int i,.int j]=>ret (.int (max i j))
 |_=>stuck
@[simp] def sZ(as:aq A):Mo A:=match as with
 |[.int i,.int j]=>ret (.int (min i j))
 |_=>stuck
theorem JI(B:X.calm=a5):yD X W (.builtin "max") zI:=by
 refine⟨_,aEX B,?_⟩;intro G N U H J a b Q w d h;unfold zI at h;split at h
 ·rename_i i j;obtain⟨x,y,rfl,z,q⟩:=XF d;simp only[Den]at z q;subst z q;refine⟨i,j,rfl,?_⟩;have e:(if j>i then j else i)=max i j:=by split <;> omega
  rw[e];exact iS w (by simp only[Den]) h
 ·exact False.elim h
theorem ET(B:X.calm=a5):yD X W (.builtin "min") sZ:=by
 refine⟨_,aEW B,?_⟩;intro G N U H J a b Q w d h;unfold sZ at h;split at h
 ·rename_i i j;obtain⟨x,y,rfl,z,q⟩:=XF d;simp only[Den]at z q;subst z q;refine⟨i,j,rfl,?_⟩;have e:(if j<i then j else i)=min i j:=by split <;> omega
  rw[e];exact iS w (by simp only[Den]) h
 ·exact False.elim h
noncomputable def intsOf:aq A->aw (aq a4)
 |[]=>ao []
 |.int i::r=>(intsOf r).map (i :: ·)
 |_=>au
theorem Fw{K:bj}{G:Hp}{O:aq az}:∀{ds:aq A} {xs:aq V} {ns:aq a4},intsOf ds=ao ns->aU K G O xs ds->xs=ns.map V.int
 |[],xs,ns,h,d=>by
  simp only[intsOf,kS]at h;subst h;rw[vS]at d;subst d;rfl
 |a::ds,xs,ns,h,d=>by
  obtain⟨x,t,rfl,j,q⟩:=d.lY;cases a with
  |int i =>
   simp only[intsOf,BQ]at h;obtain⟨ms,h1,rfl⟩:=h;simp only[Den]at j;subst j;rw[Fw h1 q];rfl
  |_=>simp[intsOf]at h
theorem ID(ns:aq a4):intsOf (ns.map A.int)=ao ns:=by
 induction ns with
 |nil=>rfl
 |cons n ns ih=>simp[intsOf,ih]
@[simp] def xK(as:aq A):Mo A:=λZ=>match as with
 | [a]=>(match (dU Z a).bind intsOf with
  |some ns=>ao (.ok (.int ns.sum),Z)
  | none=>au)
 |_=>au
theorem PR(q:X.calm=a5):yD X W (.builtin "sum") xK:=by
 refine⟨_,aER q,?_⟩;intro G j b H J f g Q w d h;unfold xK at h;split at h
 ·rename_i a;split at h
  ·rename_i ns e;obtain⟨x,rfl,U⟩:=BH d;rw[QP]at e;obtain⟨ds,N,B⟩:=e;obtain⟨p,c,rfl,h2,z⟩:=xB w U N;rw[Fw B z]at h2;exact⟨p,ns,rfl,h2,h _ H G j (Ext.refl _ _) w (by simp only[Den])⟩
  ·exact False.elim h
 ·exact False.elim h
noncomputable def pB(Z:aH):A->aw c4
 |.int _=>ao "int"
 |.bl _=>ao "bool"
 |.str _=>ao "str"
 |.aV=>ao "NoneType"
 |.tup _=>ao "tuple"
 |.lst _=>ao "list"
 |.aE k=>match Z[k]? with
  |some (.lst _)=>ao "list"
  |some (.cV _)=>ao "dict"
  |_=>au
 |_=>au
theorem agW{K:bj}{G H:Hp}{O:aq az}{Z:aH}{v:V}{a:A}{t:c4}(w:Wd K G O Z H)(d:Den K G O v a)(h:pB Z a=ao t):rQ K H v (.type t):=by
 cases a with
 |int i=>simp only[pB,kS]at h;subst h;simp only[Den]at d;subst d;exact .int i
 |bl i=>simp only[pB,kS]at h;subst h;simp only[Den]at d;subst d;exact .bl i
 |str i=>simp only[pB,kS]at h;subst h;simp only[Den]at d;subst d;exact .str i
 |aV=>simp only[pB,kS]at h;subst h;simp only[Den]at d;subst d;exact .aV
 |tup ds=>simp only[pB,kS]at h;subst h;simp only[Den]at d;obtain⟨p,j,rfl,h2,_⟩:=d;exact .tup (w.sub _ _ h2)
 |lst ds=>simp only[pB,kS]at h;subst h;simp only[Den]at d;obtain⟨p,j,rfl,h2,_⟩:=d;exact .lst (w.sub _ _ h2)
 |aE k =>
  simp only[Den]at d;obtain⟨p,rfl,z⟩:=d;simp only[pB]at h;split at h
  ·rename_i ds e;cases h;obtain⟨g,j,q,_⟩:=w.aE k _ p e z;exact .lst q
  ·rename_i ds e;cases h;obtain⟨g,j,q,_⟩:=w.aE k _ p e z;exact .dK q
  ·cases h
 |_=>simp[pB]at h
noncomputable def yW(t n:c4):aw br:=if(["int", "bool", "str", "NoneType", "tuple", "list"].elem t&&["int", "bool", "tuple", "list", "str"].elem n)=a5 then ao (t==n||(t == "bool" && n == "int"))else au
theorem avA(K:bj){t n:c4}{b:br}(h:yW t n=ao b):kitOne K (.type t) (.type n)=ao b:=by
 unfold yW at h;split at h
 ·rename_i e;cases h;simp only[List.elem_eq_mem,lK,BI,dY,wG,vG]at e;obtain⟨rfl|rfl|rfl|rfl|rfl|rfl,rfl|rfl|rfl|rfl|rfl⟩:=e <;> first|kernel_rfl|(unfold kitOne;rw[a9 (beq_self_eq_true _)];rfl)
 ·cases h
@[simp] def IW(as:aq A):Mo A:=λZ=>match as with
 | [a,.ty n]=>(match (pB Z a).bind λt=>yW t n with
  |some b=>ao (.ok (.bl b),Z)
  | none=>au)
 |_=>au
theorem Ki:yD X W (.builtin "isinstance") IW:=by
 refine⟨_,aEZ,?_⟩;intro G q U H J c f Q w d h;unfold IW at h;split at h
 ·rename_i a n;split at h
  ·rename_i b e;rw[QP]at e;obtain⟨t,B,z⟩:=e;obtain⟨x,y,rfl,N,j⟩:=XF d;simp only[Den]at j;subst j;exact⟨x,n,_,b,rfl,agW w N B,avA _ z,h _ H G q (Ext.refl _ _) w (by simp only[Den])⟩
  ·exact False.elim h
 ·exact False.elim h
def Mi(K:bj)(W:WX)(r:V->aq V->Hp->VK->Prop)(g:A->aq A->Mo A):Prop :=
 ∀G O Z H J x xs a as Q,Wd K G O Z H->Den K G O x a->aU K G O xs as->bD K (Den K) W G O J Q (g a as Z)->r x xs H Q
def vM(Z:aH)(a:A):Prop:=∃ds,dU Z a=ao ds
open Classical in
@[simp] noncomputable def kW(g:A->aq A->Mo A)(fo:Ev->Mo A)(f:Ev->Mo (aq A)):Ev->Mo A:=λY=>mb (fo Y) λo Z=>if vM Z o then mb (f Y) (λas=>g o as) Z else au
theorem agU{K:bj}{G H:Hp}{O:aq az}{Z:aH}{v:V}{a:A}(w:Wd K G O Z H)(d:Den K G O v a)(h:vM Z a):Aw K "list" v H:=by
 obtain⟨ds,e⟩:=h;obtain⟨p,j,rfl,q,_⟩:=xB w d e;exact .inl ⟨rfl,j,q⟩
theorem AF{name:ba}{ag:dn}{id:c4}{r:V->aq V->Hp->VK->Prop}{g:A->aq A->Mo A}(pa:PlainAttrs "list")(slot:Slot "list" name id)(I:typeOf (.builtin id)=pure (.type "method_descriptor"))(hm:MtR X id r)(hv:Mi X.K W r g)(o:VE X W a fa)(p:VA X W (e::es) fs)
  (d:dw a name X.env (cj a X.env)=cj a X.env:=by rfl)
  (C:((cz pos (bg (e::es) X.env)).all (λx=>!x.1)&&(backToKw pos (fm [] X.env)).all (λx=>x.1.isSome)
   && decide ((e::es).length+([]:aq Keyword).length+(if([]:aq Keyword).isEmpty then 0 else 1)<30))=a5:=by rfl)
  (P:(ag.endLine==pos.line)=a5:=by rfl) (n:bg (e::es) X.env=(ax,cj e X.env)::bg es X.env:=by rfl) (F:(cz pos (bg es X.env)).any (·.1)=ax:=by rfl) :
  VE X W (.Call (.Attribute a name ag) (e::es) [] pos) (kW g fa fs):=by
 obtain⟨t,m,l⟩:=o;obtain⟨u,p2,s2⟩:=p;refine⟨_,ao2 pa slot I hm m p2 d C P n F,λG b c H J N Q w r h=>?_⟩;refine l G b c H J N _ w r (bD.mb h λx B v E M q i w1 U h1=>?_);split at h1
 ·rename_i hl;refine⟨agU w1 U hl,s2 M q B E J N _ w1 (r.ext i) (bD.mb h1 λy z k D L j f w2 s h2=>?_)⟩;exact hv L j z D J v k x y Q w2 (U.ext f) s h2
 ·exact False.elim h1
noncomputable def qR(Z:aH):A->aw (a6×aq A)
 |.aE k=>match Z[k]? with
  |some (.lst ds)=>ao (k,ds)
  |_=>au
 |_=>au
theorem ab3{K:bj}{G H:Hp}{O:aq az}{Z:aH}{v:V}{a:A}{k:a6}{ds:aq A}(w:Wd K G O Z H)(d:Den K G O v a)(h:qR Z a=ao (k,ds)):∃p xs,v=.ref p/\O[k]?=ao p/\G p=au/\H p=ao (.lst xs)/\aU K G O xs ds:=by
 cases a with
 |aE j =>
  simp only[qR]at h;split at h
  ·rename_i es e;cases h;simp only[Den]at d;obtain⟨p,rfl,q⟩:=d;obtain⟨g,xs,B,z⟩:=w.aE k _ p e q;exact⟨p,xs,rfl,q,g,B,z⟩
  ·cases h
 |_=>simp[qR]at h
@[simp] def pN(o:A)(as:aq A):Mo A:=λZ=>match qR Z o,as with
 |some (k,ds),[y]=>if ds.length<bf then ao (.ok .aV,Z.set k (.lst (ds++[y])))else au
 |_,_=>au
theorem DS:Mi X.K W Uc pN:=by
 intro G q f H J x i a l Q w d b h;unfold pN at h;split at h
 ·rename_i k ds y e;split at h
  ·rename_i hl;obtain⟨p,z,rfl,B,g,N,j⟩:=ab3 w d e;obtain⟨u,rfl,U⟩:=BH b;refine⟨p,z,u,rfl,rfl,N,by rw[j.length];exact hl,?_⟩;exact h _ _ G q (Ext.refl _ _) (w.put (c:=.lst (ds++[y])) B g ⟨g,_,eZ,j.append (.cons U .nil)⟩) (by simp only[Den])
  ·exact False.elim h
 ·exact False.elim h
end
mutual
def Cl(n:a6):A->Prop
 |.aE k=>k<n
 |.tup ds=>fK n ds
 |.lst ds=>fK n ds
 |_=>True
def fK(n:a6):aq A->Prop
 |[]=>True
 |d::ds=>Cl n d/\fK n ds
end
section
variable{K:bj}{G:Hp}{O:aq az}
mutual
theorem Den.cl:∀{v:V} {d:A},Den K G O v d->Cl O.length d
 |_,.int _,_=>by simp only[Cl]
 |_,.bl _,_=>by simp only[Cl]
 |_,.str _,_=>by simp only[Cl]
 |_,.aV,_=>by simp only[Cl]
 |_,.ty _,_=>by simp only[Cl]
 |_,.adr _,_=>by simp only[Cl]
 |_,.OU _ _ _ _,_=>by simp only[Cl]
 |_,.gl _,_=>by simp only[Cl]
 |_,.gG _,_=>by simp only[Cl]
 |_,.tup ds,h=>by
  simp only[Den]at h;simp only[Cl];obtain⟨a,xs,_,_,j⟩:=h;exact aU.cl j
 |_,.lst ds,h=>by
  simp only[Den]at h;simp only[Cl];obtain⟨a,xs,_,_,j⟩:=h;exact aU.cl j
 |_,.aE k,h=>by
  simp only[Den]at h;simp only[Cl];obtain⟨a,_,h2⟩:=h;exact(cY.mp h2).1
theorem aU.cl:∀{xs:aq V} {ds:aq A},aU K G O xs ds->fK O.length ds
 |_,[],_=>by simp only[fK]
 |_,d::ds,h=>by
  simp only[aU]at h;simp only[fK];obtain⟨x,r,_,h2,j⟩:=h;exact⟨Den.cl h2,aU.cl j⟩
end
mutual
theorem Den.cut{O':aq az}{n:a6}(e:∀k,k<n->O[k]?=O'[k]?):∀{v:V} {d:A},Den K G O' v d->Cl n d->Den K G O v d
 |_,.int _,h,_=>by simpa only[Den]using h
 |_,.bl _,h,_=>by simpa only[Den]using h
 |_,.str _,h,_=>by simpa only[Den]using h
 |_,.aV,h,_=>by simpa only[Den]using h
 |_,.ty _,h,_=>by simpa only[Den]using h
 |_,.adr _,h,_=>by simpa only[Den]using h
 |_,.OU _ _ _ _,h,_=>by simpa only[Den]using h
 |_,.gl _,h,_=>by simpa only[Den]using h
 |_,.gG _,h,_=>by simpa only[Den]using h
 |_,.tup ds,h,c=>by
  simp only[Den]at h ⊢;simp only[Cl]at c;obtain⟨a,xs,h1,h2,j⟩:=h;exact⟨a,xs,h1,h2,aU.cut e j c⟩
 |_,.lst ds,h,c=>by
  simp only[Den]at h ⊢;simp only[Cl]at c;obtain⟨a,xs,h1,h2,j⟩:=h;exact⟨a,xs,h1,h2,aU.cut e j c⟩
 |_,.aE k,h,c=>by
  simp only[Den]at h ⊢;simp only[Cl]at c;obtain⟨a,h1,h2⟩:=h;exact⟨a,h1,(e k c).trans h2⟩
theorem aU.cut{O':aq az}{n:a6}(e:∀k,k<n->O[k]?=O'[k]?):∀{xs:aq V} {ds:aq A},aU K G O' xs ds->fK n ds->aU K G O xs ds
 |_,[],h,_=>by simpa only[aU]using h
 |_,d::ds,h,c=>by
  simp only[aU]at h ⊢;simp only[fK]at c;obtain⟨x,r,h1,h2,j⟩:=h;exact⟨x,r,h1,Den.cut e h2 c.1,aU.cut e j c.2⟩
end
def nH(n:a6):Fd->Prop
 |.val a=>Cl n a
 |.lst ds=>fK n ds
 |.cV kvs=>fK n (kvs.map (·.2))
def oE(n:a6):aq (ba×Fd)->Prop
 |[]=>True
 |p::r=>nH n p.2/\oE n r
def GI(n:a6):Cell->Prop
 |.lst ds=>fK n ds
 |.cV kvs=>fK n (kvs.map (·.2))
 |.ins _ fs=>oE n fs
 |_=>True
theorem kF.cl{H:Hp}{v:V}{fd:Fd}(h:kF K G O H v fd):nH O.length fd:=by
 cases fd with
 |val a=>exact Den.cl h
 |lst ds=>obtain⟨_,_,_,_,_,_,q⟩:=h;exact q.cl
 |cV j=>obtain⟨_,_,_,_,_,_,_,q⟩:=h;exact q.cl
theorem jV.cl{H:Hp}:∀{ws:aq (ba×V)} {fs:aq (ba×Fd)},jV K G O H ws fs->oE O.length fs
 |[],[],_=>trivial
 |(_,_)::_,(_,_)::_,h=>⟨h.2.1.cl,h.2.2.cl⟩
 |[],_::_,h=>h.elim
 |_::_,[],h=>h.elim
theorem tO.cl{H:Hp}{a:az}{c:Cell}(h:tO K G O H a c):GI O.length c:=by
 cases c with
 |lst ds=>obtain⟨_,_,_,q⟩:=h;exact q.cl
 |cV j=>obtain⟨_,_,_,_,q⟩:=h;exact q.cl
 |ins cls fs=>obtain⟨_,_,_,_,_,_,q⟩:=h;exact q.cl
 |tab x pos qual=>trivial
 |dead=>trivial
theorem kF.cut{H:Hp}{O':aq az}{n:a6}{v:V}{fd:Fd}(h:kF K G O' H v fd)(e:∀k,k<n->O[k]?=O'[k]?)(hi:∀b,b∉O'->b∉O)(c:nH n fd):kF K G O H v fd:=by
 cases fd with
 |val a=>exact Den.cut e h c
 |lst ds=>obtain⟨b,xs,h1,h2,z,q,j⟩:=h;exact⟨b,xs,h1,h2,hi b z,q,j.cut e c⟩
 |cV B=>obtain⟨b,ws,h1,h2,z,q,j,N⟩:=h;exact⟨b,ws,h1,h2,hi b z,q,j,N.cut e c⟩
theorem jV.cut{H:Hp}{O':aq az}{n:a6}(e:∀k,k<n->O[k]?=O'[k]?)(hi:∀b,b∉O'->b∉O):∀{ws:aq (ba×V)} {fs:aq (ba×Fd)},jV K G O' H ws fs->oE n fs->jV K G O H ws fs
 |[],[],_,_=>trivial
 |(_,_)::_,(_,_)::_,h,c=>⟨h.1,h.2.1.cut e hi c.1,jV.cut e hi h.2.2 c.2⟩
 |[],_::_,h,_=>h.elim
 |_::_,[],h,_=>h.elim
theorem tO.cut{H:Hp}{O':aq az}{n:a6}{a:az}{c:Cell}(h:tO K G O' H a c)(e:∀k,k<n->O[k]?=O'[k]?)(hi:∀b,b∉O'->b∉O)(j:GI n c):tO K G O H a c:=by
 cases c with
 |lst ds=>obtain⟨g,xs,h1,h2⟩:=h;exact⟨g,xs,h1,h2.cut e j⟩
 |cV q=>obtain⟨g,ws,h1,h2,z⟩:=h;exact⟨g,ws,h1,h2,z.cut e j⟩
 |ins cls fs=>obtain⟨g,C,B,ws,h0,h1,h2⟩:=h;exact⟨g,C,B,ws,h0,h1,h2.cut e hi j⟩
 |tab x pos qual=>exact h
 |dead=>trivial
theorem Ext.cut{G':Hp}{O':aq az}(e:Ext G O G' O'):∀k,k<O.length->O[k]?=O'[k]?:=λk j=>by
 rw[fF j,e.pre k _ (fF j)]
theorem Wd.cut{G' H H':Hp}{O':aq az}{Z Z':aH}(w:Wd K G O Z H)(U:Wd K G' O' Z' H')(e:Ext G O G' O')(p:Z'.take Z.length=Z):Wd K G' O Z H' where
 sub:=U.sub
 inj:=w.inj
 len:=w.len
 live:=λa f=>by
  obtain⟨k,j,o⟩:=CA f;exact U.live a (mJ (e.pre k a (by rw[<-o];exact fF j)))
 aE:=λk c a h1 h2=>by
  have j:k<Z.length:=(cY.mp h1).1;have v:Z'[k]?=ao c:=by
   rw[<-p,KD]at h1;rw[a9 j]at h1;exact h1
  have q:=U.aE k c a v (e.pre k a h2);have d:=w.aE k c a h1 h2;cases c with
  |lst ds =>
   obtain⟨g,xs,N,B⟩:=q;obtain⟨_,_,_,m⟩:=d;exact⟨g,xs,N,B.cut e.cut m.cl⟩
  |cV r =>
   obtain⟨g,ws,N,B,m⟩:=q;obtain⟨_,_,_,_,l⟩:=d;exact⟨g,ws,N,B,m.cut e.cut l.cl⟩
  |ins cls fs =>
   obtain⟨g,C,u,ws,h0,N,B⟩:=q;obtain⟨_,_,_,_,_,_,l⟩:=d;exact⟨g,C,u,ws,h0,N,B.cut (n:=O.length) e.cut (λb hb z=>hb (by
    obtain⟨k,j,o⟩:=CA z;exact mJ (e.pre k b (by rw[<-o];exact fF j)))) l.cl⟩
  |tab x pos qual=>exact q
  |dead=>trivial
 sep:=λb k i s t h1 h2=>by
  have back:∀{k i},jU H' O Z k i b->jU H' O' Z' k i b:=λ{k i} h=>h.to (λa f=>⟨e.pre k a f,λ_ z=>z⟩) λcls fs q=>by
   have j:k<Z.length:=(cY.mp q).1;rw[<-p,KD,a9 j]at q;exact q
  exact U.sep b k i s t (back h1) (back h2)
end
open Classical in
noncomputable def trim(Z:aH):aw (Rs A×aH)->aw (Rs A×aH)
 |some (.ok a,Z')=>if Z'.take Z.length=Z/\Cl Z.length a then ao (.ok a,Z)else ao (.ok a,Z')
 |some (.exc x,Z')=>if Z'.take Z.length=Z/\fK Z.length (x.fs.map (·.2))then ao (.exc x,Z)else ao (.exc x,Z')
 |none=>au
theorem ag9{K:bj}{W:WX}{G H:Hp}{O:aq az}{Z:aH}{J:L2.St}{Q:VK}{r:aw (Rs A×aH)}(w:Wd K G O Z H)(h:bD K (Den K) W G O J Q (trim Z r)):bD K (Den K) W G O J Q r:=by
 match r,h with
 |some (.ok a,B),h =>
  simp only[trim]at h;split at h
  ·rename_i j;exact λv U b z e N d=>h v U b O ⟨e.same,λ_ _ q=>q⟩ (w.cut N e j.1) (d.cut e.cut (by rw[w.len];exact j.2))
  ·exact h
 |some (.exc x,B),h =>
  simp only[trim]at h;split at h
  ·rename_i j;intro cls c U b z e N d;refine h cls c U b O ⟨e.same,λ_ _ q=>q⟩ (w.cut N e j.1) d
  ·exact h
@[simp] def iI:OS->aw (Rs A×aH)
 |some (.nx,_,Z)=>ao (.ok .aV,Z)
 |some (.ret a,_,Z)=>ao (.ok a,Z)
 |some (.exc x,_,Z)=>ao (.exc x,Z)
 |_=>au
@[simp] noncomputable def OV(n:a6)(ds:aq A):Ev:=ds.map ao++List.replicate (n-ds.length) au
@[simp] noncomputable def dP(n:a6)(b:MS):aq A->Mo A:=λds Z=>trim Z (iI (b (OV n ds) Z))
def vB(K:bj)(n:a6)(F:aq A->Mo A):Sp:=λvs H Q E=>vs.length=n/\∃G O Z ds,Wd K G O Z H/\aU K G O vs ds/\bD K (Den K) (λ_=>E) G O [] Q (F ds Z)
abbrev cO(P:bh)(w:bw)(K:bj)(mg:ba->aw av)(base:bz)(x:ba)(k:a6)(ps:aq ba)(F:aq A->Mo A):Prop:=RL P w K mg base x k ps (vB K ps.length F)
theorem aBT{K:bj}{G:Hp}{O:aq az}{N:aq ba}{vs:aq V}{ds:aq A}(d:aU K G O vs ds):gV K G O (L2.start N vs) (OV N.length ds):=by
 unfold L2.start OV;have hl:=d.length;refine⟨by simp[hl],λi a h=>?_⟩
 by_cases hi:i<ds.length
 ·rw[iD (by simpa using hi)]at h;rw[jH]at h;cases e:ds[i]? with
  |none=>rw[e]at h;cases h
  |some z =>
   rw[e]at h;cases h;obtain⟨v,q,j⟩:=d.get e;refine⟨v,?_,j⟩;rw[iD (by simp;omega),jH,q];rfl
 ·rw[pY (by simpa using hi)]at h;have:=mJ h;simp at this
theorem JK{K:bj}{N:aq ba}{t:TS}{b:MS}{H:Hp}{vs:aq V}{Q:VK}{E:XK}{n:a6}(s:rR K (λ_=>E) t b)(h:vB K n (dP N.length b) vs H Q E):t {nx:=λ_ H'=>Q .aV H',rt:=Q} (L2.start N vs) H:=by
 obtain⟨hl,G,l,i,ds,w,d,q⟩:=h;refine s G l i H _ (OV N.length ds) _ w (aBT d) ?_;have j:=ag9 w q
 revert j
 generalize b (OV N.length ds) i=r;intro j
 match r,j with
 |some (.nx,B,U),j=>exact λc H' g z e f k=>j .aV H' g z e f (by simp only[Den])
 |some (.ret a,B,U),j=>exact λc H' g z e f k v d'=>j v H' g z e f d'
 |some (.exc x,B,U),j=>exact λc H' g z e f k cls m d'=>j cls m H' g z e f d'
 |some (.bk,B,U),j=>exact False.elim j
 |some (.ct,B,U),j=>exact False.elim j
section
variable{P:bh}{w:bw}{K:bj}{mg:ba->aw av}{base:bz}
theorem aaX{x:ba}{st:b8}{N ps:aq ba}{k:a6}{b:MS}{f:az}{fd:c3}(F:wJ K x x st f fd)(S:dN N ps (aZ st))
  (U:∀(f:az) (j:av) (A:bu) (outer:aq Env) (s:ay) (H:Hp) (E:XK),cK k (A.deeper (c8 x (aZ st) s.heap.objs.size f j)) ->
   iC (oV P w K mg base N x (aZ st) f j A outer s H E) (λ_=>E) (eL st) b):jA P w K mg base (qV P w) (k+1) f fd ps (vB K ps.length (dP N.length b)):=by
 obtain⟨g,e,kV,doc,d,l,j,ct,i,rfl,B,c⟩:=F.ex;refine WR B c S (λz H Q E h=>h.1) λA outer s H z Q E hr a=>?_;obtain⟨t,p,q⟩:=U f j A outer s H E hr;exact⟨t,NA p,JK q a⟩
theorem cO.of{x:ba}{st:b8}{N ps:aq ba}{k:a6}{b:MS}(h:HasFn K mg x st)(S:dN N ps (aZ st))
  (bind:∀(kV doc pm:av) (an:aw az) (j ct:av) (us:aq av),us.length=ps.length->dk (e9 x x (jO st) (eL st) (aZ st) .none kV doc pm an j ct) ⟨us,[]⟩=pure (ps.zip us))
  (q:∀(f:az) (j:av) (A:bu) (outer:aq Env) (s:ay) (H:Hp) (E:XK),cK k (A.deeper (c8 x (aZ st) s.heap.objs.size f j)) ->
   iC (oV P w K mg base N x (aZ st) f j A outer s H E) (λ_=>E) (eL st) b):cO P w K mg base x (k+1) ps (dP N.length b):=by
 obtain⟨f,fd,hm,F⟩:=h.ex;exact⟨f,fd,aaX F S q,hm,F.kp,F.binds bind⟩
abbrev KQ(P:bh)(w:bw)(K:bj)(mg:ba->aw av)(base:bz)(x:ba)(k:a6)(ps:aq ba)(F:aq A->Mo A):Prop:=Def P w K mg base x k ps (λvs H Q _=>vB K ps.length F vs H Q λ_ _ _=>cp)
theorem Kh{k:a6}{f:az}{fd:c3}{ps:aq ba}{sp:Sp}(F:jA P w K mg base (qV P w) k f fd ps sp):jA P w K mg base yE k f fd ps (λvs H Q _=>sp vs H Q λ_ _ _=>cp) :=
 ⟨λvs H Q E h=>F.len _ _ _ _ h,λA outer s H args z vs Q E hr N hb r B=>uJ (F.run A outer s H args z vs Q _ hr N hb r B) λr s' j=>by
  cases r with
  |error U=>obtain⟨x,cls,a,b,_,_,_,_,_,_,q⟩:=j;exact q.elim
  | ok fl=>cases fl <;> exact j⟩
theorem cO.calm{x:ba}{k:a6}{ps:aq ba}{F:aq A->Mo A}(D:cO P w K mg base x k ps F):KQ P w K mg base x k ps F:=by
 obtain⟨f,fd,h1,h2,q,j⟩:=D.ex;exact⟨f,fd,Kh h1,h2,q,j⟩
end
section
variable{X:Cx}{W:WX}{x:ba}{p pos:dn}{e:bx}{es:aq bx}{fs:Ev->Mo (aq A)}
@[simp] def bI(n:a6)(F:aq A->Mo A):aq A->Mo A:=λas=>if as.length=n then F as else stuck
theorem ab6{K:bj}{G c:Hp}{O q:aq az}{J:L2.St}{Q:VK}{r:aw (Rs A×aH)}{W:WX}(h:bD K (Den K) W G O J Q r)(b:Ext G O c q):bD K (Den K) (λ_=>λcls dx H'=>W J cls dx H') c q [] Q r:=by
 match r,h with
 |some (.ok a,z),h=>exact λv H' U j B w2 N=>h v H' U j (b.trans B) w2 N
 |some (.exc a,z),h=>exact λcls dx H' U j B w2 N=>h cls dx H' U j (b.trans B) w2 N
theorem fH{k:a6}{ps:aq ba}{F:aq A->Mo A}(T:pU X W)(D:cO X.prog X.w X.K X.mg X.base x k ps F)(hr:cK k X.A)(c:Gl X x)(d:VA X W (e::es) fs)
  (f:(x==("__debug__" : ba))=ax:=by decide) (he:bg (e::es) X.env=(ax,cj e X.env)::bg es X.env:=by rfl) (g:(cz pos (bg es X.env)).any (·.1)=ax:=by rfl):VE X W (.Call (.Name x p) (e::es) [] pos) (aQ (bI ps.length F) fs):=by
 obtain⟨t,b,a⟩:=d;refine⟨_,aoX T D hr c b f he g,λG N U H J B Q w r h=>?_⟩;refine a G N U H J B _ w r (bD.mb h λi q n o l j m w1 z h1=>?_);unfold bI at h1;split at h1
 ·rename_i hl;exact⟨by rw[z.length];exact hl,l,j,q,i,w1,z,ab6 h1 (Ext.refl _ _)⟩
 ·exact False.elim h1
@[simp] noncomputable def AQ(F:aq A->Mo A):aq A->Mo A:=λas Z=>match F as Z with
 |some (.exc _,_)=>au
 |r=>r
theorem agD{k:a6}{ps:aq ba}{F:aq A->Mo A}(D:KQ X.prog X.w X.K X.mg X.base x k ps F)(hr:cK k X.A)(i:Gl X x)(l:VA X W (e::es) fs)
  (m:(x==("__debug__" : ba))=ax:=by decide) (he:bg (e::es) X.env=(ax,cj e X.env)::bg es X.env:=by rfl) (n:(cz pos (bg es X.env)).any (·.1)=ax:=by rfl):VE X W (.Call (.Name x p) (e::es) [] pos) (aQ (AQ (bI ps.length F)) fs):=by
 obtain⟨t,g,d⟩:=l;refine⟨_,aoY D hr i g m he n,λG U c H J N Q w r h=>?_⟩;refine d G U c H J N _ w r (bD.mb h λz j u v o q s w1 B h1=>?_);unfold AQ bI at h1;rw[rW]
 by_cases hl:z.length=ps.length
 ·rw[a9 hl]at h1;refine⟨by rw[B.length];exact hl,o,q,j,z,w1,B,?_⟩
  revert h1
  generalize F z j=f;intro h1
  match f,h1 with
  |some (.ok a,b),h1=>exact h1
 ·rw[bb hl]at h1;exact False.elim h1
abbrev cI(i:a4):Ev->Mo A:=λ_=>ret (.int i)
abbrev cB(i:br):Ev->Mo A:=λ_=>ret (.bl i)
abbrev cS(i:ba):Ev->Mo A:=λ_=>ret (.str i)
abbrev cN:Ev->Mo A:=λ_=>ret .aV
abbrev cT(n:c4):Ev->Mo A:=λ_=>ret (.ty n)
abbrev a0:Ev->Mo (aq A):=λ_=>ret []
abbrev sJ:Ev->Mo (aw a4):=λ_=>ret au
end
end V2
namespace V2
open PySem L2
section
variable{α β:Type}{Z Z':aH}{a:A}
@[simp] theorem aJG(x:α)(k:α->Mo β):mb (ret x) k=k x:=rfl
theorem bO{m:Mo α}{k:α->Mo β}{x:α}(h:m Z=ao (.ok x,Z')):mb m k Z=k x Z':=by unfold mb;rw[h]
@[simp] theorem aJH(x:α)(k:α->Mo β):mb (need (ao x)) k=k x:=rfl
theorem HW{p:Prop} [c5 p](k:Unit->Mo β)(h:p):mb (nF p) k=k ():=by funext j;simp[mb,nF,h]
@[simp] theorem aI4(x:α):(ret x:Mo α) Z=ao (.ok x,Z):=rfl
@[simp] theorem wR:trim Z (ao (.ok a,Z))=ao (.ok a,Z):=by simp only[trim];split <;> rfl
theorem LL{j:aH}(h:Cl Z.length a):trim Z (ao (.ok a,Z++j))=ao (.ok a,Z):=by
 simp only[trim];rw[a9 ⟨by simp,h⟩]
@[simp] theorem aI3(x:α)(Y:Ev)(k:α->aH->OS):sM (ret x) Y k=k x:=rfl
theorem gO{m:Mo α}{Y:Ev}{k:α->aH->OS}{x:α}(h:m Z=ao (.ok x,Z')):sM m Y k Z=k x Z':=by unfold sM;rw[h]
@[simp] theorem tX(Y:Ev):iI (ao (.ret a,Y,Z))=ao (.ok a,Z):=rfl
@[simp] theorem TZ(Y:Ev):iI (ao (.nx,Y,Z))=ao (.ok .aV,Z):=rfl
theorem bY{f g:MS}{Y Y1:Ev}(h:f Y Z=ao (.nx,Y1,Z')):aX f g Y Z=g Y1 Z':=by unfold aX;rw[h]
theorem akH{f g:MS}{Y Y1:Ev}(h:f Y Z=ao (.ret a,Y1,Z')):aX f g Y Z=ao (.ret a,Y1,Z'):=by unfold aX;rw[h]
theorem vZ{α:Type}(xs:aq α)(n:a6):fU xs (n:a4)=xs[n]?:=by
 unfold fU yV;rw[a9 (by omega)]
 by_cases h:(n:a4)<xs.length
 ·rw[a9 h];simp
 ·rw[bb h];simp;omega
theorem Lp{α:Type}(xs:aq α)(n:a6):fU xs (OfNat.ofNat n:a4)=xs[n]?:=vZ xs n
theorem YD{α:Type}(xs:aq α):fU xs 0=xs[0]?:=vZ xs 0
theorem Lo{α:Type}(xs:aq α):fU xs 1=xs[1]?:=vZ xs 1
end
@[simp] theorem aIP:yW "int" "int" = ao a5:=by simp[yW]
@[simp] theorem aIQ:yW "int" "bool" = ao ax:=by simp[yW]
@[simp] theorem aIO:yW "tuple" "tuple" = ao a5:=by simp[yW]
@[simp] theorem aJK(Z:aH)(ds:aq A):dU Z (.lst ds)=ao ds:=rfl
@[simp] theorem aJJ(Z:aH)(ns:aq a4):dU Z (.gG ns)=ao (ns.map A.int):=rfl
@[simp] theorem aJI(Z:aH)(ds:aq A):dU Z (.tup ds)=au:=rfl
@[simp] theorem aJL(Z:aH)(i:a4):dU Z (.int i)=au:=rfl
@[simp] theorem aI1(Z:aH)(ds:aq A):fX Z (.lst ds)=ao ds:=rfl
@[simp] theorem aI0(Z:aH)(ns:aq a4):fX Z (.gG ns)=ao (ns.map A.int):=rfl
@[simp] theorem aIZ(Z:aH)(ds:aq A):fX Z (.tup ds)=ao ds:=rfl
@[simp] theorem aI2(Z:aH)(k:a6):fX Z (.aE k)=dU Z (.aE k):=rfl
@[simp] theorem aIV(Z:aH)(i:a4):pB Z (.int i)=ao "int":=rfl
@[simp] theorem aIW(Z:aH)(i:br):pB Z (.bl i)=ao "bool":=rfl
@[simp] theorem aIS(Z:aH)(i:ba):pB Z (.str i)=ao "str":=rfl
@[simp] theorem aIT(Z:aH):pB Z .aV=ao "NoneType":=rfl
@[simp] theorem aIR(Z:aH)(ds:aq A):pB Z (.tup ds)=ao "tuple":=rfl
@[simp] theorem aIU(Z:aH)(ds:aq A):pB Z (.lst ds)=ao "list":=rfl
@[simp] theorem aJR:yX .aV=ao a5:=rfl
@[simp] theorem aJT(i:a4):yX (.int i)=ao ax:=rfl
@[simp] theorem aJQ(ds:aq A):yX (.tup ds)=ao ax:=rfl
@[simp] theorem aJS(ds:aq A):yX (.lst ds)=ao ax:=rfl
@[simp] theorem aJU(b:br):yX (.bl b)=ao ax:=rfl
theorem kX{Z:aH}{k:a6}{ds:aq A}(h:Z[k]?=ao (.lst ds)):dU Z (.aE k)=ao ds:=by simp[dU,h]
theorem zM{Z:aH}{k:a6}{ds:aq A}(h:Z[k]?=ao (.lst ds)):qR Z (.aE k)=ao (k,ds):=by simp[qR,h]
theorem yY{Z:aH}{a:A}{ds:aq A}(h:dU Z a=ao ds):vM Z a:=⟨ds,h⟩
section
variable{ok:aH->Prop}{g:A->MS}{b:MS}{x:A}{xs:aq A}{Y Y0 Y1:Ev}{Z Z0 Z1:aH}{a:A}
theorem xO(h:ok Z):fD ok g b [] Y Z=ao (.nx,Y,Z):=by simp[fD,h]
theorem nX(h:ok Z)(j:g x Y Z=ao (.nx,Y0,Z0))(hb:b Y0 Z0=ao (.nx,Y1,Z1)):fD ok g b (x::xs) Y Z=fD ok g b xs Y1 Z1:=by simp[fD,h,j,hb]
theorem aBJ(h:ok Z)(j:g x Y Z=ao (.nx,Y0,Z0))(hb:b Y0 Z0=ao (.ct,Y1,Z1)):fD ok g b (x::xs) Y Z=fD ok g b xs Y1 Z1:=by simp[fD,h,j,hb]
theorem Jm(I:a6->Ev->aH->Prop)(aK:∀i Y Z,I i Y Z->ok Z):∀(xs:aq A) (j:a6) (Y:Ev) (Z:aH),I j Y Z ->
  (∀i x Y Z,xs[i]?=ao x->I (j+i) Y Z->∃Y0 Z0 Y1 Z1,g x Y Z=ao (.nx,Y0,Z0)/\(b Y0 Z0=ao (.nx,Y1,Z1)\/b Y0 Z0=ao (.ct,Y1,Z1))/\I (j+i+1) Y1 Z1) ->
  ∃q Z',fD ok g b xs Y Z=ao (.nx,q,Z')/\I (j+xs.length) q Z'
 |[],j,Y,Z,z,_=>⟨Y,Z,xO (aK _ _ _ z),z⟩
 |x::xs,j,Y,Z,z,turn=>by
  obtain⟨Y0,Z0,Y1,Z1,U,B,e⟩:=turn 0 x Y Z rfl z;obtain⟨q,Z',N,a⟩:=Jm I aK xs (j+1) Y1 Z1 e λi y Y Z c d=>by
   have:=turn (i+1) y Y Z (by simpa using c) (by rw[show j+(i+1)=j+1+i by omega];exact d);rwa[show j+(i+1)+1=j+1+i+1 by omega]at this
  refine⟨q,Z',?_,by rw[iZ,show j+(xs.length+1)=j+1+xs.length by omega];exact a⟩
  rcases B with B|B
  ·rw[nX (aK _ _ _ z) U B,N]
  ·rw[aBJ (aK _ _ _ z) U B,N]
end
section
variable{c:Ev->Mo br}{b:MS}{n:a6}{Y Y1:Ev}{Z Z1 Z2:aH}{a:A}
theorem aaZ(j:c Y Z=ao (.ok a5,Z1))(hb:b Y Z1=ao (.nx,Y1,Z2)):qP c b (n+1) Y Z=qP c b n Y1 Z2:=by simp[qP,j,hb]
theorem aa0(j:c Y Z=ao (.ok ax,Z1)):qP c b (n+1) Y Z=ao (.nx,Y,Z1):=by simp[qP,j]
end
open PySem PySem.Spec PyProof.Rows L2
def YZ(K:bj)(a:az):It :=
 ⟨λi H=>∃xs x,fO K H a xs/\xs[i]?=ao x,λi H x H'=>∃p y,H p=au/\H'=upd H p (.tup [.int (i:a4),y])/\x=.ref p/\∀xs,fO K H a xs->xs[i]?=ao y,λi H=>∃xs,fO K H a xs/\xs.length<=i⟩
section
variable{X:Cx}{aa:aq (az×c6)}{J:L2.St}{H:Hp}{s:ay}{h':bz}
theorem Inv.agX{t':a6}{e it:az}(I:Inv X aa J H s)(k:∀b o,b≠e->b≠it->s.heap.get? b=ao o->h'.get? b=ao o)(fe:rX X aa H e)(a:rX X aa H it):Inv X aa J H {s with heap:=h',toks:=t' }:=by
 obtain⟨a0,a1,a2,t,p,l⟩:=fe;obtain⟨i,b1,b2,h,g,f⟩:=a;have ne:∀b u,H b=ao u->b≠e:=λb u q z=>by rw[z,a0]at q;cases q
 have B:∀b u,H b=ao u->b≠it:=λb u q z=>by rw[z,i]at q;cases q
 refine I.step (g':=s.gens) (d':=s.drawn) (ch:=[e,it]) (λb hb=>?_) (λb o _ _ j q _=>k b o (λz=>j (by simp[z])) (λz=>j (by simp[z])) q) (λb o _ _ j q _=>⟨o.slots,k b o (λz=>j (by simp[z])) (λz=>j (by simp[z])) q⟩) (λ_ _ _ _ n=>n)
  (λb o j q=>⟨o,k b o (λz=>j (by simp[z])) (λz=>j (by simp[z])) q⟩) (λ_ _ q=>q) (λ_ _ _ q=>q) (λb w q=>⟨#[],by rw[q];simp⟩) (λm hm=>?_) (λb u q=>?_) I.bare
 ·rcases dY.mp hb with z|z
  ·subst z;exact⟨t,a1,p,l⟩
  ·have z:b=it:=by simpa using z
   subst z;exact⟨h,b1,g,f⟩
 ·obtain⟨o,es,d,U,r⟩:=hm;exact⟨o,es,d,k _ o (cX a1) (cX b1) U,r⟩
 ·refine(I.aK b u q).oJ (λc v j N=>k c v ?_ ?_ N) (λ_ q=>q) λ_ _ q=>q
  ·rcases j with z|z
   ·rw[z];exact ne b u q
   ·exact ne c _ z
  ·rcases j with z|z
   ·rw[z];exact B b u q
   ·exact B c _ z
end
theorem Inv.Rc{X:Cx}{aa:aq (az×c6)}{J:L2.St}{H:Hp}{s:ay}{p:az}{o:HO}(I:Inv X aa J H s)(j:H p=au)(h0:X.s₀.heap.get? p=au)(e:p≠X.env.locals)(f:∀x c,X.env.cells.lookup x=ao c->c≠p)(d:∀q∈X.pn++aa,q.1≠p)
  (aK:fR X.prog X.w (upd H p o) s.heap):Inv X aa J (upd H p o) s where
 ok:=I.ok
 os:=I.os
 bare:=I.bare
 base:={
  keep:=I.base.keep
  slot:=I.base.slot
  free:=λb ob q n U=>by
   have hb:b≠p:=λz=>by subst z;rw[h0]at q;cases q
   rw[bR hb];exact I.base.free b ob q n U
  there:=I.base.there
  nN:=λb xs q=>by have z:=I.base.nN b xs q;rw[bR (jT z j)];exact z
  lP:=λb ob u q=>by have z:=I.base.lP b ob u q;rw[bR (jT z j)];exact z
  mW:=λb N q=>by obtain⟨more,z⟩:=I.base.mW b N q;exact⟨more,by rw[bR (jT z j)];exact z⟩}
 loc:=I.loc
 cell:=I.cell
 free:=by rw[bR (cX e)];exact I.free
 lQ:=λx c q=>by rw[bR (f x c q)];exact I.lQ x c q
 pin:=λq B=>by
  obtain⟨a,b,c⟩:=I.pin q B;exact⟨a,by rw[bR (d q B)];exact b,c⟩
 aK:=aK
 len:=I.len
theorem ag2{P:bh}{w:bw}{K:bj}{elts:aq bx}{S:a6}{T:dn}(a e it:az)(eX:e≠it):Turn P w K (.Tuple elts S T) (YZ K a) [e,it] e (λi h=>(∃old,IsEnum h e it (i:a4) old)/\h.IsListIter it a i)where
 mem:=by simp
 obj:=λi h st b hb=>by
  obtain⟨⟨old,j⟩,o,q,c,d⟩:=st
  rcases dY.mp hb with z|z
  ·subst z;exact⟨_,j,λv z=>by cases z⟩
  ·have z:b=it:=by simpa using z
   subst z;exact⟨o,q,λv z=>by rw[d]at z;cases z⟩
 keep:=λi h h' st k=>⟨let ⟨old,q⟩:=st.1; ⟨old,k e (by simp) _ q⟩,st.2.at λo q=>k it (by simp) o q⟩
 item:=by
  intro X y n A G i aa s J H E I f st t;subst y n A;obtain⟨⟨old,j⟩,N⟩:=st;obtain⟨D,x,U,m⟩:=t;obtain⟨aW,l,p,hz⟩:=I.list U;obtain⟨u,hu,ru⟩:=l.get m;have M:=f e (by simp);have L:=f it (by simp);have Q:e<s.heap.objs.size:=dQ j;have r:it<s.heap.objs.size:=let ⟨_,q,_⟩:=N;dQ q;refine wpAny_pyNext_enum_item j N p.isList (x:=u) (by simpa using hu) eX λh1 e1 i1 W z1 k1=>?_;refine⟨_,rfl,wpAny_letOwnedTupleGo_enum (s:={s with heap:=h1,toks:=s.toks+1}) e1 λh2 e2 s2=>?_⟩;have B:H s.heap.objs.size=au:=I.aK.fresh cJ;have k2:∀b o,b≠e->b≠it->s.heap.get? b=ao o->h2.get? b=ao o:=λb o F n2 q=>s2.extBut b o F (k1 b o F n2 q);have V:h2.get? s.heap.objs.size=ao {cls:=.type "tuple",data:=.seq #[.int (i:a4) s.toks,u]}:=s2.extBut _ _ (JT Q) W;have R:Inv X aa J H {s with heap:=h2,toks:=s.toks+1}:=Inv.agX (t':=s.toks+1) I k2 M L;have i2:h2.IsListIter it a (i+1):=i1.extBut s2.extBut (cX eX);have aK:fR X.prog X.w (upd H s.heap.objs.size (.tup [.int (i:a4),x])) h2:=by
   refine λb o q=>?_
   by_cases g:b=s.heap.objs.size
   ·subst g;rw[eZ]at q;cases q;exact⟨by show 2<=bf;decide,[.int (i:a4) s.toks,u],.cons ⟨_,rfl⟩ (.cons ru .nil),⟨_,V,rfl,_,rfl⟩⟩
   ·rw[bR g]at q;exact(R.aK b o q).oJ (λc v _ z=>z) (λc z=>by rw[bR (jT z B)];exact z) λc D z=>by rw[bR (jT z B)];exact z
  have C:rX X aa H s.heap.objs.size:=I.xM cJ B;have h0:X.s₀.heap.get? s.heap.objs.size=au:=by
   cases q:X.s₀.heap.get? s.heap.objs.size with
   |none=>rfl
   |some ob=>exact b7 (lH (dQ q) I.sz) (Nat.lt_irrefl _)
  have I2:Inv X aa J (upd H s.heap.objs.size (.tup [.int (i:a4),x])) {s with heap:=h2,toks:=s.toks+1}:=Inv.Rc R B h0 C.2.1 C.2.2.2.2.1 C.2.2.2.2.2 aK;refine⟨.ref s.heap.objs.size,_,I2,rfl,⟨_,x,B,rfl,rfl,λys hy=>by rw[I.Wr hy U];exact m⟩,⟨⟨_,e2⟩,i2⟩,λb hb=>?_⟩
  rcases dY.mp hb with z|z
  ·subst z;rw[bR (fW Q)];exact M.1
  ·have z:b=it:=by simpa using z
   subst z;rw[bR (fW r)];exact L.1
 done:=by
  intro X y n A G i aa s J H E I f st t;subst y n A;obtain⟨⟨old,j⟩,N⟩:=st;obtain⟨D,U,m⟩:=t;obtain⟨aW,l,p,hz⟩:=I.list U;obtain⟨f0,f1,f2,f3,f4,f5⟩:=f it (by simp);have hl:=l.length;exact wpAny_pyNext_enum_end (I.ok.hd G) j N p.isList (by simp;omega) λh' g=>⟨rfl,I.turned (t':=s.toks) (λb o hb e=>g b o hb e) f0 f1 f3 f4 f5⟩
 self:=λ_ _ _ _ _ st h=>let ⟨_,q⟩:=st.1;wpAny_pyIter_enum q h
section
variable{X:Cx}{W:WX}{pos:dn}
theorem an3{elts:aq bx}{e:a6}{f p:dn}{l:bx}{tl:TE}(n:Gl X "enumerate")(hm:X.mg "enumerate" = au)(hl:PE X l tl)(c:bg [l] X.env=[(ax,cj l X.env)]:=by rfl) :
  PI X (.Tuple elts e f) (.Call (.Name "enumerate" p) [l] [] pos) (λJ H R=>tl J H λx H1=>∃a,x=.ref a/\(∃xs,fO X.K H1 a xs)/\R (YZ X.K a) H1):=by
 intro aa s J H R I h;refine CV (HZ I n hm boot_enumerate ?_);refine Ma (bC (HN hl LZ c pos aa s J H (λN H1=>match N with
  |[x]=>∃a,x=V.ref a/\(∃xs,fO X.K H1 a xs)/\R (YZ X.K a) H1
  | _=>cp) I h) λv j ⟨N,H1,B,r1,U⟩=>?_) c rfl
 match N,U with
 |[x],U =>
 obtain⟨a,r,⟨xs,k⟩,q⟩:=U;obtain⟨u,rfl,g⟩:=vals1 r1;subst r;cases g;obtain⟨A,w,pl,y⟩:=B.list k;refine call_enumerate_list pl.isList λh' d o i m=>?_;refine wpAny_pyIter_enum (s:={j with heap:=h' }) d ?_;have t:Inv X aa J H1 {j with heap:=h' }:=B.kept (t':=j.toks) m;refine⟨_,[j.heap.objs.size+1,j.heap.objs.size],_,_,H1,rfl,t,ag2 a _ _ (Nat.succ_ne_self _),⟨⟨.none,d⟩,o⟩,λb hb=>?_,q⟩
 rcases dY.mp hb with z|z
 ·subst z;exact B.xM (FJ _) (B.aK.fresh (FJ _))
 ·have z:b=j.heap.objs.size:=by simpa using z
  subst z;exact B.xM cJ (B.aK.fresh cJ)
noncomputable def pQ:a6->aq A->aq A
 |_,[]=>[]
 |n,x::xs => .tup [.int (n:a4),x]::pQ (n+1) xs
theorem Jp:∀(n:a6) (xs:aq A),(pQ n xs).length=xs.length
 |_,[]=>rfl
 |n,x::xs=>by simp only[pQ,iZ,Jp (n+1) xs]
theorem abA:∀(n i:a6) (xs:aq A),(pQ n xs)[i]?=xs[i]?.map λx => .tup [.int ((n+i:a6):a4),x]
 |_,_,[]=>by simp[pQ]
 |n,0,x::xs=>by simp[pQ]
 |n,i+1,x::xs=>by
  simp only[pQ,Mt];rw[abA (n+1) i xs];have e:n+1+i=n+(i+1):=by omega
  rw[e]
def enumSrc(a:A)(ds:aq A):Src:=⟨pQ 0 ds,λZ=>dU Z a=ao ds⟩
@[simp] def Ao(f:Ev->Mo A):Ev->Mo Src:=λY=>mb (f Y) λa Z=>match dU Z a with
 |some ds=>ao (.ok (enumSrc a ds),Z)
 |none=>au
theorem au4{K:bj}{G:Hp}{O:aq az}{p:az}{a:A}{ds:aq A}(d:Den K G O (.ref p) a):FW K G O (YZ K p) (enumSrc a ds):=by
 have key:∀U j B b,Ext G O U j->Wd K U j B b->dU B a=ao ds->∃N,fO K b p N/\aU K U j N ds:=λU j B b e w h=>by
  obtain⟨q,N,h1,h2,c⟩:=xB w (d.ext e) h;cases h1;exact⟨N,h2,c⟩
 refine⟨λU j B b e w h i hi=>?_,λU j B b e w h i hi=>?_,λU j B b e w h i x t y m hd=>?_⟩
 ·obtain⟨N,h2,c⟩:=key U j B b e w h;have hl:i<N.length:=by rw[c.length,<-Jp 0 ds];exact hi
  exact⟨N,N[i],h2,fF hl⟩
 ·obtain⟨N,h2,c⟩:=key U j B b e w h;exact⟨N,h2,by rw[c.length,<-Jp 0 ds];exact hi⟩
 ·obtain⟨N,h2,c⟩:=key U j B b e w h;obtain⟨q,z,g,r,o,n⟩:=hd;subst r o;have f:(pQ 0 ds)[i]?=ao y:=m;rw[abA]at f;cases ed:ds[i]? with
  |none=>rw[ed]at f;cases f
  |some d' =>
   rw[ed]at f;cases f;obtain⟨s,k,l⟩:=c.get ed;rw[n N h2]at k;cases k;refine⟨upd U q (.tup [.int (i:a4),z]),Ext.new (w.oQ g) _,w.new g _,?_⟩;simp only[Den];exact⟨q,_,rfl,eZ,.cons (by simp only[Den,xU]) (.cons (l.ext (Ext.new (w.oQ g) _)) .nil)⟩
theorem Qf{elts:aq bx}{B:a6}{f p:dn}{l:bx}{fe:Ev->Mo A}(i:Gl X "enumerate")(hm:X.mg "enumerate" = au)(h:VE X W l fe)(g:bg [l] X.env=[(ax,cj l X.env)]:=by rfl) :
  VI X W (.Tuple elts B f) (.Call (.Name "enumerate" p) [l] [] pos) (Ao fe):=by
 obtain⟨t,p,s⟩:=h;refine⟨_,an3 i hm p g,λG b c H J U R w r h=>?_⟩;refine s G b c H J U _ w r (bD.mb h λa z v m n j B w1 N h1=>?_);cases e:dU z a with
 |none=>simp only[e]at h1;exact False.elim h1
 |some ds =>
  simp only[e]at h1;obtain⟨q,d,h2,k,o⟩:=xB w1 N e;subst h2;exact⟨q,rfl,⟨d,k⟩,h1 _ m n j (Ext.refl _ _) w1 (au4 N)⟩
theorem afR{st:b8}:VS X W st (λ_ _=>au):=⟨_,am8,λ_ _ _ _ _ _ _ _ _ h=>h.elim⟩
end
noncomputable def nT(n:a6)(js:aq a6)(Y:Ev):Ev:=List.replicate n au++js.map (λj=>(Y[j]?).join)
def FC(X:Cx)(W:WX)(ifs:aq bx)(f:Ev->Mo br):Prop:=∃t,FG X ifs t/\fP X.K DG W t f
abbrev sC:Ev->Mo br:=λ_=>ret a5
theorem yJ{X:Cx}{W:WX}:FC X W [] sC:=⟨_,anU,λ_ _ _ _ _ _ _ w _ q=>iS w rfl q⟩
theorem afU{X:Cx}{W:WX}{c:bx}{f:Ev->Mo br}(h:VT X W c f):FC X W [c] f:=let ⟨t,p,s⟩:=h; ⟨t,anT p,s⟩
open Classical in
noncomputable def pP(ok:aH->Prop)(g:A->MS)(c:Ev->Mo br)(e:Ev->Mo A)(n:a6):aq A->Ev->aH->aw (Ev×aH)
 |[],Y,Z=>if ok Z then ao (Y,Z)else au
 | x::xs,Y,Z=>if ok Z then(match g x Y Z with
  | some (.nx,Y1,Z1)=>(match c Y1 Z1 with
   | some (.ok a5,Z2)=>(match e Y1 Z2 with
    | some (.ok y,Z3)=>(match Z3[n]? with
     |some (.lst ys)=>if ys.length<bf then pP ok g c e n xs Y1 (Z3.set n (.lst (ys++[y])))else au
     | _=>au)
    | _=>au)
   |some (.ok ax,Z2)=>pP ok g c e n xs Y1 Z2
   | _=>au)
  | _=>au)else au
open Classical in
noncomputable def UO(cf:br)(Z1:aH)(r:aw (Ev×aH)):aw (Rs A×aH):=match r with
 | some (_,Z')=>(match Z'[Z1.length]? with
  |some (.lst ys)=>if cf then ao (.ok (.aE Z1.length),Z')else if Z'.take Z1.length=Z1/\fK Z1.length ys then ao (.ok (.lst ys),Z1)else ao (.ok (.lst ys),Z'.set Z1.length .dead)
  | _=>au)
 |none=>au
noncomputable def mT(j:br)(n:a6)(js:aq a6)(fi:Ev->Mo Src)(g:A->MS)(c:Ev->Mo br)(e:Ev->Mo A):Ev->Mo A:=λY=>mb (fi Y) λS Z1=>UO j Z1 (pP S.ok g c e Z1.length S.ds (nT n js Y) (Z1++[.lst []]))
theorem aBH{ok:aH->Prop}{g:A->MS}{c:Ev->Mo br}{e:Ev->Mo A}{n:a6}{xs:aq A}{Y:Ev}{Z:aH}{r:Ev×aH}(h:pP ok g c e n xs Y Z=ao r):ok Z:=by
 cases xs with
 |nil=>unfold pP at h;by_cases j:ok Z;exact j;rw[bb j]at h;cases h
 |cons=>unfold pP at h;by_cases j:ok Z;exact j;rw[bb j]at h;cases h
theorem asN{K:bj}{G:Hp}{O:aq az}{J:L2.St}{Y:Ev}(q:aq ba)(js:aq a6)(r:gV K G O J Y):gV K G O (AU q js J) (nT q.length js Y):=by
 unfold AU nT;refine⟨by simp,λi d h=>?_⟩
 by_cases hi:i<q.length
 ·rw[iD (by simpa using hi)]at h;rw[List.getElem?_replicate,a9 hi]at h;cases h
 ·rw[pY (by simpa using Mf hi),List.length_replicate,jH]at h;cases e:js[i-q.length]? with
  |none=>rw[e]at h;cases h
  |some j =>
   rw[e]at h;have h':(Y[j]?).join=ao d:=kJ h;obtain⟨v,B,z⟩:=r.2 j d (join_some h');refine⟨v,?_,z⟩;rw[pY (by simpa using Mf hi),jG,jH,e];show ao (J[j]?).join=_;rw[B];rfl
section
variable{K:bj}{W:WX}
theorem Sx{I:aq ba}{js:aq a6}{wi:TI}{tg:TG}{tc:TT}{te:TE}{fi:Ev->Mo Src}{g:A->MS}{c:Ev->Mo br}{e:Ev->Mo A}{cf:br}(W0:WX)(hi:fP K (Di K) W wi fi)(hg:QK K W0 tg g)(hc:fP K DG W0 tc c)(he:fP K (Den K) W0 te e) :
  fP K (Den K) W (SR I js wi tg tc te) (mT cf I.length js fi g c e):=by
 intro G O Z H J Y Q w r h;refine hi G O Z H J Y _ w r (bD.mb h λS a σ H1 u B x1 w1 j1 h1=>?_);intro D hD;unfold UO at h1;cases er:pP S.ok g c e a.length S.ds (nT I.length js Y) (a++[.lst []])with
 |none=>rw[er]at h1;exact False.elim h1
 |some rr =>
 obtain⟨T,X⟩:=rr;rw[er]at h1;simp only at h1;have hw0:Wd K u (B++[D]) (a++[.lst []]) (upd H1 D (.lst [])):=w1.cell hD ⟨w1.oQ hD,[],eZ,.nil⟩;have r0:gV K u (B++[D]) (AU I js J) (nT I.length js Y):=asN I js (r.ext (x1.trans (Ext.cell D)));have hDk:(B++[D])[a.length]?=ao D:=by rw[<-w1.len];simp
 refine⟨λi m p o=>m=S.ds.length-i/\i<=S.ds.length/\∃f j N d,Ext u (B++[D]) f j/\Wd K f j N o/\gV K f j p d/\pP S.ok g c e a.length (S.ds.drop i) d N=ao (T,X),
  ⟨_,rfl,BR _,u,_,_,_,Ext.refl _ _,hw0,r0,by simpa using er⟩,?_⟩
 rintro i m p o ⟨rfl,hil,f,j,N,d,e',E,r',h'⟩;have aK:=aBH h';have M:Ext u B f j:=(Ext.cell D).trans e'
 by_cases cM:i<S.ds.length
 ·right
  refine⟨j1.go f j N o M E aK i cM,λR H2=>∃G2 t Z2 V,Ext u (B++[D]) G2 t/\Wd K G2 t Z2 H2/\gV K G2 t R V/\pP S.ok g c e a.length (S.ds.drop (i+1)) V Z2=ao (T,X),λR H2 n=>?_,λx H2 y=>?_⟩
  ·exact⟨S.ds.length-(i+1),by omega,rfl,cM,n⟩
  ·obtain⟨G2,e2,w2,d2⟩:=j1.CP f j N o M E aK i x H2 S.ds[i] (fF cM) y;rw[QW cM]at h';unfold pP at h';rw[a9 aK]at h';refine hg G2 j N H2 p d x S.ds[i] ⟨_,λ_ _=>cp,λ_ _=>cp,λ_ _=>cp⟩ w2 (r'.ext e2) d2 ?_
   revert h'
   generalize g S.ds[i] d N=q;intro h';split at h'
   ·rename_i U Z3;intro P H3 G3 O3 x3 w3 r3;refine hc G3 O3 Z3 H3 P U _ w3 r3 ?_
    revert h'
    generalize c U Z3=F;intro h';split at h'
    ·rename_i k;intro b H4 G4 s C w4 hb;cases(show b=a5 from hb);rw[a9 rfl];refine he G4 s k H4 P U _ w4 (r3.ext C) ?_
     revert h'
     generalize e U k=q3;intro h';split at h'
     ·rename_i z Z5;intro v H5 G5 O5 x5 w5 d5;split at h'
      ·rename_i ys ey;split at h'
       ·rename_i hl;have eD:=(((e'.trans e2).trans x3).trans C).trans x5;have L:=eD.pre _ _ hDk;obtain⟨l,xs,q1,F⟩:=w5.aE _ _ D ey L;refine⟨xs,q1,by rw[F.length];exact hl,G5,O5,_,U,eD,w5.put (c:=.lst (ys++[z])) L l ⟨l,_,eZ,F.append (.cons d5 .nil)⟩,(r3.ext C).ext x5,h'⟩
       ·cases h'
      ·cases h'
     ·cases h'
    ·rename_i k;intro b H4 G4 s C w4 hb;cases(show b=ax from hb);rw[bb (by simp)];exact⟨G4,s,k,U,((e'.trans e2).trans x3).trans C,w4,r3.ext C,h'⟩
    ·cases h'
   ·cases h'
 ·have Hh:i=S.ds.length:=by omega
  subst Hh
  left
  refine⟨j1.stop f j N o M E aK _ cJ,?_⟩;rw[List.drop_length]at h';unfold pP at h';rw[a9 aK]at h';cases h';split at h1
  ·rename_i ys ey;have L:=e'.pre _ _ hDk;obtain⟨l,xs,q1,F⟩:=E.aE _ _ D ey L;split at h1
   ·exact h1 _ o f j M E (by simp only[Den];exact⟨D,rfl,L⟩)
   ·have wf:=E.freeze L l q1;split at h1
    ·rename_i VZ;have eC:Ext u B (upd f D (.lst xs)) j:=M.trans (Ext.new l _);have wc:=w1.cut wf eC (by rw[List.take_set_of_le cJ];exact VZ.1);refine h1 _ o _ B ⟨eC.same,λ_ _ q=>q⟩ wc ?_;simp only[Den];exact⟨D,xs,rfl,eZ,(F.ext (Ext.new l _)).cut eC.cut (by rw[w1.len];exact VZ.2)⟩
    ·refine h1 _ o _ j (M.trans (Ext.new l _)) wf ?_;simp only[Den];exact⟨D,xs,rfl,eZ,F.ext (Ext.new l _)⟩
  ·exact False.elim h1
end
def Bi{α β:Type}(K:bj)(rel:Rl α β)(W:WX)(f:Ev->Mo α):L2.St->Hp->(β->Hp->Prop)->Prop:=λJ H Q=>∃G O Z Y,Wd K G O Z H/\gV K G O J Y/\bD K rel W G O J Q (f Y Z)
def Ry(K:bj)(W:WX)(g:A->MS):TG:=λv J H Q=>∃G O Z Y a D,Wd K G O Z H/\gV K G O J Y/\Den K G O v a/\fQ K W G O D (g a Y Z)/\D.nx=Q
theorem TF{α β:Type}{K:bj}{rel:Rl α β}{W:WX}{f:Ev->Mo α}:fP K rel W (Bi K rel W f) f:=λG q z H J j Q w r h=>⟨G,q,z,j,w,r,h⟩
theorem Sz{K:bj}{W:WX}{g:A->MS}:QK K W (Ry K W g) g:=λG q z H J j v a D w r d h=>⟨G,q,z,j,a,D,w,r,d,h,rfl⟩
theorem VE.uK{X:Cx}{W:WX}{e:bx}{f:Ev->Mo A}(h:VE X W e f):PE X e (Bi X.K (Den X.K) W f):=by
 obtain⟨t,p,s⟩:=h;exact λaa N J H Q I ⟨G,z,B,j,w,r,q⟩=>p aa N J H Q I (s G z B H J j Q w r q)
theorem FC.uK{X:Cx}{W:WX}{ifs:aq bx}{f:Ev->Mo br}(h:FC X W ifs f):FG X ifs (Bi X.K DG W f):=by
 obtain⟨t,p,s⟩:=h;exact λaa N J H Q I ⟨G,z,B,j,w,r,q⟩=>p aa N J H Q I (s G z B H J j Q w r q)
theorem VG.uK{X:Cx}{W:WX}{tg:bx}{g:A->MS}(h:VG X W tg g):PG X tg (Ry X.K W g):=by
 obtain⟨t,p,s⟩:=h;intro aa N J H v u Q I U h;obtain⟨G,z,B,j,a,D,w,r,d,q,e⟩:=h;exact p aa N J H v u Q I U (e ▸ s G z B H J j v a D w r d q)
abbrev qH:WX:=λ_ _ _ _=>cp
theorem af4{X:Cx}{W:WX}{elt tg iter:bx}{ifs:aq bx}{scope:cn}{pos:dn}{fi:Ev->Mo Src}{g:A->MS}{c:Ev->Mo br}{e:Ev->Mo A}(U:br)(j:aq ba)(js:aq a6)(N:X.calm=a5)(L:wI X scope j js)(hi:VI X W tg iter fi)
  (hb:∀cl C s H fp,VG (iJ X scope j js cl C s H fp) qH tg g/\FC (iJ X scope j js cl C s H fp) qH ifs c/\VE (iJ X scope j js cl C s H fp) qH elt e)
  (B:∀x,cw iter X.env x=pure x:=by intro _;rfl):VE X W (.ListComp elt [⟨tg,iter,ifs,0⟩] scope pos) (mT U j.length js fi g c e):=by
 obtain⟨a,z,q⟩:=hi;exact⟨_,aoO N L z (λcl C s H fp=>⟨(hb cl C s H fp).1.uK,(hb cl C s H fp).2.1.uK,(hb cl C s H fp).2.2.uK⟩) B,Sx _ q Sz TF TF⟩
noncomputable def sortI(ns:aq a4):aq a4:=ns.mergeSort λa b=>decide (a<=b)
theorem sortI_perm(ns:aq a4):(sortI ns).Perm ns:=List.mergeSort_perm ns _
theorem Sm(ns:aq a4):(sortI ns).Pairwise (· <= ·):=by
 have h:=List.pairwise_mergeSort (le:=λa b:a4=>decide (a<=b)) (λa b c h1 h2=>by simp at h1 h2 ⊢;omega) (λa b=>by simp;omega) ns;exact h.imp λh=>Ea h
theorem Sl{ns ms:aq a4}(p:ms.Perm ns)(h:ms.Pairwise (· <= ·)):ms=sortI ns :=
 List.Perm.eq_of_pairwise (le:=(· <= ·)) (λa b _ _ h1 h2=>Int.le_antisymm h1 h2) h (Sm ns) (p.trans (sortI_perm ns).symm)
theorem Sn(ns:aq a4):(sortI ns).length=ns.length:=(sortI_perm ns).length_eq
end V2
namespace M
open PySem V2
@[simp] abbrev aM:=V2.eM 0
@[simp] abbrev bK:=V2.eM 1
@[simp] abbrev bH:=V2.eM 2
@[simp] abbrev dJ:=V2.eM 3
@[simp] abbrev cW:=V2.eM 4
@[simp] abbrev qD:=V2.eM 5
@[simp] abbrev iQ:=V2.eM 6
@[simp] abbrev GR:=V2.eM 7
@[simp] abbrev lW:=V2.eM 8
@[simp] abbrev wN:=V2.eM 9
@[simp] abbrev Ab:=V2.eM 10
@[simp] abbrev AA:=V2.eM 11
@[simp] abbrev Qb:=V2.eM 12
@[simp] abbrev bP:=V2.cI 0
@[simp] abbrev bM:=V2.cI 1
@[simp] abbrev jR:=V2.cI 2
@[simp] abbrev kN:=V2.cI 3
@[simp] abbrev wC4:=V2.cI 4
@[simp] abbrev qY:=V2.cI 5
@[simp] abbrev Ac:=V2.cI 6
@[simp] abbrev Qc:=V2.cI 7
@[simp] abbrev GS:=V2.cI 9
@[simp] abbrev AB:=V2.cI 10
@[simp] abbrev bV:=V2.OP ax
@[simp] noncomputable abbrev aG{α:Type}(a:α)(Z:V2.aH):aw (V2.Rs α×V2.aH):=ao (.ok a,Z)
@[simp] noncomputable abbrev dA(Y:V2.Ev)(Z:V2.aH):aw (V2.Out×V2.Ev×V2.aH):=ao (.nx,Y,Z)
@[simp] noncomputable abbrev aA(i:a4):aw V2.A:=ao (.int i)
@[simp] noncomputable abbrev aD(i:a6):aw V2.A:=ao (.aE i)
@[simp] noncomputable abbrev cA(i:aq V2.A):aw V2.A:=ao (.lst i)
noncomputable section
def acN:MS :=
 (aX (bN (aC (dW) (aC (jZ) (aC bV aM bM) (aC bV (cI 48271) (aC (jZ) (cI 118) bK))) (cI 2147483629)) (gN 2))
  (dB (aC (dW) (aC bV (aC bV (aC (jZ) (aC (iL) bH (cI 977)) (cI 16807)) (aC (jZ) bH (aC bV (aC (jZ) bK bK) Qc))) bK) (cI 2147483587))))
def yB:aq A->Mo A:=dP 3 acN
def Lg:MS :=
 (aX (bN bP (gN 2))
  (aX (eA (bX (aC tD bK (aQ dO (aB aM a0))))
   (bN (aC (dW) (aC bB aM bK) (cI 2147483647)) (gN 2))
   gX)
  (dB (aQ (bI 2 yB) (aB bH (aB (aC bV bK (cI 101)) a0))))))
def pZ:aq A->Mo A:=dP 3 Lg
def PZ:MS :=
 (aX (bN (aC bB aM kN) (gN 2))
  (aX (bN (An (bX (aC zJ bK bP)) (aC bB (aC bB bH (aC (dG) bK bM)) bM) bP) (gN 3))
  (aX (bN (An (bX (aC tD bK (aQ dO (aB bH a0)))) (aC (dG) (aC bB (aC bB bH bK) jR) bM) (aC bB aM bP)) (gN 4))
  (dB (sG (aB dJ (aB cW a0)))))))
def GC:aq A->Mo A:=dP 5 PZ
def Ku:MS :=
 (dB (Qo (aC iW (aC bB bK bP) (aC bB aM bP)) (aC rK (aC bB bK jR) (aC bV (aC bV (aC bB aM bM) bH) bM))))
def RH:aq A->Mo A:=dP 3 Ku
def BM:MS :=
 (eA (mS (bX (aC iW cW bP)) (mS (bX (aC iW cW dJ)) (kU (bX (aQ (bI 3 RH) (aB (aC bB bH (LF bM)) (aB (aC bB aM (aC bV cW bM)) (aB bK a0))))))))
    (iG (kW pN bH (aB qD a0)))
    gX)
def Ky:MS :=
 (aX (bN (fM a5 a0) (gN 2))
  (aX (bN (aC (dG) (aQ dO (aB aM a0)) bM) (gN 3))
  (aX (kP (Ao aM) (rJ 2 (jM (gN 4) (jM (gN 5) sY))) BM)
  (dB (LG 2)))))
def RI:aq A->Mo A:=dP 6 Ky
def acF:MS :=
 (aX (bN (aC bB aM bP) (gN 2))
  (aX (bN (aC bV (aC bB aM bM) (aC (iL) bH bK)) (gN 3))
  (dB (sG (aB bH (aB dJ (aB (aC bV (aC bB aM jR) bM) (aB (aQ (bI 2 RI) (aB (aC bB aM kN) (aB dJ a0))) a0))))))))
def xZ:aq A->Mo A:=dP 4 acF
end
end M
namespace V2
open PySem PySem.Spec PyProof.Rows L2
noncomputable def rA(kvs:aq (Key×A))(k:Key):aw A:=(kvs.find? λj=>decide (j.1=k)).map (·.2)
noncomputable def tV(kvs:aq (Key×A))(k:Key)(a:A):aq (Key×A) :=
 if kvs.any λj=>decide (j.1=k)then kvs.map (λj=>if j.1=k then(j.1,a)else j)else kvs++[(k,a)]
noncomputable def xC:A->aw Key
 |.int i=>ao (.inl i)
 |.str x=>ao (.inr x)
 |_=>au
section
variable{K:bj}{G:Hp}{O:aq az}
theorem Fo{v:V}{a:A}{k:Key}(d:Den K G O v a)(h:xC a=ao k):v=kV k:=by
 cases a with
 |int i=>simp only[xC,kS]at h;subst h;simp only[Den]at d;exact d
 |str i=>simp only[xC,kS]at h;subst h;simp only[Den]at d;exact d
 |_=>simp[xC]at h
theorem Ai{k:Key}:∀{j:aq (Key×V)} {kvs:aq (Key×A)},j.map (·.1)=kvs.map (·.1)->aU K G O (j.map (·.2)) (kvs.map (·.2))->(∀a,rA kvs k=ao a->∃v,nL j k=ao v/\Den K G O v a)/\(rA kvs k=au->nL j k=au)
 |[],[],_,_=>⟨λa h=>(by cases h),λ_=>rfl⟩
 |[],_::_,h,_=>by simp at h
 |_::_,[],h,_=>by simp at h
 |p::j,q::kvs,h,d=>by
  simp only[dE,xX]at h;obtain⟨x,r,e,n,m⟩:=d.lY;simp only[dE,xX]at e;obtain⟨l,i⟩:=e;obtain⟨c,b⟩:=Ai (k:=k) h.2 (i ▸ m)
  by_cases B:q.1=k
  ·have N:p.1=k:=h.1.trans B;refine⟨λa U=>?_,λhn=>?_⟩
   ·simp only[rA,FQ,B,PF,QO,kS]at U;exact⟨p.2,by simp[nL,N],by rw[<-U,l];exact n⟩
   ·simp[rA,B]at hn
  ·have N:¬p.1=k:=λz=>B (h.1.symm.trans z);have f:nL (p::j) k=nL j k:=by simp[nL,N]
   have g:rA (q::kvs) k=rA kvs k:=by simp[rA,B]
   rw[f,g];exact⟨c,b⟩
theorem acT{k:Key}{q:aq (Key×V)}{kvs:aq (Key×A)}(h:q.map (·.1)=kvs.map (·.1)):(q.any λj=>decide (j.1=k))=(kvs.any λj=>decide (j.1=k)):=by
 have B:(q.any λj=>decide (j.1=k))=(q.map (·.1)).any λx=>decide (x=k):=by rw[List.any_map];rfl
 have z:(kvs.any λj=>decide (j.1=k))=(kvs.map (·.1)).any λx=>decide (x=k):=by rw[List.any_map];rfl
 rw[B,z,h]
theorem amQ{k:Key}{v:V}{a:A}{q:aq (Key×V)}{kvs:aq (Key×A)}(h:q.map (·.1)=kvs.map (·.1)):(putK q k v).map (·.1)=(tV kvs k a).map (·.1):=by
 unfold putK tV;rw[acT h];split
 ·rw[xW,xW];have B:q.map ((·.1) ∘ λj:Key×V=>if j.1=k then(j.1,v)else j)=q.map (·.1):=QU λx _=>by simp only[Function.comp];split <;> rfl
  have z:kvs.map ((·.1) ∘ λj:Key×A=>if j.1=k then(j.1,a)else j)=kvs.map (·.1):=QU λx _=>by simp only[Function.comp];split <;> rfl
  rw[B,z,h]
 ·rw[zP,zP,h];rfl
theorem Ug{k:Key}{v:V}{a:A}(B:Den K G O v a):∀{z:aq (Key×V)} {kvs:aq (Key×A)},z.map (·.1)=kvs.map (·.1)->aU K G O (z.map (·.2)) (kvs.map (·.2))->aU K G O ((z.map λj=>if j.1=k then(j.1,v)else j).map (·.2)) ((kvs.map λj=>if j.1=k then(j.1,a)else j).map (·.2))
 |[],[],_,_ => .nil
 |[],_::_,h,_=>by simp at h
 |_::_,[],h,_=>by simp at h
 |p::z,q::kvs,h,d=>by
  simp only[dE,xX]at h;obtain⟨x,r,e,c,b⟩:=d.lY;simp only[dE,xX]at e;obtain⟨U,N⟩:=e;have ih:=Ug (k:=k) B h.2 (N ▸ b);simp only[dE];refine .cons ?_ ih;rw[h.1];split
  ·exact B
  ·rw[U];exact c
theorem amR{k:Key}{v:V}{a:A}{j:aq (Key×V)}{kvs:aq (Key×A)}(h:j.map (·.1)=kvs.map (·.1))(d:aU K G O (j.map (·.2)) (kvs.map (·.2)))(q:Den K G O v a):aU K G O ((putK j k v).map (·.2)) ((tV kvs k a).map (·.2)):=by
 unfold putK tV;rw[acT h];split
 ·exact Ug q h d
 ·rw[zP,zP];exact d.append (.cons q .nil)
noncomputable def pS(Z:aH):A->aw (a6×aq (Key×A))
 |.aE k=>match Z[k]? with
  |some (.cV kvs)=>ao (k,kvs)
  |_=>au
 |_=>au
theorem JG{H:Hp}{Z:aH}{v:V}{a:A}{k:a6}{kvs:aq (Key×A)}(w:Wd K G O Z H)(d:Den K G O v a)(h:pS Z a=ao (k,kvs)):∃p q,v=.ref p/\O[k]?=ao p/\G p=au/\H p=ao (.dK q)/\q.map (·.1)=kvs.map (·.1)/\aU K G O (q.map (·.2)) (kvs.map (·.2)):=by
 cases a with
 |aE j =>
  simp only[pS]at h;split at h
  ·rename_i es e;cases h;simp only[Den]at d;obtain⟨p,rfl,z⟩:=d;obtain⟨g,q,U,N,B⟩:=w.aE k _ p e z;exact⟨p,q,rfl,z,g,U,N,B⟩
  ·cases h
 |_=>simp[pS]at h
theorem Kf{Z:aH}{k:a6}{kvs:aq (Key×A)}(h:Z[k]?=ao (.cV kvs)):pS Z (.aE k)=ao (k,kvs):=by simp[pS,h]
end
section
variable{X:Cx}{W:WX}{o i e:bx}{pos:dn}{fo fi fe:Ev->Mo A}
@[simp] noncomputable def Ap:Ev->Mo A:=λ_ Z=>ao (.ok (.aE Z.length),Z++[.cV []])
theorem Qj:VE X W (.Dict [] [] pos) Ap:=by
 refine⟨_,aoU,λG q B H J z Q w r h=>?_⟩;intro p j;refine h _ _ G (q++[p]) (Ext.cell p) (w.cell j ⟨w.oQ j,[],eZ,rfl,.nil⟩) ?_;simp only[Den];exact⟨p,rfl,by rw[<-w.len];simp⟩
@[simp] def Jg(o i:A):Mo A:=λZ=>match pS Z o,xC i with
 |some (_,kvs),ao k=>match rA kvs k with
  |some a=>ao (.ok a,Z)
  |none=>au
 |_,_=>au
theorem agC(F:X.A.units+1<cLine)(K:VE X W o fo)(hi:VE X W i fi)(I:Me i):VE X W (.Subscript o i pos) (aC Jg fo fi):=by
 obtain⟨t,D,m⟩:=K;obtain⟨u,p2,s2⟩:=hi;refine⟨_,aoW F D p2 I,λG U c H J B Q w r h=>?_⟩;refine m G U c H J B _ w r (bD.mb h λx z v V G1 q e w1 S h1=>?_);refine s2 G1 q z V J B _ w1 (r.ext e) (bD.mb h1 λy b u T G2 j d w2 R h2=>?_);unfold Jg at h2;split at h2
 ·rename_i k0 E k P M;split at h2
  ·rename_i a L;obtain⟨p,ws,rfl,hk,g,C,s,n⟩:=JG w2 (S.ext d) P;obtain⟨N,l,f⟩:=(Ai s n).1 a L;rw[Fo R M];exact⟨p,N,rfl,by rw[<-l];exact zX.k C,h2 N T G2 j (Ext.refl _ _) w2 f⟩
  ·exact False.elim h2
 ·exact False.elim h2
@[simp] def aaQ(o i z:A):Mo A:=λZ=>match pS Z o,xC i with
 |some (_,kvs),ao k=>ao (.ok ((rA kvs k).getD z),Z)
 |_,_=>au
def Xf(Z:aH)(a:A):Prop:=∃k kvs,pS Z a=ao (k,kvs)
open Classical in
@[simp] noncomputable def Qr(fo fi fe:Ev->Mo A):Ev->Mo A:=λY=>mb (fo Y) λo Z=>if Xf Z o then mb (fi Y) (λi=>mb (fe Y) λz=>aaQ o i z) Z else au
theorem agB{ag:dn}(hu:X.A.units+1<cLine)(ho:VE X W o fo)(hi:VE X W i fi)(he:VE X W e fe)(m:M2 X o "get" ag i e pos):VE X W (.Call (.Attribute o "get" ag) [i,e] [] pos) (Qr fo fi fe):=by
 obtain⟨t,p1,S⟩:=ho;obtain⟨u,p2,s2⟩:=hi;obtain⟨u',p3,R⟩:=he;refine⟨_,aoV hu p1 p2 p3 m,λG F K H J N Q w r h=>?_⟩;refine S G F K H J N _ w r (bD.mb h λx d v H1 G1 b s w1 C h1=>?_);split at h1
 ·rename_i hd;obtain⟨k0,aJP,e0⟩:=hd;obtain⟨p,L,rfl,hk,g,q1,q2,q3⟩:=JG w1 C e0;refine⟨p,rfl,.inl ⟨L,.inl q1⟩,?_⟩;refine s2 G1 b d H1 J N _ w1 (r.ext s) (bD.mb h1 λy c u H2 G2 U n w2 d2 h2=>?_);refine R G2 U c H2 J N _ w2 ((r.ext s).ext n) (bD.mb h2 λz I u3 D E q l w3 d3 j=>?_);unfold aaQ at j;split at j
  ·rename_i k1 f k e1 e2;obtain⟨p',oG,II,IK,g',r1,V,T⟩:=JG w3 (C.ext (n.trans l)) e1;cases II;rw[Fo (d2.ext l) e2];refine⟨nL oG k,zX.k r1,?_⟩;obtain⟨i1,i2⟩:=Ai (k:=k) V T;cases B:rA f k with
   |none =>
    rw[B]at j;rw[i2 B];exact j _ D E q (Ext.refl _ _) w3 d3
   |some a =>
    rw[B]at j;obtain⟨v',P,M⟩:=i1 a B;rw[P];exact j _ D E q (Ext.refl _ _) w3 M
  ·exact False.elim j
 ·exact False.elim h1
@[simp] def Tb(o i v:A)(Z:aH):aw aH:=match pS Z o,xC i with
 |some (k,kvs),ao key=>if kvs.length<bf then ao (Z.set k (.cV (tV kvs key v)))else au
 |_,_=>au
@[simp] def Dc(fe fo fi:Ev->Mo A):MS:=λY=>sM (fe Y) Y λa=>sM (fo Y) Y λo=>sM (fi Y) Y λi Z=>match Tb o i a Z with
 |some Z'=>ao (.nx,Y,Z')
 |none=>au
theorem Qe{pos':dn}(T:X.A.units+1<cLine)(ho:VE X W o fo)(hi:VE X W i fi)(he:VE X W e fe)(V:ej e (ao (.Subscript o i pos')) pos.line X.env=pure ax:=by rfl):VS X W (.Assign [.Subscript o i pos'] e pos) (Dc fe fo fi):=by
 obtain⟨t,S,M⟩:=ho;obtain⟨u,p2,s2⟩:=hi;obtain⟨u',R,L⟩:=he;refine⟨_,anD T S p2 R V,λG C I H J a D w r h=>?_⟩;refine L G C I H J a _ w r (fQ.sM h r λz l v H1 G1 d j w1 d1 h1=>?_);refine M G1 d l H1 J a _ w1 (r.ext j) (fQ.sM h1 (r.ext j) λx f vo H2 G2 b N w2 d2 h2=>?_);refine s2 G2 b f H2 J a _ w2 ((r.ext j).ext N) (fQ.sM h2 ((r.ext j).ext N) λy E vi H3 G3 s m w3 d3 U=>?_);unfold Tb at U;split at U
 ·rename_i F B;split at B
  ·rename_i k q key e1 e2;split at B
   ·rename_i hl;cases B;obtain⟨p,K,rfl,hk,g,Q,n,P⟩:=JG w3 (d2.ext m) e1;rw[Fo d3 e2];have ND:K.length=q.length:=by have:=c7 List.length n;simpa using this
    refine⟨p,_,rfl,RM.k Q (by rw[ND];exact hl),?_⟩;exact wZ (w3.put (c:=.cV (tV q key z)) hk g ⟨g,_,eZ,amQ n,amR n P (d1.ext (N.trans m))⟩) (((r.ext j).ext N).ext m) U
   ·cases B
  ·cases B
 ·exact False.elim U
noncomputable def intKeys:aq (Key×A)->aw (aq a4)
 |[]=>ao []
 |(.inl i,_)::r=>(intKeys r).map (i :: ·)
 |_=>au
theorem Xg:∀{kvs:aq (Key×A)} {ns:aq a4},intKeys kvs=ao ns->kvs.map (·.1)=ns.map Sum.inl
 |[],ns,h=>by simp only[intKeys,kS]at h;subst h;rfl
 |(.inl i,_)::r,ns,h=>by
  simp only[intKeys,BQ]at h;obtain⟨ms,h1,rfl⟩:=h;simp[Xg h1]
 |(.inr i,_)::r,ns,h=>by simp[intKeys]at h
@[simp] def Jc(c:br)(as:aq A):Mo A:=λZ=>match as with
 | [a]=>(match pS Z a with
  | some (_,kvs)=>(match intKeys kvs with
   |some ns=>if ns.length<4000 then rF c ((sortI ns).map A.int) Z else au
   | none=>au)
  | none=>au)
 |_=>au
theorem aE2(b:X.calm=a5)(c:br):yD X W (.builtin "sorted") (Jc c):=by
 refine⟨_,aET b,?_⟩;intro G n o H J r u Q w d h;unfold Jc at h;split at h
 ·rename_i a;split at h
  ·rename_i k B e;split at h
   ·rename_i ns f;split at h
    ·rename_i m;obtain⟨x,rfl,i⟩:=BH d;obtain⟨p,j,rfl,t,g,z,q,s⟩:=JG w i e;refine⟨p,j,ns,rfl,z,by rw[q];exact Xg f,m,λms l U N hl=>?_⟩;rw[Sl U N];exact HU w hl (XD _) h
    ·exact False.elim h
   ·exact False.elim h
  ·exact False.elim h
 ·exact False.elim h
end
section
variable{X:Cx}{W:WX}{x:ba}{e:bx}{es:aq bx}{np kB pos:dn}{fs:Ev->Mo (aq A)}
@[simp] def LW(x:ba)(f:Ev->Mo (aq A)):MS:=λY=>sM (f Y) Y λas Z=>if as.length<=bf then ao (.exc ⟨x,[]⟩,Y,Z)else au
theorem afQ{C:az}(T:pU X W)(b:X.calm=a5)(ι:QN X.K C)(a:Gl X x)(hm:X.mg x=ao (.ref C))(d:cx X.K a7 x=ao (ao (.ref C)))(c:VA X W (e::es) fs)
  (f:(x==("__debug__" : ba))=ax:=by decide) (he:bg (e::es) X.env=(ax,cj e X.env)::bg es X.env:=by rfl) (g:(cz kB (bg (e::es) X.env)).any (·.1)=ax:=by rfl) :
  VS X W (.Raise (ao (.Call (.Name x np) (e::es) [] kB)) au pos) (LW x fs):=by
 obtain⟨t,p,s⟩:=c;refine⟨_,am7 T b ι a hm p f he g,λG z N H J q D w r h=>?_⟩;refine s G z N H J q _ w r (fQ.sM h r λn B m k l j U w1 i h1=>?_);split at h1
 ·rename_i hl;exact⟨by rw[i.length];exact hl,h1 J k l j (Ext.refl _ _) w1 (r.ext U) _ _ ⟨⟨C,d,rfl⟩,.inl ⟨rfl,rfl⟩⟩⟩
 ·exact False.elim h1
end
def YF(X:Cx)(W:WX)(st:b8)(f:MS):Prop:=∃t,YM X st t/\rR X.K W t f
def BN(X:Cx)(W:WX)(st:aq b8)(f:MS):Prop:=∃t,wD X st t/\rR X.K W t f
section
variable{X:Cx}{W:WX}{st:b8}{rest:aq b8}{f g:MS}
theorem VS.v0(h:VS X W st f):YF X W st f:=let ⟨t,p,s⟩:=h; ⟨t,p.Dp,s⟩
theorem iC.v0(h:iC X W rest f):BN X W rest f:=let ⟨t,p,s⟩:=h; ⟨t,p.Dp,s⟩
theorem Qd(h1:YF X W st f)(h2:BN X W rest g):BN X W (st::rest) (aX f g):=by
 obtain⟨t,q,j⟩:=h1;obtain⟨u,p2,s2⟩:=h2;exact⟨_,am1 q p2,Sv j s2⟩
end
def HF(K:bj)(W:WX)(f:MS):TS:=λD J H=>∃G O Z Y,Wd K G O Z H/\gV K G O J Y/\fQ K W G O D (f Y Z)
theorem iC.uK{X:Cx}{W:WX}{st:aq b8}{f:MS}(h:iC X W st f):oY X st (HF X.K W f):=by
 obtain⟨t,p,s⟩:=h;exact λaa N J H D I ⟨G,z,B,j,w,r,q⟩=>p aa N J H D I (s G z B H J j D w r q)
theorem BN.uK{X:Cx}{W:WX}{st:aq b8}{f:MS}(h:BN X W st f):wD X st (HF X.K W f):=by
 obtain⟨t,p,s⟩:=h;exact λN J H D I ⟨G,z,B,j,w,r,q⟩=>p N J H D I (s G z B H J j D w r q)
noncomputable def OZ(i:a6):OS->OS
 |some (.exc _,_,_)=>au
 |some (o,Y,Z)=>ao (o,Y.set i au,Z)
 |none=>au
open Classical in
noncomputable def DE(i:a6)(sub:ba->br)(fb:MS)(fh:az->Exc->MS):MS:=λY Z=>match fb Y Z with
 |some (.exc e,Y1,Z1)=>if sub e.cls=a5 then(if hr:∃r,∀p,OZ i (fh p e (Y1.set i (ao (.adr p))) Z1)=ao r then ao (Classical.choose hr)else au)else au
 |r=>r
theorem ag8{i:a6}{sub:ba->br}{fb:MS}{j:az->Exc->MS}{Y Y1:Ev}{Z Z1:aH}{e:Exc}{r:Out×Ev×aH}(h:fb Y Z=ao (.exc e,Y1,Z1))(B:sub e.cls=a5)(hr:∀p,OZ i (j p e (Y1.set i (ao (.adr p))) Z1)=ao r):DE i sub fb j Y Z=ao r:=by
 have q:∃r,∀p,OZ i (j p e (Y1.set i (ao (.adr p))) Z1)=ao r:=⟨r,hr⟩;have z:=CM q 0;rw[hr 0]at z;simp only[DE,h,B,eT];rw[JA q,<-z]
theorem aj4{K:bj}{W:WX}{C:az}{i:a6}{sub:ba->br}{fb:MS}{o:az->Exc->MS}
  (hsub:∀n E,sub n=a5->cx K a7 n=ao (ao (.ref E))->cu K (.ref E) (.ref C)=ao a5) :
  rR K W (Rt (λW=>HF K W fb) (tH K C i (λx cls dx D J H=>∃e:Exc,(∃E,cx K a7 e.cls=ao (ao (.ref E))/\cls=.ref E)/\HF K qH (o x e) D J H) Ru)) (DE i sub fb o):=by
 intro G v s H J p D w r h;refine⟨G,v,s,p,w,r,?_⟩;unfold DE at h
 revert h
 generalize fb p s=q;intro h
 match q,h with
 |none,h=>exact h
 |some (.nx,B,N),h=>exact h
 |some (.bk,B,N),h=>exact h
 |some (.ct,B,N),h=>exact h
 |some (.ret a,B,N),h=>exact h
 |some (.exc e,B,N),h =>
  simp only at h;split at h
  ·rename_i L;split at h
   ·rename_i hr;intro u R M m l y A cls dx I x Q;obtain⟨⟨E,t,rfl⟩,_⟩:=I;refine⟨E,a5,rfl,hsub _ E L t,?_⟩;rw[a9 rfl];refine⟨e,⟨E,t,rfl⟩,M,m,N,B.set i (ao (.adr x)),y,A.set i (by simp only[Den]),?_⟩;have U:=CM hr x
    revert U h
    generalize Classical.choose hr=P;generalize o x e (B.set i (ao (.adr x))) N=F;intro h U
    match F,U with
    |some (.nx,b,c),U=>cases U;exact λj g k z d w2 f=>h (j.set i au) g k z (l.trans d) w2 (f.unset i au)
    |some (.bk,b,c),U=>cases U;exact λj g k z d w2 f=>h (j.set i au) g k z (l.trans d) w2 (f.unset i au)
    |some (.ct,b,c),U=>cases U;exact λj g k z d w2 f=>h (j.set i au) g k z (l.trans d) w2 (f.unset i au)
    |some (.ret a,b,c),U=>cases U;exact λj g k z d w2 f=>h (j.set i au) g k z (l.trans d) w2 (f.unset i au)
   ·exact False.elim h
  ·exact False.elim h
theorem afM{X:Cx}{W:WX}{C:az}{i:a6}{n y:ba}{np pos Gk:dn}{body:aq b8}{b₀:b8}{suite:aq b8}{sub:ba->br}{fb:MS}{j:az->Exc->MS}(t:mI X)(B:X.ex=[])(c:XC X.K C)(U:Gl X y)(hm:X.mg y=ao (.ref C))(a:X.N.Nodup)(hi:X.N[i]?=ao n)(hl:X.env.scope.names.lookup n=ao .local)
  (hsub:∀n E,sub n=a5->cx X.K a7 n=ao (ao (.ref E))->cu X.K (.ref E) (.ref C)=ao a5)
  (hb:∀W,BN (X.nK (XE X W)) W body fb) (hh:∀(p:az) (oe:c6) (e:Exc),(∃E,cx X.K a7 e.cls=ao (ao (.ref E))/\oe.cls=.ref E)->iC (X.tI p oe) qH (b₀::suite) (j p e))
  (b:(y==("__debug__" : ba))=ax:=by decide):YF X W (.Try body [.ExceptHandler (ao (.Name y np)) (ao n) (b₀::suite) Gk] [] [] pos) (DE i sub fb j):=by
 refine⟨_,am3 t B (tb:=λW=>HF X.K W fb) (λW=>(hb W).uK) (an6 t c U hm a hi hl (ts:=λx cls d D J H=>∃e:Exc,(∃E,cx X.K a7 e.cls=ao (ao (.ref E))/\cls=.ref E)/\HF X.K qH (j x e) D J H) (λx oe=>?_) an5 b),aj4 hsub⟩;intro aa z J H D I ⟨e,he,q⟩;exact(hh x oe e he).uK aa z J H D I q
section
variable{P:bh}{w:bw}{K:bj}{mg:ba->aw av}{base:bz}
theorem KQ.of0{x:ba}{st:b8}{N ps:aq ba}{k:a6}{b:MS}(h:HasFn K mg x st)(S:dN N ps (aZ st))
  (bind:∀(kV doc pm:av) (an:aw az) (j ct:av) (us:aq av),us.length=ps.length->dk (e9 x x (jO st) (eL st) (aZ st) .none kV doc pm an j ct) ⟨us,[]⟩=pure (ps.zip us))
  (B:∀(f:az) (j:av) (A:bu) (outer:aq Env) (s:ay) (H:Hp) (E:XK),cK k (A.deeper (c8 x (aZ st) s.heap.objs.size f j)) ->
   BN (mG yE P w K mg base N x (aZ st) f j A outer s H E).vI qH (eL st) b):KQ P w K mg base x (k+1) ps (dP N.length b):=by
 refine Def.of0 h S bind (λz H Q E h=>h.1) λf j A outer s H z Q E hr U=>?_;obtain⟨t,p,q⟩:=B f j A outer s H E hr;exact⟨t,p,JK (E:=λ_ _ _=>cp) q U⟩
end
structure zN(K:bj)(rs ns:aq ba):Prop where
 xc:∀n∈ns,∀D,cx K a7 n=ao (ao (.ref D))->XC K D
 sub:∀n∈rs,∀m∈ns,∀D C,cx K a7 n=ao (ao (.ref D))->cx K a7 m=ao (ao (.ref C))->cu K (.ref D) (.ref C)=ao (n==m||m==("RankError" : ba))
 ve:∀n∈rs,∀D,cx K a7 n=ao (ao (.ref D))->cu K (.ref D) (.type "ValueError")=ao a5
 rn:∀n∈rs,n∈ns
noncomputable def qX(rs ns:aq ba)(n m:ba):aw br:=if n∈rs/\m∈ns then ao (n==m||m==("RankError" : ba))else au
noncomputable def zY(rs:aq ba)(n:ba)(T:c4):aw br:=if n∈rs/\T = "ValueError" then ao a5 else au
theorem zN.own{K:bj}{rs ns:aq ba}(T:zN K rs ns)(n m:ba)(b:br)(D C:az)(h:qX rs ns n m=ao b)(hn:cx K a7 n=ao (ao (.ref D)))(hm:cx K a7 m=ao (ao (.ref C))):kitOne K (.ref D) (.ref C)=ao b:=by
 unfold qX at h;split at h
 ·rename_i q;cases h;exact as2 (T.xc _ (T.rn _ q.1) _ hn) (T.xc _ q.2 _ hm) (T.sub _ q.1 _ q.2 _ _ hn hm)
 ·cases h
theorem zN.bt{K:bj}{rs ns:aq ba}(T:zN K rs ns)(n:ba)(ρ:c4)(b:br)(D:az)(h:zY rs n ρ=ao b)(hn:cx K a7 n=ao (ao (.ref D))):kitOne K (.ref D) (.type ρ)=ao b:=by
 unfold zY at h;split at h
 ·rename_i q;cases h;obtain⟨q,rfl⟩:=q;exact as1 (T.ve _ q _ hn) as3
 ·cases h
noncomputable def QF(tb:ba->aw br):aq ba->aw br
 |[]=>ao ax
 |m::r=>match tb m with
  |some a5=>ao a5
  |some ax=>QF tb r
  |none=>au
noncomputable def Iz:A->aw ba
 |.gl m=>ao m
 |_=>au
def OJ:aq A->aw (aq ba)
 |[]=>ao []
 |a::r=>(Iz a).bind λm=>(OJ r).map λms=>m::ms
def isA(tb:ba->aw br)(j:c4->aw br):A->aw br
 |.gl m=>tb m
 |.ty T=>j T
 |.tup as=>(OJ as).bind (QF tb)
 |_=>au
@[simp] def ON(p:az)(tb:ba->aw br)(j:c4->aw br)(as:aq A):Mo A:=λZ=>match as with
 |[.adr q,a]=>if q=p/\j "ValueError" = ao a5 then(match isA tb j a with
  |some b=>ao (.ok (.bl b),Z)
  | none=>au)else au
 |_=>au
section
variable{K:bj}{rs ns:aq ba}{G:Hp}{O:aq az}
theorem aAD:∀{as:aq A} {ms:aq ba} {xs:aq V},OJ as=ao ms->aU K G O xs as->∃cs:aq az,xs=cs.map V.ref/\ms.map (λm=>cx K a7 m)=cs.map λC=>ao (ao (.ref C)):=by
 intro as
 induction as with
 |nil =>
  intro ms xs h d;cases h;simp only[aU]at d;subst d;exact⟨[],rfl,rfl⟩
 |cons a r ih =>
  intro ms xs h d;simp only[aU]at d;obtain⟨x,b,rfl,z,U⟩:=d;unfold OJ at h;rw[QP]at h;obtain⟨m,j,h⟩:=h;rw[BQ]at h;obtain⟨mY,N,rfl⟩:=h;obtain⟨cs,rfl,q⟩:=ih N U;cases a with
  |gl y =>
   simp only[Iz,kS]at j;subst j;simp only[Den]at z;obtain⟨C,B,rfl⟩:=z;exact⟨C::cs,rfl,by rw[dE,dE,B,q]⟩
  |_=>cases j
theorem aGI(hT:zN K rs ns){n:ba}{D:az}(hn:cx K a7 n=ao (ao (.ref D))):∀{ms:aq ba} {cs:aq az} {b:br},ms.map (λm=>cx K a7 m)=cs.map (λC=>ao (ao (.ref C)))->QF (qX rs ns n) ms=ao b->kitAny K (.ref D) (cs.map Value.ref)=ao b:=by
 intro ms
 induction ms with
 |nil =>
  intro cs b e h;cases cs with
  |nil=>exact h
  |cons=>cases e
 |cons m r ih =>
  intro cs b e h;cases cs with
  |nil=>cases e
  |cons C cs =>
   simp only[dE,xX]at e;unfold QF at h;split at h
   ·rename_i q;cases h;simp only[dE,kitAny,hT.own _ _ _ _ _ q hn e.1]
   ·rename_i q;simp only[dE,kitAny,hT.own _ _ _ _ _ q hn e.1];exact ih e.2 h
   ·cases h
end
theorem Kj{X:Cx}{W:WX}{rs ns:aq ba}{p:az}{oe:c6}{n:ba}(g:(p,oe)∈X.pn)(hT:zN X.K rs ns)(he:∃E,cx X.K a7 n=ao (ao (.ref E))/\oe.cls=.ref E):yD X W (.builtin "isinstance") (ON p (qX rs ns n) (zY rs n)):=by
 refine⟨_,aE0 g,?_⟩;intro G c s H J u r Q w d h;obtain⟨E,B,N⟩:=he;unfold ON at h;split at h
 ·rename_i q a;split at h
  ·rename_i f;obtain⟨rfl,hv⟩:=f;split at h
   ·rename_i b e;obtain⟨x,y,rfl,U,j⟩:=XF d;simp only[Den]at U;subst U;have hr:n∈rs:=by
     unfold zY at hv;split at hv
     ·rename_i z;exact z.1
     ·cases hv
    refine⟨E,N,hT.xc _ (hT.rn _ hr) _ B,?_⟩;have fin:Q (.bl b) H:=h _ H G c (Ext.refl _ _) w (by simp only[Den]);rw[N];cases a with
    |gl m =>
     simp only[Den]at j;obtain⟨C,k,rfl⟩:=j;exact .inl ⟨C,b,rfl,hT.own _ _ _ _ _ e B k,fin⟩
    |ty T =>
     simp only[Den]at j;subst j;exact .inr (.inl ⟨T,b,rfl,hT.bt _ _ _ _ e B,fin⟩)
    |tup r =>
     simp only[Den]at j;obtain⟨a,t,rfl,i,dl⟩:=j;unfold isA at e;rw[QP]at e;obtain⟨ms,o,l⟩:=e;obtain⟨cs,rfl,q⟩:=aAD o dl;exact .inr (.inr ⟨a,cs,b,rfl,w.sub _ _ i,aGI hT B q l,fin⟩)
    |_=>cases e
   ·exact False.elim h
  ·exact False.elim h
 ·exact False.elim h
def mK(K:bj)(mg:ba->aw av)(x:ba):Prop:=∃C,XC K C/\mg x=ao (.ref C)/\cx K a7 x=ao (ao (.ref C))
def YN(K:bj)(mg:ba->aw av)(x:ba):Prop:=∃C,QN K C/\mg x=ao (.ref C)/\cx K a7 x=ao (ao (.ref C))
section
variable{X:Cx}{W:WX}{x y:ba}{e:bx}{es:aq bx}{np kB pos Gk:dn}{fs:Ev->Mo (aq A)}
@[simp] def cG(x:ba):Ev->Mo A:=λ_=>ret (.gl x)
theorem AE(h:mK X.K X.mg x)(j:Gl X x)(hd:(x==("__debug__" : ba))=ax:=by decide):VE X W (.Name x pos) (cG x):=by
 obtain⟨C,_,h1,h2⟩:=h;exact af7 j h1 h2 hd
theorem afP(T:pU X W)(q:X.calm=a5)(ι:YN X.K X.mg x)(j:Gl X x)(z:VA X W (e::es) fs)
  (N:(x==("__debug__" : ba))=ax:=by decide) (he:bg (e::es) X.env=(ax,cj e X.env)::bg es X.env:=by rfl) (U:(cz kB (bg (e::es) X.env)).any (·.1)=ax:=by rfl) :
  VS X W (.Raise (ao (.Call (.Name x np) (e::es) [] kB)) au pos) (LW x fs):=by
 obtain⟨C,B,h1,h2⟩:=ι;exact afQ T q B j h1 h2 z N he U
theorem afL{i:a6}{n:ba}{body:aq b8}{b₀:b8}{suite:aq b8}{rs ns:aq ba}{fb:MS}{j:az->Exc->MS}(t:mI X)(U:X.ex=[])(c:mK X.K X.mg y)(a:Gl X y)(hT:zN X.K rs ns)(b:X.N.Nodup)(hi:X.N[i]?=ao n)(hl:X.env.scope.names.lookup n=ao .local)
  (hb:∀W,BN (X.nK (XE X W)) W body fb) (hh:∀(p:az) (oe:c6) (e:Exc),(∃E,cx X.K a7 e.cls=ao (ao (.ref E))/\oe.cls=.ref E)->iC (X.tI p oe) qH (b₀::suite) (j p e))
  (f:(y==("__debug__" : ba))=ax:=by decide):YF X W (.Try body [.ExceptHandler (ao (.Name y np)) (ao n) (b₀::suite) Gk] [] [] pos) (DE i (λz=>qX rs ns z y==ao a5) fb j):=by
 obtain⟨C,d,h1,h2⟩:=c;refine afM t U d a h1 b hi hl (λz E q B=>?_) hb hh f;have q:qX rs ns z y=ao a5:=by simpa using q
 unfold qX at q;split at q
 ·rename_i hm;rw[<-q];exact hT.sub _ hm.1 _ hm.2 _ _ B h2
 ·cases q
end
theorem OT{α:Type}{P:α->Prop}:∀n∈([]:aq α),P n:=by simp
theorem iB{α:Type}{P:α->Prop}{a:α}{l:aq α}(h:P a)(t:∀n∈l,P n):∀n∈a::l,P n:=λn hn=>by
 rcases dY.mp hn with z|z
 ·exact z ▸ h
 ·exact t n z
theorem vH{K:bj}{n:ba}{C:az}{P:az->Prop}(h:cx K a7 n=ao (ao (.ref C)))(p:P C):∀D,cx K a7 n=ao (ao (.ref D))->P D:=λD j=>by
 rw[h]at j;cases j;exact p
theorem nQ{K:bj}{n m:ba}{C B:az}{P:az->az->Prop}(h:cx K a7 n=ao (ao (.ref C)))(h':cx K a7 m=ao (ao (.ref B)))(p:P C B):∀D q,cx K a7 n=ao (ao (.ref D))->cx K a7 m=ao (ao (.ref q))->P D q:=λD q z j=>by
 rw[h]at z;rw[h']at j;cases z;cases j;exact p
theorem cO.ofN{P:bh}{w:bw}{K:bj}{mg:ba->aw av}{base:bz}{x:ba}{k:a6}{ps:aq ba}{F:aq A->Mo A}(D:KQ P w K mg base x k ps F):cO P w K mg base x k ps (AQ F):=by
 obtain⟨f,fd,h1,h2,c,b⟩:=D.ex;refine⟨f,fd,⟨λq H Q E h=>h.1,λA outer s H args us q Q E hr g hb r e=>?_⟩,h2,c,b⟩;refine uJ (h1.run A outer s H args us q Q (λ_ _ _=>cp) hr g hb r ?_) λr s' z=>?_
 ·obtain⟨hl,G,B,j,ds,w,d,p⟩:=e;refine⟨hl,G,B,j,ds,w,d,?_⟩
  revert p
  unfold AQ;generalize F ds j=U;intro p
  match U,p with
  |some (.ok a,N),p=>exact p
 ·cases r with
  |error ev=>exact False.elim z
  |ok v=>cases v <;> exact z
end V2
namespace L2
open PySem PySem.Spec PyProof.Rows
theorem cK.SE{k:a6}{A:bu}(r:cK k A):A.units+1<cLine:=by have:=r.units;omega
end L2
namespace V2
theorem aFE:PySem.bootBuiltins "ValueError" = ao (.type "ValueError"):=by decide +kernel
end V2
namespace L2
open PySem PySem.Spec PyProof.Rows
theorem mI.vI{X:Cx}(t:mI X):mI X.vI:=⟨t.1,t.2,t.3⟩
theorem Rf{CX:oF}{P:bh}{w:bw}{K:bj}{mg:ba->aw av}{base:bz}{N:aq ba}{qual:ba}{scope:cn}{f:az}{j:av}{A:bu}{outer:aq Env}{s:ay}{H:Hp}{E:XK}:mI (mG CX P w K mg base N qual scope f j A outer s H E).vI:=mI.vI SI
theorem Ro{CX:oF}{P:bh}{w:bw}{K:bj}{mg:ba->aw av}{base:bz}{N:aq ba}{qual:ba}{scope:cn}{f:az}{j:av}{A:bu}{outer:aq Env}{s:ay}{H:Hp}{E:XK}{W:WX} :
  pU ((mG CX P w K mg base N qual scope f j A outer s H E).vI.nK (XE (mG CX P w K mg base N qual scope f j A outer s H E).vI W)) W:=pU.of Rf rfl W
end L2
namespace M
open PySem V2
noncomputable section
def XR:MS :=
 (Dc (aC bV (Qr bK bH bP) dJ) bK bH)
def acJ:Ev->Mo A :=
 (mT ax 1 [1] (gW (aQ (Jc ax) (aB bK a0))) (gN 0) sC (sG (aB aM (aB (aC Jg bK aM) a0))))
def XS:MS :=
 (aX (bN Ap (gN 1))
  (aX (kP (gW aM) (rJ 2 (jM (gN 2) (jM (gN 3) sY))) XR)
  (dB acJ)))
def RF:aq A->Mo A:=dP 4 XS
end
end M
namespace V2
open PySem PySem.Spec PyProof.Rows L2
section
variable{X:Cx}{W:WX}
@[simp] def WL(as:aq A):Mo A:=match as with
 |[.int i]=>ret (.int i)
 |[.bl b]=>ret (.int (if b then 1 else 0))
 |_=>stuck
theorem aE3:yD X W (.type "int") WL:=by
 refine⟨_,aE1,?_⟩;intro G q z H J B N Q w d h;unfold WL at h;split at h
 ·rename_i i;obtain⟨x,rfl,j⟩:=BH d;simp only[Den]at j;subst j;exact .inl ⟨i,rfl,iS w (by simp only[Den]) h⟩
 ·rename_i b;obtain⟨x,rfl,j⟩:=BH d;simp only[Den]at j;subst j;exact .inr ⟨b,rfl,iS w (by simp only[Den]) h⟩
 ·exact False.elim h
end
open PySem PySem.Spec PyProof PyProof.Rows L2
section
variable{X:Cx}{W:WX}{e a b:bx}{es:aq bx}{pos:dn}{fa fb:Ev->Mo A}{te:TE}{tl th tk:TO}{lo hi stp:aw bx}
noncomputable def vF{α:Type}(xs:aq α)(lo hi st:aw a4):aq α :=
 (sliceRange (cy lo hi st xs.length).1 (cy lo hi st xs.length).2.1 (cy lo hi st xs.length).2.2).filterMap (xs[·]?)
theorem agI{xs:aq V}{us:aq av}(h:Vals xs us):∀ps:aq a6,Vals (ps.filterMap (xs[·]?)) (ps.filterMap (us[·]?)):=by
 intro ps
 induction ps with
 |nil=>exact .nil
 |cons p ps ih =>
  rw[zR,zR]
  rcases BS p xs.length with q|q
  ·obtain⟨u,z,j⟩:=h.get (fF q);rw[fF q,z];exact .cons j ih
  ·rw[zQ q,zQ (by rw[<-h.length];exact q)];exact ih
theorem Uu{xs:aq V}{us:aq av}(h:Vals xs us)(lo hi st:aw a4):Vals (vF xs lo hi st) (slicePick us.toArray lo hi st).toList:=by
 have:=agI h (sliceRange (cy lo hi st xs.length).1 (cy lo hi st xs.length).2.1 (cy lo hi st xs.length).2.2);unfold vF slicePick;simpa[h.length]using this
theorem aCD{K:bj}{G:Hp}{O:aq az}{xs:aq V}{ds:aq A}(h:aU K G O xs ds):∀ps:aq a6,aU K G O (ps.filterMap (xs[·]?)) (ps.filterMap (ds[·]?)):=by
 intro ps
 induction ps with
 |nil=>exact .nil
 |cons p ps ih =>
  rw[zR,zR]
  rcases BS p ds.length with q|q
  ·obtain⟨u,z,j⟩:=h.get (fF q);rw[fF q,z];exact .cons j ih
  ·rw[zQ q,zQ (by rw[h.length];exact q)];exact ih
theorem anY{K:bj}{G:Hp}{O:aq az}{xs:aq V}{ds:aq A}(h:aU K G O xs ds)(lo hi st:aw a4):aU K G O (vF xs lo hi st) (vF ds lo hi st):=by
 unfold vF;rw[h.length];exact aCD h _
theorem anZ(us:aq av)(xs:aq V)(h:Vals xs us)(lo hi st:aw a4):(vF xs lo hi st).length<=xs.length:=by
 have e:=(Uu h lo hi st).length;have s:=slicePick_size_le us.toArray lo hi st;have l:=h.length;simp only[gL,kD]at e s;omega
def ahS(K:bj)(te:TE)(tl th tk:TO):TE:=λJ H Q=>te J H λx H1=>tl J H1 λl H2=>th J H2 λu q=>tk J q λk j =>
 ∃a xs,x=.ref a/\fO K j a xs/\k≠ao 0/\∀p,j p=au->Q (.ref p) (upd j p (.lst (vF xs l u k)))
theorem aoD{p2:dn}{U:bx}(he:PE X e te)(hl:PO X lo tl)(G:PO X hi th)(L:PO X (ao U) tk):PE X (.Subscript e (.Slice lo hi (ao U) p2) pos) (ahS X.K te tl th tk):=by
 intro aa s J H Q I h;refine Subscript_ (bC (he aa s J H _ I h) λv i ⟨x,H1,V,r1,t⟩=>?_);refine wpAny_Slice (bC (hl aa i J H1 _ V t) λB s2 ⟨l,H2,T,pl,p⟩=>bC (G aa s2 J H2 _ T p) λz g ⟨u,H3,S,y,n⟩=>?_);refine bC (L aa g J H3 _ S n) λN j ⟨k,W,R,C,m⟩=>?_;obtain⟨a,d,rfl,F,D,q⟩:=m;cases r1;have c:Inv X aa J W {j with heap:=j.heap.push {cls:=.type "slice",data:=.fields #[B,z,N]} }:=R.kept (t':=j.toks) λb ob q=>dI _ q;obtain⟨P,r,f,E⟩:=c.list F;have hlen:=r.length;have M:wpAny (bq X.prog X.w) X.A (getItem (.ref a) (.ref j.heap.objs.size)) (EP X aa J Q) X.xe {j with heap:=j.heap.push {cls:=.type "slice",data:=.fields #[B,z,N]} }:=by
  refine wpAny_getItem_list_slice f.isList (Heap.IsSliceOf.new ..) pl y C D ?_ (by rw[kD];omega);refine⟨.ref _,_,c.laid (t':=j.toks) (o:=.lst (vF d l u k)) (λb ob q=>dI _ q) cJ ?_,rfl,q _ (c.aK.fresh cJ)⟩;refine⟨rT (anZ P d r l u k) E,_,0,Uu r l u k,?_⟩;rw[Array.toArray_toList];exact gU _ rfl
 show wpAny (bq X.prog X.w) X.A (subscriptTail e (.Slice lo hi (ao U) p2) (.ref a) (.ref j.heap.objs.size)) (EP X aa J Q) X.xe {j with heap:=j.heap.push {cls:=.type "slice",data:=.fields #[B,z,N]} };exact tail_any (ops:=[.ref a,.ref j.heap.objs.size]) f.isList.typeIs slot_list_getitem.lookup M (by with_unfolding_all rfl)
@[simp] def aaN(c:br)(a:A)(lo hi st:aw a4):Mo A:=λZ=>match dU Z a with
 |some ds=>if st=ao 0 then au else rF c (vF ds lo hi st) Z
 |none=>au
@[simp] def LC(c:br)(f:Ev->Mo A)(l h k:Ev->Mo (aw a4)):Ev->Mo A:=λY=>mb (f Y) λa=>mb (l Y) λlo=>mb (h Y) λhi=>mb (k Y) λst=>aaN c a lo hi st
theorem af0(c:br){n:bx}{fl y s:Ev->Mo (aw a4)}{p2:dn}(he:VE X W e fa)(hl:VO X W lo fl)(hh:VO X W hi y)(hk:VO X W (ao n) s):VE X W (.Subscript e (.Slice lo hi (ao n) p2) pos) (LC c fa fl y s):=by
 obtain⟨t,V,M⟩:=he;obtain⟨u,p2,s2⟩:=hl;obtain⟨u',T,L⟩:=hh;obtain⟨u2,S,K⟩:=hk;refine⟨_,aoD V p2 T S,λG C E H J z Q w r h=>?_⟩;refine M G C E H J z _ w r (bD.mb h λx f v H1 G1 U i w1 d1 h1=>?_);refine s2 G1 U f H1 J z _ w1 (r.ext i) (bD.mb h1 λo b o' H2 G2 N g w2 d2 h2=>?_);cases(show o'=o from d2);refine L G2 N b H2 J z _ w2 ((r.ext i).ext g) (bD.mb h2 λk a k' H3 G3 B m w3 d3 h3=>?_);cases(show k'=k from d3);refine K G3 B a H3 J z _ w3 (((r.ext i).ext g).ext m) (bD.mb h3 λj D j' H4 G4 A I w4 d4 q=>?_);cases(show j'=j from d4);have d:=d1.ext ((g.trans m).trans I);unfold aaN at q;split at q
 ·rename_i ds e;split at q
  ·exact False.elim q
  ·rename_i hj;obtain⟨p,F,rfl,R,P⟩:=xB w4 d e;exact⟨p,F,rfl,R,hj,λl hl=>HU w4 hl (anY P o k j) q⟩
 ·exact False.elim q
end
end V2
namespace L2
open PySem PySem.Spec PyProof.Rows
section
variable{X:Cx}
theorem am4{elt tg iter:bx}{ifs:aq bx}{scope:cn}{pos l pos':dn}{j:aq ba}{js:aq a6}{wi:TI}{g:TG}{tc:TT}{te:TE}{k:a6}{x:ba}(Q:X.N.Nodup)(y:X.N[k]?=ao x)(n:Loc X.env.scope x)(P:X.calm=a5)(L:wI X scope j js)(hi:PI X tg iter wi)
  (hb:∀cl C s H fp,PG (iJ X scope j js cl C s H fp) tg g/\FG (iJ X scope j js cl C s H fp) ifs tc/\PE (iJ X scope j js cl C s H fp) elt te)
  (Gb:ej (.ListComp elt [⟨tg,iter,ifs,0⟩] scope pos) (ao (.Name x pos')) l.line X.env=pure a5)
  (G:∀x,cw iter X.env x=pure x) (M:X.fn x=a5\/X.env.scope.names.lookup x=ao .local):PS X (.Assign [.Name x pos'] (.ListComp elt [⟨tg,iter,ifs,0⟩] scope pos) l) (SU (SR j js wi g tc te) (Je k)):=by
 intro aa s J H D I h;rw[exec_Assign_Name_used _ _ _ _ Gb];refine aJ (wpAny_standAt (aJ ?_));show wpAny _ X.A (do let _<-comprehension (.ListComp elt [⟨tg,iter,ifs,0⟩] scope pos) scope X.env _ (newList []) ax (cj iter X.env) (ao (assign (.Name x pos') X.env))) _ _ s;refine aJ (lV (Wz (use:=ao (assign (.Name x pos') X.env)) (R:=λ_ s'=>SP X aa D .next s') P L hi hb G I h λd C H5 o E V i Gu p=>?_) (λ_ s' K=>aY (aY K)) λ_ _ e=>e);obtain⟨B,U,a,c,f,F,S⟩:=id Gu;have T:=V.pinned (fp:=[C]) (λb hb=>by rw[lT.mp hb];exact i) λb hb=>⟨B,by rw[lT.mp hb];exact c,λv z=>by rw[f]at z;cases z⟩
 refine bC (Uw (pos:=pos') Q y n M _ o J H5 (.ref d) _ _ T rfl p) λ_ s8 ⟨q,W,m,r⟩=>?_;obtain⟨t,w,_⟩:=m.pin (C,B) (kK _ (kK _ (MU (YV _) c)));exact⟨E,⟨B,U,a,t,f,F,S⟩,λh' u=>⟨q,W,m.LK.back ⟨w,i.2⟩ u,r⟩⟩
end
end L2
namespace V2
open PySem PySem.Spec PyProof.Rows L2
theorem afN{X:Cx}{W:WX}{elt tg iter:bx}{ifs:aq bx}{scope:cn}{pos q pos':dn}{fi:Ev->Mo Src}{g:A->MS}{c:Ev->Mo br}{e:Ev->Mo A}{i:a6}{x:ba}(m:br)(j:aq ba)(js:aq a6)(l:X.N.Nodup)(a:X.N[i]?=ao x)(z:Loc X.env.scope x)(k:X.calm=a5)(L:wI X scope j js)(hi:VI X W tg iter fi)
  (hb:∀cl C s H fp,VG (iJ X scope j js cl C s H fp) qH tg g/\FC (iJ X scope j js cl C s H fp) qH ifs c/\VE (iJ X scope j js cl C s H fp) qH elt e)
  (n:ej (.ListComp elt [⟨tg,iter,ifs,0⟩] scope pos) (ao (.Name x pos')) q.line X.env=pure a5:=by rfl)
  (b:∀x,cw iter X.env x=pure x:=by intro _;rfl) (f:X.fn x=a5\/X.env.scope.names.lookup x=ao .local:=by first|exact .inl rfl|exact .inr rfl|assumption) :
  VS X W (.Assign [.Name x pos'] (.ListComp elt [⟨tg,iter,ifs,0⟩] scope pos) q) (bN (mT m j.length js fi g c e) (gN i)):=by
 obtain⟨o,U,B⟩:=hi;exact⟨_,am4 l a z k L U (λcl C s H fp=>⟨(hb cl C s H fp).1.uK,(hb cl C s H fp).2.1.uK,(hb cl C s H fp).2.2.uK⟩) n b f,Bt (Sx _ B Sz TF TF) λ_ _ _ _ _ _ _ _ _ w r d h=>wZ w (r.set i d) h⟩
end V2
namespace L2
open PySem PySem.Spec PyProof.Rows
def Mc(ts:aq az)(H:Hp):Prop:=∀b,H b=au\/(∃o xs,H b=ao (.eI o (.lst xs)))\/(b∈ts/\H b=ao (.jC #[]))
def yF(h:bz)(mg:ba->aw av):Prop:=∃j o,mg "__builtins__" = ao (.ref j)/\j≠builtinsNs/\h.get? j=ao o/\o.cls=.type "module"/\o.dict=ao builtinsNs/\o.data=.plain
theorem asQ{P:bh}{w:bw}{K:bj}{mg mb:ba->aw av}{CX:oF}{k:a6}{fa a:az}{fd:c3}{x:ba}{sp:Sp}{s₁:ay}{vs:aq av}{ns:aq a4}{ts:aq az}
  (X:K.In s₁.heap) (zA:s₁.heap.Ns a7 mg) (hb:s₁.heap.Ns builtinsNs mb) (D:∀x:ba,x≠"__name__"->mb x=dq x) (R:s₁.heap.NoLimit) (hg:s₁.gens=#[])
  (hT:∀P∈ts,s₁.heap.get? P=ao (tabObj #[])) (OG:noTabs K=a5) (Ik:∀P∈ts,isCodeTable s₁.heap P)
  (N:s₁.heap.get? a=ao {cls:=.type "list",data:=.seq vs.toArray}) (hi:de vs ns) (hl:ns.length<=bf) (hr:cK k callerA)
  (G:yF s₁.heap mg) (F:∀base:bz,K.In base->base.Ns a7 mg->yF base mg->jA P w K mg base CX k fa fd [x] sp) (EC:∀(s:ay) (u:av),BindsTo s fd ⟨[u],[]⟩ [(x,u)])
  (gS:∀H:Hp,Mc ts H->(∀P∈ts,H P=ao (.jC #[]))->fO K H a (ns.map V.int)->sp [.ref a] H (λv _=>v=.bl a5) λ_ _ _=>cp)
  (Iq:∀H e s',CX [] H s₁ (λ_ _ _=>cp) e s'->cp) :
  codeAny (bq P w) callerA (.call (.ref fa) ⟨[.ref a],[]⟩) (λr s'=>r=.ok (.ret (.bool a5))/\OldK s₁.heap s'.heap/\s'.os=s₁.os/\AllBare s'.gens) s₁:=by
 have rv:=RZ hi;have S:=hi.length;have E:∀b∈ts,K.lookup b=au:=λb A=>by
  cases q:K.lookup b with
  |none=>rfl
  |some o =>
   have e:=X b o q;rw[hT b A]at e;cases e;exact b7 (show ax=a5 from FR.mp OG (b,_) (PySem.W.mem_of_lookupK q)) ad6
 have Zt:a∉ts:=λz=>by
  have e:=hT a z;rw[N]at e;cases e
 have core:∀H:Hp,Mc ts H->(∀P∈ts,H P=ao (.jC #[]))->fO K H a (ns.map V.int)->fR P w H s₁.heap->(∀b,H b≠au->b=a\/b∈ts)->(H a≠au->K.lookup a=au) ->
   codeAny (bq P w) callerA (.call (.ref fa) ⟨[.ref a],[]⟩) (λr s'=>r=.ok (.ret (.bool a5))/\OldK s₁.heap s'.heap/\s'.os=s₁.os/\AllBare s'.gens) s₁:=by
  intro H hO OE hS aK L hK;have T:∀{b:az} {o:c6},s₁.heap.get? b=ao o->H b=au->(xH s₁.heap H).get? b=ao o:=λe n=>axG e n;have yT:∀{b:az} {o:c6} {es:a8 DictEntry} {U:a6},s₁.heap.get? b=ao o->o.data=.dict es U->H b=au:=λ{b o es U} e d=>by
   cases q:H b with
   |none=>rfl
   |some u =>
    rcases L b (by rw[q];simp)with j|j
    ·subst j;rw[N]at e;cases e;have d':Data.seq vs.toArray _=Data.dict es U:=d;cases d'
    ·rw[hT b j]at e;cases e;have d':Data.fields #[]=Data.dict es U:=d;cases d'
  have t:∀{b:az} {m:ba->aw av},s₁.heap.Ns b m->(xH s₁.heap H).Ns b m:=λ{b m} ⟨o,es,U,e,d,r⟩=>⟨o,es,U,T e (yT e d),d,r⟩
  have f:K.In (xH s₁.heap H):=λb o e=>T (X b o e) (by
   cases q:H b with
   |none=>rfl
   |some u =>
    rcases L b (by rw[q];simp)with j|j
    ·subst j;rw[hK (by rw[q];simp)]at e;cases e
    ·rw[E b j]at e;cases e)
  have hM:Mod K mg (xH s₁.heap H):=⟨f,t zA,⟨mb,t hb,D⟩,let ⟨mc,h1,h2⟩:=R; ⟨mc,t h1,h2⟩⟩;have e0:zW P w K mg (xH s₁.heap H) callerA [] s₁ H:=⟨rfl,hM,λb o e=>ap7 e,Nat.le_of_eq (axF _ _),trivial,λb hb=>b7 (show b∈([]:aq az)from hb) (by simp),aK,.of_eq hg⟩;have I:yF (xH s₁.heap H) mg:=by
   obtain⟨p,o,b1,b2,i,Q,b5,b6⟩:=G;refine⟨p,o,b1,b2,T i ?_,Q,b5,b6⟩;cases q:H p with
   |none=>rfl
   |some u =>
    rcases L p (by rw[q];simp)with j|j
    ·subst j;rw[N]at i;cases i;exact b7 (show Value.type "list" = Value.type "module" from Q) (by decide)
    ·rw[hT p j]at i;cases i;cases Q
  refine uJ ((F _ f (t zA) I).run callerA [] s₁ H ⟨[.ref a],[]⟩ [.ref a] [.ref a] _ _ hr e0 (EC s₁ (.ref a)) (.cons rfl .nil) (gS H hO OE hS)) λr s' h=>?_;cases r with
  |error e=>exact(Iq H e s' h).elim
  |ok fl =>
   cases fl with
   |next=>exact False.elim h
   |brk=>exact False.elim h
   |cont=>exact False.elim h
   |ret u =>
    obtain⟨v,H',os,bare,un,VF,r',q⟩:=h;have q':v=.bl a5:=q;subst q';obtain rfl:u=Value.bool a5:=r';have key:∀b o,s₁.heap.get? b=ao o->s'.heap.get? b=ao o\/(b∈ts/\∃more,s'.heap.get? b=ao {o with data:=.fields (#[]++more)}):=λb o e=>by
     cases q:H b with
     |none=>exact .inl (un.keep b o e q (by intro z;exact b7 (show b∈([]:aq az)from z) (by simp)) (by simp))
     |some u =>
      rcases hO b with z|⟨ob,xs,z⟩|⟨c,z⟩
      ·rw[q]at z;cases z
      ·have y:=un.lP b ob _ z;obtain⟨e1,_⟩:=aK b _ z;obtain⟨M,_⟩:=VF b _ y;rw[e]at e1;cases e1;exact .inl M
      ·obtain⟨more,y⟩:=un.mW b _ z;have M:=VF b _ y;have e3:s'.heap.get? b=ao {cls:=.none,data:=.fields (#[]++more)}:=M;have g:=hT b c;rw[e]at g;cases g;exact .inr ⟨c,more,e3⟩
    refine⟨rfl,⟨λb o e=>?_,λb o e=>?_⟩,os,bare⟩
    ·rcases key b o e with z|⟨c,more,z⟩
     ·exact .inl z
     ·have g:=hT b c;rw[e]at g;cases g;exact .inr (.inl ⟨Ik b c,rfl,#[],more,rfl,z⟩)
    ·rcases key b o e with z|⟨c,more,z⟩
     ·exact⟨_,z⟩
     ·exact⟨_,z⟩
 have tk:∀b∈ts,iO P w (λb=>if b=a then ao (.eI {cls:=.type "list",data:=.seq vs.toArray} (.lst (ns.map V.int)))else if b∈ts then ao (.jC #[])else au) s₁.heap b (.jC #[]):=λb A=>hT b A;cases C:K.lookup a with
 |some o =>
  have e:=X a o C;rw[N]at e;cases e;refine core (λb=>if b∈ts then ao (.jC #[])else au) (λb=>?_) (λP l=>a9 l) (.inr ⟨_,vs.toArray,_,C,rfl,rfl,rfl,by rw[kD,S];exact hl,by simpa using rv⟩) (λb u z=>?_) (λb z=>?_) λz=>?_
  ·by_cases hb:b∈ts
   ·exact .inr (.inr ⟨hb,a9 hb⟩)
   ·exact .inl (bb hb)
  ·by_cases hb:b∈ts
   ·have B:=(a9 hb).symm.trans z;cases B;exact hT b hb
   ·have B:=(bb hb).symm.trans z;cases B
  ·by_cases hb:b∈ts
   ·exact .inr hb
   ·exact b7 (bb hb) z
  ·exact b7 (bb Zt) z
 |none =>
  refine core (λb=>if b=a then ao (.eI {cls:=.type "list",data:=.seq vs.toArray} (.lst (ns.map V.int)))else if b∈ts then ao (.jC #[])else au) (λb=>?_) (λP l=>?_) (.inl (.inr ⟨{cls:=.type "list",data:=.seq vs.toArray},a9 rfl⟩)) (λb u z=>?_) (λb z=>?_) λ_=>C
  ·by_cases hb:b=a
   ·exact .inr (.inl ⟨_,_,a9 hb⟩)
   ·by_cases jY:b∈ts
    ·exact .inr (.inr ⟨jY,(bb hb).trans (a9 jY)⟩)
    ·exact .inl ((bb hb).trans (bb jY))
  ·have eX:P≠a:=λz=>Zt (z ▸ l);exact(bb eX).trans (a9 l)
  ·by_cases hb:b=a
   ·have B:=(a9 hb).symm.trans z;cases B;subst hb;exact⟨N,by rw[jG];exact hl,vs,_,rv,N⟩
   ·by_cases jY:b∈ts
    ·have B:=((bb hb).trans (a9 jY)).symm.trans z;cases B;exact hT b jY
    ·have B:=((bb hb).trans (bb jY)).symm.trans z;cases B
  ·by_cases hb:b=a
   ·exact .inl hb
   ·by_cases jY:b∈ts
    ·exact .inr jY
    ·exact b7 ((bb hb).trans (bb jY)) z
theorem afF{l:OpenLaw}{n k:a6}{q:bh}{loose:aq ba}{XP:(ba->aw av)->bz->Prop}{YP:bw->bz->Prop}{d:DefRec}{K:Params->bj}{CX:bw->oF}{sp:bw->Sp}{x:ba}{ts:aq az}
  (hn:l.most=ao n) (B:n<=bf) (L:d.params.defaults=[]) (hr:cK k callerA)
  (i:∀(w:bw) (h:bz),YP w h->(K w.params).In h/\∀P∈ts,h.get? P=ao (tabObj #[]))
  (E:∀w:bw,noTabs (K w.params)=a5)
  (F:∀(w:bw) (mg:ba->aw av) (fa:az) (h:bz),(K w.params).In h->h.Ns a7 mg->mg d.name=ao (.ref fa) ->
   ∃fd:c3,(∀(s:ay) (u:av),BindsTo s fd ⟨[u],[]⟩ [(x,u)])/\(∀P∈ts,∃c,codeHdIn (K w.params) c P=a5) /\
    ∀base:bz,(K w.params).In base->base.Ns a7 mg->yF base mg->jA l.prog w (K w.params) mg base (CX w) k fa fd [x] (sp w))
  (r:∀(w:bw) (H:Hp) (a:az) (ns:aq a4),ns.length<=n->Mc ts H->(∀P∈ts,H P=ao (.jC #[]))->fO (K w.params) H a (ns.map V.int)->sp w [.ref a] H (λv _=>v=.bl a5) λ_ _ _=>cp)
  (Q:∀(w:bw) (H:Hp) (s:ay) (e:av) (s':ay),CX w [] H s (λ_ _ _=>cp) e s'->cp) :
  PySem.W.WalkO q loose XP YP l.row.toRowW d [] (λf vs=>PySem.call f vs):=by
 refine Att.aF9 hn L λw s₀ s₁ mg mb fa o X cd doc a vs ns G ρ ho hd gD M S hints hlen N=>?_;obtain⟨j,hT⟩:=i w _ ρ;obtain⟨fd,hb,R,p⟩:=F w mg fa _ j G.T.g M;refine asQ j G.T.g G.T.b G.T.builtins G.T.nolimit N hT (E w) (λP z=>?_) S hints (rT hlen B) hr (let ⟨t,ob,b1,b2,D,C,A,y⟩:=G.T.bmain; ⟨t,ob,b1,b2,D,C,A,y⟩) p hb (λH m I hS=>r w H a ns hlen m I hS) λH e s'=>Q w H s₁ e s';obtain⟨c,U⟩:=R P z;exact((PySem.W.codeHd_of_K j U).tab (hT P z)).isCodeTable
structure xY(h:bz)(H:Hp)(f:az)(qual:ba)(params:dj)(body:bx)(scope:cn)(cU:aq (ba×a4)):Prop where
 ex:∃(cl:aq (ba×az)) (pm gK:av) (c':az) (oc:c6) (vs:a8 av) (t:Tok),
  H f=ao (.eI (kla_obj "<lambda>" qual params body scope cl pm c' gK) (.own 0))/\H c'=ao (.eI oc (.own 0))/\oc.data=.fields vs/\vs[1]?=ao (.str qual t) /\
  (∀x y c,cl.lookup x=ao c->cl.lookup y=ao c->x=y)/\(∀y∈scope.names,y.2=.free->∃c,cl.lookup y.1=ao c) /\
  (∀x c,cl.lookup x=ao c->(∃v,h.IsCell c v)/\H c=au)/\∀p∈cU,∃c t,cl.lookup p.1=ao c/\h.IsCell c (ao (.int p.2 t))
theorem xY.oJ{h h':bz}{H H':Hp}{f:az}{qual:ba}{params:dj}{body:bx}{scope:cn}{cU:aq (ba×a4)}{fs:aq az}(L:xY h H f qual params body scope cU)(u:Un fs [] H H' h h'):xY h' H' f qual params body scope cU:=by
 obtain⟨cl,pm,m,r,a,N,t,h1,h2,l,k,i,g,B,d⟩:=L.ex;have cell:∀{x c v},cl.lookup x=ao c->h.IsCell c v->h'.IsCell c v:=λ{x c v} e ⟨o,z,hd⟩=>by
  obtain⟨sl,q⟩:=u.any z (B x c e).2 (by simp);exact⟨_,q,hd⟩
 refine⟨cl,pm,m,r,a,N,t,u.lP _ _ _ h1,u.lP _ _ _ h2,l,k,i,g,λx c e=>?_,λp b=>?_⟩
 ·obtain⟨⟨v,j⟩,n⟩:=B x c e;obtain⟨o,z,_⟩:=id j;exact⟨⟨v,cell e j⟩,u.free _ _ z n (by simp)⟩
 ·obtain⟨c,U,e,j⟩:=d p b;exact⟨c,U,e,cell e j⟩
noncomputable def BJ(P:bh)(w:bw)(K:bj)(mg:ba->aw av)(base:bz)(N:aq ba)(qual:ba)(scope:cn)(f:az)(j:av)(cl:aq (ba×az))(A:bu)(outer:aq Env)(s:ay)(H:Hp):Cx where
 prog:=P
 w:=w
 K:=K
 mg:=mg
 base:=base
 A:=A.deeper (envX qual scope s.heap.objs.size f j cl)
 N:=N
 s₀:=s
 H₀:=H
 env:=envX qual scope s.heap.objs.size f j cl
 outer:=outer
 stack:=envX qual scope s.heap.objs.size f j cl::outer
 ex:=[]
 calm:=a5
 fn:=λ_=>ax
 pn:=[]
 xe:=λ_ _=>cp
structure KI(scope:cn)(y:ba)(cs:aq ba):Prop where
 kind:scope.kind=.function
 co:scope.isCoroutine=ax
 gen:scope.isGenerator=ax
 Vt:∀x∈scope.names,x.2≠.cell
 par:scope.names.lookup y=ao .local
 XJ:∀x∈cs,scope.names.lookup x=ao .free
section
variable{P:bh}{w:bw}{K:bj}{mg:ba->aw av}{base:bz}{A:bu}{outer:aq Env}{s:ay}{H:Hp}
theorem asS{f:az}{qual:ba}{params:dj}{body:bx}{scope:cn}{cU:aq (ba×a4)}{y:ba}{u:av}{v:V}{Q:VK}{E:XK}{k:a6}
  (hr:cK (k+1) A) (j:zW P w K mg base A outer s H) (L:xY s.heap H f qual params body scope cU) (S:KI scope y (cU.map (·.1)))
  (EC:∀cl n c' D,dk (kla_fn "<lambda>" qual params body scope cl n (.ref c') D) ⟨[u],[]⟩=pure [(y,u)]) (rv:RelV v u)
  (hb:∀cd cl,∃te,PE (BJ P w K mg base (y::cU.map (·.1)) qual scope f cd cl A outer s H) body te/\te (ao v::cU.map λp=>ao (.int p.2)) H Q) :
  codeAny (bq P w) A (.call (.ref f) ⟨[u],[]⟩) (CR yE outer P w H s Q E) s:=by
 obtain⟨cl,n,D,c',M,vs,t,h1,h2,h3,h4,h5,h6,R,h8⟩:=L.ex;have of:s.heap.get? f=ao (kla_obj "<lambda>" qual params body scope cl n c' D):=(j.aK f _ h1).1;have r:s.heap.get? c'=ao M:=(j.aK c' _ h2).1;have lim:s.heap.NoLimit:=j.mod.nolimit.keeps λb o e=>(j.bs b o e).1;refine PySem.W.kla_callFunE (by have:=hr.dp;omega) of rfl S.co S.gen rfl ⟨c',M,vs,t,rfl,r,h3,h4⟩ ?_;rw[EC];refine aY (wpAny_newFunctionEnv S.Vt (λx B=>by rw[lT.mp B];exact S.par) (λN X nA=>?_) S.kind);have d:∀b o,s.heap.get? b=ao o->N.get? b=ao o:=λb o e=>nA.extBut b o (fW (dQ e)) (dI _ e);refine⟨lim.keeps d,?_⟩;show codeAny _ _ (.expr body (envX qual scope s.heap.objs.size f (.ref c') cl)) _ _;obtain⟨te,pe,hq⟩:=hb (.ref c') cl;have l:∀b:az,b∉(BJ P w K mg base (y::cU.map (·.1)) qual scope f (.ref c') cl A outer s H).ex:=λb z=>b7 (show b∈([]:aq az)from z) (by simp);have I:Inv (BJ P w K mg base (y::cU.map (·.1)) qual scope f (.ref c') cl A outer s H) [] (ao v::cU.map λp=>ao (.int p.2)) H {s with heap:=N,toks:=s.toks+1}:=by
  refine⟨⟨j.mod,S.kind,rfl,rfl,rV _,h5,λx B=>?_,λx c z=>(by cases z),λ_=>hr.hd,Around.frames_deeper j.frames,.inr ⟨rfl,rfl⟩,λb z=>b7 z (l b),j.bs,j.rO,λb _ _=>l b,λb z=>b7 z (l b),j.oS,j.uI⟩,
   rfl,j.bare,Un.kept d,⟨_,X,λi x a T h e3=>?_⟩,λx c e=>?_,j.aK.fresh cJ,λx c e=>(R x c e).2,λp g=>b7 (show p∈([]:aq (az×c6))from g) (by simp),j.aK.kept d,?_⟩
  ·have B:scope.names.lookup x=ao .cell\/scope.names.lookup x=ao .free:=B
   rcases B with B|B
   ·exact b7 rfl (S.Vt _ (PySem.mem_of_lookup B))
   ·exact h6 _ (PySem.mem_of_lookup B) rfl
  ·cases i with
   |zero =>
    have U:y=x:=by simpa[BJ]using T
    have F:v=a:=by simpa using h
    subst U F;exact⟨u,rv,.inl ⟨S.par,by simp⟩⟩
   |succ i =>
    have U:(cU.map (·.1))[i]?=ao x:=by simpa[BJ]using T
    rw[jH]at U;simp only[Mt,jH]at h;cases q:cU[i]? with
    |none=>rw[q]at U;cases U
    |some p =>
     rw[q]at U h;have Jt:p.1=x:=kJ U;have F:V.int p.2=a:=kJ (kJ h);subst Jt F;have g:p∈cU:=mJ q;obtain⟨c,G,ec,C⟩:=h8 p g;exact⟨.int p.2 G,⟨G,rfl⟩,.inr ⟨.inr (S.XJ _ (adP g)),c,ec,C.keeps d⟩⟩
  ·obtain⟨⟨a,C⟩,_⟩:=R x c e;exact⟨a,C.keeps d⟩
  ·simp[BJ]
 refine PySem.W.kla_codeExpr (lV (pe [] _ _ H Q I hq) (λa s' h'=>?_) λe s' h'=>h'.elim);obtain⟨x,H',σ,m,q⟩:=h';exact⟨x,H',σ.os,σ.bare,σ.base,σ.aK,m,q⟩
end
end L2
namespace V2
open PySem PySem.Spec PyProof.Rows L2
@[simp] noncomputable def tY(m:Mo A):Mo A:=λZ=>match m Z with
 |some (.exc _,_)=>au
 |r=>r
@[simp] def sQ(fb:Ev->Mo A)(ns:aq a4):A->Mo A:=λa=>tY (fb (ao a::ns.map λn=>ao (.int n)))
open Classical in
@[simp] noncomputable def Al(i:a6)(lf:az)(g:A->Mo A)(fa:Ev->Mo A):Ev->Mo A:=λY=>match (Y[i]?).join with
 |some (.adr q)=>if q=lf then mb (fa Y) g else stuck
 |_=>stuck
def adT(P:bh)(w:bw)(K:bj)(mg:ba->aw av)(base:bz)(qual:ba)(body:bx)(scope:cn)(y:ba)(cs:aq ba)(fb:Ev->Mo A):Prop :=
 ∀(f:az) (j:av) (cl:aq (ba×az)) (A:bu) (outer:aq Env) (s:ay) (H:Hp),cK 0 (A.deeper (envX qual scope s.heap.objs.size f j cl)) ->
  VE (BJ P w K mg base (y::cs) qual scope f j cl A outer s H) qH body fb
section
variable{X:Cx}{W:WX}{e:bx}{fa:Ev->Mo A}{p pos:dn}
theorem af5{i:a6}{z:ba}{U:az}{qual:ba}{params:dj}{body:bx}{scope:cn}{cU:aq (ba×a4)}{y:ba}{fb:Ev->Mo A}
  (hex:X.ex=[]) (L0:xY X.s₀.heap X.H₀ U qual params body scope cU) (S:KI scope y (cU.map (·.1))) (hr:cK 1 X.A)
  (EC:∀(u:av) cl pm c' gK,dk (kla_fn "<lambda>" qual params body scope cl pm (.ref c') gK) ⟨[u],[]⟩=pure [(y,u)])
  (hV:adT X.prog X.w X.K X.mg X.base qual body scope y (cU.map (·.1)) fb)
  (hN:X.N[i]?=ao z) (hv:QJ X.env.scope z) (he:VE X W e fa) (hd:(z==("__debug__" : ba))=ax:=by decide) (gD:(z==("__classdict__" : ba))=ax:=by decide)
  (lO:bg [e] X.env=[(ax,cj e X.env)]:=by rfl) :
  VE X W (.Call (.Name z p) [e] [] pos) (Al i U (sQ fb (cU.map (·.2))) fa):=by
 obtain⟨t,p1,L⟩:=he;refine⟨λJ H Q=>J[i]?=ao (ao (.ref U))/\t J H λv c=>∀(f:az) (m:av) (cl:aq (ba×az)) (A:bu) (outer:aq Env) (s:ay),cK 0 (A.deeper (envX qual scope s.heap.objs.size f m cl)) ->
   ∃C,PE (BJ X.prog X.w X.K X.mg X.base (y::cU.map (·.1)) qual scope f m cl A outer s c) body C/\C (ao v::cU.map λp=>ao (.int p.2)) c Q,?_,?_⟩
 ·intro aa s J H Q I ⟨M,ht⟩;refine CV (bC (Dx hN hv hd gD aa s J H (λv c=>v=.ref U/\c=H) I ⟨_,M,rfl,rfl⟩) λfv s0 ⟨v0,H0,I0,r0,e0,e1⟩=>?_);subst e0 e1;cases r0;have fnAt:∀{aa:aq (az×c6)} {J:L2.St} {H:Hp} {s:ay},Inv X aa J H s->xY s.heap H U qual params body scope cU/\PySem.W.FnAt U s.heap:=λ{aa J H s} σ=>by
   have u:=σ.base;rw[hex]at u;have La:=L0.oJ u;obtain⟨cl,pm,gK,c',oc,vs,t,h1,_⟩:=La.ex;exact⟨La,⟨_,_,_,_,(σ.aK _ _ h1).1⟩⟩
  refine PySem.W.callWith_F (fnAt I0).2 ?_ lO rfl;rw[lO];refine Oa (bC (p1 aa s0 J H0 _ I0 ht) λu L ⟨v,c,D,r1,q1⟩=>?_);refine Calls.spliced_nil ⟨(fnAt D).2,?_⟩;refine GP (uJ (asS (E:=λ_ _ _=>cp) (k:=0) hr D.IY (fnAt D).1 S (EC u) r1 λm cl=>q1 U m cl X.A X.stack L (hr.deeper _)) λr s' B=>?_);cases r with
  |error ev=>exact False.elim B
  |ok fl =>
   cases fl with
   |ret u=>exact D.after B
   |next=>exact False.elim B
   |brk=>exact False.elim B
   |cont=>exact False.elim B
 ·intro G O Z H J R Q w r h;simp only[Al]at h;cases q:(R[i]?).join with
  |none=>rw[q]at h;exact False.elim h
  |some d =>
   rw[q]at h;cases d with
   |adr q0 =>
    simp only at h
    by_cases B:q0=U
    ·rw[a9 B]at h;subst B;obtain⟨v,Fz,UX⟩:=r.2 i _ (join_some q);simp only[Den]at UX;subst UX;refine⟨Fz,L G O Z H J R _ w r (bD.mb h λa g v c G1 o x1 w1 d1 h1=>?_)⟩;intro f m cl A outer s P;obtain⟨C,pe,sm⟩:=hV f m cl A outer s c P;refine⟨C,pe,sm G1 o g c _ (ao a::(cU.map (·.2)).map λn=>ao (.int n)) Q w1 ?_ ?_⟩
     ·refine⟨by simp,λj d l=>?_⟩;cases j with
      |zero=>simp at l;subst l;exact⟨v,rfl,d1⟩
      |succ j =>
       simp only[Mt,jH]at l ⊢;cases T:cU[j]? with
       |none=>rw[T]at l;cases l
       |some V =>
        rw[T]at l;have:V2.A.int V.2=d:=kJ (kJ l);subst this;exact⟨.int V.2,rfl,by simp only[Den]⟩
     ·have h2:bD X.K (Den X.K) W G1 o J Q (tY (fb (ao a::(cU.map (·.2)).map λn=>ao (.int n))) g):=h1
      revert h2
      simp only[tY];generalize fb (ao a::(cU.map (·.2)).map λn=>ao (.int n)) g=r2;intro h2
      match r2,h2 with
      |some (.ok b,F),h2=>exact h2
      |some (.exc x,F),h2=>exact False.elim h2
      |none,h2=>exact h2
    ·rw[bb B]at h;exact False.elim h
   |_=>exact False.elim h
end
end V2
namespace L2
open PySem PySem.Spec PyProof.Rows
def Ny(X:Cx)(scope:cn)(cl:aq (ba×az)):Prop:=(∀x c,cl.lookup x=ao c->X.env.cells.lookup x=ao c)/\∀y∈scope.names,y.2=.free->∃c,cl.lookup y.1=ao c
abbrev DV(qual:ba)(params:dj)(body:bx)(scope:cn)(cl:aq (ba×az))(j:av)(c':az)(q:av):HO:=.eI (kla_obj "<lambda>" qual params body scope cl j c' q) (.own 0)
def Bh(X:Cx)(P:az)(qual:ba)(params:dj)(body:bx)(scope:cn)(dF:dn):TE:=λ_ H Q=>∃ps,H P=ao (.jC ps)/\TriplesOk ps.toList /\
 ((codeAmong dF ps.toList=au/\∀cl,Ny X scope cl->∀f c' j vs t q z,H f=au->H c'=au->c'≠f->j.data=.fields vs->vs[1]?=ao (.str qual t) ->
   Q (.ref f) (upd (upd (upd H c' (.eI j (.own 0))) P (.jC (ps ++ #[ck dF.line,ck dF.col,.ref c']))) f (DV qual params body scope cl q c' z))) \/
(∃c',codeAmong dF ps.toList=ao (.ref c')/\∀cl,Ny X scope cl->∀f pm gK,H f=au->Q (.ref f) (upd H f (DV qual params body scope cl pm c' gK))))
section
variable{X:Cx}
theorem aoP{params:dj}{body:bx}{scope:cn}{dF:dn}{c P:az}{qual:ba}(IS:X.env.code=.ref c)(hq:X.env.qual ++ "<lambda>" = qual)(OH:codeHdIn X.K c P=a5)(hB:yF X.base X.mg)
  (OA:defaultsOf params X.env=([],[])) (zC:∀y∈scope.names,y.2=.free->X.env.kindOf y.1=ao .cell\/X.env.kindOf y.1=ao .free):PE X (.Lambda params body scope dF) (Bh X P qual params body scope dF):=by
 intro aa s J H Q I h;obtain⟨g,B,M,h⟩:=h;obtain⟨cl,gC,S,L⟩:=abT (scope:=scope) (env:=X.env) λy hy hf=>I.ok.has y.1 (zC y hy hf);have k:s.heap.get? P=ao (tabObj g):=I.aK P _ B;have C:PySem.W.CodeHd s.heap c P:=PySem.W.codeHd_of_K I.fY OH;have R:s.heap.Ns a7 X.mg:=I.mod.glob.keeps I.bk;obtain⟨og,es,ep,eg,dg,rg⟩:=id I.mod.glob;have x:a7≠P:=λq=>by
  have:=(I.bs _ _ eg).2;rw[q,B]at this;cases this
 obtain⟨D,ob,b1,b2,r,b4,b5,E⟩:=hB;have A:D≠P:=λq=>by
  have:=(I.bs _ _ r).2;rw[q,B]at this;cases this
 have Hy:D≠a7:=λq=>by
  rw[q,eg]at r;cases r;rw[dg]at E;cases E
 have hb:s.heap.BuiltinsAt X.mg P:=⟨D,ob,b1,b2,Hy,A,I.bk _ _ r,b4,b5,E⟩;refine PySem.W.kla_eval OA ?_;rw[hq]
 rcases h with⟨hn,h⟩|⟨j,hn,h⟩
 ·refine PySem.W.kla_makeFunction (mg:=X.mg) gC I.ok.glob R IS C k M hn x hb λj l h' tk p T cM F Xw=>?_;obtain⟨V,f,vs,t,e2,NJ,hd,hv⟩:=F;cases e2;have U:H j=au:=I.aK.fresh T;have Hx:j≠P:=λq=>by rw[q,B]at U;cases U
  have ne:∀b o,s.heap.get? b=ao o->b≠j:=λb o e z=>by
   have:=dQ e;rw[z]at this;exact b7 (lH this T) (Nat.lt_irrefl _)
  have at':∀b,b≠P->b≠j->upd (upd H j (.eI f (.own 0))) P (.jC (g ++ #[ck dF.line,ck dF.col,.ref j])) b=H b:=λb h1 h2=>by rw[bR h1,bR h2]
  have un:Un (jE X.stack) [] H (upd (upd H j (.eI f (.own 0))) P (.jC (g ++ #[ck dF.line,ck dF.col,.ref j]))) s.heap h':=by
   refine⟨λb o e n _ _=>p b o (λz=>by rw[z,B]at n;cases n) e,λb o e n _ _=>⟨o.slots,p b o (λz=>by rw[z,B]at n;cases n) e⟩,λb o e n _=>?_,λb o e _=>?_,λb xs e=>?_,λb o u e=>?_,λb qs e=>?_⟩
   ·rw[at' b (λz=>by rw[z,B]at n;cases n) (ne b o e)];exact n
   ·by_cases N:b=P
    ·subst N;exact⟨_,Xw⟩
    ·exact⟨o,p b o N e⟩
   ·rw[at' b (λz=>by rw[z,B]at e;cases e) (jT e U)];exact e
   ·rw[at' b (λz=>by rw[z,B]at e;cases e) (jT e U)];exact e
   ·by_cases N:b=P
    ·subst N;rw[B]at e;cases e;exact⟨_,eZ⟩
    ·exact⟨#[],by rw[at' b N (jT e U),e];simp⟩
  have aK:fR X.prog X.w (upd (upd H j (.eI f (.own 0))) P (.jC (g ++ #[ck dF.line,ck dF.col,.ref j]))) h':=λb u e=>by
   by_cases N:b=P
   ·subst N;rw[eZ]at e;cases e;exact Xw
   ·rw[bR N]at e
    by_cases jY:b=j
    ·subst jY;rw[eZ]at e;cases e;exact⟨NJ,f,NJ⟩
    ·rw[bR jY]at e;refine(I.aK b u e).oJ (λd v OC q=>p d v (λz=>?_) q) (λd q=>?_) (λd xs q=>?_)
     ·subst z
      rcases OC with z|z
      ·exact N z.symm
      ·rw[B]at z;cases z
     ·rw[at' d (λz=>by rw[z,B]at q;cases q) (jT q U)];exact q
     ·rw[at' d (λz=>by rw[z,B]at q;cases q) (jT q U)];exact q
  have I1:Inv X aa J (upd (upd H j (.eI f (.own 0))) P (.jC (g ++ #[ck dF.line,ck dF.col,.ref j]))) {s with heap:=h',toks:=tk}:=I.PQ (s':={s with heap:=h',toks:=tk}) (ch:=[]) rfl un aK I.bare λb z=>b7 z (by simp);have m:upd (upd H j (.eI f (.own 0))) P (.jC (g ++ #[ck dF.line,ck dF.col,.ref j])) h'.objs.size=au:=I1.aK.fresh cJ;have Hq:h'.objs.size≠P:=λz=>by rw[z,eZ]at m;cases m
  have Zd:h'.objs.size≠j:=JT cM;have G:H h'.objs.size=au:=by rw[at' _ Hq Zd]at m;exact m
  refine⟨.ref h'.objs.size,_,I1.laid (t':=tk) (a:=h'.objs.size) (o:=DV qual params body scope cl ((X.mg "__name__").getD .none) j l) (λb o e=>dI _ e) cJ ⟨gU _ rfl,_,gU _ rfl⟩,rfl,?_⟩;exact h cl ⟨S,L⟩ _ j f vs t _ l G U Zd.symm hd hv
 ·refine PySem.W.kla_makeFunctionHit (mg:=X.mg) gC I.ok.glob R IS C k M hn hb λl h' tk hk i=>?_;have G:H h'.objs.size=au:=I.aK.fresh i;exact⟨.ref h'.objs.size,_,I.laid (t':=tk) (a:=h'.objs.size) (o:=DV qual params body scope cl ((X.mg "__name__").getD .none) j l) (λb o e=>dI _ (hk b o e)) i ⟨gU _ rfl,_,gU _ rfl⟩,rfl,h cl ⟨S,L⟩ _ _ l G⟩
end
theorem aBA{CX:oF}{P:bh}{w:bw}{K:bj}{mg:ba->aw av}{base:bz}{k:a6}{f:az}{name qual:ba}{params:dj}{body:aq b8}{scope:cn}{g kV doc d z ct m:av}{h l:aw az}
  {L:a8 (aw av)} {N ps:aq ba} (p:K.lookup f=ao ⟨m,l,.func (e9 name qual params body scope g kV doc d h z ct),L⟩) (M:codeIn K z qual=a5) (S:dN N ps scope)
  {A:bu} {outer:aq Env} {s:ay} {H:Hp} {args:Args} {us:aq av} {vs:aq V} {Q:VK} {E:XK} (hr:cK (k+1) A) (U:zW P w K mg base A outer s H) (hb:BindsTo s (e9 name qual params body scope g kV doc d h z ct) args (ps.zip us)) (r:Vals vs us) (hl:vs.length=ps.length)
  (C:cK k (A.deeper (c8 qual scope s.heap.objs.size f z))->∃t,oY (mG CX P w K mg base N qual scope f z A outer s H E) body t/\t {nx:=λ_ H'=>Q .aV H',rt:=Q} (start N vs) H) :
  codeAny (bq P w) A (.call (.ref f) args) (CR CX outer P w H s Q E) s:=by
 have i:K.In s.heap:=U.mod.sS.keeps λb o e=>(U.bs b o e).1;have lim:s.heap.NoLimit:=U.mod.nolimit.keeps λb o e=>(U.bs b o e).1;have R:∀y∈ps.zip us,scope.names.lookup y.1=ao .local\/(scope.names.lookup y.1=ao .cell/\((cellsFrom (s.heap.objs.size+1) scope.names []).lookup y.1).isSome=a5):=λ⟨n,v⟩ D=>by
  rcases S.par n (YU D).1 with q|q
  ·exact .inl q
  ·exact .inr ⟨q,cellsFrom_some _ _ _ (.inl q)⟩
 refine abR hr.depth (i _ _ p) rfl S.co S.gen rfl (codeRec_of i M) (hb _ _ _ _ ?_);refine Pr S.kind R λenv he c x=>?_;subst he;refine⟨lim.keeps x.toInCall.keep,codeAny_func ?_⟩;obtain⟨t,F,G⟩:=C (hr.deeper _);have I:Inv (mG CX P w K mg base N qual scope f z A outer s H E) [] (start N vs) H c:=Fv S hr.hd U hl r x;refine lV (F [] c (start N vs) H _ I G) (λfl s' B=>?_) λe s' B=>B;have fin:∀{j:St} {H':Hp} {v:V} {u:av},Inv (mG CX P w K mg base N qual scope f z A outer s H E) [] j H' s'->RelV v u->Q v H'->CE outer P w H s Q u s' :=
  λ{j H' v u} σ a q=>⟨v,H',σ.os,σ.bare,σ.base,σ.aK,a,q⟩
 cases fl with
 |ret u =>
  obtain⟨v,j,H',σ,a,q⟩:=B;exact fin σ a q
 |next =>
  obtain⟨j,H',σ,q⟩:=B;exact fin (v:=V.aV) (u:=Value.none) σ rfl q
 |brk =>
  obtain⟨_,_,_,q⟩:=B;exact False.elim q
 |cont =>
  obtain⟨_,_,_,q⟩:=B;exact False.elim q
end L2
namespace V2
open PySem PySem.Spec PyProof.Rows L2
structure Lz(K:bj)(mg:ba->aw av)(base:bz)(x:ba):Prop where
 sS:K.In base
 glob:base.Ns a7 mg
 blt:yF base mg
 hd:∃c P,tabIn K x=ao (c,P)/\codeHdIn K c P=a5
section
variable{P:bh}{w:bw}{K:bj}{mg:ba->aw av}{base:bz}
theorem cO.ofT{x:ba}{st:b8}{N ps:aq ba}{k:a6}{b:MS}(h:HasFn K mg x st)(T:Lz K mg base x)(S:dN N ps (aZ st))
  (bind:∀(kV doc pm:av) (an:aw az) (d ct:av) (us:aq av),us.length=ps.length->dk (e9 x x (jO st) (eL st) (aZ st) .none kV doc pm an d ct) ⟨us,[]⟩=pure (ps.zip us))
  (m:∀(c g:az),tabIn K x=ao (c,g)->codeHdIn K c g=a5->∀(f:az) (A:bu) (outer:aq Env) (s:ay) (H:Hp) (E:XK),cK k (A.deeper (c8 x (aZ st) s.heap.objs.size f (.ref c))) ->
   iC (oV P w K mg base N x (aZ st) f (.ref c) A outer s H E) (λ_=>E) (eL st) b):cO P w K mg base x (k+1) ps (dP N.length b):=by
 obtain⟨f,fd,hm,F⟩:=h.ex;obtain⟨c,g,i,hh⟩:=T.hd;have j:∃B z kV doc pm an ct a,fd=e9 x x (jO st) (eL st) (aZ st) .none kV doc pm an (.ref c) ct/\K.lookup f=ao ⟨B,z,.func (e9 x x (jO st) (eL st) (aZ st) .none kV doc pm an (.ref c) ct),a⟩/\codeIn K (.ref c) x=a5:=by
  obtain⟨B,z,kV,doc,pm,an,d,ct,a,rfl,U,j⟩:=F.ex;have e:(e9 x x (jO st) (eL st) (aZ st) .none kV doc pm an d ct).code=.ref c:=PySem.W.law_code T.sS T.glob i hm (T.sS _ _ U) rfl;have o:d=.ref c:=e;subst o;exact⟨B,z,kV,doc,pm,an,ct,a,rfl,U,j⟩
 have FB:=F.binds bind;obtain⟨B,z,kV,doc,pm,an,ct,a,rfl,U,j⟩:=j;refine⟨f,_,WR U j S (λl H Q E h=>h.1) λA outer s H l Q E hr n=>?_,hm,F.kp,FB⟩;obtain⟨t,p,q⟩:=m c g i hh f A outer s H E hr;exact⟨t,NA p,JK q n⟩
end
noncomputable def BL:aq a6->Ev->aw (aq a4)
 |[],_=>ao []
 |j::js,Y=>match (Y[j]?).join with
  |some (.int n)=>(BL js Y).map (n :: ·)
  |_=>au
open Classical in
noncomputable def GZ(k:a6)(x:ba)(dF:dn)(qual:ba)(js:aq a6)(R:aq a4->A->Mo A)(fa:Ev->Mo A):Ev->Mo A:=λY=>mb (fa Y) λa Z=>if Z[k]?=ao (.tab x dF qual)then(match BL js Y with
 |some ns=>tY (R ns a) Z
 | none=>au)else au
theorem ab5{K:bj}{G:Hp}{O:aq az}{J:L2.St}{Y:Ev}(r:gV K G O J Y)(N:aq ba):∀{js:aq a6} {cs:aq ba} {ns:aq a4},js.map (λj=>N[j]?)=cs.map ao->BL js Y=ao ns ->
  ∃cU:aq (ba×a4),cU.map (·.1)=cs/\cU.map (·.2)=ns/\∀p∈cU,∃j:a6,N[j]?=ao p.1/\J[j]?=ao (ao (V.int p.2))
 |[],[],ns,_,h=>by
  simp only[BL]at h;cases h;exact⟨[],rfl,rfl,λp U=>by simp at U⟩
 |[],_::_,_,e,_=>by simp at e
 |_::_,[],_,e,_=>by simp at e
 |j::js,c::cs,ns,e,h=>by
  simp only[dE,xX]at e;simp only[BL]at h;cases q:(Y[j]?).join with
  |none=>rw[q]at h;cases h
  |some d =>
   rw[q]at h;cases d with
   |int n =>
    simp only at h;cases B:BL js Y with
    |none=>rw[B]at h;cases h
    |some ms =>
     rw[B]at h;cases h;obtain⟨cU,f,b,a⟩:=ab5 r N e.2 B;obtain⟨v,hv,hd⟩:=r.2 j _ (join_some q);simp only[Den]at hd;subst hd;refine⟨(c,n)::cU,by simp[f],by simp[b],λp U=>?_⟩
     rcases dY.mp U with z|z
     ·subst z;exact⟨j,e.1,hv⟩
     ·exact a p z
   |_=>cases h
section
variable{X:Cx}{W:WX}{e:bx}{fa:Ev->Mo A}{p pos:dn}
theorem ahO{ps:a8 av}{dF:dn}{c':az}(q:TriplesOk ps.toList)(hn:codeAmong dF ps.toList=au) :
  TriplesOk (ps ++ #[ck dF.line,ck dF.col,.ref c']).toList/\codeAmong dF (ps ++ #[ck dF.line,ck dF.col,.ref c']).toList=ao (.ref c'):=by
 have e:(ps ++ #[ck dF.line,ck dF.col,Value.ref c']).toList=ps.toList++[ck dF.line,ck dF.col,.ref c']:=by simp
 rw[e];generalize ps.toList=l at q hn;constructor
 ·induction l using TriplesOk.induct with
  |case1=>exact trivial
  |case2 i t j u v rest ih =>
   simp only[TriplesOk]at q;simp only[codeAmong]at hn;split at hn
   ·cases hn
   ·exact ih q hn
  |case3 l h1 h2=>simp[TriplesOk]at q
 ·exact codeAmong_snoc l q hn
theorem af9{x z y qual:ba}{st:b8}{N ps cs:aq ba}{k kf:a6}{js:aq a6}{params:dj}{body:bx}{scope:cn}{dF:dn}{c P:az}{fb:Ev->Mo A}{bfw:az->(A->Mo A)->MS}{R:aq a4->A->Mo A}
  (hT:tabIn X.K x=ao (c,P)) (OH:codeHdIn X.K c P=a5) (hB:yF X.base X.mg) (IS:X.env.code=.ref c) (M:X.env.qual ++ "<lambda>" = qual) (OA:defaultsOf params X.env=([],[]))
  (S:KI scope y cs) (zC:∀y∈scope.names,y.2=.free->X.env.kindOf y.1=ao .cell\/X.env.kindOf y.1=ao .free) (WA:js.map (λj=>X.N[j]?)=cs.map ao) (EB:∀x∈cs,X.env.scope.names.lookup x=ao .cell)
  (hz:HasFn X.K X.mg z st) (NI:ps.length=2) (SF:dN N ps (aZ st))
  (bind:∀(kV doc i:av) (an:aw az) (aS ct:av) (us:aq av),us.length=ps.length->dk (e9 z z (jO st) (eL st) (aZ st) .none kV doc i an aS ct) ⟨us,[]⟩=pure (ps.zip us))
  (iA:∀(B:az) (cU:aq (ba×a4)),cU.map (·.1)=cs->∀(f:az) (aS:av) (A:bu) (outer:aq Env) (s:ay) (H:Hp) (E:XK),cK kf (A.deeper (c8 z (aZ st) s.heap.objs.size f aS))->xY s.heap H B qual params body scope cU ->
   iC (oV X.prog X.w X.K X.mg X.base N z (aZ st) f aS A outer s H E) (λ_=>E) (eL st) (bfw B (sQ fb (cU.map (·.2)))))
  (hR:∀B ns a Z r,tY (R ns a) Z=ao r->dP N.length (bfw B (sQ fb ns)) [a,.adr B] Z=ao r)
  (hr:cK (kf+1) X.A) (hg:Gl X z) (he:VE X W e fa) (fS:(z==("__debug__" : ba))=ax:=by decide)
  (lO:bg [e,.Lambda params body scope dF] X.env=[(ax,cj e X.env),(ax,cj (.Lambda params body scope dF) X.env)]:=by rfl)
  (IF:bg [.Lambda params body scope dF] X.env=[(ax,cj (.Lambda params body scope dF) X.env)]:=by rfl) :
  VE X W (.Call (.Name z p) [e,.Lambda params body scope dF] [] pos) (GZ k x dF qual js R fa):=by
 obtain⟨t1,p1,s1⟩:=he;have PAa:PA X [e,.Lambda params body scope dF] (LO t1 (LO (Bh X P qual params body scope dF) SQ)) :=
  HN p1 (HN (aoP IS M OH hB OA zC) LZ (by rw[IF];rfl)) (by rw[lO,IF])
 refine⟨λJ H Q=>LO t1 (LO (Bh X P qual params body scope dF) SQ) J H λvs T=>∃(D:V) (B:az) (cU:aq (ba×a4)) (cl:aq (ba×az)) (i n:av) (c':az) (g:c6) (us:a8 av) (t:Tok),vs=[D,.ref B]/\cU.map (·.1)=cs/\(∀p∈cU,∃j:a6,X.N[j]?=ao p.1/\J[j]?=ao (ao (V.int p.2))) /\
   Ny X scope cl/\T B=ao (DV qual params body scope cl i c' n)/\T c'=ao (.eI g (.own 0))/\g.data=.fields us/\us[1]?=ao (.str qual t) /\
   vB X.K ps.length (dP N.length (bfw B (sQ fb (cU.map (·.2))))) [D,.ref B] T Q (λ_ _ _=>cp),?_,?_⟩
 ·intro aa s J H Q I h;obtain⟨f,fd,hm,F⟩:=hz.ex;refine CV (DU I hg hm ?_ fS);refine callWith_K (h₀:=X.base) I.ok.mod.sS F.kp (bC (PAa pos aa s J H _ I h) λus s1 ⟨vs,H1,C,r,q⟩=>⟨C.fY,?_⟩) (by rw[lO,IF]) (by rw[IF];rfl);obtain⟨D,B,cU,cl,i,n,c',g,ws,t,rfl,Zl,hσ,gC,hlf,xI,hd,hv,gS⟩:=q;have La:xY s1.heap H1 B qual params body scope cU:=by
   refine⟨cl,i,n,c',g,ws,t,hlf,xI,hd,hv,λx y c h1 h2=>C.ok.inj x y c (gC.1 x c h1) (gC.1 y c h2),gC.2,λx c e=>⟨C.cell x c (gC.1 x c e),C.lQ x c (gC.1 x c e)⟩,λpp Yh=>?_⟩;obtain⟨j,Hg,AX⟩:=hσ pp Yh;have mC:pp.1∈cs:=by rw[<-Zl];exact adP Yh
   obtain⟨m,hn,hl⟩:=C.loc;obtain⟨u,ru,lu⟩:=hl j pp.1 _ Hg AX (.inr (.inl (EB _ mC)));obtain⟨tk,rfl⟩:=ru
   rcases lu with⟨hk,_⟩|⟨_,c0,oP,ic⟩
   ·rw[show X.env.kindOf pp.1=ao .cell from EB _ mC]at hk;cases hk
   ·obtain⟨c1,nD⟩:=gC.2 _ (PySem.mem_of_lookup (S.XJ _ mC)) rfl;have:=gC.1 _ _ nD;rw[oP]at this;cases this;exact⟨c0,tk,nD,ic⟩
  have mE:=F.binds bind s1 us C.fY (by rw[rW,<-r.length];simp[NI]);rw[rW]at mE;have FB:=mE;obtain⟨oc2,od,kV,doc,Uj,an,aS,ct,gY,rfl,lk,gD⟩:=F.ex;refine GP (uJ (aBA (CX:=qV X.prog X.w) (E:=λ_ _ _=>cp) (Q:=Q) (k:=kf) lk gD SF hr C.IY FB r (by simp[NI]) λhrb=>?_) λr s' M=>?_)
  ·obtain⟨tt,pp,qq⟩:=iA B cU Zl f aS X.A X.stack s1 H1 (λ_ _ _=>cp) hrb La;exact⟨tt,NA pp,JK qq gS⟩
  ·cases r with
   |error ev=>obtain⟨x,cls,dx,H',_,_,_,_,_,_,q⟩:=M;exact q.elim
   |ok fl =>
    cases fl with
    |ret u=>exact C.after M
    |next=>exact False.elim M
    |brk=>exact False.elim M
    |cont=>exact False.elim M
 ·intro G O Z H J Y Q w r h;unfold GZ at h;refine s1 G O Z H J Y _ w r (bD.mb h λa U D H1 G1 l x1 w1 d1 h1=>?_);split at h1
  ·rename_i hk;cases Hv:BL js Y with
   |none=>rw[Hv]at h1;exact False.elim h1
   |some ns =>
    rw[Hv]at h1;simp only at h1;obtain⟨cU,nD,IT,Zn⟩:=ab5 r X.N WA Hv;obtain⟨aP,Zu⟩:=w1.addr hk;obtain⟨gP,⟨c0,Xx⟩,qs,Gj,Gi,hq3⟩:=w1.aE k _ aP hk Zu;rw[hT]at Xx;cases Xx;have fin:∀(B:az) (T G2:Hp),Ext G1 l G2 l->Wd X.K G2 l U T->vB X.K ps.length (dP N.length (bfw B (sQ fb (cU.map (·.2))))) [D,.ref B] T Q (λ_ _ _=>cp):=λB T G2 e2 w2=>by
     refine⟨by simp[NI],G2,l,U,[a,.adr B],w2,.cons (d1.ext e2) (.cons (by simp only[Den]) .nil),?_⟩
     revert h1
     rw[IT];cases d:tY (R ns a) U with
     |none=>intro h1;exact False.elim h1
     |some r0 =>
      intro h1;rw[hR B ns a U r0 d]
      match r0,h1,d with
      |(.ok b,Z'),h1,_=>exact λv H' G' O' x3 w3 d3=>h1 v H' G' O' (e2.trans x3) w3 d3
      |(.exc xx,Z'),_,d =>
       exfalso;simp only[tY]at d
       revert d
       generalize R ns a U=rr;intro d
       match rr,d with
       |some (.exc _,_),d=>cases d
       |some (.ok _,_),d=>cases d
       |none,d=>cases d
    refine⟨qs,Gj,Gi,?_⟩
    rcases hq3 with hn|⟨c',g,us,t,hn,hgc,hd,hv⟩
    ·refine .inl ⟨hn,λcl gC f c' g us t i n L oP eX hd hv=>?_⟩;obtain⟨tg1,tg2⟩:=ahO (c':=c') Gi hn;have Hx:c'≠P:=λz=>by rw[z,Gj]at oP;cases oP
     have Hq:f≠P:=λz=>by rw[z,Gj]at L;cases L
     have wA:=w1.new oP (.eI g (.own 0));have gPA:upd G1 c' (.eI g (.own 0)) P=au:=by rw[bR Hx.symm];exact gP
     have wB:=wA.put (c:=.tab x dF qual) (o:=.jC (qs ++ #[ck dF.line,ck dF.col,.ref c'])) Zu gPA ⟨gPA,⟨c,hT⟩,_,eZ,tg1,.inr ⟨c',g,us,t,tg2,eZ,hd,hv⟩⟩;have NH:U.set k (.tab x dF qual)=U:=by
      have Yp:=(cY.mp hk);obtain⟨Hb,kZ⟩:=Yp;rw[<-kZ];exact List.set_getElem_self _
     rw[NH]at wB;have IP:upd (upd H1 c' (.eI g (.own 0))) P (.jC (qs ++ #[ck dF.line,ck dF.col,.ref c'])) f=au:=by rw[bR Hq,bR eX.symm];exact L
     have wC:=wB.new IP (DV qual params body scope cl i c' n);refine⟨D,f,cU,cl,i,n,c',g,us,t,rfl,nD,Zn,gC,eZ,?_,hd,hv,fin f _ _ ?_ wC⟩
     ·rw[bR eX,bR Hx,eZ]
     ·exact(Ext.new (w1.oQ oP) _).trans (Ext.new (wB.oQ IP) _)
    ·refine .inr ⟨c',hn,λcl gC f i n L=>?_⟩;have Zm:=w1.sub _ _ hgc;have wC:=w1.new L (DV qual params body scope cl i c' n);exact⟨D,f,cU,cl,i,n,c',g,us,t,rfl,nD,Zn,gC,eZ,by rw[bR (jT Zm L)];exact Zm,hd,hv,fin f _ _ (Ext.new (w1.oQ L) _) wC⟩
  ·exact False.elim h1
end
structure ZH(X:Cx)(scope:cn)(y:ba)(cs:aq ba)(js:aq a6):Prop where
 S:KI scope y cs
 free:∀y∈scope.names,y.2=.free->X.env.kindOf y.1=ao .cell\/X.env.kindOf y.1=ao .free
 cU:js.map (λj=>X.N[j]?)=cs.map ao
 cell:∀x∈cs,X.env.scope.names.lookup x=ao .cell
def Nh(sc:cn)(N:aq ba)(scope:cn)(y:ba)(cs:aq ba)(js:aq a6):Prop :=
 ((scope.kind == .function)=a5/\scope.isCoroutine=ax/\scope.isGenerator=ax)/\(∀x∈scope.names,(x.2 == .cell)=ax)/\(scope.names.lookup y==ao .local)=a5/\(∀x∈cs,(scope.names.lookup x==ao .free)=a5) /\
 (∀y∈scope.names,(y.2 == .free)=a5->(sc.names.lookup y.1==ao .cell)=a5)/\js.map (λj=>N[j]?)=cs.map ao/\∀x∈cs,(sc.names.lookup x==ao .cell)=a5
instance (sc:cn) (N:aq ba) (scope:cn) (y:ba) (cs:aq ba) (js:aq a6):c5 (Nh sc N scope y cs js):=by unfold Nh;infer_instance
theorem ZH.of{X:Cx}{scope:cn}{y:ba}{cs:aq ba}{js:aq a6}(sc:cn)(N:aq ba)(h1:X.env.scope=sc)(h2:X.N=N)(h:Nh sc N scope y cs js):ZH X scope y cs js:=by
 obtain⟨⟨a1,a2,d⟩,c,b,a,U,B,z⟩:=h;refine⟨⟨by simpa using a1,a2,d,λx j=>by simpa using c x j,by simpa using b,λx j=>by simpa using a x j⟩,λy q hf => .inl ?_,by rw[h2];exact B,λx j=>by rw[h1];simpa using z x j⟩;have:=U y q (by simp[hf]);show X.env.scope.names.lookup y.1=ao .cell;rw[h1];simpa using this
theorem af8{X:Cx}{W:WX}{e:bx}{fa:Ev->Mo A}{p pos:dn}{x z y qual:ba}{st:b8}{N ps cs:aq ba}{k kf:a6}{js:aq a6}{params:dj}{body:bx}{scope:cn}{dF:dn}{c P:az}{fb:Ev->Mo A}{bfw:az->(A->Mo A)->MS}{R:aq a4->A->Mo A}
  (hT:tabIn X.K x=ao (c,P)) (n:codeHdIn X.K c P=a5) (h:yF X.base X.mg) (u:X.env.code=.ref c) (d:X.env.qual ++ "<lambda>" = qual) (o:defaultsOf params X.env=([],[]))
  (ι:ZH X scope y cs js)
  (hz:HasFn X.K X.mg z st) (t:ps.length=2) (m:dN N ps (aZ st))
  (bind:∀(kV doc B:av) (l:aw az) (q ct:av) (us:aq av),us.length=ps.length->dk (e9 z z (jO st) (eL st) (aZ st) .none kV doc B l q ct) ⟨us,[]⟩=pure (ps.zip us))
  (b:KI scope y cs->∀(j:az) (cU:aq (ba×a4)),cU.map (·.1)=cs->∀(f:az) (q:av) (A:bu) (outer:aq Env) (s:ay) (H:Hp) (E:XK),cK kf (A.deeper (c8 z (aZ st) s.heap.objs.size f q))->xY s.heap H j qual params body scope cU ->
   iC (oV X.prog X.w X.K X.mg X.base N z (aZ st) f q A outer s H E) (λ_=>E) (eL st) (bfw j (sQ fb (cU.map (·.2)))))
  (hR:∀j ns a Z r,tY (R ns a) Z=ao r->dP N.length (bfw j (sQ fb ns)) [a,.adr j] Z=ao r)
  (hr:cK (kf+1) X.A) (g:Gl X z) (he:VE X W e fa) (i:(z==("__debug__" : ba))=ax:=by decide)
  (U:bg [e,.Lambda params body scope dF] X.env=[(ax,cj e X.env),(ax,cj (.Lambda params body scope dF) X.env)]:=by rfl)
  (v:bg [.Lambda params body scope dF] X.env=[(ax,cj (.Lambda params body scope dF) X.env)]:=by rfl) :
  VE X W (.Call (.Name z p) [e,.Lambda params body scope dF] [] pos) (GZ k x dF qual js R fa) :=
 af9 hT n h u d o ι.S ι.free ι.cU ι.cell hz t m bind (b ι.S) hR hr g he i U v
noncomputable def Zi (vs:a8 av) (c P:az):br:=(match (vs[11]?:aw av) with|some (.ref j) => j==P|_ => ax) &&
   (match vs.getD 18 .none with | .str _ _=>a5|_=>ax)&&(match vs.getD 7 .none with | .int _ _=>a5|_=>ax) &&
   (match vs.getD 9 .none with | .bool _=>a5|_=>ax)&&(match vs.getD 10 .none with | .int _ _=>a5|_=>ax)&&c != P
theorem ahN{K:bj}{x:ba}{f tc j:az}{b kV c N ct:av}{U d z:aw az}{sl q:a8 (aw av)}{st:b8}{vs:a8 av}(a:cx K a7 x=ao (ao (.ref f)))
  (l:K.lookup f=ao ⟨b,U,.func (e9 x x (jO st) (eL st) (aZ st) .none kV c N d (.ref tc) ct),sl⟩) (B:K.lookup tc=ao ⟨.type "code",z,.fields vs,q⟩) (hv:vs[11]?=ao (.ref j)) (hh:Zi vs tc j=a5) :
  tabIn K x=ao (tc,j)/\codeHdIn K tc j=a5:=by
 constructor
 ·unfold tabIn;rw[a];simp only[l,B,hv]
 ·unfold codeHdIn;rw[B];exact hh
@[elab_as_elim] theorem us0{P:aq av->Prop}(us:aq av)(h:us.length=0)(f:P []):P us:=by cases us with|nil=>exact f|cons _ _=>simp at h
@[elab_as_elim] theorem Ar{P:aq av->Prop}(us:aq av)(h:us.length=1)(f:∀a,P [a]):P us:=by
 cases us with
 |nil=>simp at h
 |cons a r=>exact us0 r (by simpa using h) (f a)
@[elab_as_elim] theorem LJ{P:aq av->Prop}(us:aq av)(h:us.length=2)(f:∀a b,P [a,b]):P us:=by
 cases us with
 |nil=>simp at h
 |cons a r=>exact Ar (P:=λr=>P (a::r)) r (by simpa using h) (f a)
@[elab_as_elim] theorem SD{P:aq av->Prop}(us:aq av)(h:us.length=3)(f:∀a b c,P [a,b,c]):P us:=by
 cases us with
 |nil=>simp at h
 |cons a r=>exact LJ (P:=λr=>P (a::r)) r (by simpa using h) (f a)
@[elab_as_elim] theorem SA{P:aq av->Prop}(us:aq av)(h:us.length=4)(f:∀a b c d,P [a,b,c,d]):P us:=by
 cases us with
 |nil=>simp at h
 |cons a r=>exact SD (P:=λr=>P (a::r)) r (by simpa using h) (f a)
@[elab_as_elim] theorem us5{P:aq av->Prop}(us:aq av)(h:us.length=5)(f:∀a b c d e,P [a,b,c,d,e]):P us:=by
 cases us with
 |nil=>simp at h
 |cons a r=>exact SA (P:=λr=>P (a::r)) r (by simpa using h) (f a)
noncomputable abbrev UK(x:ba):ba:=x ++ ".<locals>." ++ "<lambda>"
def TB(K:bj)(ts:aq az):Sp:=λvs H Q _=>∃(a:az) (ns:aq a4),vs=[.ref a]/\fO K H a (ns.map V.int)/\ns.length<=63/\(∀P∈ts,H P=ao (.jC #[]))/\∀H',Q (.bl a5) H'
theorem ajJ{K:bj}{H:Hp}{a:az}{xs:aq V}{ts:aq az}(h:fO K H a xs)(hT:∀P∈ts,H P=ao (.jC #[])):fO K (λb=>if b∈ts then au else H b) a xs:=by
 rcases h with(h|⟨o,h⟩)|h
 ·exact .inl (.inl (by
   have:a∉ts:=λz=>by rw[hT a z]at h;cases h
   show(if a∈ts then au else H a)=_;rw[bb this];exact h))
 ·exact .inl (.inr ⟨o,by
   have:a∉ts:=λz=>by rw[hT a z]at h;cases h
   show(if a∈ts then au else H a)=_;rw[bb this];exact h⟩)
 ·exact .inr h
section
variable{P:bh}{w:bw}{K:bj}{mg:ba->aw av}{base:bz}
theorem asP{fa:az}{fd:c3}{k:a6}{F:aq A->Mo A}{ts:aq az}(tl:aq (az×ba×dn×ba))(hnd:(tl.map (·.1)).Nodup)(hsub:∀t∈tl,t.1∈ts)(hT:∀t∈tl,∃c,tabIn K t.2.1=ao (c,t.1))
  (h1:jA P w K mg base (qV P w) k fa fd ["_law_script"] (vB K 1 F)) (m:∀ns:aq a4,ns.length<=63->∃Z,F [.gG ns] (tl.map λt => .tab t.2.1 t.2.2.1 t.2.2.2)=ao (.ok (.bl a5),Z)) :
  jA P w K mg base yE k fa fd ["_law_script"] (TB K ts):=by
 refine(Kh h1).imp λp H Q E l=>?_;obtain⟨a,ns,rfl,h,hl,f,q⟩:=l;obtain⟨Z,e⟩:=m ns hl;refine⟨rfl,λb=>if b∈ts then au else H b,tl.map (·.1),tl.map (λt => .tab t.2.1 t.2.2.1 t.2.2.2),[.gG ns],⟨λb o z=>?_,hnd,by simp,λb hb=>?_,λj c b h1 h2=>?_,λb j i r s hh=>?_⟩,.cons (by simp only[Den];exact⟨a,rfl,ajJ h f⟩) .nil,?_⟩
 ·by_cases hb:b∈ts
  ·have N:(if b∈ts then au else H b)=ao o:=z;rw[a9 hb]at N;cases N
  ·have N:(if b∈ts then au else H b)=ao o:=z;rw[bb hb]at N;exact N
 ·obtain⟨t,U,rfl⟩:=oZ.mp hb;exact⟨_,f _ (hsub t U)⟩
 ·rw[jH]at h1 h2;cases B:tl[j]? with
  |none=>rw[B]at h1;cases h1
  |some t =>
   rw[B]at h1 h2;cases h1;cases h2;have U:=mJ B;refine⟨a9 (hsub t U),hT t U,#[],f _ (hsub t U),trivial,.inl rfl⟩
 ·obtain⟨_,_,_,_,_,_,_,_,_,_,z,_⟩:=hh;rw[jH]at z;cases B:tl[j]? with
  |none=>rw[B]at z;cases z
  |some t=>rw[B]at z;cases z
 rw[e];intro v n u g _ _ d;simp only[Den]at d;subst d;exact q n
end
open Classical in
noncomputable def vR(g:A->Mo A)(a:A):Mo A:=λZ=>if h:∃(ds:aq A) (m:a6),fX Z a=ao ds/\m<=ds.length/\ds.length<=100000/\∀i d,ds[i]?=ao d->g d Z=ao (.ok (.bl (decide (m<=i))),Z)then ao (.ok (.int (h.choose_spec.choose:a6)),Z)else au
theorem aA1{g:A->Mo A}{a:A}{Z:aH}{ds:aq A}{m:a6}(h1:fX Z a=ao ds)(h2:m<=ds.length)(f:ds.length<=100000)(c:∀i d,ds[i]?=ao d->g d Z=ao (.ok (.bl (decide (m<=i))),Z)):vR g a Z=ao (.ok (.int (m:a4)),Z):=by
 have h:∃(ds:aq A) (m:a6),fX Z a=ao ds/\m<=ds.length/\ds.length<=100000/\∀i d,ds[i]?=ao d->g d Z=ao (.ok (.bl (decide (m<=i))),Z):=⟨ds,m,h1,h2,f,c⟩;have key:∀(U:aq A) (j:a6),fX Z a=ao U->j<=U.length->(∀i d,U[i]?=ao d->g d Z=ao (.ok (.bl (decide (j<=i))),Z))->j=m:=by
  intro U j N e B;rw[h1]at N;cases N
  rcases Nat.lt_trichotomy j m with z|z|z
  ·have hl:j<ds.length:=by omega
   have b:=c j _ (fF hl);have q:=B j _ (fF hl);rw[b]at q;simp at q;omega
  ·exact z
  ·have hl:m<ds.length:=by omega
   have b:=c m _ (fF hl);have q:=B m _ (fF hl);rw[b]at q;simp at q;omega
 unfold vR;rw[JA h];obtain⟨N,e,k,B⟩:=h.choose_spec.choose_spec;rw[key _ _ N e B]
theorem aA0{g:A->Mo A}{a:A}{Z:aH}{r:Rs A×aH}(h:vR g a Z=ao r):∃(ds:aq A) (m:a6),fX Z a=ao ds/\m<=ds.length/\ds.length<=100000/\(∀i d,ds[i]?=ao d->g d Z=ao (.ok (.bl (decide (m<=i))),Z))/\r=(.ok (.int (m:a4)),Z):=by
 unfold vR at h;split at h
 ·rename_i hh;cases h;obtain⟨B,z,q,j⟩:=hh.choose_spec.choose_spec;exact⟨_,_,B,z,q,j,rfl⟩
 ·cases h
end V2
namespace M
open PySem V2
noncomputable section
def PX(j:az)(g:A->Mo A):MS :=
 (aX (bN (aC (iL) (aC bV bH dJ) jR) (gN 4))
   (eA (bX (Al 1 j g (aC bB aM cW)))
    (bN cW (gN 3))
    (bN (aC bV cW bM) (gN 2))))
def EX(j:az)(g:A->Mo A):Ev->Mo br :=
 (bX (aC tD bH dJ))
def PY(j:az)(g:A->Mo A):MS :=
 (aX (bN bP (gN 2))
  (aX (bN (aQ dO (aB aM a0)) (gN 3))
  (aX (λY Z=>qP (EX j g) (PX j g) ((λ_ _=>1000000) Y Z) Y Z)
  (dB bH))))
end
end M
namespace V2
open PySem PySem.Spec PyProof.Rows L2
section
variable{X:Cx}{W:WX}{a b c d:bx}{ta tb tc td:TE}{fa fb fc fd:Ev->Mo A}{pos:dn}
def ad5(_ j:a4):Prop:=0<j/\j<1152921504606846976
instance (i j:a4):c5 (ad5 i j):=by unfold ad5;infer_instance
end
end V2
namespace M
open PySem V2
noncomputable section
def Kv:MS :=
 (aX (bN (aC bB dJ bM) (gN 4))
   (aX (bN (aC bV bK cW) (gN 1))
   (eA (mS (bX (aC tD cW bM)) (bX (aC zJ bK (cI 1000000000))))
    (λ_ _=>au)
    gX)))
def Kw:MS :=
 (aX (bN bP (gN 1))
  (aX (kP (Ao aM) (rJ 2 (jM (gN 2) (jM (gN 3) sY))) Kv)
  (dB bK)))
def ZJ:aq A->Mo A:=dP 5 Kw
def Kt:MS :=
 (aX (Dc (sG (aB (aC bV bH bM) (aB (aC bV bH cW) a0))) bK dJ)
   (bN (aC bV bH cW) (gN 2)))
def XQ:MS :=
 (aX (bN Ap (gN 1))
  (aX (bN bP (gN 2))
  (aX (kP (gW (aQ (bI 1 RF) (aB aM a0))) (rJ 2 (jM (gN 3) (jM (gN 4) sY))) Kt)
  (dB bK))))
def RE:aq A->Mo A:=dP 5 XQ
end
end M
namespace PySem
set_option maxRecDepth 100000
set_option compiler.extract_closed false
set_option genSizeOf false
set_option bootstrap.genMatcherCode false
end PySem
namespace V2
open PySem PySem.Spec PyProof.Rows L2
theorem au9{P:bh}{w:bw}{k:Key}{u:av}(h:(mB P w).is k u=a5):RelV (kV k) u:=by
 rcases vL (k:=k) (v:=u) h with⟨i,t,q,j⟩|⟨x,t,q,j⟩
 ·subst q;exact⟨t,j⟩
 ·subst q;exact⟨t,j⟩
section
variable{X:Cx}{W:WX}
theorem Vb{α β:Type}{F:α->β->Prop}:∀{B:aq α} {z:aq β},Paired F B z->∀{j:a6} {a:α},B[j]?=ao a->∃b,z[j]?=ao b/\F a b
 |_,_,.nil,j,a,h=>by simp at h
 |_,_,.cons r _,0,a,h=>by cases h;exact⟨_,rfl,r⟩
 |_,_,.cons _ N,j+1,a,h=>by obtain⟨b,q,f⟩:=Vb N (j:=j) (by simpa using h);exact⟨b,by simpa using q,f⟩
end
noncomputable def kA:Key->A
 |.inl i => .int i
 |.inr s => .str s
theorem aCE{K:bj}{G:Hp}{O:aq az}(k:Key):Den K G O (kV k) (kA k):=by cases k <;> simp only[kV,kA,Den]
def NC(j:Key×A):A:=.tup [kA j.1,j.2]
end V2
namespace M
open PySem V2
noncomputable section
def vY:MS :=
 (aX (eA (bX (aC iW bK bP))
   (dB (aC (dW) aM Qc))
   gX)
  (aX (eA (bX (aC iW bK bM))
   (dB (aC (dG) (aC (dW) aM (cI 100)) (cI 50)))
   gX)
  (aX (eA (bX (aC iW bK jR))
   (dB (aC (dG) (aC (dW) (aC (jZ) (aC (jZ) aM aM) (cI 48271)) (aC bV (aC (jZ) jR (aC (zH) AB (cI 18))) bM)) (aC (zH) AB (cI 18))))
   gX)
  (aX (eA (bX (aC iW bK kN))
   (dB (aC bB (fM ax (aB (aC bV (aC (zH) AB (cI 59)) aM) (aB (aC (dG) (aC (dG) bP (aC (zH) AB (cI 59))) aM) (aB (aC (dG) (aC (zH) AB (cI 60)) bM) (aB (aC (dG) bM (aC (zH) AB (cI 60))) a0))))) (aC (dW) aM wC4)))
   gX)
  (dB (aC bB (fM ax (aB qY (aB (aC (dG) bP qY) (aB bP a0)))) (aC (iL) (aC (dW) aM (cI 30)) (cI 14))))))))
def rZ:aq A->Mo A:=dP 2 vY
def acL:MS :=
 (dB (LI (aQ IW (aB aM (aB (cT "int") a0))) (Qp (aQ IW (aB aM (aB (cT "bool") a0))))))
def uV:aq A->Mo A:=dP 1 acL
end
end M
namespace V2
open PySem PySem.Spec PyProof.Rows L2
noncomputable def putD{α:Type}(f:ba)(v:α):aq (ba×α)->aq (ba×α)
 |[]=>[(f,v)]
 |(g,x)::r=>if g=f then(g,v)::r else(g,x)::putD f v r
@[simp] noncomputable def Fd.cell:Fd->aw Cell
 |.lst ds=>ao (.lst ds)
 |.cV kvs=>ao (.cV kvs)
 |.val _=>au
theorem DT{α:Type}{f:ba}:∀{l:aq (ba×α)} {x:α},l.lookup f=ao x->∃i,l[i]?=ao (f,x)/\∀y,putD f y l=l.set i (f,y)
 |[],_,h=>by simp at h
 |(g,z)::r,x,h=>by
  by_cases e:g=f
  ·subst e;simp[List.lookup]at h;subst h;exact⟨0,rfl,λy=>by simp[putD]⟩
  ·have hb:(f==g)=ax:=xS.mpr (cX e);simp only[List.lookup,hb]at h;obtain⟨i,h1,h2⟩:=DT h;exact⟨i+1,by simpa using h1,λy=>by simp[putD,e,h2 y]⟩
theorem HL{α:Type}{f g:ba}{v:α}:∀{l:aq (ba×α)},(putD f v l).lookup g=if g=f then ao v else l.lookup g
 |[]=>by
  by_cases e:g=f
  ·subst e;simp[putD]
  ·have hb:(g==f)=ax:=xS.mpr e;simp[putD,List.lookup,hb,e]
 |(k,x)::r=>by
  have ih:=HL (f:=f) (g:=g) (v:=v) (l:=r)
  by_cases h:k=f
  ·subst h
   by_cases e:g=k
   ·subst e;simp[putD]
   ·have hb:(g==k)=ax:=xS.mpr e;simp[putD,List.lookup,hb,e]
  ·by_cases e:g=k
   ·subst e;simp[putD,h]
   ·have hb:(g==k)=ax:=xS.mpr e;simp only[putD,bb h,List.lookup,hb];exact ih
theorem yP{α:Type}{f:ba}{v w:α}:∀{l:aq (ba×α)},putD f w (putD f v l)=putD f w l
 |[]=>by simp[putD]
 |(k,x)::r=>by
  by_cases h:k=f
  ·simp[putD,h]
  ·simp[putD,h,yP (l:=r)]
theorem TU{α:Type}{f:ba}{v:α}:∀{l:aq (ba×α)},l.lookup f=ao v->putD f v l=l
 |[],h=>by simp at h
 |(k,x)::r,h=>by
  by_cases e:k=f
  ·subst e;simp[List.lookup]at h;subst h;simp[putD]
  ·have hb:(f==k)=ax:=xS.mpr (cX e);simp only[List.lookup,hb]at h;simp[putD,e,TU h]
section
variable{K:bj}{G H:Hp}{O:aq az}{Z:aH}
theorem xN:∀{j:aq (ba×V)} {fs:aq (ba×Fd)},jV K G O H j fs<->j.length=fs.length/\∀(i:a6) (h:ba) (v:V) (g:ba) (fd:Fd),j[i]?=ao (h,v)->fs[i]?=ao (g,fd)->h=g/\kF K G O H v fd
 |[],[]=>⟨λ_=>⟨rfl,λi h v g fd q=>by simp at q⟩,λ_=>trivial⟩
 |[],_::_=>⟨λh=>h.elim,λh=>by simp at h⟩
 |_::_,[]=>⟨λh=>h.elim,λh=>by simp at h⟩
 |(f,v)::j,(g,d)::fs=>by
  constructor
  ·rintro⟨h1,h2,U⟩;obtain⟨N,z⟩:=xN.mp U;refine⟨by simp[N],λi h B g' fd a b=>?_⟩;cases i with
   |zero=>simp at a b;obtain⟨rfl,rfl⟩:=a;obtain⟨rfl,rfl⟩:=b;exact⟨h1,h2⟩
   |succ i=>exact z i h B g' fd (by simpa using a) (by simpa using b)
  ·rintro⟨N,z⟩;obtain⟨h1,h2⟩:=z 0 f v g d rfl rfl;exact⟨h1,h2,xN.mpr ⟨by simpa using N,λi h B g' fd a b=>z (i+1) h B g' fd (by simpa using a) (by simpa using b)⟩⟩
theorem jV.look{ws:aq (ba×V)}{fs:aq (ba×Fd)}{f:ba}{fd:Fd}(h:jV K G O H ws fs)(l:fs.lookup f=ao fd):∃v,ws.lookup f=ao v/\kF K G O H v fd:=by
 induction fs generalizing ws with
 |nil=>simp at l
 |cons p fs ih =>
  obtain⟨g,d⟩:=p;cases ws with
  |nil=>exact h.elim
  |cons q ws =>
   obtain⟨g',v⟩:=q;obtain⟨e,h2,j⟩:=h;subst e
   by_cases hb:(f==g')=a5
   ·simp only[List.lookup,hb]at l ⊢;cases l;exact⟨v,rfl,h2⟩
   ·have hb:(f==g')=ax:=by simpa using hb
    simp only[List.lookup,hb]at l ⊢;exact ih j l
theorem jV.aqZ{ws:aq (ba×V)}{fs:aq (ba×Fd)}{f:ba}(h:jV K G O H ws fs)(l:fs.lookup f=au):ws.lookup f=au:=by
 induction fs generalizing ws with
 |nil =>
  cases ws with
  |nil=>rfl
  |cons q ws=>exact h.elim
 |cons p fs ih =>
  obtain⟨g,d⟩:=p;cases ws with
  |nil=>exact h.elim
  |cons q ws =>
   obtain⟨g',v⟩:=q;obtain⟨e,h2,j⟩:=h;subst e
   by_cases hb:(f==g')=a5
   ·simp only[List.lookup,hb]at l;cases l
   ·have hb:(f==g')=ax:=by simpa using hb
    simp only[List.lookup,hb]at l ⊢;exact ih j l
theorem jV.put{ws:aq (ba×V)}{fs:aq (ba×Fd)}{f:ba}{fd:Fd}{v:V}(h:jV K G O H ws fs)(d:kF K G O H v fd):jV K G O H (jS f v ws) (putD f fd fs):=by
 induction fs generalizing ws with
 |nil =>
  cases ws with
  |nil=>exact⟨rfl,d,trivial⟩
  |cons q ws=>exact h.elim
 |cons p fs ih =>
  obtain⟨g,x⟩:=p;cases ws with
  |nil=>exact h.elim
  |cons q ws =>
   obtain⟨g',B⟩:=q;obtain⟨e,h2,z⟩:=h;subst e
   by_cases j:g'=f
   ·simp only[jS,putD,a9 j];exact⟨rfl,d,z⟩
   ·simp only[jS,putD,bb j];exact⟨rfl,h2,ih z⟩
theorem jV.len{ws:aq (ba×V)}{fs:aq (ba×Fd)}(h:jV K G O H ws fs):ws.length=fs.length:=(xN.mp h).1
theorem kF.apA{v:V}{fd:Fd}{c:Cell}(h:kF K G O H v fd)(q:fd.cell=ao c):∃b,v=.ref b/\b∉O/\(∃o,H b=ao o)/\tO K G O H b c:=by
 cases fd with
 |val a=>cases q
 |lst ds=>cases q;obtain⟨b,xs,h1,h2,B,j,z⟩:=h;exact⟨b,h1,B,⟨_,j⟩,h2,xs,j,z⟩
 |cV N=>cases q;obtain⟨b,ws,h1,h2,B,j,z,U⟩:=h;exact⟨b,h1,B,⟨_,j⟩,h2,ws,j,z,U⟩
theorem kF.DL{b:az}{fd:Fd}{c:Cell}(j:fd.cell=ao c)(hb:b∉O)(h:tO K G O H b c):kF K G O H (.ref b) fd:=by
 cases fd with
 |val a=>cases j
 |lst ds=>cases j;obtain⟨h1,xs,h2,q⟩:=h;exact⟨b,xs,rfl,h1,hb,h2,q⟩
 |cV z=>cases j;obtain⟨h1,ws,h2,q,B⟩:=h;exact⟨b,ws,rfl,h1,hb,h2,q,B⟩
theorem Fd.aEO{fd:Fd}{c:Cell}(j:fd.cell=ao c):fd.own=a5:=by cases fd <;> first|rfl|cases j
theorem Fd.aEP{fd:Fd}{c:Cell}(j:fd.cell=ao c):c.noOwn=a5:=by cases fd <;> cases j <;> rfl
theorem kF.lend{b:az}{v:V}{fd:Fd}(h:kF K G O H v fd)(hb:fd.own=a5->v≠.ref b):kF K G (O++[b]) H v fd:=by
 cases fd with
 |val a=>exact Den.ext (Ext.cell b) h
 |lst ds =>
  obtain⟨B,xs,h1,h2,z,q,j⟩:=h;exact⟨B,xs,h1,h2,by simp;exact⟨z,λe=>hb rfl (by rw[h1,e])⟩,q,j.ext (Ext.cell b)⟩
 |cV N =>
  obtain⟨B,ws,h1,h2,z,q,j,U⟩:=h;exact⟨B,ws,h1,h2,by simp;exact⟨z,λe=>hb rfl (by rw[h1,e])⟩,q,j,U.ext (Ext.cell b)⟩
theorem Wd.unfold{s:a6}{cls f:ba}{fs:aq (ba×Fd)}{fd:Fd}{c:Cell}(w:Wd K G O Z H)(D:Z[s]?=ao (.ins cls fs))(hf:fs.lookup f=ao fd)(F:fd.cell=ao c) :
  ∃b,Wd K G (O++[b]) (Z.set s (.ins cls (putD f (.val (.aE Z.length)) fs))++[c]) H:=by
 obtain⟨a,I⟩:=w.addr D;obtain⟨g,C,R,ws,h0,h1,h2⟩:=w.aE s _ a D I;obtain⟨n,e1,e2⟩:=DT hf;obtain⟨q1,q2⟩:=xN.mp h2;have zB:n<fs.length:=(cY.mp e1).1;obtain⟨⟨Q,v0⟩,e3⟩:∃p,ws[n]?=ao p:=⟨ws[n]'(by omega),fF _⟩;obtain⟨rfl,o0⟩:=q2 n Q v0 f fd e3 e1;obtain⟨b,rfl,hb,⟨o,ho⟩,hC⟩:=o0.apA F;have Ve:jU H O Z s n b:=⟨a,cls,fs,C,R,ws,_,_,fd,I,D,h1,e1,Fd.aEO F,e3⟩;have pL:s<Z.length:=(cY.mp D).1;have L:∀k,k<Z.length->(O++[b])[k]?=O[k]?:=λk r=>iD (by rw[w.len];exact r);have M:∀k,k<Z.length->(Z.set s (.ins cls (putD Q (.val (.aE Z.length)) fs))++[c])[k]?=(Z.set s (.ins cls (putD Q (.val (.aE Z.length)) fs)))[k]?:=λk r=>iD (by simpa using r);refine⟨b,w.sub,?_,by simp[w.len],λx hx=>?_,λk c' S l m=>?_,λb' k i k' i' l m=>?_⟩
 ·rw[Mp];exact⟨w.inj,by simp,λx hx y hy=>by simp at hy;subst hy;exact λe=>hb (e ▸ hx)⟩
 ·rcases kL.mp hx with h|h
  ·exact w.live x h
  ·simp at h;subst h;exact⟨o,ho⟩
 ·by_cases r:k<Z.length
  ·rw[L k r]at m;rw[M k r]at l
   by_cases A:k=s
   ·subst A;rw[eV pL]at l;cases l;rw[I]at m;cases m;refine⟨g,C,R,ws,h0,h1,xN.mpr ⟨by rw[e2];simpa using q1,λj h v g' N B z=>?_⟩⟩;rw[e2]at z
    by_cases E:j=n
    ·subst E;rw[eV zB]at z;cases z;rw[e3]at B;cases B;refine⟨rfl,?_⟩;simp only[kF,Den];exact⟨b,rfl,by rw[<-w.len];simp⟩
    ·rw[dZ (cX E)]at z;obtain⟨r1,V⟩:=q2 j h v g' N B z;refine⟨r1,V.lend λX ev=>E ?_⟩;subst ev;exact(w.sep b _ j _ n ⟨a,cls,fs,C,R,ws,_,_,N,I,D,h1,z,X,B⟩ Ve).2
   ·rw[dZ (cX A)]at l;have q:=w.aE k c' S l m;cases c' with
    |lst ds=>obtain⟨B,xs,z,d⟩:=q;exact⟨B,xs,z,d.ext (Ext.cell b)⟩
    |cV kvs=>obtain⟨B,t,z,d,U⟩:=q;exact⟨B,t,z,d,U.ext (Ext.cell b)⟩
    |ins W mF =>
     obtain⟨y0,T,P,t,B,z,d⟩:=q;obtain⟨p1,p2⟩:=xN.mp d;refine⟨y0,T,P,t,B,z,xN.mpr ⟨p1,λj h v g' N U u=>?_⟩⟩;obtain⟨r1,V⟩:=p2 j h v g' N U u;refine⟨r1,V.lend λX ev=>A ?_⟩;subst ev;exact(w.sep b k j s n ⟨S,W,mF,T,P,t,_,_,N,m,l,z,u,X,U⟩ Ve).1
    |tab x pos qual=>exact q
    |dead=>trivial
  ·have nW:k=Z.length:=by
    have:=(cY.mp l).1;simp at this;omega
   subst nW;rw[<-w.len]at m;simp at m;subst m;simp at l;subst l;cases fd with
   |val x=>cases F
   |lst ds=>cases F;obtain⟨B,xs,z,d⟩:=hC;exact⟨B,xs,z,d.ext (Ext.cell b)⟩
   |cV kvs=>cases F;obtain⟨B,t,z,d,U⟩:=hC;exact⟨B,t,z,d,U.ext (Ext.cell b)⟩
 ·have back:∀{k i},jU H (O++[b]) (Z.set s (.ins cls (putD Q (.val (.aE Z.length)) fs))++[c]) k i b'->jU H O Z k i b':=λ{k i} h=>by
   have h0':=h;obtain⟨S,W,mF,T,P,t,g',h',N,B,z,d,U,u,y6⟩:=h
   by_cases r:k<Z.length
   ·rw[L k r]at B;rw[M k r]at z
    by_cases A:k=s
    ·subst A;rw[eV pL]at z;cases z;rw[I]at B;cases B;rw[h1]at d;cases d;rw[e2]at U
     by_cases E:i=n
     ·subst E;rw[eV zB]at U;cases U;cases u
     ·rw[dZ (cX E)]at U;exact⟨a,_,fs,C,R,ws,g',h',N,I,D,h1,U,u,y6⟩
    ·rw[dZ (cX A)]at z;exact⟨S,W,mF,T,P,t,g',h',N,B,z,d,U,u,y6⟩
   ·have nW:k=Z.length:=by
     have:=(cY.mp z).1;simp at this;omega
    subst nW;exact(h0'.no (by simp) (Fd.aEP F)).elim
  exact w.sep b' k i k' i' (back l) (back m)
theorem oE.get{n:a6}:∀{fs:aq (ba×Fd)} {i:a6} {p:ba×Fd},oE n fs->fs[i]?=ao p->nH n p.2
 |[],_,_,_,h=>by simp at h
 |_::_,0,_,c,h=>by simp at h;subst h;exact c.1
 |_::fs,i+1,_,c,h=>oE.get (fs:=fs) c.2 (by simpa using h)
theorem Wd.fold{s:a6}{cls f:ba}{fs:aq (ba×Fd)}{fd:Fd}{c:Cell}{q:aH}(w:Wd K G O (q++[c]) H)(hs:q[s]?=ao (.ins cls fs))(hf:fs.lookup f=ao (.val (.aE q.length)))(hc:fd.cell=ao c)
  (M:∀k c',k≠s->q[k]?=ao c'->GI q.length c') (hfs:oE q.length (putD f fd fs)):Wd K G (O.take q.length) (q.set s (.ins cls (putD f fd fs))) H:=by
 have X:s<q.length:=(cY.mp hs).1;have hlen:O.length=q.length+1:=by rw[w.len];simp
 have e:∀k,k<q.length->(q++[c])[k]?=q[k]?:=λk M=>iD M;have d:∀k,k<q.length->(O.take q.length)[k]?=O[k]?:=λk M=>by rw[KD,a9 M]
 obtain⟨b,hb⟩:∃b,O[q.length]?=ao b:=⟨O[q.length]'(by omega),fF _⟩;have eι:O=O.take q.length++[b]:=by
  have:=List.take_append_getElem (l:=O) (i:=q.length) (by omega);rw[fF (show q.length<O.length by omega)]at hb;cases hb;rw[List.take_append_getElem,JZ (by omega)]
 have hbn:b∉O.take q.length:=λz=>by
  have nd:=w.inj;rw[eι,Mp]at nd;exact nd.2.2 b z b (by simp) rfl
 have sub:∀x,x∉O->x∉O.take q.length:=λx hx z=>hx (adO z);have D:∃a,O[s]?=ao a:=w.addr (show(q++[c])[s]?=ao (.ins cls fs)by rw[e s X];exact hs);obtain⟨a,D⟩:=D;obtain⟨g,C,dx,ws,h0,h1,h2⟩:=w.aE s _ a (by rw[e s X];exact hs) D;obtain⟨i0,e1,e2⟩:=DT hf;obtain⟨q1,q2⟩:=xN.mp h2;have zB:i0<fs.length:=(cY.mp e1).1;have hcb:=w.aE q.length c b (by simp) hb;refine⟨w.sub,w.inj.sublist (YT ..),by simp[hlen],λx hx=>w.live x (adO hx),λk c' S m t=>?_,λp k i k' i' m t=>?_⟩
 ·have y:k<q.length:=by simpa using(cY.mp m).1
  rw[d k y]at t
  by_cases A:k=s
  ·subst A;rw[eV X]at m;cases m;rw[D]at t;cases t;refine⟨g,C,dx,ws,h0,h1,xN.mpr ⟨by rw[e2];simpa using q1,λj h v g' B U N=>?_⟩⟩;have R:nH q.length B:=hfs.get N;rw[e2]at N
   by_cases P:j=i0
   ·subst P;rw[eV zB]at N;cases N;obtain⟨r1,o⟩:=q2 j h v _ _ U e1;refine⟨r1,?_⟩;simp only[kF,Den]at o;obtain⟨b2,rfl,jY⟩:=o;rw[hb]at jY;cases jY;exact kF.DL hc hbn (hcb.cut d sub (by cases fd <;> cases hc <;> exact R))
   ·rw[dZ (cX P)]at N;obtain⟨r1,o⟩:=q2 j h v g' B U N;exact⟨r1,o.cut d sub R⟩
  ·rw[dZ (cX A)]at m;exact(w.aE k c' S (by rw[e k y];exact m) t).cut d sub (M k c' A m)
 ·
  have back:∀{k i},jU H (O.take q.length) (q.set s (.ins cls (putD f fd fs))) k i p->(jU H O (q++[c]) k i p/\p∉O)\/(k=s/\i=i0/\p=b):=λ{k i} h=>by
   obtain⟨S,W,L,C',tG,oG,g',h',B,U,N,u,n,T,E⟩:=h;have y:k<q.length:=by simpa using(cY.mp N).1
   rw[d k y]at U;have ae:∀{W L oG C' tG B g' h'},(q++[c])[k]?=ao (.ins W L)->H S=ao (.ins C' tG oG)->L[i]?=ao (g',B)->B.own=a5->oG[i]?=ao (h',V.ref p)->p∉O:=λ{_ _ _ _ _ fdx _ _} I F x3 x4 x5=>by
    obtain⟨_,_,_,ws2,_,p1,p2⟩:=w.aE k _ S I U;rw[F]at p1;cases p1;obtain⟨_,r⟩:=(xN.mp p2).2 i _ _ _ _ x5 x3;cases fdx with
    |val x=>cases x4
    |lst ds=>obtain⟨b3,_,t1,_,t2,_⟩:=r;cases t1;exact t2
    |cV kvs=>obtain⟨b3,_,t1,_,t2,_⟩:=r;cases t1;exact t2
   by_cases A:k=s
   ·subst A;rw[eV X]at N;cases N;rw[D]at U;cases U;rw[h1]at u;cases u;rw[e2]at n
    by_cases P:i=i0
    ·subst P
     right
     rw[eV zB]at n;cases n;obtain⟨r1,o⟩:=q2 i _ _ _ _ E e1;simp only[kF,Den]at o;obtain⟨b2,eb,jY⟩:=o;rw[hb]at jY;cases jY;cases eb;exact⟨rfl,rfl,rfl⟩
    ·rw[dZ (cX P)]at n;have Q:(q++[c])[k]?=ao (.ins cls fs):=by rw[e k y];exact hs
     exact .inl ⟨⟨a,_,fs,C,dx,ws,g',h',B,D,Q,h1,n,T,E⟩,ae Q h1 n T E⟩
   ·rw[dZ (cX A)]at N;have Q:(q++[c])[k]?=ao (.ins W L):=by rw[e k y];exact N
    exact .inl ⟨⟨S,W,L,C',tG,oG,g',h',B,U,Q,u,n,T,E⟩,ae Q u n T E⟩
  have Zp:b∈O:=mJ hb
  rcases back m with⟨I,F⟩|⟨I,F,x3⟩ <;> rcases back t with⟨U,N⟩|⟨U,N,u⟩
  ·exact w.sep p k i k' i' I U
  ·subst u;exact b7 Zp F
  ·subst x3;exact b7 Zp N
  ·exact⟨I.trans U.symm,F.trans N.symm⟩
end
def YH(s:a6)(f:ba)(Z Z1:aH):Prop:=∃cls fs fd c,Z[s]?=ao (.ins cls fs)/\fs.lookup f=ao fd/\fd.cell=ao c/\Z1=Z.set s (.ins cls (putD f (.val (.aE Z.length)) fs))++[c]
def Folds(s:a6)(f:ba)(n:a6)(Z2 Z':aH):Prop:=∃j c cls fs fd,Z2=j++[c]/\j.length=n/\j[s]?=ao (.ins cls fs)/\fs.lookup f=ao (.val (.aE n))/\fd.cell=ao c /\
 (∀k c',k≠s->j[k]?=ao c'->GI n c')/\oE n (putD f fd fs)/\Z'=j.set s (.ins cls (putD f fd fs))
structure GH(Z:aH)(Y:Ev):Prop where
 aE:∀(k:a6) (c:Cell),Z[k]?=ao c->GI Z.length c
 env:∀(i:a6) (d:A),Y[i]?=ao (ao d)->Cl Z.length d
section
variable{K:bj}{G H:Hp}{O:aq az}{Z Z1 Z2 Z':aH}{J:L2.St}{Y:Ev}{W:WX}{s:a6}{f:ba}
theorem Wd.oW(w:Wd K G O Z H)(r:gV K G O J Y):GH Z Y where
 aE:=λk c h=>by
  obtain⟨a,j⟩:=w.addr h;have:=(w.aE k c a h j).cl;rwa[w.len]at this
 env:=λi d h=>by
  obtain⟨v,_,q⟩:=r.2 i d h;have:=q.cl;rwa[w.len]at this
theorem Wd.Qx(w:Wd K G O Z H)(h:YH s f Z Z1):∃b,Wd K G (O++[b]) Z1 H:=by
 obtain⟨cls,fs,fd,c,h1,h2,j,rfl⟩:=h;exact w.unfold h1 h2 j
theorem aa1{G':Hp}{O':aq az}{b:az}{n:a6}(hl:O.length=n)(e:Ext G (O++[b]) G' O'):Ext G O G' (O'.take n):=⟨e.same,λk x h=>by
 have j:=(cY.mp h).1;rw[KD,a9 (by omega)];exact e.pre k x (by rw[iD j];exact h)⟩
theorem Wd.aaV{n:a6}(w:Wd K G O Z2 H)(h:Folds s f n Z2 Z'):Wd K G (O.take n) Z' H:=by
 obtain⟨j,c,cls,fs,fd,rfl,rfl,U,N,B,z,q,rfl⟩:=h;exact w.fold U N B z q
theorem Rq{O':aq az}{n:a6}:∀k,k<n->(O'.take n)[k]?=O'[k]?:=λk j=>by rw[KD,a9 j]
theorem anL{α β:Type}{rel:Rl α β}{cl:a6->α->Prop}(B:∀(G:Hp) (O O':aq az) (n:a6) (v:β) (a:α),(∀k,k<n->O[k]?=O'[k]?)->rel G O' v a->cl n a->rel G O v a)
  {b:az} {Q:β->Hp->Prop} {a:α} (w:Wd K G O Z H) (z:Folds s f Z.length Z2 Z') (q:cl Z.length a) (h:bD K rel W G O J Q (ao (.ok a,Z'))):bD K rel W G (O++[b]) J Q (ao (.ok a,Z2)):=by
 intro v N U O' e j d;exact h v N U (O'.take Z.length) (aa1 w.len e) (j.aaV z) (B _ _ _ _ _ _ Rq d q)
theorem aa9{q:L2.St}{j:Ev}{G':Hp}{O':aq az}{n:a6}(r:gV K G' O' q j)(z:∀(i:a6) (d:A),j[i]?=ao (ao d)->Cl n d):gV K G' (O'.take n) q j :=
 ⟨r.1,λi d h=>let ⟨v,h1,h2⟩:=r.2 i d h; ⟨v,h1,h2.cut Rq (z i d h)⟩⟩
theorem anM{b:az}{D:Ends}{j:Ev}(w:Wd K G O Z H)(a:Folds s f Z.length Z2 Z')(U:∀(i:a6) (d:A),j[i]?=ao (ao d)->Cl Z.length d)(h:fQ K W G O D (ao (.nx,j,Z'))):fQ K W G (O++[b]) D (ao (.nx,j,Z2)):=by
 intro q c g z e B N;exact h q c g (z.take Z.length) (aa1 w.len e) (B.aaV a) (aa9 N U)
end
section
variable{X:Cx}{W:WX}{e:bx}{tg:bx}{st:b8}{g d:Ev->Mo A}{gb db:Ev->Mo br}{gs ds:MS}{gt dt:A->MS}
theorem Ah(h:VE X W e g)(hd:∀Y Z r,GH Z Y->d Y Z=ao r->∃s f Z1 a Z2,YH s f Z Z1/\g Y Z1=ao (.ok a,Z2)/\Folds s f Z.length Z2 r.2/\Cl Z.length a/\r.1=.ok a):VE X W e d:=by
 obtain⟨t,p,U⟩:=h;refine⟨t,p,λG B Z H J Y Q w r h=>?_⟩;cases e:d Y Z with
 |none=>rw[e]at h;exact h.elim
 |some q =>
  obtain⟨s,f,Z1,a,Z2,h1,h2,j,c,z⟩:=hd Y Z q (w.oW r) e;obtain⟨b,N⟩:=w.Qx h1;obtain⟨k,i⟩:=q;simp only at j z;subst z;rw[e]at h;refine U G (B++[b]) Z1 H J Y Q N (r.ext (Ext.cell b)) ?_;rw[h2];exact anL (rel:=Den X.K) (cl:=Cl) (λ_ _ _ _ _ _ h1 h2 j=>h2.cut h1 j) w j c h
theorem afS(h:VS X W st gs)(hd:∀Y Z r,GH Z Y->ds Y Z=ao r->∃s f Z1 Z2,YH s f Z Z1/\gs Y Z1=ao (.nx,r.2.1,Z2)/\Folds s f Z.length Z2 r.2.2/\(∀(i:a6) (d:A),r.2.1[i]?=ao (ao d)->Cl Z.length d)/\r.1=.nx):VS X W st ds:=by
 obtain⟨t,p,a⟩:=h;refine⟨t,p,λG N Z H J Y D w r h=>?_⟩;cases e:ds Y Z with
 |none=>rw[e]at h;exact h.elim
 |some q =>
  obtain⟨s,f,Z1,Z2,h1,h2,B,z,j⟩:=hd Y Z q (w.oW r) e;obtain⟨b,U⟩:=w.Qx h1;obtain⟨k,g,c⟩:=q;simp only at h2 B z j;subst j;rw[e]at h;refine a G (N++[b]) Z1 H J Y D U (r.ext (Ext.cell b)) ?_;rw[h2];exact anM w B z h
end
def fJ(K:bj)(cs:aq ba)(f:ba):Prop:=∀cls∈cs,∃C,cx K a7 cls=ao (ao (.ref C))/\pA K C/\FI K C f
@[simp] def Jf(cs:aq ba)(f:ba)(a:A):Mo A:=λZ=>match a with
 |.aE s=>match Z[s]? with
  |some (.ins cls fs)=>if cls∈cs then match fs.lookup f with
   |some (.val b)=>ao (.ok b,Z)
   |_=>au else au
  |_=>au
 |_=>au
@[simp] def bU(cs:aq ba)(f:ba)(fe:Ev->Mo A):Ev->Mo A:=λY=>mb (fe Y) (Jf cs f)
@[simp] def vD(cs:aq ba)(f:ba)(fo fv:Ev->Mo A):MS:=λY=>sM (fv Y) Y λb=>sM (fo Y) Y λa Z=>match a with
 |.aE s=>match Z[s]? with
  |some (.ins cls fs)=>if cls∈cs/\fs.length<1000 then ao (.nx,Y,Z.set s (.ins cls (putD f (.val b) fs)))else au
  |_=>au
 |_=>au
section
variable{K:bj}{G H:Hp}{O:aq az}{Z:aH}
theorem Wd.ins(w:Wd K G O Z H){s:a6}{cls:ba}{fs:aq (ba×Fd)}{v:V}(h:Z[s]?=ao (.ins cls fs))(d:Den K G O v (.aE s)):∃a C dx,∃ws:aq (ba×V),v=.ref a/\O[s]?=ao a/\G a=au/\cx K a7 cls=ao (ao (.ref C))/\H a=ao (.ins C dx ws)/\jV K G O H ws fs:=by
 simp only[Den]at d;obtain⟨a,rfl,j⟩:=d;obtain⟨g,C,dx,ws,h1,h2,q⟩:=w.aE s _ a h j;exact⟨a,C,dx,ws,rfl,j,g,h1,h2,q⟩
theorem Uh{f:ba}{v:V}{b:A}:∀{j:aq (ba×V)} {fs:aq (ba×Fd)} {i:a6} {g h:ba} {fd:Fd} {x:V},jV K G O H j fs->(putD f (.val b) fs)[i]?=ao (g,fd)->fd.own=a5->(jS f v j)[i]?=ao (h,x)->fs[i]?=ao (g,fd)/\j[i]?=ao (h,x)
 |[],[],i,g,h,fd,x,_,y,o,_=>by
  cases i with
  |zero=>simp[putD]at y;obtain⟨_,rfl⟩:=y;cases o
  |succ i=>simp[putD]at y
 |[],_::_,_,_,_,_,_,q,_,_,_=>q.elim
 |_::_,[],_,_,_,_,_,q,_,_,_=>q.elim
 |(k,u)::j,(U,d)::fs,i,g,h,fd,x,q,y,o,z=>by
  obtain⟨rfl,N,B⟩:=q
  by_cases e:k=f
  ·simp only[putD,jS,a9 e]at y z;cases i with
   |zero=>simp at y;obtain⟨_,rfl⟩:=y;cases o
   |succ i=>exact⟨by simpa using y,by simpa using z⟩
  ·simp only[putD,jS,bb e]at y z;cases i with
   |zero=>exact⟨by simpa using y,by simpa using z⟩
   |succ i =>
    have:=Uh (f:=f) (v:=v) (b:=b) (i:=i) B (by simpa using y) o (by simpa using z);exact⟨by simpa using this.1,by simpa using this.2⟩
theorem Wd.akF(w:Wd K G O Z H){s:a6}{cls f:ba}{fs:aq (ba×Fd)}{a C dx:az}{ws:aq (ba×V)}{v:V}{b:A}(h:Z[s]?=ao (.ins cls fs))(c:O[s]?=ao a)(E:G a=au)(h0:cx K a7 cls=ao (ao (.ref C)))
  (h1:H a=ao (.ins C dx ws)) (h2:jV K G O H ws fs) (d:Den K G O v b):Wd K G O (Z.set s (.ins cls (putD f (.val b) fs))) (upd H a (.ins C dx (jS f v ws))):=by
 have t:s<Z.length:=(cY.mp h).1;have D:∀b o,b∉O->G b=au->H b=ao o->b∉O/\G b=au/\upd H a (.ins C dx (jS f v ws)) b=ao o:=λb o x y z=>by
  have nb:b≠a:=λe=>by subst e;exact x (HV c)
  exact⟨x,y,by rw[bR nb];exact z⟩
 have T:jV K G O (upd H a (.ins C dx (jS f v ws))) ws fs:=h2.map λ_ _ q=>q.mono (Ext.refl _ _) D;refine⟨λb u q=>?_,w.inj,by simp[w.len],λb hb=>?_,λj S b U N=>?_,λb2 j i Q R U N=>?_⟩
 ·have e:b≠a:=λe=>by subst e;rw[E]at q;cases q
  rw[bR e];exact w.sub _ _ q
 ·by_cases e:b=a
  ·subst e;exact⟨_,eZ⟩
  ·rw[bR e];exact w.live b hb
 ·by_cases B:j=s
  ·subst B;rw[eV t]at U;cases U;rw[c]at N;cases N;exact⟨E,C,dx,_,h0,eZ,T.put d⟩
  ·rw[dZ (cX B)]at U;have eX:b≠a:=λe=>by subst e;exact B (HR w.inj N c)
   exact(w.aE j S b U N).mono (Ext.refl _ _) rfl (bR eX) D
 ·have back:∀{j i},jU (upd H a (.ins C dx (jS f v ws))) O (Z.set s (.ins cls (putD f (.val b) fs))) j i b2->jU H O Z j i b2:=λ{j i} q=>by
   obtain⟨F,L,P,W,I,M,g',h',g,m,l,k,r,n,p⟩:=q
   by_cases B:j=s
   ·subst B;rw[eV t]at l;cases l;rw[c]at m;cases m;rw[eZ]at k;cases k;have pi:=Uh h2 r n p;exact⟨a,cls,fs,C,dx,ws,g',h',g,c,h,h1,pi.1,n,pi.2⟩
   ·rw[dZ (cX B)]at l;have eX:F≠a:=λe=>by subst e;exact B (HR w.inj m c)
    rw[bR eX]at k;exact⟨F,L,P,W,I,M,g',h',g,m,l,k,r,n,p⟩
  exact w.sep b2 j i Q R (back U) (back N)
end
section
variable{X:Cx}{W:WX}{e o value:bx}{f:ba}{cs:aq ba}{pos pos':dn}{fe fo fv:Ev->Mo A}
theorem lL(h:VE X W e fe)(o:fJ X.K cs f)(hb:dw e f X.env (cj e X.env)=cj e X.env:=by rfl):VE X W (.Attribute e f pos) (bU cs f fe):=by
 obtain⟨t,p,s⟩:=h;refine⟨_,aoT p hb,λG d g H J U Q w r h=>?_⟩;refine s G d g H J U _ w r (bD.mb h λa q v L M j P w1 I h1=>?_);unfold Jf at h1;cases a with
 |aE k =>
  simp only at h1;cases B:q[k]? with
  |none=>rw[B]at h1;exact h1.elim
  |some c =>
   rw[B]at h1;cases c with
   |ins cls fs =>
    simp only at h1
    by_cases gC:cls∈cs
    ·rw[a9 gC]at h1;cases z:fs.lookup f with
     |none=>rw[z]at h1;exact h1.elim
     |some D =>
      rw[z]at h1;cases D with
      |val b =>
       obtain⟨a,C,E,i,rfl,S,R,A,x,y⟩:=w1.ins B I;obtain⟨T,N,n,m⟩:=o cls gC;rw[A]at N;cases N;obtain⟨u,l,F⟩:=y.look z;exact⟨a,C,E,i,u,rfl,x,n,m,l,h1 u L M j (Ext.refl _ _) w1 F⟩
      |_=>exact h1.elim
    ·rw[bb gC]at h1;exact h1.elim
   |_=>exact h1.elim
 |_=>exact h1.elim
theorem AD(P:VE X W o fo)(hv:VE X W value fv)(R:fJ X.K cs f)(M:ej value (ao (.Attribute o f pos')) pos.line X.env=pure ax:=by rfl):VS X W (.Assign [.Attribute o f pos'] value pos) (vD cs f fo fv):=by
 obtain⟨t,p,s⟩:=P;obtain⟨u,q,z⟩:=hv;refine⟨_,anB p q M,λG A E H J e D w r h=>?_⟩;refine z G A E H J e _ w r (fQ.sM h r λb U y H1 G1 B d w1 d1 h1=>?_);refine s G1 B U H1 J e _ w1 (r.ext d) (fQ.sM h1 (r.ext d) λa N v H2 G2 x g w2 V h2=>?_);cases a with
 |aE k =>
  simp only at h2;cases j:N[k]? with
  |none=>rw[j]at h2;exact h2.elim
  |some c =>
   rw[j]at h2;cases c with
   |ins cls fs =>
    simp only at h2
    by_cases gC:cls∈cs/\fs.length<1000
    ·rw[a9 gC]at h2;obtain⟨a,C,T,F,rfl,S,Q,n,l,m⟩:=w2.ins j V;obtain⟨C',i,L,I⟩:=R cls gC.1;rw[n]at i;cases i;refine⟨a,C,T,F,rfl,l,L,I,by rw[m.len];exact gC.2,?_⟩;exact wZ (w2.akF j S Q n l m (d1.ext g)) ((r.ext d).ext g) h2
    ·rw[bb gC]at h2;exact h2.elim
   |_=>exact h2.elim
 |_=>exact h2.elim
end
end V2
namespace L2
open PySem PySem.Spec PyProof.Rows
section
variable{X:Cx}{W:WX}{k:a6}{f C:az}{fd:c3}{ps:aq ba}{sp:Sp}{dvs:aq V}{ds:aq av}{x m:ba}{p pos ag:dn}{e o:bx}{es:aq bx}{ta:TE}{t:TA}
theorem Tr{aa:aq (az×c6)}{J:St}{H:Hp}{s:ay}{Q:VK}{us:aq av}{vs:aq V}(T:pU X W)(F:jA X.prog X.w X.K X.mg X.base (qV X.prog X.w) k f fd ps sp)(hr:cK k X.A)(hb:Binds X.K fd ps ds)(hd:Vals dvs ds)
  (I:Inv X aa J H s) (r:Vals vs us) (h:sp (vs++dvs) H Q λcls dx H'=>W J cls dx H'):wpAny (bq X.prog X.w) X.A (call (.ref f) us) (EP X aa J Q) X.xe s:=by
 have q:Vals (vs++dvs) (us++ds):=r.append hd;have hl:(us++ds).length=ps.length:=by rw[<-q.length];exact F.len _ _ _ _ h
 refine GP (uJ (F.run X.A X.stack s H ⟨us,[]⟩ (us++ds) (vs++dvs) Q _ hr I.IY (hb s us I.fY hl) q h) λr s' j=>?_);cases r with
 |error U =>
  obtain⟨a,cls,dx,H',rfl,os,bare,un,aK,ex,B⟩:=j;have N:=(I.PQ os un aK bare (λb z=>b7 z (by simp))).Dv;exact T.to _ _ ⟨J,H',a,cls,dx,rfl,N,(ex.first I T.ex).any,B⟩
 |ok fl =>
  cases fl with
  |ret u=>exact I.after j
  |next=>exact False.elim j
  |brk=>exact False.elim j
  |cont=>exact False.elim j
def Bg(X:Cx)(W:WX)(m:ba)(ta:TE)(t:TA):TE:=λJ H Q=>ta J H λx H1=>∃a C dx fs k f fd ps ds dvs sp,x=.ref a/\H1 a=ao (.ins C dx fs)/\fs.lookup m=au/\pA X.K C/\Meth X.K C m f /\
 jA X.prog X.w X.K X.mg X.base (qV X.prog X.w) k f fd ps sp/\cK k X.A/\Binds X.K fd ps ds/\Vals dvs ds/\t J H1 λvs H2=>sp (.ref a::vs++dvs) H2 Q λcls dx H'=>W J cls dx H'
theorem aoL{pl:Sem br}(T:pU X W)(he:PE X o ta)(i:PA X (e::es) t)
  (d:bg (e::es) X.env=(ax,cj e X.env)::bg es X.env:=by rfl) (p:(cz pos (bg es X.env)).any (·.1)=ax:=by rfl)
  (g:cj (.Call (.Attribute o m ag) (e::es) [] pos) X.env=(do
   let j<-cj o X.env
   standAt ag.atName
   let (f,first)<-holding [j] (getMethod j m pl)
   callWith pos f first (cz pos (bg (e::es) X.env)) (backToKw pos (fm [] X.env))):=by rfl) :
  PE X (.Call (.Attribute o m ag) (e::es) [] pos) (Bg X W m ta t):=by
 intro aa s J H Q I h;refine PySem.W.methodCall_KW (pl:=pl) (bC (he aa s J H _ I h) λu N h1=>?_) g;obtain⟨x,w,B,U,a,C,E,fs,k,f,D,A,ds,v,y,rfl,n,l,c,hm,F,hr,hb,hd,q⟩:=h1;obtain rfl:u=Value.ref a:=U;refine aaH B n c hm l ?_;refine callWith_K (first:=[.ref a]) (h₀:=X.base) I.ok.mod.sS hm.kp (bC (i pos aa N J w _ B q) λus s2 ⟨vs,G,z,r,b⟩=>⟨z.fY,?_⟩) d p;exact Tr (us:=.ref a::us) (vs:=.ref a::vs) T F hr hb hd z (.cons rfl r) b
theorem aoK{pl:Sem br}(T:pU X W)(he:PE X o ta)
  (N:cj (.Call (.Attribute o m ag) [] [] pos) X.env=(do
   let z<-cj o X.env
   standAt ag.atName
   let (f,first)<-holding [z] (getMethod z m pl)
   callWith pos f first (cz pos (bg [] X.env)) (backToKw pos (fm [] X.env))):=by rfl) :
  PE X (.Call (.Attribute o m ag) [] [] pos) (Bg X W m ta SQ):=by
 intro aa s J H Q I h;refine PySem.W.methodCall_KW (pl:=pl) (bC (he aa s J H _ I h) λu e h1=>?_) N;obtain⟨x,p,j,B,a,C,n,fs,k,f,i,g,ds,b,d,rfl,U,l,c,hm,F,hr,hb,hd,q⟩:=h1;obtain rfl:u=Value.ref a:=B;refine aaH j U c hm l ?_;exact PySem.W.callWith_K0 (first:=[.ref a]) j.fY hm.kp (Tr (us:=[.ref a]) (vs:=[.ref a]) T F hr hb hd j (.cons rfl .nil) q)
end
end L2
namespace V2
open PySem PySem.Spec PyProof.Rows L2
@[simp] def eN(n:a6)(das:aq A)(F:aq A->Mo A):aq A->Mo A:=λas=>if as.length+das.length=n then F (as++das)else stuck
structure fT(P:bh)(w:bw)(K:bj)(mg:ba->aw av)(base:bz)(cls m:ba)(k:a6)(n:a6)(das:aq A)(F:aq A->Mo A):Prop where
 ex:∃C f fd ps ds dvs,cx K a7 cls=ao (ao (.ref C))/\pA K C/\Meth K C m f/\ps.length=n/\jA P w K mg base (qV P w) k f fd ps (vB K ps.length F)/\Binds K fd ps ds/\Vals dvs ds/\∀G O,aU K G O dvs das
@[simp] def WK(m:ba)(tab:aq (ba×(aq A->Mo A)))(fs:Mo (aq A))(a:A):Mo A:=λZ=>match a with
 |.aE s=>match Z[s]? with
  |some (.ins cls j)=>match tab.lookup cls,j.lookup m with
   |some F,au=>mb fs (λas=>F (.aE s::as)) Z
   |_,_=>au
  |_=>au
 |_=>au
@[simp] def eR(m:ba)(tab:aq (ba×(aq A->Mo A)))(fo:Ev->Mo A)(fs:Ev->Mo (aq A)):Ev->Mo A:=λY=>mb (fo Y) (WK m tab (fs Y))
def fV(X:Cx)(m:ba)(tab:aq (ba×(aq A->Mo A))):Prop:=∀cls F,tab.lookup cls=ao F->∃k n das j,F=eN n das j/\cK k X.A/\fT X.prog X.w X.K X.mg X.base cls m k n das j
section
variable{X:Cx}{W:WX}{m:ba}{tab:aq (ba×(aq A->Mo A))}{o e:bx}{es:aq bx}{fo:Ev->Mo A}{fs:Ev->Mo (aq A)}{pos ag:dn}
theorem fV.nil:fV X m []:=λcls F h=>by simp at h
theorem fV.cons{cls:ba}{k n:a6}{das:aq A}{F:aq A->Mo A}(h:fT X.prog X.w X.K X.mg X.base cls m k n das F)(hr:cK k X.A)(t:fV X m tab):fV X m ((cls,eN n das F)::tab):=λc j q=>by
 by_cases e:c=cls
 ·subst e;simp[List.lookup]at q;exact⟨k,n,das,F,q.symm,hr,h⟩
 ·have hb:(c==cls)=ax:=xS.mpr e;simp only[List.lookup,hb]at q;exact t c j q
theorem Sw{ta:TE}{t:TA}(NF:fV X m tab)(M:fP X.K (Den X.K) W ta fo)(s2:fP X.K (aU X.K) W t fs):fP X.K (Den X.K) W (Bg X W m ta t) (eR m tab fo fs):=by
 intro G y A H J l Q w r h;refine M G y A H J l _ w r (bD.mb h λa q v H1 G1 N E w1 i h1=>?_);unfold WK at h1;cases a with
 |aE s =>
  simp only at h1;cases g:q[s]? with
  |none=>rw[g]at h1;exact h1.elim
  |some c =>
   rw[g]at h1;cases c with
   |ins cls Jh =>
    simp only at h1;cases e:tab.lookup cls with
    |none=>rw[e]at h1;exact h1.elim
    |some F =>
     rw[e]at h1;cases d:Jh.lookup m with
     |some _=>rw[d]at h1;exact h1.elim
     |none =>
      rw[d]at h1;obtain⟨k,n,B,F0,rfl,hr,MV⟩:=NF cls F e;obtain⟨C,f,V,P,ds,z,T,gC,VL,hn,FO,hb,hv,b⟩:=MV.ex;obtain⟨a,C',dx,I,rfl,ha,hg,o,R,S⟩:=w1.ins g i;rw[T]at o;cases o;refine⟨a,C,dx,I,k,f,V,P,ds,z,_,rfl,R,S.aqZ d,gC,VL,FO,hr,hb,hv,?_⟩;refine s2 G1 N q H1 J l _ w1 (r.ext E) (bD.mb h1 λu U L H2 x j D w2 d2 h2=>?_);unfold eN at h2;split at h2
      ·rename_i hl;have p:aU X.K x j (.ref a::L++z) (.aE s::u++B):=(aU.cons (by simp only[Den]at i ⊢;obtain⟨a2,e5,e6⟩:=i;exact⟨a2,e5,D.pre _ _ e6⟩) d2).append (b _ _);refine⟨?_,x,j,U,.aE s::u++B,w2,p,ab6 h2 (Ext.refl _ _)⟩;have:=p.length;rw[this,hn];simp only[gF,iZ]at hl ⊢;omega
      ·exact h2.elim
   |_=>exact h1.elim
 |_=>exact h1.elim
theorem wQ{pl:Sem br}(T:pU X W)(c:fV X m tab)(U:VE X W o fo)(a:VA X W (e::es) fs)
  (B:bg (e::es) X.env=(ax,cj e X.env)::bg es X.env:=by rfl) (b:(cz pos (bg es X.env)).any (·.1)=ax:=by rfl)
  (N:cj (.Call (.Attribute o m ag) (e::es) [] pos) X.env=(do
   let j<-cj o X.env
   standAt ag.atName
   let (f,first)<-holding [j] (getMethod j m pl)
   callWith pos f first (cz pos (bg (e::es) X.env)) (backToKw pos (fm [] X.env))):=by rfl) :
  VE X W (.Call (.Attribute o m ag) (e::es) [] pos) (eR m tab fo fs):=by
 obtain⟨d,z,q⟩:=U;obtain⟨t,p2,s2⟩:=a;exact⟨_,aoL T z p2 B b N,Sw c q s2⟩
theorem RX{pl:Sem br}(T:pU X W)(a:fV X m tab)(U:VE X W o fo)
  (N:cj (.Call (.Attribute o m ag) [] [] pos) X.env=(do
   let j<-cj o X.env
   standAt ag.atName
   let (f,first)<-holding [j] (getMethod j m pl)
   callWith pos f first (cz pos (bg [] X.env)) (backToKw pos (fm [] X.env))):=by rfl) :
  VE X W (.Call (.Attribute o m ag) [] [] pos) (eR m tab fo a0):=by
 obtain⟨d,B,z⟩:=U;refine⟨_,aoK T B N,Sw a z ?_⟩;intro G q c H J b Q w r h;exact h [] H G q (Ext.refl _ _) w .nil
structure JU(P:bh)(w:bw)(K:bj)(mg:ba->aw av)(base:bz)(cls:ba)(k:a6)(n:a6)(F:aq A->Mo A):Prop where
 ex:∃C f fd ps,cx K a7 cls=ao (ao (.ref C))/\mg cls=ao (.ref C)/\Mk K C f/\ps.length=n/\jA P w K mg base (qV P w) k f fd ps (vB K ps.length F)/\Binds K fd ps []
@[simp] noncomputable def IV(cls:ba)(n:a6)(F:aq A->Mo A)(as:aq A):Mo A:=λZ=>if as.length+1=n then match F (.aE Z.length::as) (Z++[.ins cls []])with
 |some (.ok .aV,Z2)=>ao (.ok (.aE Z.length),Z2)
 |_=>au else au
theorem af3{cls:ba}{k n:a6}{F:aq A->Mo A}{p:dn}(M:JU X.prog X.w X.K X.mg X.base cls k n F)(hr:cK (k+1) X.A)(R:Gl X cls)(S:VA X W (e::es) fs)
  (V:(cls==("__debug__" : ba))=ax:=by decide) (he:bg (e::es) X.env=(ax,cj e X.env)::bg es X.env:=by rfl) (eU:(cz pos (bg es X.env)).any (·.1)=ax:=by rfl) :
  VE X W (.Call (.Name cls p) (e::es) [] pos) (aQ (IV cls n F) fs):=by
 obtain⟨C,f,fd,ps,T,hm,mk,hn,FO,hb⟩:=M.ex;obtain⟨t,P,L⟩:=S;refine⟨_,aoM mk (Kh FO) hr R hm hb .nil Va P V he eU,λG m s H J l Q w r h=>?_⟩;refine L G m s H J l _ w r (bD.mb h λb j E c d z x1 w1 d1 h1=>?_);unfold IV at h1
 by_cases hl:b.length+1=n
 ·rw[a9 hl]at h1;intro x B i NY eX;have y:=w1.grow (H':=upd c B (.own x)) (oX.new NY);have I:upd c B (.own x) x=au:=by rw[bR (cX eX)];exact i
  have u:Wd X.K d (z++[x]) (j++[.ins cls []]) (upd (upd c B (.own x)) x (.ins C B [])):=y.cell I ⟨w1.oQ i,C,B,[],T,eZ,trivial⟩;have g:aU X.K d (z++[x]) (.ref x::(E++[])) (.aE j.length::b):=.cons (by simp only[Den];exact⟨x,rfl,by rw[<-w1.len];simp⟩) (by rw[rW];exact d1.ext (Ext.cell x));refine⟨by rw[g.length,hn];simpa using hl,d,z++[x],_,_,u,g,?_⟩
  revert h1
  generalize F (.aE j.length::b) (j++[.ins cls []])=q;intro h1
  match q,h1 with
  |some (.ok .aV,o),h1 =>
   intro v H' G' N U D d';simp only[Den]at d';subst d';refine⟨rfl,h1 (.ref x) H' G' N ⟨U.same,λk a q=>U.pre k a (by rw[iD (cY.mp q).1];exact q)⟩ D ?_⟩;simp only[Den];exact⟨x,rfl,U.pre _ _ (by rw[<-w1.len];simp)⟩
 ·rw[bb hl]at h1;exact h1.elim
end
def tW(cs:aq ba)(i:a6)(f:ba)(Y:Ev)(Z:aH):aw (a6×ba×aq (ba×Fd)×Fd):=match (Y[i]?).join with
 |some (.aE s)=>match Z[s]? with
  |some (.ins cls fs)=>if cls∈cs then(fs.lookup f).map λfd=>(s,cls,fs,fd)else au
  |_=>au
 |_=>au
abbrev eO(Z:aH)(s:a6)(cls f:ba)(fs:aq (ba×Fd))(c:Cell):aH:=Z.set s (.ins cls (putD f (.val (.aE Z.length)) fs))++[c]
section
variable{cs:aq ba}{i:a6}{f:ba}{Y:Ev}{Z:aH}{s:a6}{cls:ba}{fs:aq (ba×Fd)}{fd fd':Fd}{c c':Cell}
theorem MA(h:tW cs i f Y Z=ao (s,cls,fs,fd)):Y[i]?=ao (ao (.aE s))/\Z[s]?=ao (.ins cls fs)/\cls∈cs/\fs.lookup f=ao fd:=by
 unfold tW at h;cases B:(Y[i]?).join with
 |none=>rw[B]at h;cases h
 |some d =>
  rw[B]at h;cases d with
  |aE k =>
   simp only at h;cases z:Z[k]? with
   |none=>rw[z]at h;cases h
   |some c =>
    rw[z]at h;cases c with
    |ins N U =>
     simp only at h
     by_cases j:N∈cs
     ·rw[a9 j]at h;cases q:U.lookup f with
      |none=>rw[q]at h;cases h
      |some x =>
       rw[q]at h;cases h;exact⟨join_some B,z,j,q⟩
     ·rw[bb j]at h;cases h
    |_=>cases h
  |_=>cases h
theorem Vd(h1:Y[i]?=ao (ao (.aE s)))(h2:Z[s]?=ao (.ins cls fs))(q:cls∈cs)(j:fs.lookup f=ao fd):tW cs i f Y Z=ao (s,cls,fs,fd):=by
 unfold tW;rw[h1];simp[h2,q,j]
theorem Qw(h:tW cs i f Y Z=ao (s,cls,fs,fd))(j:fd.cell=ao c):YH s f Z (eO Z s cls f fs c):=by
 obtain⟨h1,h2,z,q⟩:=MA h;exact⟨cls,fs,fd,c,h2,q,j,rfl⟩
theorem PL{n:a6}{f:ba}{fd:Fd}:∀{fs:aq (ba×Fd)},oE n fs->nH n fd->oE n (putD f fd fs)
 |[],_,h=>⟨h,trivial⟩
 |(g,x)::r,c,h=>by
  by_cases e:g=f
  ·simp only[putD,a9 e];exact⟨h,c.2⟩
  ·simp only[putD,bb e];exact⟨c.1,PL c.2 h⟩
theorem aaU(cl:GH Z Y)(h:tW cs i f Y Z=ao (s,cls,fs,fd))(B:fd'.cell=ao c')(hn:nH Z.length fd'):Folds s f Z.length (eO Z s cls f fs c') (Z.set s (.ins cls (putD f fd' fs))):=by
 obtain⟨h1,h2,U,N⟩:=MA h;have q:s<Z.length:=(cY.mp h2).1;refine⟨Z.set s (.ins cls (putD f (.val (.aE Z.length)) fs)),c',cls,putD f (.val (.aE Z.length)) fs,fd',rfl,by simp,eV q,?_,B,λk x z j=>?_,?_,?_⟩
 ·rw[HL,a9 rfl]
 ·rw[dZ (cX z)]at j;exact cl.aE k x j
 ·rw[yP];have:=cl.aE s _ h2;exact PL this hn
 ·rw[yP,BW]
theorem aA8(cl:GH Z Y)(h:tW cs i f Y Z=ao (s,cls,fs,fd))(B:fd.cell=ao c):Folds s f Z.length (eO Z s cls f fs c) Z:=by
 obtain⟨h1,h2,U,z⟩:=MA h;obtain⟨j,N,_⟩:=DT z;have hn:nH Z.length fd:=(cl.aE s _ h2:oE _ fs).get N;have:=aaU cl h B hn;rw[TU z]at this;have e:Z.set s (.ins cls fs)=Z:=by
  apply zS;intro j
  by_cases q:s=j
  ·subst q;rw[eV (cY.mp h2).1,h2]
  ·rw[dZ q]
 rwa[e]at this
theorem Fh(h:tW cs i f Y Z=ao (s,cls,fs,fd)):(eO Z s cls f fs c)[Z.length]?=ao c:=by
 rw[pY (by simp)];simp
theorem Ws(h:tW cs i f Y Z=ao (s,cls,fs,fd)):bU cs f (eM i) Y (eO Z s cls f fs c)=ao (.ok (.aE Z.length),eO Z s cls f fs c):=by
 obtain⟨h1,h2,q,B⟩:=MA h;have j:s<Z.length:=(cY.mp h2).1;have e:(eO Z s cls f fs c)[s]?=ao (.ins cls (putD f (.val (.aE Z.length)) fs)):=by
  rw[iD (by simpa using j),eV j]
 have l:(putD f (Fd.val (.aE Z.length)) fs).lookup f=ao (.val (.aE Z.length)):=by rw[HL,a9 rfl]
 have z:(Y[i]?).join=ao (.aE s):=by rw[h1];rfl
 simp only[bU,eM,need,mb,z,QO,Jf,e,a9 q,l]
theorem Fg(j:Cell):(eO Z s cls f fs c).set Z.length j=eO Z s cls f fs j:=by
 unfold eO;rw[List.set_append_right _ _ (by simp)];simp
theorem MW{α β:Type}{m:Mo α}{k:α->Mo β}{Z Z1:aH}{a:α}(h:m Z=ao (.ok a,Z1)):mb m k Z=k a Z1:=by simp[mb,h]
end
def adC(fe:Ev->Mo A):Prop:=∀Y Z Z' r,fe Y Z=ao r->∃a,r=(.ok a,Z)/\fe Y Z'=ao (.ok a,Z')/\(GH Z Y->Cl Z.length a)
theorem amT(j:a6):adC (eM j):=λq B z r h=>by
 simp only[eM,need]at h ⊢;cases e:(q[j]?).join with
 |none=>rw[e]at h;cases h
 |some a=>rw[e]at h;cases h;exact⟨a,rfl,rfl,λc=>c.env j a (join_some e)⟩
@[simp] def nM(cs:aq ba)(i:a6)(f:ba):Ev->Mo A:=λY Z=>match tW cs i f Y Z with
 |some (_,_,_,.lst ds)=>ao (.ok (.int ds.length),Z)
 |_=>au
@[simp] def HA(cs:aq ba)(i:a6)(f:ba)(fe:Ev->Mo A):Ev->Mo A:=λY Z=>match tW cs i f Y Z with
 |some (s,cls,fs,.lst ds)=>match fe Y Z with
  |some (.ok a,_)=>if ds.length<bf then ao (.ok .aV,Z.set s (.ins cls (putD f (.lst (ds++[a])) fs)))else au
  |_=>au
 |_=>au
theorem abW{n:a6}:∀{ds es:aq A},fK n ds->fK n es->fK n (ds++es)
 |[],_,_,h=>h
 |_::_,_,c,h=>⟨c.1,abW c.2 h⟩
theorem ao9{cs:aq ba}{i:a6}{f:ba}{Y:Ev}{Z:aH}{s:a6}{cls:ba}{fs:aq (ba×Fd)}{fd:Fd}(cl:GH Z Y)(h:tW cs i f Y Z=ao (s,cls,fs,fd)):nH Z.length fd:=by
 obtain⟨h1,h2,B,q⟩:=MA h;obtain⟨j,z,_⟩:=DT q;exact(cl.aE s _ h2:oE _ fs).get z
section
variable{X:Cx}{W:WX}{e e1 o tg:bx}{f:ba}{cs:aq ba}{i:a6}{pos pos' ag aA7:dn}{fe fi:Ev->Mo A}
theorem RY(h:VE X W e (aQ dO (aB (bU cs f (eM i)) a0))):VE X W e (nM cs i f):=by
 refine Ah h λz j r cl hd=>?_;unfold nM at hd;split at hd
 ·rename_i s cls fs ds eo;cases hd;refine⟨s,f,_,.int ds.length,_,Qw eo rfl,?_,aA8 cl eo rfl,by simp only[Cl],rfl⟩;have q:=Ws (c:=.lst ds) eo;have l:dU (eO j s cls f fs (.lst ds)) (.aE j.length)=ao ds:=kX (Fh eo);have N:fX (eO j s cls f fs (.lst ds)) (.aE j.length)=ao ds:=l;show mb (mb (bU cs f (eM i) z) λx=>mb (a0 z) λB=>ret (x::B)) dO _=_;rw[MW (a:=[A.aE j.length]) (Z1:=eO j s cls f fs (.lst ds)) (by rw[MW q];rfl)];simp[dO,l,N]
 ·cases hd
theorem agA(h:VE X W e (kW pN (bU cs f (eM i)) (aB fe a0)))(m:adC fe):VE X W e (HA cs i f fe):=by
 refine Ah h λz j r cl hd=>?_;unfold HA at hd;split at hd
 ·rename_i s cls fs ds eo;split at hd
  ·rename_i a B n;split at hd
   ·rename_i hl;cases hd;obtain⟨b,g,d,U⟩:=m z j (eO j s cls f fs (.lst ds)) _ n;cases g;refine⟨s,f,_,.aV,eO j s cls f fs (.lst (ds++[a])),Qw eo rfl,?_,aaU cl eo rfl (abW (ao9 cl eo) ⟨U cl,trivial⟩),by simp only[Cl],rfl⟩;have q:=Ws (c:=.lst ds) eo;have l:qR (eO j s cls f fs (.lst ds)) (.aE j.length)=ao (j.length,ds):=zM (Fh eo);have k:vM (eO j s cls f fs (.lst ds)) (.aE j.length):=yY (kX (Fh eo));simp only[kW];rw[MW q,a9 k];rw[MW (a:=[a]) (Z1:=eO j s cls f fs (.lst ds)) (by
     show mb (fe z) (λx=>mb (a0 z) λN=>ret (x::N)) _=_;rw[MW d];rfl)]
    simp only[pN,l,a9 hl,Fg]
   ·cases hd
  ·cases hd
 ·cases hd
end
def FU(i:a6)(f:ba)(g:MS)(Y:Ev)(Z:aH)(r:Out×Ev×aH):Prop :=
 ∃s cls fs fd c q fd' c',Y[i]?=ao (ao (.aE s))/\Z[s]?=ao (.ins cls fs)/\fs.lookup f=ao fd/\fd.cell=ao c/\g Y (eO Z s cls f fs c)=ao (.nx,r.2.1,q++[c'])/\q.length=Z.length /\
  q[s]?=ao (.ins cls (putD f (.val (.aE Z.length)) fs))/\fd'.cell=ao c'/\(∀(k:a6) (x:Cell),k≠s->q[k]?=ao x->Z[k]?=ao x\/GI Z.length x)/\(fd'=fd\/nH Z.length fd') /\
  (∀(j:a6) (d:A),r.2.1[j]?=ao (ao d)->Y[j]?=ao (ao d)\/Cl Z.length d)/\r.1=.nx/\r.2.2=q.set s (.ins cls (putD f fd' fs))
open Classical in
noncomputable def pG(i:a6)(f:ba)(g:MS):MS:=λY Z=>if h:∃r,FU i f g Y Z r then ao (Classical.choose h)else au
theorem ab1{a b:Fd}{c:Cell}(h1:a.cell=ao c)(h2:b.cell=ao c):a=b:=by
 cases a with
 |val x=>cases h1
 |lst ds=>cases b with
  |lst es=>cases h1;cases h2;rfl
  |val _=>cases h2
  |cV _=>cases h1;cases h2
 |cV j=>cases b with
  |cV es=>cases h1;cases h2;rfl
  |val _=>cases h2
  |lst _=>cases h1;cases h2
theorem FU.uniq{i:a6}{f:ba}{g:MS}{Y:Ev}{Z:aH}{r j:Out×Ev×aH}(h:FU i f g Y Z r)(h':FU i f g Y Z j):r=j:=by
 obtain⟨s,cls,fs,fd,c,b,W,I,a1,a2,v,u,t,S,R,p,Q,T,V,w,x⟩:=h;obtain⟨s',D,G,e,K,a,d,H,b1,b2,U,N,B,P,M,m,L,o,n,y,q⟩:=h';rw[a1]at b1;cases b1;rw[a2]at b2;cases b2;rw[v]at U;cases U;rw[u]at N;cases N;rw[t]at B;obtain⟨r1,C,A⟩:=r;obtain⟨F,p2,E⟩:=j;simp only[kS,QL,true_and]at *;obtain⟨l,k⟩:=B;obtain⟨rfl,z⟩:=List.append_inj' k rfl;simp only[xX,and_true]at z;subst z;have:=ab1 p m;subst this;subst w y;exact⟨rfl,l,by rw[x,q]⟩
theorem Tj{i:a6}{f:ba}{g:MS}{Y:Ev}{Z:aH}{r:Out×Ev×aH}(h:FU i f g Y Z r):pG i f g Y Z=ao r:=by
 have ex:∃r,FU i f g Y Z r:=⟨r,h⟩;unfold pG;rw[JA ex];exact c7 ao (FU.uniq (CM ex) h)
section
variable{X:Cx}{W:WX}{st:b8}{f:ba}{cs:aq ba}{i:a6}{pos dF ag aA7 aJB:dn}{gs:MS}{x:ba}
theorem RT(h:VS X W st gs):VS X W st (pG i f gs):=by
 refine afS h λG e r cl hd=>?_;unfold pG at hd;split at hd
 ·rename_i ex;cases hd;generalize hr:Classical.choose ex=r;have N:=CM ex;rw[hr]at N;obtain⟨s,cls,fs,U,c,q,D,a,I,B,b,w,v,u,t,p,o,y,A,C,E⟩:=N;obtain⟨H,n,_⟩:=DT b;have F:nH e.length U:=(cl.aE s _ B:oE _ fs).get n;refine⟨s,f,_,q++[a],⟨cls,fs,U,c,B,b,w,rfl⟩,v,⟨q,a,cls,_,D,rfl,u,t,by rw[HL,a9 rfl],p,λk x l g=>?_,?_,by rw[yP];exact E⟩,λj d m=>?_,C⟩
  ·rcases o k x l g with z|z
   ·exact cl.aE k x z
   ·exact z
  ·rw[yP];exact PL (cl.aE s _ B:oE _ fs) (by rcases y with z|z;exact z ▸ F;exact z)
  ·rcases A j d m with z|z
   ·exact cl.env j d z
   ·exact z
 ·cases hd
end
def yR(cs:aq ba)(i:a6)(Y:Ev)(Z:aH):aw (a6×ba×aq (ba×Fd)):=match (Y[i]?).join with
 |some (.aE s)=>match Z[s]? with
  |some (.ins cls fs)=>if cls∈cs then ao (s,cls,fs)else au
  |_=>au
 |_=>au
theorem aqG{cs:aq ba}{i:a6}{Y:Ev}{Z:aH}{s:a6}{cls:ba}{fs:aq (ba×Fd)}(h:yR cs i Y Z=ao (s,cls,fs)):Y[i]?=ao (ao (.aE s))/\Z[s]?=ao (.ins cls fs)/\cls∈cs:=by
 unfold yR at h;cases z:(Y[i]?).join with
 |none=>rw[z]at h;cases h
 |some d =>
  rw[z]at h;cases d with
  |aE k =>
   simp only at h;cases q:Z[k]? with
   |none=>rw[q]at h;cases h
   |some c =>
    rw[q]at h;cases c with
    |ins B N =>
     simp only at h
     by_cases j:B∈cs
     ·rw[a9 j]at h;cases h;exact⟨join_some z,q,j⟩
     ·rw[bb j]at h;cases h
    |_=>cases h
  |_=>cases h
@[simp] noncomputable def Fd.DL:Cell->aw Fd
 |.lst ds=>ao (.lst ds)
 |.cV kvs=>ao (.cV kvs)
 |_=>au
theorem Fd.ap9{c:Cell}{fd:Fd}(h:Fd.DL c=ao fd):fd.cell=ao c:=by
 cases c <;> cases h <;> rfl
open Classical in
@[simp] noncomputable def wV(cs:aq ba)(i:a6)(f:ba)(fv:Ev->Mo A):MS:=λY Z=>match yR cs i Y Z with
 |some (s,cls,fs)=>match fv Y Z with
  |some (.ok (.aE n),Z1)=>match Z1[Z.length]? with
   |some c=>match Fd.DL c with
    |some fd=>if n=Z.length/\Z1=Z++[c]/\fs.length<1000/\nH Z.length fd then ao (.nx,Y,Z.set s (.ins cls (putD f fd fs)))else au
    |none=>au
   |none=>au
  |_=>au
 |none=>au
section
variable{X:Cx}{W:WX}{st:b8}{f:ba}{cs:aq ba}{i:a6}{fv:Ev->Mo A}
theorem Ae(h:VS X W st (vD cs f (eM i) fv)):VS X W st (wV cs i f fv):=by
 obtain⟨t,p,v⟩:=h;refine⟨t,p,λG m z H J B D w r h=>?_⟩;have cl:=w.oW r;unfold wV at h;split at h
 ·rename_i s cls fs eo;split at h
  ·rename_i n o I;split at h
   ·rename_i c R;split at h
    ·rename_i fd F;split at h
     ·rename_i C;obtain⟨rfl,rfl,hl,gC⟩:=C;obtain⟨h1,h2,E⟩:=aqG eo;have a:s<z.length:=(cY.mp h2).1;have Q:=Fd.ap9 F;refine v G m z H J B D w r ?_;have P:(B[i]?).join=ao (.aE s):=by rw[h1];rfl
      have K:(z++[c])[s]?=ao (.ins cls fs):=by rw[iD a];exact h2
      have e:vD cs f (eM i) fv B z=ao (.nx,B,z.set s (.ins cls (putD f (.val (.aE z.length)) fs))++[c]):=by
       simp only[vD,sM,I,eM,need,P,QO,K,a9 (And.intro E hl)];rw[List.set_append_left _ _ a]
      rw[e];intro N L M U ex u y;have g:=u.fold (s:=s) (f:=f) (fd:=fd) (cls:=cls) (fs:=putD f (.val (.aE z.length)) fs) (eV a) (by rw[HL,a9 rfl];simp) Q (λk x b l=>by
       rw[dZ (cX b)]at l;have:=cl.aE k x l;simpa using this) (by
       rw[yP];have:=PL (f:=f) (cl.aE s _ h2:oE _ fs) gC;simpa using this)
      rw[yP,BW,BY]at g;refine h N L M (U.take z.length) ⟨ex.same,λk x q=>?_⟩ g (aa9 y λj d A=>cl.env j d A);have b:=(cY.mp q).1;rw[KD,a9 (by rw[<-w.len];exact b)];exact ex.pre k x q
     ·exact h.elim
    ·exact h.elim
   ·exact h.elim
  ·exact h.elim
 ·exact h.elim
end
theorem JE{K:bj}{f:ba}:fJ K [] f:=λcls h=>by simp at h
theorem JF{K:bj}{f cls:ba}{cs:aq ba}{C:az}(h1:cx K a7 cls=ao (ao (.ref C)))(h2:pA K C)(j:cg K (.ref C) f=ao au)(t:fJ K cs f):fJ K (cls::cs) f:=λc h=>by
 rcases dY.mp h with e|e
 ·subst e;exact⟨C,h1,h2,j⟩
 ·exact t c e
section
variable{P:bh}{w:bw}{K:bj}{mg:ba->aw av}{base:bz}
theorem aaW{x qual:ba}{st:b8}{N ps:aq ba}{k:a6}{b:MS}{f:az}{fd:c3}(F:wJ K x qual st f fd)(S:dN N ps (aZ st))
  (U:∀(f:az) (j:av) (A:bu) (outer:aq Env) (s:ay) (H:Hp) (E:XK),cK k (A.deeper (c8 qual (aZ st) s.heap.objs.size f j)) ->
   iC (oV P w K mg base N qual (aZ st) f j A outer s H E) (λ_=>E) (eL st) b):jA P w K mg base (qV P w) (k+1) f fd ps (vB K ps.length (dP N.length b)):=by
 obtain⟨g,e,kV,doc,d,l,j,ct,i,rfl,B,c⟩:=F.ex;refine WR B c S (λz H Q E h=>h.1) λA outer s H z Q E hr a=>?_;obtain⟨t,p,q⟩:=U f j A outer s H E hr;exact⟨t,NA p,JK q a⟩
structure CF(K:bj)(mg:ba->aw av)(cls m qual:ba)(st:b8):Prop where
 ex:∃C f fd,cx K a7 cls=ao (ao (.ref C))/\mg cls=ao (.ref C)/\pA K C/\Meth K C m f/\wJ K m qual st f fd
theorem fT.of{cls m qual:ba}{st:b8}{N ps:aq ba}{k:a6}{b:MS}(h:CF K mg cls m qual st)(S:dN N ps (aZ st))
  (bind:∀(kV doc pm:av) (an:aw az) (j ct:av) (us:aq av),us.length=ps.length->dk (e9 m qual (jO st) (eL st) (aZ st) .none kV doc pm an j ct) ⟨us,[]⟩=pure (ps.zip us))
  (q:∀(f:az) (j:av) (A:bu) (outer:aq Env) (s:ay) (H:Hp) (E:XK),cK k (A.deeper (c8 qual (aZ st) s.heap.objs.size f j)) ->
   iC (oV P w K mg base N qual (aZ st) f j A outer s H E) (λ_=>E) (eL st) b):fT P w K mg base cls m (k+1) ps.length [] (dP N.length b):=by
 obtain⟨C,f,fd,h1,_,h2,z,F⟩:=h.ex;exact⟨C,f,fd,ps,[],[],h1,h2,z,rfl,aaW F S q,F.binds bind,.nil,λ_ _ => .nil⟩
structure Ng(K:bj)(mg:ba->aw av)(cls qual:ba)(st:b8):Prop where
 ex:∃C f fd,cx K a7 cls=ao (ao (.ref C))/\mg cls=ao (.ref C)/\Mk K C f/\wJ K "__init__" qual st f fd
theorem JU.of{cls qual:ba}{st:b8}{N ps:aq ba}{k:a6}{b:MS}(h:Ng K mg cls qual st)(S:dN N ps (aZ st))
  (bind:∀(kV doc pm:av) (an:aw az) (j ct:av) (us:aq av),us.length=ps.length->dk (e9 "__init__" qual (jO st) (eL st) (aZ st) .none kV doc pm an j ct) ⟨us,[]⟩=pure (ps.zip us))
  (q:∀(f:az) (j:av) (A:bu) (outer:aq Env) (s:ay) (H:Hp) (E:XK),cK k (A.deeper (c8 qual (aZ st) s.heap.objs.size f j)) ->
   iC (oV P w K mg base N qual (aZ st) f j A outer s H E) (λ_=>E) (eL st) b):JU P w K mg base cls (k+1) ps.length (dP N.length b):=by
 obtain⟨C,f,fd,h1,h2,z,F⟩:=h.ex;exact⟨C,f,fd,ps,h1,h2,z,rfl,aaW F S q,F.binds bind⟩
end
end V2
namespace M
open PySem V2
noncomputable section
def acM:MS :=
 (aX (bN (aQ zI (aB bP (aB (aC (dG) (aQ dO (aB aM a0)) bK) a0))) (gN 3))
  (dB (aQ sZ (aB bH (aB (aQ zI (aB dJ (aB (aC (dW) (aQ (bI 2 pZ) (aB aM (aB (aC (dG) bK bM) a0))) (aC bV bH bM)) a0))) a0)))))
def CH:aq A->Mo A:=dP 4 acM
def Kz:MS :=
 (aX (bN (aQ zI (aB bP (aB (aC (dG) (aQ dO (aB aM a0)) bK) a0))) (gN 3))
  (dB (aQ (bI 2 yB) (aB (aQ (bI 2 pZ) (aB aM (aB (aC bV bK (aC (dW) bH (aQ zI (aB bM (aB dJ a0))))) a0))) (aB bH a0)))))
def ZK:aq A->Mo A:=dP 4 Kz
end
end M
namespace V2
open PySem PySem.Spec PyProof.Rows L2
theorem Inv.Ra{X:Cx}{aa:aq (az×c6)}{J:L2.St}{H:Hp}{s:ay}{h':bz}{t':a6}{ch:aq az}(I:Inv X aa J H s)(k:∀b o,b∉ch->s.heap.get? b=ao o->h'.get? b=ao o)(hf:∀b∈ch,rX X aa H b):Inv X aa J H {s with heap:=h',toks:=t' }:=by
 have ne:∀b u,H b=ao u->b∉ch:=λb u q z=>by rw[(hf b z).1]at q;cases q
 refine I.step (g':=s.gens) (d':=s.drawn) (ch:=ch) (λb hb=>?_) (λb o _ _ j q _=>k b o j q) (λb o _ _ j q _=>⟨o.slots,k b o j q⟩) (λ_ _ _ _ n=>n)
  (λb o j q=>⟨o,k b o j q⟩) (λ_ _ q=>q) (λ_ _ _ q=>q) (λb f q=>⟨#[],by rw[q];simp⟩) (λm hm=>?_) (λb u q=>?_) I.bare
 ·obtain⟨a0,a1,a2,e,d,a⟩:=hf b hb;exact⟨e,a1,d,a⟩
 ·obtain⟨o,es,U,N,r⟩:=hm;exact⟨o,es,U,k _ o (λz=>(hf _ z).2.1 rfl) N,r⟩
 ·refine(I.aK b u q).oJ (λc v j B=>k c v ?_ B) (λ_ q=>q) λ_ _ q=>q
  rcases j with z|z
  ·rw[z];exact ne b u q
  ·exact ne c _ z
section
variable{X:Cx}{aa:aq (az×c6)}{J:L2.St}{H:Hp}{s:ay}
theorem Inv.OQ(I:Inv X aa J H s):∃m,s.heap.Ns X.env.locals m/\Fr X.base X.env.locals s.heap m :=
 let ⟨m,hn,_⟩:=I.loc
 ⟨m,hn,hn,I.bk,rT I.ok.rO I.ok.above⟩
end
end V2
namespace L2
open PySem PySem.Spec PyProof.Rows
def Xa(scope:cn):br:=(scope.kind == .function)&&scope.names.all λy=>y.2 != .cell&&(y.2 != .free&&(y.2 != .local||scope.names.lookup y.1==ao .local))
theorem wI.of0{X:Cx}{scope:cn}{ls:aq ba}(ok:Xa scope=a5):wI X scope ls []:=by
 unfold Xa at ok;rw[lK,FR]at ok;obtain⟨h1,h2⟩:=ok;have hl:∀y∈scope.names,y.2≠.cell/\y.2≠.free/\(y.2=.local->scope.names.lookup y.1=ao .local):=λy q=>by
  have:=h2 y q;rw[lK,lK,Bool.or_eq_true]at this;refine⟨by simpa using this.1,by simpa using this.2.1,λe=>?_⟩
  rcases this.2.2 with z|z
  ·simp[e]at z
  ·simpa using z
 refine⟨by simpa using h1,λy q=>(hl y q).1,λy q=>(hl y q).2.2,λy q hf=>?_,λj B=>?_⟩
 ·exact b7 hf (hl y q).2.1
 ·simp at B
theorem aBW:entryFor table "dict_itemiterator.__iter__" = ao Builtin.«dict_keyiterator.__iter__» :=
 entryFor_alias (id' := "dict_keyiterator.__iter__") (by kernel_rfl) (by rfl) (by decide +kernel) (by kernel_rfl)
theorem au6{prog:bh}{w:bw}{A:bu}{E:av->ay->Prop}{s:ay}{it d:az}{i n ep:a6}{ok j:av}{Q:av->ay->Prop}(h:IsItemIter s.heap it d i n ep ok j)(q:Q (.ref it) s):wpAny (bq prog w) A (pyIter (.ref it)) Q E s:=by
 have ty:s.TypeIs (.ref it) "dict_itemiterator":=⟨_,h,rfl⟩;exact wpAny_pyIter_slot ty F.slot_dict_itemiterator_iter (uZ F.slot_dict_itemiterator_iter ty aBW (aY ⟨_,rfl,_,_,ty,F.slot_dict_itemiterator_next.lookup,q⟩) (F.args_dict_itemiterator_iter_1 _))
end L2
namespace V2
open PySem PySem.Spec PyProof.Rows L2
def Nb(a:az)(o:c6)(kvs:aq (Key×V)):It :=
 ⟨λi H=>H a=ao (.eI o (.dK kvs))/\i<kvs.length,λi H x H'=>∃p j,kvs[i]?=ao j/\H p=au/\H'=upd H p (.tup [kV j.1,j.2])/\x=.ref p,λi H=>H a=ao (.eI o (.dK kvs))/\kvs.length<=i⟩
theorem aaR{X:Cx}{aa:aq (az×c6)}{J:L2.St}{H:Hp}{s:ay}{a:az}{o:c6}{kvs:aq (Key×V)}{es:a8 DictEntry}{ep:a6}(I:Inv X aa J H s)(h:H a=ao (.eI o (.dK kvs)))(hd:o.data=.dict es ep) :
  ∃vs,KV kvs vs/\Heap.DictAt (mB X.prog X.w) s.heap a vs ep:=by
 obtain⟨h1,z,y,vs,rel,U,fE,b,q,N,j,B⟩:=I.aK a _ h;rw[h1]at q;cases q;rw[hd]at j;cases j;exact⟨vs,rel,o,es,h1,N,hd,B⟩
theorem ag3{P:bh}{w:bw}{K:bj}{elts:aq bx}{F:a6}{G:dn}(a it:az)(o:c6)(kvs:aq (Key×V))(es:a8 DictEntry)(ep:a6)(hd:o.data=.dict es ep) :
  Turn P w K (.Tuple elts F G) (Nb a o kvs) [it] it (λi h=>∃ok B,IsItemIter h it a i kvs.length ep ok B)where
 mem:=by simp
 obj:=λi h st c j=>by
  obtain⟨ok,B,st⟩:=st;have e:c=it:=by simpa using j
  subst e;exact⟨_,st,λv z=>by cases z⟩
 keep:=λi h h' st k=>by
  obtain⟨ok,B,st⟩:=st;exact⟨ok,B,k it (by simp) _ st⟩
 item:=by
  intro X r m t j i aa s J H E I f st p;subst r m t;obtain⟨ok,B,st⟩:=st;obtain⟨u,hi⟩:=p;obtain⟨l,rel,dat⟩:=aaR I u hd;have hl:kvs.length=l.length:=rel.length;have y:kvs[i]?=ao kvs[i]:=fF hi;generalize kvs[i]=N at y;obtain⟨g,T,S,R⟩:=Vb rel y;have d:it<s.heap.objs.size:=dQ st;rw[hl]at st;refine wpAny_pyNext_items_item (k:=g.1) (v:=g.2) st dat T λkey h1 n a1 a2 a3 W=>?_;refine⟨_,rfl,wpAny_letOwnedTupleGo_items (s:={s with heap:=h1}) a1 λh2 C sb=>?_⟩;have U:H s.heap.objs.size=au:=I.aK.fresh cJ;have k2:∀c o,c∉[it]->s.heap.get? c=ao o->h2.get? c=ao o:=λc o j q=>by
   have j:c≠it:=by simpa using j
   exact sb.extBut c o j (W c o j q)
  have L:h2.get? s.heap.objs.size=ao {cls:=.type "tuple",data:=.seq #[key,g.2]}:=sb.extBut _ _ (JT d) a2;have D:Inv X aa J H {s with heap:=h2}:=Inv.Ra (t':=s.toks) I k2 f;have M:RelV (kV N.1) key:=by rw[S];exact au9 n
  have aK:fR X.prog X.w (upd H s.heap.objs.size (.tup [kV N.1,N.2])) h2:=by
   refine λb o q=>?_
   by_cases A:b=s.heap.objs.size
   ·subst A;rw[eZ]at q;cases q;exact⟨by show 2<=bf;decide,[key,g.2],.cons M (.cons R .nil),⟨_,L,rfl,_,rfl⟩⟩
   ·rw[bR A]at q;exact(D.aK b o q).oJ (λc v _ z=>z) (λc z=>by rw[bR (jT z U)];exact z) λc xs z=>by rw[bR (jT z U)];exact z
  have x:rX X aa H s.heap.objs.size:=I.xM cJ U;have Q:X.s₀.heap.get? s.heap.objs.size=au:=by
   cases q:X.s₀.heap.get? s.heap.objs.size with
   |none=>rfl
   |some ob=>exact b7 (lH (dQ q) I.sz) (Nat.lt_irrefl _)
  have I2:Inv X aa J (upd H s.heap.objs.size (.tup [kV N.1,N.2])) {s with heap:=h2}:=Inv.Rc D U Q x.2.1 x.2.2.2.2.1 x.2.2.2.2.2 aK;rw[<-hl]at C;refine⟨.ref s.heap.objs.size,_,I2,rfl,⟨_,N,y,U,rfl,rfl⟩,⟨_,_,C⟩,λc j=>?_⟩;have IT:=(f c j).1;have e:c=it:=by simpa using j
  subst e;rw[bR (fW d)];exact IT
 done:=by
  intro X r m t j i aa s J H E I f st p;subst r m t;obtain⟨ok,B,st⟩:=st;obtain⟨u,hi⟩:=p;obtain⟨l,rel,dat⟩:=aaR I u hd;have hl:kvs.length=l.length:=rel.length;rw[hl]at st;refine wpAny_pyNext_items_end (I.ok.hd j) st dat (by simp;omega) λh' n=>⟨rfl,Inv.Ra (t':=s.toks) I (λc o j q=>n c o (by simpa using j) q) f⟩
 self:=λ_ _ _ _ _ st h=>by
  obtain⟨ok,B,st⟩:=st;exact au6 st h
theorem Inv.aA3{X:Cx}{aa:aq (az×c6)}{J:L2.St}{H:Hp}{s:ay}{a:az}{kvs:aq (Key×V)}{o:c6}(I:Inv X aa J H s)(h:H a=ao (.dK kvs))(d:s.heap.get? a=ao o):Inv X aa J (upd H a (.eI o (.dK kvs))) s where
 ok:=I.ok
 os:=I.os
 bare:=I.bare
 base:={
  keep:=I.base.keep
  slot:=I.base.slot
  free:=λb ob q n N=>by
   have z:=I.base.free b ob q n N;rw[bR (cX (jT h z))];exact z
  there:=I.base.there
  nN:=λb xs q=>by have z:=I.base.nN b xs q;rw[bR (ME z h (by intro w;cases w))];exact z
  lP:=λb ob u q=>by have z:=I.base.lP b ob u q;rw[bR (ME z h (by intro w;cases w))];exact z
  mW:=λb B q=>by obtain⟨more,z⟩:=I.base.mW b B q;exact⟨more,by rw[bR (ME z h (by intro w;cases w))];exact z⟩}
 loc:=I.loc
 cell:=I.cell
 free:=by rw[bR (cX (jT h I.free))];exact I.free
 lQ:=λx c q=>by rw[bR (cX (jT h (I.lQ x c q)))];exact I.lQ x c q
 pin:=λq U=>by
  obtain⟨x,y,c⟩:=I.pin q U;exact⟨x,by rw[bR (cX (jT h y))];exact y,c⟩
 aK:=λb u q=>by
  have st:∀c v,H c=ao v->v≠.dK kvs->upd H a (.eI o (.dK kvs)) c=ao v:=λc v z hv=>by rw[bR (ME z h hv)];exact z
  by_cases j:b=a
  ·subst j;rw[eZ]at q;cases q;exact⟨d,(I.aK b _ h).oJ (λc v _ z=>z) (λc z=>st c _ z (by intro w;cases w)) λc xs z=>st c _ z (by intro w;cases w)⟩
  ·rw[bR j]at q;exact(I.aK b u q).oJ (λc v _ z=>z) (λc z=>st c _ z (by intro w;cases w)) λc xs z=>st c _ z (by intro w;cases w)
 len:=I.len
section
variable{X:Cx}{W:WX}{pos:dn}
theorem an4{o:bx}{td:TE}{elts:aq bx}{r:a6}{t ag k:dn}(y:PE X o td)(p:dw o "items" X.env (cj o X.env)=cj o X.env:=by rfl)(K:(ag.endLine==k.line)=a5:=by rfl) :
  PI X (.Tuple elts r t) (.Call (.Attribute o "items" ag) [] [] k) (λJ H R=>td J H λx H1=>∃a kvs,x=.ref a/\H1 a=ao (.dK kvs)/\∀ob,R (Nb a ob kvs) (upd H1 a (.eI ob (.dK kvs)))):=by
 intro aa s J H R I h;refine wpAny_Call_method0_late p K (bC (y aa s J H _ I h) λv j ⟨x,H1,g,r1,u⟩=>?_);obtain⟨a,kvs,rfl,N,q⟩:=u;cases r1;obtain⟨h1,h2,E⟩:=Xe g (.inl ⟨kvs,.inl N⟩);obtain⟨z,_,B,rel,d⟩:=Jw g.aK N;refine⟨"dict", "dict.items",PySem.F.plainAttrs_dict,PySem.F.slot_dict_items,PySem.F.type_dict_items,h1,h2,ad3 rfl (PySem.evalArgs_none ?_)⟩;refine call_meetsIn PySem.F.slot_dict_items d.typeIs PySem.F.entry_dict_items (PySem.F.args_dict_items_1 _) (meets_dict_items (mB X.prog X.w) a E) ⟨⟨B,d⟩,?_⟩;obtain⟨ob,es,U,m,D,l,C⟩:=d;have hl:kvs.length=B.length:=rel.length;have n:Inv X aa J H1 {j with heap:=j.heap.push {cls:=.type "dict_items",data:=.fields #[.ref a]} }:=g.kept (t':=j.toks) λb o e=>dI _ e;have dat:Heap.DictAt (mB X.prog X.w) (j.heap.push {cls:=.type "dict_items",data:=.fields #[.ref a]}) a B U:=⟨ob,es,dI _ m,D,l,C⟩;refine wpAny_pyIter_items (s:={j with heap:=j.heap.push {cls:=.type "dict_items",data:=.fields #[.ref a]} }) ⟨_,gU _ rfl,rfl,rfl⟩ dat ?_;generalize i:({j with heap:=j.heap.push {cls:=.type "dict_items",data:=.fields #[.ref a]} }:ay)=s2 at n dat;have ga:s2.heap.get? a=ao ob:=by rw[<-i];exact dI _ m
 have f:=V2.Inv.aA3 n N ga;have G:Inv X aa J (upd H1 a (.eI ob (.dK kvs))) {s2 with heap:=s2.heap.push {cls:=.type "dict_itemiterator",data:=.fields #[.none,.bool ax,.ref a,.int 0 0,.int B.length 0,.int U 0,.none,.none]} }:=f.kept (t':=s2.toks) λb o e=>dI _ e;have L:s2.heap=j.heap.push {cls:=.type "dict_items",data:=.fields #[.ref a]}:=by rw[<-i]
 refine⟨s2.heap.objs.size,[s2.heap.objs.size],_,_,_,rfl,G,ag3 a _ ob kvs es U l,⟨.none,.none,by rw[hl];exact gU _ rfl⟩,λc A=>?_,q ob⟩;have e:c=s2.heap.objs.size:=by simpa using A
 subst e;exact f.xM cJ (f.aK.fresh cJ)
def NB(kvs:aq (Key×A)):Src:=⟨kvs.map NC,λ_=>True⟩
@[simp] def Qq(f:Ev->Mo A):Ev->Mo Src:=λY=>mb (f Y) λa Z=>match pS Z a with
 |some (k,kvs)=>ao (.ok (NB kvs),Z.set k .dead)
 |none=>au
theorem au5{K:bj}{G:Hp}{O:aq az}{p:az}{o:c6}{N:aq (Key×V)}{kvs:aq (Key×A)}(n:G p=ao (.eI o (.dK N)))(m:N.map (·.1)=kvs.map (·.1))(d:aU K G O (N.map (·.2)) (kvs.map (·.2))):FW K G O (Nb p o N) (NB kvs):=by
 have hl:N.length=kvs.length:=by have:=c7 List.length m;simpa using this
 have k:(NB kvs).ds.length=kvs.length:=by simp[NB]
 refine⟨λf j B s e w h i hi=>⟨w.sub _ _ (e.same _ _ n),by rw[hl,<-k];exact hi⟩,λf j B s e w h i hi=>⟨w.sub _ _ (e.same _ _ n),by rw[hl,<-k];exact hi⟩,λf j B s e w h i x C y v hd=>?_⟩;obtain⟨q,a,r,c,rfl,rfl⟩:=hd;have U:(kvs.map NC)[i]?=ao y:=v;rw[jH]at U;cases b:kvs[i]? with
 |none=>rw[b]at U;cases U
 |some t =>
  rw[b]at U;cases U;have k1:a.1=t.1:=by
   have:=c7 (λl=>l[i]?) m;simp only[jH,r,b,QO,kS]at this;exact this
  obtain⟨z,g,u⟩:=d.get (i:=i) (d:=t.2) (by rw[jH,b];rfl);rw[jH,r]at g;cases g;refine⟨upd f q (.tup [kV a.1,a.2]),Ext.new (w.oQ c) _,w.new c _,?_⟩;simp only[NC,Den];exact⟨q,[kV a.1,a.2],rfl,eZ,.cons (by rw[k1];exact aCE _) (.cons ((u.ext e).ext (Ext.new (w.oQ c) _)) .nil)⟩
theorem afW{o:bx}{f:Ev->Mo A}{elts:aq bx}{B:a6}{u ag q:dn}(D:VE X W o f)(n:dw o "items" X.env (cj o X.env)=cj o X.env:=by rfl)(F:(ag.endLine==q.line)=a5:=by rfl) :
  VI X W (.Tuple elts B u) (.Call (.Attribute o "items" ag) [] [] q) (Qq f):=by
 obtain⟨t,p,s⟩:=D;refine⟨_,an4 p n F,λG i m H J d R w r h=>?_⟩;refine s G i m H J d _ w r (bD.mb h λa l v I b j B w1 E h1=>?_);split at h1
 ·rename_i k C e;obtain⟨p,z,rfl,N,g,y,q,x⟩:=JG w1 E e;refine⟨p,z,rfl,y,λob=>?_⟩;have w2:=w1.put (k:=k) (c:=.dead) (o:=.eI ob (.dK z)) N g trivial;have w3:=w2.freeze N g eZ;rw[BW]at w3;have U:Ext b j (upd b p (.eI ob (.dK z))) j:=Ext.new g _;exact h1 _ _ _ _ U w3 (au5 eZ q (x.ext U))
 ·exact False.elim h1
end
section
variable{X:Cx}{W:WX}
@[simp] def OL(o:A)(as:aq A):Mo A:=λZ=>match qR Z o,as with
 |some (k,y::ds),[.int 0]=>ao (.ok y,Z.set k (.lst ds))
 |_,_=>au
theorem ar9:Mi X.K W Tw OL:=by
 intro G B m H J x o a r Q w l i h;unfold OL at h;split at h
 ·rename_i k y ds e;obtain⟨p,n,rfl,b,g,f,d⟩:=ab3 w l e;obtain⟨u,rfl,q⟩:=BH i;simp only[Den]at q;subst q;obtain⟨z,j,rfl,U,N⟩:=d.lY;refine⟨p,z::j,0,0,z,rfl,rfl,f,by decide,by decide,by simp[seqIndex?],rfl,?_⟩;exact h _ _ G B (Ext.refl _ _) (w.put (c:=.lst ds) b g ⟨g,_,eZ,N⟩) U
 ·exact False.elim h
end
def FV(i:a6)(f:ba)(g:Ev->Mo A)(Y:Ev)(Z:aH)(r:Rs A×aH):Prop :=
 ∃s cls fs fd c j fd' c' a,Y[i]?=ao (ao (.aE s))/\Z[s]?=ao (.ins cls fs)/\fs.lookup f=ao fd/\fd.cell=ao c/\g Y (eO Z s cls f fs c)=ao (.ok a,j++[c'])/\j.length=Z.length /\
  j[s]?=ao (.ins cls (putD f (.val (.aE Z.length)) fs))/\fd'.cell=ao c'/\(∀(k:a6) (x:Cell),k≠s->j[k]?=ao x->Z[k]?=ao x\/GI Z.length x)/\(fd'=fd\/nH Z.length fd')/\Cl Z.length a/\r=(.ok a,j.set s (.ins cls (putD f fd' fs)))
open Classical in
noncomputable def yL(i:a6)(f:ba)(g:Ev->Mo A):Ev->Mo A:=λY Z=>if h:∃r,FV i f g Y Z r then ao (Classical.choose h)else au
theorem FV.uniq{i:a6}{f:ba}{g:Ev->Mo A}{Y:Ev}{Z:aH}{r q:Rs A×aH}(h:FV i f g Y Z r)(h':FV i f g Y Z q):r=q:=by
 obtain⟨s,cls,fs,fd,c,d,R,E,a,a1,a2,v,u,t,M,L,p,K,P,Q,w⟩:=h;obtain⟨s',y,C,k,F,U,e,D,b,b1,b2,N,B,j,I,H,m,G,o,n,x⟩:=h';rw[a1]at b1;cases b1;rw[a2]at b2;cases b2;rw[v]at N;cases N;rw[u]at B;cases B;rw[t]at j;simp only[kS,QL,Rs.ok.injEq]at j;obtain⟨rfl,l⟩:=j;obtain⟨rfl,z⟩:=List.append_inj' l rfl;simp only[xX,and_true]at z;subst z;have:=ab1 p m;subst this;rw[w,x]
theorem agJ{i:a6}{f:ba}{g:Ev->Mo A}{Y:Ev}{Z:aH}{r:Rs A×aH}(h:FV i f g Y Z r):yL i f g Y Z=ao r:=by
 have ex:∃r,FV i f g Y Z r:=⟨r,h⟩;unfold yL;rw[JA ex];exact c7 ao (FV.uniq (CM ex) h)
theorem Qh{X:Cx}{W:WX}{e:bx}{i:a6}{f:ba}{g:Ev->Mo A}(h:VE X W e g):VE X W e (yL i f g):=by
 refine Ah h λF d r cl hd=>?_;unfold yL at hd;split at hd
 ·rename_i ex;cases hd;generalize hr:Classical.choose ex=r;have B:=CM ex;rw[hr]at B;obtain⟨s,cls,fs,N,c,j,D,U,a,H,q,b,w,v,u,t,p,o,y,C,rfl⟩:=B;obtain⟨G,n,_⟩:=DT b;have E:nH d.length N:=(cl.aE s _ q:oE _ fs).get n;refine⟨s,f,_,a,j++[U],⟨cls,fs,N,c,q,b,w,rfl⟩,v,⟨j,U,cls,_,D,rfl,u,t,by rw[HL,a9 rfl],p,λk x m l=>?_,?_,by rw[yP]⟩,C,rfl⟩
  ·rcases o k x m l with z|z
   ·exact cl.aE k x z
   ·exact z
  ·rw[yP];exact PL (cl.aE s _ q:oE _ fs) (by rcases y with z|z;exact z ▸ E;exact z)
 ·cases hd
section
variable{P:bh}{w:bw}{K:bj}{mg:ba->aw av}{base:bz}
structure adY(K:bj)(x qual:ba)(st:b8)(f T:az)(fd:c3):Prop where
 ex:∃(oc:av) (od:aw az) (kV doc pm:av) (an:aw az) (aS ct:av) (gY:a8 (aw av)),
  fd=e9 x qual (jO st) (eL st) (aZ st) (.ref T) kV doc pm an aS ct/\K.lookup f=ao ⟨oc,od,.func fd,gY⟩/\codeIn K aS qual=a5
structure KN(K:bj)(mg:ba->aw av)(cls m qual:ba)(st:b8)(dv:a8 av):Prop where
 ex:∃C f fd T o n,cx K a7 cls=ao (ao (.ref C))/\mg cls=ao (.ref C)/\pA K C/\Meth K C m f/\adY K m qual st f T fd/\K.lookup T=ao o/\o.data=.seq dv n
theorem fT.ofD{cls m qual:ba}{st:b8}{N ps:aq ba}{k:a6}{b:MS}{z:a8 av}{ds:aq av}{dvs:aq V}{das:aq A}(h:KN K mg cls m qual st z)(hv:Vals dvs ds)(hd:∀G O,aU K G O dvs das)(S:dN N ps (aZ st))
  (bind:∀(T:az) (kV doc pm:av) (an:aw az) (j ct:av) (us:aq av),us.length+ds.length=ps.length->∃k,dk (e9 m qual (jO st) (eL st) (aZ st) (.ref T) kV doc pm an j ct) ⟨us,[]⟩=seqItems? (.ref T) >>= k/\k (ao z)=pure (ps.zip (us++ds)))
  (a:∀(f:az) (j:av) (A:bu) (outer:aq Env) (s:ay) (H:Hp) (E:XK),cK k (A.deeper (c8 qual (aZ st) s.heap.objs.size f j)) ->
   iC (oV P w K mg base N qual (aZ st) f j A outer s H E) (λ_=>E) (eL st) b):fT P w K mg base cls m (k+1) ps.length das (dP N.length b):=by
 obtain⟨C,f,fd,T,o,n,h1,_,h2,e,F,hT,c⟩:=h.ex;obtain⟨v,u,kV,doc,pm,an,j,ct,y,rfl,U,i⟩:=F.ex;refine⟨C,f,_,ps,ds,dvs,h1,h2,e,rfl,WR U i S (λB H Q E h=>h.1) λA outer s H B Q E hr g=>?_,λs us d hl=>?_,hv,hd⟩
 ·obtain⟨t,p,q⟩:=a f j A outer s H E hr;exact⟨t,NA p,JK q g⟩
 ·obtain⟨x,r,l⟩:=bind T kV doc pm an j ct us (by rw[<-gF];exact hl);exact BindsTo.of_defaults rfl (d _ _ hT) c r l
end
end V2
namespace M
open PySem V2
noncomputable section
def QD:MS :=
 (aX (vD ["Window"] "reach" aM bK)
  (aX (vD ["Window"] "block" aM bH)
  (aX (vD ["Window"] "keep" aM dJ)
  (aX (vD ["Window"] "many" aM bP)
  (aX (wV ["Window"] 0 "full" (fM a5 a0))
  (wV ["Window"] 0 "newest" (fM a5 a0)))))))
def KP:aq A->Mo A:=dP 4 QD
def Ll:MS :=
 (aX (bN (aC bV (aC (jZ) (aC (dG) (nM ["Window"] 0 "full") bM) (bU ["Window"] "block" aM)) (nM ["Window"] 0 "newest")) (gN 1))
  (eA (bX (aC WM bK (bU ["Window"] "reach" aM)))
   (pG 0 "full" (iG (kW OL (bU ["Window"] "full" aM) (aB bP a0))))
   gX))
def RK:aq A->Mo A:=dP 2 Ll
def Lk:MS :=
 (aX (bN (aQ sZ (aB (bU ["Window"] "reach" aM) (aB (bU ["Window"] "many" aM) a0))) (gN 2))
  (aX (eA (bX (aC (OO ax) bK cN))
   (bN bH (gN 1))
   gX)
  (aX (eA (mS (bX (aC tD bK bM)) (bX (aC zJ bK bH)))
   (LW "NoPlace" (aB (cS "last goes from 1 to the length and to how many were put in") a0))
   gX)
  (dB bK))))
def zV:aq A->Mo A:=dP 3 Lk
def acK:Ev->Mo A :=
 (mT ax 1 [] (gW aM) (gN 0) sC (aC bB aM bP))
def XX:MS :=
 (dB (aC (dG) (aQ xK (aB acK a0)) bK))
def RJ:aq A->Mo A:=dP 2 XX
def Lb:MS :=
 (aX (bN (aC bV bM (aC (dW) aM (cI 40))) (gN 1))
  (aX (bN (aC bV bM (aC (dW) (aC (iL) aM (cI 40)) (cI 12))) (gN 2))
  (aX (eA (bX (aC iW (aC (dW) (aC (iL) aM (cI 480)) Ac) bP))
   (bN (aC bV bM (aC (dW) (aC (iL) aM (cI 2880)) (cI 40))) (gN 2))
   gX)
  (dB (sG (aB bK (aB (aQ zI (aB bH (aB (aC (iL) bK (cI 12)) a0))) (aB (aC bV bM (aC (dW) (aC (iL) aM (cI 115200)) (cI 12))) a0))))))))
def yA:aq A->Mo A:=dP 3 Lb
def XT:MS :=
 (aX (iG (kW pN bK (aB (sG (aB bH (aB (aC bB dJ bP) (aB (aC bB dJ bP) a0)))) a0)))
   (eA (bX (aC OM (aC bB dJ bP) (aC bB dJ bM)))
    (iG (kW pN bK (aB (sG (aB bH (aB (aC bB dJ bM) (aB (aC bB dJ bM) a0)))) a0)))
    gX))
def XU:MS :=
 (aX (bN (fM a5 a0) (gN 1))
  (aX (kP (Qq (aQ (bI 1 RE) (aB aM a0))) (rJ 2 (jM (gN 2) (jM (gN 3) sY))) XT)
  (dB (sG (aB (aQ (bI 1 ZJ) (aB aM a0)) (aB bP (aB bP (aB (LG 1) a0))))))))
def RG:aq A->Mo A:=dP 4 XU
def acI:Ev->Mo A :=
 (mT ax 1 [] (gW aM) (gN 0) sC (sG (aB aM (aB bM a0))))
def Ks:MS :=
 (dB (aQ (bI 1 RG) (aB acI a0)))
def rY:aq A->Mo A:=dP 1 Ks
def XZ:MS :=
 (aX (vD ["Window"] "many" aM (aC bV (bU ["Window"] "many" aM) bM))
  (aX (iG (HA ["Window"] 0 "newest" bK))
  (aX (eA (bX (aC iW (nM ["Window"] 0 "newest") (bU ["Window"] "block" aM)))
   (aX (pG 0 "full" (pG 0 "newest" (iG (kW pN (bU ["Window"] "full" aM) (aB (aQ (bI 2 xZ) (aB (aQ (bI 1 rY) (aB (bU ["Window"] "newest" aM) a0)) (aB (bU ["Window"] "keep" aM) a0))) a0)))))
   (wV ["Window"] 0 "newest" (fM a5 a0)))
   gX)
  (iG (eR "drop_oldest" [("Window",eN 1 [] RK)] aM a0)))))
def GD:aq A->Mo A:=dP 2 XZ
def YA:MS :=
 (aX (pG 0 "newest" (bN (sH ax (bU ["Window"] "newest" aM) (mR (LF bK)) sJ) (gN 2)))
  (aX (bN (aC (iL) (aC (dG) (aC bV (aC (dG) bK (aQ dO (aB bH a0))) (bU ["Window"] "block" aM)) bM) (bU ["Window"] "block" aM)) (gN 3))
  (dB (yL 0 "full" (aC bV (sH ax (bU ["Window"] "full" aM) (mR (aC (dG) (aQ dO (aB (bU ["Window"] "full" aM) a0)) dJ)) sJ) (fM ax (aB (aQ (bI 1 rY) (aB bH a0)) a0)))))))
def CI:aq A->Mo A:=dP 4 YA
def Lj:Ev->Mo A :=
 (mT ax 1 [] (gW bH) (gN 0) sC (aC bB aM bM))
def EZ:MS :=
 (aX (bN (eR "look_last" [("Window",eN 2 [] zV)] aM (aB bK a0)) (gN 1))
  (aX (bN (eR "parts" [("Window",eN 2 [] CI)] aM (aB bK a0)) (gN 2))
  (dB (aC bV (aQ (bI 2 RJ) (aB bH (aB bK a0))) (aQ xK (aB Lj a0))))))
def qU:aq A->Mo A:=dP 3 EZ
end
end M
namespace V2
open PySem PySem.Spec PyProof.Rows L2
theorem _root_.L2.RL.alias{P:bh}{w:bw}{K:bj}{mg:ba->aw av}{base:bz}{x y:ba}{k:a6}{ps:aq ba}{sp:Sp}(D:RL P w K mg base x k ps sp)(e:mg y=mg x):RL P w K mg base y k ps sp:=by
 obtain⟨f,fd,F,hm,j,hb⟩:=D.ex;exact⟨f,fd,F,e.trans hm,j,hb⟩
section
variable{X:Cx}{W:WX}{a b c d e:bx}{ta tb tc td te:TE}{fa fb fc fd fe:Ev->Mo A}{pos:dn}
def Rw(r f c e:R2)(ta tb tc td te:TE):TE:=λJ H Q=>ta J H λx H1=>tb J H1 λy H2=>r x y H2 λz U=>∃k,z=.bl k /\
 (if k=a5 then tc J U λj i=>f y j i λb N=>∃k',b=.bl k'/\(if k'=a5 then td J N λq h=>c j q h λa B=>∃k2,a=.bl k2/\(if k2=a5 then te J B λd g=>e q d g Q else Q (.bl ax) B)else Q (.bl ax) N)else Q (.bl ax) U)
@[simp] def LH(g g' d U:A->A->Mo A)(f1 f2 c b a:Ev->Mo A):Ev->Mo A:=λY=>mb (f1 Y) λx=>mb (f2 Y) λy=>mb (g x y) λz=>mb (BE z) λk=>if k then mb (c Y) λu=>mb (g' y u) λB=>mb (BE B) λk'=>if k' then mb (b Y) λj=>mb (d u j) λq=>mb (BE q) λk2=>if k2 then mb (a Y) λN=>U j N else ret (.bl ax)else ret (.bl ax)else ret (.bl ax)
theorem aj7{K:bj}{r r' wY r3:R2}{g g' EK g3:A->A->Mo A}{t1 t2 t3 t4 t5:TE}(ho:uS K W r g)(kY:uS K W r' g')(NK:uS K W wY EK)(yZ:uS K W r3 g3)(h1:fP K (Den K) W t1 fa)(h2:fP K (Den K) W t2 fb)(h3:fP K (Den K) W t3 fc)(h4:fP K (Den K) W t4 fd)(h5:fP K (Den K) W t5 fe):fP K (Den K) W (Rw r r' wY r3 t1 t2 t3 t4 t5) (LH g g' EK g3 fa fb fc fd fe):=by
 intro G O Z H J j Q w q h;refine h1 G O Z H J j _ w q (bD.mb h λx F v H1 G1 l U w1 d1 h1=>?_);refine h2 G1 l F H1 J j _ w1 (q.ext U) (bD.mb h1 λy E u H2 G2 i N w2 d2 h2=>?_);refine ho G2 i E H2 J v u x y _ w2 (d1.ext N) d2 (bD.mb h2 λz D z' H3 G3 f B w3 d3 T=>?_);cases z with
 |bl k =>
  simp only[Den]at d3;refine⟨k,d3,?_⟩;cases k with
  |true =>
   refine h3 G3 f D H3 J j _ w3 (q.ext ((U.trans N).trans B)) (bD.mb T λm C m' H4 G4 e L w4 d4 P=>?_);refine kY G4 e C H4 J u m' y m _ w4 (d2.ext (B.trans L)) d4 (bD.mb P λz2 t z2' H5 G5 d I w5 d5 R=>?_);cases z2 with
   |bl k' =>
    simp only[Den]at d5;refine⟨k',d5,?_⟩;cases k' with
    |true =>
     refine h4 G5 d t H5 J j _ w5 (q.ext ((((U.trans N).trans B).trans L).trans I)) (bD.mb R λn s n' H6 G6 c X w6 d6 h6=>?_);refine NK G6 c s H6 J m' n' m n _ w6 (d4.ext (I.trans X)) d6 (bD.mb h6 λz4 p z4' H7 G7 b V w7 d7 S=>?_);cases z4 with
     |bl k2 =>
      simp only[Den]at d7;refine⟨k2,d7,?_⟩;cases k2 with
      |true=>exact h5 G7 b p H7 J j _ w7 (q.ext ((((((U.trans N).trans B).trans L).trans I).trans X).trans V)) (bD.mb S λn2 o M H8 G8 a x8 w8 d8 h8=>yZ G8 a o H8 J n' M n n2 Q w8 (d6.ext (V.trans x8)) d8 h8)
      |false=>exact iS w7 (by simp only[Den]) S
     |_=>exact False.elim S
    |false=>exact iS w5 (by simp only[Den]) R
   |_=>exact False.elim R
  |false=>exact iS w3 (by simp only[Den]) T
 |_=>exact False.elim T
end
end V2
namespace L2
open PySem
theorem cK.m{j k:a6}{A:bu}(r:cK k A)(h:j<=k:=by first|decide|omega):cK j A:=r.mono h
end L2
namespace V2
open PySem L2 PyProof.Rows
variable{P:bh}{w:bw}{K:bj}{mg:ba->aw av}{base:bz}
theorem aDV{h:bz}{x:ba}{v:a4}{t:Tok}(X:K.In h)(G:h.Ns a7 mg)(a:cx K a7 x=ao (ao (.int v t))):∃t,mg x=ao (.int v t):=⟨_,mg_of X G a⟩
theorem ao8{h:bz}{c:ba}{C:az}(X:K.In h)(G:h.Ns a7 mg)(a:cx K a7 c=ao (ao (.ref C)))(e:excIn K C Kk "ValueError.__new__" = a5):YN K mg c:=⟨C,⟨e⟩,mg_of X G a,a⟩
structure BU(K:bj)(X:az)(m q:ba)(st:b8):Prop where
 ex:∃f fd,Meth K X m f/\wJ K m q st f fd
theorem MP{X f:az}{m q:ba}{st:b8}{N:av}{B b:aw az}{U:a8 (aw av)}{kV doc z j ct:av}(a:cg K (.ref X) m=ao (ao (.ref f)))
  (l:K.lookup f=ao ⟨N,B,.func (e9 m q (jO st) (eL st) (aZ st) .none kV doc z b j ct),U⟩) (c:codeIn K j q=a5) (k:keepIn K (.ref f)=a5) (i:isFn K (.ref f)=a5):BU K X m q st:=⟨f,_,⟨a,i,k⟩,WO l c k⟩
theorem BU.has{h:bz}{cls m q:ba}{st:b8}{C:az}(M:BU K C m q st)(X:K.In h)(G:h.Ns a7 mg)(n:cx K a7 cls=ao (ao (.ref C)))(L:pA K C):CF K mg cls m q st :=
 let ⟨f,fd,a,b⟩:=M.ex; ⟨C,f,fd,n,mg_of X G n,L,a,b⟩
structure ZD(K:bj)(X:az)(q:ba)(st:b8):Prop where
 ex:∃f fd,Mk K X f/\wJ K "__init__" q st f fd
theorem avI{X f:az}{q:ba}{st:b8}{N:av}{B d:aw az}{b:a8 (aw av)}{kV doc z j ct:av}(a:cg K (.ref X) "__init__" = ao (ao (.ref f)))
  (l:K.lookup f=ao ⟨N,B,.func (e9 "__init__" q (jO st) (eL st) (aZ st) .none kV doc z d j ct),b⟩) (c:codeIn K j q=a5) (k:keepIn K (.ref f)=a5) (i:isFn K (.ref f)=a5)
  (mk:makesIn K X=a5) (U:keepIn K (.ref X)=a5):ZD K X q st:=⟨f,_,⟨mk,a,i,U⟩,WO l c k⟩
theorem ZD.has{h:bz}{cls q:ba}{st:b8}{C:az}(M:ZD K C q st)(X:K.In h)(G:h.Ns a7 mg)(n:cx K a7 cls=ao (ao (.ref C))):Ng K mg cls q st :=
 let ⟨f,fd,a,b⟩:=M.ex; ⟨C,f,fd,n,mg_of X G n,a,b⟩
structure QR(K:bj)(X:az)(m q:ba)(st:b8)(dv:a8 av):Prop where
 ex:∃f fd T o n,Meth K X m f/\adY K m q st f T fd/\K.lookup T=ao o/\o.data=.seq dv n
theorem Vw{X f T:az}{m q:ba}{st:b8}{U tc:av}{N d td:aw az}{b ts:a8 (aw av)}{kV doc B z ct:av}{n:a6}{j:a8 av}(a:cg K (.ref X) m=ao (ao (.ref f)))
  (l:K.lookup f=ao ⟨U,N,.func (e9 m q (jO st) (eL st) (aZ st) (.ref T) kV doc B d z ct),b⟩) (c:codeIn K z q=a5) (k:keepIn K (.ref f)=a5) (i:isFn K (.ref f)=a5)
  (t:K.lookup T=ao ⟨tc,td,.seq j n,ts⟩):QR K X m q st j:=⟨f,_,T,_,n,⟨a,i,k⟩,⟨⟨_,_,_,_,_,_,_,_,_,rfl,l,c⟩⟩,t,rfl⟩
theorem QR.has{h:bz}{cls m q:ba}{st:b8}{C:az}{j:a8 av}(M:QR K C m q st j)(X:K.In h)(G:h.Ns a7 mg)(n:cx K a7 cls=ao (ao (.ref C)))(L:pA K C):KN K mg cls m q st j :=
 let ⟨f,fd,T,o,k,a,b,c,d⟩:=M.ex; ⟨C,f,fd,T,o,k,n,mg_of X G n,L,a,b,c,d⟩
theorem gT{N P:aq ba}{sc:cn}(a:sc.kind=.function:=by rfl)(b:sc.isCoroutine=ax:=by rfl)(c:sc.isGenerator=ax:=by rfl)(d:N.Nodup:=by decide +kernel)(e:N.take P.length=P:=by rfl)(f:∀x∈P,sc.names.lookup x=ao .local\/sc.names.lookup x=ao .cell:=by decide +kernel)(g:∀y∈sc.names,y.2≠.free:=by decide +kernel):dN N P sc:=⟨a,b,c,d,e,f,g⟩
theorem lcO{X:Cx}{scope:cn}{j:aq ba}{js:aq a6}(sc:cn)(N:aq ba)(z:X.env.scope=sc:=by rfl)(q:X.N=N:=by rfl)(ok:UP scope sc N js=a5:=by decide +kernel):wI X scope j js:=.of sc N z q ok
end V2
namespace M
open PySem V2
noncomputable section
def acH:Ev->Mo A :=
 (mT ax 1 [] (gW aM) (gN 0) sC (aC bB aM bM))
def acG:Ev->Mo A :=
 (mT ax 1 [] (gW aM) (gN 0) sC (aC bB aM bP))
def XO:MS :=
 (dB (sG (aB (aQ xK (aB acG a0)) (aB (aQ xK (aB acH a0)) a0))))
def ZI:aq A->Mo A:=dP 1 XO
def YB:Ev->Mo A :=
 (mT ax 1 [] (gW (bU ["Window"] "full" aM)) (gN 0) sC (aQ dO (aB (aC bB aM kN) a0)))
def YC:MS :=
 (dB (yL 0 "full" (aC bV (nM ["Window"] 0 "newest") (aQ xK (aB YB a0)))))
def CJ:aq A->Mo A:=dP 1 YC
end
end M
namespace V2
open PySem L2
@[simp] theorem aaP(neg:br)(i j:a4)(Z:aH):BD neg (.int i) (.int j) Z=ao (.ok (.bl (if neg then !(i==j)else i==j)),Z):=by
 simp[BD,res,fN,lD]
@[simp] theorem aAW(i j:a4)(Z:aH):iW (.int i) (.int j) Z=ao (.ok (.bl (i==j)),Z):=aaP ax i j Z
@[simp] theorem aKX(i j:a4)(Z:aH):OM (.int i) (.int j) Z=ao (.ok (.bl (!(i==j))),Z):=aaP a5 i j Z
theorem JD{i j:a4}(q : -18446744073709551616<i)(h1:i<18446744073709551616):kM i j:=.inl ⟨q,h1⟩
theorem Ka{i j:a4}(q : -18446744073709551616<j)(h1:j<18446744073709551616):kM i j:=.inr ⟨q,h1⟩
@[simp] theorem aK7{α:Type}(x:α)(l:aq α):fU (x::l) 0=ao x:=YD _
@[simp] theorem aK6{α:Type}(x y:α)(l:aq α):fU (x::y::l) 1=ao y:=Lo _
@[simp] theorem aK5{α:Type}(x y z:α)(l:aq α):fU (x::y::z::l) 2=ao z:=Lp _ 2
@[simp] theorem aK4{α:Type}(x y z u:α)(l:aq α):fU (x::y::z::u::l) 3=ao u:=Lp _ 3
end V2
namespace M
open PySem L2 V2
noncomputable def AR(c k:a4):a4 :=
 ((c+1)*(48271+118*k)%2147483629/977*16807+(c+1)*(48271+118*k)%2147483629*(k*k+7)+k)%2147483587
theorem UI(c k:a4):0<=AR c k:=FY _ (by decide)
theorem Eo(c k:a4):AR c k<2147483587:=CC _ (by decide)
theorem QS(c k:a4)(Z:aH)(b:0<=c)(U:c<8589934592)(a:0<=k)(d:k<1048576):yB [.int c,.int k] Z=aG (.int (AR c k)) Z:=by
 have f:=FY ((c+1)*(48271+118*k)) (show(2147483629:a4)≠0 by decide);have e:=CC ((c+1)*(48271+118*k)) (show(0:a4)<2147483629 by decide);have h1:kM (c+1) (48271+118*k):=JD (by omega) (by omega);have h2:kM k k:=JD (by omega) (by omega);have N:∀j,kM ((c+1)*(48271+118*k)%2147483629) j:=λj=>JD (by omega) (by omega);have B:∀j,kM j 16807:=λj=>Ka (by decide) (by decide);have z:∀j,kM 118 j:=λj=>JD (by decide) (by decide);have q:∀j,mL j 977:=λj=>⟨by decide,by decide⟩
 simp[yB,acN,h1,h2,N,B,z,q,AR]
def vW(ns:aq a4)(k:a4):a4:=AR (if k<ns.length then ns[k.toNat]?.getD 0%2147483647 else 0) (k+101)
theorem JH(ns:aq a4)(k:a4):0<=vW ns k:=UI _ _
theorem ab4(ns:aq a4)(k:a4):vW ns k<2147483587:=Eo _ _
theorem JV(ns:aq a4)(k:a4)(Z:aH)(j:0<=k)(z:k<1000000):pZ [.gG ns,.int k] Z=aG (.int (vW ns k)) Z:=by
 by_cases h:k<(ns.length:a4)
 ·obtain⟨n,rfl⟩:=CB j;have hn:n<ns.length:=by omega
  have e:fU (ns.map A.int) (n:a4)=(aA (ns[n])):=by rw[vZ];simp[hn]
  have q:=FY ns[n] (show(2147483647:a4)≠0 by decide);have B:=CC ns[n] (show(0:a4)<2147483647 by decide);have m:=λZ=>QS (ns[n]%2147483647) (n+101) Z q (by omega) (by omega) (by omega);simp[pZ,Lg,h,e,m,vW,hn]
 ·have m:=λZ=>QS 0 (k+101) Z (by decide) (by decide) (by omega) (by omega);simp[pZ,Lg,h,m,vW]
end M
namespace V2
open PySem L2
theorem Jo{f:A->A->br}:∀(xs:aq A),(∀x∈xs,f x x=a5)->BG f xs xs=a5
 |[],_=>rfl
 |x::xs,h=>by simp only[BG,h x rG,Bool.true_and];exact Jo xs λy j=>h y (iP _ j)
theorem aBR:∀(n:a6) (a:A),fN n a=a5->lD n a a=a5:=by
 intro n
 induction n with
 |zero=>intro a h;cases a <;> first|(simp[lD];done)|(simp[fN]at h)
 |succ n ih =>
  intro a h;cases a with
  |tup ds=>simp only[fN,FR]at h;simp only[lD];exact Jo ds λx j=>ih x (h x j)
  |lst ds=>simp only[fN,FR]at h;simp only[lD];exact Jo ds λx j=>ih x (h x j)
  |int i=>simp[lD]
  |bl i=>simp[lD]
  |str i=>simp[lD]
  |aV=>simp[lD]
  |_=>simp[fN]at h
theorem TQ{Z:aH}{n:a6}{a:A}(h:fN 8 a=a5):res Z n a=ao a:=by
 cases n <;> simp[res,h]
theorem aAV{a b c:A}{Z:aH}(q:res Z 6 a=ao c)(hb:res Z 6 b=ao c)(j:fN 8 c=a5):iW a b Z=ao (.ok (.bl a5),Z):=by
 simp[iW,BD,q,hb,j,aBR 8 c j]
theorem alV{Z:aH}{n k:a6}{ds:aq A}(h:Z[k]?=ao (.lst ds)):res Z (n+1) (.aE k)=(xA (res Z n) ds).map .lst:=by
 rw[res,bb (by simp[fN])];simp[h]
theorem Wh{Z:aH}{n:a6}:∀(ds:aq A),ds.all (fN 8)=a5->xA (res Z n) ds=ao ds
 |[],_=>rfl
 |d::ds,h=>by
  simp only[List.all_cons,lK]at h;simp[xA,TQ h.1,Wh ds h.2]
abbrev E:=a4×a4×a4
noncomputable def dM(e:E):A:=.tup [.int e.1,.int e.2.1,.int e.2.2]
def encL(es:aq E):aq A:=es.map dM
@[simp] theorem aI5(n:a6)(i:a4):fN n (.int i)=a5:=by cases n <;> rfl
def qQ(s l d:a4)(es:aq E):A:=.tup [.int s,.int l,.int d,.lst (encL es)]
@[simp] theorem aJM(es:aq E):(encL es).length=es.length:=by simp[encL]
end V2
namespace M
open PySem L2 V2
noncomputable def mZ(es:aq E)(i:a6):a4:=if i=0 then 0 else(es[i-1]?.getD (0,0,0)).2.1
noncomputable def nC(s:a4)(es:aq E)(i:a6):a4:=match es[i]? with
 |some e=>e.2.2-1
 |none=>s
theorem OX(es:aq E)(i:a6):(encL es)[i]?=es[i]?.map dM:=by simp[encL]
theorem aGD{α:Type}(xs:aq α)(i:a6)(h:0<i):fU xs ((i:a4)-1)=xs[i-1]?:=by
 rw[show((i:a4)-1)=((i-1:a6):a4)by omega];exact vZ xs _
theorem Fc(es:aq E)(i:a6)(h:i<es.length):mZ es (i+1)=es[i].2.1:=by simp[mZ,h]
theorem Yy(s:a4)(es:aq E)(i:a6)(h:i<es.length):nC s es i=es[i].2.2-1:=by simp[nC,h]
theorem Yz(s:a4)(es:aq E):nC s es es.length=s:=by simp[nC]
theorem aH9(n:a6)(e:E):Cl n (dM e):=by simp[dM,Cl,fK]
theorem Nz(n:a6):∀(es:aq E),fK n (encL es)
 |[]=>by simp[encL,fK]
 |e::es=>by simp only[encL,dE,fK];exact⟨aH9 n e,Nz n es⟩
theorem aH8(n:a6)(s l d:a4)(es:aq E):Cl n (qQ s l d es):=by simp[qQ,Cl,fK,Nz]
def Ch(l s:a4):a4->a4->aw a4->aq E->Prop
 |lo,j,_,[]=>lo=s/\j=s
 |lo,j,q,e::r=>(∀p,q=ao p->p<=e.1)/\(q=ao e.1\/e.2.2<=lo+l+1)/\lo<e.2.1/\j<e.2.2/\e.2.1<=e.2.2/\e.2.2-e.2.1<=l/\Ch l s e.2.1 e.2.2 (ao e.1) r
def aBD(es:aq E):Prop:=∀e r,es=e::r->e.2.1=1/\e.2.2=1
structure GF(s l d:a4)(es:aq E):Prop where
 s0:0<=s
 l0:0<=l
 d0:0<=d
 fst:aBD es
 ch:Ch l s 0 0 au es
theorem Ch.bound{l s:a4}:∀{es:aq E} {lo j:a4} {pr:aw a4},Ch l s lo j pr es->lo<=s/\j<=s
 |[],_,_,_,h=>⟨Int.le_of_eq h.1,Int.le_of_eq h.2⟩
 |e::r,_,_,_,h=>by
  obtain⟨_,_,B,z,_,_,q⟩:=h;have:=Ch.bound q;omega
noncomputable def qI(l:a4)(k y:E):br:=decide (y.1=k.1)||decide (y.2.2<=k.2.1+l+1)
def pC(l:a4):E->aq E->aq E
 |_,[]=>[]
 |k,x::r=>match r with
  |[]=>[x]
  |y::_=>if qI l k y=a5 then pC l k r else x::pC l x r
def mV(l:a4):aq E->aq E
 |[]=>[]
 |e::r=>e::pC l e r
theorem HE(l:a4)(k x y:E)(r:aq E):pC l k (x::y::r)=if qI l k y=a5 then pC l k (y::r)else x::pC l x (y::r):=rfl
theorem DP(l:a4)(k y:E):qI l k y=a5<->(y.1=k.1\/y.2.2<=k.2.1+l+1):=by simp[qI]
theorem Kd{l0 l s:a4}(i:l0<=l):∀(xs:aq E) (k:E) (j N B:a4),Ch l0 s N B (ao j) xs->k.1<=j->k.2.1<=N->k.2.2<=B->(xs=[]->k.2.1=N/\k.2.2=B)->(∀x r,xs=x::r->qI l k x=a5)->Ch l s k.2.1 k.2.2 (ao k.1) (pC l k xs)
 |[],k,j,N,B,h,_,_,_,he,_=>by
  obtain⟨a,b⟩:=he rfl;exact⟨a.trans h.1,b.trans h.2⟩
 |[x],k,j,N,B,h,h1,h2,t,_,hn=>by
  obtain⟨g,A,w,v,f,u,U⟩:=h;have n:=(DP l k x).mp (hn x [] rfl);have:=g j rfl;refine⟨λp d=>(by cases d;omega),?_,by omega,by omega,f,by omega,U⟩
  rcases n with n|n
  ·left;rw[n]
  ·right;exact n
 |x::y::r,k,j,N,B,h,h1,h2,t,_,hn=>by
  obtain⟨g,A,w,v,f,u,U⟩:=h;have C:=g j rfl;rw[HE]
  by_cases c:qI l k y=a5
  ·rw[a9 c];exact Kd i (y::r) k x.1 x.2.1 x.2.2 U (by omega) (by omega) (by omega) (λe=>by cases e) (λm o e=>by cases e;exact c)
  ·rw[bb c];have n:=(DP l k x).mp (hn x _ rfl);have q:=Kd i (y::r) x x.1 x.2.1 x.2.2 U IE IE IE (λe=>by cases e) (λm o e=>by
    cases e;rw[DP]
    rcases U.2.1 with z|z
    ·left;exact(kJ z).symm
    ·right;omega)
   refine⟨λp d=>(by cases d;omega),?_,by omega,by omega,f,by omega,q⟩
   rcases n with n|n
   ·left;rw[n]
   ·right;exact n
theorem aAE{s l d B:a4}{es:aq E}(h:GF s l d es)(hl:l<=B):GF s B (d+1) (mV B es):=by
 refine⟨h.s0,by have:=h.l0;omega,by have:=h.d0;omega,?_,?_⟩
 ·intro e r he;cases es with
  |nil=>cases he
  |cons x q =>
   simp only[mV,xX]at he;rw[<-he.1];exact h.fst x q rfl
 ·cases es with
  |nil=>exact h.ch
  |cons x q =>
   obtain⟨c,j,b,a,U,f,N⟩:=h.ch;refine⟨c,?_,b,a,U,by omega,Kd hl q x x.1 x.2.1 x.2.2 N IE IE IE (λ_=>⟨rfl,rfl⟩) (λy r e=>?_)⟩
   ·rcases j with j|j
    ·cases j
    ·right;omega
   ·subst e;rw[DP]
    rcases N.2.1 with z|z
    ·left;exact(kJ z).symm
    ·right;omega
theorem SM(l:a4):∀(xs:aq E) (k c:E),c∈pC l k xs->c∈xs
 |[],_,_,h=>by cases h
 |[x],_,_,h=>h
 |x::y::r,k,c,h=>by
  rw[HE]at h;split at h
  ·exact iP _ (SM l (y::r) k c h)
  ·rcases dY.mp h with z|z
   ·rw[z];exact List.mem_cons_self ..
   ·exact iP _ (SM l (y::r) x c z)
theorem PM{l s:a4}:∀(xs:aq E) (lo j:a4) (q:aw a4),Ch l s lo j q xs->∀c∈xs,j<c.2.2/\lo<c.2.1/\c.2.2-c.2.1<=l/\c.2.1<=s/\c.2.2<=s
 |[],_,_,_,_,c,h=>by cases h
 |x::r,lo,j,q,h,c,N=>by
  obtain⟨k,i,f,e,g,d,B⟩:=h
  rcases dY.mp N with z|z
  ·subst z;have:=B.bound;exact⟨e,f,d,this.1,this.2⟩
  ·obtain⟨b1,b2,b,a,U⟩:=PM r _ _ _ B c z;exact⟨by omega,by omega,b,a,U⟩
def My(st:a4):E->aq E->Prop
 |_,[]=>True
 |k,b::r=>(∀c j,r=c::j->k.2.1+st+2<=c.2.1)/\My st b r
theorem Fs{l0 st s:a4}:∀(xs:aq E) (k:E) (lo N:a4) (B:aw a4),Ch l0 s lo N B xs->My st k (pC (l0+st) k xs)
 |[],_,_,_,_,_=>trivial
 |[x],_,_,_,_,_=>⟨λc a e=>(by cases e),trivial⟩
 |x::y::r,k,lo,N,B,h=>by
  obtain⟨o,n,m,l,i,g,j⟩:=h;rw[HE]
  by_cases q:qI (l0+st) k y=a5
  ·rw[a9 q];exact Fs (y::r) k _ _ _ j
  ·rw[bb q];refine⟨λc a e=>?_,Fs (y::r) x _ _ _ j⟩;have U:c∈y::r:=SM _ (y::r) x c (by rw[e];exact List.mem_cons_self ..);have hm:=PM _ _ _ _ j c U;have f:y.2.2<=c.2.2:=by
    rcases dY.mp U with z|z
    ·rw[z];exact lJ _
    ·obtain⟨_,_,_,_,_,_,b⟩:=j;have:=(PM _ _ _ _ b c z).1;omega
   have hn:¬(y.1=k.1\/y.2.2<=k.2.1+(l0+st)+1):=λz=>q ((DP _ _ _).mpr z);have d:¬y.2.2<=k.2.1+(l0+st)+1:=λz=>hn (.inr z);omega
theorem Xc{st s:a4}:∀(m:a6) (k:E) (ae:aq E),My st k ae->(∀c∈k::ae,c.2.1<=s)->2*m<=ae.length->k.2.1+m*(st+2)<=s
 |0,k,ae,_,h,_=>by have:=h k rG;simpa using this
 |m+1,k,ae,j,h,hl=>by
  match ae,j,hl with
  |[],_,hl=>simp at hl
  |[b],_,hl=>simp at hl;omega
  |b::c::r,j,hl =>
   obtain⟨N,B⟩:=j;have e:=N c r rfl;have q:=Xc m c r B.2 (λz U=>h z (iP _ (iP _ U))) (by simp at hl;omega);have:((m+1:a6):a4)*(st+2)=(m:a4)*(st+2)+(st+2):=by rw[Int.natCast_add,CD];simp
   rw[this];omega
theorem ahI{s l d:a4}{es:aq E}(h:GF s l d es)(keep:a6)(e:1<=keep):(mV (l+s/keep) es).length<=2*keep:=by
 cases es with
 |nil=>simp[mV]
 |cons x j =>
  obtain⟨p,o,n,m,k,i,B⟩:=h.ch;have b:=(h.fst x j rfl).1
  by_cases N:(mV (l+s/keep) (x::j)).length<=2*keep
  ·exact N
  ·exfalso;have hlen:2*keep<=(pC (l+s/keep) x j).length:=by simp only[mV,iZ]at N;omega
   have q:=Xc keep x _ (Fs j x _ _ _ B) (λc U=>by
    rcases dY.mp U with z|z
    ·rw[z];exact B.bound.1
    ·exact(PM _ _ _ _ B c (SM _ _ _ _ z)).2.2.2.1) hlen
   have g:=Int.mul_ediv_add_emod s keep;have f:=CC s (show(0:a4)<keep by omega);have a:(keep:a4)*(s/keep+2)=keep*(s/keep)+2*keep:=by rw[Int.mul_add];omega
   rw[a]at q;omega
end M
namespace V2
open PySem L2
theorem Ax{Z Z':aH}{a:A}(h:Z'.length=Z.length):trim Z (ao (.ok a,Z'))=ao (.ok a,Z'):=by
 simp only[trim];split
 ·rename_i q;have:Z'.take Z.length=Z':=by rw[<-h];exact List.take_length
  rw[this]at q;rw[q.1]
 ·rfl
end V2
namespace M
open PySem L2 V2
theorem aHV(l:a4)(k y:E)(Z:aH):RH [dM k,dM y,.int l] Z=aG (.bl (qI l k y)) Z:=by
 by_cases h:y.1=k.1
 ·simp[RH,Ku,dM,h,qI]
 ·simp[RH,Ku,dM,h,qI]
theorem Jq(es:aq E)(e:E):encL es++[dM e]=encL (es++[e]):=by simp[encL]
theorem Jr(e:E)(es:aq E):encL (e::es)=dM e::encL es:=rfl
theorem UT(ok:aH->Prop)(aK:∀Z,ok Z)(es:aq E)(l:a4)(Z:aH)(hz:es.length<=100000):∀(xs:aq E) (pre af:aq E) (k:E) (a e:aw A),es=pre++xs->1<=pre.length->af.length<=pre.length->∃B j,
  fD ok (rJ 2 (jM (gN 4) (jM (gN 5) sY))) BM (pQ pre.length (encL xs)) [cA (encL es),aA l,aD Z.length,aA ((es.length:a4)-1),a,e] (Z++[.lst (encL (af++[k]))]) =
   ao (.nx,[cA (encL es),aA l,aD Z.length,aA ((es.length:a4)-1),B,j],Z++[.lst (encL (af++[k]++pC l k xs))])
 | [],pre,af,k,a,e,_,_,_=>⟨a,e,by
   show fD _ _ _ [] _ _=_;rw[xO (aK _)];simp[pC]⟩
 |x::r,pre,af,k,a,e,he,n,o=>by
  have U:∀ds,dU (Z++[.lst ds]) (.aE Z.length)=ao ds:=λds=>kX (by simp);have f:∀ds,vM (Z++[.lst ds]) (.aE Z.length):=λds=>yY (U ds);have g:∀ds,qR (Z++[.lst ds]) (.aE Z.length)=ao (Z.length,ds):=λds=>zM (by simp);have hlen:es.length=pre.length+(r.length+1):=by rw[he];simp
  have i:af.length+1<bf:=by rw[rD];omega
  have c:((pre.length:a4)==0)=ax:=by simp;intro z;simp[z]at n
  have h:fU (encL (af++[k])) (-1)=ao (dM k):=by rw[<-Jq];exact L2.aGE _ _
  have keep:∀(m:aw A),BM [cA (encL es),aA l,aD Z.length,aA ((es.length:a4)-1),aA (pre.length:a4),ao (dM x)] (Z++[.lst (encL (af++[k]))]) =
    ao (.nx,[cA (encL es),aA l,aD Z.length,aA ((es.length:a4)-1),aA (pre.length:a4),ao (dM x)],Z++[.lst (encL (af++[k]++(match r with
     |[]=>[x]
     | y::_=>if qI l k y=a5 then []else [x])))]):=by
   intro _;cases r with
   |nil =>
    have N:((pre.length:a4)==(es.length:a4)-1)=a5:=by simp at hlen ⊢;omega
    simp[BM,-beq_iff_eq,-e4,c,N,f,g,i];rw[Jq];simp
   |cons y r =>
    have N:((pre.length:a4)==(es.length:a4)-1)=ax:=by simp at hlen ⊢;omega
    have d:fU (encL es) ((pre.length:a4)+1)=ao (dM y):=by
     rw[show((pre.length:a4)+1)=((pre.length+1:a6):a4)by omega,vZ,OX,he];simp
    have q:=λZ=>aHV l k y Z;cases hb:qI l k y with
    |true =>
     rw[hb]at q;simp[BM,-beq_iff_eq,-e4,c,N,U,h,d,q,hb]
    |false =>
     rw[hb]at q;simp[BM,-beq_iff_eq,-e4,c,N,U,h,d,q,f,g,i,hb];rw[Jq];simp
  have b:(pre++[x]).length=pre.length+1:=by simp
  rw[Jr,pQ];cases r with
  |nil =>
   obtain⟨B,j,ih⟩:=UT ok aK es l Z hz [] (pre++[x]) (af++[k]) x (aA (pre.length:a4)) (ao (dM x)) (by rw[he];simp) (by simp) (by simp;omega);rw[b]at ih;refine⟨B,j,?_⟩;rw[nX (aK _) (by simp) (keep au),ih];simp[pC]
  |cons y r =>
   cases hb:qI l k y with
   |true =>
    obtain⟨B,j,ih⟩:=UT ok aK es l Z hz (y::r) (pre++[x]) af k (aA (pre.length:a4)) (ao (dM x)) (by rw[he];simp) (by simp) (by simp;omega);rw[b]at ih;refine⟨B,j,?_⟩;rw[nX (aK _) (by simp) (keep au)];simp only[hb,eT,rW];rw[ih,HE,a9 hb]
   |false =>
    obtain⟨B,j,ih⟩:=UT ok aK es l Z hz (y::r) (pre++[x]) (af++[k]) x (aA (pre.length:a4)) (ao (dM x)) (by rw[he];simp) (by simp) (by simp;omega);rw[b]at ih;refine⟨B,j,?_⟩;rw[nX (aK _) (by simp) (keep au)];simp only[hb,jW,gH];rw[ih,HE,bb (by rw[hb];simp)];simp
theorem aHX(es:aq E)(l:a4)(Z:aH)(hz:es.length<=100000):RI [.lst (encL es),.int l] Z=aG (.lst (encL (mV l es))) Z:=by
 have z:∀ds,vM (Z++[.lst ds]) (.aE Z.length):=λds=>yY (kX (ds:=ds) (by simp));have B:∀ds,qR (Z++[.lst ds]) (.aE Z.length)=ao (Z.length,ds):=λds=>zM (by simp);have N:(0:a6)<bf:=by decide
 cases es with
 |nil =>
  simp[RI,Ky,enumSrc,encL,pQ,fD,mV];exact LL (by simp[Cl,fK])
 |cons x j =>
  obtain⟨a,U,q⟩:=UT (λ_=>True) (λ_=>trivial) (x::j) l Z hz j [x] [] x (aA 0) (ao (dM x)) rfl (by simp) (by simp);have f:fD (λ_=>True) (rJ 2 (jM (gN 4) (jM (gN 5) sY))) BM (pQ 0 (encL (x::j))) [cA (encL (x::j)),aA l,aD Z.length,aA (((x::j).length:a4)-1),au,au] (Z++[.lst []]) =
   ao (.nx,[cA (encL (x::j)),aA l,aD Z.length,aA (((x::j).length:a4)-1),a,U],Z++[.lst (encL (mV l (x::j)))]):=by
   rw[Jr,pQ,nX trivial (Y0:=[cA (encL (x::j)),aA l,aD Z.length,aA (((x::j).length:a4)-1),aA 0,ao (dM x)]) (Z0:=Z++[.lst []]) (by simp[Jr])
    (Y1:=[cA (encL (x::j)),aA l,aD Z.length,aA (((x::j).length:a4)-1),aA 0,ao (dM x)]) (Z1:=Z++[.lst (encL ([]++[x]))]) (by simp[BM,z,B,N,encL])]
   exact q
  have hn:(((x::j).length:a4)-1)=(j.length:a4):=by simp
  rw[hn]at f;simp[RI,Ky,enumSrc,f];exact LL (by simp[Cl,Nz])
theorem aHK(s l d:a4)(es:aq E)(keep:a4)(Z:aH)(B:1<=keep)(N:keep<1000000)(hz:es.length<=100000):xZ [qQ s l d es,.int keep] Z=aG (qQ s (l+s/keep) (d+1) (mV (l+s/keep) es)) Z:=by
 have q:=λl Z=>aHX es l Z hz;have z:(4:a6)<=bf:=by decide
 have hd:∀j,mL j keep:=λj=>⟨by omega,by omega⟩
 simp[xZ,acF,qQ,q,z,hd]
theorem aaG{s l d:a4}{es:aq E}(h:GF s l d es):(s=0<->es=[]):=by
 cases es with
 |nil=>exact⟨λ_=>rfl,λ_=>h.ch.1.symm⟩
 |cons e r =>
  obtain⟨_,_,q,_,_,_,j⟩:=h.ch;have:=j.bound;exact⟨λz=>by omega,λz=>by cases z⟩
theorem ab0{l s:a4}:∀(es:aq E) (lo N:a4) (B:aw a4) (i:a6) (e:E),Ch l s lo N B es->es[i]?=ao e->e.2.1<=e.2.2/\e.2.2-e.2.1<=l/\(i+1=es.length->e.2.1=s/\e.2.2=s)/\∀f,es[i+1]?=ao f->e.1<=f.1/\e.2.1<f.2.1/\e.2.2<f.2.2/\qI l e f=a5
 |[],_,_,_,_,_,_,h=>by simp at h
 |x::r,lo,N,B,0,e,h,he=>by
  obtain⟨t,p,o,n,a,U,q⟩:=h;simp at he;subst he;refine⟨a,U,λhl=>?_,λf j=>?_⟩
  ·have:r=[]:=YW (by simp only[iZ]at hl;omega);subst this;exact q
  ·cases r with
   |nil=>simp at j
   |cons y r =>
    simp at j;subst j;obtain⟨b1,b2,m,k,_⟩:=q;refine⟨b1 _ rfl,m,k,?_⟩;rw[DP]
    rcases b2 with z|z
    ·left;exact(kJ z).symm
    ·right;exact z
 |x::r,lo,N,B,i+1,e,h,he=>by
  obtain⟨t,p,o,n,a,U,q⟩:=h;simp at he;obtain⟨g,d,c,b⟩:=ab0 r _ _ _ i e q he;exact⟨g,d,λhl=>c (by simp only[iZ]at hl;omega),λf j=>b f (by simpa using j)⟩
structure Po where
 s:a4
 l:a4
 d:a4
 es:aq E
def aL(p:Po):A:=qQ p.s p.l p.d p.es
def Rj(keep:a4)(p:Po):Po:=⟨p.s,p.l+p.s/keep,p.d+1,mV (p.l+p.s/keep) p.es⟩
end M
namespace V2
open PySem L2
theorem Jl{ok:aH->Prop}{g:A->MS}{c:Ev->Mo br}{e:Ev->Mo A}(F:A->aw A)(P:Ev->Prop)(Z0:aH)(aK:∀ys,ok (Z0++[.lst ys])):∀(xs:aq A) (Y:Ev) (af:aq A),P Y->af.length+xs.length<=1000000 ->
  (∀x∈xs,∀Y,P Y->∀ys,∃Y1,P Y1/\g x Y (Z0++[.lst ys])=ao (.nx,Y1,Z0++[.lst ys])/\((∃y,F x=ao y/\c Y1 (Z0++[.lst ys])=ao (.ok a5,Z0++[.lst ys])/\e Y1 (Z0++[.lst ys])=ao (.ok y,Z0++[.lst ys]))\/(F x=au/\c Y1 (Z0++[.lst ys])=ao (.ok ax,Z0++[.lst ys])))) ->
  ∃j,pP ok g c e Z0.length xs Y (Z0++[.lst af])=ao (j,Z0++[.lst (af++xs.filterMap F)])
 |[],Y,af,_,_,_=>⟨Y,by simp[pP,aK]⟩
 |x::xs,Y,af,d,hl,turn=>by
  simp only[iZ]at hl;obtain⟨Y1,z,a,q⟩:=turn x rG Y d af;have b:af.length<bf:=by rw[rD];omega
  rcases q with⟨y,N,U,f⟩|⟨N,U⟩
  ·obtain⟨j,ih⟩:=Jl F P Z0 aK xs Y1 (af++[y]) z (by simp;omega) λx B=>turn x (iP _ B);exact⟨j,by simp[pP,aK,a,U,f,b,ih,N]⟩
  ·obtain⟨j,ih⟩:=Jl F P Z0 aK xs Y1 af z (by omega) λx B=>turn x (iP _ B);exact⟨j,by simp[pP,aK,a,U,ih,N]⟩
theorem Am{n:a6}{js:aq a6}{fi:Ev->Mo Src}{g:A->MS}{c:Ev->Mo br}{e:Ev->Mo A}{Y:Ev}{Z Z0:aH}{S:Src}(F:A->aw A)(P:Ev->Prop)(j:fi Y Z=ao (.ok S,Z0))(aK:∀ys,S.ok (Z0++[.lst ys]))(N:P (nT n js Y))(hl:S.ds.length<=1000000)
  (turn:∀x∈S.ds,∀Y,P Y->∀ys,∃Y1,P Y1/\g x Y (Z0++[.lst ys])=ao (.nx,Y1,Z0++[.lst ys])/\((∃y,F x=ao y/\c Y1 (Z0++[.lst ys])=ao (.ok a5,Z0++[.lst ys])/\e Y1 (Z0++[.lst ys])=ao (.ok y,Z0++[.lst ys]))\/(F x=au/\c Y1 (Z0++[.lst ys])=ao (.ok ax,Z0++[.lst ys]))))
  (B:fK Z0.length (S.ds.filterMap F)):mT ax n js fi g c e Y Z=ao (.ok (.lst (S.ds.filterMap F)),Z0):=by
 obtain⟨z,q⟩:=Jl F P Z0 aK S.ds (nT n js Y) [] N (by simpa using hl) turn;simp[mT,mb,j,q,UO,B]
theorem aAU{a:A}{Z:aH}(h:fN 8 a=a5):iW a a Z=ao (.ok (.bl a5),Z):=aAV (TQ h) (TQ h) h
theorem TM{f:Ev->Mo (aq A)}{Y:Ev}{Z Z':aH}{j:a4}(h:f Y Z=ao (.ok [.int j],Z'))(q:yN j):rB f Y Z=ao (.ok (wW 0 j.toNat),Z'):=by
 unfold rB;rw[bO h];show mb (nF (yN j)) _ Z'=_;rw[HW _ q];rfl
theorem tE{fi:Ev->Mo Src}{g:A->MS}{b:MS}{Y:Ev}{Z Z':aH}{S:Src}(h:fi Y Z=ao (.ok S,Z')):kP fi g b Y Z=fD S.ok g b S.ds Y Z':=by
 unfold kP;rw[gO h]
theorem ER{n:a6}:∀{as:aq A},(∀a∈as,Cl n a)->fK n as
 |[],_=>by simp only[fK]
 |a::as,h=>by simp only[fK];exact⟨h a rG,ER λb hb=>h b (iP _ hb)⟩
end V2
namespace M
open PySem L2 V2
abbrev Rn:=a4×a4
noncomputable def rN(r:Rn):A:=.tup [.int r.1,.int r.2]
def cL(rs:aq Rn):aq A:=rs.map rN
theorem clT(n:a6)(r:Rn):Cl n (rN r):=by simp[rN,Cl,fK]
theorem abV(n:a6)(rs:aq Rn):fK n (cL rs):=ER λa h=>by
 obtain⟨r,_,rfl⟩:=oZ.mp h;exact clT n r
noncomputable def kO(rs:aq Rn)(n:a4):a4:=(rs.map λr=>if r.1<n then r.2 else 0).sum
noncomputable def eG(rs:aq Rn)(n:a4):a4:=(rs.map λr=>if r.1<=n then r.2 else 0).sum
noncomputable def jB(rs:aq Rn)(n:a4):a4:=(rs.map λr=>if r.1=n then r.2 else 0).sum
noncomputable def whole(rs:aq Rn):a4:=(rs.map (·.2)).sum
noncomputable def iM(j:aq a4)(f:a4->a4):aq (Key×A):=j.map λk=>(.inl k,.int (f k))
theorem Qm(j:aq a4)(f:a4->a4)(n:a4):rA (iM j f) (.inl n)=if n∈j then(aA (f n))else au:=by
 induction j with
 |nil=>rfl
 |cons k j ih =>
  simp only[rA,iM,dE,FQ]at ih ⊢
  by_cases e:k=n
  ·subst e;simp
  ·have:(Sum.inl k:Key)≠Sum.inl n:=λz=>e (Sum.inl.inj z);simp only[this,PJ];rw[ih];have q:¬n=k:=λz=>e z.symm;simp[q]
theorem aGH(j:aq a4)(f:a4->a4)(n:a4):((iM j f).any λq=>decide (q.1=(Sum.inl n:Key)))=decide (n∈j):=by
 induction j with
 |nil=>rfl
 |cons k j ih =>
  simp only[iM,dE,Mu]at ih ⊢;rw[ih]
  by_cases e:k=n
  ·subst e;simp
  ·have h1:(Sum.inl k:Key)≠Sum.inl n:=λz=>e (Sum.inl.inj z);have B:¬n=k:=λz=>e z.symm;simp[h1,B]
noncomputable def qS(j:aq a4)(n:a4):aq a4:=if n∈j then j else j++[n]
theorem amS(j:aq a4)(f g:a4->a4)(n:a4)(B:∀k∈j,k≠n->g k=f k):tV (iM j f) (.inl n) (.int (g n))=iM (qS j n) g:=by
 unfold tV qS;rw[aGH]
 by_cases h:n∈j
 ·simp only[h,PF,eT];simp only[iM,xW];refine QU λk q=>?_
  by_cases e:k=n
  ·subst e;simp
  ·have h1:(Sum.inl k:Key)≠Sum.inl n:=λz=>e (Sum.inl.inj z);simp[h1,B k q e]
 ·simp only[h,PJ,gH];simp only[iM,zP,dE,FP];rw[QU (g:=λk=>((Sum.inl k:Key),A.int (g k))) λk q=>by rw[B k q (λz=>h (z ▸ q))]];simp
def pK(j:aq a4)(rs:aq Rn):aq a4:=rs.foldl (λj r=>qS j r.1) j
theorem aGM{j:aq a4}{n:a4}(h:j.Nodup):(qS j n).Nodup:=by
 unfold qS;split
 ·exact h
 ·rename_i hn;rw[Mp];refine⟨h,by simp,λa q b hb e=>?_⟩;simp only[lT]at hb;exact hn (hb ▸ e ▸ q)
theorem Wg{j:aq a4}{n k:a4}:k∈qS j n<->k∈j\/k=n:=by
 unfold qS;split
 ·rename_i h;exact⟨.inl,λz=>z.elim id λe=>e ▸ h⟩
 ·simp
theorem Wx(j:aq a4)(n:a4):(qS j n).length<=j.length+1:=by unfold qS;split <;> simp
theorem Xb:∀(rs:aq Rn) {j:aq a4},j.Nodup->(pK j rs).Nodup
 |[],_,h=>h
 |r::rs,_,h=>Xb rs (aGM h)
theorem Wf:∀(rs:aq Rn) {j:aq a4} {k:a4},k∈pK j rs<->k∈j\/∃r∈rs,r.1=k
 |[],j,k=>by simp[pK]
 |r::rs,j,k=>by
  show k∈pK (qS j r.1) rs<->_;rw[Wf rs,Wg];simp only[dY,exists_eq_or_imp];constructor
  ·rintro((h|h)|h)
   ·exact .inl h
   ·exact .inr (.inl h.symm)
   ·exact .inr (.inr h)
  ·rintro(h|h|h)
   ·exact .inl (.inl h)
   ·exact .inl (.inr h.symm)
   ·exact .inr h
theorem Fj:∀(rs:aq Rn) (j:aq a4),(pK j rs).length<=j.length+rs.length
 |[],j=>by simp[pK]
 |r::rs,j=>by
  have h1:=Fj rs (qS j r.1);have h2:=Wx j r.1;show(pK (qS j r.1) rs).length<=_;simp only[iZ];omega
theorem vE(r:Rn)(rs:aq Rn)(x:a4):kO (r::rs) x=(if r.1<x then r.2 else 0)+kO rs x/\eG (r::rs) x=(if r.1<=x then r.2 else 0)+eG rs x:=⟨rfl,rfl⟩
theorem Qu(R S:aq Rn)(x:a4):eG (R++S) x=eG R x+eG S x:=by simp[eG]
def Tn(R:aq Rn):Prop:=∀r∈R,0<=r.2
theorem Tn.tail{r:Rn}{R:aq Rn}(h:Tn (r::R)):Tn R:=λq j=>h q (iP _ j)
theorem Tn.head{r:Rn}{R:aq Rn}(h:Tn (r::R)):0<=r.2:=h r rG
theorem Av:∀{R:aq Rn},Tn R->∀x,0<=kO R x
 |[],_,_=>by simp[kO]
 |r::R,h,x=>by
  rw[(vE r R x).1];have:=Av h.tail x;have:=h.head;split <;> omega
theorem Qy:∀{R:aq Rn},Tn R->∀{x y:a4},x<=y->kO R x<=kO R y
 |[],_,_,_,_=>by simp[kO]
 |r::R,h,x,y,l=>by
  rw[(vE r R x).1,(vE r R y).1];have:=Qy h.tail l;have:=h.head;split <;> split <;> omega
theorem Qt:∀{R:aq Rn},Tn R->∀{x y:a4},x<=y->eG R x<=eG R y
 |[],_,_,_,_=>by simp[eG]
 |r::R,h,x,y,l=>by
  rw[(vE r R x).2,(vE r R y).2];have:=Qt h.tail l;have:=h.head;split <;> split <;> omega
theorem Au:∀{R:aq Rn},Tn R->∀{x y:a4},x<y->eG R x<=kO R y
 |[],_,_,_,_=>by simp[eG,kO]
 |r::R,h,x,y,l=>by
  rw[(vE r R x).2,(vE r R y).1];have:=Au h.tail l;have:=h.head;split <;> split <;> omega
theorem SG:∀{R:aq Rn},Tn R->∀(x:a4),kO R x<=eG R x
 |[],_,_=>by simp[eG,kO]
 |r::R,h,x=>by
  rw[(vE r R x).2,(vE r R x).1];have:=SG h.tail x;have:=h.head;split <;> split <;> omega
theorem As:∀{R:aq Rn},Tn R->∀(x:a4),eG R x<=whole R
 |[],_,_=>by simp[eG,whole]
 |r::R,h,x=>by
  rw[(vE r R x).2];have e:whole (r::R)=r.2+whole R:=by simp[whole]
  have:=As h.tail x;have:=h.head;rw[e];split <;> omega
def Pl(R:aq Rn):a4->aq E->Prop
 |_,[]=>True
 |z,e::r=>∃p,z<p/\kO R e.1<p/\p<=eG R e.1/\e.2.1<=p/\p<=e.2.2/\Pl R p r
theorem Pl.low{R:aq Rn}{z j:a4}:∀{es:aq E},Pl R z es->j<=z->Pl R j es
 |[],_,_=>trivial
 |_::_,⟨p,h,q⟩,l=>⟨p,by omega,q⟩
theorem Pl.sub{R:aq Rn}:∀{es fs:aq E} {z:a4},es.Sublist fs->Pl R z fs->Pl R z es
 |_,_,_,.slnil,_=>trivial
 |_,_,_,.cons a s,⟨p,h,q⟩=>Pl.sub s (q.2.2.2.2.low (by omega))
 |_,_,_,.cons_cons a s,⟨p,h,b,U,N,B,j⟩=>⟨p,h,b,U,N,B,Pl.sub s j⟩
theorem Bb(l:a4):∀(xs:aq E) (k:E),(pC l k xs).Sublist xs
 |[],k=>by simp[pC]
 |[x],k=>by simp[pC]
 |x::y::r,k=>by
  rw[HE];split
  ·exact .cons _ (Bb l (y::r) k)
  ·exact .cons_cons _ (Bb l (y::r) x)
theorem Ba(l:a4)(es:aq E):(mV l es).Sublist es:=by
 cases es with
 |nil=>simp[mV]
 |cons x j=>exact .cons_cons _ (Bb l j x)
theorem Pl.mV{R:aq Rn}{es:aq E}(l:a4)(h:Pl R 0 es):Pl R 0 (M.mV l es):=h.sub (Ba l es)
structure Gd(R:aq Rn)(p:Po):Prop where
 tn:Tn R
 gf:GF p.s p.l p.d p.es
 sz:p.s=whole R
 pl:Pl R 0 p.es
theorem Gd.mV{R:aq Rn}{p:Po}(h:Gd R p)(keep:a4)(j:1<=keep):Gd R (Rj keep p):=by
 have hd:0<=p.s/keep:=FZ h.gf.s0 (by omega);exact⟨h.tn,aAE h.gf (show p.l<=p.l+p.s/keep by omega),h.sz,Pl.mV _ h.pl⟩
theorem ao7(ok:aH->Prop)(aK:∀Z,ok Z)(L:A)(Z:aH):∀(rs:aq Rn) (j:aq a4) (f:a4->a4) (x y:aw A),j.length+rs.length<=100000->(∀n,n∉j->f n=0) ->
  ∃N B,fD ok (rJ 2 (jM (gN 2) (jM (gN 3) sY))) XR (cL rs) [ao L,aD Z.length,x,y] (Z++[.cV (iM j f)])
   = dA [ao L,aD Z.length,N,B] (Z++[.cV (iM (pK j rs) λk=>f k+jB rs k)]):=by
 intro rs
 induction rs with
 |nil =>
  intro j f x y _ _;refine⟨x,y,?_⟩;have e:(λk=>f k+jB [] k)=f:=by funext k;simp[jB]
  simp only[cL,FP,xO (aK _),pK,List.foldl_nil,e]
 |cons r rs ih =>
  intro j f x y hl U;simp only[iZ]at hl;have i:=Wx j r.1
  let g:a4->a4:=λk=>if k=r.1 then f r.1+r.2 else f k
  obtain⟨N,B,q⟩:=ih (qS j r.1) g (aA r.1) (aA r.2) (by omega) (λn hn=>by
   rw[Wg]at hn;have h1:n∉j:=λz=>hn (.inl z);have h2:¬n=r.1:=λz=>hn (.inr z);simp only[g,h2,gH,U n h1])
  refine⟨N,B,?_⟩;have a:pS (Z++[.cV (iM j f)]) (.aE Z.length)=ao (Z.length,iM j f):=Kf (by simp);have hd:Xf (Z++[.cV (iM j f)]) (.aE Z.length):=⟨_,_,a⟩;have hv:(rA (iM j f) (.inl r.1)).getD (.int 0)=.int (f r.1):=by
   rw[Qm]
   by_cases h:r.1∈j
   ·simp[h]
   ·simp[h,U _ h]
  have c:tV (iM j f) (.inl r.1) (.int (f r.1+r.2))=iM (qS j r.1) g:=by
   have:=amS j f g r.1 λk _ d=>by simp[g,d]
   simpa[g]using this
  have b:(iM j f).length<bf:=by rw[rD];simp[iM];omega
  have st:XR [ao L,aD Z.length,aA r.1,aA r.2] (Z++[.cV (iM j f)])=dA [ao L,aD Z.length,aA r.1,aA r.2] (Z++[.cV (iM (qS j r.1) g)]):=by
   simp[XR,hd,a,xC,hv,b,c]
  show fD ok _ _ (rN r::cL rs) _ _=_;rw[nX (aK _) (Y0:=[ao L,aD Z.length,aA r.1,aA r.2]) (Z0:=Z++[.cV (iM j f)]) (by simp[rN]) st,q];have e:(λk=>g k+jB rs k)=λk=>f k+jB (r::rs) k:=by
   funext k;simp only[g,jB,dE,zO]
   by_cases h:k=r.1
   ·subst h;simp;omega
   ·have h':¬r.1=k:=λz=>h z.symm;simp[h,h']
  rw[e];rfl
def dR(rs:aq Rn):aq Rn:=(sortI (pK [] rs)).map λk=>(k,jB rs k)
theorem avF(j:aq a4)(f:a4->a4):intKeys (iM j f)=ao j:=by
 induction j with
 |nil=>rfl
 |cons k j ih =>
  simp only[iM,dE,intKeys]at ih ⊢;rw[ih];rfl
theorem aHR(rs:aq Rn)(hl:rs.length<=3900)(Z:aH):RF [.lst (cL rs)] Z=aG (.lst (cL (dR rs))) Z:=by
 obtain⟨B,z,q⟩:=ao7 (λZ'=>fX Z' (.lst (cL rs))=ao (cL rs)) (λ_=>rfl) (.lst (cL rs)) Z rs [] (λ_=>0) au au (by simp;omega) (λ_ _=>rfl);simp only[Int.zero_add]at q;have c:=Fj rs [];simp only[BZ,xU]at c;generalize i:pK [] rs=j at q c;have d:∀b,pS (Z ++ .cV (iM j λk=>jB rs k)::b) (.aE Z.length)=ao (Z.length,iM j λk=>jB rs k):=λb=>Kf (by simp);have h:=d [];have sl:=Sn j;have l:j.length<4000:=by omega
 have o:j.length<=bf:=by rw[rD];omega
 have comp:acJ [cA (cL rs),aD Z.length,B,z] (Z++[.cV (iM j λk=>jB rs k)])=aG (.lst (cL (dR rs))) (Z++[.cV (iM j λk=>jB rs k)]):=by
  have f:((sortI j).map A.int).filterMap (λa=>match a with | .int k=>ao (rN (k,jB rs k))|_=>au)=cL (dR rs):=by
   simp only[List.filterMap_map,cL,dR,i,xW];rw[<-List.filterMap_eq_map];rfl
  rw[<-f];refine Am (S:=srcOf (.lst ((sortI j).map A.int)) ((sortI j).map A.int)) _ (λU=>∃v,U=[v,aD Z.length]) (by simp[h,avF,l,sl]) (λ_=>rfl) ⟨au,rfl⟩ (by simp[sl];omega) ?_ (by
   show fK _ (List.filterMap _ ((sortI j).map A.int));rw[f];exact abV _ _)
  rintro x n U ⟨v,rfl⟩ g;obtain⟨k,p,rfl⟩:=oZ.mp n;have N:k∈j:=(sortI_perm j).mem_iff.mp p;have h2:(2:a6)<=bf:=by decide
  have hv:rA (iM j λk=>jB rs k) (.inl k)=(aA (jB rs k)):=by rw[Qm,a9 N]
  refine⟨[aA k,aD Z.length],⟨_,rfl⟩,by simp,.inl ⟨_,rfl,rfl,?_⟩⟩;have m:=d [.lst g];simp[m,xC,hv,h2,rN]
 show trim Z (iI (XS [cA (cL rs),au,au,au] Z))=_;have e:XS [cA (cL rs),au,au,au] Z=ao (.ret (.lst (cL (dR rs))),[cA (cL rs),aD Z.length,B,z],Z++[.cV (iM j λk=>jB rs k)]):=by
  unfold XS;rw[bY (Y1:=[cA (cL rs),aD Z.length,au,au]) (Z':=Z++[.cV []]) (by simp)];rw[bY (Y1:=[cA (cL rs),aD Z.length,B,z]) (Z':=Z++[.cV (iM j λk=>jB rs k)]) (by rw[tE (S:=srcOf (.lst (cL rs)) (cL rs)) (Z':=Z++[.cV []]) (by simp)];exact q)];simp[comp]
 rw[e];simp only[iI];exact LL (by simp only[Cl];exact abV _ _)
theorem aHS(rs:aq Rn)(hl:rs.length<=63)(Z:aH):RF [.lst (cL rs)] Z=aG (.lst (cL (dR rs))) Z:=aHR rs (by omega) Z
noncomputable def na:aq Rn->a4->a4->aw a4
 |[],_,_=>au
 |r::rs,af,p=>if p<=af+r.2 then ao r.1 else na rs (af+r.2) p
noncomputable def dH(ps:aq Rn):a4:=(ps.map (·.2)).sum
theorem Xh(m t:a4):∀{j:aq a4},j.Nodup->(j.map λk=>if m=k then t else 0).sum=if m∈j then t else 0
 |[],_=>by simp
 |k::j,h=>by
  obtain⟨h1,h2⟩:=FN.mp h;simp only[dE,zO,Xh m t h2]
  by_cases e:m=k
  ·subst e;simp[h1]
  ·simp[e]
theorem Sb(f g:a4->a4):∀j:aq a4,(j.map λk=>f k+g k).sum=(j.map f).sum+(j.map g).sum
 |[]=>by simp
 |k::j=>by simp only[dE,zO,Sb f g j];omega
theorem ahB(r:Rn)(rs:aq Rn)(k:a4):jB (r::rs) k=(if r.1=k then r.2 else 0)+jB rs k:=by simp[jB]
theorem Oo:∀j:aq a4,(j.map λ_=>(0:a4)).sum=0
 |[]=>rfl
 |_::j=>by simp only[dE,zO,Oo j];rfl
theorem Ay(P:a4->Prop) [DecidablePred P]{ps:aq a4}(hn:ps.Nodup):∀(rs:aq Rn),(∀r∈rs,(r.1∈ps<->P r.1))->(ps.map (jB rs)).sum=(rs.map λr=>if P r.1 then r.2 else 0).sum
 |[],_=>by
  have:jB []=λ_=>(0:a4):=by funext k;simp[jB]
  rw[this,Oo];rfl
 |r::rs,h=>by
  have e:(ps.map (jB (r::rs)))=ps.map λk=>(if r.1=k then r.2 else 0)+jB rs k:=QU λk _=>ahB r rs k;rw[e,Sb,Xh _ _ hn,Ay P hn rs λq j=>h q (iP _ j)];have:=h r rG;simp only[dE,zO]
  by_cases hm:r.1∈ps
  ·rw[a9 hm,a9 (this.mp hm)]
  ·rw[bb hm,bb λz=>hm (this.mpr z)]
theorem Fn(rs:aq Rn):(sortI (pK [] rs)).Pairwise (· < ·):=by
 have h1:=Sm (pK [] rs);have h2:(sortI (pK [] rs)).Nodup:=(sortI_perm _).nodup_iff.mpr (Xb rs List.nodup_nil);exact(List.Pairwise.and h1 h2).imp λ⟨a,b⟩=>by omega
theorem mem_keys(rs:aq Rn)(k:a4):k∈sortI (pK [] rs)<->∃r∈rs,r.1=k:=by
 rw[(sortI_perm _).mem_iff,Wf];simp
theorem Sd(rs:aq Rn)(j:aq a4):dH (j.map λk=>(k,jB rs k))=(j.map (jB rs)).sum:=by
 simp[dH,xW];rfl
theorem Aa(rs:aq Rn):dH (dR rs)=whole rs:=by
 unfold dR;rw[Sd,Ay (λ_=>True) ((Fn rs).imp λz=>Int.ne_of_lt z) rs λr hr=>⟨λ_=>trivial,λ_=>(mem_keys rs _).mpr ⟨r,hr,rfl⟩⟩];simp[whole]
theorem agO(rs:aq Rn)(j:a4):eG rs j=kO rs j+jB rs j:=by
 induction rs with
 |nil=>rfl
 |cons r rs ih =>
  simp only[eG,kO,jB,dE,zO]at ih ⊢;rw[ih]
  by_cases a:r.1<j
  ·have b:r.1<=j:=by omega
   have c:¬r.1=j:=by omega
   simp only[a,b,c,eT,gH];omega
  ·by_cases c:r.1=j
   ·have b:r.1<=j:=by omega
    simp only[a,b,c,eT,gH];simp;omega
   ·have b:¬r.1<=j:=by omega
    simp only[a,b,c,gH];omega
noncomputable def iH:a4->aq Rn->aq (Key×A)
 |_,[]=>[]
 |af,r::rs=>(.inl r.1,.tup [.int (af+1),.int (af+r.2)])::iH (af+r.2) rs
theorem Bk(a b:aq Rn):dH (a++b)=dH a+dH b:=by simp[dH]
theorem Uq:∀(as bs:aq Rn) (af:a4),iH af (as++bs)=iH af as++iH (af+dH as) bs
 |[],bs,af=>by simp[iH,dH]
 |a::as,bs,af=>by
  have e:dH (a::as)=a.2+dH as:=by simp[dH]
  simp only[QX,iH];rw[Uq as bs,e,Int.add_assoc]
theorem Dr:∀(as:aq Rn) (af:a4),(iH af as).map (·.1)=as.map λr=>(Sum.inl r.1:Key)
 |[],_=>rfl
 |a::as,af=>by simp only[iH,dE];rw[Dr as]
theorem anR(as:aq Rn)(af:a4):(iH af as).length=as.length:=by
 have:=c7 List.length (Dr as af);simpa using this
theorem amP{kvs:aq (Key×A)}{k:Key}{a:A}(h:k∉kvs.map (·.1)):tV kvs k a=kvs++[(k,a)]:=by
 unfold tV;rw[bb];intro j;rw[List.any_eq_true]at j;obtain⟨x,q,e⟩:=j;exact h (oZ.mpr ⟨x,q,by simpa using e⟩)
theorem Ul(ok:aH->Prop)(aK:∀Z,ok Z)(L:A)(Z:aH):∀(rest pre:aq Rn) (x y:aw A),((pre++rest).map (·.1)).Pairwise (· < ·)->pre.length+rest.length<=1000 ->
  ∃z j,fD ok (rJ 2 (jM (gN 3) (jM (gN 4) sY))) Kt (cL rest) [ao L,aD Z.length,aA (dH pre),x,y] (Z++[.cV (iH 0 pre)])
   = dA [ao L,aD Z.length,aA (dH (pre++rest)),z,j] (Z++[.cV (iH 0 (pre++rest))])
 |[],pre,x,y,_,_=>⟨x,y,by simp[cL,fD,aK]⟩
 |r::rest,pre,x,y,B,hl=>by
  have b:pre++r::rest=(pre++[r])++rest:=by simp
  have U:(Sum.inl r.1:Key)∉(iH 0 pre).map (·.1):=by
   rw[Dr];intro N;obtain⟨q,d,e⟩:=oZ.mp N;rw[zP,uT]at B;have:=B.2.2 q.1 (adP d) r.1 (by simp);have f:q.1=r.1:=by injection e
   omega
  have a:tV (iH 0 pre) (.inl r.1) (.tup [.int (dH pre+1),.int (dH pre+r.2)])=iH 0 (pre++[r]):=by
   rw[amP U,Uq];simp[iH]
  obtain⟨z,j,q⟩:=Ul ok aK L Z rest (pre++[r]) (aA r.1) (aA r.2) (by rw[<-b];exact B) (by simp at hl ⊢;omega);refine⟨z,j,?_⟩;rw[b,<-q];have N:pS (Z++[.cV (iH 0 pre)]) (.aE Z.length)=ao (Z.length,iH 0 pre):=Kf (by simp);have c:(iH 0 pre).length<bf:=by rw[anR,rD];simp only[iZ]at hl;omega
  have h2:(2:a6)<=bf:=by decide
  have es:dH (pre++[r])=dH pre+r.2:=by rw[Bk];simp[dH]
  have e:cL (r::rest)=rN r::cL rest:=rfl;rw[e,es];exact nX (aK _) (Y0:=[ao L,aD Z.length,aA (dH pre),aA r.1,aA r.2]) (Z0:=Z++[.cV (iH 0 pre)]) (by simp[rN]) (by simp[Kt,N,xC,c,a,h2])
theorem Ur(rs:aq Rn):((dR rs).map (·.1)).Pairwise (· < ·):=by
 have e:(dR rs).map (·.1)=sortI (pK [] rs):=by unfold dR;rw[List.map_map];exact List.map_id _
 rw[e];exact Fn rs
theorem Us(rs:aq Rn):(dR rs).length<=rs.length:=by
 have j:=Fj rs [];unfold dR;rw[jG,Sn];simpa using j
theorem aHP(rs:aq Rn)(hl:rs.length<=63)(Z:aH):RE [.lst (cL rs)] Z=aG (.aE Z.length) (Z++[.cV (iH 0 (dR rs))]):=by
 have N:=λZ=>aHS rs hl Z;have U:=Us rs;obtain⟨z,j,q⟩:=Ul (λZ'=>fX Z' (.lst (cL (dR rs)))=ao (cL (dR rs))) (λ_=>rfl) (.lst (cL rs)) Z (dR rs) [] au au (by simpa using Ur rs) (by simp;omega);simp only[wH]at q;have s0:dH []=0:=rfl;rw[s0]at q;have B:iH 0 []=[]:=rfl;rw[B]at q;show trim Z (iI (XQ [cA (cL rs),au,au,au,au] Z))=_;have e:XQ [cA (cL rs),au,au,au,au] Z=ao (.ret (.aE Z.length),[cA (cL rs),aD Z.length,aA (dH (dR rs)),z,j],Z++[.cV (iH 0 (dR rs))]):=by
  unfold XQ;rw[bY (Y1:=[cA (cL rs),aD Z.length,au,au,au]) (Z':=Z++[.cV []]) (by simp)];rw[bY (Y1:=[cA (cL rs),aD Z.length,aA 0,au,au]) (Z':=Z++[.cV []]) (by simp)];rw[bY (Y1:=[cA (cL rs),aD Z.length,aA (dH (dR rs)),z,j]) (Z':=Z++[.cV (iH 0 (dR rs))]) (by
   rw[tE (S:=srcOf (.lst (cL (dR rs))) (cL (dR rs))) (Z':=Z++[.cV []]) (by simp[bI,N])];exact q)]
  simp
 rw[e];simp[trim,Cl]
theorem Wl(ok:aH->Prop)(aK:∀Z,ok Z)(L:A)(Z:aH):∀(rs:aq Rn) (af:a4) (i:a6) (x y u:aw A),(∀r∈rs,1<=r.2)->af+whole rs<=1000000000 ->
  ∃B z N,fD ok (rJ 2 (jM (gN 2) (jM (gN 3) sY))) Kv (pQ i (cL rs)) [ao L,aA af,x,y,u] Z=dA [ao L,aA (af+whole rs),B,z,N] Z
 |[],af,i,x,y,u,_,_=>⟨x,y,u,by simp[cL,pQ,fD,aK,whole]⟩
 |r::rs,af,i,x,y,u,h,hl=>by
  have e:whole (r::rs)=r.2+whole rs:=by simp[whole]
  rw[e]at hl ⊢;have hr:=h r rG;have d:0<=whole rs:=by
   have:∀rs:aq Rn,(∀r∈rs,1<=r.2)->0<=whole rs:=by
    intro rs
    induction rs with
    |nil=>intro _;simp[whole]
    |cons a U ih =>
     intro h;have e:whole (a::U)=a.2+whole U:=by simp[whole]
     have:=h a rG;have:=ih λq j=>h q (iP _ j);omega
   exact this rs λq j=>h q (iP _ j)
  obtain⟨B,z,N,q⟩:=Wl ok aK L Z rs (af+r.2) (i+1) (aA i) (ao (rN r)) (aA r.2) (λq j=>h q (iP _ j)) (by omega);refine⟨B,z,N,?_⟩;rw[<-Int.add_assoc,<-q];have c:¬r.2<1:=by omega
  have b:¬1000000000<af+r.2:=by omega
  exact nX (aK Z) (Y0:=[ao L,aA af,aA i,ao (rN r),u]) (Z0:=Z) (by simp[rN]) (by simp[Kv,rN,c,b])
theorem aHW(rs:aq Rn)(h:∀r∈rs,1<=r.2)(hl:whole rs<=1000000000)(Z:aH):ZJ [.lst (cL rs)] Z=aG (.int (whole rs)) Z:=by
 obtain⟨z,j,B,q⟩:=Wl (λZ'=>dU Z' (.lst (cL rs))=ao (cL rs)) (λ_=>rfl) (.lst (cL rs)) Z rs 0 0 au au au h (by omega);rw[Int.zero_add]at q;show trim Z (iI (Kw [cA (cL rs),au,au,au,au] Z))=_;unfold Kw;rw[bY (Y1:=[cA (cL rs),aA 0,au,au,au]) (Z':=Z) (by simp)];rw[bY (Y1:=[cA (cL rs),aA (whole rs),z,j,B]) (Z':=Z) (by
  rw[tE (S:=enumSrc (.lst (cL rs)) (cL rs)) (Z':=Z) (by simp)];exact q)]
 simp
theorem Ds{R as bs:aq Rn}{r:Rn}(e:dR R=as++r::bs):dH as=kO R r.1/\dH as+r.2=eG R r.1/\r.1∈R.map (·.1):=by
 have a:=Fn R;have b:=e;unfold dR at b;obtain⟨N,n,q,m,l⟩:=List.map_eq_append_iff.mp b;obtain⟨j,B,rfl,i,_⟩:=List.map_eq_cons_iff.mp l;subst i;rw[q]at a;have c:∀k,k∈N++j::B<->∃r∈R,r.1=k:=λk=>by rw[<-q];exact mem_keys R k
 obtain⟨g,p2,f⟩:=uT.mp a;obtain⟨d,o⟩:=QT.mp p2;have nd:N.Nodup:=g.imp λz=>Int.ne_of_lt z;have U:dH as=kO R j:=by
  rw[<-m,Sd];refine Ay (λk=>k<j) nd R λr hr=>⟨λz=>f _ z _ rG,λz=>?_⟩
  rcases kL.mp ((c r.1).mpr ⟨r,hr,rfl⟩)with y|y
  ·exact y
  ·rcases dY.mp y with y|y
   ·omega
   ·have:=d _ y;omega
 have h:=agO R j;refine⟨U,by rw[U];exact h.symm,?_⟩;obtain⟨r,hr,e⟩:=(c j).mp (kK _ rG);exact oZ.mpr ⟨r,hr,e⟩
theorem Az{R:aq Rn}(h:∀r∈R,1<=r.2){r:Rn}(hr:r∈dR R):1<=r.2:=by
 obtain⟨i,bs,e⟩:=List.append_of_mem hr;obtain⟨h1,h2,U⟩:=Ds e;have hT:Tn R:=λq B=>by have:=h q B;omega
 obtain⟨q,B,g⟩:=oZ.mp U;have:kO R r.1<eG R r.1:=by
  have:∀(S:aq Rn),(∀q∈S,1<=q.2)->q∈S->kO S r.1<eG S r.1:=by
   intro S
   induction S with
   |nil=>intro _ z;cases z
   |cons x S ih =>
    intro hS hm;have N:Tn S:=λy j=>by have:=hS y (by simp[j]);omega
    obtain⟨d,c⟩:=vE x S r.1;rw[d,c];have f:=hS x (by simp)
    rcases dY.mp hm with z|z
    ·subst z;have:=SG N r.1;have b:¬q.1<r.1:=by omega
     have a:q.1<=r.1:=by omega
     rw[bb b,a9 a];omega
    ·have:=ih (λy j=>hS y (by simp[j])) z;split <;> split <;> omega
  exact this R h B
 omega
noncomputable def hX:a4->aq Rn->aq E
 |_,[]=>[]
 |af,r::rs=>(r.1,af+1,af+1)::((if af+1=af+r.2 then []else [(r.1,af+r.2,af+r.2)])++hX (af+r.2) rs)
theorem LP(r:Rn)(rs:aq Rn):dH (r::rs)=r.2+dH rs:=by simp[dH]
theorem Se:∀{ps:aq Rn},(∀r∈ps,1<=r.2)->0<=dH ps
 |[],_=>by simp[dH]
 |r::j,h=>by
  have:=Se (ps:=j) λq z=>h q (by simp[z]);have:=h r (by simp);rw[LP];omega
theorem Vn:∀(ps:aq Rn) (af:a4) (N:aw a4),(∀r∈ps,1<=r.2)->(ps.map (·.1)).Pairwise (· < ·)->(∀p,N=ao p->∀r∈ps,p<=r.1)->Ch 0 (af+dH ps) af af N (hX af ps)
 |[],af,N,_,_,_=>by simp[hX,Ch,dH]
 |r::z,af,N,h1,h2,U=>by
  have hr:=h1 r (by simp);rw[dE,QT]at h2;have ih:=Vn z (af+r.2) (ao r.1) (λq j=>h1 q (by simp[j])) h2.2 (λp B q j=>by
   cases B;have:=h2.1 q.1 (oZ.mpr ⟨q,j,rfl⟩);omega)
  have es:af+dH (r::z)=af+r.2+dH z:=by rw[LP];omega
  rw[es];unfold hX;refine⟨λp B=>U p B r (by simp),.inr (by show af+1<=af+0+1;omega),by show af<af+1;omega,by show af<af+1;omega,lJ _,by show af+1-(af+1)<=0;omega,?_⟩;show Ch 0 (af+r.2+dH z) (af+1) (af+1) (ao r.1) ((if af+1=af+r.2 then []else [(r.1,af+r.2,af+r.2)])++hX (af+r.2) z)
  by_cases j:af+1=af+r.2
  ·rw[a9 j,wH,j];exact ih
  ·rw[bb j];exact⟨λp B=>by cases B;exact lJ _,.inl rfl,by show af+1<af+r.2;omega,by show af+1<af+r.2;omega,lJ _,by show af+r.2-(af+r.2)<=0;omega,ih⟩
theorem Vl{R:aq Rn}(h:∀r∈dR R,1<=r.2):∀(ps as:aq Rn) (z:a4),dR R=as++ps->z<=dH as->Pl R z (hX (dH as) ps)
 |[],as,z,_,_=>trivial
 |r::q,as,z,e,B=>by
  obtain⟨h1,h2,N⟩:=Ds e;have hr:=h r (by rw[e];simp);have ih:=Vl h q (as++[r]) (dH as+r.2) (by rw[e];simp) (by rw[Bk,LP];simp[dH]);have es:dH (as++[r])=dH as+r.2:=by rw[Bk,LP];simp[dH]
  rw[es]at ih;unfold hX;refine⟨dH as+1,by omega,by show kO R r.1<dH as+1;omega,by show dH as+1<=eG R r.1;omega,lJ _,lJ _,?_⟩
  by_cases j:dH as+1=dH as+r.2
  ·rw[a9 j,wH];exact ih.low (by omega)
  ·rw[bb j];exact⟨dH as+r.2,by omega,by show kO R r.1<dH as+r.2;omega,by show dH as+r.2<=eG R r.1;omega,lJ _,lJ _,ih⟩
theorem Eb:∀(ps:aq Rn) (af:a4),(∀r∈ps,1<=r.2)->((hX af ps).length:a4)<=dH ps
 |[],af,_=>by simp[hX,dH]
 |r::z,af,h=>by
  have ih:=Eb z (af+r.2) λq j=>h q (by simp[j]);have hr:=h r (by simp);rw[LP];unfold hX
  by_cases j:af+1=af+r.2
  ·rw[a9 j];simp only[wH,iZ];omega
  ·rw[bb j];simp only[QX,wH,iZ];omega
theorem Vm:∀(ps:aq Rn) (af:a4),∀e∈hX af ps,e.1∈ps.map (·.1)
 |[],_,e,h=>by simp[hX]at h
 |r::j,af,e,h=>by
  unfold hX at h
  rcases dY.mp h with z|z
  ·rw[z];simp
  ·rcases kL.mp z with y|y
   ·split at y
    ·simp at y
    ·simp at y;rw[y];simp
   ·have:=Vm j _ e y;rw[dE];exact iP _ this
def lM(R:aq Rn):Po:=⟨whole R,0,0,hX 0 (dR R)⟩
theorem OK{R:aq Rn}(h:∀r∈R,1<=r.2):Gd R (lM R):=by
 have q:∀r∈dR R,1<=r.2:=λr hr=>Az h hr;have z:=Aa R;refine⟨λr hr=>by have:=h r hr;omega,⟨?_,lJ _,lJ _,?_,?_⟩,rfl,?_⟩
 ·show 0<=whole R;rw[<-z];exact Se q
 ·intro e r he;have j:hX 0 (dR R)=e::r:=he;cases B:dR R with
  |nil=>rw[B]at j;cases j
  |cons a b =>
   rw[B]at j;unfold hX at j;cases j;exact⟨rfl,rfl⟩
 ·have:=Vn (dR R) 0 au q (Ur R) (λp q=>by cases q);rw[Int.zero_add,z]at this;exact this
 ·exact Vl q (dR R) [] 0 rfl IE
theorem ap5(x0:aw A)(f:a6)(k a b:a4)(done:aq A)(hd:done.length<=1000)(Z:aH)(B:Z[f]?=ao (.lst done)) :
  XT [x0,aD f,aA k,ao (.tup [.int a,.int b])] Z=dA [x0,aD f,aA k,ao (.tup [.int a,.int b])] (Z.set f (.lst (done++dM (k,a,a)::(if a=b then []else [dM (k,b,b)])))):=by
 have fl:f<Z.length:=(cY.mp B).1;have cl:qR Z (.aE f)=ao (f,done):=zM B;have g:vM Z (.aE f):=yY (kX B);have N:(3:a6)<=bf:=by decide
 have h:done.length<bf:=by rw[rD];omega
 unfold XT;have d:(Z.set f (.lst (done++[dM (k,a,a)])))[f]?=ao (.lst (done++[dM (k,a,a)])):=eV fl;rw[bY (Y1:=[x0,aD f,aA k,ao (.tup [.int a,.int b])]) (Z':=Z.set f (.lst (done++[dM (k,a,a)]))) (by simp[cl,g,h,N,dM,YD])];have j:qR (Z.set f (.lst (done++[dM (k,a,a)]))) (.aE f)=ao (f,done++[dM (k,a,a)]):=zM d;have c:vM (Z.set f (.lst (done++[dM (k,a,a)]))) (.aE f):=yY (kX d);have q:done.length+1<bf:=by rw[rD];omega
 generalize U:Z.set f (.lst (done++[dM (k,a,a)]))=e at j c
 by_cases z:a=b
 ·subst z;simp[YD,Lo,<-U]
 ·have eX:¬(a==b)=a5:=by simpa using z
  simp[YD,Lo,z,j,c,q,N,dM];rw[<-U,BW]
theorem Vj(ok:aH->Prop)(aK:∀Z,ok Z)(x0:aw A)(Z:aH)(D:Cell):∀(ps:aq Rn) (af:a4) (done:aq A) (B z:aw A),done.length+2*ps.length<=1000 ->
  ∃a U,fD ok (rJ 2 (jM (gN 2) (jM (gN 3) sY))) XT ((iH af ps).map NC) [x0,aD Z.length,B,z] (Z++[.lst done,D])=dA [x0,aD Z.length,a,U] (Z++[.lst (done++encL (hX af ps)),D])
 |[],af,done,B,z,_=>⟨B,z,by simp[iH,fD,aK,hX,encL]⟩
 |r::j,af,done,B,z,hl=>by
  have e:done.length+2*(j.length+1)<=1000:=hl;have t:=ap5 x0 Z.length r.1 (af+1) (af+r.2) done (by omega) (Z++[.lst done,D]) (by simp);have hd2:(done++dM (r.1,af+1,af+1)::(if af+1=af+r.2 then []else [dM (r.1,af+r.2,af+r.2)])).length<=done.length+2:=by
   split <;> simp
  obtain⟨a,U,q⟩:=Vj ok aK x0 Z D j (af+r.2) (done++dM (r.1,af+1,af+1)::(if af+1=af+r.2 then []else [dM (r.1,af+r.2,af+r.2)])) (aA r.1) (ao (.tup [.int (af+1),.int (af+r.2)])) (by omega);refine⟨a,U,?_⟩;have es:(Z++[Cell.lst done,D]).set Z.length (.lst (done++dM (r.1,af+1,af+1)::(if af+1=af+r.2 then []else [dM (r.1,af+r.2,af+r.2)])))=Z++[.lst (done++dM (r.1,af+1,af+1)::(if af+1=af+r.2 then []else [dM (r.1,af+r.2,af+r.2)])),D]:=by simp
  rw[es]at t;have b:done++encL (hX af (r::j))=(done++dM (r.1,af+1,af+1)::(if af+1=af+r.2 then []else [dM (r.1,af+r.2,af+r.2)]))++encL (hX (af+r.2) j):=by
   have c:hX af (r::j)=(r.1,af+1,af+1)::((if af+1=af+r.2 then []else [(r.1,af+r.2,af+r.2)])++hX (af+r.2) j):=rfl;rw[c];generalize hX (af+r.2) j=d
   by_cases N:af+1=af+r.2
   ·rw[a9 N,a9 N];simp[encL]
   ·rw[bb N,bb N];simp[encL]
  rw[b,<-q];simp only[iH,dE];refine nX (aK _) (Y0:=[x0,aD Z.length,aA r.1,ao (.tup [.int (af+1),.int (af+r.2)])]) (Z0:=Z++[.lst done,D]) ?_ t;simp[NC,kA]
theorem aHT(R:aq Rn)(h:∀r∈R,1<=r.2)(hl:R.length<=63)(c:whole R<=1000000000)(Z:aH):RG [.lst (cL R)] Z=aG (qQ (whole R) 0 0 (hX 0 (dR R))) Z:=by
 have pl:=aHP R hl (Z++[.lst []]);have pn:=Us R;obtain⟨N,B,q⟩:=Vj (λ_=>True) (λ_=>trivial) (ao (.lst (cL R))) Z .dead (dR R) 0 [] au au (by simp;omega);have b:(4:a6)<=bf:=by decide
 show trim Z (iI (XU [cA (cL R),au,au,au] Z))=_;have e:XU [cA (cL R),au,au,au] Z=ao (.ret (qQ (whole R) 0 0 (hX 0 (dR R))),[cA (cL R),aD Z.length,N,B],Z++[.dead,.dead]):=by
  have z:=aHW R h c (Z++[.lst (encL (hX 0 (dR R))),.dead]);unfold XU;rw[bY (Y1:=[cA (cL R),aD Z.length,au,au]) (Z':=Z++[.lst []]) (by simp[rF])];rw[bY (Y1:=[cA (cL R),aD Z.length,N,B]) (Z':=Z++[.lst (encL (hX 0 (dR R))),.dead]) (by
   rw[tE (S:=NB (iH 0 (dR R))) (Z':=Z++[.lst [],.dead]) (by
    generalize cL R=U at pl;have f:pS (Z++[Cell.lst [],Cell.cV (iH 0 (dR R))]) (.aE (Z.length+1))=ao (Z.length+1,iH 0 (dR R)):=by simp[pS]
    have j:RE [.lst U] (Z++[Cell.lst []])=aG (.aE (Z.length+1)) (Z++[Cell.lst [],.cV (iH 0 (dR R))]):=by
     rw[pl];simp
    simp[bI,j,f])]
   rw[wH]at q;exact q)]
  unfold qQ;generalize encL (hX 0 (dR R))=U at z;generalize cL R=g at z;simp[bI,z,b]
 rw[e];simp only[tX];exact LL (by
  simp only[qQ,Cl,fK,and_true,true_and];exact ER λa d=>by
   obtain⟨e,_,rfl⟩:=oZ.mp d;simp[dM,Cl,fK])
noncomputable def L2S(l:aq a6):ba:=⟨l.toArray⟩
@[simp] theorem aK8(l:aq a6):(L2S l).cps.toList=l:=rfl
noncomputable def σ(c:a6):aq (aq a6)->aq a6
 |[]=>[]
 |x::r=>x++r.flatMap λy=>c::y
open Classical in
theorem CY{α:Type}{n:a6}{js:aq a6}{fi:Ev->Mo Src}{g:A->MS}{e:Ev->Mo A}{Y:Ev}{Z Z0:aH}{S:Src}(xs:aq α)(enc ae:α->A)(P:Ev->Prop)(inj:∀x y,enc x=enc y->ae x=ae y)
  (h0:fi Y Z=aG S Z0) (aK:∀ys,S.ok (Z0++[.lst ys])) (hP:P (nT n js Y)) (hS:S.ds=xs.map enc) (hl:xs.length<=1000000)
  (step:∀x∈xs,∀Y,P Y->∀ys,∃Y1,P Y1/\g (enc x) Y (Z0++[.lst ys])=dA Y1 (Z0++[.lst ys])/\e Y1 (Z0++[.lst ys])=aG (ae x) (Z0++[.lst ys]))
  (hc:∀x∈xs,Cl Z0.length (ae x)):mT ax n js fi g sC e Y Z=aG (.lst (xs.map ae)) Z0:=by
 let F:A->aw A:=λa=>if h:∃x,x∈xs/\enc x=a then ao (ae (Classical.choose h))else au
 have hF:∀x∈xs,F (enc x)=ao (ae x):=λx hx=>by
  have h:∃y,y∈xs/\enc y=enc x:=⟨x,hx,rfl⟩;show(if h:∃y,y∈xs/\enc y=enc x then ao (ae (Classical.choose h))else au)=_;rw[JA h,inj _ _ (CM h).2]
 have ef:∀l:aq α,(∀x∈l,x∈xs)->(l.map enc).filterMap F=l.map ae:=by
  intro l
  induction l with
  |nil=>intro _;rfl
  |cons x r ih =>
   intro h;simp only[dE,zR,hF x (h x (by simp)),ih λy hy=>h y (by simp[hy])]
 have q:=Am (n:=n) (js:=js) (fi:=fi) (g:=g) (c:=sC) (e:=e) (Y:=Y) (Z:=Z) (Z0:=Z0) (S:=S) F P h0 aK hP (by rw[hS];simpa using hl) (λx hx Y hp ys=>by
  rw[hS]at hx;obtain⟨y,hy,rfl⟩:=oZ.mp hx;obtain⟨Y1,h1,h2,h3⟩:=step y hy Y hp ys;exact⟨Y1,h1,h2,.inl ⟨ae y,hF y hy,by simp[sC],h3⟩⟩) (by
  rw[hS,ef xs λ_ h=>h];exact ER λa ha=>by obtain⟨x,hx,rfl⟩:=oZ.mp ha;exact hc x hx)
 rw[hS,ef xs λ_ h=>h]at q;exact q
theorem aAZ(N:az)(g:A->Mo A)(a:A)(Z:aH)(ds:aq A)(m:a6)(h1:fX Z a=ao ds)(w:∀i d,ds[i]?=ao d->g d Z=aG (.bl (decide (m<=i))) Z):∀(k fuel st z:a6) (x:aw A),z-st<=k->k<fuel->st<=m->m<=z->z<=ds.length ->
  ∃U,qP (EX N g) (PX N g) fuel [ao a,ao (.adr N),aA st,aA z,x] Z=dA [ao a,ao (.adr N),aA m,aA m,U] Z:=by
 intro k
 induction k with
 |zero =>
  intro fuel st z x u v h2 o l;obtain⟨fuel,rfl⟩:∃n,fuel=n+1:=⟨fuel-1,by omega⟩;have e:st=m:=by omega
  have c:z=m:=by omega
  subst e c;exact⟨x,by rw[aa0 (Z1:=Z) (by simp[EX])]⟩
 |succ k ih =>
  intro fuel st z x u v h2 o l;obtain⟨fuel,rfl⟩:∃n,fuel=n+1:=⟨fuel-1,by omega⟩
  by_cases y:st<z
  ·have p:(st:a4)<(z:a4):=by omega
   have hd2:∀j,mL j 2:=λj=>⟨by decide,by decide⟩
   obtain⟨B,t⟩:∃B:a6,B=(st+z)/2:=⟨_,rfl⟩;have f:((st:a4)+(z:a4))/2=(B:a4):=by omega
   have r:B<ds.length:=by omega
   have s:fU ds (B:a4)=ao ds[B]:=by rw[vZ,fF r]
   have b:=w B _ (fF r);have h:(bN (aC (iL) (aC bV bH dJ) jR) (gN 4)) [ao a,ao (.adr N),aA st,aA z,x] Z=dA [ao a,ao (.adr N),aA st,aA z,aA B] Z:=by
    simp[hd2,f]
   by_cases hm:m<=B
   ·obtain⟨U,q⟩:=ih fuel st B (aA B) (by omega) (by omega) h2 hm (by omega);refine⟨U,?_⟩;rw[<-q];refine aaZ (Z1:=Z) (by simp[EX,p]) ?_;rw[vT hm]at b;unfold PX;rw[bY h];simp[h1,s,b]
   ·obtain⟨U,q⟩:=ih fuel (B+1) z (aA B) (by omega) (by omega) (by omega) o l;refine⟨U,?_⟩;rw[<-q];refine aaZ (Z1:=Z) (by simp[EX,p]) ?_;rw[nY hm]at b;unfold PX;rw[bY h];simp[h1,s,b]
  ·have e:st=m:=by omega
   have c:z=m:=by omega
   subst e c;exact⟨x,by rw[aa0 (Z1:=Z) (by simp[EX])]⟩
theorem aAY(j:az)(g:A->Mo A)(a:A)(Z:aH)(r:Rs A×aH)(h:tY (vR g a) Z=ao r):dP 5 (PY j g) [a,.adr j] Z=ao r:=by
 have h':vR g a Z=ao r:=by
  simp only[tY]at h
  revert h
  cases e:vR g a Z with
  |none=>intro h;cases h
  |some r0 =>
   obtain⟨x,Z'⟩:=r0;cases x with
   |ok b=>intro h;exact h
   |exc b=>intro h;cases h
 obtain⟨ds,m,h1,h2,U,N,rfl⟩:=aA0 h';obtain⟨B,q⟩:=aAZ j g a Z ds m h1 N ds.length 1000000 0 ds.length au (by omega) (by omega) (by omega) h2 cJ;simp only[Int.natCast_zero]at q;show trim Z (iI (PY j g [ao a,ao (.adr j),au,au,au] Z))=_;unfold PY;rw[bY (Y1:=[ao a,ao (.adr j),aA 0,au,au]) (Z':=Z) (by simp)];rw[bY (Y1:=[ao a,ao (.adr j),aA 0,aA ds.length,au]) (Z':=Z) (by simp[h1])];rw[bY (Y1:=[ao a,ao (.adr j),aA m,aA m,B]) (Z':=Z) (f:=λz Z=>qP (EX j g) (PX j g) ((λ_ _=>1000000) z Z) z Z) q];simp
abbrev Nf(xs:aq E):Prop:=xs.Pairwise λa b=>a.1<=b.1
theorem Ke{l s:a4}:∀{es:aq E} {lo q:a4} {B:aw a4},Ch l s lo q B es->Nf es/\(∀e∈es,lo<e.2.1)/\(∀p,B=ao p->∀e∈es,p<=e.1)/\es.Pairwise (λa b=>a.2.1<b.2.1)
 |[],_,_,_,_=>⟨.nil,by simp,by simp,.nil⟩
 |e::r,lo,q,B,h=>by
  obtain⟨h1,_,U,_,_,_,N⟩:=h;obtain⟨a,b,c,d⟩:=Ke N;refine⟨QT.mpr ⟨λx j=>c e.1 rfl x j,a⟩,λx j=>?_,λp q x j=>?_,QT.mpr ⟨b,d⟩⟩
  ·rcases dY.mp j with z|z
   ·subst z;exact U
   ·have:=b x z;omega
  ·rcases dY.mp j with z|z
   ·subst z;exact h1 p q
   ·have:=h1 p q;have:=c e.1 rfl x z;omega
theorem aEA(n:a6)(p:Po):Cl n (aL p):=aH8 n _ _ _ _
theorem aHY(s l d:a4)(ent:A)(es:aq E)(i:a6)(Z:aH)(j:fX Z ent=ao (encL es))(h:i<=es.length):GC [.tup [.int s,.int l,.int d,ent],.int i] Z=aG (.tup [.int (mZ es i),.int (nC s es i)]) Z:=by
 have h2:(2:a6)<=bf:=by decide
 by_cases z:i=0
 ·subst z
  by_cases h1:es=[]
  ·subst h1;simp[GC,PZ,j,encL,mZ,nC,h2]
  ·have hl:0<es.length:=List.length_pos_iff.mpr h1;have B:fU (encL es) 0=ao (dM es[0]):=by rw[show(0:a4)=((0:a6):a4)by rfl,vZ,OX,fF hl];rfl
   simp[GC,PZ,j,B,hl,mZ,nC,dM,h2]
 ·have N:i-1<es.length:=by omega
  have q:0<i:=by omega
  have U:fU (encL es) ((i:a4)-1)=ao (dM es[i-1]):=by rw[aGD _ _ q,OX,fF N];rfl
  by_cases hl:i<es.length
  ·have B:fU (encL es) (i:a4)=ao (dM es[i]):=by rw[vZ,OX,fF hl];rfl
   simp[GC,PZ,j,U,B,hl,q,mZ,nC,dM,z,h2,N]
  ·have:i=es.length:=by omega
   subst this;simp[GC,PZ,j,U,q,mZ,nC,dM,z,h2,N]
theorem Vx{p:E->br}:∀{es:aq E},es.Pairwise (λa b=>p a=a5->p b=a5)->∃m,m<=es.length/\∀(i:a6) (e:E),es[i]?=ao e->p e=decide (m<=i)
 |[],_=>⟨0,rV _,λi e h=>by simp at h⟩
 |x::z,h=>by
  obtain⟨h1,h2⟩:=QT.mp h;cases j:p x with
  |true =>
   refine⟨0,BR _,λi e he=>?_⟩;cases i with
   |zero=>simp at he;subst he;simp[j]
   |succ i=>simp at he;simp[h1 e (mJ he) j]
  |false =>
   obtain⟨m,hm,q⟩:=Vx h2;refine⟨m+1,by simp;omega,λi e he=>?_⟩;cases i with
   |zero=>simp at he;subst he;simp[j]
   |succ i =>
    simp at he;rw[q i e he];simp
noncomputable def ah(x:a4)(j:br)(e:E):br:=decide (e.1<x)||(j&&decide (e.1=x))
theorem aDR{s l d:a4}{es:aq E}(h:GF s l d es)(x:a4)(j:br):∃m,m<=es.length/\∀(i:a6) (e:E),es[i]?=ao e->(!ah x j e)=decide (m<=i) :=
 Vx (p:=λe=>!ah x j e) ((Ke h.ch).1.imp λ{a b} q z=>by
  have B:a.1<=b.1:=q;cases j <;> simp[ah]at z ⊢ <;> omega)
def At(R:aq Rn)(e:E)(p:a4):Prop:=kO R e.1<p/\p<=eG R e.1/\e.2.1<=p/\p<=e.2.2
theorem Um{R:aq Rn}:∀{es:aq E} {z:a4},Pl R z es->∃ps:aq a4,ps.length=es.length/\(∀p∈ps,z<p)/\ps.Pairwise (· < ·)/\∀(i:a6) (e:E),es[i]?=ao e->∃p,ps[i]?=ao p/\At R e p
 |[],_,_=>⟨[],rfl,(λ_ h=>by cases h),List.Pairwise.nil,(λi e h=>by simp at h)⟩
 |e::r,z,⟨p,h,c,b,a,U,N⟩=>by
  obtain⟨ps,l,B,k,g⟩:=Um N;refine⟨p::ps,by simp[l],λq j=>?_,QT.mpr ⟨λq j=>B q j,k⟩,λi f he=>?_⟩
  ·rcases dY.mp j with x|x
   ·rw[x];exact h
   ·have:=B q x;omega
  ·cases i with
   |zero=>simp at he;subst he;exact⟨p,rfl,c,b,a,U⟩
   |succ i=>obtain⟨d,b1,b2⟩:=g i f (by simpa using he);exact⟨d,by simpa using b1,b2⟩
theorem Uo{R:aq Rn}{es:aq E}{z:a4}(h:Pl R z es){i:a6}{e:E}(he:es[i]?=ao e):∃p,z<p/\At R e p:=by
 obtain⟨B,_,q,_,j⟩:=Um h;obtain⟨p,b1,b2⟩:=j i e he;exact⟨p,q p (mJ b1),b2⟩
def zL(R:aq Rn)(x:a4)(j:br):a4:=if j then eG R x else kO R x
theorem bnd{R:aq Rn}{p:Po}(h:Gd R p)(x:a4)(j:br)(m:a6)(hm:m<=p.es.length)(B:∀(i:a6) (e:E),p.es[i]?=ao e->(!ah x j e)=decide (m<=i)) :
  mZ p.es m<=zL R x j/\zL R x j<=nC p.s p.es m/\0<=mZ p.es m:=by
 have hl:∀(i:a6) (e:E),p.es[i]?=ao e->i<m->eG R e.1<=zL R x j:=λi e he hi=>by
  have:=B i e he;have h2:decide (m<=i)=ax:=by simp;omega
  rw[h2]at this;unfold zL;cases j with
  |true =>
   have:e.1<=x:=by simp[ah]at this;omega
   simp only[eT];exact Qt h.tn this
  |false =>
   have:e.1<x:=by simp[ah]at this;omega
   simp only[jW,gH];exact Au h.tn this
 have hh:∀(i:a6) (e:E),p.es[i]?=ao e->m<=i->zL R x j<=kO R e.1:=λi e he hi=>by
  have:=B i e he;have h2:decide (m<=i)=a5:=by simp;omega
  rw[h2]at this;unfold zL;cases j with
  |true =>
   have:x<e.1:=by simp[ah]at this;omega
   simp only[eT];exact Au h.tn this
  |false =>
   have:x<=e.1:=by simp[ah]at this;omega
   simp only[jW,gH];exact Qy h.tn this
 have N:0<=zL R x j:=by
  unfold zL;split
  ·exact ZC (Av h.tn x) (SG h.tn x)
  ·exact Av h.tn x
 refine⟨?_,?_,?_⟩
 ·cases m with
  |zero=>simpa[mZ]using N
  |succ m =>
   rw[Fc _ _ (by omega)];obtain⟨q,_,b1,b2,a,U⟩:=Uo h.pl (fF (show m<p.es.length by omega));have:=hl m _ (fF (by omega)) (by omega);omega
 ·by_cases z:m<p.es.length
  ·rw[Yy _ _ _ z];obtain⟨q,_,b1,b2,a,U⟩:=Uo h.pl (fF z);have:=hh m _ (fF z) cJ;omega
  ·have e:m=p.es.length:=by omega
   rw[e,Yz,h.sz];unfold zL;split
   ·exact As h.tn x
   ·exact ZC (SG h.tn x) (As h.tn x)
 ·cases m with
  |zero=>simp[mZ]
  |succ m =>
   rw[Fc _ _ (by omega)];have:=(PM _ _ _ _ h.gf.ch _ (QV (show m<p.es.length by omega))).2.1;omega
theorem aDP{s l d:a4}{es:aq E}(h:GF s l d es)(x:a4)(B:br)(m:a6)(hm:m<=es.length)(c:∀(i:a6) (e:E),es[i]?=ao e->(!ah x B e)=decide (m<=i)) :
  nC s es m-mZ es m<=l/\0<=mZ es m/\0<=nC s es m:=by
 have hl:=h.l0;have n:=h.s0;cases m with
 |zero =>
  have h1:mZ es 0=0:=rfl;rw[h1];cases es with
  |nil =>
   have:=(aaG h).mpr rfl;have h2:nC s [] 0=s:=rfl;rw[h2];omega
  |cons e r =>
   have f:=(h.fst e r rfl).2;have h2:nC s (e::r) 0=e.2.2-1:=rfl;rw[h2];omega
 |succ k =>
  have q:k<es.length:=by omega
  rw[Fc es k q];obtain⟨C,A,p,o⟩:=ab0 es 0 0 au k es[k] h.ch (fF q);have t:0<es[k].2.1:=((Ke h.ch).2.1 es[k] (QV q))
  by_cases N:k+1<es.length
  ·rw[Yy s es (k+1) N];obtain⟨y,f2,w,g⟩:=o es[k+1] (fF N);rw[DP]at g;have a:=c k es[k] (fF q);have U:=c (k+1) es[k+1] (fF N);have b:ah x B es[k]=a5:=by
    have:¬k+1<=k:=by omega
    rw[nY this]at a;simpa using a
   have j:ah x B es[k+1]=ax:=by
    rw[vT cJ]at U;simpa using U
   have eX:es[k+1].1≠es[k].1:=λz=>by
    unfold ah at b j;rw[z]at j;rw[b]at j;cases j
   rcases g with z|z
   ·exact b7 z eX
   ·omega
  ·have e:k+1=es.length:=by omega
   rw[e,Yz];obtain⟨v,u⟩:=p e;omega
noncomputable def unit(ns:aq a4):aq Rn:=ns.map λn=>(n,1)
theorem CZ:∀ns:aq a4,whole (unit ns)=ns.length
 |[]=>rfl
 |n::ns=>by
  have:=CZ ns;simp only[unit,whole,dE,zO,iZ]at this ⊢;rw[this];push_cast;omega
theorem AG(ns:aq a4):∀r∈unit ns,1<=r.2:=λr hr=>by
 obtain⟨n,_,rfl⟩:=oZ.mp hr;exact lJ _
theorem agP(ns:aq a4):(unit ns).length=ns.length:=by simp[unit]
theorem adK(ns:aq a4)(hl:ns.length<=63)(a:A)(Z:aH)(z:∀B,fX (Z++B) a=ao (ns.map A.int)):rY [a] Z=aG (aL (lM (unit ns))) Z:=by
 have b:fX Z a=ao (ns.map A.int):=by have:=z [];simpa using this
 have q:acI [ao a] Z=aG (.lst (cL (unit ns))) Z:=by
  have e:cL (unit ns)=ns.map λn=>A.tup [.int n,.int 1]:=by simp[cL,unit,rN]
  rw[e];exact CY (n:=1) (js:=[]) (fi:=gW aM) (g:=gN 0) (Y:=[ao a]) (Z:=Z) (Z0:=Z) (S:=srcOf a (ns.map A.int)) ns (λn=>A.int n) (λn=>A.tup [.int n,.int 1]) (λY=>∃y,Y=[y]) (λx y e=>by cases e;rfl)
   (by simp[b]) (λN=>z _) ⟨au,by simp[nT]⟩ rfl (by omega) (λn hn Y U N=>by
    obtain⟨y,rfl⟩:=U;have h2:(2:a6)<=bf:=by decide
    exact⟨[aA n],⟨_,rfl⟩,by simp,by simp[h2]⟩) (λx _=>by simp[Cl,fK])
 have r:=aHT (unit ns) (AG ns) (by rw[agP];omega) (by rw[CZ];omega) Z;show trim Z (iI (Ks [ao a] Z))=_;have j:RG [.lst (cL (unit ns))] Z=aG (aL (lM (unit ns))) Z:=r;generalize aL (lM (unit ns))=P at j;generalize cL (unit ns)=c at q j;simp[Ks,q,bI,j]
def AH(s:a4)(es:aq E)(j:a6):a4:=if j=0 then 0 else(mZ es j+nC s es j)/2
def vK(s:a4)(es:aq E):a6->aq E->aq Rn
 |_,[]=>[]
 |k,e::r=>(e.1,AH s es (k+1)-AH s es k)::vK s es (k+1) r
def Ep(s:a4)(es:aq E):aq Rn:=vK s es 0 es
theorem abZ{l s:a4}:∀{es:aq E} {lo z:a4} {q:aw a4},Ch l s lo z q es->∀e,es[es.length-1]?=ao e->e.2.1=s
 |[],_,_,_,_,e,he=>by simp at he
 |[f],_,_,_,h,e,he=>by
  obtain⟨_,_,_,_,_,_,j⟩:=h;simp at he;subst he;exact j.1
 |f::g::r,_,_,_,h,e,he=>by
  obtain⟨_,_,_,_,_,_,j⟩:=h;exact abZ j e (by simpa using he)
theorem Vy(s:a4)(es:aq E):∀(rest:aq E) (k:a6),whole (vK s es k rest)=AH s es (k+rest.length)-AH s es k
 |[],k=>by simp[vK,whole]
 |e::rest,k=>by
  have ih:=Vy s es rest (k+1);have j:whole (vK s es k (e::rest))=(AH s es (k+1)-AH s es k)+whole (vK s es (k+1) rest):=by simp[vK,whole]
  rw[j,ih,iZ,show k+1+rest.length=k+(rest.length+1)by omega];omega
theorem ar2{R:aq Rn}{p:Po}(h:Gd R p):whole (Ep p.s p.es)=p.s:=by
 have e:=Vy p.s p.es p.es 0;show whole (vK p.s p.es 0 p.es)=_;rw[e,xU];have N:AH p.s p.es 0=0:=rfl;rw[N];unfold AH;cases B:p.es with
 |nil =>
  have:=h.gf.ch;rw[B]at this;have z:(0:a4)=p.s/\_:=this;simp;omega
 |cons f r =>
  have hn:¬(f::r).length=0:=by simp
  rw[bb hn];have hh:nC p.s (f::r) (f::r).length=p.s:=by simp[nC]
  have U:(f::r).length-1<(f::r).length:=by simp
  have j:(f::r)[(f::r).length-1]?=ao (f::r)[(f::r).length-1]:=fF U;have q:=h.gf.ch;rw[B]at q;have hl:=abZ q _ j;have lo:mZ (f::r) (f::r).length=p.s:=by
   unfold mZ;rw[bb hn,j];exact hl
  rw[hh,lo];omega
theorem Vz(s:a4)(es:aq E):∀(rest:aq E) (k:a6),(vK s es k rest).length=rest.length
 |[],_=>rfl
 |_::rest,k=>by simp[vK,Vz s es rest (k+1)]
open PySem PyProof L2 V2
theorem aHU(c k:a4)(g:0<=c)(f:c<8589934592):∃n,∀Z,rZ [.int c,.int k] Z=aG (.int n) Z:=by
 have h1:∀j,kM c j:=λj=>JD (by omega) (by omega);have h2:∀j,kM 2 j:=λj=>JD (by decide) (by decide);have d:∀j,kM j 48271:=λj=>Ka (by decide) (by decide);have b:CN 10 18:=⟨by decide,by decide,by decide⟩;have U:CN 10 59:=⟨by decide,by decide,by decide⟩;have N:CN 10 60:=⟨by decide,by decide,by decide⟩;have hd:∀j,mL j 14:=λj=>⟨by decide,by decide⟩
 have B:(4:a6)<=bf:=by decide
 have a:(3:a6)<=bf:=by decide
 by_cases z:k=0
 ·exact⟨c%7,λZ=>by simp[rZ,vY,z]⟩
 by_cases k1:k=1
 ·exact⟨c%100-50,λZ=>by simp[rZ,vY,k1]⟩
 by_cases k2:k=2
 ·exact⟨c*c*48271%(2*10 ^ 18+1)-10 ^ 18,λZ=>by simp[rZ,vY,k2,h1,h2,d,b]⟩
 by_cases q:k=3
 ·have hm:c%4=0\/c%4=1\/c%4=2\/c%4=3:=by omega
  rcases hm with e|e|e|e
  ·exact⟨10 ^ 59+c,λZ=>by simp[rZ,vY,q,e,U,N,B]⟩
  ·exact⟨0-10 ^ 59-c,λZ=>by simp[rZ,vY,q,e,U,N,B]⟩
  ·exact⟨10 ^ 60-1,λZ=>by simp[rZ,vY,q,e,U,N,B]⟩
  ·exact⟨1-10 ^ 60,λZ=>by simp[rZ,vY,q,e,U,N,B]⟩
 ·have hm:c%30/14=0\/c%30/14=1\/c%30/14=2:=by omega
  rcases hm with e|e|e
  ·exact⟨5,λZ=>by simp[rZ,vY,z,k1,k2,q,e,hd,a]⟩
  ·exact⟨0-5,λZ=>by simp[rZ,vY,z,k1,k2,q,e,hd,a]⟩
  ·exact⟨0,λZ=>by simp[rZ,vY,z,k1,k2,q,e,hd,a]⟩
abbrev Sg:=aq a4
def Vh(s l:a4)(n i:a6)(p e:E):Prop:=(i=0->e.2.1=1/\e.2.2=1)/\(i+1=n->e.2.1=s/\e.2.2=s)/\(e.2.1<=e.2.2/\e.2.2-e.2.1<=l)/\(i≠0->(p.1<=e.1/\p.2.1<e.2.1/\p.2.2<e.2.2)/\qI l p e=a5)
instance (s l:a4) (n i:a6) (p e:E):c5 (Vh s l n i p e):=by unfold Vh;infer_instance
theorem Tc{f g:MS}{Y Y1:Ev}{Z Z':aH}{x:Exc}(h:f Y Z=ao (.exc x,Y1,Z')):aX f g Y Z=ao (.exc x,Y1,Z'):=by unfold aX;rw[h]
theorem Rb{x:Exc}{Z:aH}:trim Z (ao (.exc x,Z))=ao (.exc x,Z):=by simp only[trim];split <;> rfl
noncomputable def wF(L b k n:a4)(fl nw:aq A):aq (ba×Fd):=[("reach",.val (.int L)),("block",.val (.int b)),("keep",.val (.int k)),("many",.val (.int n)),("full",.lst fl),("newest",.lst nw)]
theorem rM{Y:Ev}{Z:aH}{s:a6}{fs:aq (ba×Fd)}{f:ba}{a:A}(q:Y[0]?=ao (aD s))(j:Z[s]?=ao (.ins "Window" fs))(hl:fs.lookup f=ao (.val a)):(bU ["Window"] f aM) Y Z=aG a Z:=by
 have e:aM Y Z=aG (.aE s) Z:=by simp[q]
 unfold bU;rw[bO e];simp[j,hl]
theorem WW{Y:Ev}{Z:aH}{s:a6}{fs:aq (ba×Fd)}{f:ba}{ds:aq A}(q:Y[0]?=ao (aD s))(j:Z[s]?=ao (.ins "Window" fs))(hl:fs.lookup f=ao (.lst ds)):(nM ["Window"] 0 f) Y Z=aG (.int ds.length) Z:=by
 have e:=Vd (cs:=["Window"]) (f:=f) (fd:=.lst ds) q j (by simp) hl;unfold nM;rw[e]
theorem Fi{i:a6}{f:ba}{g:MS}{Y q:Ev}{Z:aH}{s:a6}{cls:ba}{fs:aq (ba×Fd)}{fd fd':Fd}{c c':Cell}(h1:Y[i]?=ao (aD s))(h2:Z[s]?=ao (.ins cls fs))(l:fs.lookup f=ao fd)(h:fd.cell=ao c)
  (e:g Y (eO Z s cls f fs c)=dA q (eO Z s cls f fs c')) (b:fd'.cell=ao c') (a:fd'=fd\/nH Z.length fd') (U:∀(j:a6) (d:A),q[j]?=ao (ao d)->Y[j]?=ao (ao d)\/Cl Z.length d):pG i f g Y Z=dA q (Z.set s (.ins cls (putD f fd' fs))):=by
 have B:s<Z.length:=(cY.mp h2).1;refine Tj (r:=(.nx,q,Z.set s (.ins cls (putD f fd' fs)))) ⟨s,cls,fs,fd,c,Z.set s (.ins cls (putD f (.val (.aE Z.length)) fs)),fd',c',h1,h2,l,h,e,by simp,eV B,b,λk x N z => .inl (by rw[dZ (cX N)]at z;exact z),a,U,rfl,by rw[BW]⟩
theorem Wv{i:a6}{f:ba}{g:Ev->Mo A}{Y:Ev}{Z:aH}{s:a6}{cls:ba}{fs:aq (ba×Fd)}{fd:Fd}{c:Cell}{a:A}(h1:Y[i]?=ao (aD s))(h2:Z[s]?=ao (.ins cls fs))(U:fs.lookup f=ao fd)(N:fd.cell=ao c)
  (h:g Y (eO Z s cls f fs c)=aG a (eO Z s cls f fs c)) (d:Cl Z.length a):yL i f g Y Z=aG a Z:=by
 have z:s<Z.length:=(cY.mp h2).1;have e:Z.set s (.ins cls (putD f fd fs))=Z:=by
  rw[TU U];apply zS;intro j
  by_cases B:s=j
  ·subst B;rw[eV z,h2]
  ·rw[dZ B]
 have:=agJ (i:=i) (f:=f) (g:=g) (Y:=Y) (Z:=Z) (r:=(.ok a,Z)) ⟨s,cls,fs,fd,c,Z.set s (.ins cls (putD f (.val (.aE Z.length)) fs)),fd,c,a,h1,h2,U,N,h,by simp,eV z,N,λk x b q => .inl (by rw[dZ (cX b)]at q;exact q),.inl rfl,d,by rw[BW,e]⟩;exact this
theorem HX{Z:aH}{s:a6}{cls f:ba}{fs:aq (ba×Fd)}{c:Cell}(h:s<Z.length):(eO Z s cls f fs c)[s]?=ao (.ins cls (putD f (.val (.aE Z.length)) fs)):=by
 rw[iD (by simpa using h),eV h]
theorem HY{Z:aH}{s:a6}{cls f:ba}{fs:aq (ba×Fd)}{c:Cell}:(eO Z s cls f fs c)[Z.length]?=ao c:=by
 rw[pY (by simp)];simp
theorem XI(n:a6)(ps:aq Po):fK n (ps.map aL):=ER λa j=>by
 obtain⟨p,_,rfl⟩:=oZ.mp j;exact aEA n p
theorem aD9(n:a6)(ns:aq a4):fK n (ns.map A.int):=ER λa j=>by
 obtain⟨p,_,rfl⟩:=oZ.mp j;simp only[Cl]
def rP(Z:aH)(s:a6)(L b k n:a4)(ps:aq Po)(ns:aq a4):Prop:=Z[s]?=ao (.ins "Window" (wF L b k n (ps.map aL) (ns.map A.int)))
noncomputable def w1(L:a4):aq (ba×Fd):=[("reach",.val (.int L))]
noncomputable def w2(L b:a4):aq (ba×Fd):=[("reach",.val (.int L)),("block",.val (.int b))]
noncomputable def w3(L b k:a4):aq (ba×Fd):=[("reach",.val (.int L)),("block",.val (.int b)),("keep",.val (.int k))]
noncomputable def w4(L b k:a4):aq (ba×Fd):=[("reach",.val (.int L)),("block",.val (.int b)),("keep",.val (.int k)),("many",.val (.int 0))]
noncomputable def w5(L b k:a4):aq (ba×Fd):=[("reach",.val (.int L)),("block",.val (.int b)),("keep",.val (.int k)),("many",.val (.int 0)),("full",.lst [])]
theorem adG(L b k:a4)(Z:aH):(IV "Window" 4 KP [.int L,.int b,.int k]) Z=aG (.aE Z.length) (Z++[.ins "Window" (wF L b k 0 [] [])]):=by
 have e:KP [.aE Z.length,.int L,.int b,.int k] (Z++[.ins "Window" []])=aG (.aV) (Z++[.ins "Window" (wF L b k 0 [] [])]):=by
  show trim (Z++[.ins "Window" []]) (iI (QD [aD Z.length,aA L,aA b,aA k] (Z++[.ins "Window" []])))=_;have o:QD [aD Z.length,aA L,aA b,aA k] (Z++[.ins "Window" []])=dA [aD Z.length,aA L,aA b,aA k] (Z++[.ins "Window" (wF L b k 0 [] [])]):=by
   have c:putD ("reach" : ba) (Fd.val (.int L)) ([]:aq (ba×Fd))=(w1 L):=rfl;have p2:putD ("block" : ba) (Fd.val (.int b)) (w1 L)=(w2 L b):=rfl;have a:putD ("keep" : ba) (Fd.val (.int k)) (w2 L b)=(w3 L b k):=rfl;have U:putD ("many" : ba) (Fd.val (.int 0)) (w3 L b k)=(w4 L b k):=rfl;have N:putD ("full" : ba) (Fd.lst []) (w4 L b k)=(w5 L b k):=rfl;have B:putD ("newest" : ba) (Fd.lst []) (w5 L b k)=wF L b k 0 [] []:=rfl;have m:(w1 L).length<1000:=by simp[w1]
   have l:(w2 L b).length<1000:=by simp[w2]
   have i:(w3 L b k).length<1000:=by simp[w3]
   have h:(w4 L b k).length<1000:=by simp[w4]
   have g:(w5 L b k).length<1000:=by simp[w5]
   have z:∀n,nH n (.lst []):=λn=>by simp[nH,fK]
   have p:(0:a6)<=bf:=by decide
   unfold QD;generalize j:([aD Z.length,aA L,aA b,aA k]:Ev)=q;rw[bY (Y1:=q) (Z':=Z++[.ins "Window" (w1 L)]) (by subst j;simp[c])];rw[bY (Y1:=q) (Z':=Z++[.ins "Window" (w2 L b)]) (by subst j;simp[p2,m])];rw[bY (Y1:=q) (Z':=Z++[.ins "Window" (w3 L b k)]) (by subst j;simp[a,l])];rw[bY (Y1:=q) (Z':=Z++[.ins "Window" (w4 L b k)]) (by subst j;simp[U,i])];have f:yR ["Window"] 0 q (Z++[.ins "Window" (w4 L b k)])=ao (Z.length,("Window" : ba),(w4 L b k)):=by subst j;simp[yR]
   have d:yR ["Window"] 0 q (Z++[.ins "Window" (w5 L b k)])=ao (Z.length,("Window" : ba),(w5 L b k)):=by subst j;simp[yR]
   rw[bY (Y1:=q) (Z':=Z++[.ins "Window" (w5 L b k)]) (by
    simp only[wV,f];simp[rF,Fd.DL,z,N,h])]
   simp only[wV,d];simp[rF,Fd.DL,z,B,g]
  rw[o];simp only[TZ];exact Ax (by simp)
 simp[IV,e]
theorem aDT(ds:aq A)(n:a6)(h:n<=ds.length):vU ds (ao (n:a4)) au=ds.drop n:=by
 unfold vU;rw[HT.Cz,HT.To,Nat.min_eq_left h];rw[JZ (by simp)]
section
variable{Y:Ev}{Z:aH}
abbrev Gv(f:Ev->Mo A)(Y:Ev)(Z:aH)(a:A):Prop:=f Y Z=aG a Z
abbrev ZG(f:Ev->Mo (aq A))(Y:Ev)(Z:aH)(a:aq A):Prop:=f Y Z=aG a Z
theorem jF:ZG a0 Y Z []:=rfl
theorem iX{f:Ev->Mo A}{fs:Ev->Mo (aq A)}{x:A}{xs:aq A}(h:Gv f Y Z x)(j:ZG fs Y Z xs):ZG (aB f fs) Y Z (x::xs):=by
 show(aB f fs) Y Z=_;simp[show f Y Z=_ from h,show fs Y Z=_ from j]
theorem aBM{fs:Ev->Mo (aq A)}{xs:aq A}(h:ZG fs Y Z xs)(hl:xs.length<=100000):Gv (fM ax fs) Y Z (.lst xs):=by
 have j:xs.length<=bf:=by rw[rD];omega
 show(fM ax fs) Y Z=_;simp[show fs Y Z=_ from h,j]
theorem aBN{f g:Ev->Mo A}{a b:aq A}(z:Gv f Y Z (.lst a))(q:Gv g Y Z (.lst b))(h:a.length+b.length<=100000):Gv (aC bV f g) Y Z (.lst (a++b)):=by
 have j:¬bf<a.length+b.length:=by rw[rD];omega
 show(aC bV f g) Y Z=_;simp[show f Y Z=_ from z,show g Y Z=_ from q,WN,dU,IB,j]
theorem cdiv{a b:a4}(j:0<b)(h1:b<1000000):mL a b:=⟨by omega,by omega⟩
end
theorem Xj{t:Ev->Mo br}{s:MS}{Y:Ev}{Z:aH}(j:t Y Z=aG ax Z):eA t s gX Y Z=dA Y Z:=by
 unfold eA;rw[gO j];simp
theorem Df{f:Ev->Mo A}{Y:Ev}{Z:aH}{a:A}(j:Gv f Y Z a):dB f Y Z=ao (.ret a,Y,Z):=by
 unfold dB;rw[gO j]
theorem aa5{F:aq A->Mo A}{f g:Ev->Mo A}{Y:Ev}{Z:aH}{a b x:A}(q:Gv f Y Z a)(j:Gv g Y Z b)(h:F [a,b] Z=aG x Z):Gv (aQ (bI 2 F) (aB f (aB g a0))) Y Z x:=by
 show(aQ _ _) Y Z=_;unfold aQ;rw[bO (iX q (iX j jF))];simp[bI,h]
section
variable{Z:aH}{s:a6}{L b k n:a4}{ps:aq Po}{ns:aq a4}
theorem rP.lt(h:rP Z s L b k n ps ns):s<Z.length:=(cY.mp h).1
theorem Pw{fl nw:aq A}:(wF L b k n fl nw).lookup ("reach" : ba)=ao (.val (.int L)):=rfl
theorem ZZ{fl nw:aq A}:(wF L b k n fl nw).lookup ("block" : ba)=ao (.val (.int b)):=rfl
theorem Px{fl nw:aq A}:(wF L b k n fl nw).lookup ("many" : ba)=ao (.val (.int n)):=rfl
theorem KZ{fl nw:aq A}:(wF L b k n fl nw).lookup ("full" : ba)=ao (.lst fl):=rfl
theorem RS{fl nw:aq A}:(wF L b k n fl nw).lookup ("newest" : ba)=ao (.lst nw):=rfl
theorem aeP{fl nw gl:aq A}:putD ("full" : ba) (Fd.lst gl) (wF L b k n fl nw)=wF L b k n gl nw:=rfl
theorem ZV{fl nw gl:aq A}:putD ("newest" : ba) (Fd.lst gl) (wF L b k n fl nw)=wF L b k n fl gl:=rfl
theorem aeO{fl nw:aq A}(m:a4):putD ("many" : ba) (Fd.val (.int m)) (wF L b k n fl nw)=wF L b k m fl nw:=rfl
theorem aHI(h:rP Z s L b k n ps ns)(hb:1<=b)(xJ:b<=1000)(H:ps.length<=1000)(eX:L<=((ps.length:a4)-1)*b+ns.length->ps≠[]) :
  RK [.aE s] Z=aG (.aV) (if L<=((ps.length:a4)-1)*b+ns.length then Z.set s (.ins "Window" (wF L b k n (ps.tail.map aL) (ns.map A.int)))else Z):=by
 have u:=h.lt;have h':Z[s]?=ao (.ins "Window" (wF L b k n (ps.map aL) (ns.map A.int))):=h;show trim Z (iI (Ll [aD s,au] Z))=_;have U:=WW (Y:=[aD s,au]) (f := "full") rfl h' KZ;have f2:=WW (Y:=[aD s,au]) (f := "newest") rfl h' RS;have y:=rM (Y:=[aD s,au]) (f := "block") rfl h' ZZ;have m:(ps.map aL).length=ps.length:=by simp
 have l:(ns.map A.int).length=ns.length:=by simp
 rw[m]at U;rw[l]at f2;have F:kM ((ps.length:a4)-1) b:=Ka (by omega) (by omega);have st:(bN (aC bV (aC (jZ) (aC (dG) (nM ["Window"] 0 "full") bM) (bU ["Window"] "block" aM)) (nM ["Window"] 0 "newest")) (gN 1)) [aD s,au] Z=dA [aD s,aA (((ps.length:a4)-1)*b+ns.length)] Z:=by
  have E:(aC (dG) (nM ["Window"] 0 "full") bM) [aD s,au] Z=aG (.int ((ps.length:a4)-1)) Z:=by
   rw[aC,bO U];simp
  have D:(aC (jZ) (aC (dG) (nM ["Window"] 0 "full") bM) (bU ["Window"] "block" aM)) [aD s,au] Z=aG (.int (((ps.length:a4)-1)*b)) Z:=by
   rw[aC,bO E,bO y];simp[F]
  have C:(aC bV (aC (jZ) (aC (dG) (nM ["Window"] 0 "full") bM) (bU ["Window"] "block" aM)) (nM ["Window"] 0 "newest")) [aD s,au] Z=aG (.int (((ps.length:a4)-1)*b+ns.length)) Z:=by
   rw[aC,bO D,bO f2];simp
  unfold bN;rw[gO C];simp
 unfold Ll;rw[bY st];have x:=rM (Y:=[aD s,aA (((ps.length:a4)-1)*b+ns.length)]) (f := "reach") rfl h' Pw;have B:(bX (aC WM bK (bU ["Window"] "reach" aM))) [aD s,aA (((ps.length:a4)-1)*b+ns.length)] Z=aG (decide (L<=((ps.length:a4)-1)*b+ns.length)) Z:=by
  have g:bK [aD s,aA (((ps.length:a4)-1)*b+ns.length)] Z=aG (.int (((ps.length:a4)-1)*b+ns.length)) Z:=rfl;have e:(aC WM bK (bU ["Window"] "reach" aM)) [aD s,aA (((ps.length:a4)-1)*b+ns.length)] Z=aG (.bl (decide (L<=((ps.length:a4)-1)*b+ns.length))) Z:=by
   rw[aC,bO g,bO x];simp
  unfold bX;rw[bO e];simp
 generalize ((ps.length:a4)-1)*b+ns.length=o at *
 by_cases z:L<=o
 ·rw[a9 z];rw[vT z]at B;obtain⟨p,r,rfl⟩:∃p r,ps=p::r:=by
   cases ps with
   |nil=>exact b7 rfl (eX z)
   |cons p r=>exact⟨p,r,rfl⟩
  have hl:pG 0 "full" (iG (kW OL (bU ["Window"] "full" aM) (aB bP a0))) [aD s,aA o] Z=dA [aD s,aA o] (Z.set s (.ins "Window" (putD "full" (.lst (r.map aL)) (wF L b k n ((p::r).map aL) (ns.map A.int))))):=by
   refine Fi (c:=.lst ((p::r).map aL)) (c':=.lst (r.map aL)) rfl h' KZ rfl ?_ rfl (.inr (XI _ _)) (λj d v => .inl v);have i:=HX (cls := "Window") (f := "full") (fs:=wF L b k n ((p::r).map aL) (ns.map A.int)) (c:=.lst ((p::r).map aL)) u;have N:=HY (Z:=Z) (s:=s) (cls := "Window") (f := "full") (fs:=wF L b k n ((p::r).map aL) (ns.map A.int)) (c:=.lst ((p::r).map aL));have G:(eO Z s "Window" "full" (wF L b k n ((p::r).map aL) (ns.map A.int)) (.lst ((p::r).map aL))).set Z.length (.lst (r.map aL))=eO Z s "Window" "full" (wF L b k n ((p::r).map aL) (ns.map A.int)) (.lst (r.map aL)):=Fg _;generalize eO Z s "Window" "full" (wF L b k n ((p::r).map aL) (ns.map A.int)) (.lst ((p::r).map aL))=q at *;have w:=rM (Y:=[aD s,aA o]) (f := "full") (a:=.aE Z.length) rfl i rfl;have t:vM q (.aE Z.length):=yY (kX N);have cl:qR q (.aE Z.length)=ao (Z.length,(p::r).map aL):=zM N;have e:(kW OL (bU ["Window"] "full" aM) (aB bP a0)) [aD s,aA o] q=aG (aL p) (eO Z s "Window" "full" (wF L b k n ((p::r).map aL) (ns.map A.int)) (.lst (r.map aL))):=by
    unfold kW;rw[bO w,<-G];simp only[t,eT];rw[dE]at cl;simp[cl]
   unfold iG;rw[gO e]
  unfold eA;rw[gO B];simp only[eT];rw[hl];simp only[TZ];exact Ax (by simp)
 ·rw[bb z];rw[nY z]at B;rw[Xj B];simp only[TZ];exact wR
end
theorem akC{Z:aH}{s N:a6}{X ρ Ω:Cell}(U:N≠s)(h:Z[s]?=ao Ω):((Z.set s X).set N ρ).set s Ω=Z.set N ρ:=by
 have B:s<Z.length:=(cY.mp h).1;apply zS;intro j
 by_cases q:s=j
 ·subst q;rw[eV (by simpa using B),dZ U,h]
 ·rw[dZ q]
  by_cases z:N=j
  ·subst z
   by_cases hl:N<Z.length
   ·rw[eV (by simpa using hl),eV hl]
   ·rw[zQ (by simp;omega),zQ (by simp;omega)]
  ·rw[dZ z,dZ q,dZ z]
section
variable{Z:aH}{s:a6}{L b k n:a4}{ps:aq Po}{ns:aq a4}
def bE(k:a4)(ns:aq a4):Po:=Rj k (lM (unit ns))
theorem aA2(h:rP Z s L b k n ps ns)(hl:ns.length<=63)(K:1<=k)(M:k<1000000)(hp:ps.length<=1000)(x:a4) :
  pG 0 "full" (pG 0 "newest" (iG (kW pN (bU ["Window"] "full" aM) (aB (aQ (bI 2 xZ) (aB (aQ (bI 1 rY) (aB (bU ["Window"] "newest" aM) a0)) (aB (bU ["Window"] "keep" aM) a0))) a0)))) [aD s,aA x] Z
   = dA [aD s,aA x] (Z.set s (.ins "Window" (wF L b k n ((ps++[bE k ns]).map aL) (ns.map A.int)))):=by
 have I:=h.lt;have h':Z[s]?=ao (.ins "Window" (wF L b k n (ps.map aL) (ns.map A.int))):=h;have key:pG 0 "newest" (iG (kW pN (bU ["Window"] "full" aM) (aB (aQ (bI 2 xZ) (aB (aQ (bI 1 rY) (aB (bU ["Window"] "newest" aM) a0)) (aB (bU ["Window"] "keep" aM) a0))) a0))) [aD s,aA x] (eO Z s "Window" "full" (wF L b k n (ps.map aL) (ns.map A.int)) (.lst (ps.map aL)))
   = dA [aD s,aA x] (eO Z s "Window" "full" (wF L b k n (ps.map aL) (ns.map A.int)) (.lst ((ps++[bE k ns]).map aL))):=by
  have g:=HX (cls := "Window") (f := "full") (fs:=wF L b k n (ps.map aL) (ns.map A.int)) (c:=.lst (ps.map aL)) I;have hn:=HY (Z:=Z) (s:=s) (cls := "Window") (f := "full") (fs:=wF L b k n (ps.map aL) (ns.map A.int)) (c:=.lst (ps.map aL));have hlen:(eO Z s "Window" "full" (wF L b k n (ps.map aL) (ns.map A.int)) (.lst (ps.map aL))).length=Z.length+1:=by simp
  have NH:(eO Z s "Window" "full" (wF L b k n (ps.map aL) (ns.map A.int)) (.lst (ps.map aL))).set Z.length (.lst ((ps++[bE k ns]).map aL))=eO Z s "Window" "full" (wF L b k n (ps.map aL) (ns.map A.int)) (.lst ((ps++[bE k ns]).map aL)):=Fg _;rw[<-NH];generalize eO Z s "Window" "full" (wF L b k n (ps.map aL) (ns.map A.int)) (.lst (ps.map aL))=q at *;generalize a:putD ("full" : ba) (Fd.val (.aE Z.length)) (wF L b k n (ps.map aL) (ns.map A.int))=B at g;have y:B.lookup ("newest" : ba)=ao (.lst (ns.map A.int)):=by rw[<-a];rfl
  have w:s<q.length:=by omega
  have eX:Z.length≠s:=by omega
  have p:=HX (cls := "Window") (f := "newest") (fs:=B) (c:=.lst (ns.map A.int)) w;have v:=HY (Z:=q) (s:=s) (cls := "Window") (f := "newest") (fs:=B) (c:=.lst (ns.map A.int));have u:(eO q s "Window" "newest" B (.lst (ns.map A.int)))[Z.length]?=ao (.lst (ps.map aL)):=by
   rw[iD (by simp;omega),dZ (cX eX)];exact hn
  have G:(eO q s "Window" "newest" B (.lst (ns.map A.int)))=q.set s (.ins "Window" (putD "newest" (.val (.aE q.length)) B))++[.lst (ns.map A.int)]:=rfl;refine Tj (r:=(.nx,[aD s,aA x],q.set Z.length (.lst ((ps++[bE k ns]).map aL)))) ⟨s, "Window",B,.lst (ns.map A.int),.lst (ns.map A.int),(q.set s (.ins "Window" (putD "newest" (.val (.aE q.length)) B))).set Z.length (.lst ((ps++[bE k ns]).map aL)),.lst (ns.map A.int),.lst (ns.map A.int),rfl,g,y,rfl,?_,by simp,?_,rfl,λj c N U=>?_,.inl rfl,λj d N => .inl N,rfl,?_⟩
  ·
   have V:(putD ("newest" : ba) (Fd.val (.aE q.length)) B).lookup ("full" : ba)=ao (.val (.aE Z.length)):=by rw[<-a];rfl
   have T:(putD ("newest" : ba) (Fd.val (.aE q.length)) B).lookup ("newest" : ba)=ao (.val (.aE q.length)):=by rw[<-a];rfl
   have S:(putD ("newest" : ba) (Fd.val (.aE q.length)) B).lookup ("keep" : ba)=ao (.val (.int k)):=by rw[<-a];rfl
   have o:(eO q s "Window" "newest" B (.lst (ns.map A.int))).set Z.length (.lst ((ps++[bE k ns]).map aL))=(q.set s (.ins "Window" (putD "newest" (.val (.aE q.length)) B))).set Z.length (.lst ((ps++[bE k ns]).map aL))++[.lst (ns.map A.int)]:=by
    rw[G,List.set_append_left _ _ (by simp;omega)]
   rw[<-o];generalize eO q s "Window" "newest" B (.lst (ns.map A.int))=z at *;have R:=rM (Y:=[aD s,aA x]) (f := "full") rfl p V;have Q:=rM (Y:=[aD s,aA x]) (f := "newest") rfl p T;have P:=rM (Y:=[aD s,aA x]) (f := "keep") rfl p S;have m:q.length<z.length:=(cY.mp v).1;have po:=adK ns hl (.aE q.length) z (λD=>by
    show dU (z++D) (.aE q.length)=_;exact kX (by rw[iD m];exact v))
   have gd:=OK (AG ns);have ol:=Eb (dR (unit ns)) 0 (λr hr=>Az (AG ns) hr);rw[Aa,CZ]at ol;have E:=aHK (lM (unit ns)).s (lM (unit ns)).l (lM (unit ns)).d (lM (unit ns)).es k z K M (by show(hX 0 (dR (unit ns))).length<=100000;omega);have H:vM z (.aE Z.length):=yY (kX u);have cl:qR z (.aE Z.length)=ao (Z.length,ps.map aL):=zM u;have e1:(aQ (bI 1 rY) (aB (bU ["Window"] "newest" aM) a0)) [aD s,aA x] z=aG (aL (lM (unit ns))) z:=by
    have a1:(aB (bU ["Window"] "newest" aM) a0) [aD s,aA x] z=aG [.aE q.length] z:=iX Q jF;rw[aQ,bO a1];simp[bI,po]
   have X:(aQ (bI 2 xZ) (aB (aQ (bI 1 rY) (aB (bU ["Window"] "newest" aM) a0)) (aB (bU ["Window"] "keep" aM) a0))) [aD s,aA x] z=aG (aL (bE k ns)) z:=aa5 e1 P E;have t:(ps.map aL).length<bf:=by rw[jG,rD];omega
   have W:(kW pN (bU ["Window"] "full" aM) (aB (aQ (bI 2 xZ) (aB (aQ (bI 1 rY) (aB (bU ["Window"] "newest" aM) a0)) (aB (bU ["Window"] "keep" aM) a0))) a0)) [aD s,aA x] z=aG (.aV) (z.set Z.length (.lst ((ps++[bE k ns]).map aL))):=by
    have ar:(aB (aQ (bI 2 xZ) (aB (aQ (bI 1 rY) (aB (bU ["Window"] "newest" aM) a0)) (aB (bU ["Window"] "keep" aM) a0))) a0) [aD s,aA x] z=aG [aL (bE k ns)] z:=iX X jF;unfold kW;rw[bO R];simp only[H,eT];rw[bO ar];have em:(ps++[bE k ns]).map aL=ps.map aL++[aL (bE k ns)]:=by simp
    rw[em];generalize ps.map aL=fl at cl t;simp[cl,t]
   unfold iG;rw[gO W]
  ·rw[dZ eX,eV w]
  ·by_cases C:j=Z.length
   ·subst C;rw[eV (by simp;omega)]at U;cases U;exact .inr (XI _ _)
   ·rw[dZ (cX C),dZ (cX N)]at U;exact .inl U
  ·show q.set Z.length _=_;have F:putD ("newest" : ba) (Fd.lst (ns.map A.int)) B=B:=TU y;rw[F];exact(akC eX g).symm
 have e:=Fi (i:=0) (f := "full") (c:=.lst (ps.map aL)) (c':=.lst ((ps++[bE k ns]).map aL)) (fd':=.lst ((ps++[bE k ns]).map aL)) rfl h' KZ rfl key rfl (.inr (XI _ _)) (λj d N => .inl N);rw[aeP]at e;exact e
end
def lZ(b k:a4)(ps:aq Po)(ns:aq a4)(x:a4):aq Po:=if(ns.length:a4)+1=b then ps++[bE k (ns++[x])]else ps
noncomputable def iU(b:a4)(ns:aq a4)(x:a4):aq a4:=if(ns.length:a4)+1=b then []else ns++[x]
def DH(L b k:a4)(ps:aq Po)(ns:aq a4)(x:a4):aq Po:=if L<=(((lZ b k ps ns x).length:a4)-1)*b+(iU b ns x).length then(lZ b k ps ns x).tail else lZ b k ps ns x
theorem aHF{Z:aH}{s:a6}{L b k n:a4}{ps:aq Po}{ns:aq a4}(h:rP Z s L b k n ps ns)(R:1<=L)(xJ:b<=63)(hn:(ns.length:a4)+1<=b)(y:1<=k)(C:k<1000000)(Q:ps.length<=900)(x:a4) :
  GD [.aE s,.int x] Z=aG (.aV) (Z.set s (.ins "Window" (wF L b k (n+1) ((DH L b k ps ns x).map aL) ((iU b ns x).map A.int)))):=by
 have q:=h.lt;have h':Z[s]?=ao (.ins "Window" (wF L b k n (ps.map aL) (ns.map A.int))):=h;show trim Z (iI (XZ [aD s,aA x] Z))=_;have I:(vD ["Window"] "many" aM (aC bV (bU ["Window"] "many" aM) bM)) [aD s,aA x] Z=dA [aD s,aA x] (Z.set s (.ins "Window" (wF L b k (n+1) (ps.map aL) (ns.map A.int)))):=by
  have g:=rM (Y:=[aD s,aA x]) (f := "many") rfl h' Px;have u:(aC bV (bU ["Window"] "many" aM) bM) [aD s,aA x] Z=aG (.int (n+1)) Z:=by
   rw[aC,bO g];simp
  unfold vD;rw[gO u];rw[gO (x:=A.aE s) (Z':=Z) (by simp)];simp only[h'];rw[a9 ⟨by simp,by simp[wF]⟩,aeO]
 have r:(Z.set s (.ins "Window" (wF L b k (n+1) (ps.map aL) (ns.map A.int))))[s]?=ao (.ins "Window" (wF L b k (n+1) (ps.map aL) (ns.map A.int))):=eV q;have H:(iG (HA ["Window"] 0 "newest" bK)) [aD s,aA x] (Z.set s (.ins "Window" (wF L b k (n+1) (ps.map aL) (ns.map A.int))))=dA [aD s,aA x] (Z.set s (.ins "Window" (wF L b k (n+1) (ps.map aL) ((ns++[x]).map A.int)))):=by
  have o:=Vd (cs:=["Window"]) (f := "newest") (i:=0) (Y:=[aD s,aA x]) (fd:=.lst (ns.map A.int)) rfl r (by simp) RS;have w:(ns.map A.int).length<bf:=by rw[jG,rD];omega
  have m:bK [aD s,aA x] (Z.set s (.ins "Window" (wF L b k (n+1) (ps.map aL) (ns.map A.int))))=aG (.int x) (Z.set s (.ins "Window" (wF L b k (n+1) (ps.map aL) (ns.map A.int)))):=rfl;have e:(HA ["Window"] 0 "newest" bK) [aD s,aA x] (Z.set s (.ins "Window" (wF L b k (n+1) (ps.map aL) (ns.map A.int))))=aG (.aV) (Z.set s (.ins "Window" (wF L b k (n+1) (ps.map aL) ((ns++[x]).map A.int)))):=by
   unfold HA;rw[o];simp only[m];rw[a9 w,BW,ZV];simp
  unfold iG;rw[gO e]
 have h2:rP (Z.set s (.ins "Window" (wF L b k (n+1) (ps.map aL) ((ns++[x]).map A.int)))) s L b k (n+1) ps (ns++[x]):=eV q;have t:(ns++[x]).length=ns.length+1:=by simp
 have G:(eA (bX (aC iW (nM ["Window"] 0 "newest") (bU ["Window"] "block" aM)))
   (aX (pG 0 "full" (pG 0 "newest" (iG (kW pN (bU ["Window"] "full" aM) (aB (aQ (bI 2 xZ) (aB (aQ (bI 1 rY) (aB (bU ["Window"] "newest" aM) a0)) (aB (bU ["Window"] "keep" aM) a0))) a0)))))
   (wV ["Window"] 0 "newest" (fM a5 a0)))
   gX) [aD s,aA x] (Z.set s (.ins "Window" (wF L b k (n+1) (ps.map aL) ((ns++[x]).map A.int))))=dA [aD s,aA x] (Z.set s (.ins "Window" (wF L b k (n+1) ((lZ b k ps ns x).map aL) ((iU b ns x).map A.int)))):=by
  have l:=WW (Y:=[aD s,aA x]) (f := "newest") rfl h2 RS;have D:=rM (Y:=[aD s,aA x]) (f := "block") rfl h2 ZZ;have v:((ns++[x]).map A.int).length=ns.length+1:=by simp
  rw[v]at l;have j:(bX (aC iW (nM ["Window"] 0 "newest") (bU ["Window"] "block" aM))) [aD s,aA x] (Z.set s (.ins "Window" (wF L b k (n+1) (ps.map aL) ((ns++[x]).map A.int))))=aG (((ns.length+1:a6):a4)==b) (Z.set s (.ins "Window" (wF L b k (n+1) (ps.map aL) ((ns++[x]).map A.int)))):=by
   have e:(aC iW (nM ["Window"] 0 "newest") (bU ["Window"] "block" aM)) [aD s,aA x] (Z.set s (.ins "Window" (wF L b k (n+1) (ps.map aL) ((ns++[x]).map A.int))))=aG (.bl (((ns.length+1:a6):a4)==b)) (Z.set s (.ins "Window" (wF L b k (n+1) (ps.map aL) ((ns++[x]).map A.int)))):=by
    rw[aC,bO l,bO D,aAW]
   unfold bX;rw[bO e];simp
  by_cases c:(ns.length:a4)+1=b
  ·have hb:(((ns.length+1:a6):a4)==b)=a5:=by simp;omega
   rw[hb]at j;have fs:=aA2 h2 (by rw[t];omega) y C (by omega) x;rw[BW]at fs;have p:(Z.set s (.ins "Window" (wF L b k (n+1) ((ps++[bE k (ns++[x])]).map aL) ((ns++[x]).map A.int))))[s]?=ao (.ins "Window" (wF L b k (n+1) ((ps++[bE k (ns++[x])]).map aL) ((ns++[x]).map A.int))):=eV q;have ob:yR ["Window"] 0 [aD s,aA x] (Z.set s (.ins "Window" (wF L b k (n+1) ((ps++[bE k (ns++[x])]).map aL) ((ns++[x]).map A.int))))=ao (s,("Window" : ba),wF L b k (n+1) ((ps++[bE k (ns++[x])]).map aL) ((ns++[x]).map A.int)):=by
    simp only[yR,List.getElem?_cons_zero,Option.join_some,p];simp
   have fn:(wV ["Window"] 0 "newest" (fM a5 a0)) [aD s,aA x] (Z.set s (.ins "Window" (wF L b k (n+1) ((ps++[bE k (ns++[x])]).map aL) ((ns++[x]).map A.int))))=dA [aD s,aA x] (Z.set s (.ins "Window" (wF L b k (n+1) ((ps++[bE k (ns++[x])]).map aL) []))):=by
    have K:∀n,nH n (.lst []):=λn=>by simp[nH,fK]
    have U:(wF L b k (n+1) ((ps++[bE k (ns++[x])]).map aL) ((ns++[x]).map A.int)).length<1000:=by simp[wF]
    have N:=ZV (L:=L) (b:=b) (k:=k) (n:=n+1) (fl:=(ps++[bE k (ns++[x])]).map aL) (nw:=(ns++[x]).map A.int) (gl:=[]);simp only[wV,ob];generalize wF L b k (n+1) ((ps++[bE k (ns++[x])]).map aL) ((ns++[x]).map A.int)=F at U N;simp[rF,Fd.DL,K,U,N]
   unfold eA;rw[gO j];simp only[eT];rw[bY fs,fn];simp only[lZ,iU,a9 c,FP]
  ·have hb:(((ns.length+1:a6):a4)==b)=ax:=by simp;omega
   rw[hb]at j;rw[Xj j];simp only[lZ,iU,bb c]
 have d:rP (Z.set s (.ins "Window" (wF L b k (n+1) ((lZ b k ps ns x).map aL) ((iU b ns x).map A.int)))) s L b k (n+1) (lZ b k ps ns x) (iU b ns x):=eV q;have M:(lZ b k ps ns x).length<=1000:=by
  unfold lZ;split
  ·simp;omega
  ·omega
 have P:((iU b ns x).length:a4)<=b:=by
  unfold iU;split
  ·simp;omega
  ·simp;omega
 have dr:=aHI d (by omega) (by omega) M (λhh z=>by
  rw[z]at hh;simp at hh;omega)
 have e:XZ [aD s,aA x] Z=dA [aD s,aA x] (Z.set s (.ins "Window" (wF L b k (n+1) ((DH L b k ps ns x).map aL) ((iU b ns x).map A.int)))):=by
  unfold XZ;rw[bY I,bY H,bY G];have ex:(if L<=(((lZ b k ps ns x).length:a4)-1)*b+(iU b ns x).length then(Z.set s (.ins "Window" (wF L b k (n+1) ((lZ b k ps ns x).map aL) ((iU b ns x).map A.int)))).set s (.ins "Window" (wF L b k (n+1) ((lZ b k ps ns x).tail.map aL) ((iU b ns x).map A.int)))else Z.set s (.ins "Window" (wF L b k (n+1) ((lZ b k ps ns x).map aL) ((iU b ns x).map A.int))))=Z.set s (.ins "Window" (wF L b k (n+1) ((DH L b k ps ns x).map aL) ((iU b ns x).map A.int))):=by
   unfold DH;split
   ·rw[BW]
   ·rfl
  rw[ex]at dr;have ob:(Z.set s (.ins "Window" (wF L b k (n+1) ((lZ b k ps ns x).map aL) ((iU b ns x).map A.int))))[s]?=_:=d;have a:(wF L b k (n+1) ((lZ b k ps ns x).map aL) ((iU b ns x).map A.int)).lookup ("drop_oldest" : ba)=au:=rfl;generalize Z.set s (.ins "Window" (wF L b k (n+1) ((lZ b k ps ns x).map aL) ((iU b ns x).map A.int)))=B at dr ob;generalize wF L b k (n+1) ((lZ b k ps ns x).map aL) ((iU b ns x).map A.int)=E at ob a;have call:(eR "drop_oldest" [("Window",eN 1 [] RK)] aM a0) [aD s,aA x] B=aG (.aV) (Z.set s (.ins "Window" (wF L b k (n+1) ((DH L b k ps ns x).map aL) ((iU b ns x).map A.int)))):=by
   simp[eN,ob,a,dr,List.lookup]
  unfold iG;rw[gO call]
 rw[e];simp only[TZ];exact Ax (by simp)
structure WI(L b:a4)(aN:aq a4)(bs:aq (aq a4))(ns:aq a4):Prop where
 len:∀B∈bs,(B.length:a4)=b
 tF:(ns.length:a4)<b
 dr:∃D,aN=D++bs.flatten++ns/\(D=[]\/L<=(bs.length:a4)*b+ns.length)
 top:((bs.length:a4)-1)*b+ns.length<L
noncomputable def vX(b:a4)(bs:aq (aq a4))(ns:aq a4)(x:a4):aq (aq a4):=if(ns.length:a4)+1=b then bs++[ns++[x]]else bs
def JJ(L b:a4)(bs:aq (aq a4))(ns:aq a4)(x:a4):aq (aq a4):=if L<=(((vX b bs ns x).length:a4)-1)*b+(iU b ns x).length then(vX b bs ns x).tail else vX b bs ns x
theorem anF(b k:a4)(bs:aq (aq a4))(ns:aq a4)(x:a4):lZ b k (bs.map (bE k)) ns x=(vX b bs ns x).map (bE k):=by
 unfold lZ vX;split <;> simp
theorem anE(L b k:a4)(bs:aq (aq a4))(ns:aq a4)(x:a4):DH L b k (bs.map (bE k)) ns x=(JJ L b bs ns x).map (bE k):=by
 unfold DH JJ;rw[anF,jG];split
 ·rw[List.map_tail]
 ·rfl
theorem Py{L b:a4}(j:1<=L)(hb:1<=b):WI L b [] [] []:=⟨λ_ h=>by simp at h,by simp;omega,⟨[],rfl,.inl rfl⟩,by simp;omega⟩
theorem WI.put{L b:a4}{aN:aq a4}{bs:aq (aq a4)}{ns:aq a4}(h:WI L b aN bs ns)(k:1<=L)(hb:1<=b)(x:a4):WI L b (aN++[x]) (JJ L b bs ns x) (iU b ns x):=by
 obtain⟨len,tF,⟨D,d,hd⟩,top⟩:=h;have em:((bs.length:a4)-1)*b=(bs.length:a4)*b-b:=by rw[Int.sub_mul];omega
 rw[em]at top
 by_cases c:(ns.length:a4)+1=b
 ·have U:vX b bs ns x=bs++[ns++[x]]:=by simp[vX,c]
  have N:iU b ns x=[]:=by simp[iU,c]
  have eo:(((vX b bs ns x).length:a4)-1)*b+(iU b ns x).length=(bs.length:a4)*b:=by
   rw[U,N];simp
  have a:aN++[x]=D++(bs++[ns++[x]]).flatten++[]:=by rw[d];simp
  have f:∀B∈bs++[ns++[x]],(B.length:a4)=b:=λB g=>by
   rcases kL.mp g with z|z
   ·exact len B z
   ·simp at z;rw[z];simp;omega
  unfold JJ;rw[eo,U,N]
  by_cases j:L<=(bs.length:a4)*b
  ·rw[a9 j];cases bs with
   |nil =>
    simp at j;omega
   |cons B r =>
    refine⟨λC q=>f C (by simp at q ⊢;exact .inr q),by simp;omega,⟨D++B,by rw[a];simp,.inr ?_⟩,?_⟩
    ·have:(((B::r)++[ns++[x]]).tail.length:a4)=((B::r).length:a4):=by simp
     rw[this];simp only[BZ];omega
    ·have i:(((B::r)++[ns++[x]]).tail.length:a4)-1=((B::r).length:a4)-1:=by simp
     rw[i,em];simp only[BZ];omega
  ·rw[bb j];refine⟨f,by simp;omega,⟨D,a,?_⟩,?_⟩
   ·rcases hd with z|z
    ·exact .inl z
    ·refine .inr ?_;have:((bs++[ns++[x]]).length:a4)*b=(bs.length:a4)*b+b:=by simp[CD]
     rw[this];simp only[BZ];omega
   ·have:(((bs++[ns++[x]]).length:a4)-1)*b=(bs.length:a4)*b:=by simp
    rw[this];simp only[BZ];omega
 ·have U:vX b bs ns x=bs:=by simp[vX,c]
  have N:iU b ns x=ns++[x]:=by simp[iU,c]
  have eo:(((vX b bs ns x).length:a4)-1)*b+(iU b ns x).length=(bs.length:a4)*b-b+(ns.length+1):=by
   rw[U,N,em];simp
  have a:aN++[x]=D++bs.flatten++(ns++[x]):=by rw[d];simp
  have ln:((ns++[x]).length:a4)=(ns.length:a4)+1:=by simp
  unfold JJ;rw[eo,U,N]
  by_cases j:L<=(bs.length:a4)*b-b+(ns.length+1)
  ·rw[a9 j];cases bs with
   |nil =>
    simp at j;omega
   |cons B r =>
    have e:(((B::r).tail.length:a4))*b=((B::r).length:a4)*b-b:=by simp[CD]
    refine⟨λC q=>len C (by simp at q ⊢;exact .inr q),by rw[ln];omega,⟨D++B,by rw[a];simp,.inr ?_⟩,?_⟩
    ·rw[e,ln];omega
    ·rw[Int.sub_mul,e,ln];omega
  ·rw[bb j];refine⟨len,by rw[ln];omega,⟨D,a,?_⟩,?_⟩
   ·rcases hd with z|z
    ·exact .inl z
    ·exact .inr (by rw[ln];omega)
   ·rw[em,ln];omega
theorem Jj{b:a4}:∀{bs:aq (aq a4)},(∀B∈bs,(B.length:a4)=b)->((bs.flatten).length:a4)=(bs.length:a4)*b
 |[],_=>by simp
 |B::r,h=>by
  have ih:=Jj (bs:=r) λC j=>h C (by simp[j]);have h1:=h B (by simp);have:((B::r).length:a4)*b=(r.length:a4)*b+b:=by simp[CD]
  rw[this,KG,gF];push_cast;omega
theorem WI.WV{L b:a4}{aN:aq a4}{bs:aq (aq a4)}{ns:aq a4}(h:WI L b aN bs ns)(hb:1<=b)(j:L<=40):bs.length<=41:=by
 have t:=h.top
 rcases BS 41 bs.length with z|z
 ·exfalso;have h1:(41:a4)<=(bs.length:a4)-1:=by omega
  have h2:((bs.length:a4)-1)*1<=((bs.length:a4)-1)*b:=Int.mul_le_mul_of_nonneg_left hb (by omega);omega
 ·exact z
structure Taken(b:a4)(aN:aq a4)(bs:aq (aq a4))(ns:aq a4)(last:a4)(q:a6)(nl:aq a4):Prop where
 Eh:nl=ns.drop (ns.length-last.toNat)
 al7:(last-nl.length+b-1)/b=q
 Dl:q<=bs.length
 suf:∃ρ,aN=ρ++((bs.drop (bs.length-q)).flatten++nl)
 many:((bs.drop (bs.length-q)).flatten.length:a4)=q*b
 abC:last<=q*b+nl.length
 over:q*b+nl.length<=last+b-1
theorem taken{L b:a4}{aN:aq a4}{bs:aq (aq a4)}{ns:aq a4}(h:WI L b aN bs ns)(hb:1<=b)(last:a4)(h1:1<=last)(h2:last<=L)(n:last<=aN.length):∃q nl,Taken b aN bs ns last q nl:=by
 obtain⟨len,tF,⟨D,N,hd⟩,top⟩:=h;have fl:=Jj len;have hh:(aN.length:a4)=D.length+(bs.length:a4)*b+ns.length:=by
  rw[N,gF,gF];push_cast;omega
 have hT:last<=(bs.length:a4)*b+ns.length:=by
  rcases hd with z|z
  ·rw[z]at hh;simp at hh;omega
  ·omega
 by_cases m:last<=ns.length
 ·have U:(ns.drop (ns.length-last.toNat)).length=last.toNat:=by simp;omega
  refine⟨0,ns.drop (ns.length-last.toNat),rfl,?_,BR _,?_,by simp,by rw[U];simp;omega,by rw[U];simp;omega⟩
  ·rw[U];have:last-(last.toNat:a4)+b-1=b-1:=by omega
   rw[this];exact Int.ediv_eq_zero_of_lt (by omega) (by omega)
  ·refine⟨D++bs.flatten++ns.take (ns.length-last.toNat),?_⟩;rw[N];simp[tN]
 ·have g:ns.length-last.toNat=0:=by omega
  have f:ns.drop (ns.length-last.toNat)=ns:=by rw[g];rfl
  obtain⟨q,c⟩:=CB (show 0<=(last-ns.length+b-1)/b from FZ (by omega) (by omega));have a:(last-ns.length+b-1)/b=(q:a4):=c;have l:=Int.mul_ediv_self_le (x:=last-ns.length+b-1) (k:=b) (by omega);have i:=adW (x:=last-ns.length+b-1) (k:=b) (by omega);rw[a,Int.mul_comm]at l i;have hle:q<=bs.length:=by
   rcases BS bs.length q with z|z
   ·exfalso;have e:((bs.length:a4)+1)*b<=(q:a4)*b:=ZA (by omega) (by omega);rw[CD]at e;omega
   ·exact z
  have lend:(bs.drop (bs.length-q)).length=q:=by simp;omega
  have j:=Jj (bs:=bs.drop (bs.length-q)) λB d=>len B (Mq d);rw[lend]at j;refine⟨q,ns,f.symm,a,hle,?_,j,by omega,by omega⟩;refine⟨D++(bs.take (bs.length-q)).flatten,?_⟩;rw[N]
  conv=>lhs;rw[<-tN (bs.length-q) bs,List.flatten_append]
  simp
section
variable{Z:aH}{s:a6}{L b k n:a4}{ps:aq Po}{ns:aq a4}
noncomputable def pJ(L n:a4):A->aw a4
 |.aV=>ao (min L n)
 |.int v=>ao v
 |_=>au
theorem YR(h:rP Z s L b k n ps ns)(a:A)(v:a4)(q:pJ L n a=ao v):zV [.aE s,a] Z=if v<1\/min L n<v then ao (.exc ⟨"NoPlace",[]⟩,Z)else ao (.ok (.int v),Z):=by
 have h':Z[s]?=ao (.ins "Window" (wF L b k n (ps.map aL) (ns.map A.int))):=h;show trim Z (iI (Lk [aD s,ao a,au] Z))=_;have c:=rM (Y:=[aD s,ao a,au]) (f := "reach") rfl h' Pw;have U:=rM (Y:=[aD s,ao a,au]) (f := "many") rfl h' Px;have l:(bN (aQ sZ (aB (bU ["Window"] "reach" aM) (aB (bU ["Window"] "many" aM) a0))) (gN 2)) [aD s,ao a,au] Z=dA [aD s,ao a,aA (min L n)] Z:=by
  have o:(aB (bU ["Window"] "reach" aM) (aB (bU ["Window"] "many" aM) a0)) [aD s,ao a,au] Z=aG [.int L,.int n] Z:=iX c (iX U jF);have e:(aQ sZ (aB (bU ["Window"] "reach" aM) (aB (bU ["Window"] "many" aM) a0))) [aD s,ao a,au] Z=aG (.int (min L n)) Z:=by
   rw[aQ,bO o];simp
  unfold bN;rw[gO e];simp
 have g:(eA (bX (aC (OO ax) bK cN)) (bN bH (gN 1)) gX) [aD s,ao a,aA (min L n)] Z=dA [aD s,aA v,aA (min L n)] Z:=by
  cases a with
  |aV=>simp[pJ]at q;subst q;simp[yX]
  |int i=>simp[pJ]at q;subst q;simp[yX]
  |_=>simp[pJ]at q
 unfold Lk;rw[bY l,bY g];have h1:(1:a6)<=bf:=by decide
 generalize min L n=m
 by_cases j:v<1\/m<v
 ·rw[a9 j];have d:(eA (mS (bX (aC tD bK bM)) (bX (aC zJ bK bH))) (LW "NoPlace" (aB (cS "last goes from 1 to the length and to how many were put in") a0)) gX) [aD s,aA v,aA m] Z=ao (.exc ⟨"NoPlace",[]⟩,[aD s,aA v,aA m],Z):=by
   by_cases B:v<1
   ·simp[B,h1]
   ·have N:m<v:=j.resolve_left B;simp[B,N,h1]
  have:aX (eA (mS (bX (aC tD bK bM)) (bX (aC zJ bK bH))) (LW "NoPlace" (aB (cS "last goes from 1 to the length and to how many were put in") a0)) gX) (dB bK) [aD s,aA v,aA m] Z=ao (.exc ⟨"NoPlace",[]⟩,[aD s,aA v,aA m],Z):=by
   unfold aX;rw[d]
  rw[this];simp only[iI,trim];split <;> rfl
 ·rw[bb j];have B:¬v<1:=λz=>j (.inl z);have N:¬m<v:=λz=>j (.inr z);rw[bY (Y1:=[aD s,aA v,aA m]) (Z':=Z) (by simp[B,N])];simp
theorem aDQ(ds:aq A)(v:a4)(h1:1<=v):vU ds (ao (-v)) au=ds.drop (ds.length-v.toNat):=by
 unfold vU;have e:HT.cR ds.length 0 (ao (-v))=ds.length-v.toNat:=by
  show(if -v<0 then(-v+(ds.length:a4)).toNat else _)=_;rw[a9 (by omega)];omega
 rw[HT.Cz,e,JZ (by simp)]
def bW(k:a4)(bs:aq (aq a4))(q:a6)(nl:aq a4):aq Po:=(bs.drop (bs.length-q)).map (bE k)++[lM (unit nl)]
theorem aHQ{aN:aq a4}{bs:aq (aq a4)}{q:a6}{nl:aq a4}{last:a4}(h:rP Z s L b k n (bs.map (bE k)) ns)(hb:1<=b)(xJ:b<=63)(Q:(ns.length:a4)<b)(F:bs.length<=1000)(h1:1<=last)(T:Taken b aN bs ns last q nl) :
  CI [.aE s,.int last] Z=aG (.lst ((bW k bs q nl).map aL)) Z:=by
 have m:=h.lt;have h':Z[s]?=ao (.ins "Window" (wF L b k n ((bs.map (bE k)).map aL) (ns.map A.int))):=h;show trim Z (iI (YA [aD s,aA last,au,au] Z))=_;have E:nl.length<=ns.length:=by rw[T.Eh];simp
 have p:pG 0 "newest" (bN (sH ax (bU ["Window"] "newest" aM) (mR (LF bK)) sJ) (gN 2)) [aD s,aA last,au,au] Z=dA [aD s,aA last,cA (nl.map A.int),au] (Z.set s (.ins "Window" (putD "newest" (.lst (ns.map A.int)) (wF L b k n ((bs.map (bE k)).map aL) (ns.map A.int))))):=by
  refine Fi (c:=.lst (ns.map A.int)) (c':=.lst (ns.map A.int)) rfl h' RS rfl ?_ rfl (.inl rfl) (λj d B=>?_)
  ·have o:=HX (cls := "Window") (f := "newest") (fs:=wF L b k n ((bs.map (bE k)).map aL) (ns.map A.int)) (c:=.lst (ns.map A.int)) m;have hn:=HY (Z:=Z) (s:=s) (cls := "Window") (f := "newest") (fs:=wF L b k n ((bs.map (bE k)).map aL) (ns.map A.int)) (c:=.lst (ns.map A.int));generalize eO Z s "Window" "newest" (wF L b k n ((bs.map (bE k)).map aL) (ns.map A.int)) (.lst (ns.map A.int))=z at *;have g:=rM (Y:=[aD s,aA last,au,au]) (f := "newest") (a:=.aE Z.length) rfl o rfl;have i:dU z (.aE Z.length)=ao (ns.map A.int):=kX hn;have l:vU (ns.map A.int) (ao (-last)) au=nl.map A.int:=by
    rw[aDQ _ _ h1,jG,<-Mr,<-T.Eh]
   have e:(sH ax (bU ["Window"] "newest" aM) (mR (LF bK)) sJ) [aD s,aA last,au,au] z=aG (.lst (nl.map A.int)) z:=by
    rw[sH,bO g];simp[i,l]
   unfold bN;rw[gO e];simp
  ·match j with
   |0=>exact .inl B
   |1=>exact .inl B
   |2 =>
    simp at B;subst B;exact .inr (by simp only[Cl];exact aD9 _ _)
   |3=>simp at B
   |j+4=>simp at B
 rw[ZV]at p;have G:Z.set s (.ins "Window" (wF L b k n ((bs.map (bE k)).map aL) (ns.map A.int)))=Z:=by
  apply zS;intro j
  by_cases B:s=j
  ·subst B;rw[eV m,h']
  ·rw[dZ B]
 rw[G]at p;have K:mL (last-nl.length+b-1) b:=cdiv (by omega) (by omega);have I:(bN (aC (iL) (aC (dG) (aC bV (aC (dG) bK (aQ dO (aB bH a0))) (bU ["Window"] "block" aM)) bM) (bU ["Window"] "block" aM)) (gN 3)) [aD s,aA last,cA (nl.map A.int),au] Z=dA [aD s,aA last,cA (nl.map A.int),aA q] Z:=by
  have g:=rM (Y:=[aD s,aA last,cA (nl.map A.int),au]) (f := "block") rfl h' ZZ;have U:fX Z (.lst (nl.map A.int))=ao (nl.map A.int):=rfl;have w:(aC (dG) bK (aQ dO (aB bH a0))) [aD s,aA last,cA (nl.map A.int),au] Z=aG (.int (last-nl.length)) Z:=by
   have hl:(nl.map A.int).length=nl.length:=by simp
   generalize nl.map A.int=D at U hl;simp[U,hl]
  have v:(aC bV (aC (dG) bK (aQ dO (aB bH a0))) (bU ["Window"] "block" aM)) [aD s,aA last,cA (nl.map A.int),au] Z=aG (.int (last-nl.length+b)) Z:=by
   rw[aC,bO w,bO g];simp
  have u:(aC (dG) (aC bV (aC (dG) bK (aQ dO (aB bH a0))) (bU ["Window"] "block" aM)) bM) [aD s,aA last,cA (nl.map A.int),au] Z=aG (.int (last-nl.length+b-1)) Z:=by
   rw[aC,bO v];simp
  have t:(aC (iL) (aC (dG) (aC bV (aC (dG) bK (aQ dO (aB bH a0))) (bU ["Window"] "block" aM)) bM) (bU ["Window"] "block" aM)) [aD s,aA last,cA (nl.map A.int),au] Z=aG (.int q) Z:=by
   rw[aC,bO u,bO g,<-T.al7];simp[K]
  unfold bN;rw[gO t];generalize nl.map A.int=D;simp
 have H:yL 0 "full" (aC bV (sH ax (bU ["Window"] "full" aM) (mR (aC (dG) (aQ dO (aB (bU ["Window"] "full" aM) a0)) dJ)) sJ) (fM ax (aB (aQ (bI 1 rY) (aB bH a0)) a0))) [aD s,aA last,cA (nl.map A.int),aA q] Z=aG (.lst ((bW k bs q nl).map aL)) Z:=by
  refine Wv (c:=.lst ((bs.map (bE k)).map aL)) rfl h' KZ rfl ?_ (by simp only[Cl];exact XI _ _);have o:=HX (cls := "Window") (f := "full") (fs:=wF L b k n ((bs.map (bE k)).map aL) (ns.map A.int)) (c:=.lst ((bs.map (bE k)).map aL)) m;have hn:=HY (Z:=Z) (s:=s) (cls := "Window") (f := "full") (fs:=wF L b k n ((bs.map (bE k)).map aL) (ns.map A.int)) (c:=.lst ((bs.map (bE k)).map aL));generalize eO Z s "Window" "full" (wF L b k n ((bs.map (bE k)).map aL) (ns.map A.int)) (.lst ((bs.map (bE k)).map aL))=z at *;generalize N:([aD s,aA last,cA (nl.map A.int),aA q]:Ev)=Y;have r0:Y[0]?=ao (aD s):=by rw[<-N];rfl
  have C:bH Y z=aG (.lst (nl.map A.int)) z:=by rw[<-N];rfl
  have y:dJ Y z=aG (.int q) z:=by rw[<-N];rfl
  have g:=rM (Y:=Y) (f := "full") (a:=.aE Z.length) r0 o rfl;have i:dU z (.aE Z.length)=ao ((bs.map (bE k)).map aL):=kX hn;have U:fX z (.aE Z.length)=ao ((bs.map (bE k)).map aL):=i;have x:((bs.map (bE k)).map aL).length=bs.length:=by simp
  have w:(aQ dO (aB (bU ["Window"] "full" aM) a0)) Y z=aG (.int bs.length) z:=by
   have r:(aB (bU ["Window"] "full" aM) a0) Y z=aG [.aE Z.length] z:=iX g jF;rw[aQ,bO r];simp only[dO,U,x]
  have v:(aC (dG) (aQ dO (aB (bU ["Window"] "full" aM) a0)) dJ) Y z=aG (.int ((bs.length-q:a6):a4)) z:=by
   have P:=T.Dl;have:(bs.length:a4)-q=((bs.length-q:a6):a4):=by omega
   rw[aC,bO w,bO y,<-this];simp
  have u:(sH ax (bU ["Window"] "full" aM) (mR (aC (dG) (aQ dO (aB (bU ["Window"] "full" aM) a0)) dJ)) sJ) Y z=aG (.lst (((bs.drop (bs.length-q)).map (bE k)).map aL)) z:=by
   have l:=aDT ((bs.map (bE k)).map aL) (bs.length-q) (by rw[x];omega);rw[<-Mr,<-Mr]at l;have pt:(mR (aC (dG) (aQ dO (aB (bU ["Window"] "full" aM) a0)) dJ)) Y z=aG (ao ((bs.length-q:a6):a4)) z:=by
    rw[mR,bO v];rfl
   have s0:sJ Y z=aG au z:=rfl;rw[sH,bO g,bO pt,bO s0];simp only[Jd,i,l];rfl
  have po:=adK nl (by omega) (.lst (nl.map A.int)) z (λ_=>rfl);have t:(fM ax (aB (aQ (bI 1 rY) (aB bH a0)) a0)) Y z=aG (.lst [aL (lM (unit nl))]) z:=by
   have r:(aB bH a0) Y z=aG [.lst (nl.map A.int)] z:=iX C jF;have M:(aQ (bI 1 rY) (aB bH a0)) Y z=aG (aL (lM (unit nl))) z:=by
    rw[aQ,bO r];simp[bI,po]
   exact aBM (iX M jF) (by simp)
  have:=aBN u t (by simp;omega);have em:(bW k bs q nl).map aL=((bs.drop (bs.length-q)).map (bE k)).map aL++[aL (lM (unit nl))]:=by simp[bW]
  rw[em];exact this
 have e:YA [aD s,aA last,au,au] Z=ao (.ret (.lst ((bW k bs q nl).map aL)),[aD s,aA last,cA (nl.map A.int),aA q],Z):=by
  unfold YA;rw[bY p,bY I];exact Df H
 rw[e];simp only[tX];exact wR
theorem abH{p q:Po}(h:aL p=aL q):p.s=q.s/\p.l=q.l:=by
 simp[aL,qQ]at h;exact⟨h.1,h.2.1⟩
theorem aGA(p:Po)(Z:aH):bB (aL p) (.int 0) Z=aG (.int p.s) Z:=by simp[aL,qQ]
theorem aGB(p:Po)(Z:aH):bB (aL p) (.int 1) Z=aG (.int p.l) Z:=by simp[aL,qQ]
noncomputable def nP(j:aq Po):a4:=(j.map (·.s)).sum
noncomputable def pD(j:aq Po):a4:=(j.map (·.l)).sum
theorem adM(j:aq Po)(hz:j.length<=100000)(last:a4)(Z:aH):RJ [.lst (j.map aL),.int last] Z=aG (.int (nP j-last)) Z:=by
 have q:acK [cA (j.map aL),aA last] Z=aG (.lst (j.map λp=>A.int p.s)) Z :=
  CY (n:=1) (js:=[]) (fi:=gW aM) (g:=gN 0) (Y:=[cA (j.map aL),aA last]) (Z:=Z) (Z0:=Z) (S:=srcOf (.lst (j.map aL)) (j.map aL)) j aL (λp=>A.int p.s) (λY=>∃y,Y=[y]) (λx y e=>by rw[(abH e).1])
   (by simp) (λz=>by simp[srcOf]) ⟨au,by simp[nT]⟩ rfl (by omega) (λp c Y U z=>by
    obtain⟨y,rfl⟩:=U;have e:=aGA p (Z++[.lst z]);generalize aL p=P at e;refine⟨[ao P],⟨_,rfl⟩,by simp,?_⟩;rw[aC,bO (x:=P) (Z':=Z++[.lst z]) (by simp),bO (x:=A.int 0) (Z':=Z++[.lst z]) (by simp)];exact e) (λx _=>by simp only[Cl])
 have N:intsOf (j.map λp=>A.int p.s)=ao (j.map (·.s)):=by
  have:=ID (j.map (·.s));rw[xW]at this;exact this
 show trim Z (iI (XX [cA (j.map aL),aA last] Z))=_;have e:XX [cA (j.map aL),aA last] Z=ao (.ret (.int (nP j-last)),[cA (j.map aL),aA last],Z):=by
  have B:dU Z (.lst (j.map λp=>A.int p.s))=ao (j.map λp=>A.int p.s):=rfl;unfold XX nP;generalize (j.map λp=>A.int p.s)=b at q B N;generalize j.map aL=a at q;simp[q,B,N]
 rw[e];simp only[tX];exact wR
end
def AS(j:aq Po):aq Rn:=(j.map λp=>Ep p.s p.es).flatten
def CG:aq (aq a4)->aq Po->Prop
 |[],[]=>True
 |B::bs,p::ps=>(Gd (unit B) p/\∀e∈p.es,e.1∈B)/\CG bs ps
 |_,_=>cp
theorem afA(R S:aq Rn):whole (R++S)=whole R+whole S:=by simp[whole]
theorem Qv(a b:aq a4):unit (a++b)=unit a++unit b:=by simp[unit]
theorem Wc(p:Po)(ps:aq Po):AS (p::ps)=Ep p.s p.es++AS ps:=by simp[AS]
theorem Bl(p:Po)(ps:aq Po):pD (p::ps)=p.l+pD ps:=by simp[pD]
theorem aiK(p:Po)(ps:aq Po):nP (p::ps)=p.s+nP ps:=by simp[nP]
theorem Ja:∀{bs:aq (aq a4)} {ps:aq Po},CG bs ps->whole (AS ps)=nP ps/\nP ps=bs.flatten.length/\0<=pD ps
 |[],[],_=>by simp[AS,pD,nP,whole]
 |B::bs,p::ps,h=>by
  obtain⟨a,b,c⟩:=Ja h.2;have e:=ar2 h.1.1;have j:=h.1.1.sz;have q:=h.1.1.gf.l0;rw[CZ]at j;rw[KG,gF,Wc,afA,Bl,aiK];push_cast;omega
theorem aaK:∀{bs:aq (aq a4)} {ps:aq Po} {B:aq a4} {p:Po},CG bs ps->Gd (unit B) p->(∀e∈p.es,e.1∈B)->CG (bs++[B]) (ps++[p])
 |[],[],_,_,_,h1,h2=>⟨⟨h1,h2⟩,trivial⟩
 |_::_,_::_,_,_,h,h1,h2=>⟨h.1,aaK h.2 h1 h2⟩
theorem Vi(ns:aq a4):∀e∈(lM (unit ns)).es,e.1∈ns:=λe he=>by
 have j:e∈hX 0 (dR (unit ns)):=he;obtain⟨r,hr,q⟩:=oZ.mp (Vm _ _ e j);obtain⟨B,bs,z⟩:=List.append_of_mem hr;have:=(Ds z).2.2;rw[<-q];simpa[unit]using this
theorem aaJ{k:a4}(j:1<=k):∀(bs:aq (aq a4)),CG bs (bs.map (bE k))
 |[]=>trivial
 |B::bs=>⟨⟨(OK (AG B)).mV k j,λe he=>Vi B e ((Ba _ _).subset he)⟩,aaJ j bs⟩
theorem Jb{k:a4}(j:1<=k)(bs:aq (aq a4))(q:a6)(nl:aq a4):CG (bs.drop (bs.length-q)++[nl]) (bW k bs q nl) :=
 aaK (aaJ j _) (OK (AG nl)) (Vi nl)
theorem Er:∀(ps:aq Po),(AS ps).length=(ps.map λp=>p.es.length).sum
 |[]=>rfl
 |p::ps=>by
  rw[Wc,gF,Er ps];show(vK p.s p.es 0 p.es).length+_=_;rw[Vz];simp
theorem Vk(ns:aq a4):(lM (unit ns)).es.length<=ns.length:=by
 have:=Eb (dR (unit ns)) 0 λr hr=>Az (AG ns) hr;rw[Aa,CZ]at this;show(hX 0 (dR (unit ns))).length<=_;omega
theorem aFP{k:a6}(j:1<=k)(ns:aq a4):(bE k ns).es.length<=ns.length/\(bE k ns).es.length<=2*k:=by
 have g:=OK (AG ns);have t:=ahI g.gf k j;have o:=Vk ns;have l:=(Ba ((lM (unit ns)).l+(lM (unit ns)).s/(k:a4)) (lM (unit ns)).es).length_le;exact⟨rT l o,t⟩
theorem Kl{k:a6}(j:1<=k)(b:a6):∀(bs:aq (aq a4)),(∀B∈bs,B.length=b)->((bs.map (bE k)).map λp=>p.es.length).sum<=bs.length*b/\((bs.map (bE k)).map λp=>p.es.length).sum<=bs.length*(2*k)
 |[],_=>by simp
 |B::bs,h=>by
  obtain⟨a,c⟩:=Kl j b bs λC q=>h C (by simp[q]);obtain⟨d,e⟩:=aFP j B;have z:=h B (by simp);simp only[dE,zO,iZ,Nat.add_mul,Nat.one_mul];omega
theorem anH{k:a4}{L b:a4}{aN:aq a4}{bs:aq (aq a4)}{ns nl:aq a4}{q:a6}{last:a4}(n:1<=k)(o:k<=12)(h:WI L b aN bs ns)(T:Taken b aN bs ns last q nl)(hb:1<=b)(xJ:b<=40)(hl:last<=40):(AS (bW k bs q nl)).length<=63:=by
 obtain⟨N,rfl⟩:=CB (show 0<=k by omega);obtain⟨j,rfl⟩:=CB (show 0<=b by omega);have hd:(bs.drop (bs.length-q)).length=q:=by have:=T.Dl;simp;omega
 obtain⟨d,a⟩:=Kl (k:=N) (by omega) j (bs.drop (bs.length-q)) λB f=>by
  have:=h.len B (Mq f);omega
 rw[hd]at d a;have ol:=Vk nl;have e:(AS (bW (N:a4) bs q nl)).length=(((bs.drop (bs.length-q)).map (bE N)).map λp=>p.es.length).sum+(lM (unit nl)).es.length:=by
  rw[Er];simp[bW]
 rw[e];have l:=T.over;have U:q*j+nl.length<=last.toNat+j-1:=by
  have:((q*j:a6):a4)=(q:a4)*(j:a4):=by push_cast;rfl
  omega
 have m:nl.length<j:=by
  have:=h.tF;have:nl.length<=ns.length:=by rw[T.Eh];simp
  omega
 have g:q*(2*N)<=q*24:=Nat.mul_le_mul_left _ (by omega)
 by_cases c:j<=24
 ·omega
 ·have i:q<=2:=by
   rcases BS 2 q with z|z
   ·exfalso;have:3*j<=q*j:=Nat.mul_le_mul_right _ z;omega
   ·exact z
  rcases(show q=0\/q=1\/q=2 by omega)with rfl|rfl|rfl <;> omega
theorem JC:∀(xs:aq a4) (n:a4),eG (unit xs) n=((xs.filter λx=>decide (x<=n)).length:a4)
 |[],n=>by simp[unit,eG]
 |x::xs,n=>by
  have ih:=JC xs n;have e:eG (unit (x::xs)) n=(if x<=n then 1 else 0)+eG (unit xs) n:=by simp[unit,eG]
  rw[e,ih,List.filter_cons]
  by_cases c:x<=n <;> simp[c] <;> omega
def yQ(k:a4)(bs:aq (aq a4))(q:a6)(nl:aq a4)(last:a4):a4:=nP (bW k bs q nl)-last+pD (bW k bs q nl)
theorem rL{nm:ba}{i m:a6}{das:aq A}{F:aq A->Mo A}{args:Ev->Mo (aq A)}{as:aq A}{Y:Ev}{Z:aH}{s:a6}{fs:aq (ba×Fd)}(B:Y[i]?=ao (aD s))(q:Z[s]?=ao (.ins "Window" fs))(hl:fs.lookup nm=au)(z:args Y Z=aG as Z)(hn:as.length+1+das.length=m) :
  (eR nm [("Window",eN m das F)] (eM i) args) Y Z=F (.aE s::(as++das)) Z:=by
 have e:(eM i) Y Z=aG (.aE s) Z:=by simp[B]
 have j:(A.aE s::as).length+das.length=m:=by simp;omega
 unfold eR;rw[bO e];simp only[WK,q,List.lookup,hl,XN,bO z,eN,j,eT,QX]
theorem QE{f:Ev->Mo A}{j:a6}{Y:Ev}{Z Z':aH}{a:A}(q:j<Y.length)(h:f Y Z=aG a Z'):bN f (gN j) Y Z=dA (Y.set j (ao a)) Z':=by
 unfold bN;rw[gO h];simp[q]
theorem acR{f:Ev->Mo A}{g:A->MS}{Y:Ev}{Z Z':aH}{x:Exc}(h:f Y Z=ao (.exc x,Z')):bN f g Y Z=ao (.exc x,Y,Z'):=by
 unfold bN sM;rw[h]
structure iN(Z:aH)(s:a6)(L b k:a4)(aN:aq a4)(bs:aq (aq a4))(ns:aq a4):Prop where
 at_:rP Z s L b k aN.length (bs.map (bE k)) ns
 wi:WI L b aN bs ns
 L1:1<=L
 L2:L<=40
 b1:1<=b
 b2:b<=40
 k1:1<=k
 k2:k<=12
section
variable{Z:aH}{s:a6}{L b k:a4}{aN:aq a4}{bs:aq (aq a4)}{ns:aq a4}
theorem iN.parts(h:iN Z s L b k aN bs ns){last:a4}{q:a6}{nl:aq a4}(h1:1<=last)(T:Taken b aN bs ns last q nl):CI [.aE s,.int last] Z=aG (.lst ((bW k bs q nl).map aL)) Z :=
 aHQ h.at_ h.b1 (by have:=h.b2;omega) h.wi.tF (by have:=h.wi.WV h.b1 h.L2;omega) h1 T
theorem iN.tF(h:iN Z s L b k aN bs ns)(q:a6)(nl:aq a4):(bW k bs q nl).length<=100:=by
 have:=h.wi.WV h.b1 h.L2;simp[bW];omega
theorem aHH(h:iN Z s L b k aN bs ns)(a:A)(v:a4)(f:pJ L aN.length a=ao v)(h1:1<=v)(h2:v<=min L aN.length){q:a6}{nl:aq a4}(T:Taken b aN bs ns v q nl) :
  qU [.aE s,a] Z=aG (.int (yQ k bs q nl v)) Z:=by
 have z:=YR h.at_ a v f;rw[bb (by omega)]at z;have d:=h.parts h1 T;have u:=h.tF q nl;have U:Z[s]?=ao (.ins "Window" (wF L b k aN.length ((bs.map (bE k)).map aL) (ns.map A.int))):=h.at_;have be:=adM (bW k bs q nl) (by omega) v Z;show trim Z (iI (EZ [aD s,ao a,au] Z))=_;have o:(eR "look_last" [("Window",eN 2 [] zV)] aM (aB bK a0)) [aD s,ao a,au] Z=aG (.int v) Z:=by
  refine Eq.trans (rL (as:=[a]) (s:=s) rfl U rfl ?_ rfl) z;exact iX rfl jF
 have m:(eR "parts" [("Window",eN 2 [] CI)] aM (aB bK a0)) [aD s,aA v,au] Z=aG (.lst ((bW k bs q nl).map aL)) Z:=by
  refine Eq.trans (rL (as:=[.int v]) (s:=s) rfl U rfl ?_ rfl) d;exact iX rfl jF
 have c:Lj [aD s,aA v,cA ((bW k bs q nl).map aL)] Z=aG (.lst ((bW k bs q nl).map λp=>A.int p.l)) Z :=
  CY (n:=1) (js:=[]) (fi:=gW bH) (g:=gN 0) (Y:=[aD s,aA v,cA ((bW k bs q nl).map aL)]) (Z:=Z) (Z0:=Z) (S:=srcOf (.lst ((bW k bs q nl).map aL)) ((bW k bs q nl).map aL)) (bW k bs q nl) aL (λp=>A.int p.l) (λY=>∃y,Y=[y]) (λx y e=>by rw[(abH e).2])
   (by simp) (λj=>by simp[srcOf]) ⟨au,by simp[nT]⟩ rfl (by omega) (λp t Y i j=>by
    obtain⟨y,rfl⟩:=i;have e:=aGB p (Z++[.lst j]);generalize aL p=P at e;refine⟨[ao P],⟨_,rfl⟩,by simp,?_⟩;rw[aC,bO (x:=P) (Z':=Z++[.lst j]) (by simp),bO (x:=A.int 1) (Z':=Z++[.lst j]) (by simp)];exact e) (λx _=>by simp only[Cl])
 have N:intsOf ((bW k bs q nl).map λp=>A.int p.l)=ao ((bW k bs q nl).map (·.l)):=by
  have:=ID ((bW k bs q nl).map (·.l));rw[xW]at this;exact this
 have e:EZ [aD s,ao a,au] Z=ao (.ret (.int (yQ k bs q nl v)),[aD s,aA v,cA ((bW k bs q nl).map aL)],Z):=by
  unfold EZ;rw[bY (QE (by simp) o)];show aX _ _ [aD s,aA v,au] Z=_;rw[bY (QE (by simp) m)];show dB _ [aD s,aA v,cA ((bW k bs q nl).map aL)] Z=_;have B:dU Z (.lst ((bW k bs q nl).map λp=>A.int p.l))=ao ((bW k bs q nl).map λp=>A.int p.l):=rfl;refine Df ?_;have b1:(aQ (bI 2 RJ) (aB bH (aB bK a0))) [aD s,aA v,cA ((bW k bs q nl).map aL)] Z=aG (.int (nP (bW k bs q nl)-v)) Z:=aa5 rfl rfl be;have b2:(aQ xK (aB Lj a0)) [aD s,aA v,cA ((bW k bs q nl).map aL)] Z=aG (.int (pD (bW k bs q nl))) Z:=by
   rw[aQ,bO (iX c jF)];unfold pD;generalize ((bW k bs q nl).map λp=>A.int p.l)=r at B N;simp[B,N]
  show(aC bV _ _) _ Z=_;rw[aC,bO b1,bO b2];unfold yQ;simp
 rw[e];simp only[tX];exact wR
end
open Classical in
theorem agK{α:Type}{n:a6}{js:aq a6}{fi:Ev->Mo Src}{g:A->MS}{c:Ev->Mo br}{e:Ev->Mo A}{Y:Ev}{Z Z0:aH}{S:Src}(xs:aq α)(enc ae:α->A)(kp:α->br)(P:Ev->Prop)(inj:∀x y,enc x=enc y->ae x=ae y/\kp x=kp y)
  (h0:fi Y Z=aG S Z0) (aK:∀ys,S.ok (Z0++[.lst ys])) (hP:P (nT n js Y)) (hS:S.ds=xs.map enc) (hl:xs.length<=1000000)
  (step:∀x∈xs,∀Y,P Y->∀ys,∃Y1,P Y1/\g (enc x) Y (Z0++[.lst ys])=dA Y1 (Z0++[.lst ys])/\c Y1 (Z0++[.lst ys])=aG (kp x) (Z0++[.lst ys])/\e Y1 (Z0++[.lst ys])=aG (ae x) (Z0++[.lst ys]))
  (hc:∀x∈xs,Cl Z0.length (ae x)):mT ax n js fi g c e Y Z=aG (.lst ((xs.filter kp).map ae)) Z0:=by
 let F:A->aw A:=λa=>if h:∃x,x∈xs/\enc x=a then(if kp (Classical.choose h)=a5 then ao (ae (Classical.choose h))else au)else au
 have hF:∀x∈xs,F (enc x)=if kp x=a5 then ao (ae x)else au:=λx hx=>by
  have h:∃y,y∈xs/\enc y=enc x:=⟨x,hx,rfl⟩;show(if h:∃y,y∈xs/\enc y=enc x then(if kp (Classical.choose h)=a5 then ao (ae (Classical.choose h))else au)else au)=_;have q:=inj _ _ (CM h).2;rw[JA h,q.1,q.2]
 have ef:∀l:aq α,(∀x∈l,x∈xs)->(l.map enc).filterMap F=(l.filter kp).map ae:=by
  intro l
  induction l with
  |nil=>intro _;rfl
  |cons x r ih =>
   intro h;have q:=hF x (h x (by simp))
   by_cases hk:kp x=a5
   ·rw[a9 hk]at q;simp only[dE,zR,q,ih λy hy=>h y (by simp[hy]),List.filter_cons,hk,eT]
   ·rw[bb hk]at q;simp only[dE,zR,q,ih λy hy=>h y (by simp[hy]),List.filter_cons,bb hk]
 have q:=Am (n:=n) (js:=js) (fi:=fi) (g:=g) (c:=c) (e:=e) (Y:=Y) (Z:=Z) (Z0:=Z0) (S:=S) F P h0 aK hP (by rw[hS];simpa using hl) (λx hx Y hp ys=>by
  rw[hS]at hx;obtain⟨y,hy,rfl⟩:=oZ.mp hx;obtain⟨Y1,h1,h2,h3,h4⟩:=step y hy Y hp ys;have q:=hF y hy
  by_cases hk:kp y=a5
  ·rw[a9 hk]at q;rw[hk]at h3;exact⟨Y1,h1,h2,.inl ⟨ae y,q,h3,h4⟩⟩
  ·rw[bb hk]at q;rw[Bool.eq_false_iff.mpr hk]at h3;exact⟨Y1,h1,h2,.inr ⟨q,h3⟩⟩) (by
  rw[hS,ef xs λ_ h=>h];exact ER λa ha=>by
   obtain⟨x,hx,rfl⟩:=oZ.mp ha;exact hc x (List.mem_filter.mp hx).1)
 rw[hS,ef xs λ_ h=>h]at q;exact q
section
variable{Z:aH}{s r:a6}{L b k:a4}{aN:aq a4}{bs:aq (aq a4)}{ns:aq a4}
noncomputable abbrev Jz:aq ba:=["RankError", "NoRow", "NoPlace", "NoPouch", "NoSize", "Wrong", "NoTimes", "Unlike", "NoText"]
end
theorem adI(c:a4)(d:0<=c):∃L b k:a4,1<=L/\L<=40/\1<=b/\b<=40/\1<=k/\k<=12/\∀Z,yA [.int c] Z=aG (.tup [.int L,.int b,.int k]) Z:=by
 have j:(3:a6)<=bf:=by decide
 have a:mL c 40:=⟨by decide,by decide⟩;have U:mL c 480:=⟨by decide,by decide⟩;have N:mL c 2880:=⟨by decide,by decide⟩;have B:mL c 115200:=⟨by decide,by decide⟩;have z:mL (1+c%40) 12:=⟨by decide,by decide⟩
 by_cases q:c/480%6=0
 ·refine⟨1+c%40,max (1+c/2880%40) ((1+c%40)/12),1+c/115200%12,by omega,by omega,by omega,by omega,by omega,by omega,λZ=>?_⟩;simp[yA,Lb,a,U,N,B,z,q,j]
 ·refine⟨1+c%40,max (1+c/40%12) ((1+c%40)/12),1+c/115200%12,by omega,by omega,by omega,by omega,by omega,by omega,λZ=>?_⟩;simp[yA,Lb,a,U,N,B,z,q,j]
theorem aHM(ns:aq a4):∃n:a6,n<=58/\∀Z,CH [.gG ns,.int 5,.int 58] Z=aG (.int n) Z:=by
 have c:=λZ=>JV ns 4 Z (by decide) (by decide);have j:=JH ns 4;generalize vW ns 4=x at c j;have hl:∀Z,dU Z (.gG ns)=ao (ns.map A.int):=λ_=>rfl;obtain⟨n,hn⟩:=CB (show 0<=min 58 (max (max 0 ((ns.length:a4)-5)) (x%59))by omega);refine⟨n,by omega,λZ=>?_⟩;simp[CH,acM,bI,c];omega
theorem aHN(ns:aq a4)(e:ns.length<=63)(k:a6)(g:k<=60):∃c:a4,0<=c/\c<2147483587/\∀Z,ZK [.gG ns,.int 5,.int k] Z=aG (.int c) Z:=by
 have hm:(0:a4)<max 1 (max 0 ((ns.length:a4)-5)):=by omega
 have d:max 1 (max 0 ((ns.length:a4)-5))<=100:=by omega
 generalize j:max 1 (max 0 ((ns.length:a4)-5))=x at hm d;have a:=FY (k:a4) (show x≠0 by omega);have U:=CC (k:a4) hm;generalize N:(k:a4)%x=y at a U;have c:=λZ=>JV ns (5+y) Z (by omega) (by omega);have q:=JH ns (5+y);have b:=ab4 ns (5+y);generalize vW ns (5+y)=z at c q b;have m:=λZ=>QS z k Z q (by omega) (by omega) (by omega);refine⟨AR z k,UI _ _,Eo _ _,λZ=>?_⟩;have B:(aQ zI (aB bP (aB (aC (dG) (aQ dO (aB aM a0)) bK) a0))) [ao (.gG ns),aA 5,aA k,au] Z=aG (.int (max 0 ((ns.length:a4)-5))) Z:=by simp
 show trim Z (iI (Kz [ao (.gG ns),aA 5,aA k,au] Z))=_;unfold Kz;rw[bY (Y1:=[ao (.gG ns),aA 5,aA k,aA (max 0 ((ns.length:a4)-5))]) (Z':=Z) (by
  unfold bN;rw[gO B];simp)]
 generalize f:max 0 ((ns.length:a4)-5)=w at j;simp[bI,j,hm,N,c,m]
open Classical in
noncomputable def mU(x:a4)(p:Po):a6:=if h:∃m,m<=p.es.length/\∀(i:a6) (e:E),p.es[i]?=ao e->(!ah x a5 e)=decide (m<=i)then Classical.choose h else 0
noncomputable def rH(x:a4)(p:Po):a4:=mZ p.es (mU x p)
noncomputable def sW(x:a4)(p:Po):a4:=nC p.s p.es (mU x p)
theorem Et{R:aq Rn}{p:Po}(h:Gd R p)(x:a4):mU x p<=p.es.length/\∀(i:a6) (e:E),p.es[i]?=ao e->(!ah x a5 e)=decide (mU x p<=i):=by
 have j:=aDR h.gf x a5;unfold mU;rw[JA j];exact CM j
theorem U6{R:aq Rn}{p:Po}(h:Gd R p)(x:a4):0<=rH x p/\rH x p<=eG R x/\eG R x<=sW x p/\sW x p-rH x p<=p.l:=by
 obtain⟨hm,j⟩:=Et h x;obtain⟨b1,b2,z⟩:=bnd h x a5 _ hm j;obtain⟨q,_,_⟩:=aDP h.gf x a5 _ hm j;exact⟨z,b1,b2,q⟩
theorem abJ:∀{a b:aq E},encL a=encL b->a=b
 |[],[],_=>rfl
 |[],_::_,h=>by simp[encL]at h
 |_::_,[],h=>by simp[encL]at h
 |⟨x,y,z⟩::a,⟨B,q,j⟩::b,h=>by
  simp only[encL,dE,xX]at h;have e:=abJ (a:=a) (b:=b) h.2;have h1:=h.1;simp[dM]at h1;obtain⟨rfl,rfl,rfl⟩:=h1;rw[e]
theorem abI{p q:Po}(h:aL p=aL q):p=q:=by
 cases p with
 |mk s l d es =>
  cases q with
  |mk s' j d' fE =>
   simp[aL,qQ]at h;obtain⟨rfl,rfl,rfl,h⟩:=h;rw[abJ h]
noncomputable def rC(x:a4)(ps:aq Po):a4:=(ps.map (rH x)).sum
noncomputable def sI(x:a4)(ps:aq Po):a4:=(ps.map (sW x)).sum
theorem aaI(x:a4):∀{bs:aq (aq a4)} {ps:aq Po},CG bs ps->0<=rC x ps/\rC x ps<=eG (unit bs.flatten) x/\eG (unit bs.flatten) x<=sI x ps/\sI x ps-rC x ps<=pD ps
 |[],[],_=>by simp[rC,sI,pD,unit,eG]
 |B::bs,p::ps,h=>by
  obtain⟨a,b,c,d⟩:=aaI x h.2;obtain⟨e,f,g,i⟩:=U6 h.1.1 x;have j:rC x (p::ps)=rH x p+rC x ps:=by simp[rC]
  have s2:sI x (p::ps)=sW x p+sI x ps:=by simp[sI]
  rw[KG,Qv,Qu,j,s2,Bl];omega
noncomputable def iT(x y:a4):A:=.tup [.int x,.int y]
theorem aHL(ps:aq (a4×a4))(hz:ps.length<=100000)(Z:aH):ZI [.lst (ps.map λp:a4×a4=>iT p.1 p.2)] Z=aG (.tup [.int (ps.map (·.1)).sum,.int (ps.map (·.2)).sum]) Z:=by
 have inj:∀x y:a4×a4,iT x.1 x.2=iT y.1 y.2->x=y:=λx y e=>by
  cases x;cases y;simp[iT]at e;simp[e]
 have z:acH [cA (ps.map λp:a4×a4=>iT p.1 p.2)] Z=aG (.lst (ps.map λp=>A.int p.2)) Z :=
  CY (n:=1) (js:=[]) (fi:=gW aM) (g:=gN 0) (Y:=[cA (ps.map λp:a4×a4=>iT p.1 p.2)]) (Z:=Z) (Z0:=Z) (S:=srcOf (.lst (ps.map λp:a4×a4=>iT p.1 p.2)) (ps.map λp:a4×a4=>iT p.1 p.2)) ps (λp:a4×a4=>iT p.1 p.2) (λp:a4×a4=>A.int p.2) (λY=>∃y,Y=[y]) (λx y e=>by rw[inj x y e])
   (by simp) (λj=>by simp[srcOf]) ⟨au,by simp[nT]⟩ rfl (by omega) (λp a Y B j=>by
    obtain⟨y,rfl⟩:=B;exact⟨[ao (iT p.1 p.2)],⟨_,rfl⟩,by simp,by simp[iT]⟩) (λx _=>by simp only[Cl])
 have q:acG [cA (ps.map λp:a4×a4=>iT p.1 p.2)] Z=aG (.lst (ps.map λp=>A.int p.1)) Z :=
  CY (n:=1) (js:=[]) (fi:=gW aM) (g:=gN 0) (Y:=[cA (ps.map λp:a4×a4=>iT p.1 p.2)]) (Z:=Z) (Z0:=Z) (S:=srcOf (.lst (ps.map λp:a4×a4=>iT p.1 p.2)) (ps.map λp:a4×a4=>iT p.1 p.2)) ps (λp:a4×a4=>iT p.1 p.2) (λp:a4×a4=>A.int p.1) (λY=>∃y,Y=[y]) (λx y e=>by rw[inj x y e])
   (by simp) (λj=>by simp[srcOf]) ⟨au,by simp[nT]⟩ rfl (by omega) (λp a Y B j=>by
    obtain⟨y,rfl⟩:=B;exact⟨[ao (iT p.1 p.2)],⟨_,rfl⟩,by simp,by simp[iT]⟩) (λx _=>by simp only[Cl])
 have U:intsOf (ps.map λp=>A.int p.1)=ao (ps.map (·.1)):=by
  have:=ID (ps.map (·.1));rw[xW]at this;exact this
 have N:intsOf (ps.map λp=>A.int p.2)=ao (ps.map (·.2)):=by
  have:=ID (ps.map (·.2));rw[xW]at this;exact this
 have s2:(2:a6)<=bf:=by decide
 show trim Z (iI (XO [cA (ps.map λp:a4×a4=>iT p.1 p.2)] Z))=_;have e:XO [cA (ps.map λp:a4×a4=>iT p.1 p.2)] Z=ao (.ret (.tup [.int (ps.map (·.1)).sum,.int (ps.map (·.2)).sum]),[cA (ps.map λp:a4×a4=>iT p.1 p.2)],Z):=by
  unfold XO;generalize (ps.map λp=>A.int p.1)=d at q U;generalize (ps.map λp=>A.int p.2)=c at z N;generalize (ps.map λp:a4×a4=>iT p.1 p.2)=b at z q;simp[z,q,U,N,s2]
 rw[e];simp only[tX];exact wR
section
variable{Z:aH}{s:a6}{L b k:a4}{aN:aq a4}{bs:aq (aq a4)}{ns:aq a4}
theorem anI(h:iN Z s L b k aN bs ns){v:a4}{q:a6}{nl:aq a4}(hv:v<=L)(T:Taken b aN bs ns v q nl):∀p∈bW k bs q nl,p.es.length<=1000:=λr hr=>by
 have tF:=anH h.k1 h.k2 h.wi T h.b1 h.b2 (by have:=h.L2;omega);have:∀(j:aq Po),r∈j->r.es.length<=(j.map λp=>p.es.length).sum:=by
  intro j
  induction j with
  |nil=>intro z;cases z
  |cons x B ih =>
   intro z;rw[dE,zO]
   rcases dY.mp z with y|y
   ·subst y;omega
   ·have:=ih y;omega
 have:=this _ hr;rw[<-Er]at this;omega
theorem aaL:∀{bs:aq (aq a4)} {ps:aq Po},CG bs ps->∀p∈ps,∃R,Gd R p
 |[],[],_,p,j=>by cases j
 |B::bs,q::ps,h,p,j=>by
  rcases dY.mp j with z|z
  ·subst z;exact⟨_,h.1.1⟩
  ·exact aaL h.2 p z
theorem ahC{last:a4}{q:a6}{nl:aq a4}(a:1<=k)(T:Taken b aN bs ns last q nl)(h1:1<=last)(x:a4):∃lo hi:a4,lo=max 0 (rC x (bW k bs q nl)-(nP (bW k bs q nl)-last))/\hi=min last (sI x (bW k bs q nl))/\0<=lo /\
  lo<=(((aN.drop (aN.length-last.toNat)).filter λy=>decide (y<=x)).length:a4)/\(((aN.drop (aN.length-last.toNat)).filter λy=>decide (y<=x)).length:a4)<=hi/\hi<=last/\hi-lo<=yQ k bs q nl last:=by
 have g:=Jb a bs q nl;obtain⟨w1,w2,w3⟩:=Ja g;obtain⟨a0,U,N,p⟩:=aaI x g;have B:(bs.drop (bs.length-q)++[nl]).flatten=(bs.drop (bs.length-q)).flatten++nl:=by simp
 rw[B]at w2 U N;have hm:=T.many;have he:=T.abC;rw[gF]at w2;push_cast at w2;have hS:last<=nP (bW k bs q nl):=by omega
 refine⟨_,_,rfl,rfl,by omega,?_⟩;unfold yQ;obtain⟨ρ,z⟩:=T.suf;generalize d:(bs.drop (bs.length-q)).flatten++nl=K at z B U N;have c:(K.length:a4)=nP (bW k bs q nl):=by rw[<-d,gF];push_cast;omega
 have j:aN.drop (aN.length-last.toNat)=K.drop (K.length-last.toNat):=by
  rw[z,gF,List.drop_append];have:ρ.drop (ρ.length+K.length-last.toNat)=[]:=adS (by omega);rw[this,wH];congr 1;omega
 have fl:=List.length_filter_le (λy=>decide (y<=x)) (K.drop (K.length-last.toNat));rw[KC]at fl;rw[j,<-JC];rw[<-j]at fl;have e:K=K.take (K.length-last.toNat)++K.drop (K.length-last.toNat):=(tN _ _).symm;have o:eG (unit K) x=eG (unit (K.take (K.length-last.toNat))) x+eG (unit (K.drop (K.length-last.toNat))) x:=by
  conv=>lhs;rw[e]
  rw[Qv,Qu]
 have n:0<=eG (unit (K.take (K.length-last.toNat))) x:=by rw[JC];omega
 have m:eG (unit (K.take (K.length-last.toNat))) x<=nP (bW k bs q nl)-last:=by
  rw[JC];have:=List.length_filter_le (λy=>decide (y<=x)) (K.take (K.length-last.toNat));have l:(K.take (K.length-last.toNat)).length=K.length-last.toNat:=by simp
  omega
 have i:eG (unit (K.drop (K.length-last.toNat))) x<=last:=by
  rw[JC,<-j];omega
 have h:0<=eG (unit (K.drop (K.length-last.toNat))) x:=by rw[JC];omega
 generalize eG (unit (K.drop (K.length-last.toNat))) x=f at *;generalize rC x (bW k bs q nl)=lo at *;generalize sI x (bW k bs q nl)=hi at *;refine⟨?_,?_,?_,?_⟩ <;> omega
theorem ap4{last:a4}{q:a6}{nl:aq a4}(h:iN Z s L b k aN bs ns)(T:Taken b aN bs ns last q nl)(h1:1<=last):0<=yQ k bs q nl last/\yQ k bs q nl last<=b-1+(last/b+1)*(b/k):=by
 have hb:=h.b1;have a:=h.k1;have g:=Jb a bs q nl;obtain⟨w1,w2,w3⟩:=Ja g;have f:(bs.drop (bs.length-q)++[nl]).flatten=(bs.drop (bs.length-q)).flatten++nl:=by simp
 rw[f]at w2;have hm:=T.many;have he:=T.abC;have n:=T.over;rw[gF]at w2;push_cast at w2;have sl:∀(cs:aq (aq a4)),(∀B∈cs,(B.length:a4)=b)->pD (cs.map (bE k))=cs.length*(b/k):=by
  intro cs
  induction cs with
  |nil=>intro _;simp[pD]
  |cons B r ih =>
   intro j;have i:=ih λC c=>j C (by simp[c]);have e:=j B (by simp);rw[dE,Bl,i];have:(bE k B).l=b/k:=by
    show(0:a4)+whole (unit B)/k=_;rw[CZ,e];omega
   rw[this,iZ];push_cast;rw[CD];omega
 have N:=sl (bs.drop (bs.length-q)) λB j=>h.wi.len B (Mq j);have hd:(bs.drop (bs.length-q)).length=q:=by have:=T.Dl;simp;omega
 rw[hd]at N;have s2:pD (bW k bs q nl)=q*(b/k):=by
  have:pD (bW k bs q nl)=pD ((bs.drop (bs.length-q)).map (bE k))+(lM (unit nl)).l:=by simp[bW,pD]
  rw[this,N];show _+(0:a4)=_;omega
 have U:(q:a4)<=last/b+1:=by
  have o:=adW (x:=last) (k:=b) (by omega)
  rcases Int.lt_or_le (last/b+1) (q:a4)with z|z
  ·exfalso;have d:(last/b+1+1)*b<=(q:a4)*b:=ZA (by omega) (by omega);rw[CD,CD,Int.mul_comm (last/b) b]at d;omega
  ·exact z
 have m:0<=b/k:=FZ (by omega) (by omega);have p:(q:a4)*(b/k)<=(last/b+1)*(b/k):=ZA U m;unfold yQ;rw[s2]at w3 ⊢;constructor
 ·omega
 ·omega
end
noncomputable def oU(ps:aq Po):a6:=(ps.map λp=>p.es.length).sum
theorem aa6:∀ps:aq Po,(ps.map λp=>(p.es.length:a4)).sum=(oU ps:a4)
 |[]=>rfl
 |p::ps=>by
  have ih:=aa6 ps;have e:oU (p::ps)=p.es.length+oU ps:=by simp[oU]
  rw[dE,zO,ih,e];push_cast;rfl
section
variable{Z:aH}{s r:a6}{L b k:a4}{aN:aq a4}{bs:aq (aq a4)}{ns:aq a4}
theorem aGC(p:Po)(Z:aH):bB (aL p) (.int 3) Z=aG (.lst (encL p.es)) Z:=by simp[aL,qQ,Lp]
theorem adH(h:iN Z s L b k aN bs ns):CJ [.aE s] Z=aG (.int ((ns.length:a4)+(oU (bs.map (bE k)):a4))) Z:=by
 have u:=h.at_.lt;have h':Z[s]?=ao (.ins "Window" (wF L b k aN.length ((bs.map (bE k)).map aL) (ns.map A.int))):=h.at_;have E:=h.wi.WV h.b1 h.L2;show trim Z (iI (YC [aD s] Z))=_;have C:yL 0 "full" (aC bV (nM ["Window"] 0 "newest") (aQ xK (aB YB a0))) [aD s] Z=aG (.int ((ns.length:a4)+(oU (bs.map (bE k)):a4))) Z:=by
  refine Wv (c:=.lst ((bs.map (bE k)).map aL)) rfl h' KZ rfl ?_ (by simp only[Cl]);have i:=HX (cls := "Window") (f := "full") (fs:=wF L b k aN.length ((bs.map (bE k)).map aL) (ns.map A.int)) (c:=.lst ((bs.map (bE k)).map aL)) u;have hn:=HY (Z:=Z) (s:=s) (cls := "Window") (f := "full") (fs:=wF L b k aN.length ((bs.map (bE k)).map aL) (ns.map A.int)) (c:=.lst ((bs.map (bE k)).map aL));generalize eO Z s "Window" "full" (wF L b k aN.length ((bs.map (bE k)).map aL) (ns.map A.int)) (.lst ((bs.map (bE k)).map aL))=j at *;have w:Z.length<j.length:=(cY.mp hn).1;have g:=rM (Y:=[aD s]) (f := "full") (a:=.aE Z.length) rfl i rfl;have B:∀U,fX (j++U) (.aE Z.length)=ao ((bs.map (bE k)).map aL):=λU=>kX (by rw[iD w];exact hn);have N:fX j (.aE Z.length)=ao ((bs.map (bE k)).map aL):=by have:=B [];simpa using this
  have f2:=WW (Y:=[aD s]) (f := "newest") (ds:=ns.map A.int) rfl i rfl;rw[jG]at f2;have hl:(bs.map (bE k)).length<=1000:=by simp;omega
  generalize bs.map (bE k)=q at *;have l:(gW (bU ["Window"] "full" aM)) [aD s] j=aG (srcOf (.aE Z.length) (q.map aL)) j:=by
   rw[gW,bO g];simp only[N]
  have r:YB [aD s] j=aG (.lst (q.map λp=>A.int p.es.length)) j :=
   CY (n:=1) (js:=[]) (fi:=gW (bU ["Window"] "full" aM)) (g:=gN 0) (Y:=[aD s]) (Z:=j) (Z0:=j) (S:=srcOf (.aE Z.length) (q.map aL)) q aL (λp=>A.int p.es.length) (λY=>∃y,Y=[y]) (λx y e=>by rw[abI e])
    l (λz=>B _) ⟨au,by simp[nT]⟩ rfl (by omega) (λp G Y v z=>by
     obtain⟨y,rfl⟩:=v;have e:=aGC p (j++[.lst z]);have t:((encL p.es).length:a4)=p.es.length:=by simp[encL]
     generalize aL p=P at e;refine⟨[ao P],⟨_,rfl⟩,by simp,?_⟩;have D:(aC bB aM kN) [ao P] (j++[.lst z])=aG (.lst (encL p.es)) (j++[.lst z]):=by
      rw[aC,bO (x:=P) (Z':=j++[.lst z]) (by simp),bO (x:=A.int 3) (Z':=j++[.lst z]) (by simp)];exact e
     have o:fX (j++[.lst z]) (.lst (encL p.es))=ao (encL p.es):=rfl;rw[aQ,bO (iX D jF)];simp only[dO,o,t]) (λx _=>by simp only[Cl])
  have d:intsOf (q.map λp=>A.int (p.es.length:a4))=ao (q.map λp=>(p.es.length:a4)):=by
   have:=ID (q.map λp=>(p.es.length:a4));rw[xW]at this;exact this
  have m:=aa6 q;have b2:(aQ xK (aB YB a0)) [aD s] j=aG (.int (oU q)) j:=by
   rw[aQ,bO (iX r jF),<-m];have B:dU j (.lst (q.map λp=>A.int p.es.length))=ao (q.map λp=>A.int p.es.length):=rfl;generalize (q.map λp=>A.int (p.es.length:a4))=F at B d;simp[B,d]
  rw[aC,bO f2,bO b2];simp
 have e:YC [aD s] Z=ao (.ret (.int ((ns.length:a4)+(oU (bs.map (bE k)):a4))),[aD s],Z):=by
  unfold YC;exact Df C
 rw[e];simp only[tX];exact wR
theorem ae9(h:WI L b [] bs ns)(hb:1<=b):bs=[]/\ns=[]:=by
 obtain⟨len,tF,⟨D,q,hd⟩,top⟩:=h;have h2:=q.symm;simp only[List.append_eq_nil_iff]at h2;refine⟨?_,h2.2⟩;cases bs with
 |nil=>rfl
 |cons B bs =>
  have j:=h2.1.2;rw[KG,List.append_eq_nil_iff]at j;have:=len B (by simp);rw[j.1]at this;simp at this;omega
theorem axR(h:iN Z s L b k [] bs ns):CJ [.aE s] Z=aG (.int 0) Z:=by
 obtain⟨z,j⟩:=ae9 h.wi h.b1;have q:=adH h;subst z;subst j;simpa[oU]using q
theorem axQ(h:iN Z s L b k aN bs ns)(eX:1<=aN.length):0<(ns.length:a4)+(oU (bs.map (bE k)):a4)/\(ns.length:a4)+(oU (bs.map (bE k)):a4)<=(L/b+2)*2*k+b:=by
 have hb:=h.b1;have N:=h.k1;have d:=h.k2;have f:=h.L1;obtain⟨len,tF,⟨D,U,hd⟩,top⟩:=h.wi;constructor
 ·cases bs with
  |nil =>
   have:1<=ns.length:=by
    rcases hd with z|z
    ·rw[U,z]at eX;simpa using eX
    ·simp at z;omega
   omega
  |cons B r =>
   have l:=len B (by simp);have g:Gd (unit B) (bE k B):=(OK (AG B)).mV k N;have o:(bE k B).s=b:=by rw[<-l,<-CZ B];exact g.sz
   have:(bE k B).es≠[]:=λz=>by
    have:=(aaG g.gf).mpr z;omega
   have:1<=(bE k B).es.length:=List.length_pos_iff.mpr this;have n:oU ((B::r).map (bE k))=(bE k B).es.length+oU (r.map (bE k)):=by simp[oU]
   omega
 ·obtain⟨j,rfl⟩:=CB (show 0<=k by omega);have q:oU (bs.map (bE j))<=bs.length*(2*j):=(Kl (k:=j) (by omega) b.toNat bs λB a=>by have:=len B a;omega).2;have e:(bs.length:a4)<=L/b+1:=by
   have p:=adW (x:=L) (k:=b) (by omega)
   rcases Int.lt_or_le (L/b+1) (bs.length:a4)with z|z
   ·exfalso;have c:(L/b+1)*b<=((bs.length:a4)-1)*b:=ZA (by omega) (by omega);rw[CD,Int.mul_comm (L/b) b]at c;omega
   ·exact z
  have m:(bs.length:a4)*(2*(j:a4))<=(L/b+2)*(2*(j:a4)):=ZA (by omega) (by omega);have i:(oU (bs.map (bE j)):a4)<=(bs.length:a4)*(2*(j:a4)):=by exact_mod_cast q
  rw[Int.mul_assoc];omega
end
theorem afB(n:a4)(Z:aH):uV [.int n] Z=aG (.bl a5) Z:=by simp[uV,acL]
theorem aa4{nm:ba}{m:a6}{das:aq A}{F:aq A->Mo A}{f:Ev->Mo A}{args:Ev->Mo (aq A)}{as:aq A}{Y:Ev}{Z:aH}{s:a6}{fs:aq (ba×Fd)}(B:f Y Z=aG (.aE s) Z)(q:Z[s]?=ao (.ins "Window" fs))(hl:fs.lookup nm=au)(z:args Y Z=aG as Z)(hn:as.length+1+das.length=m) :
  (eR nm [("Window",eN m das F)] f args) Y Z=F (.aE s::(as++das)) Z:=by
 have j:(A.aE s::as).length+das.length=m:=by simp;omega
 unfold eR;rw[bO B];simp only[WK,q,List.lookup,hl,XN,bO z,eN,j,eT,QX]
theorem asJ{e:Ev->Mo A}{Y:Ev}{Z:aH}{ds:aq A}(h:e Y Z=aG (.lst ds) Z):(aQ dO (aB e a0)) Y Z=aG (.int ds.length) Z:=by
 rw[aQ,bO (iX h jF)];simp[dO,fX,dU]
noncomputable abbrev bQ(L b k:a4):A:=.tup [.int L,.int b,.int k]
theorem Sh{Z:aH}{s:a6}{L b k:a4}{row:aq a4}{bs:aq (aq a4)}{nw:aq a4}(st:iN Z s L b k row bs nw)(x:a4) :
  ∃X,GD [.aE s,.int x] Z=aG (.aV) (Z.set s X)/\iN (Z.set s X) s L b k (row++[x]) (JJ L b bs nw x) (iU b nw x):=by
 have z:=st.wi.WV st.b1 st.L2;have q:=aHF st.at_ st.L1 (by have:=st.b2;omega) (by have:=st.wi.tF;omega) st.k1 (by have:=st.k2;omega) (by simp;omega) x;rw[anE]at q;have j:((row++[x]).length:a4)=(row.length:a4)+1:=by simp
 refine⟨_,q,?_,st.wi.put st.L1 st.b1 x,st.L1,st.L2,st.b1,st.b2,st.k1,st.k2⟩;unfold rP;rw[eV st.at_.lt,j]
theorem iN.other{Z:aH}{s:a6}{L b k:a4}{row:aq a4}{bs:aq (aq a4)}{nw:aq a4}(st:iN Z s L b k row bs nw){t:a6}(j:t≠s)(X:Cell):iN (Z.set t X) s L b k row bs nw:=by
 refine⟨?_,st.wi,st.L1,st.L2,st.b1,st.b2,st.k1,st.k2⟩;unfold rP;rw[dZ j];exact st.at_
end M
namespace PySem
open PyProof.Rows
def xT(xs:a8 a6):Prop:=∀i j a b:a6,i<j->xs[i]?=ao a->xs[j]?=ao b->a<b
theorem Ko(xs:a8 a6)(j:a6)(hr:xT xs):∀(fuel lo hi:a6),lo<=hi->hi<=xs.size->hi-lo<=fuel->(∀i a,i<lo->xs[i]?=ao a->a<j)->(∀i a,hi<=i->xs[i]?=ao a->j<=a) ->
  lo<=SetTable.below.go xs j fuel lo hi/\SetTable.below.go xs j fuel lo hi<=xs.size/\(∀i a,i<SetTable.below.go xs j fuel lo hi->xs[i]?=ao a->a<j)/\(∀i a,SetTable.below.go xs j fuel lo hi<=i->xs[i]?=ao a->j<=a)
 |0,lo,hi,h1,h2,h,U,N=>by
  have:lo=hi:=by omega
  subst this;exact⟨rV _,h2,U,N⟩
 |fuel+1,lo,hi,h1,h2,h,U,N=>by
  unfold SetTable.below.go
  by_cases f:lo<hi
  ·rw[a9 f];have hm:(lo+hi)/2<xs.size:=by omega
   have B:xs[(lo+hi)/2]?=ao xs[(lo+hi)/2]:=oR xs _ hm;have hd:xs.getD ((lo+hi)/2) j=xs[(lo+hi)/2]:=by simp[Array.getD,hm]
   show lo<=(if xs.getD ((lo+hi)/2) j<j then SetTable.below.go xs j fuel ((lo+hi)/2+1) hi else SetTable.below.go xs j fuel lo ((lo+hi)/2))/\(if xs.getD ((lo+hi)/2) j<j then SetTable.below.go xs j fuel ((lo+hi)/2+1) hi else SetTable.below.go xs j fuel lo ((lo+hi)/2))<=xs.size/\(∀i a,i<(if xs.getD ((lo+hi)/2) j<j then SetTable.below.go xs j fuel ((lo+hi)/2+1) hi else SetTable.below.go xs j fuel lo ((lo+hi)/2))->xs[i]?=ao a->a<j)/\(∀i a,(if xs.getD ((lo+hi)/2) j<j then SetTable.below.go xs j fuel ((lo+hi)/2+1) hi else SetTable.below.go xs j fuel lo ((lo+hi)/2))<=i->xs[i]?=ao a->j<=a);rw[hd]
   by_cases e:xs[(lo+hi)/2]<j
   ·rw[a9 e];obtain⟨a,b,c,d⟩:=Ko xs j hr fuel ((lo+hi)/2+1) hi (by omega) h2 (by omega) (λi a g q=>by
     rcases BS i ((lo+hi)/2)with z|z
     ·have:=hr i ((lo+hi)/2) a _ z q B;omega
     ·have:i=(lo+hi)/2:=by omega
      subst this;rw[B]at q;cases q;exact e) N
    exact⟨by omega,b,c,d⟩
   ·rw[bb e];obtain⟨a,b,c,d⟩:=Ko xs j hr fuel lo ((lo+hi)/2) (by omega) (by omega) (by omega) U (λi a g q=>by
     rcases BS ((lo+hi)/2) i with z|z
     ·have:=hr ((lo+hi)/2) i _ a z B q;omega
     ·have:i=(lo+hi)/2:=by omega
      subst this;rw[B]at q;cases q;omega)
    exact⟨a,b,c,d⟩
  ·rw[bb f];have:lo=hi:=by omega
   subst this;exact⟨rV _,h2,U,N⟩
theorem Kn{xs:a8 a6}(hr:xT xs)(j:a6):SetTable.below xs j<=xs.size/\(∀i a,i<SetTable.below xs j->xs[i]?=ao a->a<j)/\(∀i a,SetTable.below xs j<=i->xs[i]?=ao a->j<=a):=by
 obtain⟨_,b,c,d⟩:=Ko xs j hr xs.size 0 xs.size HS cJ (by omega) (λi a h=>b7 h (Nat.not_lt_zero _)) (λi a h q=>by
  have:=(RN.mp q).1;omega)
 exact⟨b,c,d⟩
theorem aFR{xs:a8 a6}(hr:xT xs){i a:a6}(h:xs[i]?=ao a):SetTable.below xs (a+1)=i+1:=by
 obtain⟨b,c,d⟩:=Kn hr (a+1);have hi:=(RN.mp h).1
 rcases Nat.lt_trichotomy (SetTable.below xs (a+1)) (i+1)with z|z|z
 ·have:=d i a (by omega) h;omega
 ·exact z
 ·have hl:i+1<xs.size:=by omega
  have j:xs[i+1]?=ao xs[i+1]:=oR xs _ hl;have h1:=c (i+1) _ z j;have h2:=hr i (i+1) a _ (by omega) h j;omega
theorem aFQ{xs:a8 a6}(hr:xT xs):SetTable.below xs 0=0:=by
 obtain⟨b,c,d⟩:=Kn hr 0
 rcases Nat.eq_zero_or_pos (SetTable.below xs 0)with z|z
 ·exact z
 ·have hl:0<xs.size:=by omega
  have j:xs[0]?=ao xs[0]:=oR xs _ hl;have:=c 0 _ z j;omega
theorem avG{α:Type}(xs:a8 α)(p:a6)(x:α)(B:p<=xs.size)(i:a6):(SetTable.insertAt xs p x)[i]?=if i<p then xs[i]? else if i=p then ao x else xs[i-1]?:=by
 unfold SetTable.insertAt;have j:(xs.extract 0 p).size=p:=by simp;omega
 have z:((xs.extract 0 p).push x).size=p+1:=by rw[Array.size_push,j]
 rw[Array.getElem?_append,z]
 by_cases h1:i<p
 ·rw[a9 (by omega),a9 h1,Array.getElem?_push,j,bb (by omega),Array.getElem?_extract];simp;intro h;omega
 ·rw[bb h1]
  by_cases h2:i=p
  ·rw[a9 (by omega),a9 h2,Array.getElem?_push,j,a9 h2]
  ·rw[bb (by omega),bb h2,Array.getElem?_extract]
   by_cases q:i-(p+1)<xs.size-p
   ·rw[a9 (by simpa using q),show(p+(i-(p+1)))=i-1 by omega]
   ·rw[bb (by simpa using q),eq_comm,ad9];omega
theorem alT{xs:a8 a6}(hr:xT xs)(j:a6)(hn:xs[SetTable.below xs j]?≠ao j):xT (SetTable.insertAt xs (SetTable.below xs j) j):=by
 obtain⟨b,c,d⟩:=Kn hr j;have d':∀i a,SetTable.below xs j<=i->xs[i]?=ao a->j<a:=λi a h1 h2=>by
  have N:=d i a h1 h2
  rcases BS j a with z|z
  ·exact z
  ·exfalso;have:a=j:=by omega
   subst this
   rcases BS (SetTable.below xs a) i with y|y
   ·have hl:SetTable.below xs a<xs.size:=by have:=(RN.mp h2).1;omega
    have e:xs[SetTable.below xs a]?=ao xs[SetTable.below xs a]:=oR xs _ hl;have g:=d _ _ cJ e;have f:=hr _ i _ a y e h2;omega
   ·have:i=SetTable.below xs a:=by omega
    subst this;exact hn h2
 intro i k x y U B q;rw[avG _ _ _ b]at B q
 by_cases h1:i<SetTable.below xs j
 ·rw[a9 h1]at B
  by_cases h2:k<SetTable.below xs j
  ·rw[a9 h2]at q;exact hr i k x y U B q
  ·rw[bb h2]at q
   by_cases N:k=SetTable.below xs j
   ·rw[a9 N]at q;cases q;exact c i x h1 B
   ·rw[bb N]at q;exact hr i (k-1) x y (by omega) B q
 ·rw[bb h1]at B;rw[bb (by omega),bb (by omega)]at q
  by_cases N:i=SetTable.below xs j
  ·rw[a9 N]at B;cases B;exact d' (k-1) y (by omega) q
  ·rw[bb N]at B;exact hr (i-1) (k-1) x y (by omega) B q
theorem alS(n:a6):xT (Array.range n):=by
 intro i j a b U B hb;have h1:=(RN.mp B);have h2:=(RN.mp hb);obtain⟨p,q⟩:=h1;obtain⟨N,z⟩:=h2;simp at q z;omega
theorem alU{l:aq a6}(h:l.Pairwise (· < ·)):xT l.toArray:=by
 intro i j a b U z hb;simp only[List.getElem?_toArray]at z hb;obtain⟨p,q⟩:=cY.mp z;obtain⟨N,B⟩:=cY.mp hb;have:=List.pairwise_iff_getElem.mp h i j p N U;rw[q,B]at this;exact this
theorem Dq(t:cq)(N:a6->a4)(h:a4):∀(fuel:a6) (p:SetTable.Probe) (j:a6) (q:aw a6),SetTable.probe.go t N h fuel p=ao (.empty j q)->t.slot j=.empty/\∀d,q=ao d->p.dummy=ao d\/t.slot d=.dummy
 |0,p,j,q,e=>by cases e
 |fuel+1,p,j,q,e=>by
  unfold SetTable.probe.go at e;cases B:t.slot p.j with
  |empty =>
   rw[B]at e;dsimp only at e;cases e;exact⟨B,λd hd => .inl hd⟩
  |dummy =>
   rw[B]at e;dsimp only at e;obtain⟨a,b⟩:=Dq t N h fuel _ j q e;refine⟨a,λd hd=>?_⟩
   rcases b d hd with z|z
   ·have U:(t.advance {p with dummy:=ao p.j}).dummy=ao p.j:=by
     unfold SetTable.advance;split <;> rfl
    rw[U]at z;cases z;exact .inr B
   ·exact .inr z
  |live i =>
   rw[B]at e;dsimp only at e
   by_cases hh:(N i==h)=a5
   ·rw[a9 hh]at e;cases e
   ·rw[bb hh]at e;obtain⟨a,b⟩:=Dq t N h fuel _ j q e;refine⟨a,λd hd=>?_⟩
    rcases b d hd with z|z
    ·have U:(t.advance p).dummy=p.dummy:=by
      unfold SetTable.advance;split <;> rfl
     rw[U]at z;exact .inl z
    ·exact .inr z
theorem Sq{t:cq}{j:a6}(h:t.slot j=.empty\/t.slot j=.dummy):t.place[SetTable.below t.place j]?≠ao j:=by
 intro z;unfold SetTable.slot at h;simp only[z,XN,eT]at h
 rcases h with h|h <;> cases h
theorem aA4{t:cq}{h:a4}{j:a6}{b:br}(e:t.freeSlot h=ao (j,b)):t.place[SetTable.below t.place j]?≠ao j:=by
 unfold SetTable.freeSlot at e;split at e
 ·next B q N =>
  cases e;obtain⟨a,c⟩:=Dq t _ h _ _ B q N;cases q with
  |none=>exact Sq (.inl a)
  |some d =>
   rcases c d rfl with z|z
   ·cases z
   ·exact Sq (.inr z)
 ·cases e
structure pV(led:br)(t:cq):Prop where
 rise:xT t.place
 led:t.led=led
theorem ahG(led:br):pV led (.fresh 0 0 led):=⟨λi j a b _ h=>by simp[SetTable.fresh]at h,rfl⟩
theorem SJ{led:br}{t:cq}(h:pV led t)(n:a6):pV led (t.standIn n):=⟨alS n,h.led⟩
theorem ahF{led:br}{t:cq}(h:pV led t)(es:a8 (a4×av))(q:a4)(x:av):pV led (layNew t es q x).2.1:=by
 unfold layNew;split
 ·next slot z e =>
  show pV led ((t.put slot).1.orStandIn _);have j:pV led (t.put slot).1:=⟨alT h.rise slot (aA4 e),h.led⟩;unfold SetTable.orStandIn;split
  ·exact j
  ·exact SJ j _
 ·exact SJ h _
theorem ahD{led:br}{t:cq}(h:pV led t)(es:a8 (a4×av))(w:a6):pV led (relayAll t es w).2.1:=by
 unfold relayAll;split
 ·next j order e =>
  show pV led (if(coversAll order es.size&&j.fits (order.filterMap (es[·]?)).size)=a5 then(order.filterMap (es[·]?),j,ax)else(es,t.standIn es.size,a5)).2.1;split
  ·show pV led j;unfold SetTable.relaid SetTable.laid at e;cases B:SetTable.layClean (SetTable.sizeAbove w-1) (es.map (·.1))with
   |none=>rw[B]at e;cases e
   |some c =>
    rw[B]at e;simp at e;obtain⟨U,d⟩:=e;subst U;refine⟨alU ?_,h.led⟩;rw[List.map_filterMap];refine List.Pairwise.filterMap _ (R:=(· < ·)) (λa b N x z y q=>?_) List.pairwise_lt_range;simp at z q;obtain⟨_,_,rfl⟩:=z;obtain⟨_,_,rfl⟩:=q;exact N
  ·exact SJ h _
 ·exact SJ h _
theorem ahE{led:br}{t:cq}(h:pV led t)(b:br):pV led {t with plain:=b}:=⟨h.rise,h.led⟩
noncomputable def oK(w:bw):br:=!w.params.followText "set-order"
def kR(prog:bh)(w:bw)(h:bz)(a:az)(es:a8 (a4×av)):Prop :=
 ∃o ep t,h.get? a=ao o/\o.ExactSet/\o.data=.set es ep t/\ElemsOf (da prog w) es.toList/\es.size<eu/\t.fits es.size=a5/\pV (oK w) t
section
variable{prog:bh}{w:bw}{A:bu}{E:av->ay->Prop}{s:ay}
theorem kR.at{h h':bz}{a:az}{es:a8 (a4×av)}(x:kR prog w h a es)(e:∀o,h.get? a=ao o->h'.get? a=ao o):kR prog w h' a es :=
 let ⟨o,q,t,j,r⟩:=x; ⟨o,q,t,e _ j,r⟩
theorem kR.typeIs{a:az}{es:a8 (a4×av)}(x:kR prog w s.heap a es):s.TypeIs (.ref a) "set":=let ⟨o,_,_,q,j,_⟩:=x; ⟨o,q,j.1⟩
theorem kR.lt{h:bz}{a:az}{es:a8 (a4×av)}(x:kR prog w h a es):a<h.objs.size:=let ⟨_,_,_,j,_⟩:=x;dQ j
theorem acU{g:br->Sem Unit}(r:∀(b:br) (s₁:ay) (m:Unit->ay->Prop),m () s₁->wpAny (bq prog w) A (g b) m E s₁)
  {a:az} {o:c6} {es:a8 (a4×av)} {ep:a6} {t:cq} (U:s.heap.get? a=ao o) (hex:o.ExactSet) (hd:o.data=.set es ep t)
  {j:a8 (a4×av)} {q:cq} (n:ElemsOf (da prog w) j.toList) (xJ:j.size<eu) (x:q.fits j.size=a5) (hT:pV (oK w) q) {y:br} {R:aw br->ay->Prop}
  (h:∀h' fE,Heap.SameBut a s.heap h'->kR prog w h' a fE->fE.toList.Perm j.toList->R (ao a5) {s with heap:=h' }) :
  wpAny (bq prog w) A (do
    storeSet a j q
    if(!y&&q.tooFull)=a5 then do
      g (relayAll q j (SetTable.grown j.size)).2.2
      storeSet a (relayAll q j (SetTable.grown j.size)).1 (relayAll q j (SetTable.grown j.size)).2.1
      pure (ao a5)
     else pure (ao a5)) R E s:=by
 have store:∀{h:bz} {o:c6} {es:a8 (a4×av)} {ep:a6} {t:cq} (fE:a8 (a4×av)) (z:cq),h.get? a=ao o->o.data=.set es ep t->(h.update a (Obj.putSet fE z)).get? a=ao {o with data:=.set fE (ep+1) z}:=λ{h o es ep t} fE z U hd=>by
  have:=ZF (Obj.putSet fE z) U (by rw[putSet_of fE z hd];rfl);rw[putSet_of fE z hd]at this;exact this
 refine aJ (wpAny_storeSet_of U hd ?_ (Jk xJ));have c:=store j q U hd;have l:=Heap.SameBut.update s.heap a (Obj.putSet j q);split
 ·have B:=relayAll_perm q j (SetTable.grown j.size);have f:=relayAll_fits q j (SetTable.grown j.size);have i:=ahD hT j (SetTable.grown j.size);generalize u:relayAll q j (SetTable.grown j.size)=Rl at B f i ⊢;obtain⟨N,k,v⟩:=Rl;dsimp only at B f i ⊢;have e:ElemsOf (da prog w) N.toList:=n.perm B;have d:N.size=j.size:=by rw[<-gL,B.length_eq,gL]
  have jY:N.size<eu:=by rw[d];exact xJ
  refine aJ (r _ _ _ ?_);refine aJ (wpAny_storeSet_of c rfl ?_ (Jk jY));have p:=store N k c rfl;exact aY (h _ N (l.trans (Heap.SameBut.update _ a _)) ⟨_,_,k,p,hex,rfl,e,jY,f,i⟩ B)
 ·exact aY (h _ j l ⟨_,_,q,c,hex,rfl,n,xJ,x,hT⟩ (FT _))
theorem aGN{a:az}{es:a8 (a4×av)}{k:a4}{x:av}{Q:br->ay->Prop}(r:(da prog w).is k x=a5)(p:x.scannable=a5)(hS:kR prog w s.heap a es)(H:es.size+1<eu)
  (h:∀b h' fE,Heap.SameBut a s.heap h'->kR prog w h' a fE->(((∃e∈es.toList,(da prog w).is k e.2=a5)/\fE=es)\/((∀e∈es.toList,(da prog w).is k e.2≠a5)/\fE.toList.Perm (es.toList++[((da prog w).hash k,x)])))->Q b {s with heap:=h' }) :
  wpAny (bq prog w) A (setAddHashed a x ((da prog w).hash k)) Q E s:=by
 obtain⟨o,F,t,U,hex,hd,g,hb,n,hT⟩:=hS;unfold setAddHashed setAddHashedIn;refine CS (aJ (CQ U hd n ?_));dsimp only;rw[byScan_of p hb g];simp only[↓reduceIte];unfold setAddByScan;refine aJ ?_;refine aJ (wL ?_);refine aJ (wpAny_setScan_of r U hd n g ?_);cases hr:List.findIdx? (λe=>(da prog w).is k e.2) es.toList with
 |some j =>
  dsimp only;obtain⟨D,l,_⟩:=List.findIdx?_eq_some_iff_getElem.mp hr;refine aY (aY ?_);have e:s={s with heap:=s.heap}:=by cases s;rfl
  rw[e];exact h _ s.heap es (Heap.SameBut.refl a s.heap) ⟨o,F,t,U,hex,hd,g,hb,n,hT⟩ (.inl ⟨⟨es.toList[j],QV D,l⟩,rfl⟩)
 |none =>
  dsimp only;have C:∀e∈es.toList,(da prog w).is k e.2≠a5:=λe he z=>by
   have:=List.findIdx?_eq_none_iff.mp hr e he;rw[z]at this;exact Bool.noConfusion this
  have m:∀(b:br) {s₁:ay} {c:Unit->ay->Prop},c () s₁->wpAny (bq prog w) A (match b with|true=>rule "set.scan.the-table-gave-way" | false=>pure ()) c E s₁ :=
   λb s₁ c q=>by cases b <;> first|exact aY q|exact wL q
  have B:=layNew_perm t es ((da prog w).hash k) x;have f:=layNew_fits t es ((da prog w).hash k) x;have d:=ahF hT es ((da prog w).hash k) x;generalize K:layNew t es ((da prog w).hash k) x=L at B f d ⊢;obtain⟨i,I,M,G⟩:=L;dsimp only at B f d ⊢;rw[GJ]at B;have y:ElemsOf (da prog w) i.toList:=(g.push r p).perm B;have u:i.size<eu:=by rw[<-gL,B.length_eq,gF,gL];simpa using H
  refine aJ (m _ ?_);have v:∀b h' fE,Heap.SameBut a s.heap h'->kR prog w h' a fE->fE.toList.Perm i.toList->Q b {s with heap:=h' }:=λb h' fE N nE z=>h b h' fE N nE (.inr ⟨C,z.trans B⟩);split
  ·refine aJ ?_;rw[hashByValue_scannable 8 p];refine aY ?_;refine acU ?_ U hex hd y u ?_ ?_ ?_
   ·intro b s₁ c q;cases b <;> first|exact aY q|exact wL q
   ·split
    ·exact f
    ·exact SetTable.fits_plain_off f
   ·split
    ·exact d
    ·exact ahE d _
   ·intro h' fE N nE z;dsimp only;exact wpAny_pure (v _ h' fE N nE z)
  ·refine aJ (aY ?_);simp only[↓reduceIte];refine acU ?_ U hex hd y u f d ?_
   ·intro b s₁ c q;cases b <;> first|exact aY q|exact wL q
   ·intro h' fE N nE z;dsimp only;exact wpAny_pure (v _ h' fE N nE z)
end
def Nums(es:a8 (a4×av))(ms:aq a4):Prop:=de (es.toList.map (·.2)) ms
theorem aqW{es fE:a8 (a4×av)}{ms:aq a4}(h:Nums es ms){l:aq (a4×av)}(hl:fE.toList.Perm l){mY:aq a4}(h2:de (l.map (·.2)) mY):∃j,Nums fE j/\j.Perm mY:=by
 have hall:∀v∈fE.toList.map (·.2),∃n t,v=.int n t:=λv hv=>by
  have:=(hl.map (·.2)).mem_iff.mp hv;exact IntsAre.all h2 v this
 refine⟨_,intsAre_map _ hall,?_⟩;have:=(hl.map (·.2)).map numOf;rw[IntsAre.nums h2]at this;exact this
theorem ints_snoc:∀{vs:aq av} {ns:aq a4},de vs ns->∀(n:a4) (t:Tok),de (vs++[.int n t]) (ns++[n])
 |_,_,.nil,n,t => .cons n t .nil
 |_,_,.cons m u h,n,t => .cons m u (ints_snoc h n t)
open PyProof.Rows PySem.Spec
set_option maxRecDepth 100000
set_option compiler.extract_closed false
set_option genSizeOf false
set_option bootstrap.genMatcherCode false
theorem We{prog:bh}{w:bw}:∀{l:aq (a4×av)} {ms:aq a4},de (l.map (·.2)) ms->∀k:a4,(∃e∈l,(da prog w).is k e.2=a5)<->k∈ms
 |[],_,h,k=>by
  cases h;constructor
  ·rintro⟨e,he,_⟩;cases he
  ·intro z;cases z
 |(q,v)::l,_,h,k=>by
  cases h with
  |cons n t h =>
   have ih:=We (prog:=prog) (w:=w) h k;constructor
   ·rintro⟨e,he,j⟩
    rcases dY.mp he with z|z
    ·subst z;have:=(da prog w).inj _ _ _ j (intKind_is prog w n t);rw[this];exact List.mem_cons_self ..
    ·exact iP _ (ih.mp ⟨e,z,j⟩)
   ·intro z
    rcases dY.mp z with z|z
    ·subst z;exact⟨_,List.mem_cons_self ..,intKind_is prog w k t⟩
    ·obtain⟨e,he,j⟩:=ih.mpr z;exact⟨e,iP _ he,j⟩
section
variable{prog:bh}{w:bw}{A:bu}{R:Result->ay->Prop}{I:az}{fp wr:aq az}{G:a8 GenState->a8 GenState->Prop}{n:a6}{P:a6->av->Prop}{St:a6->ay->Prop}
theorem aD7(W:WalksS prog w A.in1 I fp wr G n P St)(S:az)(EG:S∉fp)
  (val:a6->a4) (Fy:∀i v,P i v->∃t,v=.int (val i) t) (hb:n+1<eu) :
  ∀(k i:a6) (s:ay) (es:a8 (a4×av)) (ms:aq a4),n-i=k->i<=n->St i s ->
   kR prog w s.heap S es->Nums es ms->ms.Perm (firstMet val i) ->
   (∀s' fE mY,Moved (S::wr) G s s'->kR prog w s'.heap S fE->Nums fE mY->mY.Perm (firstMet val n)->R (.ok (.ret .none)) s') ->
   codeAny (bq prog w) A (.builtin "set.update.loop" ⟨[.ref S,.ref I],[]⟩) R s:=by
 have V:S∉wr:=λh=>EG (W.sub _ h);have hsub:∀b∈wr,b∈S::wr:=λb hb=>iP _ hb;intro k
 induction k with
 |zero =>
  intro i s es ms hk hi U hS q j hR;have N:i=n:=by omega
  subst N;refine JB aG1 ?_;rw[ZS adB _];show wpAny _ A.in1 (e7 (.ref I) >>= _) _ _ s;refine aJ (W.done s _ _ U λs' hm=>?_);show wpAny _ A.in1 (ret Value.none) _ _ s';exact aY (hR s' es ms (hm.mono hsub) (hS.at λo e=>hm.heap S _ V e) q j)
 |succ k ih =>
  intro i s es ms hk hi U hS q j hR;have L:i<n:=by omega
  refine JB aG1 ?_;rw[ZS adB _];show wpAny _ A.in1 (e7 (.ref I) >>= _) _ _ s;refine aJ (W.item i s _ _ L U λv s' l x hm=>?_);obtain⟨t,rfl⟩:=Fy i v l;have nE:kR prog w s'.heap S es:=hS.at λo e=>hm.heap S _ V e;show wpAny _ A.in1 (holding [Value.int (val i) t] (setAdd S (.int (val i) t)) >>= _) _ _ s';refine aJ (CS ?_);unfold setAdd;refine CS ?_;refine aJ ((da prog w).pyHash (k:=val i) (intKind_is _ _ _ _) ?_);have hsz:es.size=(firstMet val i).length:=by
   have h1:=IntsAre.length q;rw[jG,gL]at h1;rw[h1];exact j.length_eq
  have Gg:es.size+1<eu:=by have:=firstMet_length_le val i;omega
  refine aGN (s:={s' with toks:=s'.toks+1}) (intKind_is _ _ _ _) rfl nE Gg λb h' fE K g Gn=>?_;have X:∀B,Nums fE B->B.Perm (firstMet val (i+1))->_:=λB F H =>
   aY (M:=bq prog w) (A:=A.in1) (s:={s' with heap:=h',toks:=s'.toks+1}) (a:=PySem.Fin.again (.builtin "set.update.loop" ⟨[.ref S,.ref I],[]⟩)) (Q:=λfin s'=>match fin with | .done f=>R (.ok f) s' | .again T=>T.quiet=a5/\codeAny (bq prog w) A T R s') (E:=λe s'=>R (.error e) s')
    ⟨TY adB _,ih (i+1) _ fE B (by omega) L (W.frame _ s' _ _ x (FJ _) λb hb o e=>by
     rw[K.2 b (λh:b=S=>EG (by rw[<-h];exact hb))];exact e) g F H λDF D C u r m p=>by
     refine hR DF D C (Moved.trans W.gtrans ((hm.mono hsub).then_heap (FJ _) λb o hb e=>?_) u) r m p;rw[K.2 b (λh:b=S=>hb (by rw[h];exact List.mem_cons_self))];exact e⟩
  have VL:=We (prog:=prog) (w:=w) q (val i)
  rcases Gn with⟨N,rfl⟩|⟨nB,hp⟩
  ·refine X ms q ?_;have AW:val i∈firstMet val i:=j.mem_iff.mp (VL.mp N);rw[firstMet_succ];unfold step_dedup;rw[a9 (by rw[List.any_eq_true];exact⟨_,AW,by simp⟩)];exact j
  ·have d:val i∉firstMet val i:=λz=>by
    obtain⟨e,he,c⟩:=VL.mpr (j.mem_iff.mpr z);exact nB e he c
   have h2:de ((es.toList++[((da prog w).hash (val i),Value.int (val i) t)]).map (·.2)) (ms++[val i]):=by
    rw[zP];exact ints_snoc q (val i) t
   obtain⟨B,F,H⟩:=aqW q hp h2;refine X B F ?_;rw[firstMet_succ];unfold step_dedup;rw[bb (by rw[List.any_eq_true];rintro⟨y,hy,e⟩;simp at e;subst e;exact d hy)];exact H.trans (j.append_right _)
end
section
variable{prog:bh}{w:bw}{A:bu}{E:av->ay->Prop}{s:ay}
theorem akA(a:av){Q₁:av->ay->Prop}
  (h:Q₁ (.ref s.heap.objs.size) {s with heap:=s.heap.push {cls:=.type "set",dict:=au,data:=.set #[] 0 (.fresh 0 0 (oK w))} }) :
  codeAny (bq prog w) A (.call (.builtin "set.__new__") ⟨[.type "set",a],[]⟩) (wants Q₁ E) s:=by
 refine codeAny_of_tree ?_;show wpAny _ A.in1 (do checkBuiltinCall "set.__new__" ⟨[.type "set",a],[]⟩;again (.builtin "set.__new__" ⟨[.type "set",a],[]⟩)) _ _ s;refine aJ (wpAny_of_eq (F.newCall_set_1 a) (aY ⟨TY F.plain_set_new _,JB F.entry_set_new ?_⟩));rw[ZS F.plain_set_new _];unfold Builtin.«set.__new__» Builtin.Frozenset.newClass;have hsub:=sub_set_self;obtain⟨j,g,d,tk,os⟩:=s;dsimp only
 wp_walk
 refine CU (aY ?_);dsimp only;simp only[newObj];refine aJ (wpAny_alloc (aY ?_));exact aY h
set_option maxHeartbeats 3200000 in
theorem aEU{l:az}{items:a8 av}{ns:aq a4}{Q:av->ay->Prop}
  (hh:A.handled=au) (hl:s.heap.IsList l items) (hi:PyProof.Rows.IntsAre items.toList ns) (hb:items.size+1<eu)
  (h:∀(h':bz) (tk:a6) es ms,kR prog w h' s.heap.objs.size es->Nums es ms->ms.Perm (firstMet (λi=>ns.getD i 0) items.size) ->
   (∀b o,b<s.heap.objs.size->s.heap.get? b=ao o->h'.get? b=ao o)->Q (.ref s.heap.objs.size) {s with heap:=h',toks:=tk}) :
  wpAny (bq prog w) A (call (.type "set") [.ref l]) Q E s:=by
 obtain⟨c,tl,aKB⟩:=F.called_set.mro;have aKE:=F.called_set.made;have hsub:=F.called_set.sub;refine GP (codeAny_of_tree ?_);show wpAny _ _ (callAny (.type "set") _) _ _ _;refine aY ⟨Code.quiet_builtin _ (by decide +kernel),JB F.entry_type_call ?_⟩;rw[Around.under_plain (weight_type_call_type "set" [.ref l] []) rfl];have h1:=F.called_set.notType;have h2:=F.called_set.canCreate;have Zj:=F.typeCall_set_1 (.ref l)
 repeat (any_goals (first|assumption|wp_step))
 refine uJ (akA (.ref l) (E:=E) (Q₁:=λobj s₁=>obj=.ref s.heap.objs.size/\s₁={s with heap:=s.heap.push {cls:=.type "set",dict:=au,data:=.set #[] 0 (.fresh 0 0 (oK w))} }) ⟨rfl,rfl⟩) λr s₁ hr=>?_;cases r with
 |error e=>exact hr
 |ok fl =>
  cases fl with
  |ret obj =>
   obtain⟨rfl,rfl⟩:=hr;have hS:(s.heap.push {cls:=.type "set",dict:=au,data:=.set #[] 0 (.fresh 0 0 (oK w))}).get? s.heap.objs.size=ao {cls:=.type "set",dict:=au,data:=.set #[] 0 (.fresh 0 0 (oK w))}:=gU _ rfl;have hT:Shared.TypeIs {s with heap:=s.heap.push {cls:=.type "set",dict:=au,data:=.set #[] 0 (.fresh 0 0 (oK w))} } (.ref s.heap.objs.size) "set":=⟨_,hS,rfl⟩;have hli:=F.called_set.init.lookup;have WB:=F.called_set.init.bind (.ref s.heap.objs.size)
   repeat (any_goals (first|assumption|wp_step))
   refine uJ (abS (R:=wants (λr s₂=>r=.none/\∃h' tk es ms,s₂={s with heap:=h',toks:=tk} /\
     kR prog w h' s.heap.objs.size es/\Nums es ms/\ms.Perm (firstMet (λi=>ns.getD i 0) items.size) /\
     (∀b o,b<s.heap.objs.size->s.heap.get? b=ao o->h'.get? b=ao o)) E) F.called_set.init.plain F.entry_set_init (check_set_init_1 hT ?_)) λr₂ s₂ Gf=>?_
   ·obtain⟨ol,VD,gC,nl,Ht⟩:=hl;obtain⟨aI9,aqB,aI8,apB⟩:=ol;simp only at gC Ht;subst gC;subst Ht;have awO:(s.heap.push {cls:=.type "set",dict:=au,data:=.set #[] 0 (.fresh 0 0 (oK w))}).get? l=ao {cls:=.type "list",dict:=aqB,data:=.seq items nl,slots:=apB}:=dI _ VD;have aJ6:=F.sub_list_set;have aJ7:=F.sub_list_frozenset;have eX:(Value.type "list" == Value.type "dict")=ax:=by decide
    have Hb:(s.heap.push {cls:=.type "set",dict:=au,data:=.set #[] 0 (.fresh 0 0 (oK w))}).IsList l items:=⟨_,awO,rfl,nl,rfl⟩;unfold Builtin.«set.__init__» noKeywords Builtin.Frozenset.updateFrom;generalize hPI:pyIter=PI
    wp_walk
    subst hPI;refine wpAny_pyIter_list Hb ?_;refine aJ (wpAny_runValue ?_);have NN:l<s.heap.objs.size:=dQ VD;have hh3:A.in1.in1.in1.handled=au:=by simp[hh]
    have awU:l≠(s.heap.push {cls:=.type "set",dict:=au,data:=.set #[] 0 (.fresh 0 0 (oK w))}).objs.size:=by
     rw[KL];exact fW (YQ NN)
    have EG:s.heap.objs.size∉[(s.heap.push {cls:=.type "set",dict:=au,data:=.set #[] 0 (.fresh 0 0 (oK w))}).objs.size,l]:=by
     rw[KL];simp only[dY,lT,wG,vG,not_or];exact⟨fW (YO _),JT NN⟩
    have Fy:∀(i:a6) (v:av),items[i]?=ao v->∃t,v=.int ((λi=>ns.getD i 0) i) t:=λi v hv =>
     PyProof.Rows.IntsAre.int_at hi i v (by rw[mM];exact hv)
    refine aD7 ((Walks.list hh3 _ l awU items).toS) s.heap.objs.size
     EG (λi=>ns.getD i 0) Fy hb (items.size-0) 0 _ #[] [] (by omega) HS
     ⟨⟨_,gU _ rfl,rfl,rfl⟩,(Hb.push _)⟩ ?hS0 .nil (FT _) ?hR
    case hS0 =>
     have NT:((s.heap.push {cls:=.type "set",dict:=au,data:=.set #[] 0 (.fresh 0 0 (oK w))}).push {cls:=.type "list_iterator",data:=.fields #[.ref l,.int 0 0]}).get? s.heap.objs.size
       = ao {cls:=.type "set",dict:=au,data:=.set #[] 0 (.fresh 0 0 (oK w))}:=dI _ hS
     exact⟨_,0,_,NT,⟨rfl,rfl,rfl⟩,rfl,λe he=>by simp at he,by decide,rfl,ahG _⟩
    case hR =>
     intro s' fE mY hm nE Im BC;obtain⟨h',g',d',tk',Dz⟩:=s';have eg:g'=s.gens:=hm.gens;have ed:d'=s.drawn:=hm.drawn;have eo:Dz=s.os:=hm.os;subst eg;subst ed;subst eo;show wpAny _ _ _ _ _ _;refine aY ?_;show wpAny _ _ (ret Value.none) _ _ _;refine aY ⟨rfl,h',tk',fE,mY,rfl,nE,Im,BC,λb o hb e=>?_⟩;have xJ:b≠s.heap.objs.size:=fW hb;have jY:b≠(s.heap.push {cls:=.type "set",dict:=au,data:=.set #[] 0 (.fresh 0 0 (oK w))}).objs.size:=by
      rw[KL];exact fW (YQ hb)
     exact hm.heap b o (by simp only[dY,lT,wG,vG,not_or];exact⟨xJ,jY⟩) (dI _ (dI _ e))
   ·cases r₂ with
    |error e=>exact Gf
    |ok fl₂ =>
     cases fl₂ with
     |ret r =>
      obtain⟨rfl,h',tk,es,ms,rfl,nE,Im,BC,IK⟩:=Gf
      repeat (any_goals (first|assumption|wp_step))
      exact h _ _ es ms nE Im BC IK
     |_=>exact Gf.elim
  |_=>exact hr.elim
end
set_option maxRecDepth 100000
set_option compiler.extract_closed false
set_option genSizeOf false
set_option bootstrap.genMatcherCode false
theorem pF:Slot "set_iterator" "__next__" "set_iterator.__next__" :=
 .of (owner := "set_iterator") (n := "__next__") (by rw[typeLookup_type,builtinLookup_eq_fast];kernel_rfl) (by decide +kernel) (by decide +kernel) (by decide +kernel)
  (by first|exact .inl (by decide +kernel)|exact .inr (by decide +kernel)) (by rw[isSubtype_type];kernel_rfl)
theorem So:Slot "set_iterator" "__iter__" "set_iterator.__iter__" :=
 .of (owner := "set_iterator") (n := "__iter__") (by rw[typeLookup_type,builtinLookup_eq_fast];kernel_rfl) (by decide +kernel) (by decide +kernel) (by decide +kernel)
  (by first|exact .inl (by decide +kernel)|exact .inr (by decide +kernel)) (by rw[isSubtype_type];kernel_rfl)
theorem IZ:entryFor table "set_iterator.__next__" = ao Builtin.«set_iterator.__next__»:=entryFor_of_tree (by kernel_rfl)
theorem aBU:entryFor table "set_iterator.__iter__" = ao Builtin.«dict_keyiterator.__iter__»:=entryFor_alias (id' := "dict_keyiterator.__iter__") (by kernel_rfl) rfl (by decide +kernel) (by kernel_rfl)
theorem aBV:entryFor table "set.__iter__" = ao Builtin.«frozenset.__iter__»:=entryFor_alias (id' := "frozenset.__iter__") (by kernel_rfl) rfl (by decide +kernel) (by kernel_rfl)
theorem Vc:Manifest.owners.lookup (String.ofList ['r','o','t','a','r','e','t','i','_','t','e','s'].reverse)=ao Manifest.sig_set_iterator:=by kernel_rfl
theorem JO(a:av):argsOk "set_iterator.__next__" ⟨[a],[]⟩:=by
 unfold argsOk;rw[signature?_of (id := "set_iterator.__next__") (n:=['_','_','t','x','e','n','_','_']) (o:=['r','o','t','a','r','e','t','i','_','t','e','s']) (by kernel_rfl) Vc];kernel_rfl
theorem aGG(a:av):argsOk "set_iterator.__iter__" ⟨[a],[]⟩:=by
 unfold argsOk;rw[signature?_of (id := "set_iterator.__iter__") (n:=['_','_','r','e','t','i','_','_']) (o:=['r','o','t','a','r','e','t','i','_','t','e','s']) (by kernel_rfl) Vc];kernel_rfl
def lI(h:bz)(I a:az)(first:av)(i n ep:a6):Prop:=h.get? I=ao {cls:=.type "set_iterator",data:=.fields #[first,.int i 0,.ref a,.int n 0,.int ep 0]}
def rS(w:bw)(h:bz)(a:az)(es:a8 (a4×av))(ep:a6)(t:cq):Prop:=∃o,h.get? a=ao o/\o.data=.set es ep t/\t.fits es.size=a5/\pV (oK w) t
theorem lI.typeIs{s:ay}{I a:az}{f:av}{i n ep:a6}(x:lI s.heap I a f i n ep):s.TypeIs (.ref I) "set_iterator":=⟨_,x,rfl⟩
theorem lI.at{h h':bz}{I a:az}{f:av}{i n ep:a6}(x:lI h I a f i n ep)(e:∀o,h.get? I=ao o->h'.get? I=ao o):lI h' I a f i n ep:=e _ x
theorem rS.at{w:bw}{h h':bz}{a:az}{es:a8 (a4×av)}{ep:a6}{t:cq}(x:rS w h a es ep t)(e:∀o,h.get? a=ao o->h'.get? a=ao o):rS w h' a es ep t:=let ⟨o,j,r⟩:=x; ⟨o,e _ j,r⟩
noncomputable def AJ(t:cq)(i:a6):a6:=if i=0 then 0 else t.place.getD (i-1) 0+1
theorem Sr{t:cq}(h:xT t.place){i:a6}(hi:i<=t.place.size):SetTable.below t.place (AJ t i)=i:=by
 unfold AJ
 by_cases j:i=0
 ·rw[a9 j,aFQ h,j]
 ·rw[bb j];have hl:i-1<t.place.size:=by omega
  have q:t.place[i-1]?=ao (t.place.getD (i-1) 0):=by simp[Array.getD,hl]
  rw[aFR h q];omega
section
variable{prog:bh}{w:bw}{A:bu}{E:av->ay->Prop}{s:ay}
theorem arH{I a:az}{es:a8 (a4×av)}{ep i:a6}{t:cq}{x:a4×av}{Q:aw av->ay->Prop}(hit:lI s.heap I a (.int (AJ t i) 0) i es.size ep)(b:rS w s.heap a es ep t)
  (hb:w.params.followText "set-order" = ax) (hd:(!t.plain&&decide (es.size>1))=ax) (B:es[i]?=ao x)
  (c:∀h',lI h' I a (.int (AJ t (i+1)) 0) (i+1) es.size ep->Heap.SameBut I s.heap h'->Q (ao x.2) {s with heap:=h' }):wpAny (bq prog w) A (e7 (.ref I)) Q E s:=by
 obtain⟨os,z,N,j,hT⟩:=id b;have g:=j;simp only[SetTable.fits,lK,xR,BI]at g;have l:i<es.size:=(RN.mp B).1;have q:i<t.place.size:=by omega
 have d:t.place[i]?=ao (t.place.getD i 0):=by simp[Array.getD,q]
 have h:(!t.led && !es.isEmpty)=ax:=by rw[hT.led];simp[oK,hb]
 unfold e7;refine aJ (GQ (GO (name:=Str.ofString "__next__") hit.typeIs pF
  (uZ pF hit.typeIs IZ ?_ (JO _))))
 unfold Builtin.«set_iterator.__next__»;refine aJ (aY ?_);refine aJ (KY hit rfl ?_);dsimp only;refine aJ (GL z N j ?_);rw[bb (by simp)];refine aJ ?_;unfold setNext;refine aJ (CQ z N j ?_);dsimp only;unfold setsByText;refine aJ (aJ (CU (aY ?_)));refine wM (nY (show ¬(w.params.followText "set-order" = a5)by rw[hb];simp)) ?_;refine wM (nY (show ¬((!t.plain&&decide (es.size>1))=a5)by rw[hd];simp)) ?_;refine aJ ?_;show wpAny (bq prog w) A.in1 (if(!t.led && !es.isEmpty)=a5 then unsupported "set:maker-not-led" else pure ()) _ _ _;refine wM (by simp[h]) (aY ?_);rw[FX,Sr hT.rise (by omega),B,d];refine aY ?_;dsimp only;refine aJ (zZ hit (by simp) λh1 f U=>?_);refine aJ (zZ f (by simp) λh2 e k=>?_);refine aY ⟨_,rfl,aY (c h2 ?_ (U.trans k))⟩;unfold lI;rw[e];have:AJ t (i+1)=t.place.getD i 0+1:=by unfold AJ;simp
 rw[this];simp[ck]
theorem arI{I a:az}{es:a8 (a4×av)}{ep:a6}{t:cq}{Q:aw av->ay->Prop}(hh:A.handled=au)(hit:lI s.heap I a (.int (AJ t es.size) 0) es.size es.size ep)(N:rS w s.heap a es ep t)
  (hb:w.params.followText "set-order" = ax) (hd:(!t.plain&&decide (es.size>1))=ax)
  (U:∀h',Heap.ExtBut I s.heap h'->Q au {s with heap:=h' }):wpAny (bq prog w) A (e7 (.ref I)) Q E s:=by
 obtain⟨os,q,z,j,hT⟩:=id N;have c:=j;simp only[SetTable.fits,lK,xR,BI]at c;have d:(!t.led && !es.isEmpty)=ax:=by rw[hT.led];simp[oK,hb]
 unfold e7;refine aJ (GQ (GO (name:=Str.ofString "__next__") hit.typeIs pF
  (uZ pF hit.typeIs IZ ?_ (JO _))))
 unfold Builtin.«set_iterator.__next__»;refine aJ (aY ?_);refine aJ (KY hit rfl ?_);dsimp only;refine aJ (GL q z j ?_);rw[bb (by simp)];refine aJ ?_;unfold setNext;refine aJ (CQ q z j ?_);dsimp only;unfold setsByText;refine aJ (aJ (CU (aY ?_)));refine wM (nY (show ¬(w.params.followText "set-order" = a5)by rw[hb];simp)) ?_;refine wM (nY (show ¬((!t.plain&&decide (es.size>1))=a5)by rw[hd];simp)) ?_;refine aJ ?_;show wpAny (bq prog w) A.in1 (if(!t.led && !es.isEmpty)=a5 then unsupported "set:maker-not-led" else pure ()) _ _ _;refine wM (by simp[d]) (aY ?_);rw[FX,Sr hT.rise (by omega),Array.getElem?_eq_none cJ];refine aY ?_;dsimp only;refine aJ (zZ hit (by simp) λh1 e B=>?_);show wpAny _ _ (newExc (.type "StopIteration") [] >>= _) _ _ _;refine aJ ?_;simp only[newExc,newTuple];refine aJ (qC ?_ (by size_fits));refine aJ (m:=et _ _) (wpAny_of_eq (a:=Value.none) (by first|rfl|(simp only[et];rfl)) ?_);refine qC ?_ (by size_fits);simp only[raiseNew];refine aJ (wpAny_handled ?_);rw[show A.in1.handled=au from hh];refine aJ (aY (wpAny_throw ?_));refine aJ (ZY (T := "StopIteration") (b:=a5) ⟨_,gU _ rfl,rfl⟩ isSubtype_stop ?_);exact aY (U _ ((B.extBut.push _).push _))
end
set_option maxRecDepth 100000
set_option compiler.extract_closed false
set_option genSizeOf false
set_option bootstrap.genMatcherCode false
theorem Jn{α:Type}:∀(l:aq α) (i:a6) (h:i<l.length),(l[i]::l.eraseIdx i).Perm l
 |[],i,h=>b7 h (Nat.not_lt_zero _)
 |x::l,0,h=>FT _
 |x::l,i+1,h=>by
  have ih:=Jn l i (by simpa using h);simp only[List.getElem_cons_succ,List.eraseIdx_cons_succ];exact(List.Perm.swap _ _ _).trans (ih.cons x)
theorem Uv{α:Type}(f:a6->a6):∀(fuel k:a6) (left:aq α) (ae:a8 α),left.length=fuel->(pickOrder.go f fuel k left ae).toList.Perm (ae.toList++left)
 |0,k,left,ae,h=>by
  have:left=[]:=List.length_eq_zero_iff.mp h;subst this;unfold pickOrder.go;simp
 |fuel+1,k,left,ae,h=>by
  have hi:f k%left.length<left.length:=Nat.mod_lt _ (by omega);unfold pickOrder.go;rw[fF hi];have ih:=Uv f fuel (k+1) (left.eraseIdx (f k%left.length)) (ae.push left[f k%left.length]) (by rw[List.length_eraseIdx_of_lt hi];omega);refine ih.trans ?_;rw[GJ,kE];exact(Jn _ _ hi).append_left _
theorem Dw{α:Type}(f:a6->a6)(xs:a8 α):(pickOrder f xs).toList.Perm xs.toList:=by
 have h:=Uv f xs.size 0 xs.toList #[] (by simp);simp only[wH]at h;exact h
section
variable{prog:bh}{w:bw}{A:bu}{E:av->ay->Prop}{s:ay}
theorem Qa{a:az}{es:a8 (a4×av)}{ep:a6}{t:cq}{Q:a8 (a4×av)->ay->Prop}(q:rS w s.heap a es ep t)(hb:w.params.followText "set-order" = a5)
  (h:Q (pickOrder (w.params.setOrder a ep) es) s):wpAny (bq prog w) A (setWalk a) Q E s:=by
 obtain⟨os,j,B,z,hT⟩:=id q;unfold setWalk;refine aJ (CQ j B z ?_);dsimp only;unfold setsByText;refine aJ (aJ (CU (aY ?_)));refine ZX (vT (show w.params.followText "set-order" = a5 from hb)) ?_;exact aJ (CU (aY h))
theorem arJ{I a:az}{es:a8 (a4×av)}{ep i:a6}{t:cq}{x:a4×av}{Q:aw av->ay->Prop}(hit:lI s.heap I a (.int 0 0) i es.size ep)(q:rS w s.heap a es ep t)
  (hb:w.params.followText "set-order" = a5) (U:(pickOrder (w.params.setOrder a ep) es)[i]?=ao x)
  (b:∀h',lI h' I a (.int 0 0) (i+1) es.size ep->Heap.SameBut I s.heap h'->Q (ao x.2) {s with heap:=h' }):wpAny (bq prog w) A (e7 (.ref I)) Q E s:=by
 obtain⟨os,j,B,z,hT⟩:=id q;unfold e7;refine aJ (GQ (GO (name:=Str.ofString "__next__") hit.typeIs pF
  (uZ pF hit.typeIs IZ ?_ (JO _))))
 unfold Builtin.«set_iterator.__next__»;refine aJ (aY ?_);refine aJ (KY hit rfl ?_);dsimp only;refine aJ (GL j B z ?_);rw[bb (by simp)];refine aJ ?_;unfold setNext;refine aJ (CQ j B z ?_);dsimp only;unfold setsByText;refine aJ (aJ (CU (aY ?_)));refine ZX (vT (show w.params.followText "set-order" = a5 from hb)) ?_;refine wM (by simp) ?_;refine aJ (Qa q hb ?_);rw[FX,U];refine aY ?_;simp only[QO];refine aJ (zZ hit (by simp) λh1 d N=>?_);refine aJ (zZ d (by simp) λh2 c e=>?_);refine aY ⟨_,rfl,aY (b h2 ?_ (N.trans e))⟩;unfold lI;rw[c];simp[ck]
theorem arK{I a:az}{es:a8 (a4×av)}{ep:a6}{t:cq}{Q:aw av->ay->Prop}(hh:A.handled=au)(hit:lI s.heap I a (.int 0 0) es.size es.size ep)(q:rS w s.heap a es ep t)
  (hb:w.params.followText "set-order" = a5)
  (c:∀h',Heap.ExtBut I s.heap h'->Q au {s with heap:=h' }):wpAny (bq prog w) A (e7 (.ref I)) Q E s:=by
 obtain⟨os,j,B,z,hT⟩:=id q;have U:(pickOrder (w.params.setOrder a ep) es)[es.size]?=au:=by
  rw[ad9];have:=(Dw (w.params.setOrder a ep) es).length_eq;simp only[gL]at this;omega
 unfold e7;refine aJ (GQ (GO (name:=Str.ofString "__next__") hit.typeIs pF
  (uZ pF hit.typeIs IZ ?_ (JO _))))
 unfold Builtin.«set_iterator.__next__»;refine aJ (aY ?_);refine aJ (KY hit rfl ?_);dsimp only;refine aJ (GL j B z ?_);rw[bb (by simp)];refine aJ ?_;unfold setNext;refine aJ (CQ j B z ?_);dsimp only;unfold setsByText;refine aJ (aJ (CU (aY ?_)));refine ZX (vT (show w.params.followText "set-order" = a5 from hb)) ?_;refine wM (by simp) ?_;refine aJ (Qa q hb ?_);rw[FX,U];refine aY ?_;simp only[Option.map_none];refine aJ (zZ hit (by simp) λh1 d N=>?_);show wpAny _ _ (newExc (.type "StopIteration") [] >>= _) _ _ _;refine aJ ?_;simp only[newExc,newTuple];refine aJ (qC ?_ (by size_fits));refine aJ (m:=et _ _) (wpAny_of_eq (a:=Value.none) (by first|rfl|(simp only[et];rfl)) ?_);refine qC ?_ (by size_fits);simp only[raiseNew];refine aJ (wpAny_handled ?_);rw[show A.in1.handled=au from hh];refine aJ (aY (wpAny_throw ?_));refine aJ (ZY (T := "StopIteration") (b:=a5) ⟨_,gU _ rfl,rfl⟩ isSubtype_stop ?_);exact aY (c _ ((N.extBut.push _).push _))
theorem ae8{src:Source}{n:a6}{Q:a6->ay->Prop}(hn:n≠0)(h:∀i,i<n->Q i {s with drawn:=s.drawn.bump src}):wpAny (bq prog w) A (choose src n) Q E s:=λj p _=>by
 unfold choose;rw[Sem.wp_choose];exact⟨hn,h _ (Nat.mod_lt _ (by omega))⟩
theorem Pu{α:Type}:∀(n:a6) (xs:aq α) (s:ay) {Q:aq α->ay->Prop},xs.length=n->(∀ys d,ys.Perm xs->Q ys {s with drawn:=d})->wpAny (bq prog w) A (drawOrder n xs) Q E s
 |0,xs,s,Q,hl,h=>by
  have:xs=[]:=List.length_eq_zero_iff.mp hl;subst this;unfold drawOrder;have e:s={s with drawn:=s.drawn}:=by cases s;rfl
  rw[e];exact aY (h [] s.drawn (FT _))
 |n+1,[],s,Q,hl,h=>by simp at hl
 |n+1,x::xs,s,Q,hl,h=>by
  unfold drawOrder;refine aJ (ae8 (by simp) λi hi=>?_);rw[fF hi];dsimp only;refine aJ (Pu n ((x::xs).eraseIdx i) _ (by rw[List.length_eraseIdx_of_lt hi];omega) λys d j=>?_);refine aY (h ((x::xs)[i]::ys) d ?_);exact(j.cons _).trans (Jn _ _ hi)
end
set_option maxRecDepth 100000
set_option compiler.extract_closed false
set_option genSizeOf false
set_option bootstrap.genMatcherCode false
def KJ(h:bz)(T:az)(ps:aq a6):Prop:=h.get? T=ao {cls:=.type "tuple",data:=.seq (ps.map λi:a6=>ck (i:a4)).toArray}
section
variable{prog:bh}{w:bw}{A:bu}{E:av->ay->Prop}{s:ay}
theorem arF{I a T:az}{es:a8 (a4×av)}{ep i j:a6}{t:cq}{ps:aq a6}{x:a4×av}{Q:aw av->ay->Prop}(hit:lI s.heap I a (.ref T) i es.size ep)(b:rS w s.heap a es ep t)(hT:KJ s.heap T ps)
  (d:ps[i]?=ao j) (U:es[j]?=ao x)
  (e:∀h',lI h' I a (.ref T) (i+1) es.size ep->Heap.SameBut I s.heap h'->Q (ao x.2) {s with heap:=h' }):wpAny (bq prog w) A (e7 (.ref I)) Q E s:=by
 obtain⟨os,q,B,z,_⟩:=id b;unfold e7;refine aJ (GQ (GO (name:=Str.ofString "__next__") hit.typeIs pF
  (uZ pF hit.typeIs IZ ?_ (JO _))))
 unfold Builtin.«set_iterator.__next__»;refine aJ (aY ?_);refine aJ (KY hit rfl ?_);dsimp only;refine aJ (GL q B z ?_);rw[bb (by simp)];refine aJ (wpAny_seqItems hT rfl ?_);have c:(ps.map λi:a6=>ck (i:a4)).toArray[i]?=ao (ck (j:a4)):=by simp[d]
 dsimp only;rw[FX,c];show wpAny _ _ (setNextDrawn a (j:a4).toNat (ep:a4).toNat >>= _) _ _ _;refine aJ ?_;unfold setNextDrawn;refine aJ (CQ q B z ?_);dsimp only;refine wM (by simp) ?_;rw[FX,U];refine aY ?_;refine aJ (zZ hit (by simp) λh1 f N=>?_);refine aY ⟨_,rfl,aY (e h1 ?_ N)⟩;unfold lI;rw[f];simp[ck]
theorem arG{I a T:az}{es:a8 (a4×av)}{ep:a6}{t:cq}{ps:aq a6}{Q:aw av->ay->Prop}(hh:A.handled=au)(hit:lI s.heap I a (.ref T) es.size es.size ep)(B:rS w s.heap a es ep t)(hT:KJ s.heap T ps)
  (U:ps.length=es.size)
  (d:∀h',Heap.ExtBut I s.heap h'->Q au {s with heap:=h' }):wpAny (bq prog w) A (e7 (.ref I)) Q E s:=by
 obtain⟨os,z,e,c,_⟩:=id B;unfold e7;refine aJ (GQ (GO (name:=Str.ofString "__next__") hit.typeIs pF
  (uZ pF hit.typeIs IZ ?_ (JO _))))
 unfold Builtin.«set_iterator.__next__»;refine aJ (aY ?_);refine aJ (KY hit rfl ?_);dsimp only;refine aJ (GL z e c ?_);rw[bb (by simp)];refine aJ (wpAny_seqItems hT rfl ?_);have N:(ps.map λi:a6=>ck (i:a4)).toArray[es.size]?=au:=by simp[<-U]
 dsimp only;rw[FX,N];refine aJ (zZ hit (by simp) λg f j=>?_);refine aJ (zZ f (by simp) λh1 h q=>?_);show wpAny _ _ (newExc (.type "StopIteration") [] >>= _) _ _ _;refine aJ ?_;simp only[newExc,newTuple];refine aJ (qC ?_ (by size_fits));refine aJ (m:=et _ _) (wpAny_of_eq (a:=Value.none) (by first|rfl|(simp only[et];rfl)) ?_);refine qC ?_ (by size_fits);simp only[raiseNew];refine aJ (wpAny_handled ?_);rw[show A.in1.handled=au from hh];refine aJ (aY (wpAny_throw ?_));refine aJ (ZY (T := "StopIteration") (b:=a5) ⟨_,gU _ rfl,rfl⟩ isSubtype_stop ?_);exact aY (d _ (((j.trans q).extBut.push _).push _))
theorem Dm{I a:az}{f:av}{i n ep:a6}{Q:av->ay->Prop}(hit:lI s.heap I a f i n ep)(h:Q (.ref I) s):wpAny (bq prog w) A (pyIter (.ref I)) Q E s:=by
 refine wpAny_pyIter_slot hit.typeIs So (uZ So hit.typeIs aBU ?_ (aGG _));show wpAny _ _ (ret (.ref I)) _ _ s;exact aY ⟨_,rfl, "set_iterator",_,hit.typeIs,pF.lookup,h⟩
theorem KJ.at{h h':bz}{T:az}{ps:aq a6}(x:KJ h T ps)(e:∀o,h.get? T=ao o->h'.get? T=ao o):KJ h' T ps:=e _ x
theorem afE(hh:A.handled=au)(I a:az)(eX:a≠I)(es:a8 (a4×av))(ep:a6)(t:cq)(hb:w.params.followText "set-order" = a5) :
  Walks prog w A I [I,a] [I] es.size (λi v=>((pickOrder (w.params.setOrder a ep) es).toList.map (·.2))[i]?=ao v) (λi h=>lI h I a (.int 0 0) i es.size ep/\rS w h a es ep t)where
 sub:=λb hb=>by simp at hb;simp[hb]
 frame:=λ_ _ _ st q=>⟨st.1.at λo e=>q I (by simp) o e,st.2.at λo e=>q a (by simp) o e⟩
 item:=λi s Q E hi st j=>by
  have hl:i<(pickOrder (w.params.setOrder a ep) es).size:=by
   have:=(Dw (w.params.setOrder a ep) es).length_eq;simp only[gL]at this;omega
  have N:=Ol hl;refine arJ st.1 st.2 hb N λh' U z=>?_;exact j _ h' s.toks (by simp[hl]) ⟨U,st.2.at λo e=>z.extBut a o eX e⟩ λb o hb e=>z.extBut b o (λh=>hb (by simp[h])) e
 done:=λs Q E st j=>arK hh st.1 st.2 hb λh' B=>j h' s.toks λb o hb e=>B b o (λh=>hb (by simp[h])) e
 self:=λ_ _ _ _ st j=>Dm st.1 j
theorem afD(hh:A.handled=au)(I a:az)(eX:a≠I)(es:a8 (a4×av))(ep:a6)(t:cq)(hb:w.params.followText "set-order" = ax)(hd:(!t.plain&&decide (es.size>1))=ax) :
  Walks prog w A I [I,a] [I] es.size (λi v=>(es.toList.map (·.2))[i]?=ao v) (λi h=>lI h I a (.int (AJ t i) 0) i es.size ep/\rS w h a es ep t)where
 sub:=λb hb=>by simp at hb;simp[hb]
 frame:=λ_ _ _ st q=>⟨st.1.at λo e=>q I (by simp) o e,st.2.at λo e=>q a (by simp) o e⟩
 item:=λi s Q E hi st j=>by
  have N:=Ol hi;refine arH st.1 st.2 hb hd N λh' U z=>?_;exact j _ h' s.toks (by simp[hi]) ⟨U,st.2.at λo e=>z.extBut a o eX e⟩ λb o hb e=>z.extBut b o (λh=>hb (by simp[h])) e
 done:=λs Q E st j=>arI hh st.1 st.2 hb hd λh' B=>j h' s.toks λb o hb e=>B b o (λh=>hb (by simp[h])) e
 self:=λ_ _ _ _ st j=>Dm st.1 j
theorem afC(hh:A.handled=au)(I a T:az)(eX:a≠I)(N:T≠I)(es:a8 (a4×av))(ep:a6)(t:cq)(ps:aq a6)(z:ps.Perm (List.range es.size)) :
  Walks prog w A I [I,a,T] [I] es.size (λi v=>(ps.map λj=>(es.getD j (0,.none)).2)[i]?=ao v) (λi h=>lI h I a (.ref T) i es.size ep/\rS w h a es ep t/\KJ h T ps)where
 sub:=λb hb=>by simp at hb;simp[hb]
 frame:=λ_ _ _ st B=>⟨st.1.at λo e=>B I (by simp) o e,st.2.1.at λo e=>B a (by simp) o e,st.2.2.at λo e=>B T (by simp) o e⟩
 item:=λi s Q E hi st q=>by
  have hl:i<ps.length:=by rw[z.length_eq];simpa using hi
  have hm:ps[i]<es.size:=by
   have:=z.mem_iff.mp (QV hl);simpa using this
  refine arF (j:=ps[i]) (x:=es[ps[i]]) st.1 st.2.1 st.2.2 (fF hl) (Ol hm) λh' d U=>?_;exact q _ h' s.toks (by simp[hl,Array.getD,hm]) ⟨d,st.2.1.at λo e=>U.extBut a o eX e,st.2.2.at λo e=>U.extBut T o N e⟩ λb o hb e=>U.extBut b o (λh=>hb (by simp[h])) e
 done:=λs Q E st q=>arG hh st.1 st.2.1 st.2.2 (by rw[z.length_eq];simp) λh' c=>q h' s.toks λb o hb e=>c b o (λh=>hb (by simp[h])) e
 self:=λ_ _ _ _ st q=>Dm st.1 q
end
set_option maxRecDepth 100000
set_option compiler.extract_closed false
set_option genSizeOf false
set_option bootstrap.genMatcherCode false
theorem kR.akG{prog:bh}{w:bw}{h:bz}{a:az}{es:a8 (a4×av)}(x:kR prog w h a es):∃ep t,rS w h a es ep t:=let ⟨o,ep,t,j,_,hd,_,_,hf,hT⟩:=x; ⟨ep,t,o,j,hd,hf,hT⟩
section
variable{prog:bh}{w:bw}{A:bu}{E:av->ay->Prop}{s:ay}
theorem amO{a:az}{es:a8 (a4×av)}{Q:av->ay->Prop}(hh:A.handled=au)(hS:kR prog w s.heap a es)
  (m:∀(I:az) (h':bz) (d:Drawn) (ord:aq av) (fp:aq az) (St:a6->bz->Prop),ord.Perm (es.toList.map (·.2))->(∀b o,s.heap.get? b=ao o->h'.get? b=ao o)->(∀b∈fp,b=a\/s.heap.objs.size<=b)->s.heap.objs.size<=I ->
   Walks prog w A I fp [I] es.size (λi v=>ord[i]?=ao v) St->St 0 h'->Q (.ref I) {s with heap:=h',drawn:=d}):wpAny (bq prog w) A (pyIter (.ref a)) Q E s:=by
 obtain⟨B,t,g⟩:=hS.akG;obtain⟨os,U,f,c,hT⟩:=id g;have r:=hS.typeIs;have n:a<s.heap.objs.size:=hS.lt;have h:es.size<eu:=let ⟨_,_,_,_,_,_,_,hb,_,_⟩:=hS;hb;refine wpAny_pyIter_slot r F.slot_set_iter (uZ F.slot_set_iter r aBV ?_ (F.args_set_iter_1 _));unfold Builtin.«frozenset.__iter__»;refine aJ (aY ?_);refine aJ ?_;unfold Builtin.Frozenset.sizeOf;refine aJ (GL U f c (aY ?_));refine aJ ?_;unfold setDrawn;refine aJ (CQ U f c ?_);dsimp only;unfold setsByText;refine aJ (aJ (CU (aY (aY ?_))));cases hb:w.params.followText "set-order" with
 |true =>
  refine wM (nY (show ¬((!w.params.followText "set-order" && (!t.plain&&decide (es.size>1)))=a5)by rw[hb];simp)) (aJ (aY ?_));refine aJ (wpAny_setEpoch_of U f c ?_);refine aJ (qC (aY ⟨_,rfl, "set_iterator",_,⟨_,gU _ rfl,rfl⟩,pF.lookup,?_⟩));have e:s={s with drawn:=s.drawn}:=by cases s;rfl
  have:=m s.heap.objs.size (s.heap.push {cls:=.type "set_iterator",data:=.fields #[.int 0 0,.int 0 0,.ref a,.int es.size 0,.int B 0]}) s.drawn _ _ _ ((Dw (w.params.setOrder a B) es).map (·.2)) (λb o e=>dI _ e) (λb hb=>by
   simp only[dY,wG,vG]at hb
   rcases hb with z|z
   ·exact .inr (by rw[z];exact rV _)
   ·exact .inl z) cJ (afE hh _ a (fW n) es B t hb) ⟨gU _ rfl,g.at λo e=>dI _ e⟩
  simpa[ck]using this
 |false =>
  cases hd:(!t.plain&&decide (es.size>1))with
  |false =>
   refine wM (nY (show ¬((!w.params.followText "set-order" && (!t.plain&&decide (es.size>1)))=a5)by rw[hd];simp)) (aJ (aY ?_));refine aJ (wpAny_setEpoch_of U f c ?_);refine aJ (qC (aY ⟨_,rfl, "set_iterator",_,⟨_,gU _ rfl,rfl⟩,pF.lookup,?_⟩));have:=m s.heap.objs.size (s.heap.push {cls:=.type "set_iterator",data:=.fields #[.int 0 0,.int 0 0,.ref a,.int es.size 0,.int B 0]}) s.drawn _ _ _ (FT _) (λb o e=>dI _ e) (λb hb=>by
    simp only[dY,wG,vG]at hb
    rcases hb with z|z
    ·exact .inr (by rw[z];exact rV _)
    ·exact .inl z) cJ (afD hh _ a (fW n) es B t hb hd) ⟨gU _ rfl,g.at λo e=>dI _ e⟩
   simpa[ck]using this
  |true =>
   refine ZX (vT (show(!w.params.followText "set-order" && (!t.plain&&decide (es.size>1)))=a5 by rw[hb,hd];simp)) ?_;refine aJ (Pu es.size (List.range es.size) s (by simp) λN d l=>?_);have x:N.length=es.size:=by rw[l.length_eq];simp
   refine aJ (wpAny_newTuple ?_ (by rw[jG,x];exact Jk h));have k1:∀b o,s.heap.get? b=ao o->(s.heap.push {cls:=.type "tuple",data:=.seq (N.map λi:a6=>ck (i:a4)).toArray}).get? b=ao o:=λb o e=>dI _ e;refine aJ (wpAny_setEpoch_of (k1 a _ U) f c ?_);refine aJ (qC (aY ⟨_,rfl, "set_iterator",_,⟨_,gU _ rfl,rfl⟩,pF.lookup,?_⟩));have u:(s.heap.push {cls:=.type "tuple",data:=.seq (N.map λi:a6=>ck (i:a4)).toArray}).objs.size=s.heap.objs.size+1:=KL _ _;have k:(N.map λj=>(es.getD j (0,.none)).2).Perm (es.toList.map (·.2)):=by
    have h1:=l.map λj=>(es.getD j (0,.none)).2;have h2:(List.range es.size).map (λj=>(es.getD j (0,Value.none)).2)=es.toList.map (·.2):=by
     apply zS;intro j;rw[jH,jH]
     by_cases p:j<es.size
     ·simp[p,Array.getD]
     ·simp[p]
    rw[h2]at h1;exact h1
   have:=m (s.heap.objs.size+1) ((s.heap.push {cls:=.type "tuple",data:=.seq (N.map λi:a6=>ck (i:a4)).toArray}).push {cls:=.type "set_iterator",data:=.fields #[.ref s.heap.objs.size,.int 0 0,.ref a,.int es.size 0,.int B 0]}) d _ _ _ k (λb o e=>dI _ (k1 b o e)) (λb hb=>by
    simp only[dY,wG,vG]at hb
    rcases hb with z|z|z
    ·exact .inr (by rw[z];exact FJ _)
    ·exact .inl z
    ·exact .inr (by rw[z];exact rV _)) (FJ _) (afC hh _ a s.heap.objs.size (fW (YQ n)) (fW (YO _)) es B t N l) ⟨by
     unfold lI;have q:=gU (s.heap.push {cls:=.type "tuple",data:=.seq (N.map λi:a6=>ck (i:a4)).toArray}) (o:={cls:=.type "set_iterator",data:=.fields #[.ref s.heap.objs.size,.int 0 0,.ref a,.int es.size 0,.int B 0]}) rfl;rw[u]at q;exact q,g.at λo e=>dI _ (k1 a o e),dI _ (gU _ rfl)⟩
   rw[<-u]at this;simpa[ck]using this
end
set_option maxRecDepth 100000
set_option compiler.extract_closed false
set_option genSizeOf false
set_option bootstrap.genMatcherCode false
section
variable{prog:bh}{w:bw}{A:bu}{E:av->ay->Prop}{s:ay}
theorem axC{r:az}{Q:br->ay->Prop}(hT:s.TypeIs (.ref r) "set")(h:Q ax s):wpAny (bq prog w) A (Builtin.List.listLengthHint (.ref r)) Q E s:=by
 unfold Builtin.List.listLengthHint;refine aJ (wpAny_specialOf hT F.slot_set_len.lookup ?_);generalize z:("set.__len__" : c4)=q
 wp_delta
 rw[show splitId q=ao ("set", "__len__")from by subst z;decide +kernel];subst z;refine aJ (ZY (T := "set") (b:=a5) hT (by rw[isSubtype_type];kernel_rfl) ?_);refine wpAny_ite_split (λj=>b7 j (by decide)) (λ_=>?_);refine wpAny_ite_split (λ_=>?_) (λj=>b7 (by decide +kernel) j);refine aJ (wpAny_typeOf hT ?_);exact aY h
theorem au7{ord:aq av}{af:a8 av}(h:ItemsOf (λi v=>ord[i]?=ao v) af ord.length):af.toList=ord:=by
 apply zS;intro i;rw[mM];cases e:af[i]? with
 |some v=>exact(h.2 i v e).symm
 |none =>
  rw[eq_comm,List.getElem?_eq_none_iff];rw[ad9,h.1]at e;exact e
theorem aBK{R:Result->ay->Prop}{r:az}{es:a8 (a4×av)}(hh:A.handled=au)(hS0:kR prog w s.heap r es)(S:az)(l:S≠r)(res:av)(q:a6)(hS:s.heap.get? S=ao {cls:=.type "list",data:=.seq #[] q})
  (hR:∀h' tk d U c',(∀b o,b≠S->s.heap.get? b=ao o->h'.get? b=ao o)->h'.get? S=ao {cls:=.type "list",dict:=au,data:=.seq U c',slots:=#[]}->U.toList.Perm (es.toList.map (·.2))->R (.ok (.ret res)) {s with heap:=h',toks:=tk,drawn:=d}) :
  wpAny (bq prog w) A.in1 (Builtin.List.listExtendWith (.ref S) (.ref r) res)
   (λfin s'=>match fin with | .done f=>R (.ok f) s' | .again c'=>c'.quiet=a5/\codeAny (bq prog w) A c' R s') (λe s'=>R (.error e) s') s:=by
 have c:es.size<eu:=let ⟨_,_,_,_,_,_,_,hb,_,_⟩:=hS0;hb;have NN:S<s.heap.objs.size:=dQ hS;unfold Builtin.List.listExtendWith;refine aJ (wpAny_typeOf (T := "set") hS0.typeIs ?_);have h1:Builtin.List.listSameRef (.ref S) (.ref r)=ax:=by simp[Builtin.List.listSameRef,l]
 have u:(Value.type "set" == Value.type "list")=ax:=by decide
 have t:(Value.type "set" == Value.type "tuple")=ax:=by decide
 simp only[h1,u,t,Bool.or_false,jW,gH];refine aJ (amO (A:=A.in1) hh hS0 λI C d ord D St i a G k W st=>?_);have VD:ord.length=es.size:=by rw[i.length_eq];simp
 have EG:S∉D:=λhm=>by
  rcases G S hm with z|z
  ·exact l z
  ·exact b7 NN (Nat.not_lt.mpr z)
 have y:S≠I:=λz=>b7 NN (by rw[z];exact Nat.not_lt.mpr k);have key:∀(h:bz) (j tk:a6),St 0 h->(∀b o,b≠S->s.heap.get? b=ao o->h.get? b=ao o) ->
   h.get? S=ao {cls:=.type "list",data:=.seq #[] j}->codeAny (bq prog w) A (.builtin "list.extend.loop" ⟨[.ref S,.ref I,res],[]⟩) R {s with heap:=h,toks:=tk,drawn:=d}:=by
  intro h j tk v x N;refine codeAny_extend_loopS W.toS (Jk c) S EG res es.size 0 _ #[] j rfl HS v N (ItemsOf.nil _) λs' U c' hm nE p=>?_;rw[Moved.eq_with hm];refine hR s'.heap s'.toks d U c' (λb o hb e=>hm.heap b o (λg=>?_) (x b o hb e)) nE (by rw[au7 (ord:=ord) (by rw[VD];exact p)];exact i)
  rcases dY.mp g with E|g
  ·exact hb E
  ·exact b7 (dQ e) (by rw[lT.mp g];exact Nat.not_lt.mpr k)
 have N:=a S _ hS;refine aJ (CS (axC (kR.typeIs (s:={s with heap:=C,drawn:=d}) (hS0.at λo e=>a r o e)) ?_));refine wpAny_ite_split (λ_=>?_) (λ_=>aY ⟨TY PySem.F.plain_extend_loop _,key _ q _ st (λb o _ e=>a b o e) N⟩);refine aJ (wL ?_);refine aJ ?_;show wpAny _ _ (updateSeq S (·.push .none) >>= λ_=>updateSeq S (·.pop)) _ _ _;refine aJ (wpAny_updateSeq N rfl ?_);have m:=ZF (Obj.mapSeq (·.push Value.none)) N rfl;refine wpAny_updateSeq (hz:=by seq_fits) m rfl ?_;have B:=ZF (Obj.mapSeq (·.pop)) m rfl;refine aY ⟨TY PySem.F.plain_extend_loop _,key _ _ _ ?_ (λb o hb e=>?_) B⟩
 ·refine W.frame 0 _ _ st λb hb o e=>?_;have n:b≠S:=λh=>EG (h ▸ hb);exact(uU _ _ (cX n)).trans ((uU _ _ (cX n)).trans e)
 ·exact(uU _ _ (cX hb)).trans ((uU _ _ (cX hb)).trans (a b o e))
theorem aDX{R:aq av->ay->Prop}{r:az}{es:a8 (a4×av)}(hh:A.handled=au)(hS0:kR prog w s.heap r es)
  (h:∀(h':bz) (tk:a6) (d:Drawn) (af:a8 av),(∀b o,s.heap.get? b=ao o->h'.get? b=ao o)->af.toList.Perm (es.toList.map (·.2))->R af.toList {s with heap:=h',toks:=tk,drawn:=d}) :
  wpAny (bq prog w) A (collect (.ref r)) R E s:=by
 have c:=hS0.lt;unfold collect;refine aJ (wpAny_runValue (JB entry_proto_collect' ?_));rw[ZS PySem.F.plain_proto_collect _];show wpAny _ A.in1 (newList [] >>= λl=>again (.builtin "list.__iadd__" ⟨[l,.ref r],[]⟩)) _ _ s;refine aJ (qC ?_);refine aY ⟨TY PySem.F.plain_list_iadd _,JB entry_list_iadd' ?_⟩;rw[ZS PySem.F.plain_list_iadd _];have g:(s.heap.push {cls:=.type "list",data:=.seq ([]:aq av).toArray}).get? s.heap.objs.size=ao {cls:=.type "list",data:=.seq #[]}:=gU _ rfl;show wpAny _ A.in1 (Builtin.List.listExtendWith (.ref s.heap.objs.size) (.ref r) (.ref s.heap.objs.size)) _ _ _;have key:=aBK (A:=A) (s:={s with heap:=s.heap.push {cls:=.type "list",data:=.seq ([]:aq av).toArray} }) (es:=es)
  (R:=λ(q:Result) (s':ay)=>∃(h':bz) (tk:a6) (d:Drawn) (j:a8 av) (N:a6),q=.ok (.ret (.ref s.heap.objs.size))/\s'={s with heap:=h',toks:=tk,drawn:=d} /\
   (∀b o,s.heap.get? b=ao o->h'.get? b=ao o)/\h'.get? s.heap.objs.size=ao {cls:=.type "list",dict:=au,data:=.seq j N,slots:=#[]}/\j.toList.Perm (es.toList.map (·.2)))
  hh (hS0.at λo e=>dI _ e) s.heap.objs.size (JT c) (.ref s.heap.objs.size) 0 g
  (λh' tk d j N B nE z=>⟨h',tk,d,j,N,rfl,rfl,λb o e=>B b o (fW (dQ e)) (dI _ e),nE,z⟩)
 refine lV key (λfin s' x=>?_) λe s' x=>?_
 ·cases fin with
  |done f =>
   obtain⟨h',tk,d,j,N,e,rfl,B,nE,z⟩:=x;cases e;show wpAny _ A (load s.heap.objs.size >>= _) _ _ _;refine aJ (wpAny_load nE ?_);exact aY (h h' tk d j B z)
  |again U =>
   refine⟨x.1,uJ x.2 λq s₂ y=>?_⟩;obtain⟨h',tk,d,j,N,rfl,rfl,B,nE,z⟩:=y;show wpAny _ A (load s.heap.objs.size >>= _) _ _ _;refine aJ (wpAny_load nE ?_);exact aY (h h' tk d j B z)
 ·obtain⟨_,_,_,_,_,a,_⟩:=x;cases a
end
end PySem
namespace L2
open PySem PySem.Spec PyProof.Rows
section
variable{X:Cx}
def JS(P:bh)(w:bw)(a:az)(ms:aq a4)(h:bz):Prop:=∃es mY,kR P w h a es/\Nums es mY/\mY.Perm ms
noncomputable def xQ(ns:aq a4):aq a4:=ns.foldl step_dedup []
theorem alY(ns:aq a4):(List.range ns.length).map (λi=>ns.getD i 0)=ns:=by
 apply zS;intro i;rw[jH]
 by_cases h:i<ns.length
 ·rw[adQ h];simp[List.getD,h]
 ·rw[zQ (by simp;omega),zQ (by omega)];rfl
theorem akE{P:bh}{w:bw}{a:az}{ms:aq a4}{H:Hp}{h:bz}(x:JS P w a ms h):iO P w H h a (.ext (JS P w a ms)):=by
 refine⟨x,?_,λh1 h2 y k=>?_⟩
 ·obtain⟨es,mY,j,_⟩:=x;obtain⟨o,_,_,z,_⟩:=j;exact⟨o,z⟩
 ·obtain⟨es,mY,j,q⟩:=y;exact⟨es,mY,j.at k,q⟩
theorem aEV(d:X.calm=a5):tP X (.type "set") (λxs H Q=>∃(a:az) (ns:aq a4),xs=[.ref a]/\fO X.K H a (ns.map V.int)/\ns.length<4000 /\
  ∀l,H l=au->Q (.ref l) (upd H l (.ext (JS X.prog X.w l (xQ ns))))):=by
 intro aa s J H xs i Q I r h;obtain⟨a,ns,rfl,U,m,q⟩:=h;obtain⟨u,rfl,N⟩:=vals1 r;cases N;obtain⟨B,z,pl,k⟩:=I.list U;have g:de B ns:=intsAre_of z;have hl:B.length=ns.length:=by rw[<-z.length,jG]
 refine aEU (I.ok.hd d) pl.isList g (by rw[kD,hl];show ns.length+1<4096;omega) λh' tk es ms hT f j c=>?_;rw[kD,hl]at j;unfold firstMet at j;rw[alY]at j;exact⟨.ref s.heap.objs.size,_,I.laid (t':=tk) (o:=.ext (JS X.prog X.w s.heap.objs.size (xQ ns))) (λb o e=>c b o (dQ e) e) cJ (akE ⟨es,ms,hT,f,j⟩),rfl,q _ (I.aK.fresh cJ)⟩
theorem Inv.drawn{aa:aq (az×c6)}{J:St}{H:Hp}{s:ay}(I:Inv X aa J H s)(d:Drawn):Inv X aa J H {s with drawn:=d} :=
 ⟨I.ok,I.os,I.bare,I.base,I.loc,I.cell,I.free,I.lQ,I.pin,I.aK,I.len⟩
theorem avE:∀{l q:aq av},q.Perm l->∀{ms:aq a4},de l ms->∃mY,de q mY/\mY.Perm ms:=by
 intro l q h
 induction h with
 |nil=>intro ms h;exact⟨ms,h,FT _⟩
 |cons x _ ih =>
  intro ms h;cases h with
  |cons n t r=>obtain⟨mY,a,b⟩:=ih r;exact⟨n::mY,.cons n t a,b.cons n⟩
 |swap x y l =>
  intro ms h;cases h with
  |cons n t r =>
   cases r with
   |cons j N r=>exact⟨j::n::_,.cons j N (.cons n t r),.swap n j _⟩
 |trans _ _ B z =>
  intro ms h;obtain⟨e,d,b1⟩:=z h;obtain⟨U,c,b2⟩:=B d;exact⟨U,c,b2.trans b1⟩
theorem aES(F:X.calm=a5):tP X (.builtin "sorted") (λxs H Q=>∃(d:az) (j:aq a4),xs=[.ref d]/\H d=ao (.ext (JS X.prog X.w d j))/\j.length<4000 /\
  ∀(ms:aq a4) (l:az),ms.Perm j->ms.Pairwise (· <= ·)->H l=au->Q (.ref l) (upd H l (.lst (ms.map V.int)))):=by
 intro aa s J H xs R Q I r h;obtain⟨d,j,rfl,hd,T,q⟩:=h;obtain⟨u,rfl,y⟩:=vals1 r;cases y;obtain⟨⟨es,C,hT,K,G⟩,_,_⟩:=I.aK _ _ hd;have D:(4000:a6)<=bf:=by decide
 refine Calls.call_function_entry kind_sorted plain_sorted entry_sorted (args_sorted1 _) ?_;unfold Builtin.«sorted»;refine aJ (m:=checkCount "sorted" 1 1 _) (aY ?_);refine aJ (aDX (A:=X.A.in1) (I.ok.hd F) hT λh' tk dr af P v=>?_);obtain⟨U,f,BC⟩:=avE v K;have c:U.Perm j:=BC.trans G;have hl:af.toList.length=j.length:=by
  have:∀{N:aq av} {ns:aq a4},de N ns->N.length=ns.length:=by
   intro N ns h
   induction h with
   |nil=>rfl
   |cons n t _ ih=>simp[ih]
  rw[this f,c.length_eq]
 refine aJ (wpAny_newList ?_ (by rw[hl];omega));have B:(h'.push (dh "list" af.toList.toArray 0)).get? h'.objs.size=ao (dh "list" af.toList.toArray 0):=gU _ rfl;refine aJ (CS (uZ slot_list_sort ⟨_,B,rfl⟩ entry_list_sort (Wq B f (by omega) λae z M i L=>⟨_,rfl,?_⟩) (args_list_sort _)));refine aY ⟨_,rfl,?_⟩;have k:Inv X aa J H {s with heap:=h',toks:=tk,drawn:=dr}:=(I.kept (t':=tk) P).drawn dr;have E:H h'.objs.size=au:=k.aK.fresh cJ;obtain⟨g,p⟩:∃g,((h'.push (dh "list" af.toList.toArray 0)).update h'.objs.size (Obj.mapSeq λ_=>#[])).get? h'.objs.size=ao (dh "list" #[] g):=⟨_,WJ B (λ_=>#[])⟩;have x:=dI (dh "list" #[] 0) (dI (dh "tuple" af.toList.toArray 0) p);obtain⟨a,o⟩:∃a,(fj (h'.push (dh "list" af.toList.toArray 0)) h'.objs.size af.toList ae).get? h'.objs.size=ao (dh "list" ae a):=⟨_,WJ x (λ_=>ae)⟩;have kp:∀b u,h'.get? b=ao u->(fj (h'.push (dh "list" af.toList.toArray 0)) h'.objs.size af.toList ae).get? b=ao u:=λb u e=>by
  have hb:b≠h'.objs.size:=fW (dQ e);unfold fj;exact(uU _ _ (cX hb)).trans (dI _ (dI _ ((uU _ _ (cX hb)).trans (dI _ e))))
 have hv:Vals (z.map V.int) ae.toList:=RZ M;have S:z.length=j.length:=(i.trans c).length_eq;refine⟨.ref h'.objs.size,upd H h'.objs.size (.lst (z.map V.int)),k.laid (t':=tk) kp cJ ?_,rfl,q z _ (i.trans c) L E⟩;exact⟨by rw[jG];omega,ae.toList,a,hv,o⟩
end
end L2
namespace PySem
open PyProof.Rows PySem.Spec
set_option maxRecDepth 100000
set_option compiler.extract_closed false
set_option genSizeOf false
set_option bootstrap.genMatcherCode false
end PySem
namespace V2
open PySem PySem.Spec PyProof.Rows L2
section
variable{X:Cx}{W:WX}{e o:bx}
@[simp] def GY(c:br)(f:Ev->Mo A):Ev->Mo A:=λY=>mb (f Y) λa Z=>match (dU Z a).bind intsOf with
 |some ns=>if ns.length<4000/\(xQ ns).length<4000 then rF c ((sortI (xQ ns)).map A.int) Z else au
 |none=>au
theorem afZ{f:Ev->Mo A}{C p2 x j:dn}(c:br)(U:X.calm=a5)(B:Gl X "sorted")(z:X.mg "sorted" = au)(L:Gl X "set")(q:X.mg "set" = au)(he:VE X W e f)
  (N:bg [.Call (.Name "set" p2) [e] [] j] X.env=(ax,cj (.Call (.Name "set" p2) [e] [] j) X.env)::bg [] X.env:=by rfl)
  (g:bg [e] X.env=(ax,cj e X.env)::bg [] X.env:=by rfl) :
  VE X W (.Call (.Name "sorted" C) [.Call (.Name "set" p2) [e] [] j] [] x) (GY c f):=by
 obtain⟨t,p,s⟩:=he;refine⟨_,Uz (aES U) B z boot_sorted (HN (Uy (aEV U) L q PyProof.Rows.boot_set (HN p LZ g) (by decide) (by decide) g rfl) LZ N) (by decide) (by decide) N rfl,λG m o H J i Q w r h=>?_⟩;show t J H _;refine s G m o H J i _ w r (bD.mb h λa n v S T k P w1 K h1=>?_);split at h1
 ·rename_i ns b;split at h1
  ·rename_i hl;rw[QP]at b;obtain⟨ds,I,F⟩:=b;obtain⟨p,M,rfl,h2,E⟩:=xB w1 K I;rw[Fw F E]at h2;refine⟨p,ns,rfl,h2,hl.1,λl d=>?_⟩;refine⟨l,xQ ns,rfl,eZ,hl.2,λms R D u y=>?_⟩;rw[Sl D u];exact HU (w1.new d (.ext (JS X.prog X.w l (xQ ns)))) y (XD _) (h1.ext (Ext.new (w1.oQ d) _))
  ·exact False.elim h1
 ·exact False.elim h1
end
end V2
namespace M
open PySem L2 V2
section
variable{Z Z' Z'':aH}{Y:Ev}
theorem orF{f g:Ev->Mo br}(h:f Y Z=aG ax Z'):mS f g Y Z=g Y Z':=by
 unfold mS;rw[bO h];rfl
theorem vJ{f:Ev->Mo br}{b:br}(h:f Y Z=aG b Z'):kU f Y Z=aG (!b) Z':=by
 unfold kU;rw[bO h];rfl
theorem nO{f:Ev->Mo A}{b:br}(h:f Y Z=aG (.bl b) Z'):bX f Y Z=aG b Z':=by
 unfold bX;rw[bO h];rfl
theorem opE{g:A->A->Mo A}{f1 f2:Ev->Mo A}{a b:A}{j:aH}{c:A}(h1:f1 Y Z=aG a Z')(h2:f2 Y Z'=aG b Z'')(q:g a b Z''=aG c j):aC g f1 f2 Y Z=aG c j:=by
 unfold aC;rw[bO h1,bO h2,q]
theorem bZ{g:A->A->Mo A}{f1 f2:Ev->Mo A}{a b c:A}(h1:f1 Y Z=aG a Z)(h2:f2 Y Z=aG b Z)(j:g a b Z=aG c Z):aC g f1 f2 Y Z=aG c Z:=opE h1 h2 j
theorem uA{t:Ev->Mo br}{s:MS}(h:t Y Z=aG ax Z'):eA t s gX Y Z=dA Y Z':=by
 unfold eA;rw[gO h];rfl
theorem nG{f:Ev->Mo A}{i:a6}{a:A}(h:f Y Z=aG a Z'):bN f (gN i) Y Z=dA (Y.set i (ao a)) Z':=by
 unfold bN;rw[gO h];rfl
theorem bA{i:a6}{a:A}(h:(Y[i]?).join=ao a):eM i Y Z=aG a Z:=by simp[h]
theorem bG{f:Ev->Mo A}{fs:Ev->Mo (aq A)}{a:A}{as:aq A}(h:f Y Z=aG a Z)(j:fs Y Z=aG as Z):aB f fs Y Z=aG (a::as) Z:=by
 unfold aB;rw[bO h,bO j];rfl
theorem eB:a0 Y Z=aG [] Z:=rfl
theorem lS{F:aq A->Mo A}{fs:Ev->Mo (aq A)}{n:a6}{as:aq A}{a:A}(h:fs Y Z=aG as Z)(hn:as.length=n)(j:F as Z=aG a Z'):aQ (bI n F) fs Y Z=aG a Z':=by
 unfold aQ;rw[bO h];unfold bI;rw[a9 hn];exact j
theorem oW{g:aq A->Mo A}{fs:Ev->Mo (aq A)}{Y:Ev}{Z Z':aH}{as:aq A}{a:A}(h:fs Y Z=aG as Z)(j:g as Z=aG a Z'):aQ g fs Y Z=aG a Z':=by
 unfold aQ;rw[bO h];exact j
theorem clE{g:aq A->Mo A}{fs:Ev->Mo (aq A)}{as:aq A}{a:A}(h:fs Y Z=aG as Z')(j:g as Z'=aG a Z''):aQ g fs Y Z=aG a Z'':=by
 unfold aQ;rw[bO h];exact j
end
end M
namespace V2
open PySem PySem.Spec PyProof.Rows L2
section
variable{P:bh}{w:bw}{K:bj}{mg:ba->aw av}{base:bz}
theorem cO.o{x:ba}{st:b8}{N ps:aq ba}{k:a6}{b:MS}(h:HasFn K mg x st)(S:dN N ps (aZ st))
  (q:∀{f:az} {j:av} {A:bu} {outer:aq Env} {s:ay} {H:Hp} {E:XK},cK k (A.deeper (c8 x (aZ st) s.heap.objs.size f j)) ->
   iC (oV P w K mg base N x (aZ st) f j A outer s H E) (λ_=>E) (eL st) b)
  (bind:∀(kV doc pm:av) (an:aw az) (j ct:av) (us:aq av),us.length=ps.length->dk (e9 x x (jO st) (eL st) (aZ st) .none kV doc pm an j ct) ⟨us,[]⟩=pure (ps.zip us):=by exact λ_ _ _ _ _ _ us hl=>(by first|exact Ar us hl λ_=>rfl|exact LJ us hl λ_ _=>rfl|exact SD us hl λ_ _ _=>rfl|exact SA us hl λ_ _ _ _=>rfl|exact us5 us hl λ_ _ _ _ _=>rfl)) :
  cO P w K mg base x (k+1) ps (dP N.length b):=cO.of h S bind λ_ _ _ _ _ _ _=>q
theorem fT.o{cls m qual:ba}{st:b8}{N ps:aq ba}{k:a6}{b:MS}(h:CF K mg cls m qual st)(S:dN N ps (aZ st))
  (q:∀{f:az} {j:av} {A:bu} {outer:aq Env} {s:ay} {H:Hp} {E:XK},cK k (A.deeper (c8 qual (aZ st) s.heap.objs.size f j)) ->
   iC (oV P w K mg base N qual (aZ st) f j A outer s H E) (λ_=>E) (eL st) b)
  (bind:∀(kV doc pm:av) (an:aw az) (j ct:av) (us:aq av),us.length=ps.length->dk (e9 m qual (jO st) (eL st) (aZ st) .none kV doc pm an j ct) ⟨us,[]⟩=pure (ps.zip us):=by exact λ_ _ _ _ _ _ us hl=>(by first|exact Ar us hl λ_=>rfl|exact LJ us hl λ_ _=>rfl|exact SD us hl λ_ _ _=>rfl|exact SA us hl λ_ _ _ _=>rfl)) :
  fT P w K mg base cls m (k+1) ps.length [] (dP N.length b):=fT.of h S bind λ_ _ _ _ _ _ _=>q
end
section
variable{X:Cx}{W:WX}
theorem hJ(i:a6){x:ba}{pos:dn}(z:decide X.N.Nodup=a5:=by kernel_rfl)(hi:X.N[i]?=ao x:=by rfl)(j:Loc X.env.scope x:=by first|exact .inl rfl|exact .inr rfl)(q:X.fn x=a5\/X.env.scope.names.lookup x=ao .local:=by first|exact .inl rfl|exact .inr rfl|assumption):VG X W (.Name x pos) (gN i):=afX (Ea z) hi j q
theorem cQ(i:a6){x:ba}{e:bx}{fe:Ev->Mo A}{pos pos':dn}(he:VE X W e fe)(B:decide X.N.Nodup=a5:=by kernel_rfl)(hi:X.N[i]?=ao x:=by rfl)(j:Loc X.env.scope x:=by first|exact .inl rfl|exact .inr rfl)(q:ej e (ao (.Name x pos')) pos.line X.env=pure ax:=by rfl)(z:X.fn x=a5\/X.env.scope.names.lookup x=ao .local:=by first|exact .inl rfl|exact .inr rfl|assumption) :
  VS X W (.Assign [.Name x pos'] e pos) (bN fe (gN i)):=afO (Ea B) hi j he q z
theorem yK{elt tg iter:bx}{ifs:aq bx}{scope:cn}{pos:dn}{fi:Ev->Mo Src}{g:A->MS}{c:Ev->Mo br}{e:Ev->Mo A}(q:br)(j:aq ba)(js:aq a6)(hi:VI X W tg iter fi)
  (hb:∀{cl C s H fp},VG (iJ X scope j js cl C s H fp) qH tg g/\FC (iJ X scope j js cl C s H fp) qH ifs c/\VE (iJ X scope j js cl C s H fp) qH elt e)
  (B:X.calm=a5:=by rfl) (ok:UP scope X.env.scope X.N js=a5:=by kernel_rfl)
  (z:∀x,cw iter X.env x=pure x:=by intro _;rfl):VE X W (.ListComp elt [⟨tg,iter,ifs,0⟩] scope pos) (mT q j.length js fi g c e):=af4 q j js B (.of _ _ rfl rfl ok) hi (λ_ _ _ _ _=>hb) z
end
end V2
namespace L2
open PySem PySem.Spec PyProof.Rows
noncomputable def YX(lo c:a4)(n:a6):It:=⟨λi _=>i<n,λi H x H'=>H'=H/\x=.int (lo+i*c),λi _=>n<=i⟩
theorem agZ{P:bh}{w:bw}{K:bj}{tg:bx}(it:az)(lo c:a4)(n:a6):Turn P w K tg (YX lo c n) [it] it (λi h=>IsRangeIter h it (lo+(i:a6)*c) ((n:a4)-(i:a6)) c)where
 mem:=by simp
 obj:=λi h st b hb=>by
  have e:b=it:=by simpa using hb
  subst e;exact⟨_,st,λv z=>by
   have r:Data.fields _=Data.cell v:=z;cases r⟩
 keep:=λi h h' st k=>k it (by simp) _ st
 item:=by
  intro X U q a N i aa s J H E I j st B;subst U q a;obtain⟨m,l,f2,g,f,d⟩:=j it (by simp);have W:=Walks.range (prog:=X.prog) (w:=X.w) (I.ok.hd N) it lo c n;refine W.item i s _ _ B st λv h' tk hv p u=>?_;obtain⟨t,rfl⟩:=hv;have y:Inv X aa J H {s with heap:=h',toks:=tk}:=I.turned (λb o hb e=>u b o (by simpa using hb) e) m l g f d;exact⟨_,rfl,WH (s:={s with heap:=h',toks:=tk}) (n := "range_iterator") p rfl rfl (by decide) ⟨.int (lo+i*c),H,y,⟨t,rfl⟩,⟨rfl,rfl⟩,p,λb hb=>(j b hb).1⟩⟩
 done:=by
  intro X U q a N i aa s J H E I j st B;subst U q a;obtain⟨m,l,f2,g,f,d⟩:=j it (by simp);exact wpAny_pyNext_range_end (I.ok.hd N) st (by have:n<=i:=B;omega) λh' x=>⟨rfl,I.turned (t':=s.toks) (λb o hb e=>x b o hb e) m l g f d⟩
 self:=λ_ _ _ _ _ st h=>wpAny_pyIter_rangeiter st h
noncomputable def tU(a b c:a4):a6:=(if a<b then(b-a-1)/c+1 else 0:a4).toNat
theorem ajT{a b c:a4}(j:0<c)(q:c<1000)(B : -(2 ^ 60)<=a)(U:a<2 ^ 60)(hb : -(2 ^ 60)<=b)(z:b<2 ^ 60):Builtin.Range.small a b c=a5:=by
 have N:0<=(b-a-1)/c\/b-a-1<0:=by
  by_cases h:b-a-1<0
  ·exact .inr h
  ·exact .inl (FZ (by omega) (by omega))
 have h1:a<b->(b-a-1)/c<=b-a-1:=λh=>Nd _ (by omega);unfold Builtin.Range.small Builtin.Range.rangeSize;rw[a9 (show c>0 from j)];simp only[Builtin.Range.rangeFitsLong,lK,Bool.or_eq_true,BI,xR,show c>0 from j,eT];split
 ·rename_i h;have:=h1 h;omega
 ·omega
section
variable{X:Cx}{tg:bx}
theorem alW{aa:aq (az×c6)}{J:St}{H:Hp}{s:ay}{R:It->Hp->Prop}{E:av->ay->Prop}{lo hi c:a4}{t u v:Tok}{tk:a6}(I:Inv X aa J H s)(z:0<c)(B:c<1000)(h1 : -(2 ^ 60)<=lo)(h2:lo<2 ^ 60)(U : -(2 ^ 60)<=hi)(N:hi<2 ^ 60)
  (q:R (YX lo c (tU lo hi c)) H):wpAny (bq X.prog X.w) X.A (pyIter (.ref s.heap.objs.size)) (Mb X aa J tg R) E {s with heap:=s.heap.push {cls:=.type "range",data:=.fields #[.int lo t,.int hi u,.int c v]},toks:=tk}:=by
 refine wpAny_pyIter_range (IsRange.new ..) (ajT z B h1 h2 U N) ?_;have j:Inv X aa J H {s with heap:=s.heap.push {cls:=.type "range",data:=.fields #[.int lo t,.int hi u,.int c v]},toks:=tk}:=I.kept λb o e=>dI _ e;refine⟨(s.heap.push {cls:=.type "range",data:=.fields #[.int lo t,.int hi u,.int c v]}).objs.size,[(s.heap.push {cls:=.type "range",data:=.fields #[.int lo t,.int hi u,.int c v]}).objs.size],_,_,H,rfl,
  j.kept (t':=tk) λb o e=>dI _ e,agZ _ lo c (tU lo hi c),?_,λb hb=>?_,q⟩
 ·have d:lo+((0:a6):a4)*c=lo:=by simp
  have a:((tU lo hi c:a6):a4)-((0:a6):a4)=Builtin.Range.rangeSize lo hi c:=by
   unfold Builtin.Range.rangeSize tU;rw[a9 (show c>0 from z)];split
   ·have:0<=(hi-lo-1)/c:=FZ (by omega) (by omega);omega
   ·omega
  show IsRangeIter _ _ (lo+((0:a6):a4)*c) (((tU lo hi c:a6):a4)-((0:a6):a4)) c;rw[d,a];exact gU _ rfl
 ·have e:b=(s.heap.push {cls:=.type "range",data:=.fields #[.int lo t,.int hi u,.int c v]}).objs.size:=by simpa using hb
  subst e;exact j.xM cJ (j.aK.fresh cJ)
def avR(ta:TA):TI:=λJ H R=>ta J H λvs H1=>∃i j c:a4,vs=[.int i,.int j,.int c]/\(0<c/\c<1000/\-(2 ^ 60)<=i/\i<2 ^ 60/\-(2 ^ 60)<=j/\j<2 ^ 60)/\R (YX i c (tU i j c)) H1
theorem an1{a b c:bx}{ta:TA}{p pos:dn}(v:Gl X "range")(hm:X.mg "range" = au)(w:PA X [a,b,c] ta)(u:bg [a,b,c] X.env=[(ax,cj a X.env),(ax,cj b X.env),(ax,cj c X.env)]:=by rfl)(U:bg [b,c] X.env=[(ax,cj b X.env),(ax,cj c X.env)]:=by rfl) :
  PI X tg (.Call (.Name "range" p) [a,b,c] [] pos) (avR ta):=by
 intro aa s J H R I h;refine Call_ (HZ I v hm boot_range (Ma (bC (w pos aa s J H _ I h) λA D ⟨y,E,x,r1,B⟩=>?_) (by rw[u,U]) (by rw[U];rfl)));obtain⟨i,j,k,e,⟨o,N,B,n,m,l⟩,q⟩:=B;subst e;cases r1 with
 |cons r z =>
  cases z with
  |cons g z =>
   cases z with
   |cons d z =>
    cases z;obtain⟨t,rfl⟩:=r;obtain⟨C,rfl⟩:=g;obtain⟨f,rfl⟩:=d;exact call_range_3 (by omega) (alW x o N B n m l q) (.inl (PyProof.noPylong_small (by omega)))
end
end L2
namespace V2
open PySem PySem.Spec PyProof.Rows L2
section
variable{X:Cx}{W:WX}{pos:dn}
@[simp] noncomputable def AN(lo c:a4)(n:a6):Src:=⟨(List.range n).map λ(i:a6)=>A.int (lo+(i:a4)*c),λ_=>True⟩
theorem au2{K:bj}{G:Hp}{O:aq az}{lo c:a4}{n:a6}:FW K G O (YX lo c n) (AN lo c n):=by
 refine⟨λ_ _ _ _ _ _ _ i hi=>show i<n by simpa[AN]using hi,λ_ _ _ _ _ _ _ i hi=>show n<=i by simpa[AN]using hi,λa z B d e w h i x b y q hd=>?_⟩;obtain⟨U,N⟩:=hd;subst U N;refine⟨a,Ext.refl _ _,w,?_⟩;simp only[AN,jH]at q;cases e:(List.range n)[i]? with
 |none=>rw[e]at q;cases q
 |some j =>
  rw[e]at q;cases q;have:=(cY.mp e).2;simp at this;subst this;simp only[Den]
def LU(i j c:a4):Prop:=0<c/\c<1000/\-(2 ^ 60)<=i/\i<2 ^ 60/\-(2 ^ 60)<=j/\j<2 ^ 60
instance (i j c:a4):c5 (LU i j c):=by unfold LU;infer_instance
@[simp] def LD(f:Ev->Mo (aq A)):Ev->Mo Src:=λY=>mb (f Y) λas=>match as with
 |[.int i,.int j,.int c]=>mb (nF (LU i j c)) λ_=>ret (AN i c (tU i j c))
 |_=>stuck
theorem afV{tg a b c:bx}{fs:Ev->Mo (aq A)}{p:dn}(y:Gl X "range")(hm:X.mg "range" = au)(D:VA X W [a,b,c] fs)(x:bg [a,b,c] X.env=[(ax,cj a X.env),(ax,cj b X.env),(ax,cj c X.env)]:=by rfl)(m:bg [b,c] X.env=[(ax,cj b X.env),(ax,cj c X.env)]:=by rfl):VI X W tg (.Call (.Name "range" p) [a,b,c] [] pos) (LD fs):=by
 obtain⟨t,p,s⟩:=D;refine⟨_,an1 y hm p x m,λG e g H J U R w r h=>?_⟩;refine s G e g H J U _ w r (bD.mb h λM f I P Q d F w1 E h1=>?_);split at h1
 ·rename_i i j k;obtain⟨v,t,rfl,N,u⟩:=E.lY;obtain⟨K,L,rfl,B,o⟩:=u.lY;obtain⟨l,n,rfl,z,q⟩:=o.lY;rw[vS]at q;subst q;simp only[Den]at N B z;subst N B z;obtain⟨C,h2⟩:=bD.nF h1;exact⟨i,j,k,rfl,C,iS w1 au2 h2⟩
 ·exact False.elim h1
end
section
variable{X:Cx}{W:WX}{a b c d e:bx}{ta tb tc td te:TE}{fa fb fc fd fe:Ev->Mo A}{pos:dn}
theorem amX{f U g i:CmpOp}{r A n B:R2}(ho:gZ X (b9 f) r)(kY:gZ X (b9 U) A)(NK:gZ X (b9 g) n)(S:gZ X (b9 i) B)(ha:PE X a ta)(hb:PE X b tb)(hc:PE X c tc)(hd:PE X d td)(he:PE X e te)
  (hm:lastMarks [f,U,g,i] [b,c,d,e]=ax:=by with_unfolding_all rfl):PT X (.Compare a [f,U,g,i] [b,c,d,e] pos) (Be (Rw r A n B ta tb tc td te)):=by
 intro aa s J H Q I h;refine isTrue_chain (bC (ha aa s J H _ I h) λv s1 ⟨x,H1,I1,r1,q1⟩=>test_link (bC (hb aa s1 J H1 _ I1 q1) λu s2 ⟨y,H2,I2,w,q2⟩ =>
  bC (ho aa s2 J H2 x y v u _ I2 r1 w q2) λd s3 ⟨z,P,K,B,k,e,E⟩=>?_)) hm
 subst e;cases B;refine yI ?_;cases k with
 |false =>
  obtain⟨N,j,q⟩:=E;cases j;exact ite_ff ⟨P,K,q⟩
 |true =>
  refine ite_tt (test_link (bC (hc aa s3 J P _ K E) λo s4 ⟨m,H4,I4,t,q4⟩=>bC (kY aa s4 J H4 y m u o _ I4 w t q4) λd' s5 zz=>?_));obtain⟨z2,M,G,r5,N,j,D⟩:=zz;subst j;cases r5;refine yI ?_;cases N with
  |false =>
   obtain⟨N,j,q⟩:=D;cases j;exact ite_ff ⟨M,G,q⟩
  |true =>
   refine ite_tt (test_link (bC (hd aa s5 J M _ G D) λw2 W ⟨l,H6,I6,p,q6⟩=>bC (NK aa W J H6 m l o w2 _ I6 t p q6) λd2 V zz=>?_));obtain⟨z4,L,F,r7,k2,e2,C⟩:=zz;subst e2;cases r7;refine yI ?_;cases k2 with
   |false =>
    obtain⟨N,j,q⟩:=C;cases j;exact ite_ff ⟨L,F,q⟩
   |true =>
    refine ite_tt (test_last (bC (he aa V J L _ F C) λw3 T ⟨R,H8,I8,r8,q8⟩=>bC (S aa T J H8 l R w2 w3 _ I8 p r8 q8) λd3 s9 zz=>?_));obtain⟨z6,H9,I9,r9,k3,e3,q9⟩:=zz;subst e3;cases r9;exact yI ⟨H9,I9,q9⟩
theorem afJ{q j f h:CmpOp}{g g' k i:A->A->Mo A}(E:lG X W (b9 q) g)(D:lG X W (b9 j) g')(H:lG X W (b9 f) k)(l:lG X W (b9 h) i)(G:VE X W a fa)(hb:VE X W b fb)(F:VE X W c fc)(hd:VE X W d fd)(he:VE X W e fe)
  (hm:lastMarks [q,j,f,h] [b,c,d,e]=ax:=by with_unfolding_all rfl):VT X W (.Compare a [q,j,f,h] [b,c,d,e] pos) (bX (LH g g' k i fa fb fc fd fe)):=by
 obtain⟨r,C,y⟩:=E;obtain⟨S,I,K⟩:=D;obtain⟨L,N,U⟩:=H;obtain⟨R,B,z⟩:=l;obtain⟨t,x,p⟩:=G;obtain⟨u,p2,s2⟩:=hb;obtain⟨Q,w,o⟩:=F;obtain⟨P,v,n⟩:=hd;obtain⟨M,s,m⟩:=he;exact⟨_,amX C I N B x p2 w v s hm,Br (aj7 y K U z p s2 o n m)⟩
end
end V2
namespace M
open PySem V2
noncomputable section
def JL:Ev->Mo A :=
 (aC zJ (aC bB aM bP) bK)
def Kq:MS :=
 (dB (aQ (bI 2 GC) (aB aM (aB (GZ 0 "upto" ⟨86,53,86,84⟩ (UK "upto") [1] (λns a=>vR (sQ JL ns) a) (aC bB aM kN)) a0))))
def RD:aq A->Mo A:=dP 2 Kq
def Li:Ev->Mo A :=
 (mT ax 1 [1] (gW dJ) (gN 0) sC (aQ (AQ (bI 2 RD)) (aB aM (aB bK a0))))
def EY:MS :=
 (aX (bN (eR "look_last" [("Window",eN 2 [] zV)] aM (aB bH a0)) (gN 2))
  (aX (bN (eR "parts" [("Window",eN 2 [] CI)] aM (aB bH a0)) (gN 3))
  (aX (bN (aQ (bI 1 ZI) (aB Li a0)) (gN 4))
  (dB (sG (aB (aQ zI (aB bP (aB (aC (dG) (aC bB cW bP) (aQ (bI 2 RJ) (aB dJ (aB bH a0)))) a0))) (aB (aQ sZ (aB bH (aB (aC bB cW bM) a0))) a0)))))))
def sA:aq A->Mo A:=dP 5 EY
def acO:Ev->Mo A :=
 (mT ax 1 [3] (gW (sH ax bH (mR (aC (dG) (aQ dO (aB bH a0)) cW)) sJ)) (gN 0) (bX (aC rK aM bK)) aM)
def Lh:MS :=
 (aX (bN bK (rJ 3 (jM (gN 5) (jM (gN 6) (jM (gN 7) sY)))))
  (aX (eA (bX (aC (OO ax) cW cN))
   (aX (bN (eR "upto" [("Window",eN 3 [.aV] sA)] aM (aB dJ a0)) (gN 8))
   (aX (bN (eR "off" [("Window",eN 2 [.aV] qU)] aM a0) (gN 9))
   (bN (aQ sZ (aB qD (aB (aQ dO (aB bH a0)) a0))) (gN 4))))
   (aX (bN (eR "upto" [("Window",eN 3 [] sA)] aM (aB dJ (aB cW a0))) (gN 8))
   (bN (eR "off" [("Window",eN 2 [] qU)] aM (aB cW a0)) (gN 9))))
  (aX (eA (mS (kU (bX (aQ IW (aB lW (aB (cT "tuple") a0))))) (mS (bX (aC OM (aQ dO (aB lW a0)) jR)) (mS (kU (bX (aQ (bI 1 uV) (aB (aC bB lW bP) a0)))) (kU (bX (aQ (bI 1 uV) (aB (aC bB lW bM) a0)))))))
   (dB (cB ax))
   gX)
  (aX (eA (mS (kU (bX (aQ (bI 1 uV) (aB wN a0)))) (bX (aC zJ wN (aC bV (aC (dG) iQ bM) (aC (jZ) (aC bV (aC (iL) cW iQ) bM) (aC (iL) iQ GR))))))
   (dB (cB ax))
   gX)
  (aX (bN (aQ dO (aB acO a0)) (gN 10))
  (aX (eA (mS (kU (bX (LH rK rK rK rK bP (aC bB lW bP) Ab (aC bB lW bM) cW))) (bX (aC zJ (aC (dG) (aC bB lW bM) (aC bB lW bP)) wN)))
   (dB (cB ax))
   gX)
  (aX (bN (eR "held" [("Window",eN 1 [] CJ)] aM a0) (gN 11))
  (dB (LI (aQ (bI 1 uV) (aB AA a0)) (HB tD rK bP AA (aC bV (aC (jZ) (aC (jZ) (aC bV (aC (iL) qD iQ) jR) jR) GR) iQ)))))))))))
def KO:aq A->Mo A:=dP 12 Lh
def Ld:az->Exc->MS :=
 λp e=>(aX (bN (aQ (ON p (qX ["NoRow", "NoPlace"] ["RankError", "NoRow", "NoPlace", "NoPouch", "NoSize", "Wrong", "NoTimes", "Unlike", "NoText"] e.cls) (zY ["NoRow", "NoPlace"] e.cls)) (aB cW (aB (sG (aB (cG "NoPouch") (aB (cG "NoRow") (aB (cG "NoSize") (aB (cG "NoText") (aB (cG "NoTimes") (aB (cG "Unlike") (aB (cG "Wrong") a0)))))))) a0))) (gN 5))
   (bN (fM ax (aB (aQ (ON p (qX ["NoRow", "NoPlace"] ["RankError", "NoRow", "NoPlace", "NoPouch", "NoSize", "Wrong", "NoTimes", "Unlike", "NoText"] e.cls) (zY ["NoRow", "NoPlace"] e.cls)) (aB cW (aB (cG "RankError") a0))) (aB (aQ (ON p (qX ["NoRow", "NoPlace"] ["RankError", "NoRow", "NoPlace", "NoPouch", "NoSize", "Wrong", "NoTimes", "Unlike", "NoText"] e.cls) (zY ["NoRow", "NoPlace"] e.cls)) (aB cW (aB (cT "ValueError") a0))) (aB qD a0)))) (gN 3)))
def Lc:MS :=
 (eA (bX bH)
    (iG (eR "off" [("Window",eN 2 [] qU)] aM (aB bK a0)))
    (iG (eR "upto" [("Window",eN 3 [] sA)] aM (aB bP (aB bK a0)))))
def JN:MS :=
 (aX (bN cN (gN 3))
  (aX (DE 4 (λz=>qX ["NoRow", "NoPlace"] ["RankError", "NoRow", "NoPlace", "NoPouch", "NoSize", "Wrong", "NoTimes", "Unlike", "NoText"] z "NoPlace" == ao a5) Lc Ld)
  (dB (aC iW dJ (fM ax (aB (cB a5) (aB (cB a5) (aB (cB ax) a0))))))))
def ZL:aq A->Mo A:=AQ (dP 6 JN)
def QA:MS :=
 (eA (mS (kU (bX (aQ (bI 3 ZL) (aB aM (aB iQ (aB (cB a5) a0)))))) (kU (bX (aQ (bI 3 ZL) (aB aM (aB iQ (aB (cB ax) a0)))))))
    (dB (cB ax))
    gX)
def Le:MS :=
 (aX (bN (aQ sZ (aB (aC bB bK bP) (aB (aQ dO (aB bH a0)) a0))) (gN 4))
  (aX (bN (fM a5 (aB bP (aB (aC (dG) (aC (dG) bP bM) (aC (dW) dJ GS)) (aB (aC bV cW bM) (aB (aC bV cW (aC (zH) AB Ac)) a0))))) (gN 5))
  (aX (eA (bX (aC iW bH (fM ax a0)))
   (iG (kW pN qD (aB cN a0)))
   gX)
  (aX (kP (gW qD) (gN 6) QA)
  (dB (cB a5))))))
def ZM:aq A->Mo A:=dP 7 Le
def XY:MS :=
 (eA (kU (bX (aQ (bI 5 KO) (aB aM (aB bK (aB bH (aB qD (aB iQ a0))))))))
     (dB (cB ax))
     gX)
def QC:MS :=
 (kP (gW (fM ax (aB cN (aB cW (aB (aC bV bM (aC (dW) dJ cW)) a0))))) (gN 6) XY)
def QB:MS :=
 (eA (kU (bX (aQ (bI 5 KO) (aB aM (aB bK (aB bH (aB (aC bB bH (aC (dG) (aC (dG) bP bM) (aC (dW) dJ (aQ dO (aB bH a0))))) (aB iQ a0))))))))
    (dB (cB ax))
    gX)
def Lf:MS :=
 (aX (eA (kU (bX (aQ (bI 4 ZM) (aB aM (aB bK (aB bH (aB dJ a0)))))))
   (dB (cB ax))
   gX)
  (aX (eA (bX (aC iW bH (fM ax a0)))
   (dB (aC iW (eR "held" [("Window",eN 1 [] CJ)] aM a0) bP))
   gX)
  (aX (bN (aQ sZ (aB (aC bB bK bP) (aB (aQ dO (aB bH a0)) a0))) (gN 4))
  (aX (kP (gW (LC ax (GY ax bH) sJ (mR (cI 12)) (mR jR))) (gN 5) QC)
  (aX (kP (LD (aB (aC bV bM (aC (dW) dJ qY)) (aB (aC bV cW bM) (aB qY a0)))) (gN 6) QB)
  (dB (cB a5)))))))
def Ni:aq A->Mo A:=dP 7 Lf
def Kx:Ev->Mo A :=
 (mT ax 1 [] (gW bH) (gN 0) sC (aQ (IV "Window" 4 KP) (aB (aC bB aM bP) (aB (aC bB aM bM) (aB (aC bB aM jR) a0)))))
def EW:MS :=
 (aX (iG (kW pN (aC bB cW wN) (aB lW a0)))
     (iG (eR "put" [("Window",eN 2 [] GD)] (aC bB dJ wN) (aB lW a0))))
def JM:MS :=
 (aX (bN (aQ (bI 2 rZ) (aB (aQ (bI 2 yB) (aB iQ (aB (aC bV bM GR) a0))) (aB bK a0))) (gN 8))
    (kP (rB (aB (aC bV bM (aC (dW) (aQ dO (aB (aC bB cW bP) a0)) jR)) a0)) (gN 9) EW))
def PV:MS :=
 (aX (bN (aQ (bI 3 ZK) (aB aM (aB qY (aB qD a0)))) (gN 6))
   (aX (kP (rB (aB (aC bV bM (aC (dW) iQ kN)) a0)) (gN 7) JM)
   (aX (bN (aC bV (aC bB (aC bB cW bP) (aC (dW) (aC (iL) iQ kN) (aQ dO (aB (aC bB cW bP) a0)))) (aC (jZ) (aC bB (fM ax (aB bP (aB bM (aB (aC (dG) bP bM) a0)))) (aC (dW) (aC (iL) iQ GS) kN)) (aQ WL (aB (aC tD bK kN) a0)))) (gN 10))
   (aX (bN (aQ sZ (aB (aC bB (aC bB bH bP) bP) (aB (aQ dO (aB (aC bB cW bP) a0)) a0))) (gN 11))
   (aX (bN (aC bB (fM ax (aB cN (aB AA (aB (aC (OP a5) bM (aC (dW) (aQ (bI 2 yB) (aB iQ (aB GS a0))) AA)) a0)))) (aC (dW) (aC (iL) iQ (cI 27)) kN)) (gN 12))
   (eA (Aq (bX (aC iW (aC (dW) qD kN) bP)) (kU (bX (aQ (bI 5 KO) (aB (aC bB dJ bP) (aB (aC bB bH bP) (aB (aC bB cW bP) (aB Ab (aB Qb a0)))))))))
    (dB (cB ax))
    gX))))))
def EV:MS :=
 (eA (kU (bX (aQ (bI 4 Ni) (aB (aC bB dJ wN) (aB (aC bB bH wN) (aB (aC bB cW wN) (aB (aQ (bI 2 pZ) (aB aM (aB kN a0))) a0)))))))
    (dB (cB ax))
    gX)
def XW:MS :=
 (aX (bN (aC (dW) (aQ (bI 2 pZ) (aB aM (aB bP a0))) qY) (gN 1))
  (aX (bN (fM ax (aB (aQ (bI 1 yA) (aB (aQ (bI 2 pZ) (aB aM (aB bM a0))) a0)) (aB (aQ (bI 1 yA) (aB (aQ (bI 2 pZ) (aB aM (aB jR a0))) a0)) a0))) (gN 2))
  (aX (bN Kx (gN 3))
  (aX (bN (fM ax (aB (fM a5 a0) (aB (fM a5 a0) a0))) (gN 4))
  (aX (kP (rB (aB (aQ (bI 3 CH) (aB aM (aB qY (aB (cI 58) a0)))) a0)) (gN 5) PV)
  (aX (kP (rB (aB jR a0)) (gN 9) EV)
  (dB (cB a5))))))))
def adZ:aq A->Mo A:=dP 13 XW
end
open PySem L2 V2
abbrev hU:Cell:=.tab "upto" ⟨86,53,86,84⟩ (UK "upto")
theorem agN{s l d:a4}{es:aq E}(hz:es.length<=1000)(x:a4)(m:a6)(hm:m<=es.length)(U:∀(i:a6) (e:E),es[i]?=ao e->(!ah x a5 e)=decide (m<=i))(ent:A)(Z:aH)(hT:Z[0]?=ao hU)(B:fX Z ent=ao (encL es)) :
  RD [.tup [.int s,.int l,.int d,ent],.int x] Z=aG (.tup [.int (mZ es m),.int (nC s es m)]) Z:=by
 have c:vR (sQ JL [x]) ent Z=aG (.int (m:a4)) Z:=by
  refine aA1 B (by simpa using hm) (by simp;omega) λi a j=>?_;rw[OX]at j;cases e:es[i]? with
  |none=>rw[e]at j;cases j
  |some z =>
   rw[e]at j;cases j;have:=U i z e;rw[<-this];simp only[sQ,tY,JL,ah]
   by_cases h1:z.1<x
   ·have h2:¬x<z.1:=by omega
    simp[dM,h1,h2]
   ·by_cases N:z.1=x
    ·have h2:¬x<z.1:=by omega
     simp[dM,h1,h2,N]
    ·have h2:x<z.1:=by omega
     simp[dM,h1,h2,N]
 have b:=aHY s l d ent es m Z B hm;have q:GZ 0 "upto" ⟨86,53,86,84⟩ (UK "upto") [1] (λns a=>vR (sQ JL ns) a) (aC bB aM kN) [ao (.tup [.int s,.int l,.int d,ent]),aA x] Z=aG (.int (m:a4)) Z:=by
  simp only[GZ];rw[bO (x:=ent) (Z':=Z) (by simp)];rw[a9 hT];simp only[BL,tY];show(match (vR (sQ JL [x]) ent Z)with
   |some (.exc _,_)=>au
   | r=>r)=_
  rw[c]
 show trim Z (iI (Kq [ao (.tup [.int s,.int l,.int d,ent]),aA x] Z))=_;unfold Kq;simp[q,b]
theorem aHJ{R:aq Rn}{p:Po}(h:Gd R p)(hz:p.es.length<=1000)(x:a4)(Z:aH)(hT:Z[0]?=ao hU):RD [aL p,.int x] Z=aG (.tup [.int (rH x p),.int (sW x p)]) Z :=
 agN hz x _ (Et h x).1 (Et h x).2 (.lst (encL p.es)) Z hT rfl
section
variable{Z:aH}{s:a6}{L b k:a4}{aN:aq a4}{bs:aq (aq a4)}{ns:aq a4}
theorem aHE(h:iN Z s L b k aN bs ns)(hT:Z[0]?=ao hU)(x:a4)(a:A)(v:a4)(m:pJ L aN.length a=ao v)(h1:1<=v)(h2:v<=min L aN.length){q:a6}{nl:aq a4}(T:Taken b aN bs ns v q nl) :
  sA [.aE s,.int x,a] Z=aG (.tup [.int (max 0 (rC x (bW k bs q nl)-(nP (bW k bs q nl)-v))),.int (min v (sI x (bW k bs q nl)))]) Z:=by
 have c:=YR h.at_ a v m;rw[bb (by omega)]at c;have i:=h.parts h1 T;have I:=h.tF q nl;have G:=anI h (by omega) T;have l:=aaL (Jb h.k1 bs q nl);have f:Z[s]?=ao (.ins "Window" (wF L b k aN.length ((bs.map (bE k)).map aL) (ns.map A.int))):=h.at_;have be:=adM (bW k bs q nl) (by omega) v Z;show trim Z (iI (EY [aD s,aA x,ao a,au,au] Z))=_;have C:(eR "look_last" [("Window",eN 2 [] zV)] aM (aB bH a0)) [aD s,aA x,ao a,au,au] Z=aG (.int v) Z:=by
  refine Eq.trans (rL (as:=[a]) (s:=s) rfl f rfl ?_ rfl) c;exact iX rfl jF
 have w:(eR "parts" [("Window",eN 2 [] CI)] aM (aB bH a0)) [aD s,aA x,aA v,au,au] Z=aG (.lst ((bW k bs q nl).map aL)) Z:=by
  refine Eq.trans (rL (as:=[.int v]) (s:=s) rfl f rfl ?_ rfl) i;exact iX rfl jF
 have B:0<Z.length:=(cY.mp hT).1;have z:Li [aD s,aA x,aA v,cA ((bW k bs q nl).map aL),au] Z=aG (.lst ((bW k bs q nl).map λp=>iT (rH x p) (sW x p))) Z :=
  CY (n:=1) (js:=[1]) (fi:=gW dJ) (g:=gN 0) (Y:=[aD s,aA x,aA v,cA ((bW k bs q nl).map aL),au]) (Z:=Z) (Z0:=Z) (S:=srcOf (.lst ((bW k bs q nl).map aL)) ((bW k bs q nl).map aL)) (bW k bs q nl) aL (λp=>iT (rH x p) (sW x p)) (λY=>∃y,Y=[y,aA x]) (λx y e=>by rw[abI e])
   (by simp) (λN=>by simp[srcOf]) ⟨au,by simp[nT]⟩ rfl (by omega) (λp d Y o N=>by
    obtain⟨y,rfl⟩:=o;obtain⟨R,r⟩:=l p d;have u:=aHJ r (G p d) x (Z++[.lst N]) (by rw[iD B];exact hT);generalize aL p=P at u;refine⟨[ao P,aA x],⟨_,rfl⟩,by simp,?_⟩;simp[bI,u,iT]) (λx _=>by simp[iT,Cl,fK])
 have j:=aHL ((bW k bs q nl).map λp=>(rH x p,sW x p)) (by simp;omega) Z;simp only[xW]at j;have F:(bW k bs q nl).map ((λp:a4×a4=>iT p.1 p.2) ∘ λp=>(rH x p,sW x p))=(bW k bs q nl).map λp=>iT (rH x p) (sW x p):=rfl;have E:((bW k bs q nl).map ((λp:a4×a4=>p.1) ∘ λp=>(rH x p,sW x p))).sum=rC x (bW k bs q nl):=rfl;have D:((bW k bs q nl).map ((λp:a4×a4=>p.2) ∘ λp=>(rH x p,sW x p))).sum=sI x (bW k bs q nl):=rfl;rw[F,E,D]at j;have s2:(2:a6)<=bf:=by decide
 have e:EY [aD s,aA x,ao a,au,au] Z=ao (.ret (.tup [.int (max 0 (rC x (bW k bs q nl)-(nP (bW k bs q nl)-v))),.int (min v (sI x (bW k bs q nl)))]),[aD s,aA x,aA v,cA ((bW k bs q nl).map aL),ao (.tup [.int (rC x (bW k bs q nl)),.int (sI x (bW k bs q nl))])],Z):=by
  unfold EY;rw[bY (QE (by simp) C)];show aX _ _ [aD s,aA x,aA v,au,au] Z=_;rw[bY (QE (by simp) w)];show aX _ _ [aD s,aA x,aA v,cA ((bW k bs q nl).map aL),au] Z=_;generalize ((bW k bs q nl).map λp=>iT (rH x p) (sW x p))=H at z j;generalize rC x (bW k bs q nl)=lo at j;generalize sI x (bW k bs q nl)=hi at j;generalize nP (bW k bs q nl)=S at be;generalize (bW k bs q nl).map aL=U at be z;have t:(aQ (bI 1 ZI) (aB Li a0)) [aD s,aA x,aA v,cA U,au] Z=aG (.tup [.int lo,.int hi]) Z:=by
   rw[aQ,bO (iX z jF)];simp[bI,j]
  rw[bY (QE (by simp) t)];show dB _ [aD s,aA x,aA v,cA U,ao (.tup [.int lo,.int hi])] Z=_;simp[bI,be,s2]
 rw[e];simp only[tX];exact wR
theorem aHD(h:iN Z s L b k aN bs ns)(x:a4)(a:A)(v:a4)(B:pJ L aN.length a=ao v)(q:v<1\/min L aN.length<v):sA [.aE s,.int x,a] Z=ao (.exc ⟨"NoPlace",[]⟩,Z):=by
 have j:=YR h.at_ a v B;rw[a9 q]at j;have z:Z[s]?=ao (.ins "Window" (wF L b k aN.length ((bs.map (bE k)).map aL) (ns.map A.int))):=h.at_;show trim Z (iI (EY [aD s,aA x,ao a,au,au] Z))=_;have N:(eR "look_last" [("Window",eN 2 [] zV)] aM (aB bH a0)) [aD s,aA x,ao a,au,au] Z=ao (.exc ⟨"NoPlace",[]⟩,Z):=by
  refine Eq.trans (rL (as:=[a]) (s:=s) rfl z rfl ?_ rfl) j;exact iX rfl jF
 unfold EY;rw[Tc (acR N)];simp[Rb]
theorem aHG(h:iN Z s L b k aN bs ns)(a:A)(v:a4)(B:pJ L aN.length a=ao v)(q:v<1\/min L aN.length<v):qU [.aE s,a] Z=ao (.exc ⟨"NoPlace",[]⟩,Z):=by
 have j:=YR h.at_ a v B;rw[a9 q]at j;have z:Z[s]?=ao (.ins "Window" (wF L b k aN.length ((bs.map (bE k)).map aL) (ns.map A.int))):=h.at_;show trim Z (iI (EZ [aD s,ao a,au] Z))=_;have N:(eR "look_last" [("Window",eN 2 [] zV)] aM (aB bK a0)) [aD s,ao a,au] Z=ao (.exc ⟨"NoPlace",[]⟩,Z):=by
  refine Eq.trans (rL (as:=[a]) (s:=s) rfl z rfl ?_ rfl) j;exact iX rfl jF
 unfold EZ;rw[Tc (acR N)];simp[Rb]
end
theorem Kb{i j:a4}(q:0<=j)(h1:j<=1000000000):kM i j/\kM j i:=by
 have a : -(2 ^ 64)<j:=by omega
 have b:j<2 ^ 64:=by omega
 exact⟨.inr ⟨a,b⟩,.inl ⟨a,b⟩⟩
theorem PN{i j:a4}(q:0<j)(h1:j<=1001):mL i j:=⟨q,by omega⟩
theorem UH{i j:a4}(h:kM i j)(Z:aH):jZ (.int i) (.int j) Z=aG (.int (i*j)) Z:=by
 simp only[jZ,gI];simp[h]
theorem PD{i j:a4}(h:mL i j)(Z:aH):iL (.int i) (.int j) Z=aG (.int (i/j)) Z:=by
 simp only[iL,gI];simp[h]
theorem HP{Z Z' Z'':aH}{Y:Ev}{f g:Ev->Mo br}(h:f Y Z=aG ax Z')(h2:g Y Z'=aG ax Z''):mS f g Y Z=aG ax Z'':=by rw[orF h,h2]
theorem aEM{Z Z1 Z2 j:aH}{Y:Ev}{g g':A->A->Mo A}{f1 f2 q:Ev->Mo A}{x y u:A}(h1:f1 Y Z=aG x Z1)(h2:f2 Y Z1=aG y Z2)(N:g x y Z2=aG (.bl a5) Z2)(B:q Y Z2=aG u j)(z:g' y u j=aG (.bl a5) j):HB g g' f1 f2 q Y Z=aG (.bl a5) j:=by
 unfold HB;rw[bO h1,bO h2,bO N];simp[B,z]
theorem aEN{Z:aH}{Y:Ev}{f1 f2 N B z:Ev->Mo A}{a b c d e:a4}(h1:f1 Y Z=aG (.int a) Z)(h2:f2 Y Z=aG (.int b) Z)(h:N Y Z=aG (.int c) Z)(g:B Y Z=aG (.int d) Z)(f:z Y Z=aG (.int e) Z)(U:a<=b)(q:b<=c)(i:c<=d)(j:d<=e):LH rK rK rK rK f1 f2 N B z Y Z=aG (.bl a5) Z:=by
 simp[LH,mb,h1,h2,h,g,f,U,q,i,j]
theorem aDS(xs:aq a4)(v:a4)(h1:0<=v)(h2:v<=xs.length):vU (xs.map A.int) (ao ((xs.length:a4)-v)) au=(xs.drop (xs.length-v.toNat)).map A.int:=by
 have e:((xs.length:a4)-v)=((xs.length-v.toNat:a6):a4):=by omega
 rw[e];unfold vU;rw[HT.Cz,HT.To];have:min (xs.length-v.toNat) (xs.map A.int).length=xs.length-v.toNat:=by simp
 rw[this,Mr];exact JZ (by simp)
section
variable{Z:aH}{s r:a6}{L b k:a4}{aN:aq a4}{bs:aq (aq a4)}{ns:aq a4}
theorem Mj(h:iN Z s L b k aN bs ns)(hT:Z[0]?=ao hU)(hr:Z[r]?=ao (.lst (aN.map A.int)))(hh:1<=aN.length)(uF:aN.length<=1000)(x:a4)(a:A)(v:a4)(m:pJ L aN.length a=ao v)(Ib:a=.aV\/a=.int v)(h1:1<=v)(h2:v<=min L aN.length) :
  KO [.aE s,bQ L b k,.aE r,.int x,a] Z=aG (.bl a5) Z:=by
 obtain⟨q,nl,T⟩:=taken h.wi h.b1 v h1 (by omega) (by omega);have d:=aHE h hT x a v m h1 h2 T;have of:=aHH h a v m h1 h2 T;obtain⟨lo,hi,el,eh,t0,t1,X,W,t4⟩:=ahC h.k1 T h1 x;rw[<-el,<-eh]at d;obtain⟨o0,o1⟩:=ap4 h T h1;generalize yQ k bs q nl v=off at *;have hd:=adH h;obtain⟨d0,d1⟩:=axQ h hh;generalize (ns.length:a4)+(oU (bs.map (bE k)):a4)=held at *;have xJ:=h.b1;have jY:=h.b2;have gJ:=h.k1;have nW:=h.k2;have WC:=h.L1;have hL2:=h.L2;have z:Z[s]?=ao (.ins "Window" (wF L b k aN.length ((bs.map (bE k)).map aL) (ns.map A.int))):=h.at_;have I:=kX hr;have H:=AK I;have w:=afB;show trim Z (iI (Lh [aD s,ao (bQ L b k),aD r,aA x,ao a,au,au,au,au,au,au,au] Z))=_;unfold Lh;rw[bY (Y1:=[aD s,ao (bQ L b k),aD r,aA x,ao a,aA L,aA b,aA k,au,au,au,au]) (Z':=Z) (by simp[bQ])];have ei:(eA (bX (aC (OO ax) cW cN))
   (aX (bN (eR "upto" [("Window",eN 3 [.aV] sA)] aM (aB dJ a0)) (gN 8))
   (aX (bN (eR "off" [("Window",eN 2 [.aV] qU)] aM a0) (gN 9))
   (bN (aQ sZ (aB qD (aB (aQ dO (aB bH a0)) a0))) (gN 4))))
   (aX (bN (eR "upto" [("Window",eN 3 [] sA)] aM (aB dJ (aB cW a0))) (gN 8))
   (bN (eR "off" [("Window",eN 2 [] qU)] aM (aB cW a0)) (gN 9)))) [aD s,ao (bQ L b k),aD r,aA x,ao a,aA L,aA b,aA k,au,au,au,au] Z=dA [aD s,ao (bQ L b k),aD r,aA x,aA v,aA L,aA b,aA k,ao (.tup [.int lo,.int hi]),aA off,au,au] Z:=by
  rcases Ib with rfl|rfl
  ·have hv:v=min L aN.length:=by simpa[pJ]using m.symm
   have p:(eR "upto" [("Window",eN 3 [.aV] sA)] aM (aB dJ a0)) [aD s,ao (bQ L b k),aD r,aA x,ao .aV,aA L,aA b,aA k,au,au,au,au] Z=aG (.tup [.int lo,.int hi]) Z:=by
    refine Eq.trans (rL (as:=[.int x]) (das:=[.aV]) (s:=s) rfl z rfl ?_ rfl) d;exact iX rfl jF
   have o:(eR "off" [("Window",eN 2 [.aV] qU)] aM a0) [aD s,ao (bQ L b k),aD r,aA x,ao .aV,aA L,aA b,aA k,ao (.tup [.int lo,.int hi]),au,au,au] Z=aG (.int off) Z:=by
    refine Eq.trans (rL (as:=[]) (das:=[.aV]) (s:=s) rfl z rfl ?_ rfl) of;exact jF
   unfold eA;rw[gO (x:=a5) (Z':=Z) (by simp)];simp only[eT];rw[bY (nG (i:=8) p)];simp only[List.set];rw[bY (nG (i:=9) o)];simp only[List.set];rw[nG (i:=4) (a:=.int v) (Z':=Z) (oW (bG (bA (a:=.int L) rfl) (bG (oW (Z':=Z) (bG (bA (a:=.aE r) rfl) eB) (a:=.int aN.length) (by simp[H])) eB)) (by simp[hv]))];rfl
  ·have p:(eR "upto" [("Window",eN 3 [] sA)] aM (aB dJ (aB cW a0))) [aD s,ao (bQ L b k),aD r,aA x,aA v,aA L,aA b,aA k,au,au,au,au] Z=aG (.tup [.int lo,.int hi]) Z:=by
    refine Eq.trans (rL (as:=[.int x,.int v]) (s:=s) rfl z rfl ?_ rfl) d;exact iX rfl (iX rfl jF)
   have o:(eR "off" [("Window",eN 2 [] qU)] aM (aB cW a0)) [aD s,ao (bQ L b k),aD r,aA x,aA v,aA L,aA b,aA k,ao (.tup [.int lo,.int hi]),au,au,au] Z=aG (.int off) Z:=by
    refine Eq.trans (rL (as:=[.int v]) (s:=s) rfl z rfl ?_ rfl) of;exact iX rfl jF
   unfold eA;rw[gO (x:=ax) (Z':=Z) (by simp)];simp only[jW,gH];rw[bY (nG (i:=8) p)];simp only[List.set];rw[nG (i:=9) o];rfl
 rw[bY ei];generalize j:[ao (A.aE s),ao (bQ L b k),aD r,aA x,aA v,aA L,aA b,aA k,ao (.tup [.int lo,.int hi]),aA off,au,au]=Y;have G:eM 4 Y Z=aG (.int v) Z:=bA (by subst j;rfl);have U:eM 6 Y Z=aG (.int b) Z:=bA (by subst j;rfl);have V:eM 7 Y Z=aG (.int k) Z:=bA (by subst j;rfl);have B:eM 8 Y Z=aG (.tup [.int lo,.int hi]) Z:=bA (by subst j;rfl);have E:eM 9 Y Z=aG (.int off) Z:=bA (by subst j;rfl);have i0:aC bB lW bP Y Z=aG (.int lo) Z:=bZ B (b:=.int 0) (by simp) (by simp);have i1:aC bB lW bM Y Z=aG (.int hi) Z:=bZ B (b:=.int 1) (by simp) (by simp);have N:∀{f:Ev->Mo A} {n:a4},f Y Z=aG (.int n) Z->kU (bX (aQ (bI 1 uV) (aB f a0))) Y Z=aG ax Z:=λh=>vJ (b:=a5) (nO (lS (bG h eB) rfl (w _ _)));have l:(mS (kU (bX (aQ IW (aB lW (aB (cT "tuple") a0))))) (mS (bX (aC OM (aQ dO (aB lW a0)) jR)) (mS (kU (bX (aQ (bI 1 uV) (aB (aC bB lW bP) a0)))) (kU (bX (aQ (bI 1 uV) (aB (aC bB lW bM) a0))))))) Y Z=aG ax Z :=
  HP (Z':=Z) (vJ (b:=a5) (nO (clE (Z':=Z) (bG B (bG (a:=.ty "tuple") (by simp) eB)) (by simp)))) (HP (Z':=Z) (nO (bZ (oW (Z':=Z) (bG B eB) (a:=.int 2) (by simp)) (b:=.int 2) (by simp) (by simp))) (HP (Z':=Z) (N i0) (N i1)))
 rw[bY (uA l)];have aJ2:0<=v/b:=FZ (by omega) (by omega);have aJ1:v/b<=v:=Nd _ (by omega);have aKL:0<=b/k:=FZ (by omega) (by omega);have aKK:b/k<=b:=Nd _ (by omega);have t:mL v b:=PN (by omega) (by omega);have u:mL b k:=PN (by omega) (by omega);have m1:kM (v/b+1) (b/k):=(Kb (by omega) (by omega)).1;have eb:aC bV (aC (dG) iQ bM) (aC (jZ) (aC bV (aC (iL) cW iQ) bM) (aC (iL) iQ GR)) Y Z=aG (.int (b-1+(v/b+1)*(b/k))) Z :=
  bZ (bZ U (b:=.int 1) (by simp) (c:=.int (b-1)) (by simp)) (bZ (bZ (bZ G U (PD t _)) (b:=.int 1) (by simp) (c:=.int (v/b+1)) (by simp)) (bZ U V (PD u _)) (UH m1 _)) (by simp)
 rw[bY (uA (HP (Z':=Z) (Z'':=Z) (N E) (nO (bZ E eb (by simp;omega)))))];have Yn:((aN.drop (aN.length-v.toNat)).length:a4)=v:=by simp;omega
 have es:sH ax bH (mR (aC (dG) (aQ dO (aB bH a0)) cW)) sJ Y Z=aG (.lst ((aN.drop (aN.length-v.toNat)).map A.int)) Z:=by
  have ep:aC (dG) (aQ dO (aB bH a0)) cW Y Z=aG (.int ((aN.length:a4)-v)) Z:=bZ (oW (Z':=Z) (bG (bA (a:=.aE r) (by subst j;rfl)) eB) (a:=.int aN.length) (by simp[H])) G (by simp);have Zj:=aDS aN v (by omega) (by omega);unfold sH mR;rw[bO (bA (a:=.aE r) (by subst j;rfl))];simp only[mb,ep];simp[I,Zj]
 have eq1:acO Y Z=aG (.lst (((aN.drop (aN.length-v.toNat)).filter λy=>decide (y<=x)).map A.int)) Z :=
  agK (n:=1) (js:=[3]) (fi:=gW (sH ax bH (mR (aC (dG) (aQ dO (aB bH a0)) cW)) sJ)) (g:=gN 0) (Y:=Y) (Z:=Z) (Z0:=Z) (S:=srcOf (.lst ((aN.drop (aN.length-v.toNat)).map A.int)) ((aN.drop (aN.length-v.toNat)).map A.int)) (aN.drop (aN.length-v.toNat)) A.int A.int (λy=>decide (y<=x)) (λY=>∃y,Y=[y,aA x]) (λx y e=>by cases e;exact⟨rfl,rfl⟩)
   (by unfold gW;rw[bO es];simp) (λR=>by simp[srcOf]) ⟨au,by subst j;simp[nT]⟩ rfl (by omega) (λy hx Y hP R=>by
    obtain⟨y',rfl⟩:=hP;exact⟨[aA y,aA x],⟨_,rfl⟩,by simp,by simp,by simp⟩) (λx _=>by simp only[Cl])
 have K:=asJ eq1;rw[jG]at K;generalize ((aN.drop (aN.length-v.toNat)).filter λy=>decide (y<=x)).length=D at *;rw[bY (nG (i:=10) K)];subst j;simp only[List.set];generalize j:[ao (A.aE s),ao (bQ L b k),aD r,aA x,aA v,aA L,aA b,aA k,ao (.tup [.int lo,.int hi]),aA off,aA (D:a4),au]=Y;have Q:eM 8 Y Z=aG (.tup [.int lo,.int hi]) Z:=bA (by subst j;rfl);have M:aC bB lW bP Y Z=aG (.int lo) Z:=bZ Q (b:=.int 0) (by simp) (by simp);have P:aC bB lW bM Y Z=aG (.int hi) Z:=bZ Q (b:=.int 1) (by simp) (by simp);rw[bY (uA (HP (Z':=Z) (Z'':=Z) (vJ (b:=a5) (nO (aEN (a:=0) (by simp) M (bA (a:=.int D) (by subst j;rfl)) P (bA (a:=.int v) (by subst j;rfl)) t0 t1 X W))) (nO (bZ (bZ P M (c:=.int (hi-lo)) (by simp)) (bA (a:=.int off) (by subst j;rfl)) (by simp;omega)))))];have ed:eR "held" [("Window",eN 1 [] CJ)] aM a0 Y Z=aG (.int held) Z:=by
  subst j;refine Eq.trans (rL (as:=[]) (s:=s) rfl z rfl ?_ rfl) hd;exact jF
 rw[bY (nG (i:=11) ed)];subst j;simp only[List.set];have aKS:0<=L/b:=FZ (by omega) (by omega);have aKR:L/b<=L:=Nd _ (by omega);have C:mL L b:=PN (by omega) (by omega);have m2:kM (L/b+2) 2:=(Kb (by omega) (by omega)).2;have m3:kM ((L/b+2)*2) k:=(Kb (by omega) (by omega)).1;generalize j:[ao (A.aE s),ao (bQ L b k),aD r,aA x,aA v,aA L,aA b,aA k,ao (.tup [.int lo,.int hi]),aA off,aA (D:a4),aA held]=Y;have v11:eM 11 Y Z=aG (.int held) Z:=bA (by subst j;rfl);have ee:aC bV (aC (jZ) (aC (jZ) (aC bV (aC (iL) qD iQ) jR) jR) GR) iQ Y Z=aG (.int ((L/b+2)*2*k+b)) Z :=
  bZ (bZ (bZ (bZ (bZ (bA (a:=.int L) (by subst j;rfl)) (bA (a:=.int b) (by subst j;rfl)) (PD C _)) (b:=.int 2) (by simp) (c:=.int (L/b+2)) (by simp)) (b:=.int 2) (by simp) (UH m2 _)) (bA (a:=.int k) (by subst j;rfl)) (UH m3 _)) (bA (a:=.int b) (by subst j;rfl)) (by simp)
 have ef:(LI (aQ (bI 1 uV) (aB AA a0)) (HB tD rK bP AA (aC bV (aC (jZ) (aC (jZ) (aC bV (aC (iL) qD iQ) jR) jR) GR) iQ))) Y Z=aG (.bl a5) Z:=by
  unfold LI;rw[bO (lS (n:=1) (F:=uV) (bG v11 eB) rfl (w _ _))];have:=aEM (g:=tD) (g':=rK) (f1:=cI 0) (Z1:=Z) (Z:=Z) (x:=.int 0) (by simp) v11 (by simp;exact d0) ee (by simp;exact d1);simpa using this
 unfold dB;rw[gO ef];simp only[tX];exact wR
end
open PyProof.Rows (step_dedup)
section
variable{Z:aH}{s r:a6}{L b k:a4}{aN:aq a4}{bs:aq (aq a4)}{ns:aq a4}
theorem adJ(h:iN Z s L b k aN bs ns)(a:A)(v:a4)(d:pJ L aN.length a=ao v)(U:v<1\/min L aN.length<v)(only:br):ZL [.aE s,a,.bl only] Z=aG (.bl a5) Z:=by
 have B:=aHD h 0 a v d U;have j:=aHG h a v d U;have N:(3:a6)<=bf:=by decide
 have m:(7:a6)<=bf:=by decide
 have i:QF (qX ["NoRow", "NoPlace"] Jz "NoPlace") ["NoPouch", "NoRow", "NoSize", "NoText", "NoTimes", "Unlike", "Wrong"]=ao ax:=by decide
 have g:qX ["NoRow", "NoPlace"] Jz "NoPlace" "RankError" = ao a5:=by decide
 have f:zY ["NoRow", "NoPlace"] "NoPlace" "ValueError" = ao a5:=by decide
 have c:Z[s]?=ao (.ins "Window" (wF L b k aN.length ((bs.map (bE k)).map aL) (ns.map A.int))):=h.at_;have w:Lc [aD s,ao a,ao (.bl only),ao .aV,au,au] Z=ao (.exc ⟨"NoPlace",[]⟩,[aD s,ao a,ao (.bl only),ao .aV,au,au],Z):=by
  have o:(eR "upto" [("Window",eN 3 [] sA)] aM (aB bP (aB bK a0))) [aD s,ao a,ao (.bl only),ao .aV,au,au] Z=ao (.exc ⟨"NoPlace",[]⟩,Z):=by
   refine Eq.trans (rL (as:=[.int 0,a]) (s:=s) rfl c rfl ?_ rfl) B;exact iX rfl (iX rfl jF)
  have n:(eR "off" [("Window",eN 2 [] qU)] aM (aB bK a0)) [aD s,ao a,ao (.bl only),ao .aV,au,au] Z=ao (.exc ⟨"NoPlace",[]⟩,Z):=by
   refine Eq.trans (rL (as:=[a]) (s:=s) rfl c rfl ?_ rfl) j;exact iX rfl jF
  have p:bX bH [aD s,ao a,ao (.bl only),ao .aV,au,au] Z=aG only Z:=nO (bA rfl);unfold Lc eA;rw[gO p];cases only with
  |true =>
   simp only[eT];unfold iG sM;rw[n]
  |false =>
   simp only[jW,gH];unfold iG sM;rw[o]
 have u:∀q,OZ 4 (Ld q ⟨"NoPlace",[]⟩ (([aD s,ao a,ao (.bl only),ao .aV,au,au]:Ev).set 4 (ao (.adr q))) Z)=dA [aD s,ao a,ao (.bl only),cA ([.bl a5,.bl a5,.bl ax]),au,ao (.bl ax)] Z:=by
  intro q;simp[Ld,N,m,isA,OJ,Iz,i,g,f,OZ,rF]
 have t:=ag8 (sub:=λz=>qX ["NoRow", "NoPlace"] Jz z "NoPlace" == ao a5) w (by decide) u;show AQ (dP 6 JN) [.aE s,a,.bl only] Z=_;have l:iW (.lst [.bl a5,.bl a5,.bl ax]) (.lst [.bl a5,.bl a5,.bl ax]) Z=aG (.bl a5) Z:=aAU (by simp[fN]);have e:JN [aD s,ao a,ao (.bl only),au,au,au] Z=ao (.ret (.bl a5),[aD s,ao a,ao (.bl only),cA ([.bl a5,.bl a5,.bl ax]),au,ao (.bl ax)],Z):=by
  unfold JN;rw[bY (Y1:=[aD s,ao a,ao (.bl only),ao .aV,au,au]) (Z':=Z) (by simp)];rw[bY t];simp[N,rF,l]
 have r:dP 6 JN [.aE s,a,.bl only] Z=aG (.bl a5) Z:=by
  show trim Z (iI (JN [aD s,ao a,ao (.bl only),au,au,au] Z))=_;rw[e];simp
 simp only[AQ,r]
theorem ajF(h:iN Z s L b k aN bs ns)(j:aH):iN (Z++j) s L b k aN bs ns:=⟨by
 show(Z++j)[s]?=_;rw[iD h.at_.lt];exact h.at_,h.wi,h.L1,h.L2,h.b1,h.b2,h.k1,h.k2⟩
theorem aa8{j:aH}(hr:j[r]?=ao (.lst (aN.map A.int))):iW (.aE r) (.lst []) j=aG (.bl aN.isEmpty) j:=by
 have B:fN 8 (.lst (aN.map A.int))=a5:=by simp[fN]
 have q:fN 8 (.lst [])=a5:=rfl;have he:lD 8 (.lst (aN.map A.int)) (.lst [])=aN.isEmpty:=by cases aN <;> rfl
 have r1:res j 6 (.aE r)=ao (.lst (aN.map A.int)):=by rw[alV hr,Wh _ (by simp)];rfl
 have z:res j 6 (.lst [])=ao (.lst []):=TQ q;simp[iW,BD,r1,z,B,q,he]
theorem Tu(h:iN Z s L b k aN bs ns)(N B z q j:aw A)(ok:aH->Prop)(aK:ok Z):∀(ds:aq A) (U:aw A),(∀a∈ds,∃v,pJ L aN.length a=ao v/\(v<1\/min L aN.length<v))->∃c,
  fD ok (gN 6) QA ds [aD s,N,B,z,q,j,U] Z=dA [aD s,N,B,z,q,j,c] Z
 |[],U,_=>⟨U,by rw[xO aK]⟩
 |a::ds,U,hd=>by
  obtain⟨v,hv,d⟩:=hd a (by simp);have g:=adJ h a v hv d a5;have f:=adJ h a v hv d ax;have t:QA [aD s,N,B,z,q,j,ao a] Z=dA [aD s,N,B,z,q,j,ao a] Z:=by
   unfold QA;exact uA (HP (Z':=Z) (vJ (b:=a5) (nO (lS (bG (bA (a:=.aE s) rfl) (bG (bA (a:=a) rfl) (bG (a:=.bl a5) (by simp) eB))) rfl g))) (vJ (b:=a5) (nO (lS (bG (bA (a:=.aE s) rfl) (bG (bA (a:=a) rfl) (bG (a:=.bl ax) (by simp) eB))) rfl f))))
  obtain⟨c,e⟩:=Tu h N B z q j ok aK ds (ao a) λa i=>hd a (by simp[i]);refine⟨c,?_⟩;rw[nX aK (Y0:=[aD s,N,B,z,q,j,ao a]) (Z0:=Z) (by simp) t,e]
theorem aHO(h:iN Z s L b k aN bs ns)(hr:Z[r]?=ao (.lst (aN.map A.int)))(c:a4)(w:0<=c):ZM [.aE s,bQ L b k,.aE r,.int c] Z=aG (.bl a5) Z:=by
 have l:=AK (kX hr);have y:=h.L1;show trim Z (iI (Le [aD s,ao (bQ L b k),aD r,aA c,au,au,au] Z))=_;unfold Le;rw[bY (nG (i:=4) (a:=.int (min L aN.length)) (Z':=Z) (oW (Z':=Z) (bG (bZ (bA (a:=bQ L b k) rfl) (b:=.int 0) (by simp) (c:=.int L) (by simp[bQ])) (bG (oW (Z':=Z) (bG (bA (a:=.aE r) rfl) eB) (a:=.int aN.length) (by simp[l])) eB)) (by simp)))];simp only[List.set];have U:(4:a6)<=bf:=by decide
 have n:CN 10 6:=⟨by decide,by decide,by decide⟩;generalize hm:min L (aN.length:a4)=m;generalize d:[A.int 0,.int (0-1-c%9),.int (m+1),.int (m+10 ^ 6)]=ds;have t:fM a5 (aB bP (aB (aC (dG) (aC (dG) bP bM) (aC (dW) dJ GS)) (aB (aC bV cW bM) (aB (aC bV cW (aC (zH) AB Ac)) a0)))) [aD s,ao (bQ L b k),aD r,aA c,aA m,au,au] Z=aG (.aE Z.length) (Z++[.lst ds]):=by
  rw[<-d];simp[U,n]
 rw[bY (nG (i:=5) t)];simp only[List.set];have hb:∀a∈ds,∃v,pJ L aN.length a=ao v/\(v<1\/min L aN.length<v):=by
  intro a j;rw[<-d]at j;simp only[dY,wG,vG]at j
  rcases j with rfl|rfl|rfl|rfl
  ·exact⟨0,rfl,by omega⟩
  ·exact⟨_,rfl,by omega⟩
  ·exact⟨_,rfl,by omega⟩
  ·exact⟨_,rfl,by omega⟩
 have B:(Z++[Cell.lst ds])[r]?=ao (.lst (aN.map A.int)):=by rw[iD (cY.mp hr).1];exact hr
 have k1:(Z++[Cell.lst ds])[Z.length]?=ao (.lst ds):=by simp
 have Ht:ds.length=4:=by rw[<-d];rfl
 obtain⟨es,he,f⟩:∃es:aq A,(eA (bX (aC iW bH (fM ax a0)))
   (iG (kW pN qD (aB cN a0)))
   gX) [aD s,ao (bQ L b k),aD r,aA c,aA m,aD Z.length,au] (Z++[.lst ds])=dA [aD s,ao (bQ L b k),aD r,aA c,aA m,aD Z.length,au] (Z++[.lst es])/\∀a∈es,∃v,pJ L aN.length a=ao v/\(v<1\/min L aN.length<v):=by
  have q:bX (aC iW bH (fM ax a0)) [aD s,ao (bQ L b k),aD r,aA c,aA m,aD Z.length,au] (Z++[.lst ds])=aG aN.isEmpty (Z++[.lst ds]):=nO (bZ (bA (a:=.aE r) rfl) (b:=.lst []) (by simp) (aa8 B));cases N:aN.isEmpty with
  |false =>
   rw[N]at q;exact⟨ds,uA q,hb⟩
  |true =>
   rw[N]at q;have u:aN.length=0:=by simpa using N
   refine⟨ds++[.aV],?_,λa j=>?_⟩
   ·unfold eA;rw[gO q];simp only[eT];unfold iG;rw[gO (x:=.aV) (Z':=Z++[.lst (ds++[.aV])]) (by
     unfold kW;rw[bO (bA (a:=.aE Z.length) rfl),a9 (yY (kX k1)),bO (bG (a:=.aV) (by simp) eB)];have o:ds.length<bf:=by rw[rD];omega
     simp[zM k1,o])]
   ·rcases kL.mp j with z|z
    ·exact hb a z
    ·have:a=.aV:=by simpa using z
     subst this;exact⟨min L aN.length,rfl,by omega⟩
 rw[bY he];have k2:(Z++[Cell.lst es])[Z.length]?=ao (.lst es):=by simp
 obtain⟨g,e⟩:=Tu (ajF h [.lst es]) (ao (bQ L b k)) (aD r) (aA c) (aA m) (aD Z.length) (srcOf (.aE Z.length) es).ok (AK (kX k2)) es au f;have p:kP (gW qD) (gN 6) QA [aD s,ao (bQ L b k),aD r,aA c,aA m,aD Z.length,au] (Z++[.lst es])=dA [aD s,ao (bQ L b k),aD r,aA c,aA m,aD Z.length,g] (Z++[.lst es]):=by
  rw[tE (S:=srcOf (.aE Z.length) es) (Z':=Z++[.lst es]) (by unfold gW;rw[bO (bA (a:=.aE Z.length) rfl)];simp[AK (kX k2)])];exact e
 rw[bY p];unfold dB;rw[gO (x:=.bl a5) (Z':=Z++[.lst es]) (by simp)];simp only[tX];exact LL (by simp only[Cl])
end
open PyProof.Rows (step_dedup)
theorem asH(ns:aq a4):∀af:aq a4,(ns.foldl step_dedup af).length<=af.length+ns.length:=by
 induction ns with
 |nil=>intro af;simp
 |cons n ns ih =>
  intro af;rw[List.foldl_cons];refine rT (ih _) ?_;unfold step_dedup;split <;> simp <;> omega
theorem anV(xs:aq a4)(lo hi st:aw a4):∃js:aq a4,vF (xs.map A.int) lo hi st=js.map A.int:=by
 unfold vF;rw[jG];generalize sliceRange _ _ _=j
 induction j with
 |nil=>exact⟨[],rfl⟩
 |cons p j ih =>
  obtain⟨js,e⟩:=ih;rw[zR,jH];cases h:xs[p]? with
  |none=>exact⟨js,by simpa using e⟩
  |some y=>exact⟨y::js,by simpa using e⟩
section
variable{Z:aH}{s r:a6}{L b k:a4}{aN:aq a4}{bs:aq (aq a4)}{ns:aq a4}
theorem abF(h:iN Z s L b k aN bs ns)(hT:Z[0]?=ao hU)(hr:Z[r]?=ao (.lst (aN.map A.int)))(hh:1<=aN.length)(N:aN.length<=1000)(c m:a4)(x:a4)(ok:aH->Prop)(aK:ok Z):∀(ds:aq A) (j:aw A),(∀a∈ds,∃v,pJ L aN.length a=ao v/\(a=.aV\/a=.int v)/\1<=v/\v<=min L aN.length)->∃z,
  fD ok (gN 6) XY ds [aD s,ao (bQ L b k),aD r,aA c,aA m,aA x,j] Z=dA [aD s,ao (bQ L b k),aD r,aA c,aA m,aA x,z] Z
 |[],j,_=>⟨j,by rw[xO aK]⟩
 |a::ds,j,hd=>by
  obtain⟨v,hv,B,h1,h2⟩:=hd a (by simp);have q:=Mj h hT hr hh N x a v hv B h1 h2;have t:XY [aD s,ao (bQ L b k),aD r,aA c,aA m,aA x,ao a] Z=dA [aD s,ao (bQ L b k),aD r,aA c,aA m,aA x,ao a] Z:=by
   unfold XY;exact uA (vJ (b:=a5) (nO (lS (bG (bA (a:=.aE s) rfl) (bG (bA (a:=bQ L b k) rfl) (bG (bA (a:=.aE r) rfl) (bG (bA (a:=.int x) rfl) (bG (bA (a:=a) rfl) eB))))) rfl q)))
  obtain⟨z,e⟩:=abF h hT hr hh N c m x ok aK ds (ao a) λa B=>hd a (by simp[B]);refine⟨z,?_⟩;rw[nX aK (Y0:=[aD s,ao (bQ L b k),aD r,aA c,aA m,aA x,ao a]) (Z0:=Z) (by simp) t,e]
theorem abE(h:iN Z s L b k aN bs ns)(hT:Z[0]?=ao hU)(hr:Z[r]?=ao (.lst (aN.map A.int)))(hh:1<=aN.length)(d:aN.length<=1000)(c:a4)(ok:aH->Prop)(aK:ok Z):∀(js:aq a4) (q j:aw A),∃B z,
  fD ok (gN 5) QC (js.map A.int) [aD s,ao (bQ L b k),aD r,aA c,aA (min L aN.length),q,j] Z=dA [aD s,ao (bQ L b k),aD r,aA c,aA (min L aN.length),B,z] Z
 |[],q,j=>⟨q,j,by rw[FP,xO aK]⟩
 |x::js,q,j=>by
  have n:=h.L1;have g:0<min L (aN.length:a4):=by omega
  have o:=FY c (show min L (aN.length:a4)≠0 by omega);have p:=CC c g;have m:(3:a6)<=bf:=by decide
  obtain⟨z,l⟩:=abF h hT hr hh d c (min L aN.length) x (srcOf (.lst [A.aV,.int (min L aN.length),.int (1+c%min L aN.length)]) [A.aV,.int (min L aN.length),.int (1+c%min L aN.length)]).ok rfl [A.aV,.int (min L aN.length),.int (1+c%min L aN.length)] j (by
   intro a f;simp only[dY,wG,vG]at f
   rcases f with rfl|rfl|rfl
   ·exact⟨min L aN.length,rfl,.inl rfl,by omega,by omega⟩
   ·exact⟨_,rfl,.inr rfl,by omega,by omega⟩
   ·exact⟨_,rfl,.inr rfl,by omega,by omega⟩)
  have t:QC [aD s,ao (bQ L b k),aD r,aA c,aA (min L aN.length),aA x,j] Z=dA [aD s,ao (bQ L b k),aD r,aA c,aA (min L aN.length),aA x,z] Z:=by
   unfold QC;have i:fM ax (aB cN (aB cW (aB (aC bV bM (aC (dW) dJ cW)) a0))) [aD s,ao (bQ L b k),aD r,aA c,aA (min L aN.length),aA x,j] Z=aG (.lst [A.aV,.int (min L aN.length),.int (1+c%min L aN.length)]) Z:=by
    unfold fM;rw[bO (bG (a:=.aV) (by simp) (bG (bA (a:=.int (min L aN.length)) rfl) (bG (bZ (a:=.int 1) (by simp) (bZ (bA (a:=.int c) rfl) (bA (a:=.int (min L aN.length)) rfl) (c:=.int (c%min L aN.length)) (by simp only[dW,gI];rw[HW _ g];rfl)) (c:=.int (1+c%min L aN.length)) (by simp)) eB)))];simp[m]
   rw[tE (S:=srcOf (.lst [A.aV,.int (min L aN.length),.int (1+c%min L aN.length)]) [A.aV,.int (min L aN.length),.int (1+c%min L aN.length)]) (Z':=Z) (by unfold gW;rw[bO i];simp)];exact l
  obtain⟨N,U,e⟩:=abE h hT hr hh d c ok aK js (aA x) z;refine⟨N,U,?_⟩;rw[dE,nX aK (Y0:=[aD s,ao (bQ L b k),aD r,aA c,aA (min L aN.length),aA x,j]) (Z0:=Z) (by simp) t,e]
theorem arL(xs:aq a4)(j:a4)(q:0<=j)(h1:j<xs.length):∃y:a4,fU (xs.map A.int) (0-1-j)=(aA y):=by
 have hn:(0:a4)-1-j<0:=by omega
 unfold fU yV;rw[jG];have hl:(0-1-j+(xs.length:a4)).toNat<xs.length:=by omega
 refine⟨xs[(0-1-j+(xs.length:a4)).toNat],?_⟩;rw[bb (by omega),a9 (by omega)];simp[hl]
theorem abD(h:iN Z s L b k aN bs ns)(hT:Z[0]?=ao hU)(hr:Z[r]?=ao (.lst (aN.map A.int)))(hh:1<=aN.length)(N:aN.length<=1000)(c:a4)(m:a4)(ok:aH->Prop)(aK:ok Z):∀(vs:aq a4) (j z:aw A),(∀v∈vs,1<=v/\v<=min L aN.length)->∃B,
  fD ok (gN 6) QB (vs.map A.int) [aD s,ao (bQ L b k),aD r,aA c,aA m,j,z] Z=dA [aD s,ao (bQ L b k),aD r,aA c,aA m,j,B] Z
 |[],j,z,_=>⟨z,by rw[FP,xO aK]⟩
 |v::vs,j,z,hd=>by
  obtain⟨h1,h2⟩:=hd v (by simp);have U:=AK (kX hr);have d:(0:a4)<aN.length:=by omega
  have l:=FY c (show(aN.length:a4)≠0 by omega);have n:=CC c d;obtain⟨y,f⟩:=arL aN (c%aN.length) l n;have q:=Mj h hT hr hh N y (.int v) v rfl (.inr rfl) h1 h2;have t:QB [aD s,ao (bQ L b k),aD r,aA c,aA m,j,aA v] Z=dA [aD s,ao (bQ L b k),aD r,aA c,aA m,j,aA v] Z:=by
   unfold QB;have i:aC bB bH (aC (dG) (aC (dG) bP bM) (aC (dW) dJ (aQ dO (aB bH a0)))) [aD s,ao (bQ L b k),aD r,aA c,aA m,j,aA v] Z=aG (.int y) Z :=
    bZ (bA (a:=.aE r) rfl) (bZ (bZ (a:=.int 0) (by simp) (b:=.int 1) (by simp) (c:=.int (0-1)) (by simp)) (bZ (bA (a:=.int c) rfl) (oW (Z':=Z) (bG (bA (a:=.aE r) rfl) eB) (a:=.int aN.length) (by simp[U])) (c:=.int (c%aN.length)) (by simp only[dW,gI];rw[HW _ d];rfl)) (c:=.int (0-1-c%aN.length)) (by simp)) (by
     simp only[bB,U];rw[f])
   exact uA (vJ (b:=a5) (nO (lS (bG (bA (a:=.aE s) rfl) (bG (bA (a:=bQ L b k) rfl) (bG (bA (a:=.aE r) rfl) (bG i (bG (bA (a:=.int v) rfl) eB))))) rfl q)))
  obtain⟨B,e⟩:=abD h hT hr hh N c m ok aK vs j (aA v) λa g=>hd a (by simp[g]);refine⟨B,?_⟩;rw[dE,nX aK (Y0:=[aD s,ao (bQ L b k),aD r,aA c,aA m,j,aA v]) (Z0:=Z) (by simp) t,e]
theorem adL(h:iN Z s L b k aN bs ns)(hT:Z[0]?=ao hU)(hr:Z[r]?=ao (.lst (aN.map A.int)))(d:aN.length<=1000)(c:a4)(G:0<=c)(K:c<2147483587):Ni [.aE s,bQ L b k,.aE r,.int c] Z=aG (.bl a5) Z:=by
 have o:=aHO h hr c G;have M:=h.L1;have w:=h.L2;have f:=kX hr;have n:=AK f;have u:Z[s]?=ao (.ins "Window" (wF L b k aN.length ((bs.map (bE k)).map aL) (ns.map A.int))):=h.at_;show trim Z (iI (Lf [aD s,ao (bQ L b k),aD r,aA c,au,au,au] Z))=_;unfold Lf;have l:(kU (bX (aQ (bI 4 ZM) (aB aM (aB bK (aB bH (aB dJ a0))))))) [aD s,ao (bQ L b k),aD r,aA c,au,au,au] Z=aG ax Z:=vJ (b:=a5) (nO (lS (bG (bA (a:=.aE s) rfl) (bG (bA (a:=bQ L b k) rfl) (bG (bA (a:=.aE r) rfl) (bG (bA (a:=.int c) rfl) eB)))) rfl o));rw[bY (uA l)];have z:bX (aC iW bH (fM ax a0)) [aD s,ao (bQ L b k),aD r,aA c,au,au,au] Z=aG aN.isEmpty Z:=nO (bZ (bA (a:=.aE r) rfl) (b:=.lst []) (by simp) (aa8 hr));cases N:aN.isEmpty with
 |true =>
  rw[N]at z;have hn:aN=[]:=by simpa using N
  subst hn;have p:=axR h;have ed:eR "held" [("Window",eN 1 [] CJ)] aM a0 [aD s,ao (bQ L b k),aD r,aA c,au,au,au] Z=aG (.int 0) Z:=by
   refine Eq.trans (rL (as:=[]) (s:=s) rfl u rfl ?_ rfl) p;exact jF
  rw[akH (a:=.bl a5) (Y1:=[aD s,ao (bQ L b k),aD r,aA c,au,au,au]) (Z':=Z) (by
   unfold eA;rw[gO z];simp only[eT];unfold dB;rw[gO (bZ ed (b:=.int 0) (by simp) (c:=.bl a5) (by simp))])]
  simp only[tX];exact wR
 |false =>
  rw[N]at z;have hh:1<=aN.length:=by cases aN <;> simp_all
  rw[bY (uA z)];rw[bY (nG (i:=4) (a:=.int (min L aN.length)) (Z':=Z) (oW (Z':=Z) (bG (bZ (bA (a:=bQ L b k) rfl) (b:=.int 0) (by simp) (c:=.int L) (by simp[bQ])) (bG (oW (Z':=Z) (bG (bA (a:=.aE r) rfl) eB) (a:=.int aN.length) (by simp[n])) eB)) (by simp)))];simp only[List.set];obtain⟨js,H⟩:=anV (sortI (xQ aN)) au (ao 12) (ao 2);have hd:=asH aN [];have hd2:(xQ aN).length<=aN.length:=by simpa[xQ]using hd
  have es:LC ax (GY ax bH) sJ (mR (cI 12)) (mR jR) [aD s,ao (bQ L b k),aD r,aA c,aA (min L aN.length),au,au] Z=aG (.lst (js.map A.int)) Z:=by
   have F:GY ax bH [aD s,ao (bQ L b k),aD r,aA c,aA (min L aN.length),au,au] Z=aG (.lst ((sortI (xQ aN)).map A.int)) Z:=by
    unfold GY;rw[bO (bA (a:=.aE r) rfl)];have U:(dU Z (.aE r)).bind intsOf=ao aN:=by rw[f];exact ID _
    simp only[U];rw[a9 ⟨by omega,by omega⟩];rfl
   unfold LC;rw[bO F];simp[H]
  obtain⟨j,q,E⟩:=abE h hT hr hh d c (srcOf (.lst (js.map A.int)) (js.map A.int)).ok rfl js au au;have f2:kP (gW (LC ax (GY ax bH) sJ (mR (cI 12)) (mR jR))) (gN 5) QC [aD s,ao (bQ L b k),aD r,aA c,aA (min L aN.length),au,au] Z=dA [aD s,ao (bQ L b k),aD r,aA c,aA (min L aN.length),j,q] Z:=by
   rw[tE (S:=srcOf (.lst (js.map A.int)) (js.map A.int)) (Z':=Z) (by unfold gW;rw[bO es];simp)];exact E
  rw[bY f2];generalize hm:min L (aN.length:a4)=m;have P:1<=m:=by omega
  have Q:m<=40:=by omega
  have I:LU (1+c%5) (m+1) 5:=⟨by omega,by omega,by omega,by omega,by omega,by omega⟩;generalize g:(List.range (tU (1+c%5) (m+1) 5)).map (λi:a6=>1+c%5+(i:a4)*5)=B;have hv:∀v∈B,1<=v/\v<=m:=by
   intro v hv;rw[<-g]at hv;obtain⟨i,hi,rfl⟩:=oZ.mp hv;have e:=List.mem_range.mp hi;unfold tU at e;split at e <;> omega
  have y:(AN (1+c%5) 5 (tU (1+c%5) (m+1) 5)).ds=B.map A.int:=by
   rw[<-g];simp[Function.comp_def]
  obtain⟨t,U⟩:=abD h hT hr hh d c m (AN (1+c%5) 5 (tU (1+c%5) (m+1) 5)).ok trivial B j q (by rw[hm];exact hv);have D:LD (aB (aC bV bM (aC (dW) dJ qY)) (aB (aC bV cW bM) (aB qY a0))) [aD s,ao (bQ L b k),aD r,aA c,aA m,j,q] Z=aG (AN (1+c%5) 5 (tU (1+c%5) (m+1) 5)) Z:=by
   unfold LD;rw[bO (bG (bZ (a:=.int 1) (by simp) (bZ (bA (a:=.int c) rfl) (b:=.int 5) (by simp) (c:=.int (c%5)) (by simp)) (c:=.int (1+c%5)) (by simp)) (bG (bZ (bA (a:=.int m) rfl) (b:=.int 1) (by simp) (c:=.int (m+1)) (by simp)) (bG (a:=.int 5) (by simp) eB)))];show mb (nF (LU _ _ _)) _ Z=_;rw[HW _ I];rfl
  have C:kP (LD (aB (aC bV bM (aC (dW) dJ qY)) (aB (aC bV cW bM) (aB qY a0)))) (gN 6) QB [aD s,ao (bQ L b k),aD r,aA c,aA m,j,q] Z=dA [aD s,ao (bQ L b k),aD r,aA c,aA m,j,t] Z:=by
   rw[tE D,y];exact U
  rw[bY C];unfold dB;rw[gO (x:=.bl a5) (Z':=Z) (by simp)];simp only[tX];exact wR
end
structure tM(Z:aH)(L b k L' b' k':a4)(row hW:aq a4):Prop where
 w0:∃bs nw,iN Z 2 L b k row bs nw
 w1:∃bs nw,iN Z 3 L' b' k' hW bs nw
 tab:Z[0]?=ao hU
 r0:Z[4]?=ao (.lst (row.map A.int))
 r1:Z[5]?=ao (.lst (hW.map A.int))
abbrev cZ(ns:aq a4)(so L b k L' b' k':a4)(N B z q j U a c:aw A):Ev:=[ao (.gG ns),aA so,cA ([bQ L b k,bQ L' b' k']),cA ([.aE 2,.aE 3]),cA ([.aE 4,.aE 5]),N,B,z,q,j,U,a,c]
section
variable{Z:aH}{L b k L' b' k' so:a4}{row hW ns:aq a4}
theorem acS{Y:Ev}{j:aH}{c:a6}{xs:aq a4}{f g:Ev->Mo A}{x:a4}(U:f Y j=aG (.aE c) j)(z:j[c]?=ao (.lst (xs.map A.int)))(hl:xs.length<1000)(N:g Y j=aG (.int x) j):iG (kW pN f (aB g a0)) Y j=dA Y (j.set c (.lst ((xs++[x]).map A.int))):=by
 have B:vM j (.aE c):=yY (kX z);have cl:qR j (.aE c)=ao (c,xs.map A.int):=zM z;have q:(xs.map A.int).length<bf:=by rw[rD];simp;omega
 have a:(xs++[x]).map A.int=xs.map A.int++[A.int x]:=by simp
 unfold iG;rw[gO (x:=.aV) (Z':=j.set c (.lst ((xs++[x]).map A.int))) (by
  unfold kW;rw[bO U,a9 B,bO (bG N eB),a];generalize xs.map A.int=u at cl q;simp[cl,q])]
theorem asX(h:tM Z L b k L' b' k' row hW)(hn:row.length<900)(x:a4)(B z q N U d:aw A):∃Z',tM Z' L b k L' b' k' (row++[x]) hW /\
  EW (cZ ns so L b k L' b' k' B z q (aA x) (aA 0) N U d) Z=dA (cZ ns so L b k L' b' k' B z q (aA x) (aA 0) N U d) Z':=by
 obtain⟨⟨bs,r,st⟩,⟨m,v,n⟩,tab,r0,r1⟩:=h;have u:5<Z.length:=(cY.mp r1).1;have e:=st.other (t:=4) (by decide) (.lst ((row++[x]).map A.int));have o:=n.other (t:=4) (by decide) (.lst ((row++[x]).map A.int));have l:(Z.set 4 (.lst ((row++[x]).map A.int)))[4]?=ao (.lst ((row++[x]).map A.int)):=eV (by omega);have i:(Z.set 4 (.lst ((row++[x]).map A.int)))[5]?=ao (.lst (hW.map A.int)):=by rw[dZ (by decide)];exact r1
 have g:(Z.set 4 (.lst ((row++[x]).map A.int)))[0]?=ao hU:=by rw[dZ (by decide)];exact tab
 unfold EW;rw[bY (acS (c:=4) (x:=x) (bZ (bA (a:=.lst [.aE 4,.aE 5]) rfl) (bA (a:=.int 0) rfl) (by simp)) r0 (by omega) (bA rfl))];generalize Z.set 4 (.lst ((row++[x]).map A.int))=j at *;obtain⟨X,p2,s2⟩:=Sh e x;have p:=o.other (t:=2) (by decide) X;have f:=e.at_;unfold rP at f;have call:(eR "put" [("Window",eN 2 [] GD)] (aC bB dJ wN) (aB lW a0)) (cZ ns so L b k L' b' k' B z q (aA x) (aA 0) N U d) j=aG (.aV) (j.set 2 X):=by
  refine Eq.trans (aa4 (as:=[.int x]) (s:=2) (bZ (bA (a:=.lst [.aE 2,.aE 3]) rfl) (bA (a:=.int 0) rfl) (by simp)) f rfl ?_ rfl) p2;exact iX rfl jF
 refine⟨j.set 2 X,⟨⟨_,_,s2⟩,⟨_,_,p⟩,by rw[dZ (by decide)];exact g,by rw[dZ (by decide)];exact l,by rw[dZ (by decide)];exact i⟩,?_⟩;unfold iG;rw[gO call]
theorem asW(h:tM Z L b k L' b' k' row hW)(hn:hW.length<900)(x:a4)(B z q N U d:aw A):∃Z',tM Z' L b k L' b' k' row (hW++[x]) /\
  EW (cZ ns so L b k L' b' k' B z q (aA x) (aA 1) N U d) Z=dA (cZ ns so L b k L' b' k' B z q (aA x) (aA 1) N U d) Z':=by
 obtain⟨⟨bs,r,st⟩,⟨n,v,o⟩,tab,r0,r1⟩:=h;have u:5<Z.length:=(cY.mp r1).1;have i:=st.other (t:=5) (by decide) (.lst ((hW++[x]).map A.int));have f:=o.other (t:=5) (by decide) (.lst ((hW++[x]).map A.int));have m:(Z.set 5 (.lst ((hW++[x]).map A.int)))[4]?=ao (.lst (row.map A.int)):=by rw[dZ (by decide)];exact r0
 have l:(Z.set 5 (.lst ((hW++[x]).map A.int)))[5]?=ao (.lst ((hW++[x]).map A.int)):=eV (by omega);have g:(Z.set 5 (.lst ((hW++[x]).map A.int)))[0]?=ao hU:=by rw[dZ (by decide)];exact tab
 unfold EW;rw[bY (acS (c:=5) (x:=x) (bZ (bA (a:=.lst [.aE 4,.aE 5]) rfl) (bA (a:=.int 1) rfl) (by simp)) r1 (by omega) (bA rfl))];generalize Z.set 5 (.lst ((hW++[x]).map A.int))=j at *;obtain⟨X,p2,s2⟩:=Sh f x;have p:=i.other (t:=3) (by decide) X;have e:=f.at_;unfold rP at e;have call:(eR "put" [("Window",eN 2 [] GD)] (aC bB dJ wN) (aB lW a0)) (cZ ns so L b k L' b' k' B z q (aA x) (aA 1) N U d) j=aG (.aV) (j.set 3 X):=by
  refine Eq.trans (aa4 (as:=[.int x]) (s:=3) (bZ (bA (a:=.lst [.aE 2,.aE 3]) rfl) (bA (a:=.int 1) rfl) (by simp)) e rfl ?_ rfl) p2;exact iX rfl jF
 refine⟨j.set 3 X,⟨⟨_,_,p⟩,⟨_,_,s2⟩,by rw[dZ (by decide)];exact g,by rw[dZ (by decide)];exact m,by rw[dZ (by decide)];exact l⟩,?_⟩;unfold iG;rw[gO call]
theorem ag5(h:tM Z L b k L' b' k' row hW)(hn:row.length<900)(E:hW.length<=row.length)(c:a4)(y:0<=c)(G:c<2147483587)(j:a6)(I:j<=10)(q s g B N U:aw A):∃Z' x r D,tM Z' L b k L' b' k' (row++[x]) r/\r.length<=hW.length+1 /\
  JM (cZ ns so L b k L' b' k' q (aA c) (aA j) s g B N U) Z=dA (cZ ns so L b k L' b' k' q (aA c) (aA j) (aA x) D B N U) Z':=by
 have l:=λZ=>QS c (1+(j:a4)) Z y (by omega) (by omega) (by omega);have o:=UI c (1+(j:a4));have w:=Eo c (1+(j:a4));generalize AR c (1+(j:a4))=z at l o w;obtain⟨x,u⟩:=aHU z so o (by omega);have t:=AK (kX h.r0);unfold JM;rw[bY (nG (i:=8) (a:=.int x) (Z':=Z) (lS (n:=2) (F:=rZ) (as:=[.int z,.int so]) (bG (lS (n:=2) (F:=yB) (as:=[.int c,.int (1+(j:a4))]) (bG (bA rfl) (bG (bZ (a:=.int 1) (by simp) (bA (a:=.int j) rfl) (by simp)) eB)) rfl (l _)) (bG (bA rfl) eB)) rfl (u _)))];simp only[List.set];have C:aQ dO (aB (aC bB cW bP) a0) (cZ ns so L b k L' b' k' q (aA c) (aA j) (aA x) g B N U) Z=aG (.int row.length) Z:=oW (Z':=Z) (bG (bZ (bA (a:=.lst [.aE 4,.aE 5]) rfl) (b:=.int 0) (by simp) (c:=.aE 4) (by simp)) eB) (by simp[t]);have p:rB (aB (aC bV bM (aC (dW) (aQ dO (aB (aC bB cW bP) a0)) jR)) a0) (cZ ns so L b k L' b' k' q (aA c) (aA j) (aA x) g B N U) Z=aG (wW 0 (1+(row.length:a4)%2).toNat) Z:=TM (j:=1+(row.length:a4)%2) (bG (bZ (a:=.int 1) (by simp) (bZ C (b:=.int 2) (by simp) (c:=.int ((row.length:a4)%2)) (by simp)) (by simp)) eB) (by unfold yN;omega);obtain⟨d,h1,m⟩:=asX (ns:=ns) (so:=so) h hn x q (aA c) (aA j) B N U
 by_cases H:(row.length:a4)%2=0
 ·refine⟨d,x,hW,aA 0,h1,by omega,?_⟩;rw[tE p];have e:(1+(row.length:a4)%2).toNat=1:=by omega
  rw[e];show fD _ (gN 9) EW [A.int (0+0)] _ Z=_;rw[nX trivial (Y0:=cZ ns so L b k L' b' k' q (aA c) (aA j) (aA x) (aA 0) B N U) (Z0:=Z) (by simp[cZ]) m,xO trivial]
 ·obtain⟨f,h2,v⟩:=asW (ns:=ns) (so:=so) h1 (by omega) x q (aA c) (aA j) B N U;refine⟨f,x,hW++[x],aA 1,h2,by simp,?_⟩;rw[tE p];have e:(1+(row.length:a4)%2).toNat=2:=by omega
  rw[e];show fD _ (gN 9) EW [A.int (0+0),A.int (0+1)] _ Z=_;rw[nX trivial (Y0:=cZ ns so L b k L' b' k' q (aA c) (aA j) (aA x) (aA 0) B N U) (Z0:=Z) (by simp[cZ]) m];rw[nX trivial (Y0:=cZ ns so L b k L' b' k' q (aA c) (aA j) (aA x) (aA 1) B N U) (Z0:=d) (by simp[cZ]) v,xO trivial]
theorem avH(h:tM Z L b k L' b' k' row hW)(n:a6)(hn:row.length+n<900)(M:n<=10)(E:hW.length<=row.length)(c:a4)(I:0<=c)(G:c<2147483587)(U t r o d e f:aw A):∃Z' j z s p y,tM Z' L b k L' b' k' j z/\j.length=row.length+n/\z.length<=j.length /\
  fD (λ_=>True) (gN 7) JM ((List.range n).map λ(i:a6)=>A.int (0+(i:a4))) (cZ ns so L b k L' b' k' U (aA c) t r o d e f) Z=dA (cZ ns so L b k L' b' k' U (aA c) s p y d e f) Z':=by
 obtain⟨C,m,q,j,z,l,N,B,rfl,h',hl,u⟩:=Jm (ok:=λ_=>True) (g:=gN 7) (b:=JM)
  (λi w Z'=>∃j z l N B,w=cZ ns so L b k L' b' k' U (aA c) l N B d e f/\tM Z' L b k L' b' k' j z/\j.length=row.length+i/\z.length<=j.length) (λ_ _ _ _=>trivial)
  ((List.range n).map λ(i:a6)=>A.int (0+(i:a4))) 0 (cZ ns so L b k L' b' k' U (aA c) t r o d e f) Z ⟨row,hW,t,r,o,rfl,h,rfl,E⟩
  (by
   rintro i a w Z' v ⟨j,z,l,N,B,rfl,h',hl,u⟩;have hi:i<n:=by simpa using(cY.mp v).1
   have ex:a=.int (i:a4):=by
    rw[jH,adQ hi]at v;simpa using v.symm
   subst ex;rw[xU]at hl ⊢;obtain⟨D,x,K,y,h2,H,F⟩:=ag5 (ns:=ns) (so:=so) h' (by omega) u c I G i (by omega) U N B d e f;exact⟨cZ ns so L b k L' b' k' U (aA c) (aA i) N B d e f,Z',_,_,by simp[cZ],.inl F,j++[x],K,_,_,_,rfl,h2,by simp;omega,by simp;omega⟩)
 simp only[jG,List.length_range,xU]at hl;exact⟨m,j,z,l,N,B,h',hl,u,q⟩
theorem acQ{a b c:A}(v:a4)(j:0<=v)(h1:v<3):fU [a,b,c] v=ao a\/fU [a,b,c] v=ao b\/fU [a,b,c] v=ao c:=by
 obtain⟨n,rfl⟩:=CB j;rw[vZ];have hn:n<3:=by omega
 match n,hn with
 |0,_=>exact .inl rfl
 |1,_=>exact .inr (.inl rfl)
 |2,_=>exact .inr (.inr rfl)
theorem abM{Y:Ev}{Z:aH}{f:Ev->Mo A}{c:a4}(d m:a4)(hd:0<d)(j:d<=1001)(hm:0<m)(h:f Y Z=aG (.int c) Z):aC (dW) (aC (iL) f (cI d)) (cI m) Y Z=aG (.int (c/d%m)) Z :=
 bZ (bZ h (b:=.int d) (by simp) (PD (PN hd j) _)) (b:=.int m) (by simp) (by simp[hm])
theorem ag4(h:tM Z L b k L' b' k' row hW)(i:a6)(hi:i<=60)(hn:row.length+4<900)(uD:hW.length<=row.length)(zA:ns.length<=63)(aJ5:0<=so)(aJ4:so<5)(y6 u t s p g e:aw A):∃Z' U x z6 o m l yG mQ mP,tM Z' L b k L' b' k' U x/\U.length<=row.length+3/\x.length<=U.length /\
  PV (cZ ns so L b k L' b' k' (aA i) y6 u t s p g e) Z=dA (cZ ns so L b k L' b' k' (aA i) z6 o m l yG mQ mP) Z':=by
 obtain⟨c,S,nD,qs⟩:=aHN ns zA i hi;obtain⟨n,sU⟩:=CB (show 0<=1+c%3 by omega);obtain⟨B,U,x,o,m,l,h1,hl,kZ,q1⟩:=avH (ns:=ns) (so:=so) h n (by omega) (by omega) uD c S nD (aA i) u t s p g e;have y:1<=U.length:=by omega
 obtain⟨bs,nw,st⟩:=h1.w0;have r0:=h1.r0;have lr:=kX r0;have P:=AK lr;have WC:=st.L1;have R:(0:a4)<U.length:=by omega
 have VM:=FY (c/3) (show(U.length:a4)≠0 by omega);have IJ:=CC (c/3) R;obtain⟨j,hj⟩:=CB VM;have D:j<U.length:=by omega
 have X:fU (U.map A.int) (j:a4)=(aA (U[j])):=by rw[vZ];simp[D]
 generalize U[j]=w at X;unfold PV;rw[bY (nG (i:=6) (a:=.int c) (Z':=Z) (lS (n:=3) (F:=ZK) (as:=[.gG ns,.int 5,.int i]) (bG (bA rfl) (bG (by simp) (bG (bA rfl) eB))) rfl (qs _)))];simp only[List.set];have er:rB (aB (aC bV bM (aC (dW) iQ kN)) a0) (cZ ns so L b k L' b' k' (aA i) (aA c) u t s p g e) Z=aG (wW 0 n) Z:=by
  have:=TM (Y:=cZ ns so L b k L' b' k' (aA i) (aA c) u t s p g e) (Z:=Z) (Z':=Z) (f:=aB (aC bV bM (aC (dW) iQ kN)) a0) (j:=1+c%3) (bG (bZ (a:=.int 1) (by simp) (bZ (bA (a:=.int c) rfl) (b:=.int 3) (by simp) (c:=.int (c%3)) (by simp)) (by simp)) eB) (by unfold yN;omega);rw[this,sU];rfl
 have f1:kP (rB (aB (aC bV bM (aC (dW) iQ kN)) a0)) (gN 7) JM (cZ ns so L b k L' b' k' (aA i) (aA c) u t s p g e) Z=dA (cZ ns so L b k L' b' k' (aA i) (aA c) o m l p g e) B:=by
  rw[tE er];exact q1
 rw[bY f1];have M:∀(p g e:aw A),aC bB cW bP (cZ ns so L b k L' b' k' (aA i) (aA c) o m l p g e) B=aG (.aE 4) B:=λ_ _ _=>bZ (bA (a:=.lst [.aE 4,.aE 5]) rfl) (b:=.int 0) (by simp) (by simp);have len0:∀(p g e:aw A),aQ dO (aB (aC bB cW bP) a0) (cZ ns so L b k L' b' k' (aA i) (aA c) o m l p g e) B=aG (.int U.length) B:=λ_ _ _=>oW (Z':=B) (bG (M _ _ _) eB) (by simp[P]);have V:(3:a6)<=bf:=by decide
 obtain⟨d,Hu,hd2,K⟩:∃d:a4,-1<=d/\d<=1/\fU [A.int 0,.int 1,.int (-1)] (c/9%3)=(aA d):=by
  rcases acQ (a:=A.int 0) (b:=A.int 1) (c:=A.int (-1)) (c/9%3) (by omega) (by omega)with q|q|q
  ·exact⟨0,by decide,by decide,q⟩
  ·exact⟨1,by decide,by decide,q⟩
  ·exact⟨_,by decide,by decide,q⟩
 have cm:kM d (if so<3 then 1 else 0):=.inl ⟨by omega,by omega⟩;have I:aC bV (aC bB (aC bB cW bP) (aC (dW) (aC (iL) iQ kN) (aQ dO (aB (aC bB cW bP) a0)))) (aC (jZ) (aC bB (fM ax (aB bP (aB bM (aB (aC (dG) bP bM) a0)))) (aC (dW) (aC (iL) iQ GS) kN)) (aQ WL (aB (aC tD bK kN) a0))) (cZ ns so L b k L' b' k' (aA i) (aA c) o m l p g e) B=aG (.int (w+d*(if so<3 then 1 else 0))) B:=by
  refine bZ (a:=.int w) (bZ (M _ _ _) (bZ (bZ (bA (a:=.int c) rfl) (b:=.int 3) (by simp) (PD (PN (by decide) (by decide)) _)) (len0 _ _ _) (c:=.int j) (by simp only[dW,gI];rw[HW _ R,hj];rfl)) (by simp only[bB,P];rw[X])) (bZ (a:=.int d) (bZ (a:=.lst [A.int 0,.int 1,.int (-1)]) (by simp[V]) (abM 9 3 (by decide) (by decide) (by decide) (bA (a:=.int c) rfl)) (by simp only[bB];simp[K])) (b:=.int (if so<3 then 1 else 0)) ?_ (UH cm _)) (by simp);refine oW (Z':=B) (bG (bZ (bA (a:=.int so) rfl) (b:=.int 3) (by simp) (c:=.bl (decide (so<3))) (by simp)) eB) ?_
  by_cases h:so<3
  ·simp[h]
  ·simp[h]
 rw[bY (nG (i:=10) I)];simp only[List.set];generalize w+d*(if so<3 then 1 else 0)=r;generalize C:min L (U.length:a4)=N;have aKC:1<=N:=by omega
 have H:aQ sZ (aB (aC bB (aC bB bH bP) bP) (aB (aQ dO (aB (aC bB cW bP) a0)) a0)) (cZ ns so L b k L' b' k' (aA i) (aA c) o m l (aA r) g e) B=aG (.int N) B:=oW (Z':=B) (bG (bZ (bZ (bA (a:=.lst [bQ L b k,bQ L' b' k']) rfl) (b:=.int 0) (by simp) (c:=bQ L b k) (by simp)) (b:=.int 0) (by simp) (c:=.int L) (by simp[bQ])) (bG (len0 _ _ _) eB)) (by simp[C]);rw[bY (nG (i:=11) H)];simp only[List.set];have Q:=λZ=>QS c 9 Z S (by omega) (by omega) (by omega);have x0:=UI c 9;generalize AR c 9=z at Q x0;have W:0<N:=by omega
 have hz0:=FY z (show N≠0 by omega);have hz1:=CC z W;obtain⟨a,v,Ys,Ib,Fz,UX,E⟩:∃(a:A) (v:a4),pJ L U.length a=ao v/\(a=.aV\/a=.int v)/\1<=v/\v<=min L U.length/\fU [A.aV,.int N,.int (1+z%N)] (c/27%3)=ao a:=by
  rcases acQ (a:=A.aV) (b:=A.int N) (c:=A.int (1+z%N)) (c/27%3) (by omega) (by omega)with q|q|q
  ·exact⟨.aV,min L U.length,rfl,.inl rfl,by omega,by omega,q⟩
  ·exact⟨.int N,N,rfl,.inr rfl,by omega,by omega,q⟩
  ·exact⟨_,1+z%N,rfl,.inr rfl,by omega,by omega,q⟩
 have G:aC bB (fM ax (aB cN (aB AA (aB (aC (OP a5) bM (aC (dW) (aQ (bI 2 yB) (aB iQ (aB GS a0))) AA)) a0)))) (aC (dW) (aC (iL) iQ (cI 27)) kN) (cZ ns so L b k L' b' k' (aA i) (aA c) o m l (aA r) (aA N) e) B=aG a B:=by
  refine bZ (a:=.lst [A.aV,.int N,.int (1+z%N)]) ?_ (abM 27 3 (by decide) (by decide) (by decide) (bA (a:=.int c) rfl)) (by simp only[bB];simp[E]);unfold fM;rw[bO (bG (a:=.aV) (by simp) (bG (bA (a:=.int N) rfl) (bG (bZ (a:=.int 1) (by simp) (bZ (lS (n:=2) (F:=yB) (bG (bA (a:=.int c) rfl) (bG (a:=.int 9) (by simp) eB)) rfl (Q _)) (bA (a:=.int N) rfl) (c:=.int (z%N)) (by simp only[dW,gI];rw[HW _ W];rfl)) (c:=.int (1+z%N)) (by simp)) eB)))];simp[V]
 rw[bY (nG (i:=12) G)];simp only[List.set];have qa:=Mj st h1.tab r0 y (by omega) r a v Ys Ib Fz UX;refine⟨B,U,x,aA c,o,m,l,aA r,aA N,ao a,h1,by omega,kZ,?_⟩;refine uA ?_;have em:bX (aC iW (aC (dW) qD kN) bP) (cZ ns so L b k L' b' k' (aA i) (aA c) o m l (aA r) (aA N) (ao a)) B=aG ((i:a4)%3==0) B:=nO (bZ (bZ (bA (a:=.int i) rfl) (b:=.int 3) (by simp) (c:=.int ((i:a4)%3)) (by simp)) (b:=.int 0) (by simp) (by simp));have en:kU (bX (aQ (bI 5 KO) (aB (aC bB dJ bP) (aB (aC bB bH bP) (aB (aC bB cW bP) (aB Ab (aB Qb a0))))))) (cZ ns so L b k L' b' k' (aA i) (aA c) o m l (aA r) (aA N) (ao a)) B=aG ax B :=
  vJ (b:=a5) (nO (lS (bG (bZ (bA (a:=.lst [.aE 2,.aE 3]) rfl) (b:=.int 0) (by simp) (c:=.aE 2) (by simp)) (bG (bZ (bA (a:=.lst [bQ L b k,bQ L' b' k']) rfl) (b:=.int 0) (by simp) (c:=bQ L b k) (by simp)) (bG (M _ _ _) (bG (bA (a:=.int r) rfl) (bG (bA (a:=a) rfl) eB))))) rfl qa))
 unfold Aq;rw[bO em]
 by_cases T:(i:a4)%3=0
 ·simp only[T];exact en
 ·have:((i:a4)%3==0)=ax:=by simp[T]
  rw[this];simp
end
theorem asR(ns:aq a4)(zA:ns.length<=63):∃W,adZ [.gG ns] [hU]=aG (.bl a5) W:=by
 have q0:=λZ=>JV ns 0 Z (by decide) (by decide);have G:=JH ns 0;generalize vW ns 0=d at q0 G;have q1:=λZ=>JV ns 1 Z (by decide) (by decide);have v:=JH ns 1;generalize vW ns 1=z1 at q1 v;have q2:=λZ=>JV ns 2 Z (by decide) (by decide);have Oq:=JH ns 2;generalize vW ns 2=z2 at q2 Oq;have q3:=λZ=>JV ns 3 Z (by decide) (by decide);have ZU:=JH ns 3;have ZT:=ab4 ns 3;generalize vW ns 3=E at q3 ZU ZT;obtain⟨L,b,k,L1,L2,b1,b2,k1,k2,sz⟩:=adI z1 v;obtain⟨N,B,z,C,L2',y,b2',Q,P,H⟩:=adI z2 Oq;obtain⟨n,aKA,I⟩:=aHM ns;have start:tM [hU,.dead,.ins "Window" (wF L b k 0 [] []),.ins "Window" (wF N B z 0 [] []),.lst [],.lst []] L b k N B z [] [] :=
  ⟨⟨[],[],⟨rfl,Py L1 b1,L1,L2,b1,b2,k1,k2⟩⟩,⟨[],[],⟨rfl,Py C y,C,L2',y,b2',Q,P⟩⟩,rfl,rfl,rfl⟩
 obtain⟨Y1,U,q,row,D,s,o,m,l,u,t,p,r,rfl,h,hl,kZ⟩:=Jm (ok:=λ_=>True) (g:=gN 5) (b:=PV)
  (λi Y Z'=>∃row D s o m l u v p r,Y=cZ ns (d%5) L b k N B z s o m l u v p r/\tM Z' L b k N B z row D/\row.length<=3*i/\D.length<=row.length) (λ_ _ _ _=>trivial)
  ((List.range n).map λ(i:a6)=>A.int (0+(i:a4))) 0 (cZ ns (d%5) L b k N B z au au au au au au au au) [hU,.dead,.ins "Window" (wF L b k 0 [] []),.ins "Window" (wF N B z 0 [] []),.lst [],.lst []] ⟨[],[],au,au,au,au,au,au,au,au,rfl,start,by simp,by simp⟩
  (by
   rintro i a Y Z' S ⟨row,D,s,o,m,l,u,v,p,r,rfl,h',hl,kZ⟩;have hi:i<n:=by simpa using(cY.mp S).1
   have ex:a=.int (i:a4):=by
    rw[jH,adQ hi]at S;simpa using S.symm
   subst ex;rw[xU]at hl ⊢;obtain⟨Z2,ra,rb,y6,y7,y8,y9,fG,eY,eW,h2,hl3,R,qq⟩:=ag4 (ns:=ns) (so:=d%5) h' i (by omega) (by omega) kZ zA (by omega) (by omega) o m l u v p r;exact⟨cZ ns (d%5) L b k N B z (aA i) o m l u v p r,Z',_,_,by simp[cZ],.inl qq,ra,rb,_,_,_,_,_,_,_,_,rfl,h2,by omega,R⟩)
 simp only[jG,List.length_range,xU]at hl;obtain⟨bs,nw,st⟩:=h.w0;obtain⟨bs',Vq,aI⟩:=h.w1;have en0:=adL st h.tab h.r0 (by omega) E ZU ZT;have en1:=adL aI h.tab h.r1 (by omega) E ZU ZT;have s2:(2:a6)<=bf:=by decide
 have V:(0:a6)<bf:=by decide
 have T:(1:a6)<bf:=by decide
 have En:=adG L b k [hU,.lst []];have Em:=adG N B z [hU,.lst [.aE 2],.ins "Window" (wF L b k 0 [] [])]
 suffices hh:∃w,XW [ao (.gG ns),au,au,au,au,au,au,au,au,au,au,au,au] [hU]=ao (.ret (.bl a5),w,U)by
  obtain⟨w,e⟩:=hh;show ∃W,trim [hU] (iI (XW [ao (.gG ns),au,au,au,au,au,au,au,au,au,au,au,au] [hU]))=_;rw[e];simp only[tX,trim];split
  ·exact⟨_,rfl⟩
  ·exact⟨_,rfl⟩
 refine⟨cZ ns (d%5) L b k N B z s o m l (aA 1) t p r,?_⟩;unfold XW;rw[bY (nG (i:=1) (Z':=[hU]) (a:=.int (d%5)) (bZ (lS (n:=2) (F:=pZ) (as:=[.gG ns,.int 0]) (bG (bA rfl) (bG (by simp) eB)) rfl (q0 _)) (b:=.int 5) (by simp) (by simp)))];simp only[List.set];have X:fM ax (aB (aQ (bI 1 yA) (aB (aQ (bI 2 pZ) (aB aM (aB bM a0))) a0)) (aB (aQ (bI 1 yA) (aB (aQ (bI 2 pZ) (aB aM (aB jR a0))) a0)) a0)) [ao (.gG ns),aA (d%5),au,au,au,au,au,au,au,au,au,au,au] [hU]=aG (.lst [bQ L b k,bQ N B z]) [hU]:=by
  unfold fM;rw[bO (bG (lS (n:=1) (F:=yA) (bG (lS (n:=2) (F:=pZ) (as:=[.gG ns,.int 1]) (bG (bA rfl) (bG (by simp) eB)) rfl (q1 _)) eB) rfl (sz _)) (bG (lS (n:=1) (F:=yA) (bG (lS (n:=2) (F:=pZ) (as:=[.gG ns,.int 2]) (bG (bA rfl) (bG (by simp) eB)) rfl (q2 _)) eB) rfl (H _)) eB))];simp[s2]
 rw[bY (nG (i:=2) X)];simp only[List.set];have lc:Kx [ao (.gG ns),aA (d%5),cA ([bQ L b k,bQ N B z]),au,au,au,au,au,au,au,au,au,au] [hU]=aG (.lst [.aE 2,.aE 3]) [hU,.dead,.ins "Window" (wF L b k 0 [] []),.ins "Window" (wF N B z 0 [] [])]:=by
  unfold Kx mT;generalize hgm:IV "Window" 4 KP=gm at En Em;rw[bO (x:=srcOf (.lst [bQ L b k,bQ N B z]) [bQ L b k,bQ N B z]) (Z':=[hU]) (by simp)];simp at En Em;simp[pP,nT,En,Em,UO,V,T,fK,Cl]
 rw[bY (nG (i:=3) lc)];simp only[List.set];rw[bY (nG (i:=4) (a:=.lst [.aE 4,.aE 5]) (Z':=[hU,.dead,.ins "Window" (wF L b k 0 [] []),.ins "Window" (wF N B z 0 [] []),.lst [],.lst []]) (by simp[s2,rF]))];simp only[List.set];have f1:kP (rB (aB (aQ (bI 3 CH) (aB aM (aB qY (aB (cI 58) a0)))) a0)) (gN 5) PV (cZ ns (d%5) L b k N B z au au au au au au au au) [hU,.dead,.ins "Window" (wF L b k 0 [] []),.ins "Window" (wF N B z 0 [] []),.lst [],.lst []]=dA (cZ ns (d%5) L b k N B z s o m l u t p r) U:=by
  have er:rB (aB (aQ (bI 3 CH) (aB aM (aB qY (aB (cI 58) a0)))) a0) (cZ ns (d%5) L b k N B z au au au au au au au au) [hU,.dead,.ins "Window" (wF L b k 0 [] []),.ins "Window" (wF N B z 0 [] []),.lst [],.lst []]=aG (wW 0 n) [hU,.dead,.ins "Window" (wF L b k 0 [] []),.ins "Window" (wF N B z 0 [] []),.lst [],.lst []]:=by
   have:=TM (Y:=cZ ns (d%5) L b k N B z au au au au au au au au) (Z:=[hU,.dead,.ins "Window" (wF L b k 0 [] []),.ins "Window" (wF N B z 0 [] []),.lst [],.lst []]) (Z':=[hU,.dead,.ins "Window" (wF L b k 0 [] []),.ins "Window" (wF N B z 0 [] []),.lst [],.lst []]) (f:=aB (aQ (bI 3 CH) (aB aM (aB qY (aB (cI 58) a0)))) a0) (j:=(n:a4)) (bG (lS (n:=3) (F:=CH) (bG (bA (a:=.gG ns) rfl) (bG (a:=.int 5) (by simp) (bG (a:=.int 58) (by simp) eB))) rfl (I _)) eB) (by unfold yN;omega);rw[this];rfl
  rw[tE er];exact q
 rw[bY f1];have ce:∀y9:aw A,aQ (bI 2 pZ) (aB aM (aB kN a0)) (cZ ns (d%5) L b k N B z s o m l y9 t p r) U=aG (.int E) U:=λ_=>lS (as:=[.gG ns,.int 3]) (bG (bA rfl) (bG (by simp) eB)) rfl (q3 _);have M:EV (cZ ns (d%5) L b k N B z s o m l (aA 0) t p r) U=dA (cZ ns (d%5) L b k N B z s o m l (aA 0) t p r) U:=by
  unfold EV;exact uA (vJ (b:=a5) (nO (lS (bG (bZ (bA (a:=.lst [.aE 2,.aE 3]) rfl) (bA (a:=.int 0) rfl) (c:=.aE 2) (by simp)) (bG (bZ (bA (a:=.lst [bQ L b k,bQ N B z]) rfl) (bA (a:=.int 0) rfl) (c:=bQ L b k) (by simp)) (bG (bZ (bA (a:=.lst [.aE 4,.aE 5]) rfl) (bA (a:=.int 0) rfl) (c:=.aE 4) (by simp)) (bG (ce _) eB)))) rfl en0)))
 have K:EV (cZ ns (d%5) L b k N B z s o m l (aA 1) t p r) U=dA (cZ ns (d%5) L b k N B z s o m l (aA 1) t p r) U:=by
  unfold EV;exact uA (vJ (b:=a5) (nO (lS (bG (bZ (bA (a:=.lst [.aE 2,.aE 3]) rfl) (bA (a:=.int 1) rfl) (c:=.aE 3) (by simp)) (bG (bZ (bA (a:=.lst [bQ L b k,bQ N B z]) rfl) (bA (a:=.int 1) rfl) (c:=bQ N B z) (by simp)) (bG (bZ (bA (a:=.lst [.aE 4,.aE 5]) rfl) (bA (a:=.int 1) rfl) (c:=.aE 5) (by simp)) (bG (ce _) eB)))) rfl en1)))
 have f2:kP (rB (aB jR a0)) (gN 9) EV (cZ ns (d%5) L b k N B z s o m l u t p r) U=dA (cZ ns (d%5) L b k N B z s o m l (aA 1) t p r) U:=by
  have er:rB (aB jR a0) (cZ ns (d%5) L b k N B z s o m l u t p r) U=aG (wW 0 2) U:=TM (j:=2) (bG (by simp) eB) (by unfold yN;omega);rw[tE er];show fD _ (gN 9) EV [A.int (0+0),A.int (0+1)] _ U=_;rw[nX trivial (Y0:=cZ ns (d%5) L b k N B z s o m l (aA 0) t p r) (Z0:=U) (by simp[cZ]) M];rw[nX trivial (Y0:=cZ ns (d%5) L b k N B z s o m l (aA 1) t p r) (Z0:=U) (by simp[cZ]) K,xO trivial]
 rw[bY f2];unfold dB;rw[gO (x:=.bl a5) (Z':=U) (by simp)]
end M
namespace Mx
open PySem L2 V2 PyProof.Rows M
noncomputable def top(i:a6):b8:=PySem.Challenge.pw_rankpouch_k71_window_counts.main.body.getD i (.Pass ⟨0,0,0,0⟩)
abbrev Cb:b8:=top 12
abbrev Cc:b8:=top 15
abbrev Bz:b8:=top 16
abbrev By:b8:=top 17
abbrev Ca:b8:=top 19
abbrev Ce:b8:=top 20
abbrev Bv:b8:=top 21
abbrev Cd:b8:=top 22
abbrev AM:b8:=top 24
abbrev Bw:b8:=top 26
abbrev HJ:b8:=top 27
abbrev Bx:b8:=top 30
abbrev Cf:b8:=top 31
abbrev Cp:b8:=top 33
abbrev Cr:b8:=top 34
abbrev Co:b8:=top 35
abbrev Ci:b8:=top 36
abbrev Cj:b8:=top 37
abbrev Cg:b8:=top 38
abbrev Ck:b8:=top 39
abbrev Cs:b8:=top 40
abbrev Cm:b8:=top 41
abbrev Cn:b8:=top 42
abbrev Cq:b8:=top 43
abbrev HK:b8:=inClass (top 29) 0
abbrev Ct:b8:=inClass (top 29) 1
abbrev Cy:b8:=inClass (top 29) 2
abbrev DC:b8:=inClass (top 29) 3
abbrev DD:b8:=inClass (top 29) 5
abbrev Cw:b8:=inClass (top 29) 6
abbrev Cv:b8:=inClass (top 29) 7
abbrev Cu:b8:=inClass (top 29) 8
abbrev wU:b8:=top 44
structure fL(mg:ba->aw av):Prop where
 ValueError:mg "ValueError" = au
 bool:mg "bool" = au
 enumerate:mg "enumerate" = au
 int:mg "int" = au
 isinstance:mg "isinstance" = au
 len:mg "len" = au
 max:mg "max" = au
 min:mg "min" = au
 range:mg "range" = au
 set:mg "set" = au
 sorted:mg "sorted" = au
 sum:mg "sum" = au
 tuple:mg "tuple" = au
section
variable(P:bh)(w:bw)(K:bj)(mg:ba->aw av)(base:bz)
abbrev Ty0:=cO P w K mg base "near_enough" 1 ["before", "entry", "slack"] RH
abbrev Ty1:=cO P w K mg base "bounds_ahead" 1 ["pouch", "at"] GC
abbrev YK:=cO P w K mg base "summed" 1 ["bounds"] ZI
abbrev FD:=cO P w K mg base "beyond" 1 ["parts", "last"] RJ
abbrev YJ:=cO P w K mg base "_law_mix" 1 ["_law_cell_here", "_law_k"] yB
abbrev Ty5:=cO P w K mg base "_law_number" 1 ["_law_cell_here", "_law_sort"] rZ
abbrev Ty6:=cO P w K mg base "_law_whole" 1 ["_law_found"] uV
abbrev Ty7:=cO P w K mg base "_law_sizes" 1 ["_law_cell_here"] yA
abbrev Ty8:=cO P w K mg base "kept_entries" 2 ["entries", "slack"] RI
abbrev YI:=cO P w K mg base "_law_cell" 2 ["_law_script", "_law_k"] pZ
abbrev ac7:=cO P w K mg base "thinned" 3 ["pouch", "keep"] xZ
abbrev ac6:=cO P w K mg base "_law_steps" 3 ["_law_script", "_law_start", "_law_most"] CH
abbrev ac5:=cO P w K mg base "_law_step" 3 ["_law_script", "_law_start", "_law_k"] ZK
abbrev Ly:=cO P w K mg base "pouch_of" 4 ["numbers"] rY
abbrev Lx:=cO P w K mg base "upto_asks" 3 ["pouch", "number"] RD
abbrev JQ:=fT P w K mg base "Window" "look_last" 1 2 [] zV
abbrev JP:=fT P w K mg base "Window" "parts" 5 2 [] CI
abbrev ac4:=fT P w K mg base "Window" "held" 1 1 [] CJ
abbrev ac3:=fT P w K mg base "Window" "upto" 6 3 [] sA
abbrev Lw:=cO P w K mg base "_law_asked" 7 ["_law_window", "_law_sizes_here", "_law_row", "_law_number_here", "_law_last"] KO
abbrev ac2:=cO P w K mg base "_law_refused" 7 ["_law_window", "_law_last", "_law_only_off"] ZL
abbrev ac1:=cO P w K mg base "_law_refusals" 8 ["_law_window", "_law_sizes_here", "_law_row", "_law_cell_here"] ZM
abbrev acZ:=cO P w K mg base "_law_end" 9 ["_law_window", "_law_sizes_here", "_law_row", "_law_cell_here"] Ni
end
section
variable{P:bh}{w:bw}{K:bj}{mg:ba->aw av}{base:bz}
theorem akT:dN ["before", "entry", "slack"] ["before", "entry", "slack"] (aZ Cb):=gT
theorem aCY(B:fL mg)(h:HasFn K mg "near_enough" Cb):Ty0 P w K mg base :=
 cO.o h akT λhr=>(bS (eE (af1 (GX (rE hr.units) (cH (vv 1) aO cE) (cH (vv 0) aO cE) (gQ _)) (Ag (GX DO (cH (vv 1) aO cE) (aT (dX ax) (aT (dX ax) (cH (vv 0) aO cE) (vv 2)) aO) (gQ _))))))
theorem akU:dN ["row", "length", "at", "run", "times"] ["row"] (aZ Cc):=gT
theorem aCZ(B:fL mg)(h:HasFn K mg "look_row" Cc)(j:∃t,mg "LONGEST" = ao (.int 1000000000 t)):cO P w K mg base "look_row" 1 ["row"] ZJ :=
 cO.o h akU λhr=>(bL (cQ 1 aO)
  (bL (sE cF.passes rfl (Qf rfl B.enumerate (vv 0)) (GV rfl (sF (hJ 2) (sF (hJ 3) GU)))
   (bL (cQ 4 (cH (vv 3) aO cE))
   (bL (cQ 1 (aT (dX ax) (vv 1) (vv 4)))
   (bS (jJ (VW.vt (wO (jI DN (vv 4) aO (gQ _)) (CW (jI HQ (vv 1) (af6 rfl j) (gQ _)))))
    (bS afR)
    kG)))))
  (bS (eE (vv 1)))))
theorem akR:dN ["row", "times_of", "number", "times"] ["row"] (aZ Bz):=gT
theorem aCW(B:fL mg)(h:HasFn K mg "packed" Bz):cO P w K mg base "packed" 1 ["row"] RF :=
 cO.o h akR λhr=>(bL (cQ 1 Qj)
  (bL (sE cF.passes rfl (qE (vv 0)) (GV rfl (sF (hJ 2) (sF (hJ 3) GU)))
   (bS (Qe (cK.SE hr) (vv 1) (vv 2) (aT (dX ax) (agB (cK.SE hr) (vv 1) (vv 2) aO ⟨rfl,rfl,rfl,rfl⟩) (vv 3)))))
  (bS (eE (yK ax ["number"] [1] (qE (dS (aE2 rfl ax) rfl B.sorted boot_sorted (aF (vv 1) aR))) ⟨(hJ 0),yJ,(tS (aF (vv 0) (aF (agC (cK.SE hr) (vv 1) (vv 0) cE) aR)))⟩)))))
theorem akX:dN ["pouch", "at", "entries", "low", "high"] ["pouch", "at"] (aZ Ce):=gT
theorem aC4(B:fL mg)(h:HasFn K mg "bounds_ahead" Ce):Ty1 P w K mg base :=
 cO.o h akX λhr=>(bL (cQ 2 (cH (vv 0) aO cE))
  (bL (cQ 3 (Qi (jI HQ (vv 1) aO (gQ _)) (cH (cH (vv 2) (aT jK (vv 1) aO) cE) aO cE) aO))
  (bL (cQ 4 (Qi (jI DN (vv 1) (dS kQ rfl B.len PySem.boot_len (aF (vv 2) aR)) (gQ _)) (aT jK (cH (cH (vv 2) (vv 1) cE) aO cE) aO) (cH (vv 0) aO cE)))
  (bS (eE (tS (aF (vv 3) (aF (vv 4) aR))))))))
theorem akO:dN ["bounds"] ["bounds"] (aZ Bw):=gT
theorem aCS(B:fL mg)(h:HasFn K mg "summed" Bw):YK P w K mg base :=
 cO.o h akO λhr=>(bS (eE (tS (aF (dS (PR rfl) rfl B.sum boot_sum (aF (yK ax ["pair"] [] (qE (vv 0)) ⟨(hJ 0),yJ,(cH (vv 0) aO cE)⟩) aR)) (aF (dS (PR rfl) rfl B.sum boot_sum (aF (yK ax ["pair"] [] (qE (vv 0)) ⟨(hJ 0),yJ,(cH (vv 0) aO cE)⟩) aR)) aR)))))
theorem alE:dN ["self", "length", "block", "keep"] ["self", "length", "block", "keep"] (aZ HK):=gT
theorem aF2(B:fL mg)(N:fJ K ["Window"] "block")(U:fJ K ["Window"] "full")(b:fJ K ["Window"] "keep")(z:fJ K ["Window"] "many")(a:fJ K ["Window"] "newest")(q:fJ K ["Window"] "reach")(f:az)(j:av)(A:bu)(outer:aq Env)(s:ay)(H:Hp)(E:XK)(hr:cK 0 (A.deeper (c8 "Window.__init__" (aZ HK) s.heap.objs.size f j))) :
  iC (oV P w K mg base ["self", "length", "block", "keep"] "Window.__init__" (aZ HK) f j A outer s H E) (λ_=>E) (eL HK) QD:=by
 exact(bL (AD (vv 0) (vv 1) q)
  (bL (AD (vv 0) (vv 2) N)
  (bL (AD (vv 0) (vv 3) b)
  (bL (AD (vv 0) aO z)
  (bL (Ae (AD (vv 0) (lX a5 aR) U))
  (bS (Ae (AD (vv 0) (lX a5 aR) a))))))))
theorem aCB(B:fL mg)(N:fJ K ["Window"] "block")(U:fJ K ["Window"] "full")(b:fJ K ["Window"] "keep")(z:fJ K ["Window"] "many")(a:fJ K ["Window"] "newest")(j:fJ K ["Window"] "reach"){cls:ba}(h:Ng K mg cls "Window.__init__" HK):JU P w K mg base cls 1 4 KP:=JU.of h alE (λ_ _ _ _ _ _ q hl=>SA q hl (λ_ _ _ _=>rfl)) (aF2 B N U b z a j)
theorem alD:dN ["self", "others"] ["self"] (aZ Cy):=gT
theorem aDN(B:fL mg)(z:fJ K ["Window"] "block")(j:fJ K ["Window"] "full")(N:fJ K ["Window"] "newest")(q:fJ K ["Window"] "reach"){cls:ba}(h:CF K mg cls "drop_oldest" "Window.drop_oldest" Cy):fT P w K mg base cls "drop_oldest" 1 1 [] RK :=
 fT.o h alD λhr=>(bL (cQ 1 (aT (dX ax) (aT sO (aT jK (RY (dS kQ rfl B.len PySem.boot_len (aF (lL (vv 0) j) aR))) aO) (lL (vv 0) z)) (RY (dS kQ rfl B.len PySem.boot_len (aF (lL (vv 0) N) aR)))))
  (bS (jJ (jI aqH (vv 1) (lL (vv 0) q) (gQ _))
   (bS (RT (i:=0) (f := "full") (tR (AF PySem.F.plainAttrs_list PySem.F.slot_list_pop PySem.F.type_list_pop arY ar9 (lL (vv 0) j) (aF aO aR)))))
   kG)))
theorem alC:dN ["self"] ["self"] (aZ Cw):=gT
theorem aDM(B:fL mg)(j:fJ K ["Window"] "full")(q:fJ K ["Window"] "newest"){cls:ba}(h:CF K mg cls "held" "Window.held" Cw):fT P w K mg base cls "held" 1 1 [] CJ :=
 fT.o h alC λhr=>(bS (eE (Qh (i:=0) (f := "full") (aT (dX ax) (RY (dS kQ rfl B.len PySem.boot_len (aF (lL (vv 0) q) aR))) (dS (PR rfl) rfl B.sum boot_sum (aF (yK ax ["part"] [] (qE (lL (vv 0) j)) ⟨(hJ 0),yJ,(dS kQ rfl B.len PySem.boot_len (aF (cH (vv 0) aO cE) aR))⟩) aR))))))
theorem alB:dN ["self", "last", "most"] ["self", "last"] (aZ Cv):=gT
theorem aDL(B:fL mg)(q:fJ K ["Window"] "many")(j:fJ K ["Window"] "reach")(z:YN K mg "NoPlace"){cls:ba}(h:CF K mg cls "look_last" "Window.look_last" Cv):fT P w K mg base cls "look_last" 1 2 [] zV :=
 fT.o h alB λhr=>(bL (cQ 2 (dS (ET rfl) rfl B.min boot_min (aF (lL (vv 0) j) (aF (lL (vv 0) q) aR))))
  (bL (jJ (jI Vp (vv 1) GW (gQ _))
   (bS (cQ 1 (vv 2)))
   kG)
  (bL (jJ (VW.vt (wO (jI DN (vv 1) aO (gQ _)) (CW (jI HQ (vv 1) (vv 2) (gQ _)))))
   (bS (afP cF rfl z rfl (aF afY aR)))
   kG)
  (bS (eE (vv 1))))))
theorem akY:dN ["parts", "last"] ["parts", "last"] (aZ Cf):=gT
theorem aC5(B:fL mg)(h:HasFn K mg "beyond" Cf):FD P w K mg base :=
 cO.o h akY λhr=>(bS (eE (aT jK (dS (PR rfl) rfl B.sum boot_sum (aF (yK ax ["part"] [] (qE (vv 0)) ⟨(hJ 0),yJ,(cH (vv 0) aO cE)⟩) aR)) (vv 1))))
theorem ak5:dN ["_law_cell_here", "_law_k", "_law_first"] ["_law_cell_here", "_law_k"] (aZ Cp):=gT
theorem aDD(B:fL mg)(h:HasFn K mg "_law_mix" Cp):YJ P w K mg base :=
 cO.o h ak5 λhr=>(bL (cQ 2 (aT jL (aT sO (aT (dX ax) (vv 0) aO) (aT (dX ax) aO (aT sO aO (vv 1)))) aO))
  (bS (eE (aT jL (aT (dX ax) (aT (dX ax) (aT sO (aT pH (vv 2) aO) aO) (aT sO (vv 2) (aT (dX ax) (aT sO (vv 1) (vv 1)) aO))) (vv 1)) aO))))
theorem ak4:dN ["_law_cell_here", "_law_sort"] ["_law_cell_here", "_law_sort"] (aZ Co):=gT
theorem aDC(B:fL mg)(h:HasFn K mg "_law_number" Co):Ty5 P w K mg base :=
 cO.o h ak4 λhr=>(bL (jJ (jI (rE hr.units) (vv 1) aO (gQ _))
   (bS (eE (aT jL (vv 0) aO)))
   kG)
  (bL (jJ (jI (rE hr.units) (vv 1) aO (gQ _))
   (bS (eE (aT jK (aT jL (vv 0) aO) aO)))
   kG)
  (bL (jJ (jI (rE hr.units) (vv 1) aO (gQ _))
   (bS (eE (aT jK (aT jL (aT sO (aT sO (vv 0) (vv 0)) aO) (aT (dX ax) (aT sO aO (aT DM aO aO)) aO)) (aT DM aO aO))))
   kG)
  (bL (jJ (jI (rE hr.units) (vv 1) aO (gQ _))
   (bS (eE (cH (lX ax (aF (aT (dX ax) (aT DM aO aO) (vv 0)) (aF (aT jK (aT jK aO (aT DM aO aO)) (vv 0)) (aF (aT jK (aT DM aO aO) aO) (aF (aT jK aO (aT DM aO aO)) aR))))) (aT jL (vv 0) aO) cE)))
   kG)
  (bS (eE (cH (lX ax (aF aO (aF (aT jK aO aO) (aF aO aR)))) (aT pH (aT jL (vv 0) aO) aO) cE)))))))
theorem akZ:dN ["_law_found"] ["_law_found"] (aZ Cg):=gT
theorem aC6(B:fL mg)(h:HasFn K mg "_law_whole" Cg):Ty6 P w K mg base :=
 cO.o h akZ λhr=>(bS (eE (Qk (dS Ki rfl B.isinstance PU (aF (vv 0) (aF (RW rfl B.int PyProof.Rows.boot_int) aR))) (Ag (af2 (dS Ki rfl B.isinstance PU (aF (vv 0) (aF (RW rfl B.bool PyProof.Rows.boot_bool) aR))))))))
theorem ak2:dN ["_law_cell_here", "_law_length", "_law_block"] ["_law_cell_here"] (aZ Ck):=gT
theorem aC9(B:fL mg)(h:HasFn K mg "_law_sizes" Ck):Ty7 P w K mg base :=
 cO.o h ak2 λhr=>(bL (cQ 1 (aT (dX ax) aO (aT jL (vv 0) aO)))
  (bL (cQ 2 (aT (dX ax) aO (aT jL (aT pH (vv 0) aO) aO)))
  (bL (jJ (jI (rE hr.units) (aT jL (aT pH (vv 0) aO) aO) aO (gQ _))
   (bS (cQ 2 (aT (dX ax) aO (aT jL (aT pH (vv 0) aO) aO))))
   kG)
  (bS (eE (tS (aF (vv 1) (aF (dS (JI rfl) rfl B.max boot_max (aF (vv 2) (aF (aT pH (vv 1) aO) aR))) (aF (aT (dX ax) aO (aT jL (aT pH (vv 0) aO) aO)) aR)))))))))
theorem akQ:dN ["row", "places", "length", "number", "times"] ["row"] (aZ By):=gT
theorem aCV(B:fL mg)(h:HasFn K mg "places_of" By)(j:cO P w K mg base "packed" 1 ["row"] RF):cO P w K mg base "places_of" 2 ["row"] RE :=
 cO.o h akQ λhr=>(bL (cQ 1 Qj)
  (bL (cQ 2 aO)
  (bL (sE cF.passes rfl (qE (fH cF j hr.m rfl (aF (vv 0) aR))) (GV rfl (sF (hJ 3) (sF (hJ 4) GU)))
   (bL (Qe (cK.SE hr) (vv 1) (vv 3) (tS (aF (aT (dX ax) (vv 2) aO) (aF (aT (dX ax) (vv 2) (vv 4)) aR))))
   (bS (cQ 2 (aT (dX ax) (vv 2) (vv 4))))))
  (bS (eE (vv 1))))))
theorem akV:dN ["entries", "slack", "kept", "last", "at", "entry"] ["entries", "slack"] (aZ Cd):=gT
theorem aC1(B:fL mg)(h:HasFn K mg "kept_entries" Cd)(j:Ty0 P w K mg base):Ty8 P w K mg base :=
 cO.o h akV λhr=>(bL (cQ 2 (lX a5 aR))
  (bL (cQ 3 (aT jK (dS kQ rfl B.len PySem.boot_len (aF (vv 0) aR)) aO))
  (bL (sE cF.passes rfl (Qf rfl B.enumerate (vv 0)) (GV rfl (sF (hJ 4) (sF (hJ 5) GU)))
   (bS (jJ (VW.vt (wO (jI (rE hr.units) (vv 4) aO (gQ _)) (wO (jI (rE hr.units) (vv 4) (vv 3) (gQ _)) (CW (sD (qZ (fH cF j hr.m rfl (aF (cH (vv 2) (Qg aO) cE) (aF (cH (vv 0) (aT (dX ax) (vv 4) aO) cE) (aF (vv 1) aR))))))))))
    (bS (tR (AF PySem.F.plainAttrs_list PySem.F.slot_list_append PySem.F.type_list_append DQ DS (vv 2) (aF (vv 5) aR))))
    kG)))
  (bS (eE (vf 2))))))
theorem akW:dN ["entries", "holds", "start", "end", "middle"] ["entries", "holds"] (aZ HJ):=gT
theorem aF1(B:fL mg){qual:ba}{params:dj}{body:bx}{scope:cn}{y:ba}{cs:aq ba}{fb:Ev->Mo A}(c:KI scope y cs)(e:∀(u:av) cl N c' b,dk (kla_fn "<lambda>" qual params body scope cl N (.ref c') b) ⟨[u],[]⟩=pure [(y,u)])(q:adT P w K mg base qual body scope y cs fb) :
  ∀(j:az) (cU:aq (ba×a4)),cU.map (·.1)=cs->∀(f:az) (z:av) (A:bu) (outer:aq Env) (s:ay) (H:Hp) (E:XK),cK 1 (A.deeper (c8 "first_where" (aZ HJ) s.heap.objs.size f z))->xY s.heap H j qual params body scope cU ->
   iC (oV P w K mg base ["entries", "holds", "start", "end", "middle"] "first_where" (aZ HJ) f z A outer s H E) (λ_=>E) (eL HJ) (PY j (sQ fb (cU.map (·.2)))):=by
 intro j cU U f z A outer s H E hr d;subst U;have S:=c;have a:=q;exact(bL (cQ 2 aO)
  (bL (cQ 3 (dS kQ rfl B.len PySem.boot_len (aF (vv 0) aR)))
  (bL (afK (λ_ _=>1000000) cF.passes (jI DN (vv 2) (vv 3) (gQ _))
   (bL (cQ 4 (aT pH (aT (dX ax) (vv 2) (vv 3)) aO))
   (bS (jJ (qZ (af5 (i:=1) rfl d S hr.m e a rfl oIr (cH (vv 0) (vv 4) cE)))
    (bS (cQ 3 (vv 4)))
    (bS (cQ 2 (aT (dX ax) (vv 4) aO)))))))
  (bS (eE (vv 2))))))
theorem ak7:dN ["_law_script", "_law_k", "_law_cell_here"] ["_law_script", "_law_k"] (aZ Cr):=gT
theorem aDF(B:fL mg)(h:HasFn K mg "_law_cell" Cr)(j:YJ P w K mg base):YI P w K mg base :=
 cO.o h ak7 λhr=>(bL (cQ 2 aO)
  (bL (jJ (jI DN (vv 1) (dS kQ rfl B.len PySem.boot_len (aF (vv 0) aR)) (gQ _))
   (bS (cQ 2 (aT jL (cH (vv 0) (vv 1) cE) aO)))
   kG)
  (bS (eE (fH cF j hr.m rfl (aF (vv 2) (aF (aT (dX ax) (vv 1) aO) aR)))))))
theorem akS:dN ["row", "entries", "number", "stands"] ["row"] (aZ Ca):=gT
theorem aCX(B:fL mg)(h:HasFn K mg "of_row" Ca)(j:cO P w K mg base "look_row" 1 ["row"] ZJ)(q:cO P w K mg base "places_of" 2 ["row"] RE):cO P w K mg base "of_row" 3 ["row"] RG :=
 cO.o h akS λhr=>(bL (cQ 1 (lX a5 aR))
  (bL (sE cF.passes rfl (afW (fH cF q hr.m rfl (aF (vv 0) aR))) (GV rfl (sF (hJ 2) (sF (hJ 3) GU)))
   (bL (tR (AF PySem.F.plainAttrs_list PySem.F.slot_list_append PySem.F.type_list_append DQ DS (vv 1) (aF (tS (aF (vv 2) (aF (cH (vv 3) aO cE) (aF (cH (vv 3) aO cE) aR)))) aR)))
   (bS (jJ (jI (Vo hr.units) (cH (vv 3) aO cE) (cH (vv 3) aO cE) (gQ _))
    (bS (tR (AF PySem.F.plainAttrs_list PySem.F.slot_list_append PySem.F.type_list_append DQ DS (vv 1) (aF (tS (aF (vv 2) (aF (cH (vv 3) aO cE) (aF (cH (vv 3) aO cE) aR)))) aR))))
    kG))))
  (bS (eE (tS (aF (fH cF j hr.m rfl (aF (vv 0) aR)) (aF aO (aF aO (aF (vf 1) aR)))))))))
theorem akN:dN ["pouch", "keep", "size", "slack"] ["pouch", "keep"] (aZ Bv):=gT
theorem aCR(B:fL mg)(h:HasFn K mg "thinned" Bv)(j:Ty8 P w K mg base):ac7 P w K mg base :=
 cO.o h akN λhr=>(bL (cQ 2 (cH (vv 0) aO cE))
  (bL (cQ 3 (aT (dX ax) (cH (vv 0) aO cE) (aT pH (vv 2) (vv 1))))
  (bS (eE (tS (aF (vv 2) (aF (vv 3) (aF (aT (dX ax) (cH (vv 0) aO cE) aO) (aF (fH cF j hr.m rfl (aF (cH (vv 0) aO cE) (aF (vv 3) aR))) aR)))))))))
theorem akM:dN ["pouch", "number"] ["pouch", "number"] (aZ AM):=gT
theorem aCQ(B:fL mg)(h:HasFn K mg "upto" AM)(e:Ty1 P w K mg base)(g:HasFn K mg "first_where" HJ)(q:Lz K mg base "upto"):cO P w K mg base "upto" 3 ["pouch", "number"] RD:=by
 refine cO.ofT h q akM (λ_ _ _ _ _ _ j hl=>LJ j hl cE) (λc l U N f A outer s H E hr=>?_);exact(bS (eE (fH cF e hr.m rfl (aF (vv 0) (aF (af8 (k:=0) (js:=[1]) (cs:=["number"]) (y := "entry") (fb:=JL) (bfw:=PY) (kf:=1) U N q.blt rfl rfl rfl (ZH.of (aZ AM) ["pouch", "number"] rfl rfl (by decide +kernel)) g rfl akW (λ_ _ _ _ _ _ j hl=>LJ j hl cE) (λd=>aF1 B d (λ_ _ _ _ _=>rfl) (λf i cl A outer s H hr=>(GX HQ (cH (vv 0) aO cE) (vv 1) (gQ _)))) (λb ns a z r h=>M.aAY b _ a z r h) hr.m rfl (cH (vv 0) aO cE)) aR)))))
theorem ak0:dN ["_law_script", "_law_start", "_law_most", "_law_cells"] ["_law_script", "_law_start", "_law_most"] (aZ Ci):=gT
theorem aC7(B:fL mg)(h:HasFn K mg "_law_steps" Ci)(j:YI P w K mg base):ac6 P w K mg base :=
 cO.o h ak0 λhr=>(bL (cQ 3 (dS (JI rfl) rfl B.max boot_max (aF aO (aF (aT jK (dS kQ rfl B.len PySem.boot_len (aF (vv 0) aR)) (vv 1)) aR))))
  (bS (eE (dS (ET rfl) rfl B.min boot_min (aF (vv 2) (aF (dS (JI rfl) rfl B.max boot_max (aF (vv 3) (aF (aT jL (fH cF j hr.m rfl (aF (vv 0) (aF (aT jK (vv 1) aO) aR))) (aT (dX ax) (vv 2) aO)) aR))) aR))))))
theorem ak1:dN ["_law_script", "_law_start", "_law_k", "_law_cells"] ["_law_script", "_law_start", "_law_k"] (aZ Cj):=gT
theorem aC8(B:fL mg)(h:HasFn K mg "_law_step" Cj)(q:YI P w K mg base)(j:YJ P w K mg base):ac5 P w K mg base :=
 cO.o h ak1 λhr=>(bL (cQ 3 (dS (JI rfl) rfl B.max boot_max (aF aO (aF (aT jK (dS kQ rfl B.len PySem.boot_len (aF (vv 0) aR)) (vv 1)) aR))))
  (bS (eE (fH cF j hr.m rfl (aF (fH cF q hr.m rfl (aF (vv 0) (aF (aT (dX ax) (vv 1) (aT jL (vv 2) (dS (JI rfl) rfl B.max boot_max (aF aO (aF (vv 3) aR))))) aR))) (aF (vv 2) aR))))))
theorem akP:dN ["numbers"] ["numbers"] (aZ Bx):=gT
theorem aCU(B:fL mg)(h:HasFn K mg "pouch_of" Bx)(j:cO P w K mg base "of_row" 3 ["row"] RG):Ly P w K mg base :=
 cO.o h akP λhr=>(bS (eE (fH cF j hr.m rfl (aF (yK ax ["number"] [] (qE (vv 0)) ⟨(hJ 0),yJ,(tS (aF (vv 0) (aF aO aR)))⟩) aR))))
theorem ak9:dN ["self", "number"] ["self", "number"] (aZ Ct):=gT
theorem aDI(B:fL mg)(b:Ly P w K mg base)(U:ac7 P w K mg base)(z:fJ K ["Window"] "block")(N:fJ K ["Window"] "full")(c:fJ K ["Window"] "keep")(q:fJ K ["Window"] "many")(j:fJ K ["Window"] "newest")(a:fT P w K mg base "Window" "drop_oldest" 1 1 [] RK){cls:ba}(h:CF K mg cls "put" "Window.put" Ct):fT P w K mg base cls "put" 5 2 [] GD :=
 fT.o h ak9 λhr=>(bL (AD (vv 0) (aT (dX ax) (lL (vv 0) q) aO) q)
  (bL (tR (agA (AF PySem.F.plainAttrs_list PySem.F.slot_list_append PySem.F.type_list_append DQ DS (lL (vv 0) j) (aF (vv 1) aR)) (amT 1)))
  (bL (jJ (jI (rE hr.units) (RY (dS kQ rfl B.len PySem.boot_len (aF (lL (vv 0) j) aR))) (lL (vv 0) z) (gQ _))
   (bL (RT (i:=0) (f := "full") (RT (i:=0) (f := "newest") (tR (AF PySem.F.plainAttrs_list PySem.F.slot_list_append PySem.F.type_list_append DQ DS (lL (vv 0) N) (aF (fH cF U hr.m rfl (aF (fH cF b hr.m rfl (aF (lL (vv 0) j) aR)) (aF (lL (vv 0) c) aR))) aR)))))
   (bS (Ae (AD (vv 0) (lX a5 aR) j))))
   kG)
  (bS (tR (RX cF (fV.cons a hr.m fV.nil) (vv 0)))))))
theorem alA:dN ["self", "last", "newest", "blocks"] ["self", "last"] (aZ Cu):=gT
theorem aDJ(B:fL mg)(N:Ly P w K mg base)(j:fJ K ["Window"] "block")(q:fJ K ["Window"] "full")(z:fJ K ["Window"] "newest"){cls:ba}(h:CF K mg cls "parts" "Window.parts" Cu):fT P w K mg base cls "parts" 5 2 [] CI :=
 fT.o h alA λhr=>(bL (RT (i:=0) (f := "newest") (cQ 2 (Af ax (lL (vv 0) z) (LA (Qg (vv 1))) RU)))
  (bL (cQ 3 (aT pH (aT jK (aT (dX ax) (aT jK (vv 1) (dS kQ rfl B.len PySem.boot_len (aF (vv 2) aR))) (lL (vv 0) j)) aO) (lL (vv 0) j)))
  (bS (eE (Qh (i:=0) (f := "full") (aT (dX ax) (Af ax (lL (vv 0) q) (LA (aT jK (dS kQ rfl B.len PySem.boot_len (aF (lL (vv 0) q) aR)) (vv 3))) RU) (lX ax (aF (fH cF N hr.m rfl (aF (vv 2) aR)) aR))))))))
theorem Th:dN ["self", "number", "last", "parts", "bounds"] ["self", "number", "last"] (aZ DC):=gT
theorem acC(B:fL mg)(q:FD P w K mg base)(U:YK P w K mg base)(a:Lx P w K mg base)(z:JQ P w K mg base)(N:JP P w K mg base)(f:az)(j:av)(A:bu)(outer:aq Env)(s:ay)(H:Hp)(E:XK)(hr:cK 5 (A.deeper (c8 "Window.upto" (aZ DC) s.heap.objs.size f j))) :
  iC (oV P w K mg base ["self", "number", "last", "parts", "bounds"] "Window.upto" (aZ DC) f j A outer s H E) (λ_=>E) (eL DC) EY:=by
 exact(bL (cQ 2 (wQ cF (fV.cons z hr.m fV.nil) (vv 0) (aF (vv 2) aR)))
  (bL (cQ 3 (wQ cF (fV.cons N hr.m fV.nil) (vv 0) (aF (vv 2) aR)))
  (bL (cQ 4 (fH cF U hr.m rfl (aF (yK ax ["part"] [1] (qE (vv 3)) ⟨(hJ 0),yJ,(agD (ps:=["pouch", "number"]) a.calm (by exact hr.mono (by first|decide|omega)) (by exact rfl) (aF (vv 0) (aF (vv 1) aR)))⟩) aR)))
  (bS (eE (tS (aF (dS (JI rfl) rfl B.max boot_max (aF aO (aF (aT jK (cH (vv 4) aO cE) (fH cF q hr.m rfl (aF (vv 3) (aF (vv 2) aR)))) aR))) (aF (dS (ET rfl) rfl B.min boot_min (aF (vv 2) (aF (cH (vv 4) aO cE) aR))) aR))))))))
theorem aDH(B:fL mg)(q:FD P w K mg base)(U:YK P w K mg base)(a:Lx P w K mg base)(z:JQ P w K mg base)(N:JP P w K mg base){cls:ba}(h:KN K mg cls "upto" "Window.upto" DC #[.none]):fT P w K mg base cls "upto" 6 3 [] sA:=fT.ofD (ds:=[]) (dvs:=[]) h .nil (λ_ _ => .nil) Th (λ_ _ _ _ _ _ _ j hl=>match j,hl with|[_,_,_],_=>⟨_,rfl,rfl⟩) (acC B q U a z N)
theorem aB7(B:fL mg)(q:FD P w K mg base)(U:YK P w K mg base)(a:Lx P w K mg base)(z:JQ P w K mg base)(N:JP P w K mg base){cls:ba}(h:KN K mg cls "upto" "Window.upto" DC #[.none]):fT P w K mg base cls "upto" 6 3 [.aV] sA:=fT.ofD (ds:=[.none]) (dvs:=[.aV]) h (.cons rfl .nil) (λ_ _ => .cons (by simp only[V2.Den]) .nil) Th (λ_ _ _ _ _ _ _ j hl=>match j,hl with|[_,_],_=>⟨_,rfl,rfl⟩) (acC B q U a z N)
theorem Ti:dN ["self", "last", "parts"] ["self", "last"] (aZ DD):=gT
theorem acD(B:fL mg)(q:FD P w K mg base)(z:JQ P w K mg base)(N:JP P w K mg base)(f:az)(j:av)(A:bu)(outer:aq Env)(s:ay)(H:Hp)(E:XK)(hr:cK 5 (A.deeper (c8 "Window.off" (aZ DD) s.heap.objs.size f j))) :
  iC (oV P w K mg base ["self", "last", "parts"] "Window.off" (aZ DD) f j A outer s H E) (λ_=>E) (eL DD) EZ:=by
 exact(bL (cQ 1 (wQ cF (fV.cons z hr.m fV.nil) (vv 0) (aF (vv 1) aR)))
  (bL (cQ 2 (wQ cF (fV.cons N hr.m fV.nil) (vv 0) (aF (vv 1) aR)))
  (bS (eE (aT (dX ax) (fH cF q hr.m rfl (aF (vv 2) (aF (vv 1) aR))) (dS (PR rfl) rfl B.sum boot_sum (aF (yK ax ["part"] [] (qE (vv 2)) ⟨(hJ 0),yJ,(cH (vv 0) aO cE)⟩) aR)))))))
theorem aDK(B:fL mg)(q:FD P w K mg base)(z:JQ P w K mg base)(N:JP P w K mg base){cls:ba}(h:KN K mg cls "off" "Window.off" DD #[.none]):fT P w K mg base cls "off" 6 2 [] qU:=fT.ofD (ds:=[]) (dvs:=[]) h .nil (λ_ _ => .nil) Ti (λ_ _ _ _ _ _ _ j hl=>match j,hl with|[_,_],_=>⟨_,rfl,rfl⟩) (acD B q z N)
theorem aB8(B:fL mg)(q:FD P w K mg base)(z:JQ P w K mg base)(N:JP P w K mg base){cls:ba}(h:KN K mg cls "off" "Window.off" DD #[.none]):fT P w K mg base cls "off" 6 2 [.aV] qU:=fT.ofD (ds:=[.none]) (dvs:=[.aV]) h (.cons rfl .nil) (λ_ _ => .cons (by simp only[V2.Den]) .nil) Ti (λ_ _ _ _ _ _ _ j hl=>match j,hl with|[_],_=>⟨_,rfl,rfl⟩) (acD B q z N)
theorem ak8:dN ["_law_window", "_law_sizes_here", "_law_row", "_law_number_here", "_law_last", "_law_length", "_law_block", "_law_keep", "_law_found", "_law_off", "_law_due", "_law_held"] ["_law_window", "_law_sizes_here", "_law_row", "_law_number_here", "_law_last"] (aZ Cs):=gT
theorem aDG(B:fL mg)(h:HasFn K mg "_law_asked" Cs)(j:Ty6 P w K mg base)(N:ac4 P w K mg base)(U:fT P w K mg base "Window" "off" 6 2 [] qU)(a:ac3 P w K mg base)(q:fT P w K mg base "Window" "off" 6 2 [.aV] qU)(z:fT P w K mg base "Window" "upto" 6 3 [.aV] sA):Lw P w K mg base :=
 cO.o h ak8 λhr=>(bL (afT (vv 1) (GV rfl (sF (hJ 5) (sF (hJ 6) (sF (hJ 7) GU)))))
  (bL (jJ (jI Vp (vv 4) GW (gQ _))
   (bL (cQ 8 (wQ cF (fV.cons z hr.m fV.nil) (vv 0) (aF (vv 3) aR)))
   (bL (cQ 9 (RX cF (fV.cons q hr.m fV.nil) (vv 0)))
   (bS (cQ 4 (dS (ET rfl) rfl B.min boot_min (aF (vv 5) (aF (dS kQ rfl B.len PySem.boot_len (aF (vv 2) aR)) aR)))))))
   (bL (cQ 8 (wQ cF (fV.cons a hr.m fV.nil) (vv 0) (aF (vv 3) (aF (vv 4) aR))))
   (bS (cQ 9 (wQ cF (fV.cons U hr.m fV.nil) (vv 0) (aF (vv 4) aR))))))
  (bL (jJ (VW.vt (wO (sD (qZ (dS Ki rfl B.isinstance PU (aF (vv 8) (aF (RW rfl B.tuple PyProof.Rows.boot_tuple) aR))))) (wO (jI (Vo hr.units) (dS kQ rfl B.len PySem.boot_len (aF (vv 8) aR)) aO (gQ _)) (wO (sD (qZ (fH cF j hr.m rfl (aF (cH (vv 8) aO cE) aR)))) (CW (sD (qZ (fH cF j hr.m rfl (aF (cH (vv 8) aO cE) aR)))))))))
   (bS (eE oI))
   kG)
  (bL (jJ (VW.vt (wO (sD (qZ (fH cF j hr.m rfl (aF (vv 9) aR)))) (CW (jI HQ (vv 9) (aT (dX ax) (aT jK (vv 6) aO) (aT sO (aT (dX ax) (aT pH (vv 4) (vv 6)) aO) (aT pH (vv 6) (vv 7)))) (gQ _)))))
   (bS (eE oI))
   kG)
  (bL (cQ 10 (dS kQ rfl B.len PySem.boot_len (aF (yK ax ["_law_value"] [3] (qE (Af ax (vv 2) (LA (aT jK (dS kQ rfl B.len PySem.boot_len (aF (vv 2) aR)) (vv 4))) RU)) ⟨(hJ 0),(afU (jI DO (vv 0) (vv 1) (gQ _))),(vv 0)⟩) aR)))
  (bL (jJ (VW.vt (wO (sD (afJ DO DO DO DO aO (cH (vv 8) aO cE) (vv 10) (cH (vv 8) aO cE) (vv 4))) (CW (jI HQ (aT jK (cH (vv 8) aO cE) (cH (vv 8) aO cE)) (vv 9) (gQ _)))))
   (bS (eE oI))
   kG)
  (bL (cQ 11 (RX cF (fV.cons N hr.m fV.nil) (vv 0)))
  (bS (eE (Qk (fH cF j hr.m rfl (aF (vv 11) aR)) (Ag (agE DN DO aO (vv 11) (aT (dX ax) (aT sO (aT sO (aT (dX ax) (aT pH (vv 5) (vv 6)) aO) aO) (vv 7)) (vv 6))))))))))))))
theorem Tg:dN ["_law_window", "_law_last", "_law_only_off", "_law_told", "error", "_law_others"] ["_law_window", "_law_last", "_law_only_off"] (aZ Cm):=gT
theorem aDA(B:fL mg)(h:HasFn K mg "_law_refused" Cm)(z:mK K mg "NoPlace")(N:mK K mg "NoPouch")(U:mK K mg "NoRow")(a:mK K mg "NoSize")(b:mK K mg "NoText")(c:mK K mg "NoTimes")(d:mK K mg "RankError")(f:mK K mg "Unlike")(g:mK K mg "Wrong")(k:fT P w K mg base "Window" "off" 6 2 [] qU)(l:ac3 P w K mg base)(j:zN K ["NoRow", "NoPlace"] ["RankError", "NoRow", "NoPlace", "NoPouch", "NoSize", "Wrong", "NoTimes", "Unlike", "NoText"]):ac2 P w K mg base:=by
 refine cO.ofN (KQ.of0 h Tg (λ_ _ _ _ _ _ q hl=>SD q hl (λ_ _ _=>rfl)) (λ_ _ _ _ _ _ _ hr=>?_));exact(Qd (VS.v0 (cQ 3 GW))
  (Qd (afL (i:=4) (rs:=["NoRow", "NoPlace"]) (ns:=["RankError", "NoRow", "NoPlace", "NoPouch", "NoSize", "Wrong", "NoTimes", "Unlike", "NoText"]) Rf rfl z rfl j Tg.nd rfl rfl (λW=>(iC.v0 (bS (jJ (qZ (vv 2))
    (bS (tR (wQ Ro (fV.cons k hr.m fV.nil) (vv 0) (aF (vv 1) aR))))
    (bS (tR (wQ Ro (fV.cons l hr.m fV.nil) (vv 0) (aF aO (aF (vv 1) aR)))))))))
   (λp n e he=>(bL (cQ 5 (dS (Kj (kK _ (YV _)) j he) rfl B.isinstance PU (aF (vv 4) (aF (tS (aF (AE N rfl) (aF (AE U rfl) (aF (AE a rfl) (aF (AE b rfl) (aF (AE c rfl) (aF (AE f rfl) (aF (AE g rfl) aR)))))))) aR))))
   (bS (cQ 3 (lX ax (aF (dS (Kj (kK _ (YV _)) j he) rfl B.isinstance PU (aF (vv 4) (aF (AE d rfl) aR))) (aF (dS (Kj (kK _ (YV _)) j he) rfl B.isinstance PU (aF (vv 4) (aF (RW rfl B.ValueError aFE) aR))) (aF (vv 5) aR)))))))))
  (iC.v0 (bS (eE (GX (rE hr.units) (vv 3) (lX ax (aF oI (aF oI (aF oI aR)))) (gQ _)))))))
theorem ak3:dN ["_law_window", "_law_sizes_here", "_law_row", "_law_cell_here", "_law_most", "_law_some", "_law_last"] ["_law_window", "_law_sizes_here", "_law_row", "_law_cell_here"] (aZ Cn):=gT
theorem aDB(B:fL mg)(h:HasFn K mg "_law_refusals" Cn)(j:ac2 P w K mg base):ac1 P w K mg base :=
 cO.o h ak3 λhr=>(bL (cQ 4 (dS (ET rfl) rfl B.min boot_min (aF (cH (vv 1) aO cE) (aF (dS kQ rfl B.len PySem.boot_len (aF (vv 2) aR)) aR))))
  (bL (cQ 5 (lX a5 (aF aO (aF (aT jK (aT jK aO aO) (aT jL (vv 3) aO)) (aF (aT (dX ax) (vv 4) aO) (aF (aT (dX ax) (vv 4) (aT DM aO aO)) aR))))))
  (bL (jJ (jI (rE hr.units) (vv 2) (lX ax aR) (gQ _))
   (bS (tR (AF PySem.F.plainAttrs_list PySem.F.slot_list_append PySem.F.type_list_append DQ DS (vv 5) (aF GW aR))))
   kG)
  (bL (sE cF.passes rfl (qE (vv 5)) (hJ 6)
   (bS (jJ (VW.vt (wO (sD (qZ (fH cF j hr.m rfl (aF (vv 0) (aF (vv 6) (aF oI aR)))))) (CW (sD (qZ (fH cF j hr.m rfl (aF (vv 0) (aF (vv 6) (aF oI aR)))))))))
    (bS (eE oI))
    kG)))
  (bS (eE oI))))))
theorem ak6:dN ["_law_window", "_law_sizes_here", "_law_row", "_law_cell_here", "_law_most", "_law_number_here", "_law_last"] ["_law_window", "_law_sizes_here", "_law_row", "_law_cell_here"] (aZ Cq):=gT
theorem aDE(B:fL mg)(h:HasFn K mg "_law_end" Cq)(j:Lw P w K mg base)(q:ac1 P w K mg base)(z:ac4 P w K mg base):acZ P w K mg base :=
 cO.o h ak6 λhr=>(bL (jJ (sD (qZ (fH cF q hr.m rfl (aF (vv 0) (aF (vv 1) (aF (vv 2) (aF (vv 3) aR)))))))
   (bS (eE oI))
   kG)
  (bL (jJ (jI (rE hr.units) (vv 2) (lX ax aR) (gQ _))
   (bS (eE (GX (rE hr.units) (RX cF (fV.cons z hr.m fV.nil) (vv 0)) aO (gQ _))))
   kG)
  (bL (cQ 4 (dS (ET rfl) rfl B.min boot_min (aF (cH (vv 1) aO cE) (aF (dS kQ rfl B.len PySem.boot_len (aF (vv 2) aR)) aR))))
  (bL (sE cF.passes rfl (qE (af0 ax (afZ ax rfl rfl B.sorted rfl B.set (vv 2)) RU (LA aO) (LA aO))) (hJ 5)
   (bS (sE cF.passes rfl (qE (lX ax (aF GW (aF (vv 4) (aF (aT (dX ax) aO (aT jL (vv 3) (vv 4))) aR))))) (hJ 6)
    (bS (jJ (sD (qZ (fH cF j hr.m rfl (aF (vv 0) (aF (vv 1) (aF (vv 2) (aF (vv 5) (aF (vv 6) aR))))))))
     (bS (eE oI))
     kG)))))
  (bL (sE cF.passes rfl (afV rfl B.range (aF (aT (dX ax) aO (aT jL (vv 3) aO)) (aF (aT (dX ax) (vv 4) aO) (aF aO aR)))) (hJ 6)
   (bS (jJ (sD (qZ (fH cF j hr.m rfl (aF (vv 0) (aF (vv 1) (aF (vv 2) (aF (cH (vv 2) (aT jK (aT jK aO aO) (aT jL (vv 3) (dS kQ rfl B.len PySem.boot_len (aF (vv 2) aR)))) cE) (aF (vv 6) aR))))))))
    (bS (eE oI))
    kG)))
  (bS (eE oI)))))))
theorem Tf:dN ["_law_script", "_law_sort", "_law_sizes_here", "_law_windows", "_law_rows", "_law_k", "_law_cell_here", "_law_j", "_law_number_here", "_law_at", "_law_near", "_law_most", "_law_last"] ["_law_script"] (aZ wU):=gT
theorem aC0{f:az}{fd:c3}(B:fL mg)(F:wJ K "law" "law" wU f fd)(e:Lw P w K mg base)(j:YI P w K mg base)(N:acZ P w K mg base)(q:YJ P w K mg base)(U:Ty5 P w K mg base)(z:Ty7 P w K mg base)(a:ac5 P w K mg base)(b:ac6 P w K mg base)(c:JU P w K mg base "Window" 1 4 KP)(d:fT P w K mg base "Window" "put" 5 2 [] GD):jA P w K mg base (qV P w) 10 f fd ["_law_script"] (vB K 1 adZ):=by
 refine aaX F Tf (λ_ _ _ _ _ _ _ hr=>?_);exact(bL (cQ 1 (aT jL (fH cF j hr.m rfl (aF (vv 0) (aF aO aR))) aO))
  (bL (cQ 2 (lX ax (aF (fH cF z hr.m rfl (aF (fH cF j hr.m rfl (aF (vv 0) (aF aO aR))) aR)) (aF (fH cF z hr.m rfl (aF (fH cF j hr.m rfl (aF (vv 0) (aF aO aR))) aR)) aR))))
  (bL (afN (i:=3) ax ["_law_one"] [] Tf.nd rfl oIr rfl (lcO (aZ wU) ["_law_script", "_law_sort", "_law_sizes_here", "_law_windows", "_law_rows", "_law_k", "_law_cell_here", "_law_j", "_law_number_here", "_law_at", "_law_near", "_law_most", "_law_last"]) (qE (vv 2)) (λcl C s H g=>⟨(hJ 0),yJ,(af3 c hr.m rfl (aF (cH (vv 0) aO cE) (aF (cH (vv 0) aO cE) (aF (cH (vv 0) aO cE) aR))))⟩))
  (bL (cQ 4 (lX ax (aF (lX a5 aR) (aF (lX a5 aR) aR))))
  (bL (sE cF.passes rfl (RV rfl B.range (aF (fH cF b hr.m rfl (aF (vv 0) (aF aO (aF aO aR)))) aR)) (hJ 5)
   (bL (cQ 6 (fH cF a hr.m rfl (aF (vv 0) (aF aO (aF (vv 5) aR)))))
   (bL (sE cF.passes rfl (RV rfl B.range (aF (aT (dX ax) aO (aT jL (vv 6) aO)) aR)) (hJ 7)
    (bL (cQ 8 (fH cF U hr.m rfl (aF (fH cF q hr.m rfl (aF (vv 6) (aF (aT (dX ax) aO (vv 7)) aR))) (aF (vv 1) aR))))
    (bS (sE cF.passes rfl (RV rfl B.range (aF (aT (dX ax) aO (aT jL (dS kQ rfl B.len PySem.boot_len (aF (cH (vv 4) aO cE) aR)) aO)) aR)) (hJ 9)
     (bL (tR (AF PySem.F.plainAttrs_list PySem.F.slot_list_append PySem.F.type_list_append DQ DS (cH (vv 4) (vv 9) cE) (aF (vv 8) aR)))
     (bS (tR (wQ cF (fV.cons d hr.m fV.nil) (cH (vv 3) (vv 9) cE) (aF (vv 8) aR)))))))))
   (bL (cQ 10 (aT (dX ax) (cH (cH (vv 4) aO cE) (aT jL (aT pH (vv 6) aO) (dS kQ rfl B.len PySem.boot_len (aF (cH (vv 4) aO cE) aR))) cE) (aT sO (cH (lX ax (aF aO (aF aO (aF (aT jK aO aO) aR)))) (aT jL (aT pH (vv 6) aO) aO) cE) (agF aE3 rfl B.int PyProof.Rows.boot_int (aF (GX DN (vv 1) aO (gQ _)) aR)))))
   (bL (cQ 11 (dS (ET rfl) rfl B.min boot_min (aF (cH (cH (vv 2) aO cE) aO cE) (aF (dS kQ rfl B.len PySem.boot_len (aF (cH (vv 4) aO cE) aR)) aR))))
   (bL (cQ 12 (cH (lX ax (aF GW (aF (vv 11) (aF (aT (dX a5) aO (aT jL (fH cF q hr.m rfl (aF (vv 6) (aF aO aR))) (vv 11))) aR)))) (aT jL (aT pH (vv 6) aO) aO) cE))
   (bS (jJ (VW.vt (afI (jI (rE hr.units) (aT jL (vv 5) aO) aO (gQ _)) (afH (sD (qZ (fH cF e hr.m rfl (aF (cH (vv 3) aO cE) (aF (cH (vv 2) aO cE) (aF (cH (vv 4) aO cE) (aF (vv 10) (aF (vv 12) aR)))))))))))
    (bS (eE oI))
    kG))))))))
  (bL (sE cF.passes rfl (RV rfl B.range (aF aO aR)) (hJ 9)
   (bS (jJ (sD (qZ (fH cF N hr.m rfl (aF (cH (vv 3) (vv 9) cE) (aF (cH (vv 2) (vv 9) cE) (aF (cH (vv 4) (vv 9) cE) (aF (fH cF j hr.m rfl (aF (vv 0) (aF aO aR))) aR)))))))
    (bS (eE oI))
    kG)))
  (bS (eE oI))))))))
end
theorem all_mk{l:OpenLaw}{w:bw}{K:bj}{h:bz}{mg:ba->aw av}{fa fl:az}{od an:aw az}{sl:a8 (aw av)}{oc kV dc pm cd ct:av}(X:K.In h)(G:h.Ns a7 mg)(hfa:mg "law" = ao (.ref fa))
  (al:cx K a7 "law" = ao (ao (.ref fl))) (ll:K.lookup fl=ao ⟨oc,od,.func (e9 "law" "law" (jO wU) (eL wU) (aZ wU) .none kV dc pm an cd ct),sl⟩) (lc:codeIn K cd "law" = a5) (lk:keepIn K (.ref fl)=a5)
  {R S o:az} {aqC aqA aGJ:aw az} {ajY ajU:a8 (aw av)} {Ad:a8 av} {aqE atD aCO anP aDU:av} (Lr:cx K a7 "upto" = ao (ao (.ref R))) (Wm:K.lookup R=ao ⟨aqE,aqA,.func (e9 "upto" "upto" (jO AM) (eL AM) (aZ AM) .none atD aCO anP aGJ (.ref S) aDU),ajU⟩) (aD8:codeIn K (.ref S) "upto" = a5) (asZ:keepIn K (.ref R)=a5)
  (B:fL mg)
  (ayV:HasFn K mg "near_enough" Cb)
  (ayW:HasFn K mg "look_row" Cc)
  (ayT:HasFn K mg "packed" Bz)
  (ayS:HasFn K mg "places_of" By)
  (ayU:HasFn K mg "of_row" Ca)
  (ayY:HasFn K mg "bounds_ahead" Ce)
  (ayP:HasFn K mg "thinned" Bv)
  (ayX:HasFn K mg "kept_entries" Cd)
  (ayQ:HasFn K mg "summed" Bw)
  (Ig:HasFn K mg "first_where" HJ)
  (ayR:HasFn K mg "pouch_of" Bx)
  (ayZ:HasFn K mg "beyond" Cf)
  (ay7:HasFn K mg "_law_mix" Cp)
  (ay9:HasFn K mg "_law_cell" Cr)
  (ay6:HasFn K mg "_law_number" Co)
  (ay1:HasFn K mg "_law_steps" Ci)
  (ay2:HasFn K mg "_law_step" Cj)
  (ay0:HasFn K mg "_law_whole" Cg)
  (ay3:HasFn K mg "_law_sizes" Ck)
  (azA:HasFn K mg "_law_asked" Cs)
  (ay4:HasFn K mg "_law_refused" Cm)
  (ay5:HasFn K mg "_law_refusals" Cn)
  (ay8:HasFn K mg "_law_end" Cq)
  (Ih:∃t,mg "LONGEST" = ao (.int 1000000000 t))
  {k:az} (D:cx K a7 "RankError" = ao (ao (.ref k)))
  {aq7 amG aG6 aE6 aFI axY ajM aiO aGR aD0 aCH auN auD at3 atR atG} (aqK:K.lookup k=ao (di aq7 amG k aG6 aE6 aFI axY ajM aiO aGR aD0 aCH auN auD at3 atR atG "ValueError.__new__"))
  (aAL:cg K (.ref k) "__getattribute__" = ao (ao (.builtin "BaseException.__getattribute__"))) (az5:cg K (.ref k) "__getattr__" = ao au) (aED:cg K (.ref k) "__class__" = ao (ao (.builtin "object.__class__"))) (aFU:cu K (.ref k) (.type "BaseException")=ao a5) (apX:cu K (.ref k) (.type "object")=ao a5)
  {q:az} (b:cx K a7 "NoRow" = ao (ao (.ref q)))
  {arB amK aHA aFA aFM ax2 ajQ ai1 aGV aD4 aCL auR auH at7 atX atM} (aqO:K.lookup q=ao (di arB amK q aHA aFA aFM ax2 ajQ ai1 aGV aD4 aCL auR auH at7 atX atM "ValueError.__new__"))
  (aAP:cg K (.ref q) "__getattribute__" = ao (ao (.builtin "BaseException.__getattribute__"))) (az9:cg K (.ref q) "__getattr__" = ao au) (aEH:cg K (.ref q) "__class__" = ao (ao (.builtin "object.__class__"))) (aFY:cu K (.ref q) (.type "BaseException")=ao a5) (ap1:cu K (.ref q) (.type "object")=ao a5)
  {j:az} (a:cx K a7 "NoPlace" = ao (ao (.ref j)))
  {arD amM aHC aFC aFO ax4 ajS ajC aGX aD6 aCN auT auJ at9 atZ atO} (aqQ:K.lookup j=ao (di arD amM j aHC aFC aFO ax4 ajS ajC aGX aD6 aCN auT auJ at9 atZ atO "ValueError.__new__"))
  (aAR:cg K (.ref j) "__getattribute__" = ao (ao (.builtin "BaseException.__getattribute__"))) (aAB:cg K (.ref j) "__getattr__" = ao au) (aEJ:cg K (.ref j) "__class__" = ao (ao (.builtin "object.__class__"))) (aF0:cu K (.ref j) (.type "BaseException")=ao a5) (ap3:cu K (.ref j) (.type "object")=ao a5)
  {d:az} (u:cx K a7 "NoPouch" = ao (ao (.ref d)))
  {arC amL aHB aFB aFN ax3 ajR ai2 aGW aD5 aCM auS auI at8 atY atN} (aqP:K.lookup d=ao (di arC amL d aHB aFB aFN ax3 ajR ai2 aGW aD5 aCM auS auI at8 atY atN "ValueError.__new__"))
  (aAQ:cg K (.ref d) "__getattribute__" = ao (ao (.builtin "BaseException.__getattribute__"))) (aAA:cg K (.ref d) "__getattr__" = ao au) (aEI:cg K (.ref d) "__class__" = ao (ao (.builtin "object.__class__"))) (aFZ:cu K (.ref d) (.type "BaseException")=ao a5) (ap2:cu K (.ref d) (.type "object")=ao a5)
  {f:az} (x:cx K a7 "NoSize" = ao (ao (.ref f)))
  {arA amJ aG9 aE9 aFL ax1 ajP aiR aGU aD3 aCK auQ auG at6 atW atL} (aqN:K.lookup f=ao (di arA amJ f aG9 aE9 aFL ax1 ajP aiR aGU aD3 aCK auQ auG at6 atW atL "ValueError.__new__"))
  (aAO:cg K (.ref f) "__getattribute__" = ao (ao (.builtin "BaseException.__getattribute__"))) (az8:cg K (.ref f) "__getattr__" = ao au) (aEG:cg K (.ref f) "__class__" = ao (ao (.builtin "object.__class__"))) (aFX:cu K (.ref f) (.type "BaseException")=ao a5) (ap0:cu K (.ref f) (.type "object")=ao a5)
  {n:az} (F:cx K a7 "Wrong" = ao (ao (.ref n)))
  {aq5 al8 aG4 aE4 aFG axW ajK aiM aGP aDY aCF auL auB at0 atP atE} (aqI:K.lookup n=ao (di aq5 al8 n aG4 aE4 aFG axW ajK aiM aGP aDY aCF auL auB at0 atP atE "ValueError.__new__"))
  (aAJ:cg K (.ref n) "__getattribute__" = ao (ao (.builtin "BaseException.__getattribute__"))) (az3:cg K (.ref n) "__getattr__" = ao au) (aEB:cg K (.ref n) "__class__" = ao (ao (.builtin "object.__class__"))) (aFS:cu K (.ref n) (.type "BaseException")=ao a5) (apV:cu K (.ref n) (.type "object")=ao a5)
  {i:az} (C:cx K a7 "NoTimes" = ao (ao (.ref i)))
  {aq8 amH aG7 aE7 aFJ axZ ajN aiP aGS aD1 aCI auO auE at4 atU atH} (aqL:K.lookup i=ao (di aq8 amH i aG7 aE7 aFJ axZ ajN aiP aGS aD1 aCI auO auE at4 atU atH "ValueError.__new__"))
  (aAM:cg K (.ref i) "__getattribute__" = ao (ao (.builtin "BaseException.__getattribute__"))) (az6:cg K (.ref i) "__getattr__" = ao au) (aEE:cg K (.ref i) "__class__" = ao (ao (.builtin "object.__class__"))) (aFV:cu K (.ref i) (.type "BaseException")=ao a5) (apY:cu K (.ref i) (.type "object")=ao a5)
  {m:az} (E:cx K a7 "Unlike" = ao (ao (.ref m)))
  {aq6 amF aG5 aE5 aFH axX ajL aiN aGQ aDZ aCG auM auC at1 atQ atF} (aqJ:K.lookup m=ao (di aq6 amF m aG5 aE5 aFH axX ajL aiN aGQ aDZ aCG auM auC at1 atQ atF "ValueError.__new__"))
  (aAK:cg K (.ref m) "__getattribute__" = ao (ao (.builtin "BaseException.__getattribute__"))) (az4:cg K (.ref m) "__getattr__" = ao au) (aEC:cg K (.ref m) "__class__" = ao (ao (.builtin "object.__class__"))) (aFT:cu K (.ref m) (.type "BaseException")=ao a5) (apW:cu K (.ref m) (.type "object")=ao a5)
  {g:az} (A:cx K a7 "NoText" = ao (ao (.ref g)))
  {aq9 amI aG8 aE8 aFK ax0 ajO aiQ aGT aD2 aCJ auP auF at5 atV atJ} (aqM:K.lookup g=ao (di aq9 amI g aG8 aE8 aFK ax0 ajO aiQ aGT aD2 aCJ auP auF at5 atV atJ "ValueError.__new__"))
  (aAN:cg K (.ref g) "__getattribute__" = ao (ao (.builtin "BaseException.__getattribute__"))) (az7:cg K (.ref g) "__getattr__" = ao au) (aEF:cg K (.ref g) "__class__" = ao (ao (.builtin "object.__class__"))) (aFW:cu K (.ref g) (.type "BaseException")=ao a5) (apZ:cu K (.ref g) (.type "object")=ao a5)
  (agG:cu K (.ref q) (.type "ValueError")=ao a5)
  (aiU:cu K (.ref q) (.ref k)=ao a5)
  (aiY:cu K (.ref q) (.ref q)=ao a5)
  (ai0:cu K (.ref q) (.ref j)=ao ax)
  (aiZ:cu K (.ref q) (.ref d)=ao ax)
  (aiX:cu K (.ref q) (.ref f)=ao ax)
  (aiS:cu K (.ref q) (.ref n)=ao ax)
  (aiV:cu K (.ref q) (.ref i)=ao ax)
  (aiT:cu K (.ref q) (.ref m)=ao ax)
  (aiW:cu K (.ref q) (.ref g)=ao ax)
  (agH:cu K (.ref j) (.type "ValueError")=ao a5)
  (ai5:cu K (.ref j) (.ref k)=ao a5)
  (ai9:cu K (.ref j) (.ref q)=ao ax)
  (ajB:cu K (.ref j) (.ref j)=ao a5)
  (ajA:cu K (.ref j) (.ref d)=ao ax)
  (ai8:cu K (.ref j) (.ref f)=ao ax)
  (ai3:cu K (.ref j) (.ref n)=ao ax)
  (ai6:cu K (.ref j) (.ref i)=ao ax)
  (ai4:cu K (.ref j) (.ref m)=ao ax)
  (ai7:cu K (.ref j) (.ref g)=ao ax)
  (Md:YN K mg "NoPlace")
  {z:az} (N:cx K a7 "Window" = ao (ao (.ref z))) (U:pA K z)
  (arU:cg K (.ref z) "block" = ao au)
  (arT:cg K (.ref z) "full" = ao au)
  (arS:cg K (.ref z) "keep" = ao au)
  (arR:cg K (.ref z) "many" = ao au)
  (arQ:cg K (.ref z) "newest" = ao au)
  (arP:cg K (.ref z) "reach" = ao au)
  (amE:ZD K z "Window.__init__" HK)
  (al9:BU K z "put" "Window.put" Ct)
  (amD:BU K z "drop_oldest" "Window.drop_oldest" Cy)
  (Ud:QR K z "upto" "Window.upto" DC #[.none])
  (Ue:QR K z "off" "Window.off" DD #[.none])
  (amC:BU K z "held" "Window.held" Cw)
  (amB:BU K z "look_last" "Window.look_last" Cv)
  (amA:BU K z "parts" "Window.parts" Cu)
  (aGK:cx K a7 "upto_asks" = ao (ao (.ref R)))
  {ts:aq az}
  (asK:K.lookup S=ao ⟨.type "code",aqC,.fields Ad,ajY⟩)
  (Xr:Ad[11]?=ao (.ref o)) (Za:Zi Ad S o=a5)
  (hsub:o∈ts) (hnd:[o].Nodup) (hall:∀P∈ts,P=o)
  : ∃fd:c3,(∀(s:ay) (v:av),BindsTo s fd ⟨[v],[]⟩ [("_law_script",v)])/\(∀P∈ts,∃c,codeHdIn K c P=a5)/\∀base:bz,K.In base->base.Ns a7 mg->yF base mg->jA l.prog w K mg base yE 10 fa fd ["_law_script"] (TB K ts):=by
 have e:=hfa.symm.trans (mg_of X G al);cases e;have Ov:XC K k:=⟨⟨_,_,_,_,_,_,_,_,_,_,_,_,_,_,_,_,aqK⟩,aAL,az5,aED,aFU,apX⟩;have Od:mK K mg "RankError":=⟨k,Ov,mg_of X G D,D⟩;have Oz:XC K q:=⟨⟨_,_,_,_,_,_,_,_,_,_,_,_,_,_,_,_,aqO⟩,aAP,az9,aEH,aFY,ap1⟩;have Oh:mK K mg "NoRow":=⟨q,Oz,mg_of X G b,b⟩;have Pb:XC K j:=⟨⟨_,_,_,_,_,_,_,_,_,_,_,_,_,_,_,_,aqQ⟩,aAR,aAB,aEJ,aF0,ap3⟩;have Oj:mK K mg "NoPlace":=⟨j,Pb,mg_of X G a,a⟩;have Pa:XC K d:=⟨⟨_,_,_,_,_,_,_,_,_,_,_,_,_,_,_,_,aqP⟩,aAQ,aAA,aEI,aFZ,ap2⟩;have Oi:mK K mg "NoPouch":=⟨d,Pa,mg_of X G u,u⟩;have Oy:XC K f:=⟨⟨_,_,_,_,_,_,_,_,_,_,_,_,_,_,_,_,aqN⟩,aAO,az8,aEG,aFX,ap0⟩;have Og:mK K mg "NoSize":=⟨f,Oy,mg_of X G x,x⟩;have Ot:XC K n:=⟨⟨_,_,_,_,_,_,_,_,_,_,_,_,_,_,_,_,aqI⟩,aAJ,az3,aEB,aFS,apV⟩;have Ob:mK K mg "Wrong":=⟨n,Ot,mg_of X G F,F⟩;have Ow:XC K i:=⟨⟨_,_,_,_,_,_,_,_,_,_,_,_,_,_,_,_,aqL⟩,aAM,az6,aEE,aFV,apY⟩;have Oe:mK K mg "NoTimes":=⟨i,Ow,mg_of X G C,C⟩;have Ou:XC K m:=⟨⟨_,_,_,_,_,_,_,_,_,_,_,_,_,_,_,_,aqJ⟩,aAK,az4,aEC,aFT,apW⟩;have Oc:mK K mg "Unlike":=⟨m,Ou,mg_of X G E,E⟩;have Ox:XC K g:=⟨⟨_,_,_,_,_,_,_,_,_,_,_,_,_,_,_,_,aqM⟩,aAN,az7,aEF,aFW,apZ⟩;have Of:mK K mg "NoText":=⟨g,Ox,mg_of X G A,A⟩;have JR:zN K ["NoRow", "NoPlace"] ["RankError", "NoRow", "NoPlace", "NoPouch", "NoSize", "Wrong", "NoTimes", "Unlike", "NoText"]:=⟨(iB (vH D Ov) (iB (vH b Oz) (iB (vH a Pb) (iB (vH u Pa) (iB (vH x Oy) (iB (vH F Ot) (iB (vH C Ow) (iB (vH E Ou) (iB (vH A Ox) OT))))))))),(iB (iB (nQ b D aiU) (iB (nQ b b aiY) (iB (nQ b a ai0) (iB (nQ b u aiZ) (iB (nQ b x aiX) (iB (nQ b F aiS) (iB (nQ b C aiV) (iB (nQ b E aiT) (iB (nQ b A aiW) OT))))))))) (iB (iB (nQ a D ai5) (iB (nQ a b ai9) (iB (nQ a a ajB) (iB (nQ a u ajA) (iB (nQ a x ai8) (iB (nQ a F ai3) (iB (nQ a C ai6) (iB (nQ a E ai4) (iB (nQ a A ai7) OT))))))))) OT)),(iB (vH b agG) (iB (vH a agH) OT)),by decide⟩;have H:fJ K ["Window"] "block":=JF N U arU (JE);have p:fJ K ["Window"] "full":=JF N U arT (JE);have CO:fJ K ["Window"] "keep":=JF N U arS (JE);have W:fJ K ["Window"] "many":=JF N U arR (JE);have r:fJ K ["Window"] "newest":=JF N U arQ (JE);have V:fJ K ["Window"] "reach":=JF N U arP (JE);have FL:=WO (st:=wU) ll lc lk;have ayO:HasFn K mg "upto" AM:=kH X G Lr Wm aD8 asZ;obtain⟨Rm,Rk⟩:=ahN (st:=AM) Lr Wm asK Xr Za;refine⟨e9 "law" "law" (jO wU) (eL wU) (aZ wU) .none kV dc pm an cd ct,λs v => .of_eq rfl,?_,λbase KB GB BB=>?_⟩
 ·intro P hP
  rcases hall P hP with e
  ·rw[e];exact⟨_,Rk⟩
 have YL:Lz K mg base "upto":=⟨KB,GB,BB,_,_,Rm,Rk⟩;have Nn:=@aCY l.prog w K mg base B ayV;have Np:=@aCZ l.prog w K mg base B ayW Ih;have Nl:=@aCW l.prog w K mg base B ayT;have Nr:=@aC4 l.prog w K mg base B ayY;have CL:=@aCS l.prog w K mg base B ayQ;have I:=@aC5 l.prog w K mg base B ayZ;have T:=@aDD l.prog w K mg base B ay7;have Nw:=@aDC l.prog w K mg base B ay6;have KS:=@aC6 l.prog w K mg base B ay0;have ZN:=@aC9 l.prog w K mg base B ay3;have Mw:=@aCB l.prog w K mg base B H p CO W r V _ (amE.has X G N);have Mm:=@aDN l.prog w K mg base B H p r V _ (amD.has X G N U);have JY:=@aDM l.prog w K mg base B p r _ (amC.has X G N U);have L:=@aDL l.prog w K mg base B W V Md _ (amB.has X G N U);have Nk:=@aCV l.prog w K mg base B ayS Nl;have Nq:=@aC1 l.prog w K mg base B ayX Nn;have uW:=@aDF l.prog w K mg base B ay9 T;have Nm:=@aCX l.prog w K mg base B ayU Np Nk;have Nj:=@aCR l.prog w K mg base B ayP Nq;have aH7:=@aCQ l.prog w K mg base B ayO Nr Ig YL;have CK:=aH7.alias (y := "upto_asks") ((mg_of X G aGK).trans (mg_of X G Lr).symm);have Nt:=@aC7 l.prog w K mg base B ay1 uW;have Nu:=@aC8 l.prog w K mg base B ay2 uW T;have KR:=@aCU l.prog w K mg base B ayR Nm;have Ml:=@aDI l.prog w K mg base B KR Nj H p CO W r Mm _ (al9.has X G N U);have Q:=@aDJ l.prog w K mg base B KR H p r _ (amA.has X G N U);have JW:=@aDH l.prog w K mg base B I CL CK L Q _ (Ud.has X G N U);have Mg:=@aB7 l.prog w K mg base B I CL CK L Q _ (Ud.has X G N U);have JX:=@aDK l.prog w K mg base B I L Q _ (Ue.has X G N U);have Mh:=@aB8 l.prog w K mg base B I L Q _ (Ue.has X G N U);have GG:=@aDG l.prog w K mg base B azA KS JY JX JW Mh Mg;have ZO:=@aDA l.prog w K mg base B ay4 Oj Oi Oh Og Of Oe Od Oc Ob JX JW JR;have Nv:=@aDB l.prog w K mg base B ay5 ZO;have Nx:=@aDE l.prog w K mg base B ay8 GG Nv JY;exact asP [(o, "upto",⟨86,53,86,84⟩,UK "upto")] hnd (by simp only[dY,wG,vG,forall_eq_or_imp,forall_eq];exact hsub) (by simp only[dY,wG,vG,forall_eq_or_imp,forall_eq];exact⟨_,Rm⟩) (aC0 B FL GG uW Nx T Nw ZN Nu Nt Mw Ml) M.asR
theorem walk{l:OpenLaw}{q:bh}{loose:aq ba}{XP:(ba->aw av)->bz->Prop}{YP:bw->bz->Prop}{d:DefRec}{K:Params->bj}{ts:aq az}(hn:l.most=ao 63)(U:d.params.defaults=[])
  (j:∀(w:bw) (h:bz),YP w h->(K w.params).In h/\∀P∈ts,h.get? P=ao (tabObj #[])) (B:∀w:bw,noTabs (K w.params)=a5)
  (F:∀(w:bw) (mg:ba->aw av) (fa:az) (h:bz),(K w.params).In h->h.Ns a7 mg->mg d.name=ao (.ref fa) ->
   ∃fd:c3,(∀(s:ay) (u:av),BindsTo s fd ⟨[u],[]⟩ [("_law_script",u)])/\(∀P∈ts,∃c,codeHdIn (K w.params) c P=a5)/\∀base:bz,(K w.params).In base->base.Ns a7 mg->yF base mg->jA l.prog w (K w.params) mg base yE 10 fa fd ["_law_script"] (TB (K w.params) ts)) :
  PySem.W.WalkO q loose XP YP l.row.toRowW d [] (λf vs=>PySem.call f vs) :=
 L2.afF (n:=63) (k:=10) (x := "_law_script") (CX:=λ_=>yE) (sp:=λw=>TB (K w.params) ts) hn (by decide) U ⟨rfl,by decide,by decide⟩ j B F (λ_ _ a ns hl _ N hS=>⟨a,ns,rfl,hS,hl,N,λ_=>rfl⟩) λ_ _ _ _ _ z=>z
end Mx
open PySem PySem.W PyProof.Rows
namespace HD
open PySem PySem.W PyProof.Rows
noncomputable def TK(B:c4->aw Builtin)(p:bh)(w:bw)(lo:a6)(j:aw av):a6->SharedT->Thread->aw SharedT
 |0,_,_=>au
 |m+1,x,th=>bif through th then ao x else bif stepOk lo j th then(stepT (denote B) p w x th).bind (λy=>TK B p w lo j m y.1 y.2)else au
theorem alP{B:c4->aw Builtin}{p:bh}{w:bw}{lo:a6}{j:aw av}(m:a6) :
  ∀(x y:SharedT) (th:Thread),TK B p w lo j m x th=ao y->topRun B p w lo j m x.abs th=ao y.abs:=by
 induction m with
 |zero=>intro x y th z;cases z
 |succ m ih =>
  intro x y th z;unfold TK at z;unfold topRun;cases a:through th <;> rw[a]at z
  ·cases b:stepOk lo j th <;> rw[b]at z
   ·cases z
   ·obtain⟨u,N,q⟩:=QP.mp (show(stepT (denote B) p w x th).bind _=ao y from z);dsimp only;rw[stepT_spec (s':=u.1) (t':=u.2) N];exact ih _ _ _ q
  ·cases z;rfl
noncomputable def grow:aq c6->BT->a6->BT
 |[],T,_=>T
 |o::l,T,n=>grow l (T.ins n o) (n+1)
noncomputable def boot(w:bw)(os:OsState):SharedT:=⟨grow (ew w.params).objs.toList .nil 0,11,(ew w.params).life,#[],boot_drawn,boot_toks,os⟩
noncomputable def ends(p:bh)(N:a6)(w:bw)(os:OsState):aw SharedT:=TK treeTable p w 11 (ao (.ref 6)) N (boot w os) (topStub p)
theorem aFD(w:bw):((ew w.params).isNs a7&&(#[]:a8 GenState).size==0,(ew w.params).objs.size,(ew w.params).nsMap a7 "__annotations__")=(a5,11,ao (Value.ref 6)):=by kernel_rfl
theorem boot_abs(w:bw)(os:OsState):(boot w os).abs=⟨ew w.params,#[],boot_drawn,boot_toks,os⟩:=by kernel_rfl
noncomputable def fits(p:bh)(h:bz)(y:SharedT):br:=staticsOk (importedModules p.main.body) h y.abs.heap&&namesBound p y.abs.heap&&gensDone y.abs&&laidKept h y.abs.heap
theorem left{p q:bh}{loose:aq ba}{Xt:ay->br}{α:Type}{Yf:ay->α}{Ya:bw->α}{N:a6}{U:br}
  (plain:opening p=plainProg p.main.scope.names) (e:Nat.ble 600 N=a5) (fence:∀s,fenceModules? p s=ao s)
  (tests:∀(w:bw) (os:OsState),(ends p N w os).map (fits p (ew w.params))=ao a5)
  (Ey:∀(w:bw) (os:OsState),(ends p N w os).map (λy=>openSeen q loose (importedModules p.main.body) Xt U y.abs)=ao (openGood q loose))
  (hook:∀(w:bw) (os:OsState),(ends p N w os).map (λy=>Yf y.abs)=ao (Ya w)) :
  LeftO p q loose Xt Yf Ya N U:=by
 intro w;obtain⟨⟨g,h,dr,tk,os⟩,d,B⟩:=BQ.mp (boot_open plain e fence w);simp only[QL]at B;obtain⟨rfl,rfl,rfl,rfl⟩:=B;have bs:=aFD w;simp only[QL]at bs;obtain⟨y,z,f⟩:=BQ.mp (tests w os);have b:=Ey w os;have a:=hook w os;rw[z]at b a;have j:=alP _ _ _ _ z;rw[boot_abs]at j;have c:topFrom treeTable p w N ⟨ew w.params,#[],boot_drawn,boot_toks,os⟩=ao y.abs:=by
  unfold topFrom;dsimp only;rw[bs.1,bs.2.1,bs.2.2,j];show(match fits p (ew w.params) y with|true=>ao y.abs|false=>au)=ao y.abs;rw[f]
 show((fencedOpening treeTable p w N).bind (topFrom treeTable p w N)).map _=_;rw[d,Option.bind_some,c,QO,kS,QL];exact⟨kJ b,kJ a⟩
set_option maxRecDepth 100000
set_option compiler.extract_closed false
set_option genSizeOf false
set_option bootstrap.genMatcherCode false
set_option maxHeartbeats 0
noncomputable def atB(ds:aq a6)(l:aq b8):aq b8:=@List.rec b8 (λ_=>a6->aq b8) (λ_=>[]) (λs _ f i=>@Bool.rec (λ_=>aq b8) (s::f (Nat.succ i)) (f (Nat.succ i)) (ds.any (Nat.beq i))) l 0
noncomputable def kept:bh:={PySem.Challenge.pw_rankpouch_k71_window_counts with main:={PySem.Challenge.pw_rankpouch_k71_window_counts.main with body:=atB [1,11,13,18,23,28,32] PySem.Challenge.pw_rankpouch_k71_window_counts.main.body} }
noncomputable def seenX(s:ay):br:=xlAt kept [] s&&recOk (RowW.records (OpenRow.toRowW (OpenLaw.row PySem.Challenge.rw_rankpouch_k71_window_counts))) s
theorem said:OpenLaw.wellSaid PySem.Challenge.rw_rankpouch_k71_window_counts=a5:=by kernel_rfl
theorem plain:opening PySem.Challenge.pw_rankpouch_k71_window_counts=plainProg PySem.Challenge.pw_rankpouch_k71_window_counts.main.scope.names:=by kernel_rfl
theorem fence(s:ay):fenceModules? PySem.Challenge.pw_rankpouch_k71_window_counts s=ao s:=by kernel_rfl
theorem tests(w:bw)(os:OsState):(ends PySem.Challenge.pw_rankpouch_k71_window_counts 6880 w os).map (fits PySem.Challenge.pw_rankpouch_k71_window_counts (ew w.params))=ao a5:=by kernel_rfl
theorem Ey(w:bw)(os:OsState):(ends PySem.Challenge.pw_rankpouch_k71_window_counts 6880 w os).map (λy=>openSeen kept [Str.ofString "upto_asks"] (importedModules PySem.Challenge.pw_rankpouch_k71_window_counts.main.body) seenX a5 y.abs)=ao (openGood kept [Str.ofString "upto_asks"]):=by kernel_rfl
end HD
open PySem PySem.W PyProof.Rows
local macro_rules
 | `(tactic| o_head $H) => `(tactic| refine holds_open (q := HD.kept) (loose := [Str.ofString "upto_asks"]) (N := 6880) (Xt := HD.seenX)
   (XP := XL HD.kept []) (Yf := Hook.obs $H) (Ya := Hook.val $H) (YP := Hook.says $H)
   ?_ (Hook.of $H) (Hook.keeps $H) (fun s e => xl_of s (Bool.and_eq_true_iff.mp e).1) XL.keeps
   (by rfl) (by rfl) (by rfl) (fun s e => recFacts_of (Bool.and_eq_true_iff.mp e).2)
   (by rfl) (by assumption) (by decide +kernel) ⟨rfl, rfl, rfl, rfl, rfl, by decide +kernel⟩ ?_ ?_)
set_option maxRecDepth 100000 in
set_option maxHeartbeats 0 in
theorem PySem.Challenge.cw_rankpouch_k71_window_counts_holds : PySem.Challenge.rw_rankpouch_k71_window_counts.Holds := by
 w_on
 refine holds_law HD.said λsaid=>?_
 k_head
 ·clear said
  refine HD.left HD.plain (by kernel_rfl) HD.fence HD.tests HD.Ey ?_
  intro w os
  kernel_rfl
 ·clear said
  w_witness2
 clear said
 k_fill
 refine Mx.walk (l:=PySem.Challenge.rw_rankpouch_k71_window_counts) rfl rfl (λw h ρ=>⟨PySem.W.km_in_of ρ,PySem.W.km_tabs_of ρ⟩) (λw=>by kernel_rfl) ?F
 case F =>
  intro w mg fa h KX G NM
  refine' Mx.all_mk KX G NM ?_ ?_ ?_ ?_ ?_ ?_ ?_ ?_ ⟨tZ KX G ?_,tZ KX G ?_,tZ KX G ?_,tZ KX G ?_,tZ KX G ?_,tZ KX G ?_,tZ KX G ?_,tZ KX G ?_,tZ KX G ?_,tZ KX G ?_,tZ KX G ?_,tZ KX G ?_,tZ KX G ?_⟩ (L2.kH KX G ?_ ?_ ?_ ?_) (L2.kH KX G ?_ ?_ ?_ ?_) (L2.kH KX G ?_ ?_ ?_ ?_) (L2.kH KX G ?_ ?_ ?_ ?_) (L2.kH KX G ?_ ?_ ?_ ?_) (L2.kH KX G ?_ ?_ ?_ ?_) (L2.kH KX G ?_ ?_ ?_ ?_) (L2.kH KX G ?_ ?_ ?_ ?_) (L2.kH KX G ?_ ?_ ?_ ?_) (L2.kH KX G ?_ ?_ ?_ ?_) (L2.kH KX G ?_ ?_ ?_ ?_) (L2.kH KX G ?_ ?_ ?_ ?_) (L2.kH KX G ?_ ?_ ?_ ?_) (L2.kH KX G ?_ ?_ ?_ ?_) (L2.kH KX G ?_ ?_ ?_ ?_) (L2.kH KX G ?_ ?_ ?_ ?_) (L2.kH KX G ?_ ?_ ?_ ?_) (L2.kH KX G ?_ ?_ ?_ ?_) (L2.kH KX G ?_ ?_ ?_ ?_) (L2.kH KX G ?_ ?_ ?_ ?_) (L2.kH KX G ?_ ?_ ?_ ?_) (L2.kH KX G ?_ ?_ ?_ ?_) (L2.kH KX G ?_ ?_ ?_ ?_) (V2.aDV KX G ?_) ?_ ?_ ?_ ?_ ?_ ?_ ?_ ?_ ?_ ?_ ?_ ?_ ?_ ?_ ?_ ?_ ?_ ?_ ?_ ?_ ?_ ?_ ?_ ?_ ?_ ?_ ?_ ?_ ?_ ?_ ?_ ?_ ?_ ?_ ?_ ?_ ?_ ?_ ?_ ?_ ?_ ?_ ?_ ?_ ?_ ?_ ?_ ?_ ?_ ?_ ?_ ?_ ?_ ?_ ?_ ?_ ?_ ?_ ?_ ?_ ?_ ?_ ?_ ?_ ?_ ?_ ?_ ?_ ?_ ?_ ?_ ?_ ?_ ?_ ?_ ?_ ?_ ?_ ?_ ?_ ?_ ?_ ?_ (V2.ao8 KX G ?_ ?_) ?_ ⟨?_,?_,?_,?_⟩ ?_ ?_ ?_ ?_ ?_ ?_ (V2.avI ?_ ?_ ?_ ?_ ?_ ?_ ?_) (V2.MP ?_ ?_ ?_ ?_ ?_) (V2.MP ?_ ?_ ?_ ?_ ?_) (V2.Vw ?_ ?_ ?_ ?_ ?_ ?_) (V2.Vw ?_ ?_ ?_ ?_ ?_ ?_) (V2.MP ?_ ?_ ?_ ?_ ?_) (V2.MP ?_ ?_ ?_ ?_ ?_) (V2.MP ?_ ?_ ?_ ?_ ?_) ?_ ?_ ?Xr ?Za ?hsub ?hnd ?hall <;> try first|exact(show(_)[_]?=ao (Value.ref _)from rfl)|k_is|kernel_rfl|k_exc
  (case hsub=>decide)
  (case hnd=>decide)
  (case hall=>intro P hP;first|simpa using hP|(simp at hP;omega)|(simp only[dY,wG,vG]at hP;rcases hP with e|e <;> simp[e];done)|(simp only[dY,wG,vG]at hP;rcases hP with e|e|e <;> simp[e]))
